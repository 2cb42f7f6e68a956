import PyProof.Rows.All
import PySem.Challenge.RW_staywalk_k71_what_is_no_row
import KE.KFromBytes
import KE.KIntText
import KE.KItemsList
import KE.KPairComp
import KE.KSortTup
import KE.KIsAll
import KE.KRevIter
import KE.KRevSl
import KE.LcSums
import KE.KDictOf
set_option Elab.async false
set_option linter.all false
set_option maxRecDepth 100000
set_option tactic.hygienic false
set_option compiler.extract_closed false
noncomputable section
local macro_rules (kind:=«term{_}»)|`({$x,*})=>`(⟨$x,*⟩)
local macro_rules|`(tactic|let $p:term:=$e)=>do
 let n:=Lean.Syntax.node .none
 let w:=λs=>n ``Lean.Parser.Tactic.rcasesPatLo #[n ``Lean.Parser.Tactic.rcasesPatMed #[Lean.mkNullNode #[s]],Lean.mkNullNode]
 let r←p.raw.rewriteBottomUpM (m:=Lean.MacroM) λs=>pure (if s.isIdent then w (n ``Lean.Parser.Tactic.rcasesPat.one #[s]) else if s.isOfKind ``Lean.Parser.Term.hole then w (n ``Lean.Parser.Tactic.rcasesPat.ignore #[s[0]]) else if s.isOfKind ``«term{_}» then w (n ``Lean.Parser.Tactic.rcasesPat.tuple s.getArgs) else if s.isOfKind Lean.choiceKind then (s.getArgs.find? (·.isOfKind ``Lean.Parser.Tactic.rcasesPatLo)).getD s else s)
 if r.isOfKind ``Lean.Parser.Tactic.rcasesPatLo then `(tactic|obtain $(⟨r[0]⟩):rcasesPatMed:=$e) else Lean.Macro.throwUnsupported
local macro_rules|`(!$n:num)=>`(nat_lit $n)
local macro_rules|`(tactic|lia)=>`(tactic|omega)
local macro_rules | `(()) => `(by lia)
local macro_rules | `((_)) => `(by decide)
local macro_rules | `(∅) => `(by decide+kernel)
local macro_rules | `({_}) => `(by rfl)
abbrev M:=@rfl
local macro_rules|`(tactic|ac_rfl)=>`(tactic|(first|exact .inl M|exact .inr M|assumption))
local macro_rules|`(tactic|subst_eqs)=>`(tactic|(intro _;rfl))
local macro_rules|`(tactic|and_intros)=>`(tactic|(first|exact Or.inl M|exact Or.inr (Or.inl M)|exact Or.inr<|Or.inr M))
set_option genSizeOf false
set_option maxHeartbeats 0
abbrev Q0:=@List.length_map
abbrev Q2:=@List.mem_of_getElem?
abbrev Q3:=@List.length_cons
abbrev Q4:=@List.mem_cons_of_mem
abbrev Q5:=@List.length_append
abbrev Q6:=@List.mem_cons_self
abbrev Q7:=@List.getElem?_eq_some_iff
abbrev Q8:=@Bool.false_ne_true
abbrev Q9:=@List.mem_singleton
abbrev Qa:=@List.mem_cons
abbrev Qb:=@List.getElem?_eq_getElem
abbrev Qc:=@Nat.le_refl
abbrev Qd:=@List.mem_append
abbrev Qe:=@List.not_mem_nil
abbrev Qf:=@List.map_append
abbrev Qg:=@List.size_toArray
abbrev Qh:=@Int.emod_lt_of_pos
abbrev Qi:=@Int.emod_nonneg
abbrev Qj:=@List.mem_append_right
abbrev Qk:=@PySem.F.plainAttrs_str
abbrev Ql:=@Nat.lt_of_lt_of_le
abbrev Qm:=@List.map_cons
abbrev Qn:=@List.mem_map
abbrev Qo:=@List.contains_cons
abbrev Qp:=@List.getElem?_map
abbrev Qq:=@List.length_take
abbrev Qr:=@List.getElem?_set
abbrev Qs:=@Nat.ne_of_lt
abbrev Qt:=@List.take_of_length_le
abbrev Qu:=@List.mem_append_left
abbrev Qv:=@Bool.and_eq_true
abbrev Qw:=@Nat.le_trans
abbrev Qx:=@List.all_eq_true
abbrev Qy:=@Nat.zero_le
abbrev Qz:=@List.length_nil
abbrev QA:=@List.length_drop
abbrev QB:=@List.length_pos_iff
abbrev QC:=@Int.eq_ofNat_of_zero_le
abbrev QD:=@PySem.F.plainAttrs_list
abbrev QE:=@List.length_set
abbrev QF:=@List.take_append_drop
abbrev QG:=@PySem.F.slot_str_join
abbrev QH:=@PySem.F.type_str_join
abbrev QI:=@PySem.W.kia_one
abbrev QJ:=@PySem.W.callWith_K
abbrev QK:=@PySem.W.mg_of
abbrev QL:=@Option.map_eq_some_iff
abbrev QM:=@Array.getElem?_eq_some_iff
abbrev QN:=@List.take_add_one
abbrev QO:=@List.getElem_of_mem
abbrev QP:=@Bool.or_true
abbrev QQ:=@List.nodup_cons
abbrev QR:=@List.length_replicate
abbrev QS:=@List.length_singleton
abbrev QT:=@List.length_filter_le
abbrev QU:=@List.pairwise_append
abbrev QV:=@List.append_assoc
abbrev QW:=@List.eq_of_mem_replicate
abbrev QX:=@PySem.F.slot_list_append
abbrev QY:=@PySem.F.type_list_append
abbrev QZ:=@Option.bind_some
abbrev Z0:=@List.getElem?_cons_succ
abbrev Z3:=@List.take_length
abbrev Z4:=@Bool.not_eq_true
abbrev Z5:=@List.eq_nil_of_length_eq_zero
abbrev Z6:=@List.filter_append
abbrev Z7:=@PySem.W.methodCall_KW
abbrev Z8:=@List.reverse_cons
abbrev Z9:=@Bool.and_false
abbrev Za:=@Nat.le_succ
abbrev Zb:=@List.getD_eq_getElem?_getD
abbrev Zc:=@List.nodup_nil
abbrev Zd:=@List.mem_of_mem_take
abbrev Ze:=@List.mem_of_mem_drop
abbrev Zf:=@List.length_dropLast
abbrev Zg:=@Nat.mul_le_mul_right
abbrev Zh:=@List.lookup_cons
abbrev Zi:=@List.flatten_append
abbrev Zj:=@Nat.lt_irrefl
abbrev Zk:=@List.map_take
abbrev Zl:=@List.find?_cons
abbrev Zm:=@Nat.eq_zero_or_pos
abbrev Zn:=@Nat.le_of_lt
abbrev Zo:=@Nat.le_of_eq
abbrev Zp:=@Option.isSome_map
abbrev Zq:=@List.flatten_cons
abbrev Zr:=@List.getElem_mem
abbrev Zs:=@List.any_cons
abbrev Zt:=@Bool.eq_iff_iff
abbrev Zu:=@List.map_congr_left
abbrev Zv:=@List.map_map
abbrev Zw:=@List.getElem?_append_right
abbrev Zx:=@Nat.lt_of_le_of_lt
abbrev Zy:=@PySem.F.excBase_ValueError
abbrev Zz:=@List.pairwise_cons
abbrev ZA:=@List.drop_zero
abbrev ZB:=@List.getElem?_append_left
abbrev ZC:=@List.ne_nil_of_length_pos
abbrev ZD:=@List.mem_or_eq_of_mem_set
abbrev ZE:=@List.cons_append
abbrev ZF:=@List.length_eq_zero_iff
abbrev ZG:=@List.pairwise_singleton
abbrev ZH:=@List.getElem?_set_self
abbrev ZI:=@Nat.not_lt
abbrev ZJ:=@List.drop_eq_nil_of_le
abbrev ZL:=@Option.map_some
abbrev ZM:=@Nat.min_eq_left
abbrev ZN:=@List.dropLast_sublist
abbrev ZO:=@List.getElem?_set_ne
abbrev ZP:=@Bool.false_and
abbrev ZQ:=@Int.le_refl
abbrev ZR:=@List.getElem?_append
abbrev ZS:=@List.reverse_reverse
abbrev ZT:=@List.filterMap_cons
abbrev ZU:=@PySem.W.plainGet_of
abbrev ZV:=@List.reverse_append
abbrev ZW:=@List.map_drop
abbrev ZX:=@Bool.false_eq_true
abbrev ZY:=@List.getElem?_drop
abbrev ZZ:=@List.set_eq_take_append_cons_drop
abbrev X0:=@Nat.ne_of_gt
abbrev X1:=@Nat.succ_pos
abbrev X2:=@Nat.lt_succ_self
abbrev X3:=@List.mem_flatten
abbrev X4:=@List.append_nil
abbrev X5:=@List.of_mem_zip
abbrev X6:=@PySem.F.slot_dict_setdefault
abbrev X7:=@List.dropLast_cons_of_ne_nil
abbrev X8:=@PySem.F.slot_str_startswith
abbrev X9:=@PySem.F.type_str_startswith
abbrev Xa:=@PySem.wpAny_bind
abbrev Xb:=@PySem.Heap.get?_push_of_some
abbrev Xc:=@if_neg
abbrev Xd:=@absurd
abbrev Xe:=@if_pos
abbrev Xf:=@Option.some.inj
abbrev Xg:=@decide_eq_true
abbrev Xh:=@decide_eq_false
abbrev Xi:=@PySem.Heap.lt_size
abbrev Xj:=@PySem.wpAny_pure
abbrev Xk:=@of_decide_eq_true
abbrev Xl:=@PySem.Heap.get?_push_size
abbrev Xm:=@PySem.Heap.get?_update_other
abbrev Xn:=@True.intro
abbrev Xo:=@congrArg
abbrev Xp:=@PySem.wpAny_mono
abbrev Xq:=@beq_eq_false_iff_ne
abbrev Xr:=@PySem.wpAny_truthy_bool
abbrev Xs:=@PySem.wpAny_Call_Name_kw
abbrev Xu:=@beq_iff_eq
abbrev Xv:=@PySem.wpAny_holding
abbrev Xw:=@of_decide_eq_false
abbrev Xx:=@PySem.wpAny_passesOwn
abbrev Xy:=@beq_self_eq_true
abbrev Xz:=@Prod.mk.inj
abbrev XA:=@PySem.PassesOwn.never
abbrev XB:=@List.Pairwise.nil
abbrev XD:=@PySem.Heap.get?_none_of_le
namespace L2
open PySem PySem.Spec PyProof.Rows
noncomputable def aV(s:Stmt)(j:Nat):Stmt:=match s with
 | .ClassDef _ _ _ body _ _ _ _ _ _ _=>body.getD j (.Pass {0,0,0,0})
 |_=> .Pass {0,0,0,0}
noncomputable def eZ(s:Stmt):Arguments:=match s with
 | .FunctionDef _ a _ _ _ _ _ _ _ _=>a
 |_=>{posonlyargs:=[],args:=[],vararg:=none,kwonlyargs:=[],kw_defaults:=[],kwarg:=none,defaults:=[]}
noncomputable def b8(s:Stmt):List Stmt:=match s with
 | .FunctionDef _ _ b _ _ _ _ _ _ _=>b
 |_=> []
noncomputable def aj(s:Stmt):Scope:=match s with
 | .FunctionDef _ _ _ _ _ _ sc _ _ _=>sc
 |_=>{kind:= .function,names:=[],isGenerator:=false,isCoroutine:=false}
end L2
namespace HD
open PySem PySem.W
abbrev _root_.Ki:=Program
abbrev _root_.Kj:=World
abbrev _root_.Lb:=Option Value
noncomputable def CF(p:Ki)(w:Kj)(n₀:Nat)(ann:Lb):Nat->SharedT->Thread->Option SharedT
 |0,_,_=>none
 |n+1,s,t=>match through t with
  |true=>some s
  |false=>match Fast.tw6613529449190102663 n₀ ann t with
   |false=>none
   |true=>match Fast.tw10156331382660048174 (Fast.tw11892475500146522536 Fast.tw14364793385576792824) p w s t with
    |some (s',t')=>CF p w n₀ ann n s' t'
    |none=>none
def CD{p:Ki}{w:Kj}{z:Nat}{I:Lb}{n:Nat}{s s':SharedT}{t:Thread}(h:CF p w z I n s t=some s'):topRun treeTable p w z I n s.abs t=some s'.abs:=by
 induction n generalizing s t with
 |zero=>cases h
 |succ n S=>
  unfold CF at h;rw[<-Fast.te6613529449190102663,<-Fast.te10156331382660048174,<-Fast.te11892475500146522536,<-Fast.te14364793385576792824]at h;unfold topRun;cases O:through t with
  |true=>rw[O]at h;cases h;rfl
  |false=>
   rw[O]at h;cases hk:stepOk z I t with
   |false=>rw[hk]at h;cases h
   |true=>
    rw[hk]at h;cases hs:stepT (denote treeTable) p w s t with
    |none=>rw[hs]at h;cases h
    |some x=>
     let{s2,U}:=x;rw[hs]at h;show(match step (denote treeTable) p w s.abs t with| .go s' t'=>topRun treeTable p w z I n s' t'| .halt _ _=>none)=_;rw[stepT_spec hs];exact S h
noncomputable def AW:List Obj->BT->Nat->Option (BT×Nat)
 | [],t,n=>some (t,n)
 |o::r,t,n=>match ((t.ins n o).get n).isSome with
  |true=>AW r (t.ins n o) (n+1)
  |false=>none
theorem ya{z:Life}:∀{l:List Obj}{t t':BT}{n n':Nat},AW l t n=some (t',n')->absHeap t' n' z={(absHeap t n z).objs++l.toArray,z}
 | [],t,t',n,n',h=>by
  cases h;rw[Array.append_empty];rfl
 |o::r,t,t',n,n',h=>by
  unfold AW at h;cases g:((t.ins n o).get n).isSome with
  |false=>rw[g]at h;cases h
  |true=>
   rw[g]at h;rw[ya h,absHeap_ins g];show Heap.mk _ _=Heap.mk _ _;congr 1;show(absHeap t n z).objs.push o++r.toArray=_;rw[<-Array.append_singleton,Array.append_assoc];congr 1;simp
abbrev _root_.J':=Shared
def toT(s:J'):Option SharedT:=match AW s.heap.objs.toList .nil 0 with
 |some (t,n)=>some ⟨t,n,s.heap.life,s.gens,s.drawn,s.toks,s.os⟩
 |none=>none
def EJ{s:J'}{S:SharedT}(h:toT s=some S):S.abs=s:=by
 unfold toT at h;cases e:AW s.heap.objs.toList .nil 0 with
 |none=>rw[e]at h;cases h
 |some x=>
  let{t,n}:=x;rw[e]at h;cases h;let{{I,z},gens,drawn,toks,os}:=s;show Shared.mk (absHeap t n z) _ _ _ _=_;rw[ya e];show Shared.mk (Heap.mk (#[]++I.toList.toArray) z) _ _ _ _=_;rw[Array.toArray_toList,Array.empty_append]
def FV(p:Ki)(w:Kj)(N:Nat)(s₀:J'):Option Shared:=match toT s₀ with
 |some S=>(CF p w S.n (s₀.heap.nsMap mainGlobals "__annotations__") N S<|topStub p).map SharedT.abs
 |none=>none
def DA{p:Ki}{w:Kj}{N:Nat}{s₀ s₁:J'}(h:FV p w N s₀=some s₁):topRun treeTable p w s₀.heap.objs.size (s₀.heap.nsMap mainGlobals "__annotations__") N s₀ (topStub p)=some s₁:=by
 unfold FV at h;cases e:toT s₀ with
 |none=>rw[e]at h;cases h
 |some S=>
  rw[e]at h;let{I,h1,rfl}:=QL.mp h;have ea:=EJ e;have z:S.n=s₀.heap.objs.size:=by
   rw[<-ea];exact(absHeap_size _ _ _).symm
  rw[z]at h1;have:=CD h1;rw[ea]at this;exact this
def endP(p:Ki)(w:Kj)(N:Nat):Option Shared:=((Fast.tw10274390034422433532 Fast.tw14364793385576792824 (opening p) w N (start<|opening p).1 (start<|opening p).2).bind<|Fast.tw14289696077712309145 p).bind λs₀=>match s₀.heap.isNs mainGlobals&&s₀.gens.size==0 with
 |true=>(FV p w N s₀).bind λs₁=>match staticsOk (importedModules p.main.body) s₀.heap s₁.heap&&namesBound p s₁.heap&&gensDone s₁&&laidKept s₀.heap s₁.heap with
  |true=>some s₁
  |false=>none
 |false=>none
noncomputable def gA(q:Ki)(s:J'):=(Fast.tw5160383126252970620 (R.mapR (λx=>x.name)<|Fast.tw3399658132070893891 q) (Fast.tw5991557255702980513 q) [] {s with gens:= #[]},s.heap.bltView)
abbrev _root_.Kc:=List Str
noncomputable def gB(p q:Ki)(loose:Kc)(Xt:Shared->Bool)(s:J'):=(Fast.tw10880121769531294198 s.heap (Fast.tw821141287760084731 q loose) (R.mapR (λx=>x.name)<|Fast.tw3399658132070893891 q) (R.mapR (λx=>x.fst)<|Fast.tw7409074990110511671 q) (R.mapR (λx=>x.name)<|Fast.tw13664370479719496447 q<|Fast.tw821141287760084731 q loose)&&Fast.tw14722251495701143533 s.heap (importedModules p.main.body)&&s.heap.isNs mainGlobals&&s.heap.isNs builtinsNs&&Fast.tw10994771534591457954 q s.heap&&Xt s&&(s.gens.size==0),Fast.tw479339242167458305 q s)
noncomputable def gC(q:Ki)(loose:Kc)(s:J'):=(Fast.tw16090120013241838585 q (Fast.tw3247288618530077131 q) s,Fast.tw2386780881361962483 q (Fast.tw821141287760084731 q loose) s,Fast.tw11698064438423848299 q loose s,Fast.tw7317090234206586261 q s,Fast.tw7369524293546568484 q loose s)
def left_of{p q:Ki}{loose:Kc}{Xt:Shared->Bool}{α:Type}{Yf:Shared->α}{Ya:World->α}{N:Nat}(O:∀w,(endP p w N).map (λs=>((gA q s,gB p q loose Xt s),gC q loose s))=some ((((openGood q loose).1,(openGood q loose).2.1),(true,true)),(openGood q loose).2.2.2.2))(S:∀w,(endP p w N).map Yf=some (Ya w)):LeftO p q loose Xt Yf Ya N:=λw=>by
 let{s₁,e,z}:=QL.mp (O w);let{ab,c}:=Xz z;let{a,b}:=Xz ab;let{_,e4,d}:=QL.mp (S w);rw[e]at e4;cases e4;let{U,Y}:=Xz a;let{b1,b2}:=Xz b;have g:Fast.tw4187177175401517315 q loose (importedModules p.main.body) Xt true s₁=openGood q loose:=by
  exact Prod.ext U<|Prod.ext Y (Prod.ext b1<|Prod.ext b2 c)
 rw[<-Fast.te4187177175401517315]at g;unfold endP at e;rw[<-Fast.te10274390034422433532,<-Fast.te14364793385576792824,<-Fast.te14289696077712309145]at e;let{s₀,Z,e}:=Option.bind_eq_some_iff.mp e;unfold openEnds fencedOpening;rw[Z];show(topFrom treeTable p w N s₀).map _=_;unfold topFrom;cases I:(s₀.heap.isNs mainGlobals&&s₀.gens.size==0)with
 |false=>rw[I]at e;cases e
 |true=>
  rw[I]at e;let{s₂,h1,e}:=Option.bind_eq_some_iff.mp e;show Option.map _ ((topRun treeTable p w s₀.heap.objs.size (s₀.heap.nsMap mainGlobals "__annotations__") N s₀<|topStub p).bind _)=_;rw[DA h1];cases hs:(staticsOk (importedModules p.main.body) s₀.heap s₂.heap&&namesBound p s₂.heap&&gensDone s₂&&laidKept s₀.heap s₂.heap)with
  |false=>rw[hs]at e;cases e
  |true=>
   rw[hs]at e;cases e;show Option.map _ (match (staticsOk (importedModules p.main.body) s₀.heap s₁.heap&&namesBound p s₁.heap&&gensDone s₁&&laidKept s₀.heap s₁.heap)with|true=>some s₁|false=>none)=_;rw[hs];show some (_,_)=some (_,_);rw[g,d]
def two{α β:Type}{o:Option Shared}{f:Shared->α}{g:Shared->β}{a:α}{b:β}(h:o.map (λs=>(f s,g s))=some (a,b)):o.map f=some a/\o.map g=some b:=by
 cases o with
 |none=>cases h
 |some s=>
  have h:=Xz (Xf h);exact{Xo some h.1,Xo some h.2}
end HD
namespace SW
open PySem L2
set_option maxHeartbeats 0
noncomputable def top(i:Nat):Stmt:=PySem.Challenge.pw_staywalk_k71_what_is_no_row.main.body.getD i (.Pass {0,0,0,0})
abbrev gy:=aV (top 7) 0
abbrev gu:=aV (top 8) 0
abbrev jy:=aV (top 9) 0
abbrev ig:=aV (top 10) 0
abbrev mU:=top 15
abbrev mT:=top 17
abbrev kW:=top 21
abbrev mV:=top 23
abbrev gv:=aV (top 25) 0
abbrev eP:=aV (top 26) 0
abbrev kY:=aV (top 27) 0
abbrev iX:=aV (top 28) 0
abbrev fA:=aV (top 41) 0
abbrev fv:=aV (top 45) 0
abbrev eK:=aV (top 45) 1
abbrev gG:=aV (top 45) 3
abbrev cH:=aV (top 45) 6
abbrev dH:=aV (top 45) 8
abbrev cW:=aV (top 45) 9
abbrev gF:=aV (top 47) 0
abbrev gE:=aV (top 47) 1
abbrev fX:=top 51
abbrev gx:=aV (top 52) 0
abbrev iS:=aV (top 52) 1
abbrev iU:=aV (top 52) 3
abbrev iT:=aV (top 52) 4
abbrev gw:=aV (top 52) 5
abbrev d8:=aV (top 52) 11
abbrev dk:=aV (top 52) 13
abbrev dn:=aV (top 52) 14
abbrev gI:=aV (top 54) 0
abbrev iV:=aV (top 54) 1
abbrev iW:=aV (top 54) 3
abbrev gH:=aV (top 54) 5
abbrev fw:=aV (top 54) 7
abbrev gJ:=aV (top 54) 15
abbrev eJ:=top 59
abbrev iI:=top 60
abbrev iM:=top 61
abbrev iJ:=top 62
abbrev pU:=top 64
abbrev jZ:=top 65
abbrev iL:=top 69
abbrev gi:=top 70
abbrev iK:=top 71
abbrev pV:=top 72
abbrev iN:=top 74
abbrev iP:=top 76
abbrev gj:=top 77
abbrev iO:=top 83
abbrev gl:=top 86
abbrev gk:=top 95
abbrev iY:=aV (top 98) 0
abbrev jA:=aV (top 98) 1
abbrev ft:=top 100
abbrev gs:=top 101
abbrev iR:=top 102
abbrev iQ:=top 103
abbrev kX:=top 104
abbrev d7:=top 105
abbrev b7:=top 106
abbrev dG:=top 107
abbrev dj:=top 108
abbrev fm:=top 109
abbrev fq:=top 110
abbrev Ah:=top 111
set_option genInjectivity false in
structure II where
 ia:Addr
 gW:FuncData
 hW:Addr
 gS:FuncData
 tF:Addr
 nK:FuncData
 tD:Addr
 nI:FuncData
 qN:Addr
 lB:FuncData
 tG:Addr
 nM:FuncData
 hZ:Addr
 gT:FuncData
 ju:Addr
 cE:FuncData
 qP:Addr
 fJ:FuncData
 mK:Addr
 dW:FuncData
 jV:Addr
 dX:FuncData
 jT:Addr
 fK:FuncData
 kJ:Addr
 g6:FuncData
 kI:Addr
 gZ:FuncData
 gg:Addr
 dS:FuncData
 gf:Addr
 dR:FuncData
 eV:Addr
 c5:FuncData
 kH:Addr
 gY:FuncData
 kG:Addr
 gX:FuncData
 nW:Addr
 jM:FuncData
 kF:Addr
 gV:FuncData
 mF:Addr
 je:FuncData
 mH:Addr
 jg:FuncData
 mG:Addr
 jf:FuncData
 kE:Addr
 gU:FuncData
 iF:Addr
 eF:FuncData
 fP:Addr
 du:FuncData
 fQ:Addr
 dw:FuncData
 kL:Addr
 g8:FuncData
 mI:Addr
 jh:FuncData
 mJ:Addr
 ji:FuncData
 kK:Addr
 g7:FuncData
 jU:Addr
 dU:FuncData
 kM:Addr
 g9:FuncData
 kC:Addr
 gN:FuncData
 mt:Addr
 i4:FuncData
 mC:Addr
 i8:FuncData
 mw:Addr
 i5:FuncData
 v7:Addr
 qI:FuncData
 tE:Addr
 nJ:FuncData
 mB:Addr
 i7:FuncData
 kB:Addr
 gM:FuncData
 my:Addr
 i6:FuncData
 v8:Addr
 qJ:FuncData
 jm:Addr
 i9:FuncData
 jp:Addr
 jb:FuncData
 hJ:Addr
 gO:FuncData
 jo:Addr
 ja:FuncData
 hV:Addr
 gQ:FuncData
 hU:Addr
 gP:FuncData
 mL:Addr
 jj:FuncData
 nX:Addr
 jO:FuncData
 jS:Addr
 fI:FuncData
 kD:Addr
 gR:FuncData
 mE:Addr
 jd:FuncData
 mD:Addr
 jc:FuncData
 qO:Addr
 lC:FuncData
 iE:Addr
 eE:FuncData
 eU:Addr
 cZ:FuncData
 gd:Addr
 dQ:FuncData
 fO:Addr
 dt:FuncData
 jQ:Addr
 fG:FuncData
 jR:Addr
 fH:FuncData
 ED:Addr
 yi:FuncData
 aZ:Addr
 aQ:Addr
 bj:Addr
 bb:Addr
 a6:Addr
 bM:Addr
 de:Addr
 cv:Addr
 gb:Addr
 a7:Addr
 uv:Addr
 jk:Addr
 cn:Addr
 bX:Addr
 fc:Addr
 ba:Addr
 br:Addr
 fN:Addr
 Do:Addr
 bq:List (Str×Nat×Addr)
 za:Addr
 eB:List (Str×Nat×Addr)
 jK:Addr
end SW
namespace ZK
open PySem PySem.W SW L2
noncomputable abbrev N:Value:= .none
noncomputable abbrev B(b:Bool):Value:= .bool b
noncomputable abbrev I(i:Int):Value:= .int i 0
noncomputable abbrev S(x:Str)(t:Nat):Value:= .str x t
noncomputable abbrev F(t:Nat):Value:= .str "/claim/cut.py" t
abbrev _root_.B':=Addr
noncomputable abbrev R(a:B'):Value:= .ref a
noncomputable abbrev T(n:String):Value:= .type n
abbrev _root_.Kb:=Value
noncomputable abbrev E(P:Params)(x:Str)(t:Nat)(v:Kb):DictEntry:={PyData.keyHash P x,.str x t,v}
abbrev _root_.Kd:=List Value
noncomputable abbrev c(vs:Kd):Obj:={.type "code",none,.fields vs.toArray, #[]}
abbrev o(n:Str)(a:Nat)(m:Str)(b d:Nat)(e g h i j:Int)(k:B')(l:Int)(r s t u:B')(v w:Int)(x:Nat):Obj:=c [S n a,S m b,F d,I e,I g,I h,I i,I j,R k,B true,I l,R r,N,R s,R t,R u,I v,I w,F x]
abbrev _root_.Kg:=Option Addr
abbrev D(nm qn:Str)(s:Stmt)(df kV dc pm:Kb)(an:Kg)(cd ct:Kb):FuncData:=fnOf nm qn (eZ s) (b8 s) (aj s) df kV dc pm an cd ct
abbrev _root_.Kt:=FuncData
noncomputable abbrev f(d:Kt):Obj:={.type "function",none,.func d, #[]}
abbrev d10:=λx q s r=>D x q s N N N (S "law_staywalk_k71_what_is_no_row" 1804) none (R r) N
abbrev d11:=λx q s r=>D x q s N N N (S "staywalk.bits" 378) none (R r) N
abbrev d12:=λx q s r=>D x q s N N N (S "staywalk.desk" 1536) none (R r) N
abbrev d13:=λx q s r=>D x q s N N N (S "staywalk.errors" 194) none (R r) N
abbrev d14:=λx q s r=>D x q s N N N (S "staywalk.house" 1203) none (R r) N
abbrev d15:=λx q s r=>D x q s N N N (S "staywalk.kept" 1418) none (R r) N
abbrev d16:=λx q s r=>D x q s N N N (S "staywalk.leaves" 866) none (R r) N
abbrev d17:=λx q s r=>D x q s N N N (S "staywalk.makes" 979) none (R r) N
abbrev d18:=λx q s r=>D x q s N N N (S "staywalk.orders" 1434) none (R r) N
abbrev d19:=λx q s r=>D x q s N N N (S "staywalk.slots" 1040) none (R r) N
abbrev d20:=λx q s r=>D x q s N N N (S "staywalk.tokens" 442) none (R r) N
abbrev d21:=λx q s r=>D x q s N N N (S "staywalk.words" 1378) none (R r) N
def t:II:={96,d13 "__init__" "NoKey.__init__" gy 95,115,d13 "__init__" "Twice.__init__" gu 114,172,d11 "mark_of" "mark_of" mU 171,186,d11 "slot_of" "slot_of" mT 185,207,D "is_whole" "is_whole" kW N N N (S "staywalk.wholes" 433) none (R 206) N,214,d20 "is_from" "is_from" mV 213,235,d20 "__init__" "Token.__init__" gv 234,264,D "__init__" "BySlots.__init__" eP (R 257) N N (S "staywalk.tokens" 442) none (R 263) N,291,D "__init__" "Up.__init__" kY (R 284) N N (S "staywalk.tokens" 442) none (R 290) N,318,D "__init__" "Down.__init__" iX (R 311) N N (S "staywalk.tokens" 442) none (R 317) N,438,D "__init__" "Copier.__init__" fA (R 431) N N (S "staywalk.copier" 655) none (R 437) N,544,d16 "__init__" "Leaves.__init__" fv 543,549,d16 "add" "Leaves.add" eK 548,563,d16 "has" "Leaves.has" gG 562,580,d16 "from_on" "Leaves.from_on" cH 579,592,d16 "leaf_of" "Leaves.leaf_of" dH 591,599,d16 "part_leaf" "Leaves.part_leaf" cW 598,627,d17 "__init__" "Makes.__init__" gF 626,634,d17 "note" "Makes.note" gE 633,665,d19 "empty_row" "empty_row" fX 664,679,d19 "__init__" "Slots.__init__" gx 678,686,d19 "put" "Slots.put" iS 685,700,d19 "get" "Slots.get" iU 699,707,d19 "has" "Slots.has" iT 706,714,d19 "many" "Slots.many" gw 713,752,d19 "cell_of" "Slots.cell_of" d8 751,766,d19 "move_slot" "Slots.move_slot" dk 765,773,d19 "begin_row" "Slots.begin_row" dn 772,794,d14 "__init__" "House.__init__" gI 793,801,d14 "put" "House.put" iV 800,815,d14 "get" "House.get" iW 814,829,d14 "many" "House.many" gH 828,844,D "diary" "House.diary" fw (R 837) N N (S "staywalk.house" 1203) none (R 843) N,899,d14 "done" "House.done" gJ 898,925,d21 "are_figures" "are_figures" eJ 924,932,d21 "read_whole" "read_whole" iI 931,939,d21 "read_bound" "read_bound" iM 938,946,d21 "read_token" "read_token" iJ 945,953,d15 "row_of" "row_of" pU 952,958,d15 "rows_of" "rows_of" jZ 957,988,d18 "read_order" "read_order" iL 987,995,d18 "read_things" "read_things" gi 994,1002,d18 "read_thing" "read_thing" iK 1001,1009,d18 "may_be" "may_be" pV 1008,1016,d12 "answer_put" "answer_put" iN 1015,1030,d12 "answer_get" "answer_get" iP 1029,1037,d12 "answer_many" "answer_many" gj 1036,1077,d12 "answer_now" "answer_now" iO 1076,1098,d12 "answer_copy" "answer_copy" gl 1097,1159,d12 "answer_keep" "answer_keep" gk 1158,1176,d12 "__init__" "Desk.__init__" iY 1175,1183,d12 "say" "Desk.say" jA 1182,1197,d10 "_law_cell_at" "_law_cell_at" ft 1196,1204,d10 "_law_number" "_law_number" gs 1203,1211,d10 "_law_token" "_law_token" iR 1210,1218,d10 "_law_words" "_law_words" iQ 1217,1225,d10 "_law_put" "_law_put" kX 1224,1232,d10 "_law_otherwise" "_law_otherwise" d7 1231,1237,d10 "_law_other_number" "_law_other_number" b7 1236,1244,d10 "_law_other_many" "_law_other_many" dG 1243,1251,d10 "_law_other_token" "_law_other_token" dj 1250,1258,d10 "_law_spoiled" "_law_spoiled" fm 1257,1265,d10 "_law_refused" "_law_refused" fq 1264,1272,d10 "law" "law" Ah 1271,31,44,56,68,80,99,118,156,245,274,301,328,526,609,656,776,916,1186,959,[("put",1436,960),("drop",1440,961),("get",1443,962),("many",1446,963),("page",1448,964),("hold",1452,965),("free",1454,966),("sweep",1457,967),("now",1459,968),("at",1461,969),("past",1465,970),("copy",1470,971),("open",1473,972),("read",1475,973),("close",1478,974),("follow",1480,975),("show",1483,976),("covers",1485,978),("total",1487,979),("stop",1488,980),("keep",1489,981)],1160,[("put",1712,1016),("drop",1714,1023),("get",1716,1030),("many",1718,1037),("page",1720,1049),("hold",1722,1056),("free",1724,1063),("sweep",1726,1070),("now",1728,1077),("at",1730,1084),("past",1732,1091),("copy",1734,1098),("open",1736,1105),("read",1738,1112),("close",1740,1119),("follow",1742,1126),("show",1744,1131),("covers",1746,1138),("total",1747,1145),("stop",1748,1152),("keep",1749,1159)],1162}
abbrev ob(n m:Str)(a:Nat)(e g:Int)(k:B')(v:Nat):=o n a m (a+1) (a+2) e g 0 0 3 k 181 (k+1) (k+2) (k+3) (k+4) v e (v+1)
abbrev oa(n:Str):=ob n n
abbrev ea(P:Params)(x:Str)(t:Nat)(a:B'):=E P x t (R a)
def K:Params->Frag:=λP=>(!2,{N,none,.dict #[] 0, #[]})::
(!3,{(T "dict"),none,.dict #[E P "__name__" 165 (S "law_staywalk_k71_what_is_no_row" 1804),E P "__doc__" 166 N,E P "__package__" 167 N,E P "__loader__" 168 (.builtin "__main__.__loader__#opaque"),E P "__spec__" 169 N,ea P "__annotations__" 170 6,ea P "__builtins__" 171 4,E P "__file__" 173 (S "/claim/cut.py" 172),E P "__cached__" 174 N,ea P "_wall" 193 21,ea P "WalkError" 213 31,ea P "NoToken" 229 44,ea P "NoText" 245 56,ea P "NoRow" 261 68,ea P "OutOfTurn" 277 80,ea P "NoKey" 302 99,ea P "Twice" 327 118,ea P "TooOld" 352 137,ea P "NoMoment" 377 156,E P "BITS" 381 (.int 16 380),E P "PLACES" 383 (.int 65536 382),ea P "turned" 393 165,ea P "mark_of" 400 172,ea P "place_of" 407 179,ea P "slot_of" 415 186,ea P "stretch_of" 424 193,ea P "slot_at" 432 200,ea P "is_whole" 441 207,ea P "is_from" 451 214,ea P "word_of" 458 221,ea P "Token" 498 245,ea P "BySlots" 533 274,ea P "Up" 567 301,ea P "Down" 601 328,E P "STRETCHES_A_KEY" 605 (.int 4 604),ea P "ask" 612 336,ea P "page_by_slots" 625 343,ea P "page_by_keys" 631 348,ea P "keys_of_page" 637 353,ea P "keys_near" 646 360,ea P "token_behind" 654 367,ea P "is_left" 664 374,ea P "change" 672 381,ea P "Page" 732 419,ea P "Copier" 865 526,E P "MOST_IN_LEAF" 869 (.int 8 868),E P "LEAST_IN_TWO" 871 (.int 5 870),ea P "Leaves" 978 609,ea P "Makes" 1039 656,E P "LEAST_SIZE" 1043 (.int 4 1042),E P "GREATEST_SIZE" 1045 (.int 256 1044),ea P "empty_row" 1051 665,ea P "Slots" 1202 776,ea P "House" 1377 916,E P "FIGURES" 1381 (S "0123456789" 1380),E P "MOST_FIGURES" 1383 (.int 60 1382),E P "WORDS_OF_TOKEN" 1385 (.int 3 1384),ea P "are_figures" 1391 925,ea P "read_whole" 1400 932,ea P "read_bound" 1407 939,ea P "read_token" 1417 946,ea P "row_of" 1427 953,ea P "rows_of" 1433 958,ea P "FORMS" 1494 959,E P "MOST_KEYS" 1496 (.int 100 1495),ea P "read_order" 1506 988,ea P "read_things" 1518 995,ea P "read_thing" 1527 1002,ea P "may_be" 1535 1009,ea P "answer_put" 1545 1016,ea P "answer_drop" 1553 1023,ea P "answer_get" 1561 1030,ea P "answer_many" 1569 1037,ea P "page_told" 1575 1042,ea P "answer_page" 1583 1049,ea P "answer_hold" 1591 1056,ea P "answer_free" 1599 1063,ea P "answer_sweep" 1607 1070,ea P "answer_now" 1615 1077,ea P "answer_at" 1624 1084,ea P "answer_past" 1632 1091,ea P "answer_copy" 1640 1098,ea P "answer_open" 1648 1105,ea P "answer_read" 1656 1112,ea P "answer_close" 1664 1119,ea P "answer_follow" 1672 1126,ea P "answer_show" 1678 1131,ea P "answer_covers" 1686 1138,ea P "answer_total" 1694 1145,ea P "answer_stop" 1703 1152,ea P "answer_keep" 1711 1159,ea P "ANSWERS" 1754 1160,ea P "OF_COPIER" 1763 1162,ea P "Desk" 1803 1186,ea P "_law_cell_at" 1813 1197,ea P "_law_number" 1820 1204,ea P "_law_token" 1831 1211,ea P "_law_words" 1842 1218,ea P "_law_put" 1851 1225,ea P "_law_otherwise" 1860 1232,ea P "_law_other_number" 1866 1237,ea P "_law_other_many" 1874 1244,ea P "_law_other_token" 1885 1251,ea P "_law_spoiled" 1896 1258,ea P "_law_refused" 1906 1265,ea P "law" 1918 1272] 106, #[]})::
(!30,{(T "dict"),none,.dict #[E P "__module__" 203 (S "staywalk.errors" 194),E P "__firstlineno__" 207 (.int 5 206),ea P "__static_attributes__" 208 29,ea P "__weakref__" 210 32,E P "__doc__" 211 N] 3, #[]})::
(!31,{(T "type"),none,.cls {"WalkError",[(T "ValueError")],[(R 31),(T "ValueError"),(T "Exception"),(T "BaseException"),(T "object")],30,"WalkError",true,[],[(R 44),(R 56),(R 68),(R 80),(R 99),(R 118),(R 137),(R 156)],false,none,false}, #[some (R 22),none,some (S "WalkError" 196),some (S "WalkError" 204),some (.builtin "ValueError.__new__"),some (B true)]})::
(!43,{(T "dict"),none,.dict #[E P "__module__" 221 (S "staywalk.errors" 194),E P "__firstlineno__" 225 (.int 7 224),ea P "__static_attributes__" 226 42,E P "__doc__" 227 N] 2, #[]})::
(!44,{(T "type"),none,.cls {"NoToken",[(R 31)],[(R 44),(R 31),(T "ValueError"),(T "Exception"),(T "BaseException"),(T "object")],43,"NoToken",true,[],[],false,none,false}, #[some (R 35),none,some (S "NoToken" 214),some (S "NoToken" 222),some (.builtin "ValueError.__new__"),some (B true)]})::
(!55,{(T "dict"),none,.dict #[E P "__module__" 237 (S "staywalk.errors" 194),E P "__firstlineno__" 241 (.int 9 240),ea P "__static_attributes__" 242 54,E P "__doc__" 243 N] 2, #[]})::
(!56,{(T "type"),none,.cls {"NoText",[(R 31)],[(R 56),(R 31),(T "ValueError"),(T "Exception"),(T "BaseException"),(T "object")],55,"NoText",true,[],[],false,none,false}, #[some (R 47),none,some (S "NoText" 230),some (S "NoText" 238),some (.builtin "ValueError.__new__"),some (B true)]})::
(!67,{(T "dict"),none,.dict #[E P "__module__" 253 (S "staywalk.errors" 194),E P "__firstlineno__" 257 (.int 11 256),ea P "__static_attributes__" 258 66,E P "__doc__" 259 N] 2, #[]})::
(!68,{(T "type"),none,.cls {"NoRow",[(R 31)],[(R 68),(R 31),(T "ValueError"),(T "Exception"),(T "BaseException"),(T "object")],67,"NoRow",true,[],[],false,none,false}, #[some (R 59),none,some (S "NoRow" 246),some (S "NoRow" 254),some (.builtin "ValueError.__new__"),some (B true)]})::
(!79,{(T "dict"),none,.dict #[E P "__module__" 269 (S "staywalk.errors" 194),E P "__firstlineno__" 273 (.int 13 272),ea P "__static_attributes__" 274 78,E P "__doc__" 275 N] 2, #[]})::
(!80,{(T "type"),none,.cls {"OutOfTurn",[(R 31)],[(R 80),(R 31),(T "ValueError"),(T "Exception"),(T "BaseException"),(T "object")],79,"OutOfTurn",true,[],[],false,none,false}, #[some (R 71),none,some (S "OutOfTurn" 262),some (S "OutOfTurn" 270),some (.builtin "ValueError.__new__"),some (B true)]})::
(!95,ob "__init__" "NoKey.__init__" 290 17 2 90 295)::
(!96,f t.gW)::
(!98,{(T "dict"),none,.dict #[E P "__module__" 285 (S "staywalk.errors" 194),E P "__firstlineno__" 289 (.int 15 288),ea P "__init__" 297 96,ea P "__static_attributes__" 299 97,E P "__doc__" 300 N] 2, #[]})::
(!99,{(T "type"),none,.cls {"NoKey",[(R 31)],[(R 99),(R 31),(T "ValueError"),(T "Exception"),(T "BaseException"),(T "object")],98,"NoKey",true,[],[],false,none,false}, #[some (R 83),none,some (S "NoKey" 278),some (S "NoKey" 286),some (.builtin "ValueError.__new__"),some (B true)]})::
(!114,ob "__init__" "Twice.__init__" 315 22 2 109 320)::
(!115,f t.gS)::
(!117,{(T "dict"),none,.dict #[E P "__module__" 310 (S "staywalk.errors" 194),E P "__firstlineno__" 314 (.int 20 313),ea P "__init__" 322 115,ea P "__static_attributes__" 324 116,E P "__doc__" 325 N] 2, #[]})::
(!118,{(T "type"),none,.cls {"Twice",[(R 31)],[(R 118),(R 31),(T "ValueError"),(T "Exception"),(T "BaseException"),(T "object")],117,"Twice",true,[],[],false,none,false}, #[some (R 102),none,some (S "Twice" 303),some (S "Twice" 311),some (.builtin "ValueError.__new__"),some (B true)]})::
(!155,{(T "dict"),none,.dict #[E P "__module__" 360 (S "staywalk.errors" 194),E P "__firstlineno__" 364 (.int 30 363),ea P "__init__" 372 153,ea P "__static_attributes__" 374 154,E P "__doc__" 375 N] 2, #[]})::
(!156,{(T "type"),none,.cls {"NoMoment",[(R 31)],[(R 156),(R 31),(T "ValueError"),(T "Exception"),(T "BaseException"),(T "object")],155,"NoMoment",true,[],[],false,none,false}, #[some (R 140),none,some (S "NoMoment" 353),some (S "NoMoment" 361),some (.builtin "ValueError.__new__"),some (B true)]})::
(!171,oa "mark_of" 394 45 1 166 398)::
(!172,f t.nK)::
(!185,oa "slot_of" 408 49 2 180 413)::
(!186,f t.nI)::
(!206,oa "is_whole" 435 57 1 201 439)::
(!207,f t.lB)::
(!213,oa "is_from" 444 60 2 208 449)::
(!214,f t.nM)::
(!234,ob "__init__" "Token.__init__" 471 66 4 229 478)::
(!235,f t.gT)::
(!244,{(T "dict"),none,.dict #[E P "__module__" 466 (S "staywalk.tokens" 442),E P "__firstlineno__" 470 (.int 64 469),ea P "__init__" 480 235,ea P "words" 487 242,ea P "__static_attributes__" 491 243,ea P "__dict__" 493 246,ea P "__weakref__" 495 247,E P "__doc__" 496 N] 4, #[]})::
(!245,{(T "type"),none,.cls {"Token",[(T "object")],[(R 245),(T "object")],244,"Token",true,[],[(R 274),(R 301),(R 328)],false,none,false}, #[none,none,some (S "Token" 459),some (S "Token" 467),some (.builtin "object.__new__"),some (B true)]})::
(!257,{(T "tuple"),none,.seq #[(.int 0 511),(.int 65536 512)] 0, #[]})::
(!263,ob "__init__" "BySlots.__init__" 513 75 3 258 519)::
(!264,f t.cE)::
(!273,{(T "dict"),none,.dict #[E P "__module__" 506 (S "staywalk.tokens" 442),E P "__firstlineno__" 510 (.int 73 509),ea P "__init__" 521 264,ea P "holds" 529 271,ea P "__static_attributes__" 530 272,E P "__doc__" 531 N] 2, #[]})::
(!274,{(T "type"),none,.cls {"BySlots",[(R 245)],[(R 274),(R 245),(T "object")],273,"BySlots",true,[],[],false,none,false}, #[some (R 250),none,some (S "BySlots" 499),some (S "BySlots" 507),some (.builtin "object.__new__"),some (B true)]})::
(!284,{(T "tuple"),none,.seq #[(.int 0 546),N] 0, #[]})::
(!290,ob "__init__" "Up.__init__" 547 84 3 285 553)::
(!291,f t.fJ)::
(!300,{(T "dict"),none,.dict #[E P "__module__" 541 (S "staywalk.tokens" 442),E P "__firstlineno__" 545 (.int 82 544),ea P "__init__" 555 291,ea P "holds" 563 298,ea P "__static_attributes__" 564 299,E P "__doc__" 565 N] 2, #[]})::
(!301,{(T "type"),none,.cls {"Up",[(R 245)],[(R 301),(R 245),(T "object")],300,"Up",true,[],[],false,none,false}, #[some (R 277),none,some (S "Up" 534),some (S "Up" 542),some (.builtin "object.__new__"),some (B true)]})::
(!311,{(T "tuple"),none,.seq #[N,(.int 0 580)] 0, #[]})::
(!317,ob "__init__" "Down.__init__" 581 93 3 312 587)::
(!318,f t.dW)::
(!327,{(T "dict"),none,.dict #[E P "__module__" 575 (S "staywalk.tokens" 442),E P "__firstlineno__" 579 (.int 91 578),ea P "__init__" 589 318,ea P "holds" 597 325,ea P "__static_attributes__" 598 326,E P "__doc__" 599 N] 2, #[]})::
(!328,{(T "type"),none,.cls {"Down",[(R 245)],[(R 328),(R 245),(T "object")],327,"Down",true,[],[],false,none,false}, #[some (R 304),none,some (S "Down" 568),some (S "Down" 576),some (.builtin "object.__new__"),some (B true)]})::
(!431,{(T "tuple"),none,.seq #[N] 0, #[]})::
(!437,ob "__init__" "Copier.__init__" 745 176 4 432 752)::
(!438,f t.dX)::
(!525,{(T "dict"),none,.dict #[E P "__module__" 740 (S "staywalk.copier" 655),E P "__firstlineno__" 744 (.int 174 743),ea P "__init__" 754 438,ea P "open_page" 761 445,ea P "read_page" 771 453,ea P "close_page" 779 460,ea P "follow" 789 467,ea P "follow_mark" 798 474,ea P "follow_change" 808 481,ea P "copy" 815 488,ea P "covers" 823 495,ea P "place" 830 502,ea P "left" 837 509,ea P "total" 844 516,ea P "stopped" 851 523,ea P "__static_attributes__" 858 524,ea P "__dict__" 860 527,ea P "__weakref__" 862 528,E P "__doc__" 863 N] 4, #[]})::
(!526,{(T "type"),none,.cls {"Copier",[(T "object")],[(R 526),(T "object")],525,"Copier",true,[],[],false,none,false}, #[none,none,some (S "Copier" 733),some (S "Copier" 741),some (.builtin "object.__new__"),some (B true)]})::
(!543,ob "__init__" "Leaves.__init__" 884 256 1 538 888)::
(!544,f t.fK)::
(!548,c [(S "add" 891),(S "Leaves.add" 892),(F 893),(I 259),(I 2),(I 0),(I 0),(I 3),(R 545),(B true),(I 181),(R 546),N,N,N,(R 547),(I 894),(I 259),(F 895)])::
(!549,f t.g6)::
(!562,ob "has" "Leaves.has" 906 282 2 557 912)::
(!563,f t.gZ)::
(!579,c [(S "from_on" 928),(S "Leaves.from_on" 929),(F 930),(I 292),(I 3),(I 0),(I 0),(I 3),(R 576),(B true),(I 181),(R 577),N,N,N,(R 578),(I 931),(I 292),(F 932)])::
(!580,f t.dS)::
(!591,ob "leaf_of" "Leaves.leaf_of" 940 310 2 586 948)::
(!592,f t.dR)::
(!598,ob "part_leaf" "Leaves.part_leaf" 951 321 2 593 958)::
(!599,f t.c5)::
(!608,{(T "dict"),none,.dict #[E P "__module__" 879 (S "staywalk.leaves" 866),E P "__firstlineno__" 883 (.int 254 882),ea P "__init__" 890 544,ea P "add" 896 549,ea P "discard" 905 556,ea P "has" 914 563,ea P "many" 920 568,ea P "all_of" 927 575,ea P "from_on" 933 580,ea P "down_from" 939 585,ea P "leaf_of" 950 592,ea P "part_leaf" 960 599,ea P "join_small" 969 606,ea P "__static_attributes__" 971 607,ea P "__dict__" 973 610,ea P "__weakref__" 975 611,E P "__doc__" 976 N] 4, #[]})::
(!609,{(T "type"),none,.cls {"Leaves",[(T "object")],[(R 609),(T "object")],608,"Leaves",true,[],[],false,none,false}, #[none,none,some (S "Leaves" 872),some (S "Leaves" 880),some (.builtin "object.__new__"),some (B true)]})::
(!626,ob "__init__" "Makes.__init__" 993 337 1 621 997)::
(!627,f t.gY)::
(!633,ob "note" "Makes.note" 1000 340 3 628 1006)::
(!634,f t.gX)::
(!655,{(T "dict"),none,.dict #[E P "__module__" 988 (S "staywalk.makes" 979),E P "__firstlineno__" 992 (.int 335 991),ea P "__init__" 999 627,ea P "note" 1008 634,ea P "all_told" 1015 641,ea P "value_at" 1024 648,ea P "sweep" 1030 653,ea P "__static_attributes__" 1032 654,ea P "__dict__" 1034 657,ea P "__weakref__" 1036 658,E P "__doc__" 1037 N] 4, #[]})::
(!656,{(T "type"),none,.cls {"Makes",[(T "object")],[(R 656),(T "object")],655,"Makes",true,[],[],false,none,false}, #[none,none,some (S "Makes" 981),some (S "Makes" 989),some (.builtin "object.__new__"),some (B true)]})::
(!664,c [(S "empty_row" 1046),(S "empty_row" 1047),(F 1048),(I 363),(I 1),(I 0),(I 0),(I 3),(R 661),(B true),(I 181),(R 662),N,N,N,(R 663),(I 1049),(I 363),(F 1050)])::
(!665,f t.jM)::
(!678,ob "__init__" "Slots.__init__" 1064 367 1 673 1068)::
(!679,f t.gV)::
(!685,ob "put" "Slots.put" 1071 372 3 680 1078)::
(!686,f t.je)::
(!699,ob "get" "Slots.get" 1089 388 2 694 1095)::
(!700,f t.jg)::
(!706,ob "has" "Slots.has" 1098 394 2 701 1103)::
(!707,f t.jf)::
(!713,ob "many" "Slots.many" 1106 397 1 708 1110)::
(!714,f t.gU)::
(!751,ob "cell_of" "Slots.cell_of" 1148 423 2 746 1156)::
(!752,f t.eF)::
(!765,ob "move_slot" "Slots.move_slot" 1173 440 1 760 1181)::
(!766,f t.du)::
(!772,ob "begin_row" "Slots.begin_row" 1184 453 1 767 1189)::
(!773,f t.dw)::
(!775,{(T "dict"),none,.dict #[E P "__module__" 1059 (S "staywalk.slots" 1040),E P "__firstlineno__" 1063 (.int 365 1062),ea P "__init__" 1070 679,ea P "put" 1080 686,ea P "drop" 1088 693,ea P "get" 1097 700,ea P "has" 1105 707,ea P "many" 1112 714,ea P "rows" 1118 719,ea P "moved" 1125 726,ea P "cells" 1132 733,ea P "span" 1138 738,ea P "stop" 1147 745,ea P "cell_of" 1158 752,ea P "lying_at" 1172 759,ea P "move_slot" 1183 766,ea P "begin_row" 1191 773,ea P "__static_attributes__" 1195 774,ea P "__dict__" 1197 777,ea P "__weakref__" 1199 778,E P "__doc__" 1200 N] 4, #[]})::
(!776,{(T "type"),none,.cls {"Slots",[(T "object")],[(R 776),(T "object")],775,"Slots",true,[],[],false,none,false}, #[none,none,some (S "Slots" 1052),some (S "Slots" 1060),some (.builtin "object.__new__"),some (B true)]})::
(!793,ob "__init__" "House.__init__" 1217 464 1 788 1221)::
(!794,f t.g8)::
(!800,ob "put" "House.put" 1224 474 3 795 1230)::
(!801,f t.jh)::
(!814,ob "get" "House.get" 1241 485 2 809 1246)::
(!815,f t.ji)::
(!828,ob "many" "House.many" 1257 491 1 823 1261)::
(!829,f t.g7)::
(!837,{(T "tuple"),none,.seq #[(.int 0 1271)] 0, #[]})::
(!843,ob "diary" "House.diary" 1272 499 2 838 1277)::
(!844,f t.dU)::
(!898,ob "done" "House.done" 1335 539 3 893 1342)::
(!899,f t.g9)::
(!915,{(T "dict"),none,.dict #[E P "__module__" 1212 (S "staywalk.house" 1203),E P "__firstlineno__" 1216 (.int 462 1215),ea P "__init__" 1223 794,ea P "put" 1232 801,ea P "drop" 1240 808,ea P "get" 1248 815,ea P "has" 1256 822,ea P "many" 1263 829,ea P "lay_mark" 1270 836,ea P "diary" 1279 844,ea P "makes" 1287 851,ea P "hold" 1294 858,ea P "let_go" 1302 865,ea P "held" 1309 872,ea P "sweep" 1318 879,ea P "was" 1327 886,ea P "page_at" 1334 892,ea P "done" 1344 899,ea P "refuse_outside" 1352 906,ea P "value_then" 1361 913,ea P "__static_attributes__" 1370 914,ea P "__dict__" 1372 917,ea P "__weakref__" 1374 918,E P "__doc__" 1375 N] 4, #[]})::
(!916,{(T "type"),none,.cls {"House",[(T "object")],[(R 916),(T "object")],915,"House",true,[],[],false,none,false}, #[none,none,some (S "House" 1205),some (S "House" 1213),some (.builtin "object.__new__"),some (B true)]})::
(!924,c [(S "are_figures" 1386),(S "are_figures" 1387),(F 1388),(I 558),(I 1),(I 0),(I 0),(I 3),(R 921),(B true),(I 181),(R 922),N,N,N,(R 923),(I 1389),(I 558),(F 1390)])::
(!925,f t.gN)::
(!931,oa "read_whole" 1392 564 1 926 1398)::
(!932,f t.i4)::
(!938,oa "read_bound" 1401 572 1 933 1405)::
(!939,f t.i8)::
(!945,oa "read_token" 1408 579 1 940 1415)::
(!946,f t.i5)::
(!952,oa "row_of" 1420 595 2 947 1425)::
(!953,f t.qI)::
(!957,c [(S "rows_of" 1428),(S "rows_of" 1429),(F 1430),(I 597),(I 1),(I 0),(I 0),(I 3),(R 954),(B true),(I 181),(R 955),N,N,N,(R 956),(I 1431),(I 597),(F 1432)])::
(!958,f t.nJ)::
(!959,{(T "dict"),none,.dict #[ea P "put" 1436 960,ea P "drop" 1440 961,ea P "get" 1443 962,ea P "many" 1446 963,ea P "page" 1448 964,ea P "hold" 1452 965,ea P "free" 1454 966,ea P "sweep" 1457 967,ea P "now" 1459 968,ea P "at" 1461 969,ea P "past" 1465 970,ea P "copy" 1470 971,ea P "open" 1473 972,ea P "read" 1475 973,ea P "close" 1478 974,ea P "follow" 1480 975,ea P "show" 1483 976,ea P "covers" 1485 978,ea P "total" 1487 979,ea P "stop" 1488 980,ea P "keep" 1489 981] 21, #[]})::
(!960,{(T "tuple"),none,.seq #[(S "KEY" 1437),(S "VALUE" 1438)] 0, #[]})::
(!961,{(T "tuple"),none,.seq #[(S "KEY" 1441)] 0, #[]})::
(!962,{(T "tuple"),none,.seq #[(S "KEY" 1444)] 0, #[]})::
(!963,{(T "tuple"),none,.seq #[] 0, #[]})::
(!964,{(T "tuple"),none,.seq #[(S "TOKEN" 1449),(S "MANY" 1450)] 0, #[]})::
(!965,{(T "tuple"),none,.seq #[] 0, #[]})::
(!966,{(T "tuple"),none,.seq #[(S "MOMENT" 1455)] 0, #[]})::
(!967,{(T "tuple"),none,.seq #[] 0, #[]})::
(!968,{(T "tuple"),none,.seq #[] 0, #[]})::
(!969,{(T "tuple"),none,.seq #[(S "KEY" 1462),(S "MOMENT" 1463)] 0, #[]})::
(!970,{(T "tuple"),none,.seq #[(S "MOMENT" 1466),(S "TOKEN" 1467),(S "MANY" 1468)] 0, #[]})::
(!971,{(T "tuple"),none,.seq #[(S "TOKEN" 1471)] 0, #[]})::
(!972,{(T "tuple"),none,.seq #[] 0, #[]})::
(!973,{(T "tuple"),none,.seq #[(S "MANY" 1476)] 0, #[]})::
(!974,{(T "tuple"),none,.seq #[] 0, #[]})::
(!975,{(T "tuple"),none,.seq #[(S "STEPS" 1481)] 0, #[]})::
(!976,{(T "tuple"),none,.seq #[] 0, #[]})::
(!978,{(T "tuple"),none,.seq #[(S "KEY" 1486)] 0, #[]})::
(!979,{(T "tuple"),none,.seq #[] 0, #[]})::
(!980,{(T "tuple"),none,.seq #[] 0, #[]})::
(!981,{(T "tuple"),none,.seq #[] 0, #[]})::
(!987,oa "read_order" 1497 603 1 982 1504)::
(!988,f t.i7)::
(!994,oa "read_things" 1507 614 2 989 1516)::
(!995,f t.gM)::
(!1001,oa "read_thing" 1519 624 2 996 1525)::
(!1002,f t.i6)::
(!1008,oa "may_be" 1528 634 2 1003 1533)::
(!1009,f t.qJ)::
(!1015,oa "answer_put" 1538 641 2 1010 1543)::
(!1016,f t.i9)::
(!1029,oa "answer_get" 1554 647 2 1024 1559)::
(!1030,f t.jb)::
(!1036,oa "answer_many" 1562 649 2 1031 1567)::
(!1037,f t.gO)::
(!1076,oa "answer_now" 1608 665 2 1071 1613)::
(!1077,f t.ja)::
(!1097,oa "answer_copy" 1633 672 2 1092 1638)::
(!1098,f t.gQ)::
(!1158,oa "answer_keep" 1704 696 2 1153 1709)::
(!1159,f t.gP)::
(!1160,{(T "dict"),none,.dict #[ea P "put" 1712 1016,ea P "drop" 1714 1023,ea P "get" 1716 1030,ea P "many" 1718 1037,ea P "page" 1720 1049,ea P "hold" 1722 1056,ea P "free" 1724 1063,ea P "sweep" 1726 1070,ea P "now" 1728 1077,ea P "at" 1730 1084,ea P "past" 1732 1091,ea P "copy" 1734 1098,ea P "open" 1736 1105,ea P "read" 1738 1112,ea P "close" 1740 1119,ea P "follow" 1742 1126,ea P "show" 1744 1131,ea P "covers" 1746 1138,ea P "total" 1747 1145,ea P "stop" 1748 1152,ea P "keep" 1749 1159] 21, #[]})::
(!1162,{(T "tuple"),none,.seq #[(S "open" 1755),(S "read" 1756),(S "close" 1757),(S "follow" 1758),(S "show" 1759),(S "covers" 1760),(S "total" 1761),(S "stop" 1762)] 0, #[]})::
(!1175,ob "__init__" "Desk.__init__" 1776 702 1 1170 1780)::
(!1176,f t.jj)::
(!1182,ob "say" "Desk.say" 1783 706 2 1177 1791)::
(!1183,f t.jO)::
(!1185,{(T "dict"),none,.dict #[E P "__module__" 1771 (S "staywalk.desk" 1536),E P "__firstlineno__" 1775 (.int 700 1774),ea P "__init__" 1782 1176,ea P "say" 1793 1183,ea P "__static_attributes__" 1796 1184,ea P "__dict__" 1798 1187,ea P "__weakref__" 1800 1188,E P "__doc__" 1801 N] 4, #[]})::
(!1186,{(T "type"),none,.cls {"Desk",[(T "object")],[(R 1186),(T "object")],1185,"Desk",true,[],[],false,none,false}, #[none,none,some (S "Desk" 1764),some (S "Desk" 1772),some (.builtin "object.__new__"),some (B true)]})::
(!1196,oa "_law_cell_at" 1806 714 2 1191 1811)::
(!1197,f t.fI)::
(!1203,oa "_law_number" 1814 718 1 1198 1818)::
(!1204,f t.gR)::
(!1210,oa "_law_token" 1821 720 2 1205 1829)::
(!1211,f t.jd)::
(!1217,oa "_law_words" 1832 729 1 1212 1840)::
(!1218,f t.jc)::
(!1224,oa "_law_put" 1843 745 3 1219 1849)::
(!1225,f t.lC)::
(!1231,oa "_law_otherwise" 1852 747 2 1226 1858)::
(!1232,f t.eE)::
(!1236,c [(S "_law_other_number" 1861),(S "_law_other_number" 1862),(F 1863),(I 752),(I 2),(I 0),(I 0),(I 3),(R 1233),(B true),(I 181),(R 1234),N,N,N,(R 1235),(I 1864),(I 752),(F 1865)])::
(!1237,f t.cZ)::
(!1243,oa "_law_other_many" 1867 758 2 1238 1872)::
(!1244,f t.dQ)::
(!1250,oa "_law_other_token" 1875 762 2 1245 1883)::
(!1251,f t.dt)::
(!1257,oa "_law_spoiled" 1886 775 2 1252 1894)::
(!1258,f t.fG)::
(!1264,oa "_law_refused" 1897 796 2 1259 1904)::
(!1265,f t.fH)::
(!1271,oa "law" 1907 804 1 1266 1916)::
(!1272,f t.yi)::[]
noncomputable abbrev as:List Addr:=[2,3,30,31,43,44,55,56,67,68,79,80,95,96,98,99,114,115,117,118,155,156,171,172,185,186,206,207,213,214,234,235,244,245,257,263,264,273,274,284,290,291,300,301,311,317,318,327,328,431,437,438,525,526,543,544,548,549,562,563,579,580,591,592,598,599,608,609,626,627,633,634,655,656,664,665,678,679,685,686,699,700,706,707,713,714,751,752,765,766,772,773,775,776,793,794,800,801,814,815,828,829,837,843,844,898,899,915,916,924,925,931,932,938,939,945,946,952,953,957,958,959,960,961,962,963,964,965,966,967,968,969,970,971,972,973,974,975,976,978,979,980,981,987,988,994,995,1001,1002,1008,1009,1015,1016,1029,1030,1036,1037,1076,1077,1097,1098,1158,1159,1160,1162,1175,1176,1182,1183,1185,1186,1196,1197,1203,1204,1210,1211,1217,1218,1224,1225,1231,1232,1236,1237,1243,1244,1250,1251,1257,1258,1264,1265,1271,1272]
noncomputable abbrev p:Program:=PySem.Challenge.pw_staywalk_k71_what_is_no_row
abbrev q:Program:=view p [111]
abbrev H:Hook:=kHook K as λ_=>rfl
def said:OpenLaw.wellSaid PySem.Challenge.rw_staywalk_k71_what_is_no_row=true:=by
 rw[Fast.te9446332074065402090]
 kernel_rfl
noncomputable abbrev M':Nat:=19228
noncomputable abbrev L:List Str:="__name__"::"__doc__"::"__package__"::"__loader__"::"__spec__"::"__annotations__"::"__builtins__"::"__file__"::"__cached__"::"_wall"::"WalkError"::"NoToken"::"NoText"::"NoRow"::"OutOfTurn"::"NoKey"::"Twice"::"TooOld"::"NoMoment"::"BITS"::"PLACES"::"turned"::"mark_of"::"place_of"::"slot_of"::"stretch_of"::"slot_at"::"is_whole"::"is_from"::"word_of"::"Token"::"BySlots"::"Up"::"Down"::"STRETCHES_A_KEY"::"ask"::"page_by_slots"::"page_by_keys"::"keys_of_page"::"keys_near"::"token_behind"::"is_left"::"change"::"Page"::"Copier"::"MOST_IN_LEAF"::"LEAST_IN_TWO"::"Leaves"::"Makes"::"LEAST_SIZE"::"GREATEST_SIZE"::"empty_row"::"Slots"::"House"::"FIGURES"::"MOST_FIGURES"::"WORDS_OF_TOKEN"::"are_figures"::"read_whole"::"read_bound"::"read_token"::"row_of"::"rows_of"::"FORMS"::"MOST_KEYS"::"read_order"::"read_things"::"read_thing"::"may_be"::"answer_put"::"answer_drop"::"answer_get"::"answer_many"::"page_told"::"answer_page"::"answer_hold"::"answer_free"::"answer_sweep"::"answer_now"::"answer_at"::"answer_past"::"answer_copy"::"answer_open"::"answer_read"::"answer_close"::"answer_follow"::"answer_show"::"answer_covers"::"answer_total"::"answer_stop"::"answer_keep"::"ANSWERS"::"OF_COPIER"::"Desk"::"_law_cell_at"::"_law_number"::"_law_token"::"_law_words"::"_law_put"::"_law_otherwise"::"_law_other_number"::"_law_other_many"::"_law_other_token"::"_law_spoiled"::"_law_refused"::[]
abbrev X:Shared->Bool:=λs=>xlAt q [] s&&recOk [] s
def lAf:∀w:World,(HD.endP p (w.withFollow "special-get-raises" false) M').map (λs=>(((HD.gA q s,HD.gB p q L X s),HD.gC q L s),Hook.obs H s))=some (((((openGood q L).1,(openGood q L).2.1),(true,true)),(openGood q L).2.2.2.2),Hook.val H (w.withFollow "special-get-raises" false)):=λw=>by kernel_rfl
def lAt:∀w:World,(HD.endP p (w.withFollow "special-get-raises" true) M').map (λs=>(((HD.gA q s,HD.gB p q L X s),HD.gC q L s),Hook.obs H s))=some (((((openGood q L).1,(openGood q L).2.1),(true,true)),(openGood q L).2.2.2.2),Hook.val H (w.withFollow "special-get-raises" true)):=λw=>by kernel_rfl
def lA:∀w,(HD.endP p w M').map (λs=>(((HD.gA q s,HD.gB p q L X s),HD.gC q L s),Hook.obs H s))=some (((((openGood q L).1,(openGood q L).2.1),(true,true)),(openGood q L).2.2.2.2),Hook.val H w):=byRow2 "special-get-raises" lAf lAt
def left:LeftO p q L X (Hook.obs H) (Hook.val H) M':=HD.left_of (λw=>(HD.two<|lA w).1) (λw=>(HD.two<|lA w).2)
end ZK
abbrev aF:="self"
abbrev bz:="_law_words_here"
abbrev cb:="ValueError.__new__"
abbrev cf:="__debug__"
abbrev ci:="key"
abbrev cj:="TOKEN"
abbrev cs:="tuple"
abbrev cx:="_law_script"
abbrev cy:="_law_cell"
abbrev cC:="__init__"
abbrev dv:="BaseException.__getattribute__"
abbrev eN:="ValueError.__init__"
abbrev ff:="BaseException"
abbrev fo:="past"
abbrev ge:="object.__class__"
abbrev gm:="ValueError"
abbrev gp:="given"
abbrev gr:="slots"
abbrev gt:="MANY"
abbrev hH:="VALUE"
abbrev hQ:="MOMENT"
abbrev ih:="value"
abbrev iA:="KEY"
abbrev i1:="list"
abbrev i3:="getset_descriptor.__get__"
abbrev jN:="desk"
abbrev j0:="type.__call__"
abbrev kt:="leaves"
abbrev lm:="thing"
abbrev mu:="page"
abbrev nj:="isinstance"
abbrev oh:="__getattribute__"
abbrev ox:="at"
abbrev pp:="house"
abbrev p0:="put"
abbrev qs:="str"
abbrev ro:="text"
abbrev rr:="read"
abbrev rs:=" "
abbrev so:="0123456789"
abbrev ub:="copy"
abbrev u0:="end"
abbrev u3:="range"
namespace L2
open PySem PySem.Spec PyProof.Rows
abbrev Key:=Sum Int Str
noncomputable def jJ:Key->Value->Bool
 | .inl k,v=>Value.isInt k v
 | .inr x,v=>Value.isStrOf x v
noncomputable def keyH(w:Kj):Key->Int
 | .inl k=>hashInt k
 | .inr x=>hashStr w x
def bW:∀{k:Key}{v:Kb},jJ k v=true->(∃i t,k=Sum.inl i/\v=Value.int i t)\/(∃x t,k=Sum.inr x/\v=Value.str x t)
 | .inl i,v,h=>by
  let{t,e}:=Value.isInt_shape (k:=i) (v:=v) h;exact .inl ⟨i,t,M,e⟩
 | .inr x,v,h=>by
  let{t,e}:=Value.isStrOf_shape (x:=x) (v:=v) h;exact .inr ⟨x,t,M,e⟩
def y9(i:Int)(t:Tok):jJ (.inl i) (.int i t)=true:=by simp[jJ,Value.isInt]
def y8(x:Str)(t:Tok):jJ (.inr x) (.str x t)=true:=by simp[jJ,Value.isStrOf]
def FE(a b:Int):decide ((Sum.inl a:Key)=Sum.inl b)=(a==b):=by
 by_cases e:a=b
 .subst e;simp
 .have h:¬(Sum.inl a:Key)=Sum.inl b:=λq=>e (Sum.inl.inj q);rw[Xh h];exact(Xq.mpr e).symm
def FB(a b:Str):decide ((Sum.inr a:Key)=Sum.inr b)=decide (a=b):=by
 by_cases e:a=b
 .subst e;simp
 .have h:¬(Sum.inr a:Key)=Sum.inr b:=λq=>e (Sum.inr.inj q);rw[Xh h,Xh e]
def FD(a:Int)(b:Str):decide ((Sum.inl a:Key)=Sum.inr b)=false:=Xh (λq=>nomatch q)
def FC(a:Str)(b:Int):decide ((Sum.inr a:Key)=Sum.inl b)=false:=Xh (λq=>nomatch q)
def bG(prog:Ki)(w:Kj):PySem.KeyKind prog w Key where
 is:=jJ
 hash:=keyH w
 inj:=λv a b ha hb=>by
  rcases bW ha with⟨i,t,rfl,rfl⟩|⟨x,t,rfl,rfl⟩
  .rcases bW hb with⟨j,u,rfl,e⟩|⟨y,u,rfl,e⟩
   .injection e with e1 _;rw[e1]
   .exact nomatch e
  .rcases bW hb with⟨j,u,rfl,e⟩|⟨y,u,rfl,e⟩
   .exact nomatch e
   .injection e with e1 _;rw[e1]
 byValue:=λk v h=>by
  rcases bW h with⟨i,t,rfl,rfl⟩|⟨x,t,rfl,rfl⟩<;>rfl
 pyHash:=λhv h=>by
  rcases bW hv with⟨i,t,rfl,rfl⟩|⟨x,t,rfl,rfl⟩
  .exact wpAny_pyHash_int h
  .exact wpAny_pyHash_str h
 eqBool:=λhu hv h=>by
  rcases bW hu with⟨i,t,rfl,rfl⟩|⟨x,t,rfl,rfl⟩
  .rcases bW hv with⟨j,u,rfl,rfl⟩|⟨y,u,rfl,rfl⟩
   .rw[FE]at h;exact wpAny_eqBool_int h
   .rw[FD]at h;exact SeqAt.EqAt.int_str i t y u _ _ _ _ h
  .rcases bW hv with⟨j,u,rfl,rfl⟩|⟨y,u,rfl,rfl⟩
   .rw[FC]at h;exact SeqAt.EqAt.str_int x t j u _ _ _ _ h
   .rw[FB]at h;exact wpAny_eqBool_str h
 «strs»:=λk x t v h=>by
  rcases bW h with⟨i,u,rfl,e⟩|⟨y,u,rfl,e⟩
  .exact nomatch e
  .injection e with e1 _;subst e1;cases v<;>rfl
def wT(prog:Ki)(w:Kj)(k:Key)(v:Kb):(bG prog w).is k v=jJ k v:=rfl
def vA(prog:Ki)(w:Kj)(i:Int)(t:Tok):(bG prog w).is (.inl i) (.int i t)=true:=y9 i t
def jH(prog:Ki)(w:Kj)(x:Str)(t:Tok):(bG prog w).is (.inr x) (.str x t)=true:=y8 x t
inductive V where
 |non|bl (b:Bool)|int (i:Int)|str (x:Str)|byt (b:Array UInt8)|flt (b:UInt64)|ref (a:B')|ty (n:String)
 deriving DecidableEq
abbrev _root_.Ke:=List V
variable{a b:B'}{o u:HO}{h h':Heap}{H:Hp}{xs:Ke}{us:Kd}{P:Ki}{w:Kj}
def RelV:V->Value->Prop
 | .non,u=>u=Value.none
 | .bl b,u=>u=Value.bool b
 | .int i,u=>∃t,u=Value.int i t
 | .str x,u=>∃t,u=Value.str x t
 | .byt b,u=>∃t,u=Value.bytes b t
 | .flt b,u=>∃t,u=Value.float b t
 | .ref a,u=>u=Value.ref a
 | .ty n,u=>u=Value.type n
abbrev HV:List V->List Value->Prop:=Paired RelV
def HV.length(r:HV xs us):xs.length=us.length:=Paired.length r
def HV.get{xs:Ke}{us:Kd}{i:Nat}{x:V}(h:HV xs us)(e:xs[i]?=some x):∃u,us[i]?=some u/\RelV x u:=by
 induction h generalizing i with
 |nil=>cases e
 |cons r t z=>cases i with
  |zero=>cases e;exact{_,M,r}
  |succ i=>exact z e
def HV.set{x:V}{u:Kb}(r:RelV x u)(i:Nat)(h:HV xs us):HV (xs.set i x) (us.set i u):=by
 induction h generalizing i with
 |nil=>exact .nil
 |cons q t z=>cases i with
  |zero=>exact .cons r t
  |succ i=>exact .cons q<|z i
def HV.append{ys:Ke}{ws:Kd}(h:HV xs us)(s:HV ys ws):HV (xs++ys) (us++ws):=by
 induction h with
 |nil=>exact s
 |cons r t z=>exact .cons r z
theorem HV.take:∀{xs:Ke}{us:Kd}(n:Nat),HV xs us->HV (xs.take n) (us.take n)
 |_,_,0,_=> .nil
 |_,_,_+1,.nil=> .nil
 |_,_,n+1,.cons r t=> .cons r (HV.take n t)
theorem HV.drop:∀{xs:Ke}{us:Kd}(n:Nat),HV xs us->HV (xs.drop n) (us.drop n)
 |_,_,0,r=>r
 |_,_,_+1,.nil=> .nil
 |_,_,n+1,.cons _ t=>HV.drop n t
def Ig:Option V->Option Value->Prop
 |some v,some u=>RelV v u
 |none,none=>True
 |_,_=>False
def KV{κ:Type}:List (κ×V)->List (κ×Value)->Prop:=Paired λ(p:κ×V)(q:κ×Value)=>p.1=q.1/\RelV p.2 q.2
noncomputable def kV:Key->V
 | .inl i=> .int i
 | .inr x=> .str x
abbrev _root_.Ko:=Array Value
abbrev _root_.Ks:=List (Str×V)
abbrev _root_.Kv:=List (Key×V)
abbrev _root_.K':=Heap->Prop
abbrev _root_.Lc:=List (List Key×V)
inductive HO where
 |lst(xs:Ke)
 |tup(xs:Ke)
 |dK (kvs:Kv)|dT (kvs:Lc)
 |set(S:Int->Bool)(n:Nat)
 |ins(C dx:B')(fs:Ks)
 |own(x:B')
 |xd(fs:Ks)
 |met(f x:B')
 |rng(lo hi:Int)
 |frz(o:Obj)(u:HO)
 |tbl(ps:Ko)
 |ext(φ:K')
abbrev Hp:=Addr->Option HO
def upd(H:Hp)(a:B')(o:HO):Hp:=λb=>if b=a then some o else H b
def BB:upd H a o a=some o:=by unfold upd;rw[Xe M]
def ah(h:b≠a):upd H a o b=H b:=by unfold upd;rw[Xc h]
def bS:upd (upd H a o) a u=upd H a u:=by
 funext b;unfold upd;split<;>rfl
def cI(h:H a=some o)(h':H b=some u)(d:o≠u):a≠b:=by
 intro e;subst e;rw[h]at h';exact d<|Xf h'
def aq(h:H a=some o)(h':H b=none):a≠b:=by
 intro e;subst e;rw[h]at h';cases h'
section
variable(P:Ki)(w:Kj)
def HZ(H:Hp)(h:Heap)(a:B'):HO->Prop
 | .lst xs=>xs.length<=sizeLine/\∃(its:Kd)(n:Nat),HV xs its/\h.get? a=some {cls:= .type i1,data:= .seq its.toArray n}
 | .tup xs=>xs.length<=sizeLine/\∃its:List Value,HV xs its/\IsTup h a its.toArray
 | .dK kvs=>kvs.length<=sizeLine/\(a==sysModules)=false/\∃vs,KV kvs vs/\h.DictOf (bG P w) a vs
 | .dT kvs=>kvs.length<=sizeLine/\(a==sysModules)=false/\∃xs:List (List Key×Addr×Value),
   Paired (λ(p:List Key×V)(q:List Key×Addr×Value)=>p.1=q.1/\H q.2.1=some (.tup<|p.1.map kV)/\RelV p.2 q.2.2) kvs xs/\
   ∃o es ep,h.get? a=some o/\o.ExactDict/\o.data= .dict es ep/\es.toList=xs.map (entryOfKey<|tupleKind<|bG P w)/\(xs.map (·.1)).Nodup
 | .set S n=>h.SetOf (intKind P w) a S n
 | .ins C dx fs=>H dx=some (.own a)/\fs.length<=1000/\dx≠a/\h.get? a=some (PySem.W.instObj C dx)/\
   ∃mA,h.Ns1 dx mA/\(∀f,Ig (fs.lookup f) (mA f))/\PySem.Within mA (fs.map (·.1))
 | .own _=>∃o,h.get? a=some o
 | .xd fs=>∃mA,h.Ns1 a mA/\∀f,Ig (fs.lookup f) (mA f)
 | .rng lo hi=>∃t u v,h.get? a=some {cls:= .type u3,data:= .fields #[.int lo t,.int hi u,.int 1 v]}
 | .frz o u=>h.get? a=some o/\HZ H h a u
 | .tbl ps=>h.get? a=some {cls:= .none,data:= .fields ps}
 | .met f x=>h.get? a=some (PySem.W.methodObj (.ref f)<|.ref x)
 | .ext φ=>φ h/\(∃o,h.get? a=some o)/\∀h1 h2:Heap,φ h1->(∀o,h1.get? a=some o->h2.get? a=some o)->φ h2
def IR(H:Hp)(h:Heap):Prop:=∀a o,H a=some o->HZ P w H h a o
end
section
variable{H':Hp}
def HZ.lt(x:HZ P w H h a o):a<h.objs.size:=by
 cases o with
 |lst xs=>let{_,_,_,_,e}:=x;exact Xi e
 |tup xs=>let{_,_,_,p}:=x;exact p.lt
 |dK kvs=>let{_,_,_,_,o,_,_,e,_}:=x;exact Xi e
 |dT kvs=>let{_,_,_,_,o,_,_,e,_}:=x;exact Xi e
 |set S n=>let{o,_,_,_,e,_}:=x;exact Xi e
 |ins C dx fs=>let{_,_,_,e,_}:=x;exact Xi e
 |own y=>let{_,e}:=x;exact Xi e
 |xd fs=>let{_,{_,_,_,e,_},_}:=x;exact Xi e
 |rng lo hi=>let{_,_,_,e}:=x;exact Xi e
 |frz ob u=>let{e,_}:=x;exact Xi e
 |tbl ps=>exact Xi<|show h.get? a=some _ from x
 |met f y=>exact Xi<|show h.get? a=some _ from x
 |ext φ=>let{_,{_,e},_}:=x;exact Xi e
def Paired.mapP{α β:Type}{F G:α->β->Prop}{z:List α}{l₂:List β}(h:Paired F z l₂)(f:∀a b,F a b->G a b):Paired G z l₂:=by
 induction h with
 |nil=>exact .nil
 |cons r t I=>exact .cons (f _ _ r) I
def HZ.stay(x:HZ P w H h a o)(k:∀b u,(b=a\/H b=some (.own a))->h.get? b=some u->h'.get? b=some u)
  (I:∀b,H b=some (.own a)->H' b=some (.own a)) (O:∀b xs,H b=some (.tup xs)->H' b=some (.tup xs)):HZ P w H' h' a o:=by
 induction o with
 |lst xs=>let{z,its,n,r,e}:=x;exact{z,its,n,r,k _ _ (.inl M) e}
 |tup xs=>let{z,its,r,ob,e,c}:=x;exact{z,its,r,ob,k _ _ (.inl M) e,c}
 |dK kvs=>let{z,y,vs,r,ob,es,ep,e,c}:=x;exact{z,y,vs,r,ob,es,ep,k _ _ (.inl M) e,c}
 |dT kvs=>
  let{z,y,xs,r,ob,es,ep,e,c}:=x;exact{z,y,xs,Paired.mapP r λp q z=>{z.1,O _ _ z.2.1,z.2.2},ob,es,ep,k _ _ (.inl M) e,c}
 |set S n=>let{ob,es,ep,t,e,c}:=x;exact{ob,es,ep,t,k _ _ (.inl M) e,c}
 |ins C dx fs=>
  let{d,z,ne,e,mA,{od,es,ep,e2,c},r}:=x;exact{I _ d,z,ne,k _ _ (.inl M) e,mA,{od,es,ep,k _ _ (.inr d) e2,c},r}
 |own y=>let{ob,e}:=x;exact{ob,k _ _ (.inl M) e}
 |xd fs=>let{mA,{od,es,ep,e,c},r}:=x;exact{mA,{od,es,ep,k _ _ (.inl M) e,c},r}
 |rng lo hi=>let{t,u,v,e}:=x;exact{t,u,v,k _ _ (.inl M) e}
 |frz ob u U=>let{e,q}:=x;exact{k _ _ (.inl M) e,U q}
 |tbl ps=>
  have e:h.get? a=some {cls:= .none,data:= .fields ps}:=x;show h'.get? a=some {cls:= .none,data:= .fields ps};exact k a _ (.inl M) e
 |met f y=>
  have e:h.get? a=some (PySem.W.methodObj (.ref f)<|.ref y):=x;show h'.get? a=some (PySem.W.methodObj (.ref f)<|.ref y);exact k a _ (.inl M) e
 |ext φ=>let{p,{o,e},st}:=x;exact{st _ _ p λo q=>k _ _ (.inl M) q,{o,k _ _ (.inl M) e},st}
def IR.lt(x:IR P w H h)(e:H a=some o):a<h.objs.size:=(x a o e).lt
def IR.fresh(x:IR P w H h)(e:h.objs.size<=a):H a=none:=by
 cases q:H a with
 |none=>rfl
 |some u=>exact Xd (Ql (x.lt q) e)<|Zj _
def IR.kept(x:IR P w H h)(k:∀b u,h.get? b=some u->h'.get? b=some u):IR P w H h':=λa o e=>
 (x a o e).stay (λb u _ q=>k b u q) (λ_ q=>q) λ_ _ q=>q
def IR.laid(x:IR P w H h)(k:∀b u,h.get? b=some u->h'.get? b=some u)(hp:h.objs.size<=a)(new:HZ P w (upd H a o) h' a o):IR P w (upd H a o) h':=λb u e=>by
 have z:=x.fresh hp;by_cases hb:b=a
 .subst hb;rw[BB]at e;cases e;exact new
 .rw[ah hb]at e;exact(x b u e).stay (λc v _ q=>k c v q) (λc q=>by rw[ah (aq q z)];exact q) λc xs q=>by rw[ah (aq q z)];exact q
end
def Rd(H:Hp)(a:B')(u:HO):Prop:=H a=some u\/∃o,H a=some (.frz o u)
def Rd.ok(r:Rd H a u)(x:IR P w H h):HZ P w H h a u:=by
 rcases r with r|⟨o,r⟩
 .exact x a u r
 .let{_,q}:=x a _ r;exact q
def Mut:Option HO->Prop
 |some (.lst _)=>True
 |some (.dK _)=>True
 |some (.dT _)=>True
 |some (.set _ _)=>True
 |some (.ins _ _ _)=>True
 |some (.ext _)=>True
 |_=>False
section
variable{x e:B'}{o':HO}
def IR.write(ok:IR P w H h)(U:Mut (H x))(he:e=x\/H e=some (.own x))(k:∀b u,b≠e->h.get? b=some u->h'.get? b=some u)(Y:∃u,h'.get? e=some u)
  (new:HZ P w (upd H x o') h' x o'):IR P w (upd H x o') h':=λb u q=>by
 have O:∀c y,H c=some (.own y)->c≠x:=λc y r z=>by subst z;rw[r]at U;exact U
 have S:∀c xs,H c=some (.tup xs)->c≠x:=λc xs r z=>by subst z;rw[r]at U;exact U
 by_cases hb:b=x
 .subst hb;rw[BB]at q;cases q;exact new
 .rw[ah hb]at q;by_cases I:b=e
  .have q':H b=some (.own x):=by
    rcases he with z|z
    .exact Xd (I.trans z) hb
    .rwa[I]
   rw[q]at q';cases q';let{v,Z}:=Y;exact{v,by rwa[I]}
  .refine(ok b u q).stay (λc v hc r=>k c v ?_ r) (λc r=>by rwa[ah (O c b r)]) λc xs r=>by rwa[ah (S c xs r)]
   rcases hc with rfl|hc
   .exact I
   .rintro rfl;rcases he with z|z
    .exact O c b hc z
    .rw[hc]at z;cases z;exact hb M
end
abbrev _root_.Km:=List Addr
structure Un(fs ex:Km)(H H':Hp)(h h':Heap):Prop where
 keep:∀b o,h.get? b=some o->H b=none->b∉fs->b∉ex->h'.get? b=some o
 slot:∀b o,h.get? b=some o->H b=none->b∈fs->b∉ex->∃sl,h'.get? b=some {o with slots:=sl}
 free:∀b o,h.get? b=some o->H b=none->b∉ex->H' b=none
 there:∀b o,h.get? b=some o->b∉ex->∃o',h'.get? b=some o'
 tups:∀b xs,H b=some (.tup xs)->H' b=some (.tup xs)
 frzs:∀b o u,H b=some (.frz o u)->H' b=some (.frz o u)
 tbls:∀b ps,H b=some (.tbl ps)->∃more,H' b=some (.tbl<|ps++more)
section
variable{fs fs' ex ex':Km}{H1 H2:Hp}{h1 h2:Heap}{x e:B'}
def Un.any(u:Un fs ex H H1 h h1){ob:Obj}(q:h.get? b=some ob)(n:H b=none)(hx:b∉ex):∃z,h1.get? b=some {ob with slots:=z}:=by
 by_cases hb:b∈fs
 .exact u.slot b ob q n hb hx
 .exact{ob.slots,u.keep b ob q n hb hx}
def Un.kept(k:∀b u,h.get? b=some u->h'.get? b=some u):Un fs ex H H h h':=
 {λb ob q _ _ _=>k b ob q,λb ob q _ _ _=>{ob.slots,k b ob q},λ_ _ _ n _=>n,λb ob q _=>{ob,k b ob q},λ_ _ q=>q,λ_ _ _ q=>q,λ_ ps q=>{#[],by rw[q];simp}}
def Un.refl:Un fs ex H H h h:=Un.kept λ_ _ q=>q
def Un.laid(k:∀b u,h.get? b=some u->h'.get? b=some u)(hp:h.objs.size<=a)(z:H a=none):Un fs ex H (upd H a o) h h' where
 keep:=λb u q _ _ _=>k b u q
 slot:=λb u q _ _ _=>{u.slots,k b u q}
 free:=λb u q n _=>by rwa[ah (Qs<|Ql (Xi q) hp)]
 there:=λb u q _=>{u,k b u q}
 tups:=λb xs q=>by rw[ah (aq q z)];exact q
 frzs:=λb u xs q=>by rw[ah (aq q z)];exact q
 tbls:=λb ps q=>{#[],by rw[ah (aq q z),q];simp}
def Un.write(O:Mut (H x))(he:e=x\/H e=some (.own x))(k:∀b u,b≠e->h.get? b=some u->h'.get? b=some u)(S:∃u,h'.get? e=some u):Un fs ex H (upd H x o) h h':=by
 have hx:∀b,H b=none->b≠x:=λb n z=>by subst z;rw[n]at O;exact O
 have hb:∀b,H b=none->b≠e:=λb n z=>by
  subst z;rcases he with r|r
  .exact hx b n r
  .rw[n]at r;cases r
 have U:∀b u,H b=some u->¬Mut (some u)->b≠x:=λb u q nm z=>by subst z;rw[q]at O;exact nm O
 refine{λb u q n _ _=>k b u (hb b n) q,λb u q n _ _=>{u.slots,k b u (hb b n) q},λb u q n _=>by rwa[ah (hx b n)],λb u q _=>?_,
  λb xs q=>by rw[ah (U b _ q λz=>z)];exact q,λb u xs q=>by rw[ah (U b _ q λz=>z)];exact q,λb ps q=>{#[],by rw[ah (U b _ q λz=>z),q];simp}}
 by_cases I:b=e
 .subst I;exact S
 .exact{u,k b u I q}
end
def KW(h:Heap)(H:Hp):List Addr:=(List.range h.objs.size).filter λa=>(H a).isSome
def um(h:Heap)(H:Hp):Heap:=PySem.W.hideAll h (KW h H)
def zd(h:Heap)(H:Hp):(um h H).objs.size=h.objs.size:=PySem.W.hideAll_size _ _
def Bk{o:Obj}(e:h.get? b=some o)(n:H b=none):(um h H).get? b=some o:=
 PySem.W.hideAll_get _ e λz=>by
  have q:(H b).isSome=true:=(List.mem_filter.mp z).2;rw[n]at q;simp at q
def C3{o:Obj}(e:(um h H).get? b=some o):h.get? b=some o/\H b=none:=by
 have I:h.get? b=some o:=PySem.W.of_hideAll (KW h H) e;refine{I,?_};cases q:H b with
 |none=>rfl
 |some x=>
  have O:b∈KW h H:=List.mem_filter.mpr {List.mem_range.mpr<|Xi I,by simp[q]};have z:(um h H).get? b=none:=PySem.W.hideAll_none (KW h H) O;rw[z]at e;cases e
abbrev J5:=PySem.W.Frag
abbrev _root_.Kf:=List (Addr×Obj)
abbrev _root_.Kn:=Value->Shared->Prop
abbrev _root_.Kp:=Around
abbrev _root_.Kr:=List Env
abbrev _root_.Kx:=List Expr
abbrev _root_.Kz:=List Stmt
abbrev _root_.Lg:=List (Str×Value)
variable{C a b dx f it:B'}{A:Kp}{g':Array GenState}{CX:CXT}{op:CmpOp}{X:Cx}{d':Drawn}{D:Iw}{c e l tg:Expr}{fd:Kt}{base h h':Heap}{H H':Hp}{lo:Int}{g:Int->Int->Int}{W:Kf}{kw:Lg}{ch fp:Km}{outer:Kr}{es:Kx}{body:Kz}{N ps:Kc}{vs xs:Ke}{us:Kd}{M':Model}{i j n t':Nat}{o:Lb}{p pos:Pos}{P prog:Ki}{K:J5}{r:R2}{R:Result->Shared->Prop}{scope:Scope}{s s':J'}{sp:Sp}{J:St}{m name qual x:Str}{t ta te tl:TE}{tb:TS}{tc:TT}{v y:V}{u:Kb}{E Q:Kn}{rd:V->V->Hp->VK->Prop}{w:Kj}
abbrev _root_.Kq:=Str->Option Value
structure Mod(K:J5)(mg:Kq)(base:Heap):Prop where
 kin:K.In base
 glob:base.Ns mainGlobals mg
 blt:∃mb,base.Ns builtinsNs mb/\∀x:Str,x≠"__name__"->mb x=bootBuiltins x
 nolimit:base.NoLimit
set_option genInjectivity false in
structure Cx where
 prog:Program
 w:World
 K:J5
 mg:Str->Option Value
 base:Heap
 A:Around
 N:List Str
 s₀:Shared
 H₀:Hp
 env:Env
 outer:List Env
 stack:List Env
 ex:List Addr
 fn:Str->Bool
 calm:Bool
 pn:List (Addr×Obj)
 xe:Value->Shared->Prop
noncomputable def JM(l:Kr):List Addr:=l.filterMap (·.frame)
abbrev Cx.fs(X:Cx):List Addr:=JM X.outer
def KP(sc:Scope)(x:Str):Prop:=sc.names.lookup x=some .local\/sc.names.lookup x=some .cell\/sc.names.lookup x=some .free
def Loc(sc:Scope)(x:Str):Prop:=sc.names.lookup x=some .local\/sc.names.lookup x=some .cell
def Look(env:Env)(h:Heap)(m:Kq)(x:Str)(u:Kb):Prop:=
 (env.kindOf x=some .local/\m x=some u)\/((env.kindOf x=some .cell\/env.kindOf x=some .free)/\∃c,env.cells.lookup x=some c/\h.IsCell c (some u))
structure Cx.Ok(X:Cx):Prop where
 mod:Mod X.K X.mg X.base
 kind:X.env.scope.kind= .function
 glob:X.env.globals=mainGlobals
 blt:X.env.builtins=builtinsNs
 above:X.s₀.heap.objs.size<=X.env.locals
 inj:∀x y c,X.env.cells.lookup x=some c->X.env.cells.lookup y=some c->x=y
 has:∀x,(X.env.kindOf x=some .cell\/X.env.kindOf x=some .free)->∃c,X.env.cells.lookup x=some c
 cab:∀x c,X.fn x=true->X.env.cells.lookup x=some c->X.s₀.heap.objs.size<=c
 hd:X.calm=true->X.A.handled=none
 frames:X.A.frames=some X.stack
 stk:X.stack=X.outer\/(X.stack=X.env::X.outer/\X.env.frame=some X.env.locals)
 exf:∀b∈X.ex,b≠X.env.locals/\∀x c,X.env.cells.lookup x=some c->c≠b
 bs:∀b o,X.base.get? b=some o->X.s₀.heap.get? b=some o/\X.H₀ b=none
 bsz:X.base.objs.size<=X.s₀.heap.objs.size
 noex:∀b o,X.base.get? b=some o->b∉X.ex
 exfs:∀b∈X.ex,b∉X.fs
 funs:X.s₀.heap.FunFrames X.base X.outer
 frf:∀b∈X.fs,X.H₀ b=none
structure Inv(X:Cx)(W:Kf)(J:List (Option V))(H:Hp)(s:J'):Prop where
 ok:X.Ok
 os:s.os=X.s₀.os
 bare:AllBare s.gens
 base:Un X.fs X.ex X.H₀ H X.s₀.heap s.heap
 loc:∃m,s.heap.Ns X.env.locals m/\∀(i:Nat)(x:Str)(v:V),X.N[i]?=some x->J[i]?=some (some v)->KP X.env.scope x->∃u,RelV v u/\Look X.env s.heap m x u
 cell:∀x c,X.env.cells.lookup x=some c->∃v,s.heap.IsCell c v
 free:H X.env.locals=none
 freeC:∀x c,X.env.cells.lookup x=some c->H c=none
 pin:∀p∈X.pn++W,s.heap.get? p.1=some p.2/\H p.1=none/\p.1≠X.env.locals/\p.1∉X.fs/\∀v,p.2.data≠ .cell v
 hok:IR X.prog X.w H s.heap
 len:J.length=X.N.length
section
variable{J:List (Option V)}
def Cx.Ok.nofr(ok:X.Ok){o:Obj}(e:X.base.get? b=some o):b∉X.fs:=λhb=>by
 have:=(ok.funs.mem hb).1;rw[e]at this;cases this
def Inv.bs(I:Inv X W J H s):∀b o,X.base.get? b=some o->s.heap.get? b=some o/\H b=none:=λb o e=>
 {I.base.keep b o (I.ok.bs b o e).1 (I.ok.bs b o e).2 (I.ok.nofr e)<|I.ok.noex b o e,I.base.free b o (I.ok.bs b o e).1 (I.ok.bs b o e).2<|I.ok.noex b o e}
def Inv.bk(I:Inv X W J H s):∀b o,X.base.get? b=some o->s.heap.get? b=some o:=λb o e=>(I.bs b o e).1
def Inv.mod(I:Inv X W J H s):Mod X.K X.mg X.base:=I.ok.mod
def Inv.kIn(I:Inv X W J H s):X.K.In s.heap:=I.ok.mod.kin.keeps I.bk
def Inv.lt(I:Inv X W J H s):X.env.locals<s.heap.objs.size:=by let{_,z,_}:=I.loc;exact z.lt
def Inv.sz(I:Inv X W J H s):X.s₀.heap.objs.size<=s.heap.objs.size:=Qw I.ok.above (Zn I.lt)
def Inv.nofs(I:Inv X W J H s)(h:s.heap.objs.size<=a):a∉X.fs:=λhb=>by
 let{_,o,z,_}:=I.ok.funs.mem hb;exact Xd (Ql (Xi z)<|Qw I.sz h)<|Zj _
def Inv.cne(I:Inv X W J H s):∀x c,X.env.cells.lookup x=some c->c≠X.env.locals:=λx c e z=>by
 let{v,o,U,hd}:=I.cell x c e;let{m,{o',es,ep,O,S,_},_}:=I.loc;rw[z,O]at U;cases U;rw[S]at hd;cases hd
def Inv.funs(I:Inv X W J H s):s.heap.FunFrames X.base X.outer:=by
 have all:∀(l:Kr),(∀b∈JM l,b∈X.fs)->X.s₀.heap.FunFrames X.base l->s.heap.FunFrames X.base l:=by
  intro l
  induction l with
  |nil=>intro _ _;trivial
  |cons env r U=>
   intro hs hl;let{hk,{L,o,O,Y,Z,hd},hr}:=hl;have S:L∈X.fs:=hs L (by unfold JM;rw[ZT,O];exact Q6);let{sl,e}:=I.base.slot L o Z (I.ok.frf L S) S λz=>I.ok.exfs L z S;exact{hk,{L,_,O,Y,e,hd},U (λb hb=>hs b<|by unfold JM;rw[ZT,O];exact Q4 _ hb) hr}
 exact all X.outer (λ_ hb=>hb) I.ok.funs
def Inv.stack(I:Inv X W J H s):s.heap.FunFrames X.base X.stack:=by
 rcases I.ok.stk with e|⟨e,z⟩
 .rw[e];exact I.funs
 .rw[e];let{m,O,_}:=I.loc;refine .cons (by rw[I.ok.kind];decide) z O ?_ I.funs;exact XD<|Qw I.ok.bsz I.ok.above
def Inv.stkSub(I:Inv X W J H s):∀b∈JM X.stack,b∈X.env.locals::X.fs:=λb hb=>by
 rcases I.ok.stk with e|⟨e,z⟩
 .rw[e]at hb;exact Q4 _ hb
 .rw[e]at hb;unfold JM at hb;rw[ZT,z]at hb;exact hb
def Inv.stkFree(I:Inv X W J H s):∀b∈JM X.stack,H b=none:=λb hb=>by
 rcases Qa.mp (I.stkSub b hb)with e|hb
 .rw[e];exact I.free
 .let{_,o,O,_}:=I.ok.funs.mem hb;exact I.base.free b o O (I.ok.frf b hb) λz=>I.ok.exfs b z hb
def Inv.step(I:Inv X W J H s)
  (O:∀b∈ch,(b∈X.ex\/X.s₀.heap.objs.size<=b)/\b≠X.env.locals/\(∀x c,X.env.cells.lookup x=some c->c≠b)/\∀p∈X.pn++W,p.1≠b)
  (keep:∀b o,b≠X.env.locals->b∉X.fs->b∉ch->s.heap.get? b=some o->H b=none->h'.get? b=some o)
  (slot:∀b o,b≠X.env.locals->b∈X.fs->b∉ch->s.heap.get? b=some o->H b=none->∃sl,h'.get? b=some {o with slots:=sl}) (free:∀b o,b∉ch->s.heap.get? b=some o->H b=none->H' b=none)
  (there:∀b o,b∉ch->s.heap.get? b=some o->∃o',h'.get? b=some o')
  (tups:∀b xs,H b=some (.tup xs)->H' b=some (.tup xs)) (frzs:∀b o u,H b=some (.frz o u)->H' b=some (.frz o u)) (tbls:∀b ps,H b=some (.tbl ps)->∃a0,H' b=some (.tbl<|ps++a0))
  (ns:∀m,s.heap.Ns X.env.locals m->h'.Ns X.env.locals m) (hok:IR X.prog X.w H' h') (hg:AllBare g'):
  Inv X W J H' {s with heap:=h',gens:=g',drawn:=d',toks:=t'}:=by
 have a1:∀b o,X.s₀.heap.get? b=some o->b≠X.env.locals:=λb o e=>Qs (Ql (Xi e) I.ok.above);have Y:∀b o,X.s₀.heap.get? b=some o->b∉X.ex->b∉ch:=λb o e hx hb=>by
  rcases(O b hb).1 with z|z
  .exact hx z
  .exact Xd (Ql (Xi e) z)<|Zj _
 have S:∀x c,X.env.cells.lookup x=some c->∀v,s.heap.IsCell c v->h'.IsCell c v:=λx c e v ⟨o,ho,hd⟩=>by
  have U:c∉ch:=λz=>(O c z).2.2.1 x c e M;by_cases hc:c∈X.fs
  .let{sl,q}:=slot c o (I.cne x c e) hc U ho (I.freeC x c e);exact{_,q,hd}
  .exact{o,keep c o (I.cne x c e) hc U ho<|I.freeC x c e,hd}
 refine{I.ok,I.os,hg,{λb o e n hb hx=>?_,λb o e n hb hx=>?_,λb o e n hx=>?_,λb o e hx=>?_,λb xs e=>tups b xs<|I.base.tups b xs e,λb o xs e=>frzs b o xs<|I.base.frzs b o xs e,λb ps e=>?_},?_,λx c e=>?_,?_,λx c e=>?_,λp hp=>?_,hok,I.len}
 .exact keep b o (a1 b o e) hb (Y b o e hx) (I.base.keep b o e n hb hx)<|I.base.free b o e n hx
 .let{sl,Z}:=I.base.slot b o e n hb hx;let{a2,e2}:=slot b _ (a1 b o e) hb (Y b o e hx) Z (I.base.free b o e n hx);exact⟨a2,e2⟩
 .let{o',Z}:=I.base.there b o e hx;exact free b o' (Y b o e hx) Z<|I.base.free b o e n hx
 .let{o',Z}:=I.base.there b o e hx;exact there b o' (Y b o e hx) Z
 .let{m1,Z}:=I.base.tbls b ps e;let{m2,e2}:=tbls b _ Z;exact{m1++m2,by rw[e2,Array.append_assoc]}
 .let{m,hn,hl}:=I.loc;refine{m,ns m hn,λi x v Z e2 e3=>?_};let{u,r,l}:=hl i x v Z e2 e3;refine{u,r,?_};rcases l with l|⟨k,c,e,z⟩
  .exact .inl l
  .exact .inr {k,c,e,S x c e _ z}
 .let{v,z}:=I.cell x c e;exact{v,S x c e v z}
 .let{m,{o,_,_,ho,_},_}:=I.loc;exact free _ o (λz=>(O _ z).2.1 rfl) ho I.free
 .let{v,o,ho,hd}:=I.cell x c e;exact free c o (λz=>(O c z).2.2.1 x c e M) ho<|I.freeC x c e
 .let{e,n,ne,nf,d}:=I.pin p hp;have U:p.1∉ch:=λz=>(O p.1 z).2.2.2 p hp M;exact{keep p.1 p.2 ne nf U e n,free p.1 p.2 U e n,ne,nf,d}
def Inv.un(I:Inv X W J H s)(u:Un X.fs [] H H' s.heap h')(hok:IR X.prog X.w H' h'):Inv X W J H' {s with heap:=h',toks:=t'}:=by
 let{m,{o,es,ep,Y,r},_}:=id I.loc;let{sl,Z}:=u.any Y I.free (by simp);exact I.step (g':=s.gens) (d':=s.drawn) (ch:=[]) (λ_ z=>nomatch z) (λb o _ hb _ e n=>u.keep b o e n hb<|by simp) (λb o _ hb _ e n=>u.slot b o e n hb<|by simp) (λb o _ e n=>u.free b o e n<|by simp) (λb o _ e=>u.there b o e<|by simp) u.tups u.frzs u.tbls (λm' hm=>by
  let{o',S,U,O,r'}:=hm;rw[Y]at O;cases O;exact{_,S,U,Z,r'}) hok I.bare
def Inv.call(I:Inv X W J H s)(u:Un (JM X.stack) ch H H' s.heap h')(hok:IR X.prog X.w H' h')(hg:AllBare g')
  (O:∀b∈ch,(b∈X.ex\/X.s₀.heap.objs.size<=b)/\b≠X.env.locals/\(∀x c,X.env.cells.lookup x=some c->c≠b)/\∀p∈X.pn++W,p.1≠b):
  Inv X W J H' {s with heap:=h',gens:=g',drawn:=d',toks:=t'}:=by
 let{m,{o,es,ep,ho,r},_}:=id I.loc;let{sl,U}:=u.any ho I.free λz=>(O _ z).2.1 rfl;exact I.step (ch:=ch) O (λb o U hb hc e n=>u.keep b o e n (λz=>(Qa.mp<|I.stkSub b z).elim U hb) hc) (λb o _ _ hc e n=>u.any e n hc) (λb o hc e n=>u.free b o e n hc) (λb o hc e=>u.there b o e hc) u.tups u.frzs u.tbls (λm' hm=>by
  let{o',Y,Z,S,r'}:=hm;rw[ho]at S;cases S;exact{_,Y,Z,U,r'}) hok hg
def Inv.turned(I:Inv X W J H s)(k:∀b o,b≠it->s.heap.get? b=some o->h'.get? b=some o)(U:H it=none)(S:it≠X.env.locals)
  (h1:it∈X.ex\/X.s₀.heap.objs.size<=it) (h2:∀x c,X.env.cells.lookup x=some c->c≠it) (Y:∀p∈X.pn++W,p.1≠it):Inv X W J H {s with heap:=h',toks:=t'}:=by
 have O:∀b u,H b=some u->b≠it:=λb u e z=>by rw[z,U]at e;cases e
 refine I.step (g':=s.gens) (d':=s.drawn) (ch:=[it]) (λb hb=>?_) (λb o _ _ hc e _=>k b o (λz=>hc<|by simp[z]) e) (λb o _ _ hc e _=>{o.slots,k b o (λz=>hc<|by simp[z]) e}) (λ_ _ _ _ n=>n)
  (λb o hc e=>{o,k b o (λz=>hc<|by simp[z]) e}) (λ_ _ e=>e) (λ_ _ _ e=>e) (λb ps e=>{#[],by rw[e];simp}) (λm Z=>?_) (λb u e=>?_) I.bare
 .have e:b=it:=by simpa using hb
  subst e;exact⟨h1,S,h2,Y⟩
 .let{o,es,ep,ho,r}:=Z;exact{o,es,ep,k _ o (Ne.symm S) ho,r}
 .refine(I.hok b u e).stay (λc v hc q=>k c v ?_ q) (λ_ q=>q) λ_ _ q=>q;rcases hc with z|z
  .rw[z];exact O b u e
  .exact O c _ z
def Inv.tok(I:Inv X W J H s)(t:Nat):Inv X W J H {s with toks:=t}:=I.un (h':=s.heap) (t':=t) Un.refl I.hok
def Inv.kept(I:Inv X W J H s)(k:∀b u,s.heap.get? b=some u->h'.get? b=some u):Inv X W J H {s with heap:=h',toks:=t'}:=I.un (Un.kept k) (I.hok.kept k)
def Inv.laid{o:HO}(I:Inv X W J H s)(k:∀b u,s.heap.get? b=some u->h'.get? b=some u)(hp:s.heap.objs.size<=a)(new:HZ X.prog X.w (upd H a o) h' a o):
  Inv X W J (upd H a o) {s with heap:=h',toks:=t'}:=I.un (Un.laid k hp<|I.hok.fresh hp) (I.hok.laid k hp new)
def Inv.write{x e:B'}{o:HO}(I:Inv X W J H s)(O:Mut (H x))(he:e=x\/H e=some (.own x))(k:∀b u,b≠e->s.heap.get? b=some u->h'.get? b=some u)(z:∃u,h'.get? e=some u)
  (new:HZ X.prog X.w (upd H x o) h' x o):Inv X W J (upd H x o) {s with heap:=h',toks:=t'}:=I.un (Un.write O he k z) (I.hok.write O he k z new)
def Inv.pins_of{O:Kf}(I:Inv X W J H s)(h:∀p∈O,s.heap.get? p.1=some p.2/\H p.1=none/\p.1≠X.env.locals/\p.1∉X.fs/\∀v,p.2.data≠ .cell v):Inv X O J H s:=
 {I.ok,I.os,I.bare,I.base,I.loc,I.cell,I.free,I.freeC,λp hp=>(Qd.mp hp).elim (λz=>I.pin p<|Qu _ z)<|h p,I.hok,I.len}
def qx(z:N.Nodup)(a:N[i]?=some x)(b:N[j]?=some x):i=j:=by
 let{h1,I}:=Q7.mp a;let{h2,e2}:=Q7.mp b;exact(List.getElem_inj z).mp<|I.trans e2.symm
abbrev _root_.Ky:=Unit->Shared->Prop
def sK{Q:Ky}(I:Inv X W J H s)(hN:X.N.Nodup)(hi:X.N[i]?=some x)(hx:Loc X.env.scope x)(r:RelV v u)
  (h:∀s',Inv X W (J.set i<|some v) H s'->(∃a,Heap.SameBut a s.heap s'.heap/\(a=X.env.locals\/X.env.cells.lookup x=some a))->Q Unit.unit s') (hf:X.fn x=true\/X.env.scope.names.lookup x=some .local:=by ac_rfl):wpAny M' A (storeName X.env x u) Q E s:=by
 let{m,hn,hl}:=id I.loc;have a1:(X.env.scope.kind== .class||(X.env.scope.kind== .module&&X.env.locals !=X.env.globals))=false:=by rw[I.ok.kind];rfl
 have Y:i<J.length:=by rw[I.len];exact(Q7.mp hi).1
 have cne:=I.cne;have O:∀{a:B'}{h':Heap},(∃o,s.heap.get? a=some o/\H a=none)->Heap.SameBut a s.heap h'->IR X.prog X.w H h':=λ{a h'} ha hs b ob e=>by
  let{_,_,U}:=ha;refine(I.hok b ob e).stay (λc w' hc q=>(hs.2 c ?_).trans q) (λ_ q=>q) λ_ _ q=>q;rintro rfl;rcases hc with rfl|hc
  .rw[U]at e;cases e
  .rw[U]at hc;cases hc
 rcases hx with hk|hk
 .refine wpAny_storeName_local hk hn (λh' a6 hs=>?_) a1;let{oL,_,_,a7,_}:=id hn;refine h _ {I.ok,I.os,I.bare,{λb o e n hb hx=>?_,λb o e n hb hx=>?_,I.base.free,λb o e hx=>?_,I.base.tups,I.base.frzs,I.base.tbls},{_,a6,λj y v' S e2 e3=>?_},λy c e=>?_,I.free,I.freeC,λp hp=>?_,O ⟨oL,a7,I.free⟩ hs,by simpa using I.len} {_,hs,.inl M}
  .exact(hs.2 b<|Qs<|Ql (Xi e) I.ok.above).trans<|I.base.keep b o e n hb hx
  .let{sl,S}:=I.base.slot b o e n hb hx;exact{sl,(hs.2 b<|Qs<|Ql (Xi e) I.ok.above).trans S}
  .let{o',S}:=I.base.there b o e hx;exact{o',(hs.2 b<|Qs<|Ql (Xi e) I.ok.above).trans S}
  .by_cases Z:j=i
   .subst Z;rw[hi]at S;cases S;rw[ZH Y]at e2;cases e2;exact{u,r,.inl {hk,by simp}}
   .rw[ZO (Ne.symm Z)]at e2;let{u',r',q}:=hl j y v' S e2 e3;refine{u',r',?_};rcases q with⟨k,e⟩|⟨k,c,e,z⟩
    .refine .inl {k,?_};have:y≠x:=λe=>Z (qx hN S<|e▸hi);simp[this,e]
    .exact .inr {k,c,e,z.sameBut hs<|cne y c e}
  .let{w',z}:=I.cell y c e;exact{w',z.sameBut hs<|cne y c e}
  .let{e,n,ne,nf,d}:=I.pin p hp;exact{(hs.2 p.1 ne).trans e,n,ne,nf,d}
 .have a0:X.fn x=true:=by
   rcases hf with z|z
   .exact z
   .rw[z]at hk;cases hk
  let{c,hc}:=I.ok.has x (.inl hk);let{w',z}:=I.cell x c hc;refine wpAny_storeName_cell I.ok.kind hk hc z<|λh' a2 hs=>?_;let{oc,a3,a4}:=id z;refine h {s with heap:=h'} {I.ok,I.os,I.bare,{λb o e n hb hx=>?_,λb o e n hb hx=>?_,I.base.free,λb o e hx=>?_,I.base.tups,I.base.frzs,I.base.tbls},{m,hn.sameBut hs<|Ne.symm<|cne x c hc,λj y v' S e2 e3=>?_},λy c' e=>?_,I.free,I.freeC,λp hp=>?_,O {oc,a3,I.freeC x c hc} hs,by simpa using I.len} {c,hs,.inr hc}
  .exact(hs.2 b<|Qs<|Ql (Xi e)<|I.ok.cab x c a0 hc).trans<|I.base.keep b o e n hb hx
  .let{sl,S}:=I.base.slot b o e n hb hx;exact{sl,(hs.2 b<|Qs<|Ql (Xi e)<|I.ok.cab x c a0 hc).trans S}
  .let{o',S}:=I.base.there b o e hx;exact{o',(hs.2 b<|Qs<|Ql (Xi e)<|I.ok.cab x c a0 hc).trans S}
  .by_cases Z:j=i
   .subst Z;rw[hi]at S;cases S;rw[ZH Y]at e2;cases e2;exact{u,r,.inr {.inl hk,c,hc,a2}}
   .rw[ZO (Ne.symm Z)]at e2;let{u',r',q}:=hl j y v' S e2 e3;refine{u',r',?_};rcases q with q|⟨k,c',e,z'⟩
    .exact .inl q
    .refine .inr {k,c',e,z'.sameBut hs ?_};rintro rfl;exact Z<|qx hN S (I.ok.inj _ _ _ e hc▸hi)
  .by_cases a5:c'=c
   .subst a5;exact{_,a2}
   .let{w2,z2}:=I.cell y c' e;exact{w2,z2.sameBut hs a5}
  .let{e,n,ne,nf,d}:=I.pin p hp;refine{(hs.2 p.1 ?_).trans e,n,ne,nf,d};intro q;rw[q,a3]at e;have q':oc=p.2:=Xf e;exact d w'<|by rwa[<-q']
def lL{Q:Ky}(I:Inv X W J H s)(z:X.N.Nodup)(hi:X.N[i]?=some x)(hx:Loc X.env.scope x)(r:RelV v u)
  (h:∀s',Inv X W (J.set i<|some v) H s'->Q Unit.unit s') (O:X.fn x=true\/X.env.scope.names.lookup x=some .local:=by ac_rfl):wpAny M' A (storeName X.env x u) Q E s:=
 sK I z hi hx r (λs' S _=>h s' S) O
def Inv.call'(I:Inv X W J H s)(O:s'.os=s.os)(u:Un (JM X.stack) ch H H' s.heap s'.heap)(hok:IR X.prog X.w H' s'.heap)(S:AllBare s'.gens)
  (z:∀b∈ch,(b∈X.ex\/X.s₀.heap.objs.size<=b)/\b≠X.env.locals/\(∀x c,X.env.cells.lookup x=some c->c≠b)/\∀p∈X.pn++W,p.1≠b):Inv X W J H' s':=by
 let{h',g',d',t',o'}:=s';have e:o'=s.os:=O;subst e;exact I.call (g':=g') (t':=t') (d':=d') u hok S z
end
abbrev XK:=Value->Option Addr->Hp->Prop
abbrev St:=List (Option V)
abbrev VK:=V->Hp->Prop
abbrev TE:=St->Hp->VK->Prop
abbrev TT:=St->Hp->(Bool->Hp->Prop)->Prop
abbrev TA:=St->Hp->(List V->Hp->Prop)->Prop
set_option genInjectivity false in
structure Iw where
 nx:St->Hp->Prop
 rt:VK
 bk:St->Hp->Prop:=λ_ _=>False
 ct:St->Hp->Prop:=λ_ _=>False
abbrev TS:=Iw->St->Hp->Prop
def EP(X:Cx)(W:Kf)(J:St)(Q:VK)(u:Kb)(s':J'):Prop:=∃v H',Inv X W J H' s'/\RelV v u/\Q v H'
def TP(X:Cx)(W:Kf)(J:St)(Q:Bool->Hp->Prop)(b:Bool)(s':J'):Prop:=∃H',Inv X W J H' s'/\Q b H'
def AP(X:Cx)(W:Kf)(J:St)(Q:List V->Hp->Prop)(us:Kd)(s':J'):Prop:=∃vs H',Inv X W J H' s'/\HV vs us/\Q vs H'
def SP(X:Cx)(W:Kf)(D:Iw)(f:Flow)(s':J'):Prop:=
 match f with
 | .next=>∃σ' H',Inv X W σ' H' s'/\D.nx σ' H'
 | .brk=>∃σ' H',Inv X W σ' H' s'/\D.bk σ' H'
 | .cont=>∃σ' H',Inv X W σ' H' s'/\D.ct σ' H'
 | .ret u=>∃v σ' H',Inv X W σ' H' s'/\RelV v u/\D.rt v H'
abbrev J6(X:Cx){a}:=@wpAny a (model X.prog X.w) X.A
def PE(X:Cx)(e:Expr)(t:TE):Prop:=
 ∀(W:Kf)(s:J')(J:St)(H:Hp)(Q:VK),Inv X W J H s->t J H Q->J6 X (eval e X.env) (EP X W J Q) X.xe s
def PT(X:Cx)(e:Expr)(t:TT):Prop:=
 ∀(W:Kf)(s:J')(J:St)(H:Hp)(Q:Bool->Hp->Prop),Inv X W J H s->t J H Q->J6 X (isTrue e X.env<|eval e X.env) (TP X W J Q) X.xe s
def PW(X:Cx)(e:Expr)(t:TT):Prop:=
 ∀(whole:Sem Value)(W:Kf)(s:J')(J:St)(H:Hp)(Q:Bool->Hp->Prop),Inv X W J H s->t J H Q->J6 X (isTrue e X.env whole) (TP X W J Q) X.xe s
def PW.pt{t:TT}(h:PW X e t):PT X e t:=h _
def PA(X:Cx)(es:Kx)(t:TA):Prop:=
 ∀(pos:Pos)(W:Kf)(s:J')(J:St)(H:Hp)(Q:List V->Hp->Prop),Inv X W J H s->t J H Q->J6 X (spliced<|backTo pos<|starEach es X.env) (AP X W J Q) X.xe s
def PS(X:Cx)(st:Stmt)(t:TS):Prop:=
 ∀(W:Kf)(s:J')(J:St)(H:Hp)(D:Iw),Inv X W J H s->t D J H->J6 X (exec st X.env) (SP X W D) X.xe s
def Ij(X:Cx)(st:Kz)(t:TS):Prop:=
 ∀(W:Kf)(s:J')(J:St)(H:Hp)(D:Iw),Inv X W J H s->t D J H->J6 X (execs st X.env) (SP X W D) X.xe s
def HX{α:Type}{t:Sem α}{Q Q':α->Shared->Prop}(h:wpAny M' A t Q E s)(z:∀a s,Q a s->Q' a s):wpAny M' A t Q' E s:=Xp h z λ_ _ x=>x
section
inductive zY(i:Nat)(J:St)(H:Hp)(Q:VK):Prop
 |mk(v:_)(_:J[i]?=some (some v))(_:Q v H)
def tC(v:V):TE:=λ_ H Q=>Q v H
def E9{i:Nat}(U:X.N[i]?=some x)(Y:KP X.env.scope x)(hd:(x==(cf:Str))=false:=by decide)(S:(x==("__classdict__":Str))=false:=by decide):PE X (.Name x pos) (zY i):=by
 intro W s J H Q I h;let{v,e,h}:=h;let{m,Z,hl}:=I.loc;let{u,r,l}:=hl i x v U e Y;have O:EP X W J Q u s:=⟨v,H,I,r,h⟩;rcases l with⟨hk,hm⟩|⟨hk,c,hc,z⟩
 .exact wpAny_Name (wpAny_loadName_local I.ok.kind hk Z hm O) hd
 .rcases hk with hk|hk
  .exact wpAny_Name (wpAny_loadName_cell I.ok.kind hk hc z O) hd
  .exact wpAny_Name (wpAny_loadName_free I.ok.kind hk hc z O S) hd
def am{i j pos}:PE X (.Constant (.int i) j pos) (tC<|.int i):=λ_ _ _ H _ I h=>wpAny_Constant_int {.int i,H,I.tok _,{_,M},h}
def lT{b j pos}:PE X (.Constant (.bool b) j pos) (tC<|.bl b):=λ_ _ _ H _ I h=>Constant_bool {.bl b,H,I,M,h}
def jC{j pos}:PE X (.Constant .none j pos) (tC .non):=λ_ _ _ H _ I h=>Constant_none {.non,H,I,M,h}
def ao{x j pos}:PE X (.Constant (.str x) j pos) (tC<|.str x):=λ_ _ _ H _ I h=>Calls.Constant_str {.str x,H,I.tok _,{_,M},h}
def Gl(X:Cx)(x:Str):Prop:=X.env.kindOf x=some .globalImplicit
def cJ{J:St}{H:Hp}{Q:Kn}(I:Inv X W J H s)(z:Gl X x)(O:X.mg x=some u)(h:Q u s)
  (hd:(x==(cf:Str))=false:=by decide):J6 X (eval (.Name x pos) X.env) Q E s:=
 Calls.Name_function_global I.ok.kind z (Calls.loadGlobal_global (by rw[I.ok.glob];exact I.mod.glob.keeps I.bk) O h) hd
def qC{J:St}{H:Hp}{Q:Kn}(I:Inv X W J H s)(z:Gl X x)(O:X.mg x=none)(S:bootBuiltins x=some u)(h:Q u s)
  (U:x≠"__name__":=by decide) (hd:(x==(cf:Str))=false:=by decide):J6 X (eval (.Name x pos) X.env) Q E s:=by
 let{Y,h1,h2}:=I.mod.blt;exact Calls.Name_function_global I.ok.kind z (Calls.loadGlobal_builtin (by rw[I.ok.glob];exact I.mod.glob.keeps I.bk) O (by rw[I.ok.blt];exact h1.keeps I.bk) ((h2 x U).trans S) h) hd
def bL{v:V}(z:Gl X x)(O:X.mg x=some u)(r:RelV v u)(hd:(x==(cf:Str))=false:=by decide):PE X (.Name x pos) (tC v):=
 λ_ _ _ H _ I h=>cJ I z O ⟨v,H,I,r,h⟩ hd
def j2{v:V}(z:Gl X x)(O:X.mg x=none)(S:bootBuiltins x=some u)(r:RelV v u)(U:x≠"__name__":=by decide)(hd:(x==(cf:Str))=false:=by decide):PE X (.Name x pos) (tC v):=
 λ_ _ _ H _ I h=>qC I z O S ⟨v,H,I,r,h⟩ U hd
variable{a b:Expr}{tb:TE}
def PC(X:Cx)(op:CmpOp)(a b:Expr)(t:TE):Prop:=
 ∀(W:Kf)(s:J')(J:St)(H:Hp)(Q:VK),Inv X W J H s->t J H Q->
  J6 X (eval a X.env) (λv s₁=>J6 X (eval b X.env) (λu s₂=>J6 X (compareOp op v u) (EP X W J Q) X.xe s₂) X.xe s₁) X.xe s
inductive tBR(Q:Bool->Hp->Prop)(x:V)(H1:Hp):Prop
 |mk(c:_)(_:x= .bl c)(_:Q c H1)
def tB(t:TE):TT:=λJ H Q=>t J H λx H1=>tBR Q x H1
def Fb(h:PC X op a b t)(h1:behindInMarks op b=false:=by first|exact nobehind _ (_) (_)|rfl):PE X (.Compare a [op] [b] pos) t:=λW s J H Q I hw=>wpAny_Compare1 (h W s J H Q I hw) h1
def wJ(h:PC X op a b t)(h1:behindInMarks op b=false:=by first|exact nobehind _ (_) (_)|rfl):PT X (.Compare a [op] [b] pos) (tB t):=by
 intro W s J H Q I hw;refine wpAny_isTrue_Compare1 (HX (h W s J H _ I hw) λv s1 h1=>HX h1 λu s2 h2=>HX h2 λc s3 z=>?_) h1;let{x,H1,O,r1,q1}:=z;let{d,rfl,q}:=q1;cases r1;exact Xr ⟨H1,O,q⟩
def cc(h:PE X e t)(he:∀z,isTrue e X.env z=(do let v<-z;standAt e.pos;holding [v] (truthy v)):=by subst_eqs):PT X e (tB t):=by
 intro W s J H Q I hw;refine isTrue_plain (HX (h W s J H _ I hw) λv s1 O=>?_)<|he _;let{x,H1,S,r1,q1}:=O;let{d,rfl,q}:=q1;cases r1;exact Xr ⟨H1,S,q⟩
variable{tA tB':TT}{rest:Kx}
def tAnd(t u:TT):TT:=λJ H Q=>t J H λc H1=>if c=true then u J H1 Q else Q false H1
def tOr(t u:TT):TT:=λJ H Q=>t J H λc H1=>if c=true then Q true H1 else u J H1 Q
def tNot(t:TT):TT:=λJ H Q=>t J H λc H1=>Q (!c) H1
def dM(ha:PT X a tA):PW X (.BoolOp .And [a] pos) tA:=by
 intro z W s J H Q I h;refine isTrue_and<|HX (ha W s J H Q I h) λc s1 e=>?_;cases c with
 |true=>exact isTrue_and_nil e
 |false=>exact e
def tQ(ha:PT X a tA):PW X (.BoolOp .Or [a] pos) tA:=by
 intro z W s J H Q I h;refine isTrue_or<|HX (ha W s J H Q I h) λc s1 e=>?_;cases c with
 |false=>exact isTrue_or_nil e
 |true=>exact e
def eQ(ha:PT X a tA)(hb:PW X (.BoolOp .And (b::rest) pos) tB'):PW X (.BoolOp .And (a::b::rest) pos) (tAnd tA tB'):=by
 intro O W s J H Q I h;refine isTrue_and<|HX (ha W s J H _ I h) λc s1 zz=>?_;let{H1,z,q1}:=zz;cases c with
 |true=>exact hb O W s1 J H1 Q z q1
 |false=>exact⟨H1,z,q1⟩
def xM(ha:PT X a tA)(hb:PW X (.BoolOp .Or (b::rest) pos) tB'):PW X (.BoolOp .Or (a::b::rest) pos) (tOr tA tB'):=by
 intro O W s J H Q I h;refine isTrue_or<|HX (ha W s J H _ I h) λc s1 zz=>?_;let{H1,z,q1}:=zz;cases c with
 |true=>exact⟨H1,z,q1⟩
 |false=>exact hb O W s1 J H1 Q z q1
def eR(ha:PT X a tA):PT X (.UnaryOp .Not a pos) (tNot tA):=by
 intro W s J H Q I h;exact isTrue_not<|ha W s J H (λc H1=>Q (!c) H1) I h
def GQ(ta tb:TE):TE:=λJ H Q=>ta J H λx H1=>∃c,x= .bl c/\if c=true then tb J H1 Q else Q (.bl false) H1
def tOrV(ta tb:TE):TE:=λJ H Q=>ta J H λx H1=>∃c,x= .bl c/\if c=true then Q (.bl true) H1 else tb J H1 Q
def GH(ta:TE):TE:=λJ H Q=>ta J H λx H1=>∃c,x= .bl c/\Q (.bl<|!c) H1
def kZ{op}(h:PE X a t):PE X (.BoolOp op [a] pos) t:=λW s J H Q I hw=>BoolOp_one (h W s J H Q I hw)
def m7(ha:PE X a ta)(hb:PE X (.BoolOp .And (b::rest) pos) tb):PE X (.BoolOp .And (a::b::rest) pos) (GQ ta tb):=by
 intro W s J H Q I h;refine BoolOp_and<|HX (ha W s J H _ I h) λv s1 z=>?_;let{x,H1,O,r1,q1}:=z;let{c,rfl,q1}:=q1;cases r1;refine Xr ?_;cases c with
 |true=>exact hb W s1 J H1 Q O q1
 |false=>exact{.bl false,H1,O,M,q1}
def xS(ha:PE X a ta)(hb:PE X (.BoolOp .Or (b::rest) pos) tb):PE X (.BoolOp .Or (a::b::rest) pos) (tOrV ta tb):=by
 intro W s J H Q I h;refine BoolOp_or<|HX (ha W s J H _ I h) λv s1 z=>?_;let{x,H1,O,r1,q1}:=z;let{c,rfl,q1}:=q1;cases r1;refine Xr ?_;cases c with
 |false=>exact hb W s1 J H1 Q O q1
 |true=>exact{.bl true,H1,O,M,q1}
def Au(ha:PE X a ta):PE X (.UnaryOp .Not a pos) (GH ta):=by
 intro W s J H Q I h;refine UnaryOp_<|HX (ha W s J H _ I h) λv s1 z=>?_;let{x,H1,O,r1,q1}:=z;let{c,rfl,q1}:=q1;cases r1;exact not_of<|Xr {.bl<|!c,H1,O,M,q1}
def tIf(t:TT)(ta tb:TE):TE:=λJ H Q=>t J H λc H1=>if c=true then ta J H1 Q else tb J H1 Q
def vi(hc:PT X c tA)(ha:PE X a ta)(hb:PE X b tb):PE X (.IfExp c a b pos) (tIf tA ta tb):=by
 intro W s J H Q I h;refine wpAny_IfExp<|HX (hc W s J H _ I h) λd s1 zz=>?_;let{H1,z,q1}:=zz;cases d with
 |true=>exact ha W s1 J H1 Q z q1
 |false=>exact hb W s1 J H1 Q z q1
end
def HS(K:J5)(H:Hp)(a:B')(xs:Ke):Prop:=
 Rd H a (.lst xs)\/
  ∃(o:Obj)(its:Ko)(n:Nat),K.lookup a=some o/\o.cls= .type i1/\o.dict=none/\o.data= .seq its n/\its.size<=sizeLine/\HV xs its.toList
def IP(K:J5)(H:Hp)(a:B')(xs:Ke):Prop:=
 Rd H a (.tup xs)\/
  ∃(o:Obj)(its:Ko)(n:Nat),K.lookup a=some o/\o.cls= .type cs/\o.data= .seq its n/\its.size<=sizeLine/\HV xs its.toList
noncomputable def absV:Value->Option V
 | .none=>some .non
 | .bool b=>some (.bl b)
 | .int i _=>some (.int i)
 | .str x _=>some (.str x)
 | .bytes b _=>some (.byt b)
 | .float b _=>some (.flt b)
 | .ref a=>some (.ref a)
 | .type n=>some (.ty n)
 |_=>none
def RelV.abs{x:V}(r:RelV x u):absV u=some x:=by
 cases x with
 |non=>cases r;rfl
 |bl _=>cases r;rfl
 |int _=>let{t,rfl}:=r;rfl
 |str _=>let{t,rfl}:=r;rfl
 |byt _=>let{t,rfl}:=r;rfl
 |flt _=>let{t,rfl}:=r;rfl
 |ref _=>cases r;rfl
 |ty _=>cases r;rfl
def RelV.inj{x:V}(r:RelV x u)(q:RelV y u):x=y:=Xf (r.abs.symm.trans q.abs)
def HV.inj{ys:Ke}(h:HV xs us)(h':HV ys us):xs=ys:=by
 induction h generalizing ys with
 |nil=>cases h';rfl
 |cons r t z=>cases h' with
  |cons I t'=>rw[r.inj I,z t']
section
variable{ys:Ke}
def HS.of(h:H a=some (.lst xs)):HS K H a xs:= .inl (.inl h)
def IP.of(h:H a=some (.tup xs)):IP K H a xs:= .inl (.inl h)
def Inv.list(I:Inv X W J H s)(h:HS X.K H a xs):∃its:List Value,HV xs its/\PlainL s.heap a its.toArray/\xs.length<=sizeLine:=by
 rcases h with h|⟨o,its,n,hk,hc,hd,hs,hz,r⟩
 .let{z,its,n,r,e}:=h.ok I.hok;exact{its,r,{_,n,e,M,M,M},z}
 .refine{its.toList,r,{o,n,I.kIn a o hk,hc,hd,by simpa using hs},?_};have e:=r.length;simp only[Array.length_toList]at e;lia
def Inv.tuple(I:Inv X W J H s)(h:IP X.K H a xs):∃its:List Value,HV xs its/\IsTup s.heap a its.toArray/\xs.length<=sizeLine:=by
 rcases h with h|⟨o,its,n,hk,hc,hs,hz,r⟩
 .let{z,its,r,p}:=h.ok I.hok;exact⟨its,r,p,z⟩
 .refine{its.toList,r,{o,I.kIn a o hk,hc,n,by simpa using hs},?_};have e:=r.length;simp only[Array.length_toList]at e;lia
def Inv.list_inj(I:Inv X W J H s)(h:HS X.K H a xs)(h':HS X.K H a ys):xs=ys:=by
 let{its,r,{o,n,e,_,_,d},_}:=I.list h;let{its',O,{o',n',z,_,_,d'},_}:=I.list h';rw[e]at z;cases z;rw[d]at d';injection d' with d1 _;have:its=its':=by simpa using Xo Array.toList d1
 subst this;exact r.inj O
def Inv.tuple_inj(I:Inv X W J H s)(h:IP X.K H a xs)(h':IP X.K H a ys):xs=ys:=by
 let{its,r,{o,e,_,n,d},_}:=I.tuple h;let{its',O,{o',z,_,n',d'},_}:=I.tuple h';rw[e]at z;cases z;rw[d]at d';injection d' with d1 _;have:its=its':=by simpa using Xo Array.toList d1
 subst this;exact r.inj O
end
abbrev Cx.wish(X:Cx)(E:Kn):Cx:={X with xe:=E}
abbrev Cx.nox(X:Cx):Cx:=X.wish λ_ _=>False
def Cx.Ok.wish(ok:X.Ok)(E:Kn):(X.wish E).Ok:=
 ⟨ok.mod,ok.kind,ok.glob,ok.blt,ok.above,ok.inj,ok.has,ok.cab,ok.hd,ok.frames,ok.stk,ok.exf,ok.bs,ok.bsz,ok.noex,ok.exfs,ok.funs,ok.frf⟩
def Cx.Ok.unwish(ok:(X.wish E).Ok):X.Ok:=
 ⟨ok.mod,ok.kind,ok.glob,ok.blt,ok.above,ok.inj,ok.has,ok.cab,ok.hd,ok.frames,ok.stk,ok.exf,ok.bs,ok.bsz,ok.noex,ok.exfs,ok.funs,ok.frf⟩
def Inv.wish(I:Inv X W J H s)(E:Kn):Inv (X.wish E) W J H s:={I.ok.wish E,I.os,I.bare,I.base,I.loc,I.cell,I.free,I.freeC,I.pin,I.hok,I.len}
def Inv.unwish(I:Inv (X.wish E) W J H s):Inv X W J H s:=⟨I.ok.unwish,I.os,I.bare,I.base,I.loc,I.cell,I.free,I.freeC,I.pin,I.hok,I.len⟩
def SP.unwish{f:Flow}(h:SP (X.wish E) W D f s'):SP X W D f s':=by
 cases f with
 |next=>let{z,H',I,q}:=h;exact⟨z,H',I.unwish,q⟩
 |brk=>let{z,H',I,q}:=h;exact⟨z,H',I.unwish,q⟩
 |cont=>let{z,H',I,q}:=h;exact⟨z,H',I.unwish,q⟩
 |ret u=>let{v,z,H',I,r,q}:=h;exact⟨v,z,H',I.unwish,r,q⟩
def PE.nox(h:PE X.nox e t):PE X e t:=λW s J H Q I hw=>
 Xp (h W s J H Q (I.wish _) hw) (λ_ _ zz=>by let{v,H',O,r,q}:=zz;exact⟨v,H',O.unwish,r,q⟩) λ_ _ z=>False.elim z
def Ij.nox{st:Kz}{t:TS}(h:Ij X.nox st t):Ij X st t:=λW s J H D I hw=>
 Xp (h W s J H D (I.wish _) hw) (λ_ _ q=>q.unwish) λ_ _ z=>False.elim z
section
variable{st:Stmt}{rest:Kz}{t u:TS}
def GI:TS:=λD J H=>D.nx J H
def uO(t u:TS):TS:=λD J H=>t {D with nx:=u D} J H
def aB:Ij X [] GI:=λ_ _ J H _ I h=>wpAny_execs_nil ⟨J,H,I,h⟩
def ii(h1:PS X st t)(h2:Ij X rest u):Ij X (st::rest) (uO t u):=by
 intro W s J H D I h;refine wpAny_execs_cons<|HX (h1 W s J H {D with nx:=u D} I h) λf s1 q=>?_;cases f with
 |next=>
  let{z,H',O,q}:=q;exact h2 W s1 z H' D O q
 |ret v=>exact q
 |brk=>exact q
 |cont=>exact q
def ax(h1:PS X st t):Ij X [st] t:=by
 intro W s J H D I h;refine wpAny_execs_cons<|HX (h1 W s J H D I h) λf s1 q=>?_;cases f with
 |next=>exact wpAny_execs_nil q
 |ret v=>exact q
 |brk=>exact q
 |cont=>exact q
def Inv.quiet(I:Inv X W J H s):interactive X.env=false:=by simp[interactive,I.ok.kind]
def GL(te:TE):TS:=λD J H=>te J H λ_ H1=>D.nx J H1
def bu(he:PE X e te)(hs:swapsWith e none pos.line X.env=pure false:=by rfl):PS X (.Expr e pos) (GL te):=by
 intro W s J H D I h;exact wpAny_Expr_any (HX (he W s J H _ I h) λv s1 zz=>by let{x,H1,z,r1,q1}:=zz;exact⟨J,H1,z,q1⟩) I.quiet hs
def tRet(te:TE):TS:=λD J H=>te J H D.rt
def ay(he:PE X e te):PS X (.Return (some e) pos) (tRet te):=by
 intro W s J H D I h;exact wpAny_Return_some<|HX (he W s J H _ I h) λv s1 zz=>by let{x,H1,z,r1,q1}:=zz;exact⟨x,J,H1,z,r1,q1⟩
def GE:TS:=λD _ H=>D.rt .non H
def tR:PS X (.Return none pos) GE:=λ_ _ J H _ I h=>wpAny_Return_none {.non,J,H,I,M,h}
def tIfS(c:TT)(t u:TS):TS:=λD J H=>c J H λb H1=>if b=true then t D J H1 else u D J H1
def aS{a b:Kz}(hc:PT X c tc)(ha:Ij X a t)(hb:Ij X b u):PS X (.If c a b pos) (tIfS tc t u):=by
 intro W s J H D I h;refine wpAny_If<|HX (hc W s J H _ I h) λd s1 zz=>?_;let{H1,z,q1}:=zz;cases d with
 |true=>exact ha W s1 J H1 D z q1
 |false=>exact hb W s1 J H1 D z q1
end
abbrev TG:=V->St->Hp->(St->Hp->Prop)->Prop
abbrev TGs:=List V->St->Hp->(St->Hp->Prop)->Prop
abbrev _root_.Le:=St->Hp->Prop
def PG(X:Cx)(target:Expr)(t:TG):Prop:=
 ∀(W:Kf)(s:J')(J:St)(H:Hp)(v:V)(u:Kb)(Q:Le),Inv X W J H s->RelV v u->t v J H Q->
  J6 X (assign target X.env u) (λ_ s'=>∃σ' H',Inv X W σ' H' s'/\Q σ' H') X.xe s
def PGs(X:Cx)(ts:Kx)(t:TGs):Prop:=
 ∀(W:Kf)(s:J')(J:St)(H:Hp)(vs:Ke)(us:Kd)(Q:Le),Inv X W J H s->HV vs us->t vs J H Q->
  J6 X (assignInOrder ((assignEach ts X.env).map (·.2)) us) (λ_ s'=>∃σ' H',Inv X W σ' H' s'/\Q σ' H') X.xe s
abbrev F9:=V->V->V->Hp->(Hp->Prop)->Prop
def PSet(X:Cx)(t:F9):Prop:=
 ∀(W:Kf)(s:J')(J:St)(H:Hp)(o i v:V)(ov iv u:Kb)(Q:Hp->Prop),Inv X W J H s->RelV o ov->RelV i iv->RelV v u->t o i v H Q->
  J6 X (setItem ov iv u) (λ_ s'=>∃H',Inv X W J H' s'/\Q H') X.xe s
abbrev TIp:=V->V->Hp->VK->Prop
def PIp(X:Cx)(op:Operator)(t:TIp):Prop:=
 ∀(W:Kf)(s:J')(J:St)(H:Hp)(x y:V)(v u:Kb)(Q:VK),Inv X W J H s->RelV x v->RelV y u->t x y H Q->
  J6 X (inplaceOp op v u) (EP X W J Q) X.xe s
abbrev mm(i:Nat):TG:=λv J H Q=>Q (J.set i<|some v) H
def xQ(z:X.N.Nodup)(hi:X.N[i]?=some x)(hx:Loc X.env.scope x)(O:X.fn x=true\/X.env.scope.names.lookup x=some .local:=by ac_rfl):PG X (.Name x pos) (mm i):=by
 intro W s J H v u Q I r h;exact wpAny_assign_Name<|lL I z hi hx r (λs' S=>{_,H,S,h}) O
def gNil:TGs:=λvs J H Q=>vs=[]/\Q J H
inductive Hs(t:TG)(u:TGs)(vs:Ke)(J:St)(H:Hp)(Q:Le):Prop
 |mk(v r:_)(_:vs=v::r)(_:t v J H λσ' H'=>u r σ' H' Q)
def CV:PGs X [] gNil:=by
 intro W s J H vs us Q I r h;let{e,h}:=h;subst e;cases r;exact assignInOrder_nil ⟨J,H,I,h⟩
def vf{t:TG}{u:TGs}(h1:PG X e t)(h2:PGs X es u)
  (hs:(assignEach (e::es) X.env).map (·.2)=assign e X.env::(assignEach es X.env).map (·.2):=by rfl):PGs X (e::es) (Hs t u):=by
 intro W s J H vs us Q I r h;let{v,Z,S,h}:=h;subst S;cases r with
 |cons r U=>
  rw[hs];refine assignInOrder_cons<|HX (h1 W s J H _ _ _ I r h) λ_ s1 z=>?_;let{O,H1,Y,q1}:=z;exact h2 W s1 O H1 _ _ Q Y U q1
inductive gTup(K:J5)(n:Nat)(t:TGs)(v:V)(J:St)(H:Hp)(Q:Le):Prop
 |mk(a xs:_)(_:v= .ref a)(_:IP K H a xs)(_:xs.length=n)(_:t xs J H Q)
def E8{k:Nat}{t:TGs}(hc:X.calm=true)(h:PGs X es t)
  (S:(assignEach es X.env).length=n:=by rfl) (z:(assignEach es X.env).findIdx? (·.1)=none:=by rfl):PG X (.Tuple es k pos) (gTup X.K n t):=by
 intro W s J H v u Q I r hw;let{a,xs,U,hq,hl,hw}:=hw;subst U;cases r;let{its,O,Y,hz}:=I.tuple hq;refine assign_Tuple_tuple (I.ok.hd hc) Y (by simp[S,<-hl,O.length]) z λh' hx=>?_;have Z:Inv X W J H {s with heap:=h'}:=I.kept (t':=s.toks) λb o e=>hx b o (Qs<|Xi e) e;exact h W _ J H xs _ Q Z (by simpa using O) hw
def gSub(to ti:TE)(t:F9):TG:=λv J H Q=>to J H λo H1=>ti J H1 λi H2=>t o i v H2 λH3=>Q J H3
def At{o i:Expr}{to U:TE}{t:F9}(Y:PE X o to)(hi:PE X i U)(hs:PSet X t)
  (ha:∀v,assign (.Subscript o i pos) X.env v=(do
   let O<-holding [v] (eval o X.env)
   let S<-holding [v,O] (eval i X.env)
   standAt pos
   holding [v,O,S] (setItem O S v)
   release [v,O,S] []):=by subst_eqs):PG X (.Subscript o i pos) (gSub to U t):=by
 intro W s J H v u Q I r h;rw[ha];refine Xa<|Xv (HX (Y W s J H _ I h) λO s1 z=>?_);let{x,H1,Z,r1,q1}:=z;refine Xa<|Xv (HX (hi W s1 J H1 _ Z q1) λS s2 z=>?_);let{y,H2,I2,r2,q2}:=z;refine Xa<|wpAny_standAt (Xa<|Xv<|HX (hs W s2 J H2 x y v O S u _ I2 r1 r2 r q2) λ_ s3 z=>?_);let{H3,I3,q3}:=z;exact wpAny_release ⟨J,H3,I3,q3⟩
def Aa(te:TE)(g:TG):TS:=λD J H=>te J H λx H1=>g x J H1 D.nx
def Ar{g:TG}(he:PE X e te)(O:PG X tg g)(hs:swapsWithSole [tg] e pos.line X.env=pure false:=by rfl)(hw:swappedStores [tg] e X.env=pure none:=by rfl)
  (h1:(assignEach [tg] X.env).map (·.2)=[assign tg X.env]:=by rfl):PS X (.Assign [tg] e pos) (Aa te g):=by
 intro W s J H D I h;refine wpAny_Assign_stores (HX (he W s J H _ I h) λv s1 z=>?_) hs hw;let{x,H1,S,r1,q1}:=z;rw[h1];exact HX (O W s1 J H1 x v _ S r1 q1) λ_ s2 q=>q
def pY{i:Nat}{x:Str}{e:Expr}{te:TE}{pos':Pos}(O:X.N.Nodup)(hi:X.N[i]?=some x)(hx:Loc X.env.scope x)(he:PE X e te)(hs:swapsWith e (some<|.Name x pos') pos.line X.env=pure false:=by rfl)(S:X.fn x=true\/X.env.scope.names.lookup x=some .local:=by ac_rfl):
  PS X (.Assign [.Name x pos'] e pos) (Aa te<|mm i):=by
 intro W s J H D I h;refine wpAny_Assign_Name (HX (he W s J H _ I h) λv s1 z=>?_) hs;let{y,H1,U,r1,q1}:=z;exact lL U O hi hx r1 (λs2 Y=>{_,H1,Y,q1}) S
inductive tAug(i:Nat)(te:TE)(ti:TIp)(D:Iw)(J:St)(H:Hp):Prop
 |mk(x:_)(_:J[i]?=some (some x))(_:te J H λy H1=>ti x y H1 λz H2=>D.nx (J.set i<|some z) H2)
def Aq{op:Operator}{Z:TIp}{pos':Pos}(hN:X.N.Nodup)(hi:X.N[i]?=some x)(hx:Loc X.env.scope x)(he:PE X e te)(ho:PIp X op Z)(hf:X.fn x=true\/X.env.scope.names.lookup x=some .local:=by ac_rfl):
  PS X (.AugAssign (.Name x pos') op e pos) (tAug i te Z):=by
 intro W s J H D I h;let{v,e1,h}:=h;let{m,hn,hl}:=I.loc;have Y:KP X.env.scope x:=by rcases hx with k|k;exact .inl k;exact .inr<|.inl k
 let{u,r,l}:=hl i x v hi e1 Y;refine wpAny_AugAssign_Name ?_;have go:J6 X (eval e X.env) (λw s₂=>J6 X (inplaceOp op u w) (λr U=>J6 X (storeName X.env x r) (λ_=>SP X W D .next) X.xe U) X.xe s₂) X.xe s:=by
  refine HX (he W s J H _ I h) λw s1 O=>?_;let{y,H1,I1,r1,q1}:=O;refine HX (ho W s1 J H1 v y u w _ I1 r r1 q1) λz s2 O=>?_;let{zv,H2,I2,r2,q2}:=O;exact lL I2 hN hi hx r2 (λs3 I3=>{_,H2,I3,q2}) hf
 rcases l with⟨hk,hm⟩|⟨hk,c,hc,S⟩
 .exact wpAny_loadName_local I.ok.kind hk hn hm go
 .rcases hk with hk|hk
  .exact wpAny_loadName_cell I.ok.kind hk hc S go
  .rcases hx with k|k
   .have:X.env.scope.names.lookup x=some .free:=hk;rw[k]at this;cases this
   .have:X.env.scope.names.lookup x=some .free:=hk;rw[k]at this;cases this
inductive ipI(f:Int->Int->Int)(x y:V)(H:Hp)(Q:VK):Prop
 |mk(i j:_)(_:x= .int i)(_:y= .int j)(_:Q (.int<|f i j) H)
def Bh:PIp X .Add (ipI λi j=>i+j):=by
 intro W s J H x y v u Q I r1 z h;let{i,j,O,e2,q}:=h;subst O;subst e2;let{t,rfl}:=r1;let{t',rfl}:=z;exact iadd_int {.int _,H,I.tok _,{_,M},q}
def EK(c:TT)(tb:TS):TS:=λD J H=>∃J3:Nat->St->Hp->Prop,(∃m,J3 m J H)/\∀m J H,J3 m J H->
 c J H λb H1=>if b=true then ∃N:St->Hp->Prop,(∀σ' H',N σ' H'->∃m',m'<m/\J3 m' σ' H')/\tb {D with nx:=N,ct:=N,bk:=D.nx} J H1 else D.nx J H1
def ve(hp:PassesOwn (model X.prog X.w) X.A X.env X.xe)(hc:PT X c tc)(hb:Ij X body tb):PS X (.While c body [] pos) (EK tc tb):=by
 intro W s J H D I h;let{J3,{m0,w0},S}:=h;refine wpAny_While<|codeAny_whileLoop (λn s'=>∃U H',Inv X W U H' s'/\J3 n U H') ?_ m0 ⟨J,H,I,w0⟩;rintro n s1 ⟨O,H1,I1,w1⟩;refine Xx hp<|HX (hc W s1 O H1 _ I1<|S n O H1 w1) λb s2 zz=>?_;let{H2,I2,q2}:=zz;cases b with
 |true=>
  let{N,hN,q2}:=q2;rw[Xe M];refine Xx hp<|HX (hb W s2 O H2 _ I2 q2) λf s3 q3=>?_;cases f with
  |next=>
   let{z,H3,Y,Z}:=q3;let{m',hm,w3}:=hN z H3 Z;exact⟨m',hm,z,H3,Y,w3⟩
  |cont=>
   let{z,H3,Y,Z}:=q3;let{m',hm,w3}:=hN z H3 Z;exact⟨m',hm,z,H3,Y,w3⟩
  |brk=>exact q3
  |ret v=>exact q3
 |false=>
  rw[Xc Q8];exact wpAny_execs_nil ⟨O,H2,I2,q2⟩
set_option genInjectivity false in
structure It where
 go:Nat->Hp->Prop
 yld:Nat->Hp->V->Hp->Prop
 stop:Nat->Hp->Prop
def cK(X:Cx)(W:Kf)(H:Hp)(b:B'):Prop:=
 H b=none/\b≠X.env.locals/\b∉X.fs/\(b∈X.ex\/X.s₀.heap.objs.size<=b)/\(∀x c,X.env.cells.lookup x=some c->c≠b)/\∀p∈X.pn++W,p.1≠b
def Inv.fpOk(I:Inv X W J H s)(hb:s.heap.objs.size<=b)(O:H' b=none):cK X W H' b:=by
 refine{O,X0<|Ql I.lt hb,I.nofs hb,.inr<|Qw I.sz hb,λx c e z=>?_,λp hp z=>?_}
 .let{v,q}:=I.cell x c e;exact Xd (Ql q.lt<|by rwa[z])<|Zj _
 .exact Xd (Ql (Xi (I.pin p hp).1)<|by rwa[z]) (Zj _)
structure xx(P:Ki)(w:Kj)(K:J5)(tg:Expr)(J4:It)(fp:Km)(it:B')(tn:Nat->Heap->Prop):Prop where
 mem:it∈fp
 obj:∀i h,tn i h->∀b∈fp,∃o,h.get? b=some o/\∀v,o.data≠ .cell v
 keep:∀i h h',tn i h->(∀b∈fp,∀o,h.get? b=some o->h'.get? b=some o)->tn i h'
 item:∀(X:Cx),X.prog=P->X.w=w->X.K=K->X.calm=true->∀(i:Nat)(W:Kf)(s:J')(J:St)(H:Hp)(E:Kn),Inv X W J H s->(∀b∈fp,cK X W H b)->tn i s.heap->J4.go i H->
  wpAny (model P w) X.A (pyNext<|.ref it) (λr s1=>∃u,r=some u/\
   wpAny (model P w) X.A (letOwnedTupleGo tg (.ref it) u) (λ_ s2=>∃x H',Inv X W J H' s2/\RelV x u/\J4.yld i H x H'/\tn (i+1) s2.heap/\∀b∈fp,H' b=none) E s1) E s
 done:∀(X:Cx),X.prog=P->X.w=w->X.K=K->X.calm=true->∀(i:Nat)(W:Kf)(s:J')(J:St)(H:Hp)(E:Kn),Inv X W J H s->(∀b∈fp,cK X W H b)->tn i s.heap->J4.stop i H->
  wpAny (model P w) X.A (pyNext<|.ref it) (λr s1=>r=none/\Inv X W J H s1) E s
 self:∀(A:Kp)(i:Nat)(s:J')(Q:Kn)(E:Kn),tn i s.heap->Q (.ref it) s->wpAny (model P w) A (pyIter<|.ref it) Q E s
abbrev TI:=St->Hp->(It->Hp->Prop)->Prop
def PIE(X:Cx)(W:Kf)(J:St)(tg:Expr)(R:It->Hp->Prop)(itv:Kb)(s2:J'):Prop:=
 ∃(it:B')(fp:Km)(tn:Nat->Heap->Prop)(J4:It)(H':Hp),itv= .ref it/\Inv X W J H' s2/\xx X.prog X.w X.K tg J4 fp it tn/\tn 0 s2.heap/\(∀b∈fp,cK X W H' b)/\R J4 H'
def PI(X:Cx)(tg iter:Expr)(wi:TI):Prop:=
 ∀(W:Kf)(s:J')(J:St)(H:Hp)(R:It->Hp->Prop),Inv X W J H s->wi J H R->
  J6 X (eval iter X.env) (λv s1=>J6 X (pyIter v) (PIE X W J tg R) X.xe s1) X.xe s
def vG{o:Obj}{n:String}{vs:Ko}{Q:Ky}(I:s.heap.get? it=some o)(hc:o.cls= .type n)(hd:o.data= .fields vs)
  (O:["enumerate","zip","dict_itemiterator","dict_reverseitemiterator","odict_iterator","itertools.zip_longest","itertools.pairwise"].contains n=false) (z:Q Unit.unit s):wpAny M' A (letOwnedTupleGo tg (.ref it) u) Q E s:=by
 unfold letOwnedTupleGo;cases tg<;>first
  |exact Xj z
  |(cases u<;>first
    |exact Xj z
    |(refine Xa<|wpAny_load I ?_
      rw[hc,hd];show wpAny M' A (if(["enumerate","zip","dict_itemiterator","dict_reverseitemiterator","odict_iterator","itertools.zip_longest","itertools.pairwise"].contains n&&vs[0]?==some (rawInt _))=true then _ else _) Q E s;rw[Xc (by intro h;rw[O,ZP]at h;cases h)];exact Xj z))
def KR(K:J5)(a:B'):It:=
 {λi H=>∃xs x,HS K H a xs/\xs[i]?=some x,λi H x H'=>H'=H/\∀xs,HS K H a xs->xs[i]?=some x,λi H=>∃xs,HS K H a xs/\xs.length<=i}
def KQ(K:J5)(a:B'):It:=
 {λi H=>∃xs x,IP K H a xs/\xs[i]?=some x,λi H x H'=>H'=H/\∀xs,IP K H a xs->xs[i]?=some x,λi H=>∃xs,IP K H a xs/\xs.length<=i}
def Jr(lo:Int)(n:Nat):It:={λi _=>i<n,λi H x H'=>H'=H/\x= .int (lo+i),λi _=>n<=i}
def yy(a it:B'):xx P w K tg (KR K a) [it] it (λi h=>h.IsListIter it a i) where
 mem:=by simp
 obj:=λi h st b hb=>by
  have e:b=it:=by simpa using hb
  subst e;let{o,e,c,d}:=st;exact{o,e,λv z=>by rw[d]at z;cases z}
 keep:=λi h h' st k=>st.at λo e=>k it (by simp) o e
 item:=by
  intro X U hw hK hc i W s J H E I S st Y;subst U hw hK;let{xs,x,hq,hx}:=Y;let{its,Z,p,hz}:=I.list hq;let{u,hu,ru}:=Z.get hx;let{f0,f1,f2,f3,f4,f5}:=S it (by simp);refine wpAny_pyNext_list_item st p.isList (x:=u) (by simpa using hu) λh' O sb=>?_;have I1:Inv X W J H {s with heap:=h'}:=I.turned (t':=s.toks) (λb o hb e=>(sb.2 b hb).trans e) f0 f1 f3 f4 f5;let{o,e,c,d}:=id O;exact{u,M,vG (s:={s with heap:=h'}) e c d (_) {x,H,I1,ru,{M,λys hy=>by rwa[I.list_inj hy hq]},O,λb hb=>(S b hb).1}}
 done:=by
  intro X U hw hK hc i W s J H E I S st Y;subst U hw hK;let{xs,hq,hx}:=Y;let{its,Z,p,hz}:=I.list hq;let{f0,f1,f2,f3,f4,f5}:=S it (by simp);have hl:=Z.length;exact wpAny_pyNext_list_end (I.ok.hd hc) st p.isList (by simp;lia) λh' eb=>{M,I.turned (t':=s.toks) (λb o hb e=>eb b o hb e) f0 f1 f3 f4 f5}
 self:=λ_ _ _ _ _ st h=>wpAny_pyIter_listiter st h
def wk(a it:B'):xx P w K tg (KQ K a) [it] it (λi h=>h.IsTupleIter it a i) where
 mem:=by simp
 obj:=λi h st b hb=>by
  have e:b=it:=by simpa using hb
  subst e;let{o,e,c,d}:=st;exact{o,e,λv z=>by rw[d]at z;cases z}
 keep:=λi h h' st k=>st.at λo e=>k it (by simp) o e
 item:=by
  intro X U hw hK hc i W s J H E I S st Y;subst U hw hK;let{xs,x,hq,hx}:=Y;let{its,Z,p,hz}:=I.tuple hq;let{u,hu,ru}:=Z.get hx;let{f0,f1,f2,f3,f4,f5}:=S it (by simp);refine wpAny_pyNext_tuple_item st (show s.heap.IsTuple a its.toArray from p) (x:=u) (by simpa using hu) λh' O sb=>?_;have I1:Inv X W J H {s with heap:=h'}:=I.turned (t':=s.toks) (λb o hb e=>(sb.2 b hb).trans e) f0 f1 f3 f4 f5;let{o,e,c,d}:=id O;exact{u,M,vG (s:={s with heap:=h'}) e c d (_) {x,H,I1,ru,{M,λys hy=>by rwa[I.tuple_inj hy hq]},O,λb hb=>(S b hb).1}}
 done:=by
  intro X U hw hK hc i W s J H E I S st Y;subst U hw hK;let{xs,hq,hx}:=Y;let{its,Z,p,hz}:=I.tuple hq;let{f0,f1,f2,f3,f4,f5}:=S it (by simp);have hl:=Z.length;exact wpAny_pyNext_tuple_end (I.ok.hd hc) st (show s.heap.IsTuple a its.toArray from p) (by simp;lia) λh' eb=>{M,I.turned (t':=s.toks) (λb o hb e=>eb b o hb e) f0 f1 f3 f4 f5}
 self:=λ_ _ _ _ _ st h=>wpAny_pyIter_tupleiter st h
def wn(it:B')(lo:Int)(n:Nat):xx P w K tg (Jr lo n) [it] it (λi h=>IsRangeIter h it (lo+(i:Nat)*1) ((n:Int)-(i:Nat)) 1) where
 mem:=by simp
 obj:=λi h st b hb=>by
  have e:b=it:=by simpa using hb
  subst e;exact{_,st,λv z=>by
   have z':Data.fields _=Data.cell v:=z;cases z'}
 keep:=λi h h' st k=>k it (by simp) _ st
 item:=by
  intro X U hw hK hc i W s J H E I S st Y;subst U hw hK;let{Z,f1,f2,f3,f4,f5}:=S it (by simp);have J3:=Walks.range (prog:=X.prog) (w:=X.w) (I.ok.hd hc) it lo 1 n;refine J3.item i s _ _ Y st λv h' tk hv O kk=>?_;let{t,rfl}:=hv;have I1:Inv X W J H {s with heap:=h',toks:=tk}:=I.turned (λb o hb e=>kk b o (by simpa using hb) e) Z f1 f3 f4 f5;refine{_,M,vG (s:={s with heap:=h',toks:=tk}) (n:="range_iterator") O M M (_) {.int<|lo+i,H,I1,{t,?_},⟨M,M⟩,O,λb hb=>(S b hb).1}};rw[Int.mul_one]
 done:=by
  intro X U hw hK hc i W s J H E I S st Y;subst U hw hK;let{Z,f1,f2,f3,f4,f5}:=S it (by simp);exact wpAny_pyNext_range_end (I.ok.hd hc) st (by have:n<=i:=Y;lia) λh' eb=>{M,I.turned (t':=s.toks) (λb o hb e=>eb b o hb e) Z f1 f3 f4 f5}
 self:=λ_ _ _ _ _ st h=>wpAny_pyIter_rangeiter st h
inductive FJ(K:J5)(R:It->Hp->Prop)(x:V)(H1:Hp):Prop
 |mk(a:_)(_:x= .ref a)(_:(∃xs,HS K H1 a xs))(_:R (KR K a) H1)
def Hq(K:J5)(tl:TE):TI:=λJ H R=>tl J H λx H1=>FJ K R x H1
inductive Hm(K:J5)(R:It->Hp->Prop)(x:V)(H1:Hp):Prop
 |mk(a:_)(_:x= .ref a)(_:(∃xs,IP K H1 a xs))(_:R (KQ K a) H1)
def iTup(K:J5)(tl:TE):TI:=λJ H R=>tl J H λx H1=>Hm K R x H1
def tU(hl:PE X l tl):PI X tg l (Hq X.K tl):=by
 intro W s J H R I h;refine HX (hl W s J H _ I h) λv s1 O=>?_;let{x,H1,z,r1,q1}:=O;let{a,e,{xs,hq},q}:=q1;subst e;cases r1;let{its,S,p,hz}:=z.list hq;refine wpAny_pyIter_list p.isList ?_;refine{s1.heap.objs.size,[s1.heap.objs.size],_,_,H1,M,z.kept (t':=s1.toks) λb o e=>Xb _ e,yy a _,{_,Xl _ M,M,M},λb hb=>?_,q};have e:b=s1.heap.objs.size:=by simpa using hb
 subst e;exact z.fpOk (Qc _)<|z.hok.fresh (Qc _)
def E6(hl:PE X l tl):PI X tg l (iTup X.K tl):=by
 intro W s J H R I h;refine HX (hl W s J H _ I h) λv s1 O=>?_;let{x,H1,z,r1,q1}:=O;let{a,e,{xs,hq},q}:=q1;subst e;cases r1;let{its,S,p,hz}:=z.tuple hq;refine wpAny_pyIter_tuple (show s1.heap.IsTuple a its.toArray from p) ?_;refine{s1.heap.objs.size,[s1.heap.objs.size],_,_,H1,M,z.kept (t':=s1.toks) λb o e=>Xb _ e,wk a _,{_,Xl _ M,M,M},λb hb=>?_,q};have e:b=s1.heap.objs.size:=by simpa using hb
 subst e;exact z.fpOk (Qc _)<|z.hok.fresh (Qc _)
def vc{R:It->Hp->Prop}{hi:Int}{t u v:Tok}{tk:Nat}(I:Inv X W J H s)(h1: -(2^62)<=lo)(h2:lo<2^62)(O: -(2^62)<=hi)(S:hi<2^62)
  (q:R (Jr lo (hi-lo).toNat) H):J6 X (pyIter<|.ref s.heap.objs.size) (PIE X W J tg R) E {s with heap:=s.heap.push {cls:= .type u3,data:= .fields #[.int lo t,.int hi u,.int 1 v]},toks:=tk}:=by
 refine wpAny_pyIter_range (IsRange.new ..) (small_one h1 h2 O S) ?_;have z:Inv X W J H {s with heap:=s.heap.push {cls:= .type u3,data:= .fields #[.int lo t,.int hi u,.int 1 v]},toks:=tk}:=I.kept λb o e=>Xb _ e;refine{(s.heap.push {cls:= .type u3,data:= .fields #[.int lo t,.int hi u,.int 1 v]}).objs.size,[(s.heap.push {cls:= .type u3,data:= .fields #[.int lo t,.int hi u,.int 1 v]}).objs.size],_,_,H,M,
  z.kept (t':=tk) λb o e=>Xb _ e,wn _ lo (hi-lo).toNat,?_,λb hb=>?_,q}
 .have U:lo+((0:Nat):Int)*1=lo:=by simp
  have e2:(((hi-lo).toNat:Nat):Int)-((0:Nat):Int)=Builtin.Range.rangeSize lo hi 1:=by rw[rangeSize_one];split<;>lia
  show IsRangeIter _ _ (lo+((0:Nat):Int)*1) ((((hi-lo).toNat:Nat):Int)-((0:Nat):Int)) 1;rw[U,e2];exact Xl _ M
 .have e:b=(s.heap.push {cls:= .type u3,data:= .fields #[.int lo t,.int hi u,.int 1 v]}).objs.size:=by simpa using hb
  subst e;exact z.fpOk (Qc _) (z.hok.fresh<|Qc _)
inductive FI(R:It->Hp->Prop)(vs:Ke)(H1:Hp):Prop
 |mk(j:Int)(_:vs=[.int j])(_: -(2^62)<=j)(_:j<2^62)(_:R (Jr 0 j.toNat) H1)
def Ho(ta:TA):TI:=λJ H R=>ta J H λvs H1=>FI R vs H1
def Hn(ta:TA):TI:=λJ H R=>ta J H λvs H1=>∃i j:Int,vs=[.int i,.int j]/\(-(2^62)<=i/\i<2^62/\-(2^62)<=j/\j<2^62)/\R (Jr i (j-i).toNat) H1
def m6{a:Expr}{ta:TA}(O:Gl X u3)(S:X.mg u3=none)(ha:PA X [a] ta)(hs:starEach [a] X.env=[(false,eval a X.env)]:=by rfl):PI X tg (.Call (.Name u3 p) [a] [] pos) (Ho ta):=by
 intro W s J H R I h;refine Call_<|qC I O S boot_range (PyProof.Rows.callWith_type1 (HX (ha pos W s J H _ I h) λus s1 z=>?_) hs M);let{vs,H1,U,r1,q1}:=z;let{j,e,q1,q2,q}:=q1;subst e;cases r1 with
 |cons r Y=>
  cases Y;let{t,rfl}:=r;exact call_range_1<|vc U () () q1 q2 (by simpa using q)
def yL{a b:Expr}{ta:TA}(U:Gl X u3)(Y:X.mg u3=none)(ha:PA X [a,b] ta)(hs:starEach [a,b] X.env=[(false,eval a X.env),(false,eval b X.env)]:=by rfl)(z:starEach [b] X.env=[(false,eval b X.env)]:=by rfl):
  PI X tg (.Call (.Name u3 p) [a,b] [] pos) (Hn ta):=by
 intro W s J H R I h;refine Call_<|qC I U Y boot_range (PyProof.Rows.callWith_type1 (HX (ha pos W s J H _ I h) λus s1 O=>?_) (by rw[hs,z])<|by rw[z];rfl);let{vs,H1,Z,r1,q1}:=O;let{i,j,e,{q1,q2,q3,q4},q}:=q1;subst e;cases r1 with
 |cons r S=>
  cases S with
  |cons r' S=>
   cases S;let{t,rfl}:=r;let{t',rfl}:=r';exact call_range_2<|vc Z q1 q2 q3 q4 q
def tFor(wi:TI)(g:TG)(tb:TS):TS:=λD J H=>wi J H λJ4 H1=>∃J3:Nat->Nat->St->Hp->Prop,(∃m,J3 0 m J H1)/\∀i m J H,J3 i m J H->
 (J4.stop i H/\D.nx J H)\/(J4.go i H/\∃N:St->Hp->Prop,(∀σ' H',N σ' H'->∃m',m'<m/\J3 (i+1) m' σ' H')/\∀x H',J4.yld i H x H'->g x J H' λσ2 H2=>tb {D with nx:=N,ct:=N,bk:=D.nx} σ2 H2)
def pZ(fp:Km)(h:Heap):List (Addr×Obj):=fp.filterMap λb=>(h.get? b).map λo=>(b,o)
def iZ{o:Obj}(hb:b∈fp)(e:h.get? b=some o):(b,o)∈pZ fp h:=List.mem_filterMap.mpr {b,hb,by rw[e];rfl}
def yS{p:Addr×Obj}(hp:p∈pZ fp h):p.1∈fp/\h.get? p.1=some p.2:=by
 let{b,hb,e}:=List.mem_filterMap.mp hp;cases q:h.get? b with
 |none=>rw[q]at e;cases e
 |some o=>
  rw[q]at e;have z:(b,o)=p:=Xf e;subst z;exact⟨hb,q⟩
def Inv.pinned(I:Inv X W J H s)(S:∀b∈fp,cK X W H b)(U:∀b∈fp,∃o,s.heap.get? b=some o/\∀v,o.data≠ .cell v):Inv X (W++pZ fp s.heap) J H s:=
 I.pins_of λp hp=>(Qd.mp hp).elim (λz=>I.pin p<|Qj _ z) λz=>by
  let{hb,e}:=yS z;let{Y,Z,f2,_}:=S p.1 hb;let{o,O,d}:=U p.1 hb;rw[e]at O;cases O;exact⟨e,Y,Z,f2,d⟩
def Inv.unpinned{pl:Kf}(I:Inv X (W++pl) J H s):Inv X W J H s:=I.pins_of λp hp=>I.pin p (Qj _<|Qu _ hp)
def tS{iter:Expr}{wi:TI}{g:TG}(hp:PassesOwn (model X.prog X.w) X.A X.env X.xe)(hc:X.calm=true)(hi:PI X tg iter wi)(hg:PG X tg g)(hb:Ij X body tb)
  (hs:∀x,foldedSetIterable iter X.env x=pure x:=by subst_eqs):PS X (.For tg iter body [] pos) (tFor wi g tb):=by
 intro W s J H D I h;refine wpAny_For (HX (hi W s J H _ I h) λv s1 h1=>HX h1 λaf s2 h2=>?_) hs;let{it,fp,tn,J4,H2,e,I2,T,a6,f2,J3,{m0,w0},a2}:=h2;subst e;have O:∀{H':Hp},(∀b∈fp,H' b=none)->∀b∈fp,cK X W H' b:=λhn b hb=>{hn b hb,(f2 b hb).2};refine codeAny_forLoop_any (λn s'=>∃i S H',Inv X W S H' s'/\tn i s'.heap/\(∀b∈fp,H' b=none)/\J3 i n S H') ?_ m0 {0,J,H2,I2,a6,λb hb=>(f2 b hb).1,w0};rintro n s3 ⟨i,U,H3,I3,a3,a4,w3⟩;rcases a2 i n U H3 w3 with⟨a5,qn⟩|⟨go,N,hN,step⟩
 .refine Xx hp<|HX (T.done X M M M hc i W s3 U H3 X.xe I3 (O a4) a3 a5) λr s4 zz=>?_;let{hr,I4}:=zz;subst hr;exact wpAny_execs_nil ⟨U,H3,I4,qn⟩
 .refine Xx hp<|HX (T.item X M M M hc i W s3 U H3 X.xe I3 (O a4) a3 go) λr s4 zz=>?_;let{u,hr,h4}:=zz;subst hr;refine Xx hp<|HX h4 λ_ s5 a0=>?_;let{x,H5,I5,r5,y5,a1,a7}:=a0;have a8:=I5.pinned (O a7) (T.obj _ _ a1);refine Xx hp<|HX (hg _ s5 U H5 x u _ a8 r5<|step x H5 y5) λ_ s6 a0=>?_;let{ac,H6,I6,q6}:=a0;refine Xx hp<|HX (hb _ s6 ac H6 _ I6 q6) λf s7 q7=>?_;have again:∀{z:St}{Y:Hp},Inv X (W++pZ fp s5.heap) z Y s7->N z Y->∃m,m<n/\∃i S H',Inv X W S H' s7/\tn i s7.heap/\(∀b∈fp,H' b=none)/\J3 i m S H':=λ{z Y} Z n7=>by
   let{m',hm,w7}:=hN z Y n7;refine{m',hm,i+1,z,Y,Z.unpinned,T.keep _ _ _ a1 λb hb o e=>(Z.pin (b,o)<|Qj _<|Qj _<|iZ hb e).1,λb hb=>?_,w7};let{o,e,d}:=T.obj _ _ a1 b hb;exact(Z.pin (b,o)<|Qj _<|Qj _<|iZ hb e).2.1
  cases f with
  |next=>let{z,Y,Z,n7}:=q7;exact again Z n7
  |cont=>let{z,Y,Z,n7}:=q7;exact again Z n7
  |brk=>let{z,Y,Z,q7}:=q7;exact⟨z,Y,Z.unpinned,q7⟩
  |ret v=>let{x7,z,Y,Z,r7,q7}:=q7;exact⟨x7,z,Y,Z.unpinned,r7,q7⟩
def Dw{g:TG}(Pv:Nat->St->Hp->Prop)(S:Pv 0 J H)(hl:∀i J H,i<=xs.length->Pv i J H->IP K H a xs)
  (hs:∀i x J H,xs[i]?=some x->Pv i J H->g x J H λz H2=>tb {D with nx:=Pv (i+1),ct:=Pv (i+1),bk:=D.nx} z H2) (hd:∀J H,Pv xs.length J H->D.nx J H):
  ∃J3:Nat->Nat->St->Hp->Prop,(∃m,J3 0 m J H)/\∀i m J H,J3 i m J H->
   ((KQ K a).stop i H/\D.nx J H)\/((KQ K a).go i H/\∃N:St->Hp->Prop,(∀I H',N I H'->∃m',m'<m/\J3 (i+1) m' I H')/\∀x H',(KQ K a).yld i H x H'->g x J H' λz H2=>tb {D with nx:=N,ct:=N,bk:=D.nx} z H2):=by
 refine{λi m J H=>m=xs.length-i/\i<=xs.length/\Pv i J H,{xs.length,by simp,Qy _,S},?_};rintro i m J H ⟨rfl,hi,p⟩;have q:=hl i J H hi p;by_cases O:i<xs.length
 .refine .inr {{xs,xs[i],q,by simp[O]},Pv<|i+1,λI H' U=>{xs.length-(i+1),(),M,O,U},λx H' y=>?_};let{e,y}:=y;subst e;exact hs i x J _ (y xs q) p
 .have e:i=xs.length:=();subst e;exact .inl {{xs,q,Qc _},hd J H p}
def zh{g:TG}(Pv:Nat->St->Hp->Prop)(S:Pv 0 J H)
  (hs:∀i J H,i<n->Pv i J H->g (.int<|lo+i) J H λz H2=>tb {D with nx:=Pv (i+1),ct:=Pv (i+1),bk:=D.nx} z H2) (hd:∀J H,Pv n J H->D.nx J H):
  ∃J3:Nat->Nat->St->Hp->Prop,(∃m,J3 0 m J H)/\∀i m J H,J3 i m J H->
   ((Jr lo n).stop i H/\D.nx J H)\/((Jr lo n).go i H/\∃N:St->Hp->Prop,(∀I H',N I H'->∃m',m'<m/\J3 (i+1) m' I H')/\∀x H',(Jr lo n).yld i H x H'->g x J H' λz H2=>tb {D with nx:=N,ct:=N,bk:=D.nx} z H2):=by
 refine{λi m J H=>m=n-i/\i<=n/\Pv i J H,{n,by simp,Qy _,S},?_};rintro i m J H ⟨rfl,hi,p⟩;by_cases O:i<n
 .refine .inr {O,Pv<|i+1,λI H' U=>{n-(i+1),(),M,O,U},λx H' y=>?_};let{e,y}:=y;subst e y;exact hs i J _ O p
 .have e:i=n:=();subst e;exact .inl {Qc _,hd J H p}
abbrev R2:=V->V->Hp->VK->Prop
abbrev _root_.Li:=Value->Value->Sem Value
def Iy(X:Cx)(f:Li)(r:R2):Prop:=
 ∀(W:Kf)(s:J')(J:St)(H:Hp)(x y:V)(v u:Kb)(Q:VK),Inv X W J H s->RelV x v->RelV y u->r x y H Q->
  J6 X (f v u) (EP X W J Q) X.xe s
def UnR(X:Cx)(f:Value->Sem Value)(r:V->Hp->VK->Prop):Prop:=
 ∀(W:Kf)(s:J')(J:St)(H:Hp)(x:V)(v:Kb)(Q:VK),Inv X W J H s->RelV x v->r x H Q->
  J6 X (f v) (EP X W J Q) X.xe s
def fV(X:Cx)(f:Kb)(r:List V->Hp->VK->Prop):Prop:=
 ∀(W:Kf)(s:J')(J:St)(H:Hp)(xs:Ke)(us:Kd)(Q:VK),Inv X W J H s->HV xs us->r xs H Q->
  J6 X (call f us) (EP X W J Q) X.xe s
def Ka(r:R2)(ta tb:TE):TE:=λJ H Q=>ta J H λx H1=>tb J H1 λy H2=>r x y H2 Q
def tUn(r:V->Hp->VK->Prop)(ta:TE):TE:=λJ H Q=>ta J H λx H1=>r x H1 Q
inductive rI(C:Int->Int->Prop)(g:Int->Int->V)(x y:V)(H:Hp)(Q:VK):Prop
 |mk(i j:_)(_:x= .int i)(_:y= .int j)(_:C i j)(_:Q (g i j) H)
inductive KS(g:Int->Int->V)(x y:V)(H:Hp)(Q:VK):Prop
 |mk(i j:_)(_:x= .int i)(_:y= .int j)(_:Q (g i j) H)
inductive rU(g:Int->V)(x:V)(H:Hp)(Q:VK):Prop
 |mk(i:_)(_:x= .int i)(_:Q (g i) H)
section
variable{a b:Expr}{tb tc:TE}
def F5(ha:PE X a ta)(hb:PE X b tb){R:V->V->Hp->Prop}(I:Inv X W J H s)
  (h:ta J H λx H1=>tb J H1 λy H2=>R x y H2) {f:Li}
  (O:∀v u s2 x y H2,Inv X W J H2 s2->RelV x v->RelV y u->R x y H2->J6 X (f v u) Q X.xe s2):
  J6 X (eval a X.env) (λv s₁=>J6 X (eval b X.env) (λu s₂=>J6 X (f v u) Q X.xe s₂) X.xe s₁) X.xe s:=by
 refine HX (ha W s J H _ I h) λv s1 z=>?_;let{x,H1,S,r1,q1}:=z;refine HX (hb W s1 J H1 _ S q1) λu s2 z=>?_;let{y,H2,U,Y,q2}:=z;exact O v u s2 x y H2 U r1 Y q2
def aD{op:Operator}(z:Iy X (binaryOp op) r)(ha:PE X a ta)(hb:PE X b tb):PE X (.BinOp a op b pos) (Ka r ta tb):=by
 intro W s J H Q I h;exact wpAny_BinOp<|F5 ha hb I h λv u s2 x y H2 O S U q=>z W s2 J H2 x y v u Q O S U q
def xR{op:UnaryOp}{r:V->Hp->VK->Prop}(z:UnR X (unaryOp op) r)(ha:PE X a ta):PE X (.UnaryOp op a pos) (tUn r ta):=by
 intro W s J H Q I h;exact UnaryOp_<|HX (ha W s J H _ I h) λv s1 zz=>by let{x,H1,O,r1,q1}:=zz;exact z W s1 J H1 x v Q O r1 q1
def opI{f:Li}{C:Int->Int->Prop} 
  (rule:∀(i j:Int)(t u:Tok)(s:J')(Q:Kn)(E:Kn),C i j->Q (.int (g i j) s.toks) {s with toks:=s.toks+1}->J6 X (f (.int i t)<|.int j u) Q E s):
  Iy X f (rI C λi j=> .int<|g i j):=by
 intro W s J H x y v u Q I z O h;let{i,j,rfl,rfl,hc,q}:=h;let{t,rfl}:=z;let{t',rfl}:=O;exact rule i j t t' s _ _ hc {.int<|g i j,H,I.tok _,{_,M},q}
def opI0{f:Li} 
  (rule:∀(i j:Int)(t u:Tok)(s:J')(Q:Kn)(E:Kn),Q (.int (g i j) s.toks) {s with toks:=s.toks+1}->J6 X (f (.int i t)<|.int j u) Q E s):
  Iy X f (KS λi j=> .int<|g i j):=by
 intro W s J H x y v u Q I z O h;let{i,j,rfl,rfl,q}:=h;let{t,rfl}:=z;let{t',rfl}:=O;exact rule i j t t' s _ _ {.int<|g i j,H,I.tok _,{_,M},q}
def CZ{f:Li}{g:Int->Int->Bool}
  (rule:∀(i j:Int)(t u:Tok)(s:J')(Q:Kn)(E:Kn),Q (.bool<|g i j) s->J6 X (f (.int i t)<|.int j u) Q E s):
  Iy X f (KS λi j=> .bl<|g i j):=by
 intro W s J H x y v u Q I z O h;let{i,j,rfl,rfl,q}:=h;let{t,rfl}:=z;let{t',rfl}:=O;exact rule i j t t' s _ _ {.bl<|g i j,H,I,M,q}
def CDiv(i j:Int):Prop:=0<j/\j<1073741824
def CPow(i j:Int):Prop:=0<=j/\j<=1000000/\i.natAbs<2^64
def KY(i j:Int):Prop:=(-(2^64)<i/\i<2^64)\/(-(2^64)<j/\j<2^64)
def KY.ok{i j:Int}(h:KY i j):IntMulOk i j:=by
 rcases h with⟨h1,h2⟩|⟨h1,h2⟩
 .exact .of_left<|intBits_le_64 h1 h2
 .exact .of_right<|intBits_le_64 h1 h2
def dN:Iy X (binaryOp .Add) (KS λi j=> .int<|i+j):=opI0 λ_ _ _ _ _ _ _ q=>add_int q
def m8:Iy X (binaryOp .Sub) (KS λi j=> .int<|i-j):=opI0 λ_ _ _ _ _ _ _ q=>sub_int q
def wL:Iy X (binaryOp .Mult) (rI KY λi j=> .int<|i*j):=opI λ_ _ _ _ _ _ _ hc q=>mul_int q hc.ok
def c8:Iy X (binaryOp .FloorDiv) (rI CDiv λi j=> .int<|i/j):=opI λi j _ _ _ _ _ hc q=>by
 have h1:(0:Int)<j:=hc.1;have h2:j<1073741824:=hc.2;exact floordiv_int () (by rw[Int.fdiv_eq_ediv_of_nonneg i ()];exact q)<|.inl (PyProof.noPylong_small ())
def bw:Iy X (binaryOp .Mod) (rI (λ_ j=>0<j) λi j=> .int<|i%j):=opI λi j _ _ _ _ _ hc q=>by
 have h1:(0:Int)<j:=hc;exact mod_int' ()<|by rw[Int.fmod_eq_emod_of_nonneg i ()];exact q
def AA:Iy X (binaryOp .Pow) (rI CPow λi j=> .int<|i^j.toNat):=opI λ_ _ _ _ _ _ _ hc q=>pow_int_small hc.1 hc.2.1 hc.2.2 q
def unI{f:Value->Sem Value}{g:Int->Int}
  (rule:∀(i:Int)(t:Tok)(s:J')(Q:Kn)(E:Kn),Q (.int (g i) s.toks) {s with toks:=s.toks+1}->J6 X (f<|.int i t) Q E s):
  UnR X f (rU λi=> .int<|g i):=by
 intro W s J H x v Q I z h;let{i,rfl,q}:=h;let{t,rfl}:=z;exact rule i t s _ _ {.int<|g i,H,I.tok _,{_,M},q}
def tK:UnR X (unaryOp .USub) (rU λi=> .int<|-i):=unI λ_ _ _ _ _ q=>neg_int q
end
noncomputable def scal:V->V->Bool
 | .non,.non=>true| .non,.int _=>true| .int _,.non=>true| .non,.bl _=>true| .bl _,.non=>true| .non,.str _=>true| .str _,.non=>true
 | .int _,.int _=>true| .bl _,.bl _=>true| .str _,.str _=>true| .byt _,.byt _=>true
 | .int _,.str _=>true| .str _,.int _=>true| .bl _,.str _=>true| .str _,.bl _=>true
 |_,_=>false
def rEq:R2:=λx y H Q=>scal x y=true/\Q (.bl<|decide (x=y)) H
def rNe:R2:=λx y H Q=>scal x y=true/\Q (.bl<|!decide (x=y)) H
def yg{i j:Int}:decide (V.int i=V.int j)=(i==j):=by
 rw[Zt];simp
def Br{i j:Bool}:decide (V.bl i=V.bl j)=(i==j):=by
 rw[Zt];simp
def yf{i j:Str}:decide (V.str i=V.str j)=(i==j):=by
 rw[Zt];simp
def yh{i j:Array UInt8}:decide (V.byt i=V.byt j)=(i.toList==j.toList):=by
 rw[Zt];cases i;cases j;simp
section
variable{a b:Expr}{tb tc:TE}
def bi{Q:VK}{k z:Bool}(I:Inv X W J H s)(q:Q (.bl k) H)(e:k=z):EP X W J Q (.bool z) s:=by
 subst e;exact{.bl k,H,I,M,q}
def bV:Iy X (compareOp .Eq) rEq:=by
 intro W s J H x y v u Q I O z h;let{hs,q}:=h;cases x with
 |non=>
  cases O;cases y with
  |non=>cases z;exact PySem.EqNone.eq_none_none<|bi I q (by simp)
  |bl j=>cases z;exact PySem.EqNone.eq_none_bool<|bi I q (by simp)
  |int j=>let{t',rfl}:=z;exact PySem.EqNone.eq_none_int<|bi I q (by simp)
  |str j=>let{t',rfl}:=z;exact PySem.EqNone.eq_none_str<|bi I q (by simp)
  |_=>exact Xd (show false=true from hs) Q8
 |bl i=>
  cases O;cases y with
  |non=>cases z;exact PySem.EqNone.eq_bool_none<|bi I q (by simp)
  |bl j=>cases z;exact eq_bool<|bi I q Br
  |str j=>let{t',rfl}:=z;exact PySem.EqMixed.eq_bool_str<|bi I q (by simp)
  |_=>exact Xd (show false=true from hs) Q8
 |int i=>
  let{t,rfl}:=O;cases y with
  |non=>cases z;exact PySem.EqNone.eq_int_none<|bi I q (by simp)
  |int j=>let{t',rfl}:=z;exact eq_int<|bi I q yg
  |str j=>let{t',rfl}:=z;exact PySem.EqMixed.eq_int_str<|bi I q (by simp)
  |_=>exact Xd (show false=true from hs) Q8
 |str i=>
  let{t,rfl}:=O;cases y with
  |non=>cases z;exact PySem.EqNone.eq_str_none<|bi I q (by simp)
  |bl j=>cases z;exact PySem.EqMixed.eq_str_bool<|bi I q (by simp)
  |int j=>let{t',rfl}:=z;exact PySem.EqMixed.eq_str_int<|bi I q (by simp)
  |str j=>let{t',rfl}:=z;exact eq_str<|bi I q yf
  |_=>exact Xd (show false=true from hs) Q8
 |byt i=>
  let{t,rfl}:=O;cases y with
  |byt j=>let{t',rfl}:=z;exact PySem.W.eq_bytes<|bi I q yh
  |_=>exact Xd (show false=true from hs) Q8
 |_=>cases y<;>exact Xd (show false=true from hs) Q8
def xW:Iy X (compareOp .NotEq) rNe:=by
 intro W s J H x y v u Q I O z h;let{hs,q}:=h;cases x with
 |non=>
  cases O;cases y with
  |non=>cases z;exact PySem.EqNone.ne_none_none<|bi I q (by simp)
  |bl j=>cases z;exact PySem.EqNone.ne_none_bool<|bi I q (by simp)
  |int j=>let{t',rfl}:=z;exact PySem.EqNone.ne_none_int<|bi I q (by simp)
  |str j=>let{t',rfl}:=z;exact PySem.EqNone.ne_none_str<|bi I q (by simp)
  |_=>exact Xd (show false=true from hs) Q8
 |bl i=>
  cases O;cases y with
  |non=>cases z;exact PySem.EqNone.ne_bool_none<|bi I q (by simp)
  |bl j=>cases z;exact ne_bool<|bi I q (Xo not Br)
  |str j=>let{t',rfl}:=z;exact PySem.EqMixed.ne_bool_str<|bi I q (by simp)
  |_=>exact Xd (show false=true from hs) Q8
 |int i=>
  let{t,rfl}:=O;cases y with
  |non=>cases z;exact PySem.EqNone.ne_int_none<|bi I q (by simp)
  |int j=>let{t',rfl}:=z;exact ne_int<|bi I q (Xo not yg)
  |str j=>let{t',rfl}:=z;exact PySem.EqMixed.ne_int_str<|bi I q (by simp)
  |_=>exact Xd (show false=true from hs) Q8
 |str i=>
  let{t,rfl}:=O;cases y with
  |non=>cases z;exact PySem.EqNone.ne_str_none<|bi I q (by simp)
  |bl j=>cases z;exact PySem.EqMixed.ne_str_bool<|bi I q (by simp)
  |int j=>let{t',rfl}:=z;exact PySem.EqMixed.ne_str_int<|bi I q (by simp)
  |str j=>let{t',rfl}:=z;exact ne_str<|bi I q (Xo not yf)
  |_=>exact Xd (show false=true from hs) Q8
 |byt i=>
  let{t,rfl}:=O;cases y with
  |byt j=>let{t',rfl}:=z;exact PySem.W.ne_bytes<|bi I q (Xo not yh)
  |_=>exact Xd (show false=true from hs) Q8
 |_=>cases y<;>exact Xd (show false=true from hs) Q8
def fY:Iy X (compareOp .Lt) (KS λi j=> .bl<|decide (i<j)):=CZ λ_ _ _ _ _ _ _ q=>lt_int q
def vn:Iy X (compareOp .LtE) (KS λi j=> .bl<|decide (i<=j)):=CZ λ_ _ _ _ _ _ _ q=>le_int q
def AC:Iy X (compareOp .Gt) (KS λi j=> .bl<|decide (j<i)):=CZ λ_ _ _ _ _ _ _ q=>gt_int q
def xX:Iy X (compareOp .GtE) (KS λi j=> .bl<|decide (j<=i)):=CZ λ_ _ _ _ _ _ _ q=>ge_int q
def yP:Iy X (compareOp .In) (λx y H Q=>∃i j,x= .str i/\y= .str j/\Q (.bl<|!(Builtin.Str.occurrences j i 0 j.length 1).isEmpty) H):=by
 intro W s J H x y v u Q I z O h;let{i,j,rfl,rfl,q}:=h;let{t,rfl}:=z;let{t',rfl}:=O;exact in_str<|bi I q M
def tZ:Iy X (compareOp .Is) (λx y H Q=>y= .non/\Q (.bl<|decide (x= .non)) H):=by
 intro W s J H x y v u Q I z O h;let{rfl,q}:=h;cases O;refine is_none_gen<|bi I q ?_;cases x<;>first
  |(cases z;rfl)
  |(let{t,rfl}:=z;rfl)
def aH(b:Expr)(h:op≠ .In:=by decide)(h2:op≠ .NotIn:=by decide):behindInMarks op b=false:=by
 have z:(op==CmpOp.In)=false:=by cases op<;>first|rfl|exact Xd M h
 have e2:(op==CmpOp.NotIn)=false:=by cases op<;>first|rfl|exact Xd M h2
 cases b with
 |Set x k y=>
  show(k==0&&(op== .In||op== .NotIn)&&_)=false;rw[z,e2,Bool.or_false,Z9,ZP]
 |_=>rfl
def eW(z:Iy X (compareOp op) r)(ha:PE X a ta)(hb:PE X b tb)(O:behindInMarks op b=false):PE X (.Compare a [op] [b] pos) (Ka r ta tb):=by
 intro W s J H Q I h;exact wpAny_Compare1 (F5 ha hb I h λv u s2 x y H2 S U Y q=>z W s2 J H2 x y v u Q S U Y q) O
inductive EL(Q:Bool->Hp->Prop)(x:V)(H':Hp):Prop
 |mk(k:_)(_:x= .bl k)(_:Q k H')
def Eh(t:TE):TT:=λJ H Q=>t J H λx H'=>EL Q x H'
def aA(O:Iy X (compareOp op) r)(ha:PE X a ta)(hb:PE X b tb)(S:behindInMarks op b=false):PT X (.Compare a [op] [b] pos) (Eh<|Ka r ta tb):=by
 intro W s J H Q I h;refine wpAny_isTrue_Compare1 (HX (ha W s J H _ I h) λv s1 zz=>?_) S;let{x,H1,U,r1,q1}:=zz;refine HX (hb W s1 J H1 _ U q1) λu s2 zz=>?_;let{y,H2,Y,Z,q2}:=zz;refine HX (O W s2 J H2 x y v u _ Y r1 Z q2) λc s3 zz=>?_;let{z,H3,I3,r3,k,e,q3}:=zz
 subst e;cases r3;exact Xr ⟨H3,I3,q3⟩
def z8(r r':R2)(ta tb tc:TE):TE:=λJ H Q=>ta J H λx H1=>tb J H1 λy H2=>r x y H2 λz H3=>∃k,z= .bl k/\
 (if k=true then tc J H3 λw' H4=>r' y w' H4 Q else Q (.bl false) H3)
def Aw{O:CmpOp}{U:R2}(ho:Iy X (compareOp op) r)(S:Iy X (compareOp O) U)(ha:PE X a ta)(hb:PE X b tb)(hc:PE X c tc)
  (hm:lastMarks [op,O] [b,c]=false:=by with_unfolding_all rfl):PE X (.Compare a [op,O] [b,c] pos) (z8 r U ta tb tc):=by
 intro W s J H Q I h;refine Compare_chain (HX (ha W s J H _ I h) λv s1 zz=>?_) hm;let{x,H1,I1,r1,q1}:=zz;refine chain_link (HX (hb W s1 J H1 _ I1 q1) λu s2 zz=>?_);let{y,H2,I2,Y,q2}:=zz;refine HX (ho W s2 J H2 x y v u _ I2 r1 Y q2) λd s3 zz=>?_;let{z,H3,Z,r3,k,e,q3}:=zz
 subst e;cases r3;refine Xr ?_;cases k with
 |false=>exact ite_ff {.bl false,H3,Z,M,q3}
 |true=>exact ite_tt<|chain_last (HX (hc W s3 J H3 _ Z q3) λw' s4 zz=>by let{z',H4,I4,r4,q4}:=zz;exact S W s4 J H4 y z' u w' Q I4 Y r4 q4)
def Am{O:CmpOp}{Y:R2}(ho:Iy X (compareOp op) r)(S:Iy X (compareOp O) Y)(ha:PE X a ta)(hb:PE X b tb)(hc:PE X c tc)
  (hm:lastMarks [op,O] [b,c]=false:=by with_unfolding_all rfl):PT X (.Compare a [op,O] [b,c] pos) (Eh<|z8 r Y ta tb tc):=by
 intro W s J H Q I h;refine isTrue_chain (HX (ha W s J H _ I h) λv s1 zz=>?_) hm;let{x,H1,I1,r1,q1}:=zz;refine test_link (HX (hb W s1 J H1 _ I1 q1) λu s2 zz=>?_);let{y,H2,I2,Z,q2}:=zz;refine HX (ho W s2 J H2 x y v u _ I2 r1 Z q2) λd s3 zz=>?_;let{z,H3,I3,r3,k,e,q3}:=zz
 subst e;cases r3;refine Xr ?_;cases k with
 |false=>
  let{k',e',q'}:=q3;cases e';exact ite_ff ⟨H3,I3,q'⟩
 |true=>
  refine ite_tt<|test_last (HX (hc W s3 J H3 _ I3 q3) λw' s4 zz=>?_);let{z',H4,I4,r4,q4}:=zz;refine HX (S W s4 J H4 y z' u w' _ I4 Z r4 q4) λd' s5 U=>?_;let{z2,H5,I5,r5,k2,e2,q5}:=U;subst e2;cases r5;exact Xr ⟨H5,I5,q5⟩
def nB:(sizeLine:Nat)<2^63:=by rw[sizeLine_eq];decide
def bZ:Iy X (binaryOp .Add) (λx y H Q=>∃i j,x= .str i/\y= .str j/\i.length+j.length<=sizeLine/\Q (.str<|i++j) H):=by
 intro W s J H x y v u Q I z O h;let{i,j,rfl,rfl,hz,q}:=h;let{t,rfl}:=z;let{t',rfl}:=O;exact add_str (λt' tk=>{.str<|i++j,H,I.tok _,{_,M},q}) hz
def oS{x:V}(r:HV [x] us):∃u,us=[u]/\RelV x u:=by
 cases r with
 |cons r1 z=>cases z;exact{_,M,r1}
def oR{x:V}(r:HV [x,y] us):∃u w',us=[u,w']/\RelV x u/\RelV y w':=by
 cases r with
 |cons r1 z=>
  cases z with
  |cons I O=>cases O;exact{_,_,M,r1,I}
def zz(hc:X.calm=true):fV X (.builtin "max") (λxs H Q=>∃i j,xs=[.int i,.int j]/\Q (.int<|if j>i then j else i) H):=by
 intro W s J H xs us Q I r h;let{i,j,rfl,q}:=h;let{u,w',rfl,{t,rfl},{t',rfl}}:=oR r;refine max_two_ints (I.ok.hd hc) λh' tk k=>{_,H,I.kept k,?_,q};by_cases z:j>i
 .rw[Xe z,Xe z];exact{_,M}
 .rw[Xc z,Xc z];exact{_,M}
def zy(hc:X.calm=true):fV X (.builtin "min") (λxs H Q=>∃i j,xs=[.int i,.int j]/\Q (.int<|if j<i then j else i) H):=by
 intro W s J H xs us Q I r h;let{i,j,rfl,q}:=h;let{u,w',rfl,{t,rfl},{t',rfl}}:=oR r;refine min_two_ints (I.ok.hd hc) λh' tk k=>{_,H,I.kept k,?_,q};by_cases z:j<i
 .rw[Xe z,Xe z];exact{_,M}
 .rw[Xc z,Xc z];exact{_,M}
def aL:fV X (.type qs) (λxs H Q=>∃i,xs=[.int i]/\i.natAbs.log2<1920/\Q (.str<|toString i) H):=by
 intro W s J H xs us Q I r h;let{i,rfl,hz,q}:=h;let{u,rfl,t,rfl}:=oS r;exact PySem.P.str_of_int hz {.str _,H,I.tok _,{_,M},q}
end
structure Jw(h:Heap)(x dx C:B')(mA:Kq):Prop where
 obj:h.get? x=some (PySem.W.instObj C dx)
 ns:h.Ns1 dx mA
 ne:dx≠x
set_option tactic.hygienic true in
def y4{mA:Kq}(n:h.Ns1 dx mA):∃od,h.get? dx=some od/\∀name,PySem.W.lookIn name od=some (mA name):=by
 let{o,es,ep,O,hd,hk,_,S}:=n;refine{o,O,λname=>?_};have e:=S name;unfold nsFind findBy at e;rw[<-Array.find?_toList]at e;unfold PySem.W.lookIn;rw[hd];dsimp only;split
 .rename_i y q
  rw[q]at e;exact Xo some e
 .rename_i q
  rw[q]at e;have a:es.toList.any (·.refKey)=false:=by
   rw[List.any_eq_false];intro y hy;let{z,t,I}:=hk y (Array.mem_toList_iff.mp hy);simp[DictEntry.refKey,I]
  have U:¬es.toList.any (·.refKey)=true:=by rw[a];exact Q8
  rw[Xc U];exact Xo some e
def Jw.look{x:B'}{mA:Kq}(I:Jw h x dx C mA):∃od,PySem.W.InstAt h x (PySem.W.instObj C dx) C (some od)/\∀name,PySem.W.lookIn name od=some (mA name):=
 let⟨od,ho,hl⟩:=y4 I.ns
 {od,⟨I.obj,M,M,ho⟩,hl}
section
variable{x:B'}{mA:Kq}{v:Kb}
def Du{z:Bool}(X:K.In s.heap)(I:Jw s.heap x dx C mA)(S:PySem.W.plainGet K C name=true)(U:PySem.W.hasDictIn K C=true)
  (ha:PySem.W.findIn K (.ref C) name=some none) (Y:mA name=some v) (O:PySem.W.handedIn v=true) (h:Q v {s with toks:=s.toks+1}):
  wpAny (model prog w) A (getAttr (.ref x) name z) Q E s:=by
 let{od,J4,hl}:=I.look;exact PySem.W.get_value X J4 (ZU S).1 (PySem.W.findObj_own U ha M<|by rw[hl,Y]) O h
def Bl{pl:Sem Bool}{Q:Value×List Value->Shared->Prop}(X:K.In s.heap)(I:Jw s.heap x dx C mA)(z:PySem.W.plainGet K C name=true)
  (O:PySem.W.findIn K (.ref C) name=some (some<|.ref f)) (S:PySem.W.isFn K (.ref f)=true) (U:mA name=none) (h:Q (.ref f,[.ref x]) s):
  wpAny (model prog w) A (getMethod (.ref x) name pl) Q E s:=by
 let{od,J4,hl}:=I.look;exact PySem.W.method_fn X J4 (ZU z).1 (ZU z).2 O (Xu.mp S) (by show(PySem.W.lookIn name od).map (·.isSome)=some false;rw[hl,U];rfl) h
def Cy{ns:Kc}{Q:Ky}(X:K.In s.heap)(I:Jw s.heap x dx C mA)
  (hs:PySem.W.findIn K (.ref C) "__setattr__"=some (some<|.builtin "object.__setattr__")) (hp:PySem.W.plainOver K C=true) (ht:PySem.W.takerIn K C name=some none) (hh:PySem.W.hasDictIn K C=true)
  (hw:PySem.Within mA ns) (hsz:ns.length<=sizeLine)
  (h:∀h',Jw h' x dx C (λy=>if y=name then some v else mA y)->Heap.SameBut dx s.heap h'->Q Unit.unit {s with heap:=h',toks:=s.toks+2}):
  wpAny (model prog w) A (setAttr (.ref x) name v) Q E s:=by
 let{od,J4,hl}:=I.look;refine PySem.W.set_plain X J4 hs<|PySem.W.osa_open (s:={s with toks:=s.toks+1}) (r:=none) X J4 hp ht λb=>?_;let{cd,hc,S}:=PySem.W.any_some hh;have hx:s.heap.get? x=some {.ref C,some dx,.plain, #[]}:=I.obj;refine Xa<|Xj (Xa<|Xa<|wpAny_loadPart hx<|Xa<|PySem.W.Looks.here (s:={s with toks:=s.toks+1}) (PySem.W.looks_clsIn X hc) ?_);rw[S];refine Xj (a:=some dx)<|Xa (Xj<|Xa ?_);refine wpAny_nsSet1 (s:={s with toks:=s.toks+1}) I.ns λh' z O=>?_;let{oD,a0,a1,U,Y,Z}:=z.count (PySem.Within.cons name v hw);refine Xa<|wpAny_lookBehind U (by rw[Y];exact pastItsLine_dict<|Qw Z<|by rw[Q3];lia) ?_;exact Xj<|h _ {(O.2 _<|Ne.symm I.ne).trans I.obj,z,I.ne} O
def AT{vs:Kd}(X:K.In s.heap)(z:PySem.W.makesIn K C=true)
  (hi:PySem.W.findIn K (.ref C) cC=some (some<|.ref f)) (I:PySem.W.typeIn K (.ref f)=some (.type "function"))
  (h:codeAny (model prog w) (A.under<|.builtin j0 {.ref C::vs,kw}) (.call (.ref f) {.ref (s.heap.objs.size+1)::vs,kw}) (PySem.W.InitBack (s.heap.objs.size+1) R)
   {s with heap:=(s.heap.push PySem.W.emptyDict).push (PySem.W.instObj C s.heap.objs.size)}):
  codeAny (model prog w) A (.call (.ref C) ⟨vs,kw⟩) R s:=by
 let{O,g,d,t,os}:=s;exact PySem.W.make_core (PySem.W.makes_of X z) (PySem.W.looks_findIn X hi) (λself=>PySem.W.bind_fn X self I) (.inl M) h
end
def bY(f:Str)(v:V):List (Str×V)->List (Str×V)
 | []=> [(f,v)]
 |(g,x)::r=>if g=f then(g,v)::r else(g,x)::bY f v r
theorem bf(f g:Str)(v:V):∀fs:List (Str×V),(bY f v fs).lookup g=if g=f then some v else fs.lookup g
 | []=>by
  show List.lookup g [(f,v)]=_;by_cases h:g=f
  .have hb:(g==f)=true:=Xu.mpr h;simp only[List.lookup,hb,Xe h]
  .have hb:(g==f)=false:=Xq.mpr h;simp only[List.lookup,hb,Xc h]
 |(k,x)::r=>by
  have z:=bf f g v r;rw[show bY f v ((k,x)::r)=(if k=f then(k,v)::r else(k,x)::bY f v r) from rfl];by_cases hk:k=f
  .rw[Xe hk];by_cases h:g=k
   .have hb:(g==k)=true:=Xu.mpr h;simp only[List.lookup,hb,Xe (h.trans hk)]
   .have hb:(g==k)=false:=Xq.mpr h;simp only[List.lookup,hb,Xc (λe:g=f=>h<|e.trans hk.symm)]
  .rw[Xc hk];by_cases h:g=k
   .have hb:(g==k)=true:=Xu.mpr h;simp only[List.lookup,hb,Xc (λe:g=f=>hk<|h.symm.trans e)]
   .have hb:(g==k)=false:=Xq.mpr h;simp only[List.lookup,hb];exact z
theorem nC(f:Str)(v:V):∀fs:List (Str×V),f∈(bY f v fs).map (·.1)/\∀g,g∈fs.map (·.1)->g∈(bY f v fs).map (·.1)
 | []=>{by simp[bY],λg h=>by simp at h}
 |(k,x)::r=>by
  let{z,I}:=nC f v r;rw[show bY f v ((k,x)::r)=(if k=f then(k,v)::r else(k,x)::bY f v r) from rfl];by_cases hk:k=f
  .rw[Xe hk];subst hk;exact{by simp,λg h=>by simpa using h}
  .rw[Xc hk];refine{?_,λg h=>?_}
   .rw[Qm];exact Q4 _ z
   .rw[Qm]at h⊢;rcases Qa.mp h with e|e
    .exact Qa.mpr<|.inl e
    .exact Q4 _<|I g e
theorem nR(f:Str)(v:V):∀fs:List (Str×V),(bY f v fs).length<=fs.length+1
 | []=>by simp[bY]
 |(k,x)::r=>by
  have z:=nR f v r;rw[show bY f v ((k,x)::r)=(if k=f then(k,v)::r else(k,x)::bY f v r) from rfl];by_cases hk:k=f
  .rw[Xe hk,Q3,Q3];lia
  .rw[Xc hk,Q3,Q3];lia
def Ig.some_of(r:Ig (some v) o):∃u,o=some u/\RelV v u:=by
 cases o with
 |none=>exact(show False from r).elim
 |some u=>exact⟨u,M,r⟩
def Ig.none_of(r:Ig none o):o=none:=by
 cases o with
 |none=>rfl
 |some u=>exact(show False from r).elim
def ze(r:RelV v u):PySem.W.handedIn u=true:=by
 cases v with
 |non=>cases (show u=Value.none from r);rfl
 |bl b=>cases (show u=Value.bool b from r);rfl
 |int i=>let{t,e}:=(show ∃t,u=Value.int i t from r);cases e;rfl
 |str x=>let{t,e}:=(show ∃t,u=Value.str x t from r);cases e;rfl
 |byt b=>let{t,e}:=(show ∃t,u=Value.bytes b t from r);cases e;rfl
 |flt b=>let{t,e}:=(show ∃t,u=Value.float b t from r);cases e;rfl
 |ref a=>cases (show u=Value.ref a from r);rfl
 |ty n=>cases (show u=Value.type n from r);rfl
section
variable{fs fs':Ks}
def IU(hok:IR P w H h)(e:H a=some (.ins C dx fs)):∃mA,Jw h a dx C mA/\(∀f,Ig (fs.lookup f) (mA f))/\PySem.Within mA (fs.map (·.1))/\fs.length<=1000/\H dx=some (.own a):=by
 let{d,z,ne,ob,mA,n,r,q}:=(show HZ P w H h a (.ins C dx fs) from hok a _ e);exact{mA,⟨ob,n,ne⟩,r,q,z,d}
end
structure Jc(K:J5)(C:B'):Prop where
 pg:PySem.W.plainGet K C Str.empty=true
 hd:PySem.W.hasDictIn K C=true
 po:PySem.W.plainOver K C=true
 sa:PySem.W.findIn K (.ref C) "__setattr__"=some (some<|.builtin "object.__setattr__")
def Jc.get{K:J5}{C:B'}(c:Jc K C)(f:Str):PySem.W.plainGet K C f=true:=c.pg
def HR(K:J5)(C:B')(f:Str):Prop:=PySem.W.findIn K (.ref C) f=some none
def HR.taker{f:Str}(n:HR K C f):PySem.W.takerIn K C f=some none:=by
 unfold PySem.W.takerIn;rw[show PySem.W.findIn K (.ref C) f=some none from n];rfl
structure fR(K:J5)(C:B')(m:Str)(f:B'):Prop where
 at_:PySem.W.findIn K (.ref C) m=some (some<|.ref f)
 fn:PySem.W.isFn K (.ref f)=true
 kp:PySem.W.keepIn K (.ref f)=true
section
variable{fs:Ks}{f:Str}
def qG{b:Bool}(I:Inv X W J H s)(e:H a=some (.ins C dx fs))(c:Jc X.K C)(n:HR X.K C f)(l:fs.lookup f=some v)
  (h:∀u s',Inv X W J H s'->RelV v u->Q u s'):wpAny (model X.prog X.w) A (getAttr (.ref a) f b) Q E s:=by
 let{mA,O,r,_,_,_}:=IU I.hok e;let{u,hu,z}:=Ig.some_of (v:=v) (o:=mA f) (by rw[<-l];exact r f);exact Du I.kIn O (c.get f) c.hd n hu (ze z)<|h u _ (I.tok _) z
def lr{g:B'}{pl:Sem Bool}{Q:Value×List Value->Shared->Prop}(I:Inv X W J H s)(e:H a=some (.ins C dx fs))(c:Jc X.K C)(k:fR X.K C m g)(l:fs.lookup m=none)
  (h:Q (.ref g,[.ref a]) s):wpAny (model X.prog X.w) A (getMethod (.ref a) m pl) Q E s:=by
 let{mA,O,r,_,_,_}:=IU I.hok e;have z:mA m=none:=Ig.none_of (by rw[<-l];exact r m);exact Bl I.kIn O (c.get m) k.at_ k.fn z h
def pE{Q:Ky}(I:Inv X W J H s)(e:H a=some (.ins C dx fs))(c:Jc X.K C)(n:HR X.K C f)(hl:fs.length<1000)(Y:RelV y u)
  (h:∀s',Inv X W J (upd H a<|.ins C dx<|bY f y fs) s'->Q Unit.unit s'):wpAny (model X.prog X.w) A (setAttr (.ref a) f u) Q E s:=by
 let{mA,O,r,wi,_,U}:=IU I.hok e;have hz:(fs.map (·.1)).length<=sizeLine:=by rw[Q0,sizeLine_eq];lia
 refine Cy I.kIn O c.sa c.po n.taker c.hd wi hz λh' S Z=>h _ ?_;have hd:∃o,h'.get? dx=some o:=by let{o,_,_,e',_}:=S.ns;exact⟨o,e'⟩
 refine I.write (x:=a) (e:=dx) (by rw[e];exact Xn) (.inr U) (λb q hb z=>(Z.2 b hb).trans z) hd ?_;refine{by rwa[ah O.ne],?_,O.ne,S.obj,_,S.ns,λg=>?_,λg hg=>?_}
 .have:=nR f y fs;lia
 .show Ig ((bY f y fs).lookup g) (if g=f then some u else mA g);rw[bf];by_cases q:g=f
  .rwa[Xe q,Xe q]
  .rw[Xc q,Xc q];exact r g
 .by_cases q:g=f
  .rw[q];exact(nC f y fs).1
  .refine(nC f y fs).2 g<|wi g λz=>hg ?_;show(if g=f then some u else mA g)=none;rwa[Xc q]
def Inv.made(I:Inv X W J H s):Inv X W J (upd (upd H s.heap.objs.size<|.own<|s.heap.objs.size+1) (s.heap.objs.size+1)<|.ins C s.heap.objs.size [])
  {s with heap:=(s.heap.push PySem.W.emptyDict).push (PySem.W.instObj C s.heap.objs.size)}:=by
 have z:(s.heap.push PySem.W.emptyDict).get? s.heap.objs.size=some PySem.W.emptyDict:=Xl s.heap M;have e2:((s.heap.push PySem.W.emptyDict).push<|PySem.W.instObj C s.heap.objs.size).get? (s.heap.objs.size+1)=some (PySem.W.instObj C s.heap.objs.size):=by
  have:=Xl (s.heap.push PySem.W.emptyDict) (o:=PySem.W.instObj C s.heap.objs.size) M;rwa [Heap.size_push]at this
 have O:(s.heap.push PySem.W.emptyDict).Ns s.heap.objs.size (λ_=>none):={PySem.W.emptyDict, #[],_,z,M,(λe he=>Xd he<|by simp),λ_=>M};have S:=I.laid (a:=s.heap.objs.size) (o:= .own<|s.heap.objs.size+1) (h':=s.heap.push PySem.W.emptyDict) (t':=s.toks) (λb u q=>Xb _ q) (Qc _) {_,z};refine S.laid (a:=s.heap.objs.size+1) (o:= .ins C s.heap.objs.size []) (t':=s.toks) (λb u q=>Xb _ q) (Zo<|Heap.size_push _ _) ?_;have ne:s.heap.objs.size≠s.heap.objs.size+1:=Qs (X2 _);refine{by rw[ah ne,BB],Qy _,ne,e2,λ_=>none,(Heap.Ns1.of_empty O).at λo q=>Xb _ q,λ_=>Xn,λy hy=>Xd M hy}
def DV{env:Env}{f:Str}(hb:attributeBase e f env (eval e env)=eval e env)
  (h:wpAny (model prog w) A (eval e env) (λo s₁=>wpAny (model prog w) A (getAttr o f true) Q E s₁) E s):wpAny (model prog w) A (eval (.Attribute e f pos) env) Q E s:=
 Attribute_any_ h (by rw[arm_eval_Attribute,hb])
end
inductive GK(K:J5)(f:Str)(Q:VK)(x:V)(H1:Hp):Prop
 |mk(a C dx fs v:_)(_:x= .ref a)(_:H1 a=some (.ins C dx fs))(_:Jc K C)(_:HR K C f)(_:fs.lookup f=some v)(_:Q v H1)
def tFld(K:J5)(ta:TE)(f:Str):TE:=λJ H Q=>ta J H λx H1=>GK K f Q x H1
inductive GU(K:J5)(f:Str)(D:Iw)(J:St)(y x:V)(H2:Hp):Prop
 |mk(a C dx fs:_)(_:x= .ref a)(_:H2 a=some (.ins C dx fs))(_:Jc K C)(_:HR K C f)(_:fs.length<1000)(_:D.nx J (upd H2 a<|.ins C dx<|bY f y fs))
def sFld(K:J5)(ta tv:TE)(f:Str):TS:=λD J H=>tv J H λy H1=>ta J H1 λx H2=>GU K f D J y x H2
def InOp(X:Cx)(op:Operator)(rd:V->V->Hp->VK->Prop):Prop:=
 ∀(W:Kf)(s:J')(J:St)(H:Hp)(x y:V)(u v:Kb)(Q:VK),Inv X W J H s->RelV x u->RelV y v->rd x y H Q->J6 X (inplaceOp op u v) (EP X W J Q) X.xe s
inductive Ai(K:J5)(tv:TE)(rd:V->V->Hp->VK->Prop)(f:Str)(D:Iw)(J:St)(x:V)(H1:Hp):Prop
 |mk(a C dx fs v:_)(_:x= .ref a)(_:H1 a=some (.ins C dx fs))(_:Jc K C)(_:HR K C f)(_:fs.lookup f=some v)(_:tv J H1 λy H2=>rd v y H2 λz H3=>∃dx' fs',H3 a=some (.ins C dx' fs')/\fs'.length<1000/\D.nx J (upd H3 a<|.ins C dx'<|bY f z fs'))
def CB(K:J5)(ta tv:TE)(rd:V->V->Hp->VK->Prop)(f:Str):TS:=λD J H=>ta J H λx H1=>Ai K tv rd f D J x H1
section
variable{o value:Expr}{f:Str}{pos' tpos:Pos}{tv:TE}
def aO(he:PE X e ta)(hb:attributeBase e f X.env (eval e X.env)=eval e X.env):PE X (.Attribute e f pos) (tFld X.K ta f):=by
 intro W s J H Q I h;refine DV hb<|HX (he W s J H _ I h) λu s1 z=>?_;let{x,H1,O,S,a,C,dx,fs,v,ex,ea,c,n,l,q}:=z;subst ex;obtain rfl:u=Value.ref a:=S;exact qG O ea c n l λZ s2 U Y=>⟨v,H1,U,Y,q⟩
def bx(ha:PE X o ta)(O:PE X value tv)(hs:swapsWith value (some<|.Attribute o f pos') pos.line X.env=pure false):PS X (.Assign [.Attribute o f pos'] value pos) (sFld X.K ta tv f):=by
 intro W s J H D I h;refine plainObj_wpAny_Assign_Attribute (HX (O W s J H _ I h) λu s1 zz=>?_) hs;let{y,H1,S,U,q}:=zz;refine HX (ha W s1 J H1 _ S q) λY s2 z=>?_;let{x,H2,Z,rx,a,C,dx,fs,ex,ea,c,n,l,q2}:=z;subst ex;obtain rfl:Y=Value.ref a:=rx;exact pE Z ea c n l U λs3 I3=>{J,_,I3,q2}
def m5{op:Operator}(ha:PE X o ta)(U:PE X value tv)(S:InOp X op rd):PS X (.AugAssign (.Attribute o f tpos) op value pos) (CB X.K ta tv rd f):=by
 intro W s J H D I h;refine wpAny_AugAssign_AttributeAny<|HX (ha W s J H _ I h) λY s1 O=>?_;let{x,H1,Z,rx,a,C,dx,fs,v,ex,ea,c,n,l,q}:=O;subst ex;obtain rfl:Y=Value.ref a:=rx;refine qG Z ea c n l λu s2 I2 ru=>HX (U W s2 J H1 _ I2 q) λw3 s3 zz=>?_;let{y,H2,I3,ry,q3}:=zz;refine HX (S W s3 J H2 v y u w3 _ I3 ru ry q3) λw4 s4 O=>?_;let{z,H3,I4,rz,a0,fs',ea',l',q4}:=O;exact pE I4 ea' c n l' rz λs5 I5=>{J,_,I5,q4}
inductive rAdd(x y:V)(H:Hp)(Q:VK):Prop
 |mk(i j:_)(_:x= .int i)(_:y= .int j)(_:Q (.int<|i+j) H)
def xg:InOp X .Add rAdd:=by
 rintro W s J H x y u v Q I z O ⟨i,j,rfl,rfl,q⟩;let{t,rfl}:=(show ∃t,u=Value.int i t from z);let{t',rfl}:=(show ∃t',v=Value.int j t' from O);exact PyProof.Rows.iadd_int {.int<|i+j,H,I.tok _,{_,M},q}
end
section
variable{c:Kb}{b:Bool}
inductive IH(K:J5)(H:Hp):V->Value->Prop where
 |non:IH K H .non (.type "NoneType")
 |bl(x:Bool):IH K H (.bl x) (.type "bool")
 |int(i:Int):IH K H (.int i) (.type "int")
 |str(x:Str):IH K H (.str x) (.type qs)
 |flt(x:UInt64):IH K H (.flt x) (.type "float")
 |lst{a:B'}{xs:Ke}(e:H a=some (.lst xs)):IH K H (.ref a) (.type i1)
 |frz{a:B'}{o:Obj}{xs:Ke}(e:H a=some (.frz o<|.lst xs)):IH K H (.ref a) (.type i1)
 |tup{a:B'}{xs:Ke}(e:H a=some (.tup xs)):IH K H (.ref a) (.type cs)
 |dK{a:B'}{kvs:Kv}(e:H a=some (.dK kvs)):IH K H (.ref a) (.type "dict")
 |dT{a:B'}{kvs:Lc}(e:H a=some (.dT kvs)):IH K H (.ref a) (.type "dict")
 |ins{a C dx:B'}{fs:Ks}(e:H a=some (.ins C dx fs))(cl:Jc K C)(ha:PySem.W.findIn K (.ref C) "__class__"=some (some<|.builtin ge))
   (hn:PySem.W.specialIn K (.builtin ge) "__get__"=some (some<|.builtin i3)) (htk:PySem.W.takesIn K (.builtin ge)=some true)
   (hm:PySem.W.mroIn K C (.type "object")=some true):IH K H (.ref a) (.ref C)
def sX{x:V}{t:Kb}(I:Inv X W J H s)(S:RelV x u)(ty:IH X.K H x t)(e:PySem.W.kitOne X.K t c=some b)(h:∀tk,Q (.bool b) {s with toks:=tk}):
  wpAny (model X.prog X.w) A (call (.builtin nj) [u,c]) Q E s:=by
 cases ty with
 |non=>cases (show u=Value.none from S);exact QI PySem.W.kitx_none I.kIn Xn e (λz=>nomatch z) h
 |bl y=>cases (show u=Value.bool y from S);exact QI PySem.W.kitx_bool I.kIn Xn e (λz=>nomatch z) h
 |int i=>let{t,q}:=(show ∃t,u=Value.int i t from S);cases q;exact QI PySem.W.kitx_int I.kIn Xn e (λz=>nomatch z) h
 |str y=>let{t,q}:=(show ∃t,u=Value.str y t from S);cases q;exact QI PySem.W.kitx_str I.kIn Xn e (λz=>nomatch z) h
 |flt y=>let{t,q}:=(show ∃t,u=Value.float y t from S);cases q;exact QI PySem.W.kitx_float I.kIn Xn e (λz=>nomatch z) h
 | @lst a xs ea=>
  cases (show u=Value.ref a from S);let{_,_,n,_,h1}:=(show HZ X.prog X.w H s.heap a (.lst xs) from I.hok a _ ea);exact QI PySem.W.kitx_list I.kIn {_,h1,M} e (λz=>nomatch z) h
 | @frz a ob xs ea=>
  cases (show u=Value.ref a from S);let{_,_,_,n,_,h1}:=(show HZ X.prog X.w H s.heap a (.frz ob<|.lst xs) from I.hok a _ ea);exact QI PySem.W.kitx_list I.kIn {_,h1,M} e (λz=>nomatch z) h
 | @tup a xs ea=>
  cases (show u=Value.ref a from S);let{_,_,_,p}:=(show HZ X.prog X.w H s.heap a (.tup xs) from I.hok a _ ea);let{o,h1,h2,_}:=p;exact QI PySem.W.kitx_tuple I.kIn ⟨o,h1,h2⟩ e (λz=>nomatch z) h
 | @dK a kvs ea=>
  cases (show u=Value.ref a from S);let{_,_,vs,_,p}:=(show HZ X.prog X.w H s.heap a (.dK kvs) from I.hok a _ ea);let{o,es,ep,h1,h2,_}:=p;exact QI PySem.W.kitx_dict I.kIn ⟨o,h1,h2.1⟩ e (λz=>nomatch z) h
 | @dT a kvs ea=>
  cases (show u=Value.ref a from S);let{_,_,xs,_,o,es,ep,h1,h2,_}:=(show HZ X.prog X.w H s.heap a (.dT kvs) from I.hok a _ ea);exact QI PySem.W.kitx_dict I.kIn ⟨o,h1,h2.1⟩ e (λz=>nomatch z) h
 | @ins a C dx fs ea cl ha Y U Z=>
  cases (show u=Value.ref a from S);let{mA,O,_}:=IU I.hok ea;let{od,J4,_}:=O.look;exact QI (PySem.W.kitx_own (cl.get _) cl.hd ha Y U Z) I.kIn J4 e (λz=>nomatch z) h
end
structure IB(k:Nat)(A:Kp):Prop where
 hd:A.handled=none
 dp:A.depth+3*k+5<recursionLimit
 un:A.units+16*k+200<cLine
def IB.mono{k:Nat}(r:IB k A)(h:j<=k):IB j A:={r.hd,by have:=r.dp;lia,by have:=r.un;lia}
def IB.deeper{k:Nat}(r:IB (k+1) A)(env:Env):IB k (A.deeper env):=
 {r.hd,by have:=r.dp;show A.depth+1+3*k+5<_;lia,by have:=r.un;show A.units+3+16*k+200<_;lia}
def wZ:(A.under<|.builtin j0 {.ref C::us,kw}).depth=A.depth+1:=by
 first|rfl|simp[Around.under,Code.weight,Code.isCreation,Code.isGuard,Code.isCaller,Code.frames,Code.isFrame,guardIds]
def wY:(A.under<|.builtin j0 {.ref C::us,kw}).units=A.units+1:=by
 first|rfl|simp[Around.under,Code.cUnits,Code.frames,Code.isFrame]
def IB.make{k:Nat}(r:IB (k+1) A)(C:B')(us:Kd)(kw:Lg):IB k (A.under<|.builtin j0 {.ref C::us,kw}):=
 {r.hd,by have:=r.dp;rw[wZ];lia,by have:=r.un;rw[wY];lia}
def IB.depth{k:Nat}(r:IB k A):A.depth<recursionLimit:=by have:=r.dp;lia
def IB.units{k:Nat}(r:IB k A):A.units+64<cLine:=by have:=r.un;lia
def yz:TA:=λ_ H Q=>Q [] H
def sJ(ta:TE)(tr:TA):TA:=λJ H Q=>ta J H λx H1=>tr J H1 λxs H2=>Q (x::xs) H2
section
variable{t:TA}
def ag:PA X [] yz:=λ_ _ _ _ H Q I h=>Calls.spliced_nil {[],H,I,.nil,h}
def aa(ha:PE X e te)(O:PA X es t)(hs:starEach (e::es) X.env=(false,eval e X.env)::starEach es X.env:=by rfl):PA X (e::es) (sJ te t):=by
 intro pos W s J H Q I h;rw[hs];show wpAny _ _ (spliced ((false,eval e X.env)::backTo pos (starEach es X.env))) _ _ s;refine Calls.spliced_cons<|HX (ha W s J H _ I h) λu s1 z=>?_;let{x,H1,S,r1,q1}:=z;exact HX (O pos W s1 J H1 _ S q1) λus s2 zz=>by let{xs,H2,U,Y,q2}:=zz;exact{x::xs,H2,U,.cons r1 Y,q2}
def tTup(t:TA):TE:=λJ H Q=>t J H λxs H1=>xs.length<=sizeLine/\∀p,H1 p=none->Q (.ref p) (upd H1 p<|.tup xs)
def tLst(t:TA):TE:=λJ H Q=>t J H λxs H1=>xs.length<=sizeLine/\∀p,H1 p=none->Q (.ref p) (upd H1 p<|.lst xs)
def tV{x1}(h:PA X es t):PE X (.Tuple es x1 pos) (tTup t):=by
 intro W s J H Q I hq;refine wpAny_Tuple_spliced<|HX (h pos W s J H _ I hq) λus s1 zz=>?_;let{xs,H1,O,r,z,q}:=zz;refine{by rwa[<-r.length],?_};have S:H1 s1.heap.objs.size=none:=O.hok.fresh (Qc _);refine{.ref s1.heap.objs.size,upd H1 s1.heap.objs.size<|.tup xs,O.laid (t':=s1.toks) (λb u e=>Xb _ e) (Qc _) ?_,M,q _ S};exact{z,us,r,{_,Xl _ M,M,_,M}}
def az(h:PA X es t):PE X (.List es pos) (tLst t):=by
 intro W s J H Q I hq;refine wpAny_List_spliced<|HX (h pos W s J H _ I hq) λus s1 zz=>?_;let{xs,H1,O,r,z,q}:=zz;refine{by rwa[<-r.length],?_};have S:H1 s1.heap.objs.size=none:=O.hok.fresh (Qc _);refine{.ref s1.heap.objs.size,upd H1 s1.heap.objs.size<|.lst xs,O.laid (t':=s1.toks) (λb u e=>Xb _ e) (Qc _) ?_,M,q _ S};exact{z,us,0,r,Xl _ M}
end
abbrev Sp:=List V->Hp->VK->XK->Prop
abbrev CXT:=List Env->Hp->Shared->XK->Value->Shared->Prop
structure Ju(P:Ki)(w:Kj)(K:J5)(mg:Kq)(base:Heap)(A:Kp)(outer:Kr)(s:J')(H:Hp):Prop where
 frames:A.frames=some outer
 mod:Mod K mg base
 bs:∀b o,base.get? b=some o->s.heap.get? b=some o/\H b=none
 bsz:base.objs.size<=s.heap.objs.size
 funs:s.heap.FunFrames base outer
 frf:∀b∈JM outer,H b=none
 hok:IR P w H s.heap
 bare:AllBare s.gens
def CE(outer:Kr)(P:Ki)(w:Kj)(H:Hp)(s:J')(Q:VK)(u:Kb)(s':J'):Prop:=
 ∃v H',s'.os=s.os/\AllBare s'.gens/\Un (JM outer) [] H H' s.heap s'.heap/\IR P w H' s'.heap/\RelV v u/\Q v H'
def CR(CX:CXT)(outer:Kr)(P:Ki)(w:Kj)(H:Hp)(s:J')(Q:VK)(E:XK)(r:Result)(s':J'):Prop:=
 match r with
 | .ok (.ret u)=>CE outer P w H s Q u s'
 | .ok _=>False
 | .error e=>CX outer H s E e s'
structure D3(P:Ki)(w:Kj)(K:J5)(mg:Kq)(base:Heap)(CX:CXT)(k:Nat)(f:B')(fd:Kt)(ps:Kc)(sp:Sp):Prop where
 len:∀vs H Q E,sp vs H Q E->vs.length=ps.length
 run:∀(A:Kp)(outer:Kr)(s:J')(H:Hp)(args:Args)(us:Kd)(vs:Ke)(Q:VK)(E:XK),IB k A->Ju P w K mg base A outer s H->BindsTo s fd args (ps.zip us)->HV vs us->sp vs H Q E->
  codeAny (model P w) A (.call (.ref f) args) (CR CX outer P w H s Q E) s
def D3.mono{mg:Kq}{k:Nat}(F:D3 P w K mg base CX j f fd ps sp)(h:j<=k):
  D3 P w K mg base CX k f fd ps sp:={F.len,λA outer s H args us vs Q E z=>F.run A outer s H args us vs Q E<|z.mono h}
def Ju.make{mg:Kq}(e:Ju P w K mg base A outer s H)(C:B')(us:Kd)(kw:Lg):
  Ju P w K mg base (A.under<|.builtin j0 {.ref C::us,kw}) outer s H:={by first|exact e.frames|(simpa[Around.under,Code.envs,Code.isFrame,pushEnvs]using e.frames),e.mod,e.bs,e.bsz,e.funs,e.frf,e.hok,e.bare}
def Inv.env0(I:Inv X W J H s):Ju X.prog X.w X.K X.mg X.base X.A X.stack s H:=
 {I.ok.frames,I.ok.mod,I.bs,Qw I.ok.bsz I.sz,I.stack,I.stkFree,I.hok,I.bare}
def Inv.after{Q:VK}(I:Inv X W J H s)(h:CE X.stack X.prog X.w H s Q u s'):EP X W J Q u s':=by
 let{v,H',os,bare,un,hok,r,q}:=h;let{S,g,d,t,O}:=s';obtain rfl:O=s.os:=os;exact{v,H',I.call (h':=S) (g':=g) (d':=d) (t':=t) (ch:=[]) un hok bare<|λb z=>Xd z (by simp),r,q}
def Ek(sp:Sp)(dvs:Ke)(E:XK)(t:TA):TE:=λJ H Q=>t J H λvs H1=>sp (vs++dvs) H1 Q E
inductive EO(C:B')(m:Str)(sp:Sp)(dvs:Ke)(E:XK)(t:TA)(J:St)(Q:VK)(x:V)(H1:Hp):Prop
 |mk(a dx fs:_)(_:x= .ref a)(_:H1 a=some (.ins C dx fs))(_:fs.lookup m=none)(_:t J H1 λvs H2=>sp (x::(vs++dvs)) H2 Q E)
def Ei(C:B')(m:Str)(sp:Sp)(dvs:Ke)(E:XK)(ta:TE)(t:TA):TE:=λJ H Q=>ta J H λx H1=>EO C m sp dvs E t J Q x H1
def Ej(C:B')(sp:Sp)(dvs:Ke)(E:XK)(t:TA):TE:=λJ H Q=>t J H λvs H1=>∀x dx,H1 x=none->H1 dx=none->dx≠x->
 sp (.ref x::(vs++dvs)) (upd (upd H1 dx<|.own x) x<|.ins C dx []) (λv H2=>v= .non/\Q (.ref x) H2) E
def Binds(K:J5)(fd:Kt)(ps:Kc)(ds:Kd):Prop:=
 ∀(s:J')(us:Kd),K.In s.heap->(us++ds).length=ps.length->BindsTo s fd {us,[]} (ps.zip<|us++ds)
def Binds.all(h:∀us:List Value,us.length=ps.length->bindArgs fd {us,[]}=pure (ps.zip us)):Binds K fd ps []:=λs us _ hl=>by
 rw[X4]at hl⊢;exact .of_eq<|h us hl
def dA(CX:CXT)(X:Cx)(E:XK):Prop:=∀(W:Kf)(J:St)(H:Hp)(s:J')(e:Kb)(s':J'),Inv X W J H s->CX X.stack H s E e s'->X.xe e s'
section
variable{k:Nat}{dvs:Ke}{ds:Kd}{E:XK}{apos:Pos}{o:Expr}{t:TA}
def pW{Q:VK}(F:D3 X.prog X.w X.K X.mg X.base CX k f fd ps sp)(O:IB k X.A)(hb:Binds X.K fd ps ds)(hd:HV dvs ds)(hx:dA CX X E)
  (I:Inv X W J H s) (r:HV vs us) (h:sp (vs++dvs) H Q E):J6 X (call (.ref f) us) (EP X W J Q) X.xe s:=by
 have z:HV (vs++dvs) (us++ds):=r.append hd;have hl:(us++ds).length=ps.length:=by rw[<-z.length];exact F.len _ _ _ _ h
 refine wpAny_call<|codeAny_mono (F.run X.A X.stack s H {us,[]} (us++ds) (vs++dvs) Q E O I.env0 (hb s us I.kIn hl) z h) λr s' hq=>?_;cases r with
 |error e=>exact hx W J H s e s' I hq
 |ok fl=>
  cases fl with
  |ret u=>exact I.after hq
  |next=>exact False.elim hq
  |brk=>exact False.elim hq
  |cont=>exact False.elim hq
def aI(F:D3 X.prog X.w X.K X.mg X.base CX k f fd ps sp)(U:IB k X.A)(Y:Gl X x)(Z:X.mg x=some (.ref f))(hk:PySem.W.keepIn X.K (.ref f)=true)(hb:Binds X.K fd ps ds)(hd:HV dvs ds)(hx:dA CX X E)
  (ha:PA X (e::es) t) (z:(x==(cf:Str))=false:=by decide) (he:starEach (e::es) X.env=(false,eval e X.env)::starEach es X.env:=by rfl) (O:(backTo pos<|starEach es X.env).any (·.1)=false:=by rfl):
  PE X (.Call (.Name x p) (e::es) [] pos) (Ek sp dvs E t):=by
 intro W s J H Q I h;refine Xs<|cJ I Y Z ?_ z;refine QJ (h₀:=X.base) I.ok.mod.kin hk (HX (ha pos W s J H _ I h) λus s1 zz=>?_) he O;let{vs,H1,S,r,q}:=zz;refine{S.kIn,?_};exact pW F U hb hd hx S r q
def bc{pl:Sem Bool}(he:PE X o ta)(c:Jc X.K C)(U:fR X.K C m f)(F:D3 X.prog X.w X.K X.mg X.base CX k f fd ps sp)(hr:IB k X.A)(hb:Binds X.K fd ps ds)(hd:HV dvs ds)(hx:dA CX X E)(ha:PA X (e::es) t)
  (z:starEach (e::es) X.env=(false,eval e X.env)::starEach es X.env:=by rfl) (O:(backTo pos<|starEach es X.env).any (·.1)=false:=by rfl)
  (ht:eval (.Call (.Attribute o m apos) (e::es) [] pos) X.env=(do
   let ov<-eval o X.env
   standAt apos.atName
   let(f,first)<-holding [ov] (getMethod ov m pl)
   callWith pos f first (backTo pos<|starEach (e::es) X.env) (backToKw pos<|keywordEach [] X.env)):=by rfl):
  PE X (.Call (.Attribute o m apos) (e::es) [] pos) (Ei C m sp dvs E ta t):=by
 intro W s J H Q I h;refine Z7 (pl:=pl) (HX (he W s J H _ I h) λu s1 S=>?_) ht;let{x,H1,Y,rx,a,dx,fs,ex,ea,l,q}:=S;subst ex;obtain rfl:u=Value.ref a:=rx;refine lr Y ea c U l ?_;refine QJ (first:=[.ref a]) (h₀:=X.base) I.ok.mod.kin U.kp (HX (ha pos W s1 J H1 _ Y q) λus s2 zz=>?_) z O;let{vs,H2,Z,r,q2}:=zz;refine{Z.kIn,?_};exact pW (us:= .ref a::us) (vs:= .ref a::vs) F hr hb hd hx Z (.cons M r) q2
def io{pl:Sem Bool}(he:PE X o ta)(c:Jc X.K C)(S:fR X.K C m f)(F:D3 X.prog X.w X.K X.mg X.base CX k f fd ps sp)(U:IB k X.A)(hb:Binds X.K fd ps ds)(hd:HV dvs ds)(hx:dA CX X E)
  (Y:eval (.Call (.Attribute o m apos) [] [] pos) X.env=(do
   let ov<-eval o X.env
   standAt apos.atName
   let(f,first)<-holding [ov] (getMethod ov m pl)
   callWith pos f first (backTo pos<|starEach [] X.env) (backToKw pos<|keywordEach [] X.env)):=by rfl):
  PE X (.Call (.Attribute o m apos) [] [] pos) (Ei C m sp dvs E ta yz):=by
 intro W s J H Q I h;refine Z7 (pl:=pl) (HX (he W s J H _ I h) λu s1 z=>?_) Y;let{x,H1,O,Z,a,dx,fs,ex,ea,l,q}:=z;subst ex;obtain rfl:u=Value.ref a:=Z;refine lr O ea c S l ?_;exact PySem.W.callWith_K0 (first:=[.ref a]) O.kIn S.kp (pW (us:=[.ref a]) (vs:=[.ref a]) F U hb hd hx O (.cons M .nil) q)
structure Mk(K:J5)(C f:B'):Prop where
 makes:PySem.W.makesIn K C=true
 init:PySem.W.findIn K (.ref C) cC=some (some<|.ref f)
 fn:PySem.W.isFn K (.ref f)=true
 kp:PySem.W.keepIn K (.ref C)=true
def u8{Q:VK}(M':Mk X.K C f)(F:D3 X.prog X.w X.K X.mg X.base CX k f fd ps sp)(U:IB (k+1) X.A)(hb:Binds X.K fd ps ds)(hd:HV dvs ds)
  (hx:dA CX X E) (I:Inv X W J H s) (r:HV vs us)
  (h:∀x dx,H x=none->H dx=none->dx≠x->sp (.ref x::(vs++dvs)) (upd (upd H dx<|.own x) x<|.ins C dx []) (λv H2=>v= .non/\Q (.ref x) H2) E):
  J6 X (call (.ref C) us) (EP X W J Q) X.xe s:=by
 have hq:=h (s.heap.objs.size+1) s.heap.objs.size (I.hok.fresh<|Za _) (I.hok.fresh<|Qc _) (Qs<|X2 _);have O:=Inv.made (C:=C) I;have S:HV (V.ref (s.heap.objs.size+1)::(vs++dvs)) (Value.ref (s.heap.objs.size+1)::(us++ds)):= .cons M (r.append hd);have hl:(Value.ref (s.heap.objs.size+1)::us++ds).length=ps.length:=by
  have e:=S.length;rw[F.len _ _ _ _ hq]at e;exact e.symm
 refine wpAny_call (AT (f:=f) I.kIn M'.makes M'.init (Xu.mp M'.fn) (codeAny_mono (F.run _ X.stack _ _ {Value.ref (s.heap.objs.size+1)::us,[]} (Value.ref (s.heap.objs.size+1)::(us++ds)) _ _ E (U.make C us [])
  (O.env0.make C us []) (hb _ (Value.ref (s.heap.objs.size+1)::us) O.kIn hl) S hq) λr s' z=>?_))
 cases r with
 |error e=>exact hx W J _ _ e s' O z
 |ok fl=>
  cases fl with
  |ret u=>
   let{v,H',Y,Z,ev,q3}:=O.after z;subst ev;exact{Z,{V.ref<|s.heap.objs.size+1,H',Y,M,q3}}
  |next=>exact False.elim z
  |brk=>exact False.elim z
  |cont=>exact False.elim z
def oJ(M':Mk X.K C f)(F:D3 X.prog X.w X.K X.mg X.base CX k f fd ps sp)(U:IB (k+1) X.A)(Y:Gl X x)(Z:X.mg x=some (.ref C))(hb:Binds X.K fd ps ds)(hd:HV dvs ds)(hx:dA CX X E)
  (ha:PA X (e::es) t) (z:(x==(cf:Str))=false:=by decide) (he:starEach (e::es) X.env=(false,eval e X.env)::starEach es X.env:=by rfl) (O:(backTo pos<|starEach es X.env).any (·.1)=false:=by rfl):
  PE X (.Call (.Name x p) (e::es) [] pos) (Ej C sp dvs E t):=by
 intro W s J H Q I h;refine Xs<|cJ I Y Z ?_ z;refine QJ (h₀:=X.base) I.ok.mod.kin M'.kp (HX (ha pos W s J H _ I h) λus s1 zz=>?_) he O;let{vs,H1,S,r,q}:=zz;refine{S.kIn,?_};exact u8 M' F U hb hd hx S r q
def jD(M':Mk X.K C f)(F:D3 X.prog X.w X.K X.mg X.base CX k f fd ps sp)(O:IB (k+1) X.A)(S:Gl X x)(U:X.mg x=some (.ref C))(hb:Binds X.K fd ps ds)(hd:HV dvs ds)(hx:dA CX X E)
  (z:(x==(cf:Str))=false:=by decide):PE X (.Call (.Name x p) [] [] pos) (Ej C sp dvs E yz):=by
 intro W s J H Q I h;refine Xs<|cJ I S U ?_ z;exact PySem.W.callWith_K0 I.kIn M'.kp<|u8 (us:=[]) M' F O hb hd hx I .nil h
end
structure au(N P:Kc)(sc:Scope):Prop where
 kind:sc.kind= .function
 co:sc.isCoroutine=false
 gen:sc.isGenerator=false
 nd:N.Nodup
 pre:N.take P.length=P
 par:∀x∈P,sc.names.lookup x=some .local\/sc.names.lookup x=some .cell
 nofree:∀y∈sc.names,y.2≠ .free
theorem tj{kindOf:Str->Option NameKind}{x:Str}:∀{z:Lg}{m:Kq},(∀v,(x,v)∉z)->bindL kindOf z m x=m x
 | [],_,_=>rfl
 |(n,v)::r,m,h=>by
  unfold bindL;rw[tj λw hw=>h w (Q4 _ hw)];split
  .have:x≠n:=by rintro rfl;exact h v Q6
   simp[this]
  .rfl
theorem tq{kindOf:Str->Option NameKind}{x:Str}:∀{z:Lg}{m:Kq},(∀v,(x,v)∉z)->bindC kindOf z m x=m x
 | [],_,_=>rfl
 |(n,v)::r,m,h=>by
  unfold bindC;rw[tq λw hw=>h w (Q4 _ hw)];split
  .rfl
  .have:x≠n:=by rintro rfl;exact h v Q6
   simp[this]
theorem tm{kindOf:Str->Option NameKind}{x:Str}{v:Kb}:∀{P:Kc}{vs:Kd}{i:Nat}{m:Kq},P.Nodup->P[i]?=some x->vs[i]?=some v->kindOf x=some .local->
  bindL kindOf (P.zip vs) m x=some v
 | [],_,_,_,_,h,_,_=>by simp at h
 |_::_,[],_,_,_,_,h,_=>by simp at h
 |p::P,w::vs,0,m,nd,h1,h2,hk=>by
  simp at h1 h2;subst h1;subst h2;show bindL kindOf ((p,w)::P.zip vs) m p=_;unfold bindL;rw[tj λv z=>(QQ.mp nd).1 (X5 z).1,Xe hk];simp
 |p::P,w::vs,i+1,m,nd,h1,h2,hk=>by
  show bindL kindOf ((p,w)::P.zip vs) m x=_;unfold bindL;exact tm (i:=i) (QQ.mp nd).2 (by simpa using h1) (by simpa using h2) hk
theorem tw{kindOf:Str->Option NameKind}{x:Str}{v:Kb}:∀{P:Kc}{vs:Kd}{i:Nat}{m:Kq},P.Nodup->P[i]?=some x->vs[i]?=some v->kindOf x≠some .local->
  bindC kindOf (P.zip vs) m x=some v
 | [],_,_,_,_,h,_,_=>by simp at h
 |_::_,[],_,_,_,_,h,_=>by simp at h
 |p::P,w::vs,0,m,nd,h1,h2,hk=>by
  simp at h1 h2;subst h1;subst h2;show bindC kindOf ((p,w)::P.zip vs) m p=_;unfold bindC;rw[tq λv z=>(QQ.mp nd).1 (X5 z).1,Xc hk];simp
 |p::P,w::vs,i+1,m,nd,h1,h2,hk=>by
  show bindC kindOf ((p,w)::P.zip vs) m x=_;unfold bindC;exact tw (i:=i) (QQ.mp nd).2 (by simpa using h1) (by simpa using h2) hk
def start(N:Kc)(vs:Ke):St:=vs.map some++List.replicate (N.length-vs.length) none
def hI(CX:CXT)(P:Ki)(w:Kj)(K:J5)(mg:Kq)(base:Heap)(N:Kc)(qual:Str)(scope:Scope)(f:B')(cd:Kb)(A:Kp)(outer:Kr)(s:J')(H:Hp)(E:XK):Cx where
 prog:=P
 w:=w
 K:=K
 mg:=mg
 base:=base
 A:=A.deeper (envOfC qual scope s.heap.objs.size f cd)
 N:=N
 s₀:=s
 H₀:=H
 env:=envOfC qual scope s.heap.objs.size f cd
 outer:=outer
 stack:=envOfC qual scope s.heap.objs.size f cd::outer
 ex:=[]
 calm:=true
 fn:=λ_=>true
 pn:=[]
 xe:=λe s'=>wpAny (model P w) (A.deeper<|envOfC qual scope s.heap.objs.size f cd) (leaving (envOfC qual scope s.heap.objs.size f cd) e) (λ_ s''=>CX outer H s E e s'') (λe' s''=>CX outer H s E e' s'') s'
def vZ{sc:Scope}(h:sc.names.lookup x=some .cell):∃c,(cellsFrom n sc.names []).lookup x=some c:=by
 have q:=PySem.W.cellsFrom_some sc.names n [] (.inl h);exact Option.isSome_iff_exists.mp q
def zb{mg:Kq}{cd:Kb}{s1:J'}{E:XK} 
  (S:au N ps scope) (hd:A.handled=none) (e0:Ju P w K mg base A outer s H) (hl:vs.length=ps.length) (r:HV vs us)
  (x:InCallC s s.heap.objs.size (bindL (envOfC qual scope s.heap.objs.size f cd).kindOf (ps.zip us) λ_=>none) (cellsFrom (s.heap.objs.size+1) scope.names []) (bindC (envOfC qual scope s.heap.objs.size f cd).kindOf (ps.zip us) λ_=>none) s1):
  Inv (hI CX P w K mg base N qual scope f cd A outer s H E) [] (start N vs) H s1:=by
 have U:ps.length<=N.length:=by have:=Xo List.length S.pre;rw[Qq]at this;lia
 let{h1,tk,rfl,hk}:=x.done;have I:∀b:Addr,b∉(hI CX P w K mg base N qual scope f cd A outer s H E).ex:=λb z=>Xd (show b∈([]:Km) from z) (by simp);refine{{e0.mod,S.kind,M,M,Qc _,λy z c h1 h2=>?_,λy hy=>?_,λy c _ h=>?_,λ_=>hd,Around.frames_deeper e0.frames,.inr ⟨M,M⟩,λb z=>Xd z<|I b,e0.bs,e0.bsz,λb _ _=>I b,λb z=>Xd z<|I b,e0.funs,e0.frf},
  rfl,e0.bare,Un.kept hk,{_,x.toInCall.ns,λi y v h1 h2 Z=>?_},λy c h=>{_,x.cell y c h},e0.hok.fresh<|Qc _,λy c h=>?_,λp hp=>Xd (show p∈([]:Kf) from hp) (by simp),e0.hok.kept hk,?_}
 .exact name_of_addr x.apart (PySem.mem_of_lookup h1)<|PySem.mem_of_lookup h2
 .have hy:scope.names.lookup y=some .cell\/scope.names.lookup y=some .free:=hy;rcases hy with hy|hy
  .exact vZ hy
  .exact Xd M<|S.nofree _ (PySem.mem_of_lookup hy)
 .exact Zn<|x.above y c (PySem.mem_of_lookup h)
 .have hi:i<vs.length:=by
   unfold start at h2;by_cases hi:i<vs.length
   .exact hi
   .rw[Zw (by simpa using hi)]at h2;rw[List.getElem?_replicate]at h2;split at h2<;>cases h2
  have ha:vs[i]?=some v:=by
   unfold start at h2;rw[ZB (by simpa using hi),Qp]at h2;cases e:vs[i]? with
   |none=>rw[e]at h2;cases h2
   |some a=>rw[e]at h2;cases h2;rfl
  let{u,hu,Y}:=r.get ha;have hp:ps[i]?=some y:=by
   rwa[<-S.pre,List.getElem?_take_of_lt ()]
  have O:ps.Nodup:=by rw[<-S.pre];exact S.nd.sublist<|List.take_sublist _ _
  refine{u,Y,?_};rcases S.par y (Q2 hp)with k|k
  .exact .inl {k,tm O hp hu k}
  .let{c,e}:=vZ (n:=s.heap.objs.size+1) k;refine .inr {.inl k,c,e,?_};have q:=x.cell y c e;rw[tw O hp hu (by show scope.names.lookup y≠_;rw[k];decide)]at q;exact q
 .exact e0.hok.fresh<|Zn (x.above y c<|PySem.mem_of_lookup h)
 .unfold start;show _=N.length;rw[Q5,Q0,QR];lia
abbrev _root_.Lf:=Array (Option Value)
def sY{mg:Kq}{k:Nat}{O:Arguments}{dV kV a0 pm z ct oc:Kb}{an od:Kg}
  {a3:Lf} (lk:K.lookup f=some {oc,od,.func<|PySem.W.fnOf name qual O body scope dV kV a0 pm an z ct,a3}) (a4:PySem.W.codeIn K z qual=true) (S:au N ps scope)
  (len:∀vs H Q E,sp vs H Q E->vs.length=ps.length)
  (Y:∀(A:Kp)(outer:Kr)(s:J')(H:Hp)(vs:Ke)(Q:VK)(E:XK),IB k (A.deeper<|envOfC qual scope s.heap.objs.size f z)->sp vs H Q E->
   ∃t,Ij (hI CX P w K mg base N qual scope f z A outer s H E) body t/\t {nx:=λ_ H'=>Q .non H',rt:=Q} (start N vs) H):
  D3 P w K mg base CX (k+1) f (PySem.W.fnOf name qual O body scope dV kV a0 pm an z ct) ps sp:=by
 refine{len,λA outer s H args us vs Q E hr e0 hb r a1=>?_};have hl:=len _ _ _ _ a1;have KX:K.In s.heap:=e0.mod.kin.keeps λb o e=>(e0.bs b o e).1;have a5:s.heap.NoLimit:=e0.mod.nolimit.keeps λb o e=>(e0.bs b o e).1;have Z:∀y∈ps.zip us,scope.names.lookup y.1=some .local\/(scope.names.lookup y.1=some .cell/\((cellsFrom (s.heap.objs.size+1) scope.names []).lookup y.1).isSome=true):=λ⟨n,v⟩ hy=>by
  rcases S.par n (X5 hy).1 with q|q
  .exact .inl q
  .exact .inr {q,PySem.W.cellsFrom_some _ _ _<|.inl q}
 refine codeAny_call_function hr.depth (KX _ _ lk) M S.co S.gen M (PySem.W.codeRec_of KX a4)<|hb _ _ _ _ ?_;refine wpAny_newFunctionEnv_cells S.kind Z λenv he s1 x=>?_;subst he;refine{a5.keeps x.toInCall.keep,codeAny_func ?_};let{t,ht,hq}:=Y A outer s H vs Q E (hr.deeper _) a1;have I:Inv (hI CX P w K mg base N qual scope f z A outer s H E) [] (start N vs) H s1:=zb S hr.hd e0 hl r x;refine Xp (ht [] s1 (start N vs) H _ I hq) (λfl s' hs=>?_) λe s' hs=>hs;have a2:∀{U:St}{H':Hp}{v:V}{u:Kb},Inv (hI CX P w K mg base N qual scope f z A outer s H E) [] U H' s'->RelV v u->Q v H'->CE outer P w H s Q u s':=
  λ{U H' v u} J4 rv q=>⟨v,H',J4.os,J4.bare,J4.base,J4.hok,rv,q⟩
 cases fl with
 |ret u=>
  let{v,U,H',J4,rv,q}:=hs;exact a2 J4 rv q
 |next=>
  let{U,H',J4,q}:=hs;exact a2 (v:=V.non) (u:=Value.none) J4 M q
 |brk=>
  let{_,_,_,q}:=hs;exact False.elim q
 |cont=>
  let{_,_,_,q}:=hs;exact False.elim q
section
variable{t:TA}{id T:String}{r:List V->Hp->VK->Prop}
def tCB(r:List V->Hp->VK->Prop)(t:TA):TE:=λJ H Q=>t J H λvs H1=>r vs H1 Q
def aG(hc:fV X (.builtin id) r)(S:Gl X x)(U:X.mg x=none)(Y:bootBuiltins x=some (.builtin id))(ha:PA X (e::es) t)(Z:x≠"__name__":=by decide)(z:(x==(cf:Str))=false:=by decide)
  (he:starEach (e::es) X.env=(false,eval e X.env)::starEach es X.env:=by rfl) (O:(backTo pos<|starEach es X.env).any (·.1)=false:=by rfl):PE X (.Call (.Name x p) (e::es) [] pos) (tCB r t):=by
 intro W s J H Q I h;refine Xs<|qC I S U Y ?_ Z z;exact PyProof.Rows.callWith_builtin1 (HX (ha pos W s J H _ I h) λus s1 zz=>by let{vs,H1,I1,r1,q1}:=zz;exact hc W s1 J H1 vs us Q I1 r1 q1) he O
def aP(hc:fV X (.type T) r)(S:Gl X x)(U:X.mg x=none)(Y:bootBuiltins x=some (.type T))(ha:PA X (e::es) t)(Z:x≠"__name__":=by decide)(z:(x==(cf:Str))=false:=by decide)
  (he:starEach (e::es) X.env=(false,eval e X.env)::starEach es X.env:=by rfl) (O:(backTo pos<|starEach es X.env).any (·.1)=false:=by rfl):PE X (.Call (.Name x p) (e::es) [] pos) (tCB r t):=by
 intro W s J H Q I h;refine Xs<|qC I S U Y ?_ Z z;exact PyProof.Rows.callWith_type1 (HX (ha pos W s J H _ I h) λus s1 zz=>by let{vs,H1,I1,r1,q1}:=zz;exact hc W s1 J H1 vs us Q I1 r1 q1) he O
end
end L2
namespace HT
open PySem PyProof.Rows
variable{E:Kn}
section
variable{prog:Ki}{w:Kj}{A:Kp}{s:J'}
noncomputable def sIx(n d:Nat):Option Int->Nat
 |none=>d
 |some v=>if v<0 then(v+(n:Int)).toNat else min v.toNat n
end
end HT
namespace L2
open PySem PySem.Spec PyProof.Rows
variable{a:B'}{A:Kp}{X:Cx}{e:Expr}{h':Heap}{H H':Hp}{i:Int}{W:Kf}{kvs:Kv}{vs:List (Key×Value)}{xs:Ke}{its its':Kd}{j n t':Nat}{o:Option V}{pos:Pos}{P:Ki}{s:J'}{J:St}{T:String}{α:Type}{x y:V}{u v:Kb}{E Q:Kn}{w:Kj}
abbrev TO:=St->Hp->(Option Int->Hp->Prop)->Prop
def PO(X:Cx)(e:Option Expr)(t:TO):Prop:=
 ∀(W:Kf)(s:J')(J:St)(H:Hp)(Q:Option Int->Hp->Prop),Inv X W J H s->t J H Q->
  J6 X (evalPart e X.env) (λu s'=>∃o H',Inv X W J H' s'/\IsPart u o/\Q o H') X.xe s
def Cu:TO:=λ_ H Q=>Q none H
inductive EM(Q:Option Int->Hp->Prop)(x:V)(H1:Hp):Prop
 |mk(i:_)(_:x= .int i)(_:Q (some i) H1)
def GG(t:TE):TO:=λJ H Q=>t J H λx H1=>EM Q x H1
section
variable{te:TE}{lo hi:Option Expr}{tl th:TO}{p2:Pos}
def cr:PO X none Cu:=by
 intro W s J H Q I h;rw[evalPart_none];exact Xj {none,H,I,.none,h}
def bU(h:PE X e te):PO X (some e) (GG te):=by
 intro W s J H Q I hw;rw[evalPart_some];refine HX (h W s J H _ I hw) λu s1 z=>?_;let{x,H1,O,r1,q1}:=z;let{i,rfl,q}:=q1;let{t,rfl}:=r1;exact{some i,H1,O,.int i t,q}
def SlR(X:Cx)(r:V->Option Int->Option Int->Hp->VK->Prop):Prop:=
 ∀(W:Kf)(s:J')(J:St)(H:Hp)(x:V)(v vl vu:Kb)(lo hi:Option Int)(sl:B')(Q:VK),Inv X W J H s->RelV x v->s.heap.IsSliceOf sl vl vu .none->IsPart vl lo->IsPart vu hi->r x lo hi H Q->
  ∃T id,typeLookup (.type T) "__getitem__"=pure (some<|.builtin id)/\s.TypeIs v T/\J6 X (getItem v<|.ref sl) (EP X W J Q) X.xe s
def tSl(r:V->Option Int->Option Int->Hp->VK->Prop)(te:TE)(tl th:TO):TE:=λJ H Q=>te J H λx H1=>tl J H1 λl H2=>th J H2 λu H3=>r x l u H3 Q
def bK{r:V->Option Int->Option Int->Hp->VK->Prop}(U:SlR X r)(he:PE X e te)(hl:PO X lo tl)(hu:PO X hi th):PE X (.Subscript e (.Slice lo hi none p2) pos) (tSl r te tl th):=by
 intro W s J H Q I h;refine Subscript_<|HX (he W s J H _ I h) λv s1 z=>?_;let{x,H1,Y,r1,q1}:=z;refine wpAny_Slice<|HX (hl W s1 J H1 _ Y q1) λO s2 zz=>?_;let{l,H2,Z,pl,q2}:=zz;refine HX (hu W s2 J H2 _ Z q2) λS s3 z=>?_;let{u,H3,I3,pu,q3}:=z;rw[evalPart_none];refine Xj ?_;have I4:Inv X W J H3 {s3 with heap:=s3.heap.push {cls:= .type "slice",data:= .fields #[O,S,.none]}}:=I3.kept (t':=s3.toks) λb ob q=>Xb _ q;let{T,id,hT,ht,hg}:=U W {s3 with heap:=s3.heap.push {cls:= .type "slice",data:= .fields #[O,S,.none]}} J H3 x v O S l u s3.heap.objs.size Q I4 r1 (Heap.IsSliceOf.new ..) pl pu q3;show J6 X (subscriptTail e (.Slice lo hi none p2) v<|.ref s3.heap.objs.size) (EP X W J Q) X.xe {s3 with heap:=s3.heap.push {cls:= .type "slice",data:= .fields #[O,S,.none]}};exact tail_any (ops:=[.ref s3.heap.objs.size,v]) ht hT hg (by with_unfolding_all rfl)
def dZ(xs:Ke)(lo hi:Option Int):List V:=(xs.drop<|HT.sIx xs.length 0 lo).take (HT.sIx xs.length xs.length hi-HT.sIx xs.length 0 lo)
def vW(xs:Ke)(lo hi:Option Int):(dZ xs lo hi).length<=xs.length:=by
 unfold dZ;rw[Qq,QA];lia
end
noncomputable def K5(n:Nat)(i:Int):Option Nat:=if 0<=i then(if i<n then some i.toNat else none)else if-(n:Int)<=i then some (i+n).toNat else none
def JP{α:Type}(xs:List α)(i:Int):Option α:=(K5 xs.length i).bind λj=>xs[j]?
def yd(h:K5 n i=some j):seqIndex? i n=some j/\j<n/\-(n:Int)<=i/\i<n:=by
 unfold K5 at h;by_cases z:0<=i
 .rw[Xe z]at h;by_cases h1:i<n
  .rw[Xe h1]at h;have e:i.toNat=j:=Xf h;exact{by rw[seqIndex_of z h1,e],(),(),h1}
  .rw[Xc h1]at h;cases h
 .rw[Xc z]at h;by_cases h1: -(n:Int)<=i
  .rw[Xe h1]at h;have e:(i+n).toNat=j:=Xf h;exact{by rw[seqIndex_neg () h1,e],(),h1,()}
  .rw[Xc h1]at h;cases h
def ym{xs:List α}{v:α}(h:JP xs i=some v):∃j,seqIndex? i xs.length=some j/\xs[j]?=some v/\j<xs.length/\-(xs.length:Int)<=i/\i<xs.length:=by
 unfold JP at h;cases e:K5 xs.length i with
 |none=>rw[e]at h;cases h
 |some j=>
  rw[e]at h;let{h1,h2,z,I}:=yd e;exact⟨j,h1,h,h2,z,I⟩
def cU{xs:List α}{v:α}(h:xs[j]?=some v):JP xs (j:Int)=some v:=by
 have z:j<xs.length:=(Q7.mp h).1;have e:K5 xs.length (j:Int)=some j:=by
  unfold K5;rw[Xe (),Xe ()];simp
 unfold JP;rwa[e]
def DZ(b:Expr):Prop:=∀o i,subscripted b false o i=operate [o,i] (getItem o i)
def IxR(X:Cx)(r:R2):Prop:=
 ∀(value slice:Expr)(W:Kf)(s:J')(J:St)(H:Hp)(x y:V)(v u:Kb)(Q:VK),Inv X W J H s->RelV x v->RelV y u->r x y H Q->
  subscripted slice false v u=operate [v,u] (getItem v u)->J6 X (subscriptTail value slice v u) (EP X W J Q) X.xe s
def KL(X:Cx)(id:String)(r:V->List V->Hp->VK->Prop):Prop:=
 ∀(W:Kf)(s:J')(J:St)(H:Hp)(x:V)(xs:Ke)(v:Kb)(us:Kd)(Q:VK),Inv X W J H s->RelV x v->HV xs us->r x xs H Q->
  J6 X (call (.builtin id) (v::us)) (EP X W J Q) X.xe s
section
variable{a b:Expr}{ta tb:TE}
def aY{r:R2}(z:IxR X r)(ha:PE X a ta)(hb:PE X b tb)(hs:DZ b):PE X (.Subscript a b pos) (Ka r ta tb):=by
 intro W s J H Q I h;exact Subscript_ (F5 ha hb I h λv u s2 x y H2 O S U q=>z a b W s2 J H2 x y v u Q O S U q<|hs _ _)
inductive rIxL(K:J5)(x y:V)(H:Hp)(Q:VK):Prop
 |mk(p xs i v:_)(_:x= .ref p)(_:y= .int i)(_:HS K H p xs)(_:JP xs i=some v)(_:Q v H)
inductive rIxT(K:J5)(x y:V)(H:Hp)(Q:VK):Prop
 |mk(p xs i v:_)(_:x= .ref p)(_:y= .int i)(_:IP K H p xs)(_:JP xs i=some v)(_:Q v H)
def aJ:IxR X (rIxL X.K):=by
 intro value S W s J H x y v u Q I rx ry h hs;let{p,xs,i,z,rfl,rfl,hq,he,q}:=h;cases rx;let{t,rfl}:=ry;let{its,r,pl,hz}:=I.list hq;let{j,h1,h2,h3,h4,h5}:=ym he;let{w,Z,U}:=r.get h2;have hl:=r.length;have hn:=nB;have O:EP X W J Q w s:=⟨z,H,I,U,q⟩;by_cases h0:0<=i
 .have Y:i.toNat=j:=by
   rw[seqIndex_of h0 h5]at h1;exact Xf h1
  exact item_listR pl.isList h0 () (by rw[Y];simpa using Z) O hs
 .have Y:(i+(its.toArray.size:Int)).toNat=j:=by
   rw[seqIndex_neg () h4]at h1;rw[Qg,<-hl];exact Xf h1
  exact subscriptTail_builtinR (x:=w) pl.isList.typeIs slot_list_getitem.lookup
   (wpAny_getItem_list_neg (Q:=λr s'=>r=w/\EP X W J Q r s') pl.isList () (by rw[Qg]<;>lia) () (by rw[Y];simpa using Z) ⟨M,O⟩) hs
def nE:IxR X (rIxT X.K):=by
 intro value O W s J H x y v u Q I Y Z h hs;let{p,xs,i,z,rfl,rfl,hq,he,q}:=h;cases Y;let{t,rfl}:=Z;let{its,r,pl,hz}:=I.tuple hq;let{j,h1,h2,h3,h4,h5}:=ym he;let{w,ew,S}:=r.get h2;have hl:=r.length;have hn:=nB;have U:EP X W J Q w s:=⟨z,H,I,S,q⟩;exact subscriptTail_builtinR (x:=w) pl.typeIs slot_tuple_getitem.lookup
  (getItem_tuple (j:=j) (Q:=λr s'=>r=w/\EP X W J Q r s') pl () () (by rwa[Qg,<-hl]) (by simpa using ew) ⟨M,U⟩) hs
def wX(its:Kd)(n j:Nat)(u:Kb):Obj.mapSeq (·.setIfInBounds j u) {cls:= .type i1,data:= .seq its.toArray n}={cls:= .type i1,data:= .seq (its.set j u).toArray n}:=by
 simp[Obj.mapSeq]
def Inv.lst{W:Kf}{J:St}{H:Hp}{s:J'}{p:B'}{xs:Ke}(I:Inv X W J H s)(h:H p=some (.lst xs)):
  ∃(its:Kd)(n:Nat),HV xs its/\s.heap.get? p=some {cls:= .type i1,data:= .seq its.toArray n}/\xs.length<=sizeLine:=by
 let{z,its,n,r,e}:=I.hok p _ h;exact⟨its,n,r,e,z⟩
def Inv.lstUpd{p:B'}{ys:Ke}{n':Nat}{f:Obj->Obj}(I:Inv X W J H s)(h:H p=some (.lst xs))
  (O:s.heap.get? p=some {cls:= .type i1,data:= .seq its.toArray n}) (z:f {cls:= .type i1,data:= .seq its.toArray n}={cls:= .type i1,data:= .seq its'.toArray n'}) (r:HV ys its') (hz:ys.length<=sizeLine) (t:Nat):
  Inv X W J (upd H p<|.lst ys) {s with heap:=s.heap.update p f,toks:=t}:=by
 have e:(s.heap.update p f).get? p=some {cls:= .type i1,data:= .seq its'.toArray n'}:=by
  rw[Heap.get?_update_self f O (by rw[z]<;>rfl),z]
 refine I.write (x:=p) (e:=p) (by rw[h];trivial) (.inl M) (λb u hb q=>(Xm _ _<|Ne.symm hb).trans q) {_,e} ?_;exact⟨hz,its',n',r,e⟩
inductive GW(o i v:V)(H:Hp)(Q:Hp->Prop):Prop
 |mk(p xs k j:_)(_:o= .ref p)(_:i= .int k)(_:H p=some (.lst xs))(_:K5 xs.length k=some j)(_:Q (upd H p<|.lst<|xs.set j v))
def uV:PSet X GW:=by
 intro W s J H o i v ov iv u Q I Z ri rv h;let{p,xs,k,j,rfl,rfl,hp,hj,q}:=h;cases Z;let{t,rfl}:=ri;let{its,n,r,z,hz}:=I.lst hp;let{h1,h2,O,S}:=yd hj;have hl:=r.length;have hn:=nB;have U:Inv X W J (upd H p<|.lst<|xs.set j v) {s with heap:=s.heap.update p (Obj.mapSeq (·.setIfInBounds j u))}:=
  I.lstUpd hp z (wX its n j u) (r.set rv j) (by rwa[QE]) s.toks
 by_cases Y:0<=k
 .have hk:k.toNat=j:=by
   rw[seqIndex_of Y S]at h1;exact Xf h1
  exact PySem.W.ki_setAt z Y () (by rw[Qg,<-hl];exact S)<|by rw[hk];exact{_,U,q}
 .have hk:(k+(its.toArray.size:Int)).toNat=j:=by
   rw[seqIndex_neg () O]at h1;rw[Qg,<-hl];exact Xf h1
  exact PySem.W.ki_setBack z () (by rwa[Qg,<-hl]) ()<|by rw[hk];exact{_,U,q}
def tO(lo hi:Option Int)(n:Nat):(sliceBounds lo hi none n).1=((HT.sIx n 0 lo:Nat):Int)/\(sliceBounds lo hi none n).2.1=((HT.sIx n n hi:Nat):Int)/\(sliceBounds lo hi none n).2.2=1:=by
 refine{?_,?_,M}
 .cases lo with
  |none=>simp[sliceBounds,HT.sIx]
  |some i=>
   simp only[sliceBounds,HT.sIx,Option.getD_none,show(1:Int)>0 by decide,if_true];by_cases h:i<0
   .simp only[h,if_true]<;>lia
   .simp only[h,if_false]<;>lia
 .cases hi with
  |none=>simp[sliceBounds,HT.sIx]
  |some i=>
   simp only[sliceBounds,HT.sIx,Option.getD_none,show(1:Int)>0 by decide,if_true];by_cases h:i<0
   .simp only[h,if_true]<;>lia
   .simp only[h,if_false]<;>lia
def rC(its:Kd)(lo hi:Option Int):slicePick its.toArray lo hi none=((its.drop<|HT.sIx its.length 0 lo).take<|HT.sIx its.length its.length hi-HT.sIx its.length 0 lo).toArray:=by
 let{h1,h2,z}:=tO lo hi its.toArray.size;unfold slicePick;rw[h1,h2,z];simp only[sliceRange_one,pick_run,Qg]<;>rfl
inductive rSlL(K:J5)(x:V)(lo hi:Option Int)(H:Hp)(Q:VK):Prop
 |mk(a xs:_)(_:x= .ref a)(_:HS K H a xs)(_:∀p,H p=none->Q (.ref p) (upd H p<|.lst<|dZ xs lo hi))
def cq:SlR X (rSlL X.K):=by
 intro W s J H x v Y Z lo hi sl Q I S hs pl U h;let{a,xs,rfl,hx,q}:=h;cases S;let{its,r,O,hz}:=I.list hx;have z:=r.length;refine{i1,_,slot_list_getitem.lookup,O.isList.typeIs,?_};refine wpAny_getItem_list_slice O.isList hs pl U .none (by simp) ?_ (by rw[Qg]<;>lia);rw[rC,<-z];refine{.ref s.heap.objs.size,_,I.laid (t':=s.toks) (o:= .lst<|dZ xs lo hi) (λb ob q=>Xb _ q) (Qc _) ?_,M,q _<|I.hok.fresh (Qc _)};exact{Qw (vW xs lo hi) hz,_,0,(r.drop<|HT.sIx xs.length 0 lo).take<|HT.sIx xs.length xs.length hi-HT.sIx xs.length 0 lo,Xl _ M}
noncomputable def mq:V->Bool
 | .non=>true
 | .bl _=>true
 | .int _=>true
 | .str _=>true
 |_=>false
noncomputable def K2:V->V->Bool
 | .non,.non=>true
 | .bl a,.bl b=>a==b
 | .bl a,.int b=>(if a then 1 else 0)==b
 | .int a,.bl b=>a==(if b then 1 else 0)
 | .int a,.int b=>a==b
 | .str a,.str b=>a==b
 |_,_=>false
def FU(I:RelV y u)(z:RelV x v)(S:mq y=true)(O:mq x=true):SeqAt.EqAt A s u v (K2 y x):=by
 cases y with
 |non=>
  cases I;cases x with
  |non=>cases z;exact SeqAt.EqAt.same _
  |bl b=>cases z;exact SeqAt.EqAt.none_bool b
  |int b=>let{t,rfl}:=z;exact SeqAt.EqAt.none_int b t
  |str b=>let{t,rfl}:=z;exact SeqAt.EqAt.none_str b t
  |_=>exact Xd (show false=true from O) Q8
 |bl a=>
  cases I;cases x with
  |non=>cases z;exact SeqAt.EqAt.bool_none a
  |bl b=>cases z;exact SeqAt.EqAt.bool_bool a b
  |int b=>let{t,rfl}:=z;exact SeqAt.EqAt.bool_int a b t
  |str b=>let{t,rfl}:=z;exact SeqAt.EqAt.bool_str a b t
  |_=>exact Xd (show false=true from O) Q8
 |int a=>
  let{t',rfl}:=I;cases x with
  |non=>cases z;exact SeqAt.EqAt.int_none a t'
  |bl b=>cases z;exact SeqAt.EqAt.int_bool a t' b
  |int b=>let{t,rfl}:=z;exact SeqAt.EqAt.int_int a t' b t
  |str b=>let{t,rfl}:=z;exact SeqAt.EqAt.int_str a t' b t
  |_=>exact Xd (show false=true from O) Q8
 |str a=>
  let{t',rfl}:=I;cases x with
  |non=>cases z;exact SeqAt.EqAt.str_none a t'
  |bl b=>cases z;exact SeqAt.EqAt.str_bool a t' b
  |int b=>let{t,rfl}:=z;exact SeqAt.EqAt.str_int a t' b t
  |str b=>let{t,rfl}:=z;exact SeqAt.EqAt.str_str a t' b t
  |_=>exact Xd (show false=true from O) Q8
 |_=>exact Xd (show false=true from S) Q8
def Jv(x:V)(u:Kb):Bool:=match u with
 | .none=>K2 .non x
 | .bool b=>K2 (.bl b) x
 | .int i _=>K2 (.int i) x
 | .str z _=>K2 (.str z) x
 |_=>false
def Bp(r:RelV y u)(f:mq y=true):Jv x u=K2 y x:=by
 cases y with
 |non=>cases r;rfl
 |bl b=>cases r;rfl
 |int i=>let{t,rfl}:=r;rfl
 |str z=>let{t,rfl}:=r;rfl
 |_=>exact Xd (show false=true from f) Q8
def oN{us:Kd}(h:HV xs us)(f:xs.all mq=true):us.any (Jv x)=xs.any λy=>K2 y x:=by
 induction h with
 |nil=>rfl
 |cons r t z=>
  rw[List.all_cons,Qv]at f;rw[Zs,Zs,Bp r f.1,z f.2]
def mh(z:RelV x v)(I:mq x=true):∀{xs:Ke}{us:Kd},HV xs us->xs.all mq=true->∀u∈us,SeqAt.EqAt A s u v (Jv x u):=λ{xs us} h=>by
 induction h with
 |nil=>exact λ_ u hu=>by cases hu
 |cons r t O=>
  intro f S hu;rw[List.all_cons,Qv]at f;rcases Qa.mp hu with rfl|hu
  .rw[Bp r f.1];exact FU r z f.1 I
  .exact O f.2 S hu
def K7(x:V)(xs:Ke):Bool:=xs.any λy=>K2 y x
inductive rIn(K:J5)(neg:Bool)(x y:V)(H:Hp)(Q:VK):Prop
 |mk(p xs:_)(_:y= .ref p)(_:(HS K H p xs\/IP K H p xs))(_:mq x=true)(_:xs.all mq=true)(_:Q (.bl<|if neg then !K7 x xs else K7 x xs) H)
def sQ:Iy X (compareOp .In) (rIn X.K false):=by
 intro W s J H x y v u Q I z S h;let{p,xs,rfl,hq,O,fs,q}:=h;cases S;rcases hq with hq|hq
 .let{its,r,pl,hz}:=I.list hq;refine SeqAt.in_listAt (Jv x) pl.isList (λw hw=>mh z O r fs w<|by simpa using hw) {.bl _,H,I,M,?_};rw[show its.toArray.any (Jv x)=its.any (Jv x) by simp,oN r fs];exact q
 .let{its,r,pl,hz}:=I.tuple hq;refine SeqAt.in_tupleAt (Jv x) pl (λw hw=>mh z O r fs w<|by simpa using hw) {.bl _,H,I,M,?_};rw[show its.toArray.any (Jv x)=its.any (Jv x) by simp,oN r fs];exact q
def lV:Iy X (compareOp .NotIn) (rIn X.K true):=by
 intro W s J H x y v u Q I z S h;let{p,xs,rfl,hq,O,fs,q}:=h;cases S;rcases hq with hq|hq
 .let{its,r,pl,hz}:=I.list hq;refine SeqAt.notIn_listAt (Jv x) pl.isList (λw hw=>mh z O r fs w<|by simpa using hw) {.bl _,H,I,M,?_};rw[show its.toArray.any (Jv x)=its.any (Jv x) by simp,oN r fs];exact q
 .let{its,r,pl,hz}:=I.tuple hq;refine SeqAt.notIn_tupleAt (Jv x) pl (λw hw=>mh z O r fs w<|by simpa using hw) {.bl _,H,I,M,?_};rw[show its.toArray.any (Jv x)=its.any (Jv x) by simp,oN r fs];exact q
def aE:fV X (.builtin "len") (λxs H Q=>∃p ys,xs=[.ref p]/\(HS X.K H p ys\/IP X.K H p ys)/\Q (.int ys.length) H):=by
 intro W s J H xs us Q I r h;let{p,ys,rfl,hq,q}:=h;let{u,rfl,S}:=oS r;cases S;have U:=nB;rcases hq with hq|hq
 .let{its,O,pl,hz}:=I.list hq;have z:=O.length;exact Calls.call_len_list pl.isList (by simp only[Qg]<;>lia) {.int ys.length,H,I.tok _,{s.toks+1,by rw[Qg,z]},q}
 .let{its,O,pl,hz}:=I.tuple hq;have z:=O.length;exact len_tuple pl (by simp only[Qg]<;>lia) {.int ys.length,H,I.tok _,{s.toks+1,by rw[Qg,z]},q}
def ut:fV X (.builtin "len") (λxs H Q=>∃z,xs=[.str z]/\z.length<=sizeLine/\Q (.int z.length) H):=by
 intro W s J H xs us Q I r h;let{z,rfl,hz,q}:=h;let{u,rfl,t,rfl}:=oS r;have O:=nB;exact len_str () {.int z.length,H,I.tok _,{_,M},q}
def tyV(K:J5)(T:String)(x:V)(H:Hp):Prop:=match x with
 | .str _=>T=qs
 | .int _=>T="int"
 | .ref p=>(T=i1/\∃xs,HS K H p xs)\/(T=cs/\∃o,K.lookup p=some o/\o.cls= .type cs/\o.dict=none)\/
   (T="dict"/\((∃kvs,H p=some (.dK kvs))\/∃kvs,H p=some (.dT kvs)))\/(T="set"/\∃S n,H p=some (.set S n))
 |_=>False
def zW(I:Inv X W J H s)(r:RelV x v)(ty:tyV X.K T x H):
  s.TypeIs v T/\∀a,v= .ref a->∃ob,s.heap.get? a=some ob/\ob.dict=none:=by
 cases x with
 |str z=>
  let{t,rfl}:=r;cases (show T=qs from ty);exact{typeIs_str s z t,λ_ e=>nomatch e}
 |int i=>
  let{t,rfl}:=r;cases (show T="int" from ty);exact{typeIs_int s i t,λ_ e=>nomatch e}
 |ref p=>
  cases r;rcases ty with⟨rfl,xs,hq⟩|⟨rfl,o,hk,hc,hd⟩|⟨rfl,hk⟩|⟨rfl,S,n,hk⟩
  .let{its,_,pl,_}:=I.list hq;refine{pl.isList.typeIs,λa e=>?_};cases e;let{o,n,e,c,hd,_}:=pl;exact⟨o,e,hd⟩
  .refine{{o,I.kIn p o hk,hc},λa e=>?_};cases e;exact{o,I.kIn _ o hk,hd}
  .have z:∃o,s.heap.get? p=some o/\o.ExactDict:=by
    rcases hk with⟨kvs,hk⟩|⟨kvs,hk⟩
    .let{_,_,_,_,o,_,_,e,ex,_}:=I.hok p _ hk;exact⟨o,e,ex⟩
    .let{_,_,_,_,o,_,_,e,ex,_}:=I.hok p _ hk;exact⟨o,e,ex⟩
   let{o,e,ex}:=z;refine{⟨o,e,ex.1⟩,λa e2=>?_};cases e2;exact⟨o,e,ex.2.1⟩
  .let{o,_,_,_,e,ex,_}:=I.hok p _ hk;refine{⟨o,e,ex.1⟩,λa e2=>?_};cases e2;exact⟨o,e,ex.2.1⟩
 |_=>exact False.elim ty
def tBM0(K:J5)(T:String)(r:V->List V->Hp->VK->Prop)(to:TE):TE:=λJ H Q=>to J H λx H1=>tyV K T x H1/\r x [] H1 Q
def tBM(K:J5)(T:String)(r:V->List V->Hp->VK->Prop)(to:TE)(t:TA):TE:=λJ H Q=>to J H λx H1=>tyV K T x H1/\t J H1 λxs H2=>r x xs H2 Q
variable{o:Expr}{es:Kx}{to:TE}{t:TA}{name:Str}{apos cpos:Pos}{id:String}{r:V->List V->Hp->VK->Prop}
def wK(pa:PlainAttrs T)(slot:Slot T name id)(S:typeOf (.builtin id)=pure (.type "method_descriptor"))(Z:KL X id r)(ho:PE X o to)
  (z:attributeBase o name X.env (eval o X.env)=eval o X.env:=by rfl) (O:(apos.endLine==cpos.line)=true:=by rfl):PE X (.Call (.Attribute o name apos) [] [] cpos) (tBM0 X.K T r to):=by
 intro W s J H Q I h;refine wpAny_Call_method0_late z O<|HX (ho W s J H _ I h) λv s1 U=>?_;let{x,H1,Y,r1,ty,q1}:=U;let{h1,h2}:=zW Y r1 ty;exact{T,id,pa,slot,S,h1,h2,Calls.callWith_builtin M<|PySem.evalArgs_none (Z W s1 J H1 x [] v [] Q Y r1 .nil q1)}
def c6(pa:PlainAttrs T)(slot:Slot T name id)(Y:typeOf (.builtin id)=pure (.type "method_descriptor"))(hm:KL X id r)(ho:PE X o to)(ha:PA X (e::es) t)
  (O:attributeBase o name X.env (eval o X.env)=eval o X.env:=by rfl)
  (U:((backTo cpos<|starEach (e::es) X.env).all (λx=>!x.1)&&(backToKw cpos<|keywordEach [] X.env).all (λx=>x.1.isSome)
   &&decide ((e::es).length+([]:List Keyword).length+(if([]:List Keyword).isEmpty then 0 else 1)<30))=true:=by rfl)
  (S:(apos.endLine==cpos.line)=true:=by rfl) (hs:starEach (e::es) X.env=(false,eval e X.env)::starEach es X.env:=by rfl) (z:(backTo cpos<|starEach es X.env).any (·.1)=false:=by rfl):
  PE X (.Call (.Attribute o name apos) (e::es) [] cpos) (tBM X.K T r to t):=by
 intro W s J H Q I h;refine wpAny_Call_method_late O U S M<|HX (ho W s J H _ I h) λv s1 Z=>?_;let{x,H1,I1,r1,ty,q1}:=Z;let{h1,h2}:=zW I1 r1 ty;refine{T,id,pa,slot,Y,h1,h2,?_};have hA:=ha cpos W s1 J H1 _ I1 q1;rw[hs]at hA⊢;refine Calls.callWith_builtin (by show(false||(backTo cpos<|starEach es X.env).any (·.1))=false;rw[z]<;>rfl)<|Calls.evalArgs_plain ?_;exact HX hA λus s2 zz=>by let{vs,H2,I2,r2,q2}:=zz;exact hm W s2 J H2 x vs v us Q I2 r1 r2 q2
end
def MtM(X:Cx)(id:String)(r:V->List V->Hp->VK->Prop):Prop:=
 ∀(W:Kf)(s:J')(J:St)(H:Hp)(x:V)(xs:Ke)(v:Kb)(us:Kd)(Q:VK),Inv X W J H s->RelV x v->HV xs us->r x xs H Q->
  J6 X (call (.builtin id) (v::us)) (EP X W J Q) X.xe s
def HV.one:∀{x:V}{us:Kd},HV [x] us->∃u,us=[u]/\RelV x u
 :=λh=>by
  cases h with
  |cons r h=>cases h;exact{_,M,r}
def HV.two:∀{x y:V}{us:Kd},HV [x,y] us->∃u v,us=[u,v]/\RelV x u/\RelV y v
 :=λh=>by
  cases h with
  |cons r h=>cases h with
   |cons q h=>cases h;exact{_,_,M,r,q}
section
variable{l b:B'}{ys zs:Ke}
def Inv.lset{f:Array Value->Array Value}(I:Inv X W J H s)(z:H l=some (.lst xs))
  (e:s.heap.get? l=some {cls:= .type i1,data:= .seq its.toArray n}) (O:f its.toArray=its'.toArray) (S:HV ys its') (hz:ys.length<=sizeLine):
  Inv X W J (upd H l<|.lst ys) {s with heap:=s.heap.update l (Obj.mapSeq f),toks:=t'}:=by
 have q:=PySem.IsL.update e f;rw[O]at q;refine I.write (x:=l) (e:=l) (by rw[z];exact trivial) (.inl M) (λb' u hb hu=>(Xm s.heap (Obj.mapSeq f)<|Ne.symm hb).trans hu) {_,q} ?_;exact{hz,its',_,S,q}
def Inv.lnew(I:Inv X W J H s)(z:HV ys its)(hz:ys.length<=sizeLine):
  Inv X W J (upd H s.heap.objs.size<|.lst ys) {s with heap:=s.heap.push {cls:= .type i1,data:= .seq its.toArray},toks:=t'}:=
 I.laid (λ_ _ q=>Xb _ q) (Qc _) {hz,its,0,z,Xl _ M}
def Inv.fresh(I:Inv X W J H s):H s.heap.objs.size=none:=I.hok.fresh (Qc _)
def Inv.lstM(I:Inv X W J H s)(O:H l=some (.lst xs)):xs.length<=sizeLine/\∃(its:Kd)(n:Nat),HV xs its/\xs.length=its.length/\s.heap.get? l=some {cls:= .type i1,data:= .seq its.toArray n}:=by
 let{z,its,n,r,e}:=I.hok l _ O;exact⟨z,its,n,r,r.length,e⟩
def AF(h:n<=sizeLine):Builtin.List.listTooLong n=false:=by
 unfold Builtin.List.listTooLong;exact Xh ()
end
inductive CN(x:V)(vs:Ke)(H:Hp)(Q:VK):Prop
 |mk(l xs y:_)(_:x= .ref l)(_:vs=[y])(_:H l=some (.lst xs))(_:xs.length<sizeLine)(_:Q .non (upd H l<|.lst<|xs++ [y]))
def fe:MtM X "list.append" CN:=by
 intro W s J H x vs v us Q I S U h;let{l,xs,y,rfl,rfl,O,hz,q}:=h;cases S;let{u,rfl,Y}:=U.one;let{z,its,n,r,hl,e}:=I.lstM O;refine call_meets F.slot_list_append {_,e,M} F.entry_list_append (F.args_list_append_2 _ _) (PySem.list_append l its.toArray n u<|by rw[Qg];lia) {e,?_};refine{.non,_,I.lset (its':=its++ [u]) O e (by simp) (r.append<|.cons Y .nil) ?_,M,q};rw[Q5,QS];lia
inductive CM(x:V)(vs:Ke)(H:Hp)(Q:VK):Prop
 |mk(l b xs zs:_)(_:x= .ref l)(_:vs=[.ref b])(_:H l=some (.lst xs))(_:H b=some (.lst zs))(_:xs.length+zs.length<=sizeLine)(_:Q .non (upd H l<|.lst<|xs++zs))
def yY:MtM X "list.extend" CM:=by
 intro W s J H x vs v us Q I Y Z h;let{l,b,xs,zs,rfl,rfl,U,hB,hz,q}:=h;cases Y;let{u,rfl,ru}:=Z.one;cases ru;let{z,its,n,r,hl,e}:=I.lstM U;let{z2,O,n2,r2,a0,e2}:=I.lstM hB;have hsz:its.toArray.size+O.toArray.size<=sizeLine:=by rw[Qg,Qg];lia
 have S:¬(!its.toArray.isEmpty&&Builtin.List.listTooLong (its.toArray.size+O.toArray.size))=true:=by
  rw[AF hsz,Z9];exact Q8
 refine call_meets F.slot_list_extend {_,e,M} F.entry_list_extend (F.args_list_extend_2 _ _)
  (AutoSeq1.list_extend_list_list_0 l its.toArray n b O.toArray n2 S (by rw[Qg];lia) ()) {e,e2,?_}
 refine{.non,_,I.lset (its':=its++O) U e (by simp) (r.append r2) ?_,M,q};rw[Q5];lia
inductive rCat(x y:V)(H:Hp)(Q:VK):Prop
 |mk(l b xs zs:_)(_:x= .ref l)(_:y= .ref b)(_:H l=some (.lst xs))(_:H b=some (.lst zs))(_:xs.length+zs.length<=sizeLine)(_:∀p,H p=none->Q (.ref p) (upd H p<|.lst<|xs++zs))
def cu:Iy X (binaryOp .Add) rCat:=by
 intro W s J H x y v u Q I S U h;let{l,b,xs,zs,rfl,rfl,Y,Z,hz,q}:=h;cases S;cases U;let{z,its,n,r,hl,e}:=I.lstM Y;let{z2,O,n2,r2,a0,e2}:=I.lstM Z;refine PySem.P.add_list e e2 ?_ (by rw[Qg,Qg];lia);have ea:its.toArray++O.toArray=(its++O).toArray:=by simp
 rw[ea];exact{.ref _,_,I.lnew (t':=s.toks) (r.append r2) (by rw[Q5];lia),M,q _ I.fresh}
section
variable{κ:Type}[DecidableEq κ]
noncomputable def aR(kvs:List (κ×V))(k:κ):Option V:=(kvs.find? λkv=>decide (kv.1=k)).map (·.2)
noncomputable def bC(kvs:List (κ×V))(k:κ)(v:V):List (κ×V):=
 if(kvs.any λkv=>decide (kv.1=k))=true then kvs.map (λkv=>if kv.1=k then(kv.1,v)else kv)else kvs++ [(k,v)]
def oU{k:κ}:aR ([]:List (κ×V)) k=none:=rfl
def bI{p:κ×V}{r:List (κ×V)}{k:κ}(e:p.1=k):aR (p::r) k=some p.2:=by simp[aR,Zl,e]
def bJ{p:κ×V}{r:List (κ×V)}{k:κ}(e:¬p.1=k):aR (p::r) k=aR r k:=by simp[aR,Zl,e]
theorem cN(k:κ):∀kvs:List (κ×V),(kvs.any λkv=>decide (kv.1=k))=(aR kvs k).isSome
 | []=>rfl
 |p::r=>by
  rw[Zs];by_cases e:p.1=k
  .simp only[bI e,Xg e,Bool.true_or,Option.isSome_some]
  .rw[bJ e,Xh e,Bool.false_or];exact cN k r
theorem uK(k j:κ)(y:V):∀kvs:List (κ×V),aR (kvs.map λkv=>if kv.1=k then(kv.1,y)else kv) j=(aR kvs j).map λx=>if j=k then y else x
 | []=>rfl
 |p::r=>by
  have I:=uK k j y r;rw[Qm];by_cases h:p.1=k
  .rw[Xe h];by_cases e:p.1=j
   .rw[bI (p:=(p.1,y)) e,bI e,ZL,Xe (e.symm.trans h)]
   .rw[bJ (p:=(p.1,y)) e,bJ e,I]
  .rw[Xc h];by_cases e:p.1=j
   .rw[bI (p:=p) e,bI e,ZL,Xc (λz=>h<|e.trans z)]
   .rw[bJ (p:=p) e,bJ e,I]
theorem sI(k j:κ)(y:V):∀kvs:List (κ×V),aR kvs k=none->aR (kvs++ [(k,y)]) j=if j=k then some y else aR kvs j
 | [],_=>by
  by_cases e:k=j
  .rw[Xe e.symm];exact bI (p:=(k,y)) e
  .rw[Xc (λz=>e z.symm)];exact bJ (p:=(k,y)) e
 |p::r,hn=>by
  rw[ZE];have hk:¬p.1=k:=λz=>by rw[bI z]at hn;cases hn
  rw[bJ hk]at hn;have I:=sI k j y r hn;by_cases e:p.1=j
  .rw[bI e,bI e,Xc (λz=>hk<|e.trans z)]
  .rw[bJ e,bJ e,I]
def cM(kvs:List (κ×V))(k j:κ)(y:V):aR (bC kvs k y) j=if j=k then some y else aR kvs j:=by
 unfold bC;by_cases a:(kvs.any λkv=>decide (kv.1=k))=true
 .rw[Xe a,uK];rw[cN]at a;by_cases e:j=k
  .let{x,hx}:=Option.isSome_iff_exists.mp a;rw[Xe e,e,hx,ZL,Xe M]
  .rw[Xc e];cases aR kvs j with
   |none=>rfl
   |some x=>rw[ZL,Xc e]
 .rw[Xc a];refine sI k j y kvs ?_;rw[cN]at a;cases q:aR kvs k with
  |none=>rfl
  |some x=>rw[q]at a;exact(a M).elim
def dB(kvs:List (κ×V))(k:κ)(v:V):(bC kvs k v).length<=kvs.length+1:=by
 unfold bC;split
 .rw[Q0];lia
 .rw[Q5,Q3,Qz];lia
def vd{kvs:List (κ×V)}{k:κ}(v:V)(h:aR kvs k=none):bC kvs k v=kvs++ [(k,v)]:=by
 unfold bC;rw[cN,h];exact Xc (_)
def Ig.isSome_eq{u:Lb}(r:Ig o u):o.isSome=u.isSome:=by
 cases o with
 |none=>cases u with
  |none=>rfl
  |some _=>exact(show False from r).elim
 |some _=>cases u with
  |none=>exact(show False from r).elim
  |some _=>rfl
def KV.val{kvs:List (κ×V)}{vs:List (κ×Value)}(r:KV kvs vs)(k:κ):Ig (aR kvs k) (valueAt vs k):=by
 unfold KV at r
 induction r with
 |nil=>exact Xn
 | @cons p q ps I h t S=>
  let{h1,h2}:=h;by_cases e:p.1=k
  .have O:q.1=k:=h1.symm.trans e;have b:valueAt (q::I) k=some q.2:=by simp[valueAt,Zl,O]
   rwa[bI e,b]
  .have O:¬q.1=k:=λz=>e (h1.trans z);have b:valueAt (q::I) k=valueAt I k:=by simp[valueAt,Zl,O]
   rw[bJ e,b];exact S
def KV.any{kvs:List (κ×V)}{vs:List (κ×Value)}(r:KV kvs vs)(k:κ):(kvs.any λkv=>decide (kv.1=k))=vs.any λkv=>decide (kv.1=k):=by
 unfold KV at r
 induction r with
 |nil=>rfl
 |cons h t z=>rw[Zs,Zs,z,h.1]
def KV.repl{kvs:List (κ×V)}{vs:List (κ×Value)}(r:KV kvs vs)(k:κ)(I:RelV y u):
  KV (kvs.map λkv=>if kv.1=k then(kv.1,y)else kv) (vs.map λkv=>if kv.1=k then(kv.1,u)else kv):=by
 unfold KV at r⊢
 induction r with
 |nil=>exact .nil
 | @cons p q ps S h t O=>
  rw[Qm,Qm];refine .cons ?_ O;let{h1,h2}:=h;by_cases e:p.1=k
  .rw[Xe e,Xe (h1.symm.trans e)];exact⟨h1,I⟩
  .rw[Xc e,Xc (λz=>e<|h1.trans z)];exact⟨h1,h2⟩
def KV.put{kvs:List (κ×V)}{vs:List (κ×Value)}(r:KV kvs vs)(k:κ){y:V}{u:Kb}(z:RelV y u):KV (bC kvs k y) (stored vs k u):=by
 unfold bC stored;rw[r.any k];by_cases e:(vs.any λkv=>decide (kv.1=k))=true
 .rw[Xe e,Xe e];exact r.repl k z
 .rw[Xc e,Xc e];exact Paired.snoc r ⟨M,z⟩
def KV.length{kvs:List (κ×V)}{vs:List (κ×Value)}(r:KV kvs vs):kvs.length=vs.length:=Paired.length r
end
def nS{k:Key}(r:RelV (kV k) u):(bG P w).is k u=true:=by
 cases k with
 |inl i=>let{t,e}:=(show ∃t,u=Value.int i t from r);subst e;exact vA P w i t
 |inr x=>let{t,e}:=(show ∃t,u=Value.str x t from r);subst e;exact jH P w x t
theorem sW{P:Ki}{w:Kj}:∀{ks:List Key}{us:Kd},HV (ks.map kV) us->ItemsAre (bG P w) ks us
 | [],_,r=>by rw[List.map_nil]at r;cases r;exact .nil
 |k::ks,_,r=>by
  rw[Qm]at r;cases r with
  |cons h t=>exact .cons (nS h)<|sW t
abbrev KT(H:Hp):List (List Key×V)->List (List Key×Addr×Value)->Prop:=Paired λp q=>p.1=q.1/\H q.2.1=some (.tup<|p.1.map kV)/\RelV p.2 q.2.2
abbrev _root_.Lj:=List (List Key×Addr×Value)
def KT.val{kvs:Lc}{xs:Lj}(r:KT H kvs xs)(k:List Key):Ig (aR kvs k) ((atKey xs k).map (·.2)):=by
 induction r with
 |nil=>exact Xn
 | @cons p q ps I h t S=>
  let{h1,_,h2}:=h;by_cases e:p.1=k
  .have O:q.1=k:=h1.symm.trans e;have b:atKey (q::I) k=some q.2:=by simp[atKey,Zl,O]
   rwa[bI e,b]
  .have O:¬q.1=k:=λz=>e (h1.trans z);have b:atKey (q::I) k=atKey I k:=by simp[atKey,Zl,O]
   rw[bJ e,b];exact S
def KT.repl{kvs:Lc}{xs:Lj}(r:KT H kvs xs)(k:List Key)(I:RelV y u):
  KT H (kvs.map λkv=>if kv.1=k then(kv.1,y)else kv) (xs.map<|putAt k u):=by
 induction r with
 |nil=>exact .nil
 | @cons p q ps U h t O=>
  rw[Qm,Qm];refine .cons ?_ O;let{h1,h2,S}:=h;unfold putAt;by_cases e:p.1=k
  .rw[Xe e,Xe (h1.symm.trans e)];exact⟨h1,h2,I⟩
  .rw[Xc e,Xc (λz=>e<|h1.trans z)];exact⟨h1,h2,S⟩
def KT.put{H:Hp}{kvs:Lc}{xs:Lj}(r:KT H kvs xs)(k:List Key){b:B'}{y:V}{u:Kb}(hb:H b=some (.tup<|k.map kV))(z:RelV y u):
  KT H (bC kvs k y) (storedH xs k b u):=by
 have e:(kvs.any λkv=>decide (kv.1=k))=(atKey xs k).isSome:=by
  rw[cN,(r.val k).isSome_eq,Zp]
 unfold bC storedH;rw[e];by_cases q:(atKey xs k).isSome=true
 .rw[Xe q,Xe q];exact r.repl k z
 .rw[Xc q,Xc q];exact Paired.snoc r ⟨M,hb,z⟩
def KT.keeps{kvs:Lc}{xs:Lj}(r:KT H kvs xs)(I:∀b ys,H b=some (.tup ys)->H' b=some (.tup ys)):KT H' kvs xs:=
 Paired.mapP r λ_ _ z=>{z.1,I _ _ z.2.1,z.2.2}
section
variable{h:Heap}
def En{u:HO}(ok:IR P w H h)(e:Rd H a u):HZ P w H h a u:=e.ok ok
def vQ(ok:IR P w H h)(e:Rd H a (.dK kvs)):kvs.length<=sizeLine/\(a==sysModules)=false/\∃vs,KV kvs vs/\h.DictOf (bG P w) a vs:=
 show HZ P w H h a (.dK kvs) from En ok e
def vR(ok:IR P w H h)(e:H a=some (.dK kvs)):kvs.length<=sizeLine/\(a==sysModules)=false/\∃vs,KV kvs vs/\h.DictOf (bG P w) a vs:=vQ ok (.inl e)
def qE{ks:List Key}(ok:IR P w H h)(e:H a=some (.tup<|ks.map kV)):(tupleKind<|bG P w).is h ks a:=by
 let{_,its,r,o,h1,h2,n,z}:=(show HZ P w H h a (.tup<|ks.map kV) from ok a _ e);exact{o,its.toArray,n,h1,h2,z,by simpa using sW r}
def vP{kvs:Lc}(ok:IR P w H h)(e:Rd H a (.dT kvs)):kvs.length<=sizeLine/\(a==sysModules)=false/\
  ∃xs,KT H kvs xs/\h.DictOfH (tupleKind<|bG P w) a xs:=by
 let{z,y,xs,r,o,es,ep,h1,h2,I,O,S}:=(show HZ P w H h a (.dT kvs) from En ok e);refine{z,y,xs,r,o,es,ep,h1,h2,I,O,λx hx=>?_,S};have all:∀{l:Lc}{m:Lj},KT H l m->∀x∈m,(tupleKind<|bG P w).is h x.1 x.2.1:=by
  intro l m q
  induction q with
  |nil=>intro x hx;exact nomatch hx
  | @cons p q ps Y hq t U=>
   intro x hx;rcases Qa.mp hx with e|hx
   .subst e;exact qE ok<|by rw[<-hq.1];exact hq.2.1
   .exact U x hx
 exact all r x hx
def Ht{kvs:Lc}(ok:IR P w H h)(e:H a=some (.dT kvs)):kvs.length<=sizeLine/\(a==sysModules)=false/\
  ∃xs,KT H kvs xs/\h.DictOfH (tupleKind<|bG P w) a xs:=vP ok (.inl e)
end
def Io(H:Hp)(a:B')(y:V)(r:Option V):Prop:=
 (∃kvs k,Rd H a (.dK kvs)/\y=kV k/\r=aR kvs k)\/∃kvs k b,Rd H a (.dT kvs)/\y= .ref b/\H b=some (.tup<|k.map kV)/\r=aR kvs k
def Jk(H:Hp)(a:B')(y v:V)(H':Hp):Prop:=
 (∃kvs k,H a=some (.dK kvs)/\y=kV k/\kvs.length<sizeLine/\H'=upd H a (.dK<|bC kvs k v))\/
 ∃kvs k b,H a=some (.dT kvs)/\y= .ref b/\H b=some (.tup<|k.map kV)/\kvs.length<sizeLine/\H'=upd H a (.dT<|bC kvs k v)
def Io.k{k:Key}(e:H a=some (.dK kvs)):Io H a (kV k) (aR kvs k):= .inl {kvs,k,.inl e,M,M}
def Jk.k{k:Key}{v:V}(e:H a=some (.dK kvs))(hl:kvs.length<sizeLine):Jk H a (kV k) v (upd H a<|.dK<|bC kvs k v):= .inl ⟨kvs,k,e,M,hl,M⟩
section
variable{v:V}{r:Kb}
def Inv.big(I:Inv X W J H s):sysModules<s.heap.objs.size:=by
 have h:mainGlobals<s.heap.objs.size:=(I.mod.glob.keeps I.bk).lt;exact Nat.lt_trans (_) h
def zt(hu:A.units+1<cLine)(I:Inv X W J H s)(g:Io H a y (some v))(Z:RelV y u)(h:∀w' s',Inv X W J H s'->RelV v w'->Q w' s'):
  wpAny (model X.prog X.w) A (getItem (.ref a) u) Q E s:=by
 rcases g with⟨kvs,k,e,U,l⟩|⟨kvs,k,b,e,U,eb,l⟩
 .subst U;let{z,hd,vs,O,dd}:=vQ I.hok e;let{w',hw,S}:=Ig.some_of (v:=v) (o:=valueAt vs k) (by rw[l];exact O.val k);exact wpAny_getItem_of (nS Z) dd.mapOf hw<|h w' _ (I.tok _) S
 .subst U;cases (show u=Value.ref b from Z);let{z,hd,xs,O,dd}:=vP I.hok e;let{w',hw,S}:=Ig.some_of (v:=v) (o:=(atKey xs k).map (·.2)) (by rw[l];exact O.val k);let{p,hp,Y}:=QL.mp hw;refine wpAny_getItem_heap (tupleKind_room_in1 hu) (qE I.hok eb) dd hp ?_;rw[Y];exact h w' _ (I.tok _) S
def d_in(hu:A.units+1<cLine)(I:Inv X W J H s)(g:Io H a y o)(U:RelV y u)(h:∀s',Inv X W J H s'->Q (.bool o.isSome) s'):
  wpAny (model X.prog X.w) A (compareOp .In u<|.ref a) Q E s:=by
 rcases g with⟨kvs,k,e,S,l⟩|⟨kvs,k,b,e,S,Y,l⟩
 .subst S;let{z,hd,vs,O,dd}:=vQ I.hok e;refine wpAny_in_of (nS U) hd dd.mapOf ?_;rw[<-(O.val k).isSome_eq,<-l];exact h _<|I.tok _
 .subst S;cases (show u=Value.ref b from U);let{z,hd,xs,O,dd}:=vP I.hok e;refine wpAny_in_heap (tupleKind_room_in1 hu) (qE I.hok Y) hd dd ?_;have q:=(O.val k).isSome_eq;rw[Zp]at q;rw[<-q,<-l];exact h _<|I.tok _
def DD(hu:A.units+1<cLine)(I:Inv X W J H s)(g:Io H a y o)(U:RelV y u)(h:∀s',Inv X W J H s'->Q (.bool<|!o.isSome) s'):
  wpAny (model X.prog X.w) A (compareOp .NotIn u<|.ref a) Q E s:=by
 rcases g with⟨kvs,k,e,S,l⟩|⟨kvs,k,b,e,S,Y,l⟩
 .subst S;let{z,hd,vs,O,dd}:=vQ I.hok e;refine wpAny_notIn_of (nS U) hd dd.mapOf ?_;rw[<-(O.val k).isSome_eq,<-l];exact h _<|I.tok _
 .subst S;cases (show u=Value.ref b from U);let{z,hd,xs,O,dd}:=vP I.hok e;refine wpAny_notIn_heap (tupleKind_room_in1 hu) (qE I.hok Y) hd dd ?_;have q:=(O.val k).isSome_eq;rw[Zp]at q;rw[<-q,<-l];exact h _<|I.tok _
def ur{ob:HO}(I:Inv X W J H s)(O:Mut (H a))(hs:Heap.SameBut a s.heap h')(he:∃q,h'.get? a=some q)(new:HZ X.prog X.w (upd H a ob) h' a ob):
  Inv X W J (upd H a ob) {s with heap:=h',toks:=t'}:=
 I.write (x:=a) (e:=a) O (.inl M) (λb q hb z=>(hs.2 b hb).trans z) he new
def Bq(z:kvs.length<=sizeLine)(hd:(a==sysModules)=false)(I:KV kvs vs)(dd:h'.DictOf (bG P w) a vs):
  HZ P w H' h' a (.dK kvs):=⟨z,hd,vs,I,dd⟩
def zo{Q:Ky}(hu:A.units+1<cLine)(I:Inv X W J H s)(g:Jk H a y v H')(Y:RelV y u)(Z:RelV v r)(h:∀s',Inv X W J H' s'->Q Unit.unit s'):
  wpAny (model X.prog X.w) A (setItem (.ref a) u r) Q E s:=by
 rcases g with⟨kvs,k,e,S,l,U⟩|⟨kvs,k,b,e,S,eb,l,U⟩
 .subst S U;let{z,hd,vs,O,dd}:=vR I.hok e;have hz:vs.length<=sizeLine:=by rwa[<-O.length]
  have hl:(bC kvs k v).length<=sizeLine:=by have:=dB kvs k v;lia
  refine wpAny_setItem_pairs (hsz:=hz) (nS Y) dd λh' dd' hs=>h _ ?_;have he:∃q,h'.get? a=some q:=by let{q,_,_,hq,_}:=dd';exact⟨q,hq⟩
  exact ur I (by rw[e];exact Xn) hs he<|Bq hl hd (O.put k Z) dd'
 .subst S U;cases (show u=Value.ref b from Y);let{z,hd,xs,O,dd}:=Ht I.hok e;have hz:xs.length<=sizeLine:=by rwa[<-Paired.length O]
  have hl:(bC kvs k v).length<=sizeLine:=by have:=dB kvs k v;lia
  refine wpAny_setItem_heap (hsz:=hz) (tupleKind_room_in1 hu) (qE I.hok eb) dd λh' dd' hs=>h _ ?_;let{q,es,ep,hq,h2,h3,h4,_,h5}:=dd';refine ur I (by rw[e];exact Xn) hs ⟨q,hq⟩ {hl,hd,_,(O.put k eb Z).keeps λc ys ec=>?_,q,es,ep,hq,h2,h3,h4,h5};rwa[ah (cI ec e<|λz=>nomatch z)]
end
def Gf(i:Expr):Prop:=∀ov iv,subscripted i false ov iv=operate [ov,iv] (getItem ov iv)
def xE{prog:Ki}{env:Env}{value z:Expr}{id:String} 
  (hl:typeLookup (.type T) "__getitem__"=pure (some<|.builtin id)) (hs:Gf z)
  (h:wpAny (model prog w) A (eval value env) (λo s₁=>wpAny (model prog w) A (eval z env) (λi s₂=>s₂.TypeIs o T/\wpAny (model prog w) A (getItem o i) Q E s₂) E s₁) E s):
  wpAny (model prog w) A (eval (.Subscript value z pos) env) Q E s:=by
 refine Subscript_<|Xp h (λo s₁ h₁=>Xp h₁ (λi s₂ I=>?_) λ_ _ x=>x) λ_ _ x=>x;let{Y,I}:=I;unfold subscriptTail;refine Xa ?_;rw[getitemInPython_of_ne Y.not_modules];refine Xa<|wpAny_specialOf Y hl ?_;have S:wpAny (model prog w) A (subscripted z false o i) (λr O=>wpAny (model prog w) A (letTemporaryGo value o r>>=λ_=>pure r) Q E O) E s₂:=by
  rw[hs o i];exact wpAny_operating (Xp I (λr O U=>Xa<|wpAny_letTemporaryGo<|Xj U) λ_ _ x=>x)
 first
  |exact Xj<|Xa S
  |exact Xa<|Xj (Xa S)
  |exact Xa S
def vT(I:Inv X W J H s)(g:Io H a y o):s.TypeIs (.ref a) "dict":=by
 rcases g with⟨kvs,k,e,_,_⟩|⟨kvs,k,b,e,_,_,_⟩
 .let{_,_,vs,_,dd}:=vQ I.hok e;exact dd.typeIs
 .let{_,_,xs,_,dd}:=vP I.hok e;exact dd.typeIs
inductive ER(Q:VK)(x y:V)(H2:Hp):Prop
 |mk(a v:_)(_:x= .ref a)(_:Io H2 a y (some v))(_:Q v H2)
def GN(td ty:TE):TE:=λJ H Q=>td J H λx H1=>ty J H1 λy H2=>ER Q x y H2
inductive GM(Q:VK)(y x:V)(H2:Hp):Prop
 |mk(a o:_)(_:x= .ref a)(_:Io H2 a y o)(_:Q (.bl o.isSome) H2)
def tDIn(ty td:TE):TE:=λJ H Q=>ty J H λy H1=>td J H1 λx H2=>GM Q y x H2
def Cw(ty td:TE):TE:=λJ H Q=>ty J H λy H1=>td J H1 λx H2=>∃a o,x= .ref a/\Io H2 a y o/\Q (.bl<|!o.isSome) H2
inductive EX(D:Iw)(J:St)(v x y:V)(H3:Hp):Prop
 |mk(a H4:_)(_:x= .ref a)(_:Jk H3 a y v H4)(_:D.nx J H4)
def GV(td ty tv:TE):TS:=λD J H=>tv J H λv H1=>td J H1 λx H2=>ty J H2 λy H3=>EX D J v x y H3
section
variable{o i value:Expr}{pos' tpos:Pos}{td ty tv:TE}
def j1(hu:X.A.units+1<cLine)(U:PE X o td)(hi:PE X i ty)(hs:Gf i):PE X (.Subscript o i pos) (GN td ty):=by
 intro W s J H Q I h;refine xE PySem.F.slot_dict_getitem.lookup hs<|HX (U W s J H _ I h) λu s1 zz=>?_;let{x,H1,Y,Z,q1}:=zz;refine HX (hi W s1 J H1 _ Y q1) λiv s2 z=>?_;let{y,H2,S,ry,a,v,ex,g,q2}:=z;subst ex;obtain rfl:u=Value.ref a:=Z;exact{vT S g,zt hu S g ry λw' s3 I3 O=>⟨v,H2,I3,O,q2⟩}
def Fc(hu:X.A.units+1<cLine)(hi:PE X i ty)(O:PE X o td):PC X .In i o (tDIn ty td):=by
 intro W s J H Q I h;refine HX (hi W s J H _ I h) λiv s1 zz=>?_;let{y,H1,S,U,q1}:=zz;refine HX (O W s1 J H1 _ S q1) λu s2 z=>?_;let{x,H2,Y,Z,a,ov,ex,g,q2}:=z;subst ex;obtain rfl:u=Value.ref a:=Z;exact d_in hu Y g U λs3 I3=>{.bl ov.isSome,H2,I3,M,q2}
def sO(hu:X.A.units+1<cLine)(hi:PE X i ty)(O:PE X o td):PC X .NotIn i o (Cw ty td):=by
 intro W s J H Q I h;refine HX (hi W s J H _ I h) λiv s1 zz=>?_;let{y,H1,S,U,q1}:=zz;refine HX (O W s1 J H1 _ S q1) λu s2 z=>?_;let{x,H2,Y,Z,a,ov,ex,g,q2}:=z;subst ex;obtain rfl:u=Value.ref a:=Z;exact DD hu Y g U λs3 I3=>{.bl<|!ov.isSome,H2,I3,M,q2}
def tT(hu:X.A.units+1<cLine)(O:PE X o td)(hi:PE X i ty)(S:PE X value tv)(hs:swapsWith value (some<|.Subscript o i pos') pos.line X.env=pure false):
  PS X (.Assign [.Subscript o i pos'] value pos) (GV td ty tv):=by
 intro W s J H D I h;refine wpAny_Assign_Subscript (HX (S W s J H _ I h) λr s1 zz=>?_) hs;let{v,H1,U,Y,q1}:=zz;refine HX (O W s1 J H1 _ U q1) λu s2 zz=>?_;let{x,H2,Z,rx,q2}:=zz;refine HX (hi W s2 J H2 _ Z q2) λiv s3 z=>?_;let{y,H3,I3,ry,a,H4,ex,g,q3}:=z;subst ex;obtain rfl:u=Value.ref a:=rx;exact zo hu I3 g ry Y λs4 I4=>⟨J,H4,I4,q3⟩
end
def vS(h:Heap)(hb:sysModules<h.objs.size):HZ P w H (h.push {cls:= .type "dict",data:= .dict #[]}) h.objs.size (.dK []):=
 {Qy _,Xq.mpr<|Ne.symm<|Qs hb,[],.nil,Heap.DictOf.new h}
def EQ:TE:=λ_ H Q=>∀p,H p=none->Q (.ref p) (upd H p<|.dK [])
def iq:PE X (.Dict [] [] pos) EQ:=λW s J H Q I h=>
 wpAny_Dict_empty {.ref s.heap.objs.size,_,I.laid (a:=s.heap.objs.size) (o:= .dK []) (t':=s.toks) (λ_ _ q=>Xb _ q) (Qc _)<|vS s.heap I.big,M,h _<|I.hok.fresh (Qc _)}
end L2
namespace Att
open PySem PySem.W PySem.Calls PyProof.Rows
variable{h:Heap}{n:Nat}{l:OpenLaw}{P:Params}{YP:World->Heap->Prop}
abbrev _root_.Kk:=List Int
def oB:∀(ns:Kk)(vs:Kd),WellAll P h vs (ns.map WData.int)->IntsAre vs ns:=by
 intro ns
 induction ns with
 |nil=>
  intro vs w;rw[List.map_nil]at w;cases w;exact .nil
 |cons n ns z=>
  intro vs w;rw[Qm]at w;cases w with
  |cons a b=>
   cases a;exact .cons _ _<|z _ b
def yF(hn:l.most=some n){args:List WData}{z:Kd}
  (I:l.row.toRowW.claim.pre args=true) (Z:WellAll P h z args):
  ∃a vs ns,z=[Value.ref a]/\args=[WData.list (ns.map WData.int)]/\h.get? a=some {cls:= .type i1,data:= .seq vs.toArray}/\IntsAre vs ns/\ns.length<=n:=by
 have a0:WShape.hasAll [] args [.list .int]=true:=(pre_splitW I).1;have hc:l.pre.holds [] {args:=args}=true:=(pre_splitW I).2;let{d,r,rfl,h1,h2}:=hasAllW_cons a0;obtain rfl:=hasAllW_nil h2;let{xs,rfl,h3}:=hasW_list h1;let{ns,rfl}:=items_int h3;have O:ns.length<=n:=by
  unfold OpenLaw.pre at hc;have U:(WTm.not<|.lt (.lit<|.int (n:Int))<|.len<|.arg 0).holds [] {args:=[.list (ns.map .int)]}=true:=by
   have U:=(holds_andW hc).1;rw[hn]at U;exact U
  have Y:=condW_of U (w_not<|w_lt w_lit<|w_len_list<|w_arg M);rw[Q0]at Y;refine Nat.le_of_not_lt λq=>?_;have q':(n:Int)<((ns.length:Nat):Int):=()
  first
   |(rw[Xg q']at Y;exact Xd Y (_))
   |(simp at Y;lia)
 cases Z with
 |cons w1 w2=>
  cases w2;cases w1 with
  |list ho S=>exact{_,_,ns,M,M,ho,oB ns _ S,O}
def yK(l:OpenLaw)(args:List WData):l.row.toRowW.claim.post args (.bool true) args=true:=
 postW_of (r:=l.row.toRowW) (X:=(true==true))
  (show WShape.has [] (.bool true) .bool=true by first|rfl|decide|simp[WShape.has,WShape.arms,WShape.armsAll])
  (show(WTm.eq .res<|.lit<|.bool true).value [] {args:=args,res:=some (.bool true),after:=args}=some (.bool<|true==true) from w_eq_bool (w_res M) w_lit) M
def attach_call{q:Ki}{loose:Kc}{XP:(Str->Option Value)->Heap->Prop}{d:DefRec}
  (hn:l.most=some n) (a0:d.params.defaults=[])
  (call:∀(w:Kj)(s₀ s₁:J')(mg mb:Kq)(O:B')(o:Obj)(pm cd z:Kb)(a:B')(vs:Kd)(ns:Kk),
   Ground q loose [] XP w s₀ mg mb s₁.heap->YP w s₁.heap->
   s₁.heap.get? O=some o->o.data= .func (docDef d.name d.params d.body d.scope pm cd z)->s₁.heap.CodeRec cd d.name->mg d.name=some (.ref O)->
   s₁.heap.get? a=some {cls:= .type i1,data:= .seq vs.toArray}->IntsAre vs ns->ns.length<=n->s₁.gens= #[]->
   codeAny (model l.prog w) callerA (.call (.ref O) {[.ref a],[]}) (λr s'=>r= .ok (.ret<|.bool true)/\OldK s₁.heap s'.heap/\s'.os=s₁.os/\AllBare s'.gens) s₁):
  WalkO q loose XP YP l.row.toRowW d [] (λf vs=>PySem.call f vs):=by
 intro w s₀ s₁ mg mb G Y O o pm cd z dV kV ho hd a1 hD a2 hg args a4 as S a5 a6 a3 a7;obtain rfl:dV= .none:=Dflts.none hD a0;obtain rfl:kV= .none:=Dflts.noKw hD;let{a,vs,ns,rfl,rfl,U,I,Z}:=yF hn S a3;refine enter_call<|codeAny_mono (call w s₀ s₁ mg mb O o pm cd z a vs ns G Y ho (fd_plain hd) a1 a2 U I Z hg) λr s' hq=>?_;let{rfl,h2,h3,h4}:=hq;exact{.inl {.bool true,.bool true,[],M,λ_=>M,.bool true,yK l _,λ_=>{XB,λ_ hm=>(nomatch hm)}},h2,h3,h4}
end Att
namespace L2
open PySem PySem.Spec PyProof.Rows
variable{a f:B'}{X:Cx}{fd:Kt}{base:Heap}{H:Hp}{ns:Kk}{N:Kc}{vs:Kd}{n:Nat}{P:Ki}{A B c:Prop}{K:J5}{sp:Sp}{J:St}{st:Stmt}{qual x:Str}{nx:Le}{g:TG}{tb:TS}{Φ:TS->Prop}{F:TS->TS}{rt:VK}{w:Kj}{YP:World->Heap->Prop}
def yw(h:IntsAre vs ns):HV (ns.map V.int) vs:=by
 induction h with
 |nil=>exact .nil
 |cons n t h z=>exact .cons ⟨t,M⟩ z
def Gd(H:Hp):Prop:=∀b,H b=none\/∃o xs,H b=some (.frz o<|.lst xs)
def AX{mg mb:Kq}{CX:CXT}{k:Nat}{fa:B'}{s₁:J'} 
  (KX:K.In s₁.heap) (Y:s₁.heap.Ns mainGlobals mg) (hb:s₁.heap.Ns builtinsNs mb) (a3:∀x:Str,x≠"__name__"->mb x=bootBuiltins x) (Z:s₁.heap.NoLimit) (hg:s₁.gens= #[])
  (ha:s₁.heap.get? a=some {cls:= .type i1,data:= .seq vs.toArray}) (hi:IntsAre vs ns) (hl:ns.length<=sizeLine) (hr:IB k callerA)
  (F:∀base:Heap,K.In base->base.Ns mainGlobals mg->D3 P w K mg base CX k fa fd [x] sp) (U:∀(s:J')(u:Kb),BindsTo s fd {[u],[]} [(x,u)])
  (a4:∀H:Hp,Gd H->HS K H a (ns.map V.int)->sp [.ref a] H (λv _=>v= .bl true) λ_ _ _=>False)
  (a5:∀H e s',CX [] H s₁ (λ_ _ _=>False) e s'->False):
  codeAny (model P w) callerA (.call (.ref fa) {[.ref a],[]}) (λr s'=>r= .ok (.ret<|.bool true)/\OldK s₁.heap s'.heap/\s'.os=s₁.os/\AllBare s'.gens) s₁:=by
 have rv:=yw hi;have a0:=hi.length;have S:∀H:Hp,Gd H->HS K H a (ns.map V.int)->IR P w H s₁.heap->(∀b,H b≠none->b=a)->(H a≠none->K.lookup a=none)->
   codeAny (model P w) callerA (.call (.ref fa) {[.ref a],[]}) (λr s'=>r= .ok (.ret<|.bool true)/\OldK s₁.heap s'.heap/\s'.os=s₁.os/\AllBare s'.gens) s₁:=by
  intro H hO hS hok hA hK;have I:∀{b:B'}{o:Obj},s₁.heap.get? b=some o->H b=none->(um s₁.heap H).get? b=some o:=λe n=>Bk e n;have a6:∀{b:B'}{o:Obj}{es:Array DictEntry}{ep:Nat},s₁.heap.get? b=some o->o.data= .dict es ep->H b=none:=λ{b o es ep} e d=>by
   cases q:H b with
   |none=>rfl
   |some u=>
    have e':b=a:=hA b (by rw[q];simp);subst e';rw[ha]at e;cases e;have d':Data.seq vs.toArray _=Data.dict es ep:=d;cases d'
  have O:∀{b:B'}{m:Kq},s₁.heap.Ns b m->(um s₁.heap H).Ns b m:=λ{b m} ⟨o,es,ep,e,d,r⟩=>{o,es,ep,I e<|a6 e d,d,r};have a1:K.In (um s₁.heap H):=λb o e=>I (KX b o e) (by
   cases q:H b with
   |none=>rfl
   |some u=>
    have e':b=a:=hA b (by rw[q];simp);subst e';rw[hK (by rw[q];simp)]at e;cases e)
  have hM:Mod K mg (um s₁.heap H):={a1,O Y,{mb,O hb,a3},let⟨mc,h1,h2⟩:=Z;{mc,O h1,h2}};have e0:Ju P w K mg (um s₁.heap H) callerA [] s₁ H:={M,hM,λb o e=>C3 e,Zo<|zd _ _,trivial,λb hb=>Xd (show b∈([]:Km) from hb) (by simp),hok,.of_eq hg};refine codeAny_mono ((F _ a1<|O Y).run callerA [] s₁ H {[.ref a],[]} [.ref a] [.ref a] _ _ hr e0 (U s₁<|.ref a) (.cons M .nil)<|a4 H hO hS) λr s' h=>?_;cases r with
  |error e=>exact(a5 H e s' h).elim
  |ok fl=>
   cases fl with
   |next=>exact False.elim h
   |brk=>exact False.elim h
   |cont=>exact False.elim h
   |ret u=>
    let{v,H',os,bare,un,a2,r',q}:=h;have q':v= .bl true:=q;subst q';obtain rfl:u=Value.bool true:=r';refine{M,OldK.of_keep λb o e=>?_,os,bare};cases q:H b with
    |none=>exact un.keep b o e q (by intro z;exact Xd (show b∈([]:Km) from z)<|by simp)<|by simp
    |some u=>
     rcases hO b with z|⟨ob,xs,z⟩
     .rw[q]at z;cases z
     .have z2:=un.frzs b ob _ z;let{e1,_}:=hok b _ z;let{e2,_}:=a2 b _ z2;rw[e]at e1;cases e1;exact e2
 cases hk:K.lookup a with
 |some o=>
  have e:=KX a o hk;rw[ha]at e;cases e;refine S (λ_=>none) (λ_=> .inl M) (.inr {_,vs.toArray,_,hk,M,M,M,by rwa[Qg,a0],by simpa using rv}) (λb u z=>by have z':(none:Option HO)=some u:=z;cases z') (λb z=>Xd M z) λz=>Xd M z
 |none=>
  refine S (λb=>if b=a then some (.frz {cls:= .type i1,data:= .seq vs.toArray} (.lst<|ns.map V.int))else none) (λb=>?_) (.inl<|.inr {{cls:= .type i1,data:= .seq vs.toArray},Xe M}) (λb u z=>?_) (λb z=>?_) λ_=>hk
  .by_cases hb:b=a
   .exact .inr {_,_,Xe hb}
   .exact .inl<|Xc hb
  .by_cases hb:b=a
   .have z':=(Xe hb).symm.trans z;cases z';subst hb;exact{ha,by rwa[Q0],vs,_,rv,ha}
   .have z':=(Xc hb).symm.trans z;cases z'
  .by_cases hb:b=a
   .exact hb
   .exact Xd (Xc hb) z
def walk_of{l:PySem.W.OpenLaw}{k:Nat}{q:Ki}{loose:Kc}{XP:(Str->Option Value)->Heap->Prop}{d:DefRec}{K:Params->J5}{CX:World->CXT}{sp:World->Sp} 
  (hn:l.most=some n) (U:n<=sizeLine) (Z:d.params.defaults=[]) (hr:IB k callerA)
  (hY:∀(w:World)(h:Heap),YP w h->(K w.params).In h)
  (F:∀(w:Kj)(mg:Kq)(S:B')(h:Heap),(K w.params).In h->h.Ns mainGlobals mg->mg d.name=some (.ref S)->
   ∃fd:FuncData,(∀(s:J')(u:Kb),BindsTo s fd {[u],[]} [(x,u)])/\
    ∀base:Heap,(K w.params).In base->base.Ns mainGlobals mg->D3 l.prog w (K w.params) mg base (CX w) k S fd [x] (sp w))
  (a0:∀(w:Kj)(H:Hp)(a:B')(ns:Kk),ns.length<=n->Gd H->HS (K w.params) H a (ns.map V.int)->sp w [.ref a] H (λv _=>v= .bl true) λ_ _ _=>False)
  (a1:∀(w:Kj)(H:Hp)(s:J')(e:Kb)(s':J'),CX w [] H s (λ_ _ _=>False) e s'->False):
  PySem.W.WalkO q loose XP YP l.row.toRowW d [] (λf vs=>PySem.call f vs):=by
 refine Att.attach_call hn Z λw s₀ s₁ mg mb S o pm cd a3 a vs ns G Y ho hd a4 a2 O I z hg=>?_;have KX:=hY w _ Y;let{fd,hb,hF}:=F w mg S _ KX G.T.g a2;exact AX KX G.T.g G.T.b G.T.builtins G.T.nolimit hg O I (Qw z U) hr hF hb (λH hO hS=>a0 w H a ns z hO hS) λH e s'=>a1 w H s₁ e s'
abbrev IQ:CXT:=λ_ _ _ _ _ _=>False
abbrev E0:XK:=λ_ _ _=>False
def aM:dA IQ X E0:=λ_ _ _ _ _ _ _ h=>h.elim
structure IF(K:J5)(x qual:Str)(st:Stmt)(f:B')(fd:Kt):Prop where
 ex:∃(oc:Kb)(od:Kg)(kV doc pm:Kb)(an:Kg)(cdv ct:Kb)(osl:Lf),
  fd=PySem.W.fnOf x qual (eZ st) (b8 st) (aj st) .none kV doc pm an cdv ct/\K.lookup f=some {oc,od,.func fd,osl}/\PySem.W.codeIn K cdv qual=true
 kp:PySem.W.keepIn K (.ref f)=true
section
variable{mg:Kq}
def IF.ok{ps:Kc}{k:Nat}(F:IF K x qual st f fd)(S:au N ps (aj st))(len:∀vs H Q E,sp vs H Q E->vs.length=ps.length)
  (I:∀(z:Kb)(A:Kp)(outer:Kr)(s:J')(H:Hp)(vs:Ke)(Q:VK)(E:XK),IB k (A.deeper<|envOfC qual (aj st) s.heap.objs.size f z)->sp vs H Q E->
   ∃t,Ij (hI IQ P w K mg base N qual (aj st) f z A outer s H E).nox (b8 st) t/\t {nx:=λ_ H'=>Q .non H',rt:=Q} (start N vs) H):D3 P w K mg base IQ (k+1) f fd ps sp:=by
 let{oc,od,kV,Y,pm,an,z,ct,Z,rfl,lk,O}:=F.ex;refine sY lk O S len λA outer s H vs Q E hr U=>?_;let{t,h,q}:=I z A outer s H vs Q E hr U;exact⟨t,h.nox,q⟩
def FN{Y:Kb}{od S:Kg}{O:Lf}{kV I U z ct:Kb}(l:K.lookup f=some {Y,od,.func<|PySem.W.fnOf x qual (eZ st) (b8 st) (aj st) .none kV I U S z ct,O})
  (c:PySem.W.codeIn K z qual=true) (k:PySem.W.keepIn K (.ref f)=true):IF K x qual st f (PySem.W.fnOf x qual (eZ st) (b8 st) (aj st) .none kV I U S z ct):={⟨Y,od,kV,I,U,S,z,ct,O,M,l,c⟩,k}
end
def jt{A:Kp}{k:Nat}(z:IB k A):A.units+1<cLine:=Zx (Nat.add_le_add_left (by decide:1<=64) _) z.units
def bR(h:n<=1000):n<sizeLine:=Zx h (_)
def pv(i:Nat){x:Str}{pos:Pos}(I:X.N[i]?=some x:=by rfl)(O:KP X.env.scope x:=by and_intros)(hd:(x==(cf:Str))=false:=by decide)
  (z:(x==("__classdict__":Str))=false:=by decide):PE X (.Name x pos) (zY i):=E9 I O hd z
def cX(h:B):if false=true then A else B:=by
 rwa[Xc Q8]
def cT(h:A):if true=true then A else B:=by
 rwa[Xe M]
def dD[Decidable c](h1:c->A)(h2:¬c->B):if c then A else B:=by
 by_cases h:c
 .rw[Xe h];exact h1 h
 .rw[Xc h];exact h2 h
def HU(H H':Hp):Prop:=∀b o,H b=some o->H' b=some o
def HU.refl(H:Hp):HU H H:=λ_ _ h=>h
def HU.trans{H1 H2:Hp}(a:HU H H1)(b:HU H1 H2):HU H H2:=λc o h=>b c o (a c o h)
section
variable{κ:Type}[DecidableEq κ]
def zV{kvs:List (κ×V)}{k:κ}(h:aR kvs k=none):¬k∈kvs.map (·.1):=by
 intro m;let{p,hp,e}:=Qn.mp m;have q:(kvs.any λkv=>decide (kv.1=k))=true:=List.any_eq_true.mpr {p,hp,Xg e};rw[cN,h]at q;exact Xd q<|by simp
def tJ{kvs:List (κ×V)}{k:κ}{v:V}(h:aR kvs k=some v):k∈kvs.map (·.1):=by
 have q:(kvs.any λkv=>decide (kv.1=k))=true:=by
  rw[cN,h]
  all_goals rfl
 let{p,hp,e}:=List.any_eq_true.mp q;exact Qn.mpr {p,hp,Xk e}
theorem xY:∀{l:List κ}{k:κ},l.Nodup->¬k∈l->(l++ [k]).Nodup
 | [],k,_,_=>by simp
 |a::r,k,h,hk=>by
  let{h1,h2}:=QQ.mp h;show(a::(r++ [k])).Nodup;refine QQ.mpr {λm=>?_,xY h2 λm=>hk<|Qa.mpr (Or.inr m)};rcases Qd.mp m with q|q
  .exact h1 q
  .exact hk<|Qa.mpr (Or.inl (Q9.mp q).symm)
def C6{kvs:List (κ×V)}{k:κ}(v:V)(z:(kvs.map (·.1)).Nodup)(h:aR kvs k=none):((bC kvs k v).map (·.1)).Nodup:=by
 rw[vd v h,Qf];exact xY z<|zV h
end
def bF:bootBuiltins "len"=some (.builtin "len"):=by decide+kernel
def a9:bootBuiltins nj=some (.builtin nj):=by decide+kernel
def FY:bootBuiltins "min"=some (.builtin "min"):=by decide+kernel
def ux:bootBuiltins "int"=some (.type "int"):=by decide+kernel
def DH:bootBuiltins "bool"=some (.type "bool"):=by decide+kernel
def bD:bootBuiltins qs=some (.type qs):=by decide+kernel
def FZ:bootBuiltins "max"=some (.builtin "max"):=by decide+kernel
def DG:bootBuiltins "dict"=some (.type "dict"):=by decide+kernel
def ss:bootBuiltins gm=some (.type gm):=by decide+kernel
def Fx:PySem.W.kitOne K (.type "int") (.type "int")=some true:=by kernel_rfl
def Fy:PySem.W.kitOne K (.type "int") (.type "bool")=some false:=by kernel_rfl
def Fz:PySem.W.kitOne K (.type "bool") (.type "int")=some true:=by kernel_rfl
def FA:PySem.W.kitOne K (.type "bool") (.type "bool")=some true:=by kernel_rfl
def Fw:PySem.W.kitOne K (.type "NoneType") (.type "int")=some false:=by kernel_rfl
def Fv:PySem.W.kitOne K (.type qs) (.type "int")=some false:=by kernel_rfl
def oA[Decidable c](hc:c)(h:A):if decide c=true then A else B:=by
 rw[Xg hc];exact cT h
def b6[Decidable c](hc:¬c)(h:B):if decide c=true then A else B:=by
 rw[Xh hc];exact cX h
def Bn{xs:Ke}(Pv:Nat->St->Hp->Prop)(O:Pv 0 J H)(hl:∀i J H,i<=xs.length->Pv i J H->IP K H a xs)
  (hs:∀i x J H,xs[i]?=some x->Pv i J H->g x J H λz H2=>tb {Pv<|i+1,rt,nx,Pv<|i+1} z H2) (hd:∀J H,Pv xs.length J H->nx J H):
  ∃J3:Nat->Nat->St->Hp->Prop,(∃m,J3 0 m J H)/\∀i m J H,J3 i m J H->
   ((KQ K a).stop i H/\nx J H)\/((KQ K a).go i H/\∃N:St->Hp->Prop,(∀I H',N I H'->∃m',m'<m/\J3 (i+1) m' I H')/\∀x H',(KQ K a).yld i H x H'->g x J H' λz H2=>tb ⟨N,rt,nx,N⟩ z H2):=
 Dw (D:={nx,rt,λ_ _=>False,λ_ _=>False}) Pv O hl hs hd
def qH{lo:Int}(Pv:Nat->St->Hp->Prop)(O:Pv 0 J H)
  (hs:∀i J H,i<n->Pv i J H->g (.int<|lo+i) J H λz H2=>tb {Pv<|i+1,rt,nx,Pv<|i+1} z H2) (hd:∀J H,Pv n J H->nx J H):
  ∃J3:Nat->Nat->St->Hp->Prop,(∃m,J3 0 m J H)/\∀i m J H,J3 i m J H->
   ((Jr lo n).stop i H/\nx J H)\/((Jr lo n).go i H/\∃N:St->Hp->Prop,(∀I H',N I H'->∃m',m'<m/\J3 (i+1) m' I H')/\∀x H',(Jr lo n).yld i H x H'->g x J H' λz H2=>tb ⟨N,rt,nx,N⟩ z H2):=
 zh (D:={nx,rt,λ_ _=>False,λ_ _=>False}) Pv O hs hd
def Bv{k:Int}(I:0<=k)(h:k<(ns.length:Int)):JP (ns.map V.int) k=some (.int<|ns.getD k.toNat 0):=by
 let{j,rfl}:=QC I;refine cU ?_;have z:j<ns.length:=();rw[Qp,Qb z,Int.toNat_natCast,Zb,Qb z];rfl
def Bu{k:Int}(h:¬k<(ns.length:Int)):ns.getD k.toNat 0=0:=by
 rw[Zb,List.getElem?_eq_none ()];rfl
def eO:fV X (.builtin nj) (λxs H Q=>∃x n t b,xs=[x,.ty n]/\IH X.K H x t/\PySem.W.kitOne X.K t (.type n)=some b/\Q (.bl b) H):=by
 intro W s J H xs us Q I r h;let{x,n,t,b,rfl,ty,e,q}:=h;let{u,w',rfl,O,z}:=oR r;cases (show w'=Value.type n from z);exact sX I O ty e λtk=>{.bl b,H,I.tok _,M,q}
def IJ{P:Kc}{sc:Scope}(a:sc.kind= .function:=by rfl)(b:sc.isCoroutine=false:=by rfl)(c:sc.isGenerator=false:=by rfl)(d:N.Nodup:=by decide+kernel)(e:N.take P.length=P:=by rfl)(f:∀x∈P,sc.names.lookup x=some .local\/sc.names.lookup x=some .cell:=by decide+kernel)(g:∀y∈sc.names,y.2≠ .free:=by decide+kernel):au N P sc:=⟨a,b,c,d,e,f,g⟩
def IB.mo{j k:Nat}{A:Kp}(r:IB k A)(h:j<=k:=by decide):IB j A:=r.mono h
def IF.okl{mg:Kq}{ps:Kc}{k:Nat}(F:IF K x qual st f fd)(S:au N ps (aj st))
  (I:∀(z:Kb)(A:Kp)(outer:Kr)(s:J')(H:Hp)(vs:Ke)(Q:VK)(E:XK),IB k (A.deeper<|envOfC qual (aj st) s.heap.objs.size f z)->sp vs H Q E->
   N.Nodup->let X:=(hI IQ P w K mg base N qual (aj st) f z A outer s H E).nox
   ∃t,Ij X (b8 st) t/\t {nx:=λ_ H'=>Q .non H',rt:=Q} (start N vs) H)
  (len:∀vs H Q E,sp vs H Q E->vs.length=ps.length:=by intro _ _ _ _ h;repeat (first|(let{rfl,_}:=h;exact M)|let{_,h}:=h)):D3 P w K mg base IQ (k+1) f fd ps sp:=F.ok S len λz A outer s H vs Q E O h=>I z A outer s H vs Q E O h S.nd
section
variable{pos:Pos}
abbrev F3{X:Cx}:= @pv X 0
abbrev HW{X:Cx}:= @pv X 1
abbrev IA{X:Cx}:= @pv X 2
abbrev IM{X:Cx}:= @pv X 3
abbrev Je{X:Cx}:= @pv X 4
abbrev pv5{X:Cx}:= @pv X 5
def pgn(i:Nat)(z:X.N.Nodup:=by assumption)(hi:X.N[i]?=some x:=by rfl)(hx:Loc X.env.scope x:=by exact Or.inl M)(I:X.fn x=true\/X.env.scope.names.lookup x=some .local:=by ac_rfl):PG X (.Name x pos) (mm i):=xQ z hi hx I
def IL(i:Nat){e:Expr}{te:TE}{pos':Pos}(he:PE X e te)(z:X.N.Nodup:=by assumption)(hi:X.N[i]?=some x:=by rfl)(hx:Loc X.env.scope x:=by exact Or.inl M)(hs:swapsWith e (some<|.Name x pos') pos.line X.env=pure false:=by rfl)(I:X.fn x=true\/X.env.scope.names.lookup x=some .local:=by ac_rfl):PS X (.Assign [.Name x pos'] e pos) (Aa te<|mm i):=pY z hi hx he hs I
end
section
variable{rest A B:Kz}{t:TS}
def aC(h:PS X st t)(k:Φ t):∃v,Ij X [st] v/\Φ v:={_,ax h,k}
def ai(h:PS X st t)(k:∃u,Ij X rest u/\(let B:=u;Φ (uO t B))):∃v,Ij X (st::rest) v/\Φ v:=by
 let{u,hu,k}:=k;exact{_,ii h hu,k}
def Ha(z:∀{x},Ij X A x->PS X st (F x))(k:∃a,Ij X A a/\(let b:=a;Φ (F b))):∃v,Ij X [st] v/\Φ v:=by
 let{a,ha,k}:=k;exact{_,ax<|z ha,k}
def cm(z:∀{x},Ij X A x->PS X st (F x))(k:∃a,Ij X A a/\(let b:=a;∃u,Ij X rest u/\(let B:=u;Φ (uO (F b) B)))):∃v,Ij X (st::rest) v/\Φ v:=by
 let{a,ha,u,hu,k}:=k;exact{_,ii (z ha) hu,k}
def G9{F:TS->TS->TS}(z:∀{x y},Ij X A x->Ij X B y->PS X st (F x y))(k:∃a,Ij X A a/\(let b:=a;∃c,Ij X B c/\(let d:=c;Φ (F b d)))):∃v,Ij X [st] v/\Φ v:=by
 let{a,ha,c,hc,k}:=k;exact{_,ax<|z ha hc,k}
end
end L2
namespace SW
end SW
namespace L2
open PySem PySem.Spec PyProof.Rows
abbrev _root_.Kh:=Addr->Prop
variable{C T f:B'}{old:Kh}{A:Kp}{g:Array GenState}{vs:Ko}{ab:Bool}{d:Drawn}{fd:Kt}{base h:Heap}{φ:K'}{H:Hp}{l:Km}{outer:Kr}{N ps sn:Kc}{bm sub us:Kd}{M':Model}{t:Nat}{dd od:Kg}{col:Option Bool}{os:OsState}{P prog:Ki}{K:J5}{R:Result->Shared->Prop}{s s':J'}{sp:Sp}{qual:Str}{Q:Ky}{e:Kb}{E J3:Kn}{w:Kj}
abbrev aw(C:B')(od:Kg)(vs:Ko):Obj:={cls:= .ref C,dict:=od,data:= .fields vs}
def Iz(h:Heap)(e:B')(vs:Ko)(T:B')(fl:Kb):Prop:=
 vs[1]?=some (.ref T)/\T≠e/\∃oT ts,h.get? T=some oT/\oT.data= .fields ts/\ts[3]?=some fl
structure IT(l:Km)(e:B')(old:Kh)(h h':Heap):Prop where
 keep:∀b o,h.get? b=some o->b∉l->b≠e->¬old b->h'.get? b=some o
 slot:∀b o,h.get? b=some o->b∈l->b≠e->¬old b->∃sl,h'.get? b=some {o with slots:=sl}
 there:∀b o,h.get? b=some o->∃o',h'.get? b=some o'
section
variable{env:Env}{L e:B'}
def FO(hl:s.heap.FunFrames base (env::outer))(he:s.heap.get? e=some (aw C od vs)):e∉JM (env::outer):=λz=>by
 let{_,o,I,O}:=hl.mem z;cases he.symm.trans I;exact O vs M
def qv{I:Kb}{Z:Bool}(a0:A.frames=some (env::outer))(hl:s.heap.FunFrames base (env::outer))(hf:env.frame=some L)(he:s.heap.get? e=some (aw C od vs))(hsz:1<vs.size)
  (q:∀h' T O,IT (JM (env::outer)) e (λ_=>False) s.heap h'->h'.get? e=some (aw C od O)->(O.size=vs.size/\O[2]?=vs[2]?)->s.heap.objs.size<=T->Iz h' e O T (rawInt L)->Q Unit.unit {s with heap:=h'}):
  wpAny M' A (do let a<-frameOf env;let pl<-entryPlaceOf L Z;let b<-EntryCells.newEntry I a .none (rawInt L) .none pl;setField (.ref e) 1 b) Q E s:=by
 have nf:e∉(env::outer).filterMap (·.frame):=FO hl he;refine Xa<|wpAny_frameOf_fun a0 hl hf λh1 S=>?_;refine Xa<|wpAny_entryPlaceOf λpl ip=>?_;unfold EntryCells.newEntry newFields;refine Xa<|wpAny_newObj_type ?_ (ip.sizeOk5 _ _ _ _ _);have e1:h1.get? e=some (aw C od vs):=(S.2.1 e nf).trans he;have big:3<([I,Value.ref L,.none,rawInt L,.none]++(if pl.isEmpty then List.replicate 6 Value.none else pl)).toArray.size:=by
  simp only[Qg,Q5,Q3,Qz];lia
 have U:([I,Value.ref L,.none,rawInt L,.none]++(if pl.isEmpty then List.replicate 6 Value.none else pl)).toArray[3]?=some (rawInt L):=by simp
 generalize ([I,Value.ref L,.none,rawInt L,.none]++(if pl.isEmpty then List.replicate 6 Value.none else pl)).toArray=ts at big U;generalize eo:({cls:= .type "traceback",dict:=none,data:= .fields ts}:Obj)=oT;have e2:(h1.push oT).get? e=some (aw C od vs):=Xb _ e1;have ne:h1.objs.size≠e:=X0 (Xi e1);refine wpAny_setField e2 M hsz<|q _ h1.objs.size (vs.setIfInBounds 1<|.ref h1.objs.size) {λb o Y g2 g3 _=>?_,λb o Y _ g3 _=>?_,λb o Y=>?_} ?_ {Array.size_setIfInBounds,by simp} (Zo S.1.symm) {by simp[hsz],ne,oT,ts,?_,by rw[<-eo],U}
 .rw[Xm _ _ (Ne.symm g3)];exact Xb _<|(S.2.1 b g2).trans Y
 .let{sl,r}:=S.2.2 b o Y;exact{sl,(Xm _ _<|Ne.symm g3).trans<|Xb _ r}
 .by_cases z:b=e
  .subst z;exact{_,Heap.get?_update_self _ e2 M}
  .let{sl,r}:=S.2.2 b o Y;exact{_,(Xm _ _<|Ne.symm z).trans<|Xb _ r}
 .exact Heap.get?_update_self _ e2 M
 .rw[Xm _ _ (Ne.symm ne),<-eo];exact Xl h1 M
def lh(I:A.frames=some (env::outer))(hl:s.heap.FunFrames base (env::outer))(O:env.frame=some L)(he:s.heap.get? e=some (aw C od vs))(h1:vs[1]?=some .none)
  (q:∀h' T z,IT (JM (env::outer)) e (λ_=>False) s.heap h'->h'.get? e=some (aw C od z)->(z.size=vs.size/\z[2]?=vs[2]?)->s.heap.objs.size<=T->Iz h' e z T (rawInt L)->Q Unit.unit {s with heap:=h'}):
  wpAny M' A (noteFrame (.ref e) env) Q E s:=by
 unfold noteFrame;simp only[O];refine Xa<|wpAny_field he M h1 ?_;rw[Xc (_)];exact qv I hl O he (QM.mp h1).1 q
def yT(Z:A.frames=some (env::outer))(hl:s.heap.FunFrames base (env::outer))(hf:env.frame=some L)(he:s.heap.get? e=some (aw C od vs))(tr:Iz s.heap e vs T .none)
  (q:∀h' T' I,IT (JM (env::outer)) e (· =T) s.heap h'->h'.get? e=some (aw C od I)->(I.size=vs.size/\I[2]?=vs[2]?)->s.heap.objs.size<=T'->Iz h' e I T' (rawInt L)->Q Unit.unit {s with heap:=h'}):
  wpAny M' A (noteFrame (.ref e) env) Q E s:=by
 let{h1,ne,oT,ts,Y,hd,h3}:=tr;unfold noteFrame;simp only[hf];refine Xa<|wpAny_field he M h1 ?_;rw[Xe (show(Value.ref T !=Value.none)=true by simp)];refine Xa<|wpAny_field Y hd h3 ?_;rw[Xc (show ¬(Value.none==rawInt L)=true by simp[rawInt])];have O:∀b,b≠T->(s.heap.update T (Obj.mapFields (·.setIfInBounds 3 Value.none))).get? b=s.heap.get? b:=λb z=>Xm _ _ (Ne.symm z);have nofr:∀b o,s.heap.get? b=some o->(∀ws,o.data≠ .fields ws)->b≠T:=λb o S U z=>by
  subst z;cases Y.symm.trans S;exact U ts hd
 refine Xa<|wpAny_setField Y hd (QM.mp h3).1 ?_;refine qv Z (hl.of_keeps λb o S U=>{o,(O b<|nofr b o S U).trans S,M}) hf ((O e<|Ne.symm ne).trans he) (QM.mp h1).1 λh' T' I n S U g3 g4=>?_;refine q h' T' I {λb o k1 k2 k3 k4=>n.keep b o ((O b k4).trans k1) k2 k3 id,λb o k1 k2 k3 k4=>n.slot b o ((O b k4).trans k1) k2 k3 id,λb o k1=>?_} S U (by rw[Heap.size_after_update]at g3;exact g3) g4;by_cases z:b=T
 .subst z;exact n.there b _<|Heap.get?_update_self _ Y (Obj.isFreed_of_fields<|Obj.data_mapFields hd _)
 .exact n.there b o<|(O b z).trans k1
def fF{l:Km}{fl:Kb}(he:s.heap.get? e=some (aw C od vs))(tr:Iz s.heap e vs T fl)
  (q:∀h',(∀b o,b≠T->s.heap.get? b=some o->h'.get? b=some o)->h'.get? e=some (aw C od vs)->(∃o,h'.get? T=some o)->h'.objs.size=s.heap.objs.size->Iz h' e vs T .none->Q Unit.unit {s with heap:=h'}):
  wpAny M' A (setFlight (.ref e) none) Q E s:=by
 let{h1,ne,U,ts,O,hd,S}:=tr;have big:3<ts.size:=(QM.mp S).1;unfold setFlight;refine Xa<|wpAny_field he M h1 ?_;rw[Xe (show(Value.ref T !=Value.none)=true by simp)];have I:∀b,b≠T->(s.heap.update T (Obj.mapFields (·.setIfInBounds 3 ((none:Kg).elim Value.none λf=>rawInt f)))).get? b=s.heap.get? b:=λb z=>Xm _ _ (Ne.symm z);have new:=Heap.get?_update_self (Obj.mapFields (·.setIfInBounds 3 ((none:Kg).elim Value.none λf=>rawInt f))) O (Obj.isFreed_of_fields<|Obj.data_mapFields hd _);exact wpAny_setField O hd big<|q _ (λb o z g=>(I b z).trans g) ((I e<|Ne.symm ne).trans he) {_,new} (Heap.size_after_update ..) {h1,ne,_,_,new,Obj.data_mapFields hd _,by simp[big]}
end
def XN(e C:B')(od:Kg):HO:= .ext λh=>∃t,h.get? e=some (aw C od #[.ref t,.none,.none,.none,.bool false,.none])
noncomputable def XO(e C:B')(od:Kg):HO:= .ext λh=>∃vs,h.get? e=some (aw C od vs)/\1<vs.size
section
variable{h':Heap}{e:B'}
def zS{t:B'}(k:h.get? e=some (aw C od #[.ref t,.none,.none,.none,.bool false,.none])):HZ P w H h e (XN e C od):=
 {⟨t,k⟩,{_,k},λ_ _ zz st=>by let{t,k}:=zz;exact{t,st _ k}}
def sG(k:h.get? e=some (aw C od vs))(z:1<vs.size):HZ P w H h e (XO e C od):=
 {⟨vs,k,z⟩,{_,k},λ_ _ zz st=>by let{vs,k,z}:=zz;exact{vs,st _ k,z}}
def oQ(ok:IR P w H h)(q:H e=some (XN e C od)):∃t,h.get? e=some (aw C od #[.ref t,.none,.none,.none,.bool false,.none]):=(ok e _ q).1
def xD(ok:IR P w H h)(q:H e=some (XO e C od)):∃vs,h.get? e=some (aw C od vs)/\1<vs.size:=(ok e _ q).1
def IT.hok(n:IT l e old h h')(ok:IR P w H h)(hl:∀b∈l,H b=none)(O:∀b,old b->H b=none)(he:H e=some (.ext φ))
  (new:h'.get? e=some (aw C od vs)) (z:1<vs.size):IR P w (upd H e<|XO e C od) h':=λb u q=>by
 by_cases hb:b=e
 .subst hb;rw[BB]at q;cases q;exact sG new z
 .rw[ah hb]at q;have I:∀c v,H c=some v->c≠e->∀o,h.get? c=some o->h'.get? c=some o:=λc v r ne o g=>
   n.keep c o g (λm=>by rw[hl c m]at r;cases r) ne λm=>by rw[O c m]at r;cases r
  refine(ok b u q).stay (λc v hc r=>?_) (λc r=>?_) λc xs r=>?_
  .rcases hc with rfl|hc
   .exact I _ _ q hb v r
   .exact I _ _ hc (λm=>by rw[m,he]at hc;cases hc) v r
  .rwa[ah (λm=>by rw[m,he]at r;cases r)]
  .rwa[ah (λm=>by rw[m,he]at r;cases r)]
def IT.un{ch:Km}{o':HO}(n:IT l e old h h')(hc:∀b,old b->b∈ch)(he:H e=some (.ext φ)):Un l ch H (upd H e o') h h':=by
 have ne:∀b,H b=none->b≠e:=λb r z=>by rw[z,he]at r;cases r
 refine{λb o g r m k=>n.keep b o g m (ne b r) λz=>k<|hc b z,λb o g r m k=>n.slot b o g m (ne b r) λz=>k<|hc b z,λb o _ r _=>by rwa[ah (ne b r)],λb o g _=>n.there b o g,λb xs r=>?_,λb o u r=>?_,λb ps r=>{#[],?_}}
 .rwa[ah (λm=>by rw[m,he]at r;cases r)]
 .rwa[ah (λm=>by rw[m,he]at r;cases r)]
 .rw[ah (λm=>by rw[m,he]at r;cases r),r];simp
end
def JV(P:Ki)(w:Kj):CXT:=λouter H s E e s'=>∃(ea C:B')(od:Kg)(vs:Ko)(T:B')(H':Hp),
 e= .ref ea/\s'.os=s.os/\AllBare s'.gens/\Un (JM outer) [] H H' s.heap s'.heap/\IR P w H' s'.heap/\H' ea=some (XO ea C od)/\s'.heap.get? ea=some (aw C od vs)/\1<vs.size/\
 Iz s'.heap ea vs T .none/\H' T=none/\s.heap.objs.size<=T/\E (.ref ea) od H'
def lF{a:B'}{o:HO}(h:H a=some o):upd H a o=H:=by
 funext b;by_cases z:b=a
 .subst z;rw[BB,h]
 .rw[ah z]
def yt(X:Cx)(E:St->XK)(e:Kb)(s:J'):Prop:=∃(W:Kf)(J:St)(H:Hp)(ea C:B')(od:Kg)(vs:Ko)(φ:K'),
 e= .ref ea/\Inv X W J H s/\H ea=some (.ext φ)/\s.heap.get? ea=some (aw C od vs)/\1<vs.size/\(vs[1]?=some .none\/∃T,Iz s.heap ea vs T .none/\cK X W H T)/\E J (.ref ea) od (upd H ea<|XO ea C od)
section
variable{X:Cx}{W:Kf}{J:St}
def eC{ea:B'}(I:Inv X W J H s)(S:X.stack=X.env::X.outer)(hf:X.env.frame=some X.env.locals)(hA:A.frames=some X.stack)
  (hx:H ea=some (.ext φ)) (hr:s.heap.get? ea=some (aw C od vs)) (hz:1<vs.size) (ht:vs[1]?=some .none\/(∃T,Iz s.heap ea vs T .none/\cK X W H T)\/∃T,Iz s.heap ea vs T (rawInt X.env.locals)/\cK X W H T)
  (q:∀s' O T,Inv X W J (upd H ea<|XO ea C od) s'->s'.heap.get? ea=some (aw C od O)->1<O.size->Iz s'.heap ea O T .none->cK X W (upd H ea<|XO ea C od) T->O[2]?=vs[2]?->Q Unit.unit s'):
  wpAny M' A (noteFrame (.ref ea) X.env) (λ_ s1=>wpAny M' A (setFlight (.ref ea) none) Q J3 s1) J3 s:=by
 rw[S]at hA;have hl:s.heap.FunFrames X.base (X.env::X.outer):=S▸I.stack;have U:∀b∈JM (X.env::X.outer),H b=none:=S▸I.stkFree;have a0:∀(old:Kh)(ch:Km)(h1:Heap)(T':B')(O:Ko),(∀b,old b↔b∈ch)->(∀b∈ch,cK X W H b)->IT (JM (X.env::X.outer)) ea old s.heap h1->h1.get? ea=some (aw C od O)->(O.size=vs.size/\O[2]?=vs[2]?)->
   s.heap.objs.size<=T'->Iz h1 ea O T' (rawInt X.env.locals)->wpAny M' A (setFlight (.ref ea) none) Q J3 {s with heap:=h1}:=by
  intro old ch h1 T' O a1 a2 n g1 Y Z g4;refine fF (l:=[]) (s:={s with heap:=h1}) g1 g4 λh2 k1 k2 k3 k4 k5=>?_;have nT:∀b o,s.heap.get? b=some o->b≠T':=λb o g z=>Xd (Xi g) (ZI.mpr<|z▸Z);have n2:IT (JM (X.env::X.outer)) ea old s.heap h2:={λb o r1 r2 r3 r4=>k1 b o (nT b o r1)<|n.keep b o r1 r2 r3 r4,λb o r1 r2 r3 r4=>by
    let{sl,r}:=n.slot b o r1 r2 r3 r4;exact{sl,k1 b _ (nT b o r1) r},λb o r1=>by
    let{o',r}:=n.there b o r1;exact{o',k1 b _ (nT b o r1) r}}
  have a3:IR X.prog X.w (upd H ea<|XO ea C od) h2:=n2.hok I.hok U (λb z=>(a2 b<|(a1 b).mp z).1) hx k2 (Y.1▸hz);have a4:Un (JM X.stack) ch H (upd H ea<|XO ea C od) s.heap h2:=by
   rw[S];exact n2.un (λb z=>(a1 b).mp z) hx
  have I2:Inv X W J (upd H ea<|XO ea C od) {s with heap:=h2}:=I.call' (s':={s with heap:=h2}) M a4 a3 I.bare λb hb=>by
   let{z1,z2,z3,z4,z5,z6}:=a2 b hb;exact⟨z4,z2,z5,z6⟩
  refine q _ O T' I2 k2 (Y.1▸hz) k5 (I.fpOk Z ?_) Y.2;have neT:T'≠ea:=Ne.symm (nT ea _ hr);rw[ah neT];exact I.hok.fresh Z
 rcases ht with h1|⟨T,tr,fp⟩|⟨T,tr,fp⟩
 .exact lh hA hl hf hr h1 λh1 T' O n g1 Y Z g4=>a0 (λ_=>False) [] h1 T' O (λb=>by simp) (λb z=>nomatch z) n g1 Y Z g4
 .exact yT hA hl hf hr tr λh1 T' O n g1 Y Z g4=>a0 (· =T) [T] h1 T' O (λb=>by simp) (λb z=>by rwa[Q9.mp z]) n g1 Y Z g4
 .let{h1,ne,oT,ts,hT,hd,h3}:=id tr;refine wpAny_noteFrame_inFlight hf hr M h1 hT hd h3 ?_;refine fF (l:=[]) hr tr λh' k1 k2 k3 k4 k5=>?_;have I1:Inv X W J H {s with heap:=h'}:=I.turned (t':=s.toks) (it:=T) k1 fp.1 fp.2.1 fp.2.2.2.1 fp.2.2.2.2.1 fp.2.2.2.2.2;have I2:Inv X W J (upd H ea<|XO ea C od) {s with heap:=h'}:=I1.write (x:=ea) (e:=ea) (t':=s.toks) (by rw[hx];exact Xn) (.inl M) (λ_ _ _ e=>e) {_,k2} (sG k2 hz);exact q _ vs T I2 k2 hz k5 {by rw[ah ne];exact fp.1,fp.2.1,fp.2.2.1,fp.2.2.2.1,fp.2.2.2.2.1,fp.2.2.2.2.2} M
def sR{ea:B'}(I:Inv X W J H s)(S:X.stack=X.env::X.outer)(U:X.env.frame=some X.env.locals)(Y:A.frames=some X.stack)
  (hx:H ea=some (.ext φ)) (Z:s.heap.get? ea=some (aw C od vs)) (hz:1<vs.size) (ht:vs[1]?=some .none\/∃T,Iz s.heap ea vs T .none/\cK X W H T)
  (q:∀s' O T,Inv X W J (upd H ea<|XO ea C od) s'->s'.heap.get? ea=some (aw C od O)->1<O.size->Iz s'.heap ea O T .none->cK X W (upd H ea<|XO ea C od) T->Q Unit.unit s'):
  wpAny M' A (noteFrame (.ref ea) X.env) (λ_ s1=>wpAny M' A (setFlight (.ref ea) none) Q J3 s1) J3 s:=
 eC I S U Y hx Z hz (ht.imp id .inl) λs' O T I' r z t f _=>q s' O T I' r z t f
def Inv.thrown{E:XK}(I:Inv X W J H s)(h:JV X.prog X.w X.stack H s E e s'):∃(ea C:B')(od:Kg)(vs:Ko)(H':Hp),e= .ref ea/\Inv X W J H' s'/\H' ea=some (XO ea C od)/\
  s'.heap.get? ea=some (aw C od vs)/\1<vs.size/\(∃T,Iz s'.heap ea vs T .none/\cK X W H' T)/\E (.ref ea) od H':=by
 let{ea,C,od,vs,T,H',rfl,os,bare,un,hok,hx,O,hz,tr,S,U,q}:=h;exact{ea,C,od,vs,H',M,I.call' os un hok bare λb z=>Xd z (by simp),hx,O,hz,{T,tr,I.fpOk U S},q}
def Inv.flies{E:XK}{F:St->XK}(I:Inv X W J H s)(h:JV X.prog X.w X.stack H s E e s')(k:∀v od H',E v od H'->F J v od H'):yt X F e s':=by
 let{ea,C,od,vs,H',rfl,z,hx,O,hz,S,q}:=I.thrown h;exact{W,J,H',ea,C,od,vs,_,M,z,hx,O,hz,.inr S,by rw[lF hx];exact k _ _ _ q}
end
section
variable{mg:Kq}{scope:Scope}{cd:Kb}{E:XK}
def vC(h:yt (hI (JV P w) P w K mg base N qual scope f cd A outer s H E) (λ_=>E) e s'):(hI (JV P w) P w K mg base N qual scope f cd A outer s H E).xe e s':=by
 let{W,J,H1,ea,C,od,vs,φ,rfl,I,hx,U,hz,Y,q}:=h;show wpAny _ _ (leaving _<|.ref ea) _ _ s';unfold leaving;refine Xa<|sR I M M I.ok.frames hx U hz Y λs2 vs2 T O Z z2 t2 S=>?_;refine{ea,C,od,vs2,T,_,M,O.os,O.bare,O.base,O.hok,BB,Z,z2,t2,S.1,?_,q};rcases S.2.2.2.1 with z|z
 .exact Xd (show T∈([]:Km) from z)<|by simp
 .exact z
def lU:dA (JV P w) (hI (JV P w) P w K mg base N qual scope f cd A outer s H E) E:=
 λ_ _ _ _ _ _ I h=>vC (I.flies h λ_ _ _ q=>q)
def IF.okX{x:Str}{st:Stmt}{k:Nat}(F:IF K x qual st f fd)(S:au N ps (aj st))(len:∀vs H Q E,sp vs H Q E->vs.length=ps.length)
  (I:∀(z:Kb)(A:Kp)(outer:Kr)(s:J')(H:Hp)(vs:Ke)(Q:VK)(E:XK),IB k (A.deeper<|envOfC qual (aj st) s.heap.objs.size f z)->sp vs H Q E->
   ∃t,Ij (hI (JV P w) P w K mg base N qual (aj st) f z A outer s H E) (b8 st) t/\t {nx:=λ_ H'=>Q .non H',rt:=Q} (start N vs) H):D3 P w K mg base (JV P w) (k+1) f fd ps sp:=by
 let{oc,od,kV,Y,pm,an,z,ct,Z,rfl,lk,O}:=F.ex;exact sY lk O S len λA outer s H vs Q E hr U=>I z A outer s H vs Q E hr U
def D3.up{k:Nat}(F:D3 P w K mg base IQ k f fd ps sp):D3 P w K mg base (JV P w) k f fd ps sp:=
 {F.len,λA outer s H args us vs Q E I he hb O hs=>codeAny_mono (F.run A outer s H args us vs Q E I he hb O hs) λr s' z=>by
  cases r with
  |ok fl=>cases fl<;>exact z
  |error e=>exact z.elim}
end
abbrev JH:List Value:=[.type gm,.type "Exception",.type ff,.type "object"]
def HY(bm:Kd):Prop:=∃ups:List Addr,bm=ups.map Value.ref++JH
def HY.typ(B:HY bm)(T:String):bm.contains (.type T)=JH.contains (.type T):=by
 let{z,rfl}:=B
 induction z with
 |nil=>rfl
 |cons a r I=>rw[Qm,ZE,Qo,I];rfl
def HY.val(B:HY bm):bm.contains (.type gm)=true:=(B.typ _).trans ∅
def HY.bas(B:HY bm):bm.contains (.type ff)=true:=(B.typ _).trans ∅
def HY.att(B:HY bm):bm.contains (.type "AttributeError")=false:=(B.typ _).trans ∅
def HY.nam(B:HY bm):bm.contains (.type "NameError")=false:=(B.typ _).trans ∅
def HY.obj(B:HY bm):bm.contains (.type "object")=true:=(B.typ _).trans ∅
def HY.pass(B:HY bm)(self:Kb):refuseLoop self "__setattr__" bm=pure Unit.unit:=by
 let{z,rfl}:=B
 induction z with
 |nil=>exact PySem.F.store_ValueError.passes self
 |cons a r I=>rw[Qm,ZE,refuseLoop_ref];exact I
structure I0(K:J5)(C:B')(bm:Kd):Prop where
 ob:∃nm q N bs sn sub ab col dd k0 k1 k2 k3 k5,K.lookup C=some (excClassObj nm q C N bs bm true sn sub ab col dd k0 k1 k2 k3 k5 cb)
 mro:HY bm
 kp:PySem.W.keepIn K (.ref C)=true
 ga:PySem.W.findIn K (.ref C) oh=some (some<|.builtin dv)
 gn:PySem.W.findIn K (.ref C) "__getattr__"=some none
 sa:PySem.W.findIn K (.ref C) "__setattr__"=some (some<|.builtin "object.__setattr__")
section
variable{nm q:Str}{N:B'}{bs:Kd}{k0 k1 k2 k3 k5:Lb}
abbrev cS(C t:B'):Obj:=aw C none #[.ref t,.none,.none,.none,.bool false,.none]
abbrev iG(us:Kd):Obj:={cls:= .type cs,data:= .seq us.toArray}
def Dz{rest:Kd}(B:HY bm)(z:h.get? C=some (excClassObj nm q C N bs bm true sn sub ab col dd k0 k1 k2 k3 k5 cb))(hz:rest.length<=sizeLine)
  (hq:R (.ok<|.ret<|.ref<|h.objs.size+1) {(h.push<|iG rest).push<|cS C h.objs.size,g,d,t,os}):
  codeAny (model prog w) A (.call (.builtin cb) {.ref C::rest,[]}) R ⟨h,g,d,t,os⟩:=by
 have F:=Zy;have O:(Value.ref C::bm).contains (.type gm)=true:=by rw[Qo,B.val,QP]
 have c2:(Value.ref C::bm).contains (.type "AttributeError")=false:=by rw[Qo,B.att];rfl
 have S:(Value.ref C::bm).contains (.type "NameError")=false:=by rw[Qo,B.nam];rfl
 have st:=F.noStar;have U:=F.ends;refine codeAny_call_builtin_code (Code.quiet_builtin _ F.quiet) ?_;simp only[checkBuiltinCall,F.newKind,F.newSplit,F.newRow]
 repeat (first|refine wpAny_loadPart_at z ?_|(refine wpAny_isSubtype_exc z ?_;rw[O])|refine wpAny_staticBase_exc z ?_|refine wpAny_madeBy_exc z ?_|simp only[bne_self_eq_false,ZX,if_false]|wp_step)
 refine codeAny_builtinAt F.entry ?_;unfold Builtin.«BaseException.__new__»;refine PySem.wpAt_bind ?_;show PySem.wpAt _ _ _ (stack>>=_) _ _ _;refine PySem.wpAt_bind (PySem.wpAt_stack λp I=>PySem.wpAt_of_wpAny ?_)
 wp_walk
 refine PySem.wpAt_of_wpAny ?_;rw[F.owner]
 repeat (first|with_reducible refine wpAny_madeHere_exc F.canon z ?_|with_reducible refine wpAny_loadPart_at z ?_|(with_reducible refine wpAny_isSubtype_exc z ?_;first|rw[O]|rw[c2]|rw[S])|wp_step)
 show R _ _;rwa[Heap.size_push]
open PySem.W in
def vN{O:Kb}(X:K.In h)(Y:I0 K C bm)(hz:us.length<=sizeLine)(hi:findIn K (.ref C) cC=some (some O))(Z:∀self,Looks (model prog w) h (bindSpecial O self) (O,[self]))
  (hq:codeAny (model prog w) (A.under<|.builtin j0 {.ref C::us,[]}) (.call O {.ref (h.objs.size+1)::us,[]}) (InitBack (h.objs.size+1) R) {(h.push<|iG us).push<|cS C h.objs.size,g,d,t,os}):
  codeAny (model prog w) A (.call (.ref C) {us,[]}) R ⟨h,g,d,t,os⟩:=by
 let{nm,q,N,bs,sn,sub,ab,col,dd,k0,k1,k2,k3,k5,hK}:=Y.ob;have I:=X _ _ hK;have B:=Y.mro;have U:(Value.ref C::bm).contains (.ref C)=true:=by simp
 have hl:=looks_findIn (M:=model prog w) X hi;have f1:=tc_lookup;have f2:=tc_bind (.ref C);have hT:(⟨h,g,d,t,os⟩:J').TypeIs (.ref C) "type":={_,I,M};refine codeAny_of_tree ?_;show wpAny _ _ (callAny (.ref C) _) _ _ _
 repeat (any_goals (first|assumption|with_reducible refine wpAny_loadPart_at I ?_|wp_step))
 refine{M,?_};refine codeAny_call_builtin_at (Code.quiet_builtin _ ∅) entry_typeCall (wpAny_check_type_call_sub I ?_)
 repeat (first|with_reducible refine wpAny_loadPart_at I ?_|with_reducible refine wpAny_madeBy_exc I ?_|wp_step)
 refine Dz B I hz ?_;show wpAny _ (A.under<|.builtin j0 {.ref C::us,[]}) _ _ _ {(h.push<|iG us).push<|cS C h.objs.size,g,d,t,os};have k:∀b o,h.get? b=some o->((h.push<|iG us).push<|cS C h.objs.size).get? b=some o:=λb o e=>Xb _ (Xb _ e);have he:((h.push<|iG us).push<|cS C h.objs.size).get? (h.objs.size+1)=some (cS C h.objs.size):=by heap_get
 have S:=k _ _ I;have a0:=hl.keeps k;have fb:=(Z<|.ref<|h.objs.size+1).keeps k;have t1:Looks (model prog w) ((h.push<|iG us).push<|cS C h.objs.size) (typeOf<|.ref<|h.objs.size+1) (.ref C):=(Looks.ld he).andThen .now;have s1:Looks (model prog w) ((h.push<|iG us).push<|cS C h.objs.size) (isSubtype (.ref C)<|.ref C) true:=λA' Q' E' s' kk z=>by
  let{hp,g',d',t',a1}:=s';exact wpAny_isSubtype_exc (kk _ _ S)<|by rwa[U]
 unfold isInstance callSpecial? specialOf
 repeat (first|simp only[U,Bool.not_true,ZX,if_false]|with_reducible refine wpAny_call ?_|lk)
 refine codeAny_mono hq λr s' z=>?_;rcases r with e|(v|_|_|_)<;>first|exact z|exact z.elim|skip
 let{rfl,z}:=z;exact Xj<|Xj z
end
section
variable{nm q:Str}{N:B'}{bs:Kd}{k0 k1 k2 k3 k5:Lb}
def vO{e:B'}{t0:B'}(B:HY bm)(O:h.get? C=some (excClassObj nm q C N bs bm true sn sub ab col dd k0 k1 k2 k3 k5 cb))
  (he:h.get? e=some (aw C od #[.ref t0,.none,.none,.none,.bool false,.none])) (hz:us.length<=sizeLine)
  (hq:∀h',(∀b o,b≠e->h.get? b=some o->h'.get? b=some o)->h'.get? e=some (aw C od #[.ref h.objs.size,.none,.none,.none,.bool false,.none])->R (.ok<|.ret .none) ⟨h',g,d,t,os⟩):
  codeAny (model prog w) A (.call (.builtin eN) {.ref e::us,[]}) R ⟨h,g,d,t,os⟩:=by
 have F:=Zy;have S:(Value.ref C::bm).contains (.type gm)=true:=by rw[Qo,B.val,QP]
 have st:=F.noStar;refine codeAny_call_builtin F.init.plain F.initEntry ?_;simp only[checkBuiltinCall,F.initKind,F.initSplit,F.initRow]
 repeat (first|with_reducible refine wpAny_loadPart_at he ?_|with_reducible refine wpAny_loadPart_at O ?_|(with_reducible refine wpAny_isSubtype_exc O ?_;rw[S])|wp_step)
 refine wpAny_onRaise ?_;rw[show ∀(a b:String)(n:Nat),Bind.check {.positional,"*",gm,.self,[{"args",.varPos,false}]} a b n (List.map (λx=>x.fst) ({pos:=Value.ref e::us}:Args).kw)=pure Unit.unit from λa b n=>check_star_args _ _ _ _ _ _];refine Xj ?_
 wp_walk
 have I:(h.push<|iG us).get? e=some (aw C od #[.ref t0,.none,.none,.none,.bool false,.none]):=Xb _ he;refine hq _ (λb o z k=>?_) ?_
 .rw[Xm _ _ (Ne.symm z)];exact Xb _ k
 .exact Heap.get?_update_self _ I M
end
open PySem.W
variable{vs:Ko}{Q:Ky}{E:Kn}
section
variable{prog:Ki}{w:Kj}{A:Kp}{s:J'}{K:J5}{e C:B'}{bm:Kd}
def I0.cd(Y:I0 K C bm):∃cd,clsIn K C=some cd/\cd.mro= .ref C::bm/\cd.hasDict=true:=by
 let{nm,q,N,bs,sn,sub,ab,col,dd,k0,k1,k2,k3,k5,hK}:=Y.ob;exact{_,by unfold clsIn;rw[hK],M,M}
def I0.inst(Y:I0 K C bm)(X:K.In s.heap){od:Kg}(he:s.heap.get? e=some (aw C od vs))(T:String)(I:bm.contains (.type T)=true):Looks (model prog w) s.heap (isInstance (.ref e)<|.type T) true:=by
 let{cd,hc,z,_}:=Y.cd;refine((Looks.ld he).andThen .now:Looks (model prog w) s.heap (typeOf<|.ref e) (.ref C)).andThen<|looks_mroIn X ?_;unfold mroIn;rw[hc,QZ,Xc (by rw[z];exact Q8),z,Qo,I,QP]
def Dy{name:Str}{v:Kb}(X:K.In s.heap)(Y:I0 K C bm)(hn:findIn K (.ref C) name=some none)(he:s.heap.get? e=some (aw C none vs))
  (hq:∀h' tk,(∀b o,b≠e->s.heap.get? b=some o->h'.get? b=some o)->h'.get? e=some (aw C (some s.heap.objs.size) vs)->h'.Ns1 s.heap.objs.size (λy=>if y=name then some v else none)->Q Unit.unit {s with heap:=h',toks:=tk}):
  wpAny (model prog w) A (setAttr (.ref e) name v) Q E s:=by
 have O:=PySem.F.store_object;let{cd,hc,hm,hd}:=Y.cd;have I:InstAt s.heap e (aw C none vs) C none:=⟨he,M,M,Xn⟩;have ty:Looks (model prog w) s.heap (typeOf<|.ref e) (.ref C):=I.type;have mo:Looks (model prog w) s.heap (mroOf<|.ref C) (.ref C::bm):=hm▸(looks_clsIn X hc).andThen .now;refine set_plain X I Y.sa<|codeAny_call_builtin O.slot.plain O.entry (@check_slot (model prog w) _ _ {s with toks:=s.toks+1} "object.__setattr__" "object" "__setattr__" (.ref e) [.str name s.toks,v] [] _ O.kind O.split (Y.inst X he "object" Y.mro.obj) (O.args (.ref e) (.str name s.toks) v) ?_);let{h,g,d,t,os}:=s;rw[osa_eq,refuse_eq];refine Xa<|Xa (ty.at<|Xa<|mo.at ?_);rw[refuseLoop_ref,Y.mro.pass];have S:=looks_findIn (M:=model prog w) (h:=h) X hn;refine Xj<|Xa (ty.at<|Xa<|S.at<|Xa<|Xj ?_);have e1:(h.push {cls:= .type "dict",data:= .dict #[]}).get? e=some (aw C none vs):=Xb _ he;have ne:e≠h.objs.size:=Qs (Xi he);have C1:=looks_clsIn (M:=model prog w) (h:=h) X hc;show wpAny _ _ (Builtin.ObjectAttr.storeInOwnDict _ _ _ _ _ _) _ _ _;unfold Builtin.ObjectAttr.storeInOwnDict Builtin.ObjectAttr.ownDictForStores
 repeat (first|with_reducible refine wpAny_loadPart_at he ?_|lk|wp_step)
 have eg:((h.push {cls:= .type "dict",data:= .dict #[]}).update e λo=>{cls:=o.cls,dict:=some h.objs.size,data:=o.data,slots:=o.slots}).get? h.objs.size=some {cls:= .type "dict",data:= .dict #[]}:=
  (Heap.get?_update_ne _ _ _ _ ne.symm).trans (Heap.get?_push_at M M)
 have en:((h.push {cls:= .type "dict",data:= .dict #[]}).update e λo=>{cls:=o.cls,dict:=some h.objs.size,data:=o.data,slots:=o.slots}).Ns h.objs.size (λ_=>none):=
  {_, #[],_,eg,M,λx hx=>Xd hx (by simp),λ_=>M}
 have ee:((h.push {cls:= .type "dict",data:= .dict #[]}).update e λo=>{cls:=o.cls,dict:=some h.objs.size,data:=o.data,slots:=o.slots}).get? e=some (aw C (some h.objs.size) vs):=Heap.get?_update_self _ e1 M;refine wpAny_update' e1 ?_;refine Xj ?_;show wpAny _ _ (Builtin.ObjectAttr.storeInDict h.objs.size (.str name t) name v) _ _ _;unfold Builtin.ObjectAttr.storeInDict Builtin.ObjectAttr.newKeyGuard;refine Xa<|Xj (Xa<|wpAny_nsSet1 (Heap.Ns1.of_empty en) λh2 n2 sb=>?_);let{oD,a1,a2,U,Z,a0}:=n2.count (Within.cons name v Within.nil);refine Xa<|wpAny_lookBehind U (by rw[Z];exact pastItsLine_dict<|Qw a0<|by rw[Q3,Qz,sizeLine_eq];lia) (Xj ?_);exact hq h2 _ (λb o z k=>(sb.2 b<|Qs<|Xi k).trans<|(Heap.get?_update_ne _ _ _ _ z).trans<|Xb _ k) ((sb.2 e ne).trans ee) n2
end
variable{vs:Ko}{r:Builtin.ObjectAttr.Found}{odx:Kg}{od:Option Obj}{E Q:Kn}
section
variable{prog:Ki}{w:Kj}{A:Kp}{s:J'}{K:J5}{e C:B'}{bm:Kd}
def Jp:Slot gm oh dv:=
 .of (owner:=ff) (n:=oh) (by rw[typeLookup_type,builtinLookup_eq_fast];kernel_rfl) ∅ ∅ ∅
  (by first|exact .inl ∅|exact .inr ∅) (by rw[isSubtype_type];kernel_rfl)
def Bo{name:Str}{S fill:Bool}{tk:Tok}(X:K.In s.heap)(Y:I0 K C bm)(I:InstAt s.heap e (aw C odx vs) C od)
  (Z:findObj K C od name=some r)
  (hq:wpAny (model prog w) A.in1 (match r with| .value v=>ret v| .bind g a=>Builtin.ObjectAttr.bindTo g a (.ref e) (.ref C)| .missing=>ret .none) (λO s'=>match O with| .done (.ret v)=>wpAny (model prog w) A (handedOut v) Q E s'|_=>False) (λ_ _=>False) s)
  (hr:r≠ .missing):wpAny (model prog w) A (getAttrBy (.ref e) (.str name tk) fill S) Q E s:=by
 let{h,g,d,t,os}:=s;have U:=I.type (M:=model prog w);have L1:=looks_findIn (M:=model prog w) (h:=h) X Y.ga;have L2:=looks_findIn (M:=model prog w) (h:=h) X Y.gn;have L3:=looks_find (M:=model prog w) (h:=h) X I Z;unfold getAttrBy;refine Xv<|Xa (U.at<|Xa<|L1.at ?_);dsimp only;have n2:(Value.builtin dv==Value.builtin "object.__getattribute__")=false:=by decide+kernel
 rw[n2,Z9,Xc Q8];unfold getAttrByItsOwn hookBefore;rw[Xe (show onTheHeap (.ref C)=true from rfl)];refine Xa<|L2.at (Xa<|wpAny_attempt<|Xv ?_);unfold callGetattribute;rw[show(S&&onTheHeap (Value.builtin dv))=false from Z9 _,Xc Q8];unfold boundAndCalled;rw[Jp.bind];refine Xa<|Xj ?_;show wpAny _ _ (call (.builtin dv) [.ref e,.str name tk]) _ _ _;refine wpAny_call<|codeAny_call_builtin Jp.plain PySem.F.entry_bexc_ga (@check_slot (model prog w) _ _ ⟨h,g,d,t,os⟩ dv ff oh (.ref e) [.str name tk] [] _ ∅ ∅ (Y.inst (s:=⟨h,g,d,t,os⟩) X I.at_ ff Y.mro.bas) (PySem.F.args_bexc_ga _ _) ?_);unfold Builtin.«object.__getattribute__»;refine Xa<|Xj (Xa<|Xj<|Xa<|U.at<|Xa<|L3.at ?_);cases r with
 |missing=>exact Xd M hr
 |value v=>
  refine Xp hq (λO s' z=>?_) λ_ _ z=>z.elim;rcases O with(_|_|_|_)|_<;>first|exact z|exact z.elim
 |bind g' a=>
  refine Xp hq (λO s' z=>?_) λ_ _ z=>z.elim;rcases O with(_|_|_|_)|_<;>first|exact z|exact z.elim
structure KO(K:J5)(C:B'):Prop where
 ha:findIn K (.ref C) "__class__"=some (some<|.builtin ge)
 hn:specialIn K (.builtin ge) "__get__"=some (some<|.builtin i3)
 tk:takesIn K (.builtin ge)=some true
 hm:mroIn K C (.type "object")=some true
def zk{Q:Option Value->Shared->Prop}(X:K.In s.heap)(Y:I0 K C bm)(Z:KO K C)(I:InstAt s.heap e (aw C odx vs) C od)(h:Q (some<|.ref C) {s with toks:=s.toks+1}):
  wpAny (model prog w) A (getAttr? (.ref e) "__class__") Q E s:=by
 let{cd,hc,U,O}:=Y.cd;have S:findObj K C od "__class__"=some (.bind (.builtin i3)<|.builtin ge):=by
  unfold findObj;rw[hc,QZ,Z.ha,QZ];dsimp only;rw[Z.hn,QZ];dsimp only;rw[Z.tk];rfl
 unfold getAttr? getAttrBy?;refine Xa<|wpAny_mkText (Xa<|wpAny_attempt ?_);refine Bo (s:={s with toks:=s.toks+1}) X Y I S ?_ (by intro z;cases z);show wpAny _ _ (holding [.builtin ge] (call (.builtin i3) [.builtin ge,.ref e,.ref C])>>=ret) _ _ _;refine Xa<|Xv (wpAny_call<|class_get (s:={s with toks:=s.toks+1}) X I Z.hm ?_);exact Xj<|by show wpAny _ _ (handedOut _) _ _ _;rw[handedOut_of M];exact Xj (Xj h)
def vD(Y:I0 K C bm)(Z:KO K C):KitX K (.ref e) (.ref C) (λh=>InstAt h e (aw C odx vs) C od) where
 ty:=λ_ _ _ I=>I.type
 it:=λ_ _ X _=>by
  let{nm,q,N,bs,sn,sub,ab,col,dd,k0,k1,k2,k3,k5,hK}:=Y.ob;intro S Q' E' s' k q;unfold isType loadHead;exact Xa (wpAny_loadPart (k _ _<|X _ _ hK)<|Xj q)
 ne:=λh tp dd its n U X O=>by
  let{nm,q,N,bs,sn,sub,ab,col,dd,k0,k1,k2,k3,k5,hK}:=Y.ob;refine Bool.eq_false_iff.mpr λq=>?_;obtain rfl:C=tp:=Value.ref.inj (Xu.mp q);have z:=Xo Obj.cls (Xf<|(X _ _ hK).symm.trans O);exact Xd (Value.type.inj z) ∅
 ca:=λX I k=>zk X Y Z I k
end
variable{C:B'}{bm:Kd}{K:J5}
def J8(H:Hp)(e:B')(od:Kg)(C:B')(fs:Ks):Prop:=H e=some (XO e C od)/\((fs=[]/\od=none)\/∃dx,od=some dx/\H dx=some (.xd fs))
def Rs(H:Hp)(C:B')(fs:Ks)(E:XK):Prop:=∀(ea:B')(od:Kg)(H':Hp),J8 H' ea od C fs->HU H H'->E (.ref ea) od H'
section
variable{X:Cx}{W:Kf}{J:St}{H:Hp}{s:J'}
def J8.inst{e:B'}{od:Kg}{fs:Ks}(I:Inv X W J H s)(h:J8 H e od C fs):∃vs odo,InstAt s.heap e (aw C od vs) C odo:=by
 let{h1,h2}:=h;let{vs,r,_}:=xD I.hok h1;rcases h2 with⟨_,rfl⟩|⟨dx,rfl,hd⟩
 .exact⟨vs,none,r,M,M,Xn⟩
 .let{mA,{o,es,ep,z,_},_}:=(show HZ X.prog X.w H s.heap dx (.xd fs) from I.hok dx _ hd);exact{vs,some o,r,M,M,z}
def j6{D:B'}{bm':Kd}{b:Bool}(Y:I0 K C bm)(Z:I0 K D bm')(h:subIn K (.ref C) (.ref D)=some b):kitOne K (.ref C) (.ref D)=some b:=by
 unfold kitOne;let{cd,hc,O,_}:=Y.cd;let{S,I,_,_}:=Z.cd;by_cases z:((Value.ref C:Kb)== .ref D)=true
 .rw[Xe z];obtain rfl:C=D:=Value.ref.inj (Xu.mp z);have:subIn K (.ref C) (.ref C)=some true:=by
   show mroIn K C (.ref C)=some true;unfold mroIn;rw[hc,QZ,Xc (by rw[O];exact Q8),O,Qo];simp
  rw[h]at this;rw[this]
 .rw[Xc z];let{nm,q,N,bs,sn,sub,ab,col,dd,k0,k1,k2,k3,k5,hK}:=Z.ob;have U:typeIn K (.ref D)=some (.type "type"):=by
   show(K.lookup D).map (·.cls)=_;rw[hK];rfl
  show(if((clsIn K D).isSome&&typeIn K (.ref D)==some (.type "type"))=true then subIn K (.ref C) (.ref D)else none)=some b;rw[Xe (by rw[I,U];simp),h]
def Dm(Y:I0 K C bm):kitOne K (.ref C) (.type gm)=some true:=by
 unfold kitOne;let{cd,hc,I,_}:=Y.cd;rw[Xc (by intro z;cases Xu.mp z)];show(if kitMeta gm=true then subIn K (.ref C) (.type gm)else none)=some true;rw[Xe ∅];show mroIn K C (.type gm)=some true;unfold mroIn;rw[hc,QZ,Xc (by rw[I];exact Q8),I,Qo,Y.mro.val,QP]
def cG(K:J5)(hK:X.K=K):fV X (.builtin nj) (λxs H Q=>∃e od C fs bm D b,xs=[.ref e,.ref D]/\J8 H e od C fs/\I0 K C bm/\KO K C/\kitOne K (.ref C) (.ref D)=some b/\Q (.bl b) H):=by
 subst hK;intro W s J H xs us Q I r h;let{e,od,C,fs,bm,D,b,rfl,hx,Y,Z,hk,q}:=h;let{O,S,rfl,r0,r1}:=oR r;cases (show O=Value.ref e from r0);cases (show S=Value.ref D from r1);let{vs,odo,J4}:=hx.inst I;exact kia_one (vD Y Z) I.kIn J4 hk (λz=>by cases z) λtk=>{.bl b,H,I.tok _,M,q}
def sk(K:J5)(hK:X.K=K):fV X (.builtin nj) (λxs H Q=>∃e od C fs bm n b,xs=[.ref e,.ty n]/\J8 H e od C fs/\I0 K C bm/\KO K C/\kitOne K (.ref C) (.type n)=some b/\Q (.bl b) H):=by
 subst hK;intro W s J H xs us Q I r h;let{e,od,C,fs,bm,n,b,rfl,hx,Y,Z,hk,q}:=h;let{O,S,rfl,r0,r1}:=oR r;cases (show O=Value.ref e from r0);cases (show S=Value.type n from r1);let{vs,odo,J4}:=hx.inst I;exact kia_one (vD Y Z) I.kIn J4 hk (λz=>by cases z) λtk=>{.bl b,H,I.tok _,M,q}
def uu(K:J5)(hK:X.K=K):fV X (.builtin nj) (λxs H Q=>∃x D t b,xs=[x,.ref D]/\IH K H x t/\kitOne K t (.ref D)=some b/\Q (.bl b) H):=by
 subst hK;intro W s J H xs us Q I r h;let{x,D,t,b,rfl,ty,e,q}:=h;let{u,w',rfl,O,z}:=oR r;cases (show w'=Value.ref D from z);exact sX I O ty e λtk=>{.bl b,H,I.tok _,M,q}
end
variable{C:B'}{φ:K'}{us:Kd}
section
variable{X:Cx}{W:Kf}{J:St}{H:Hp}{s:J'}
def Inv.madeX(I:Inv X W J H s):Inv X W J (upd H (s.heap.objs.size+1)<|XN (s.heap.objs.size+1) C none) {s with heap:=(s.heap.push<|iG us).push (cS C s.heap.objs.size)}:=
 I.laid (t':=s.toks) (λb o e=>Xb _<|Xb _ e) (Za _) (zS (t:=s.heap.objs.size)<|by heap_get)
def zZ(C:B')(sp:Sp)(dvs:Ke)(E:XK)(t:TA):TE:=λJ H Q=>t J H λvs H1=>vs.length<=1000/\∀e,H1 e=none->sp (.ref e::(vs++dvs)) (upd H1 e<|XN e C none) (λv H2=>v= .non/\Q (.ref e) H2) E
def tL(C:B')(t:TA):TE:=λJ H Q=>t J H λvs H1=>vs.length<=1000/\∀e,H1 e=none->Q (.ref e) (upd H1 e<|XN e C none)
variable{CX:CXT}{k:Nat}{f:B'}{fd:Kt}{ps:Kc}{sp:Sp}{dvs:Ke}{ds:Kd}{E:XK}{x m:Str}{p pos apos:Pos}{e o:Expr}{es:Kx}{ta:TE}{t:TA}{bm:Kd}
def yI{Q:VK}{vs:Ke}(Y:I0 X.K C bm)(hi:findIn X.K (.ref C) cC=some (some<|.ref f))(hf:isFn X.K (.ref f)=true)(F:D3 X.prog X.w X.K X.mg X.base CX k f fd ps sp)(hr:IB (k+1) X.A)(hb:Binds X.K fd ps ds)(hd:HV dvs ds)
  (hx:dA CX X E) (I:Inv X W J H s) (r:HV vs us) (hz:vs.length<=1000)
  (h:∀e,H e=none->sp (.ref e::(vs++dvs)) (upd H e<|XN e C none) (λv H2=>v= .non/\Q (.ref e) H2) E):J6 X (call (.ref C) us) (EP X W J Q) X.xe s:=by
 have hq:=h (s.heap.objs.size+1) (I.hok.fresh<|Za _);have S:=Inv.madeX (C:=C) (us:=us) I;have r2:HV (V.ref (s.heap.objs.size+1)::(vs++dvs)) (Value.ref (s.heap.objs.size+1)::(us++ds)):= .cons M (r.append hd);have hl:(Value.ref (s.heap.objs.size+1)::us++ds).length=ps.length:=by
  have z:=r2.length;rw[F.len _ _ _ _ hq]at z;exact z.symm
 have Z:us.length<=sizeLine:=by rw[<-r.length];exact Zn<|bR hz
 let{U,g0,d0,t0,o0}:=s;refine wpAny_call (vN I.kIn Y Z hi (λself=>bind_fn I.kIn self<|Xu.mp hf) (codeAny_mono (F.run _ X.stack _ _ {Value.ref (U.objs.size+1)::us,[]} (Value.ref (U.objs.size+1)::(us++ds)) _ _ E (hr.make C us [])
  (S.env0.make C us []) (hb _ (Value.ref (U.objs.size+1)::us) S.kIn hl) r2 hq) λr s' O=>?_))
 cases r with
 |error e=>exact hx W J _ _ e s' S O
 |ok fl=>
  cases fl with
  |ret u=>
   let{v,H',I3,rv,ev,q3}:=S.after O;subst ev;exact{rv,{V.ref<|U.objs.size+1,H',I3,M,q3}}
  |next=>exact False.elim O
  |brk=>exact False.elim O
  |cont=>exact False.elim O
def vg(Y:I0 X.K C bm)(hi:findIn X.K (.ref C) cC=some (some<|.ref f))(U:isFn X.K (.ref f)=true)(F:D3 X.prog X.w X.K X.mg X.base CX k f fd ps sp)(Z:IB (k+1) X.A)(hg:Gl X x)(hm:X.mg x=some (.ref C))(hb:Binds X.K fd ps ds)(hd:HV dvs ds)(hx:dA CX X E)
  (ha:PA X (e::es) t) (z:(x==(cf:Str))=false:=by decide) (he:starEach (e::es) X.env=(false,eval e X.env)::starEach es X.env:=by rfl) (O:(backTo pos<|starEach es X.env).any (·.1)=false:=by rfl):
  PE X (.Call (.Name x p) (e::es) [] pos) (zZ C sp dvs E t):=by
 intro W s J H Q I h;refine Xs<|cJ I hg hm ?_ z;refine QJ (h₀:=X.base) I.ok.mod.kin Y.kp (HX (ha pos W s J H _ I h) λus s1 zz=>?_) he O;let{vs,H1,S,r,hz,q}:=zz;refine{S.kIn,?_};exact yI Y hi U F Z hb hd hx S r hz q
def Inv.rewrite{ea:B'}{od:Kg}{z:B'}{h':Heap}{tk:Nat}(I:Inv X W J H s)(hx:H ea=some (.ext φ))(k:∀b o,b≠ea->s.heap.get? b=some o->h'.get? b=some o)
  (new:h'.get? ea=some (aw C od #[.ref z,.none,.none,.none,.bool false,.none])):Inv X W J (upd H ea<|XN ea C od) {s with heap:=h',toks:=tk}:=
 I.write (x:=ea) (e:=ea) (by rw[hx];exact Xn) (.inl M) k {_,new} (zS new)
def bv(Y:I0 X.K C bm)(hi:findIn X.K (.ref C) cC=some (some<|.builtin eN))(hg:Gl X x)(hm:X.mg x=some (.ref C))
  (ha:PA X (e::es) t) (S:(x==(cf:Str))=false:=by decide) (he:starEach (e::es) X.env=(false,eval e X.env)::starEach es X.env:=by rfl) (U:(backTo pos<|starEach es X.env).any (·.1)=false:=by rfl):
  PE X (.Call (.Name x p) (e::es) [] pos) (tL C t):=by
 intro W s J H Q I h;refine Xs<|cJ I hg hm ?_ S;refine QJ (h₀:=X.base) I.ok.mod.kin Y.kp (HX (ha pos W s J H _ I h) λus s1 zz=>?_) he U;let{vs,H1,O,r,hz,q}:=zz;refine{O.kIn,?_};have z:us.length<=sizeLine:=by rw[<-r.length];exact Zn<|bR hz
 have Z:=Inv.madeX (C:=C) (us:=us) O;have q2:=q (s1.heap.objs.size+1) (O.hok.fresh<|Za _);let{nm,q',N,bs,sn,sub,ab,col,dd,k0,k1,k2,k3,k5,hK}:=Y.ob;have hC:=Z.kIn _ _ hK;let{h0,g0,d0,t0,o0}:=s1;refine wpAny_call<|vN O.kIn Y z hi (λself=>Looks.of_pure<|Zy.init.bind self) ?_;refine vO Y.mro hC (t0:=h0.objs.size) (by heap_get) z λh' k' n'=>{M,?_};have I3:=Z.rewrite (C:=C) (od:=none) (tk:=t0) BB k' n';rw[bS]at I3;exact{V.ref<|h0.objs.size+1,_,I3,M,q2}
end
variable{f:B'}{A:Kp}{Q:Flow->Shared->Prop}{H:Hp}{pos:Pos}{s:J'}{ta:TE}{J3:Kn}{E:XK}
structure yr(K:J5)(C:B')(m:Str)(v:Kb):Prop where
 sp:specialIn K (.ref C) oh=some (some<|.builtin "type.__getattribute__")
 rd:readsIn K C (.type "type")=true
 at_:findCls K (.ref C) (.type "type") m=some (.val v)
section
variable{X:Cx}{W:Kf}{J:St}
variable{CX:CXT}{k:Nat}{C:B'}{fd:Kt}{ps:Kc}{sp:Sp}{dvs:Ke}{ds:Kd}{x m:Str}{p apos:Pos}{e o:Expr}{es:Kx}{t:TA}{bm:Kd}
def tX{pl:Sem Bool}(Y:Gl X x)(Z:X.mg x=some (.ref C))(hc:yr X.K C m (.ref f))(hk:PySem.W.keepIn X.K (.ref f)=true)(F:D3 X.prog X.w X.K X.mg X.base CX k f fd ps sp)(hr:IB k X.A)(hb:Binds X.K fd ps ds)(hd:HV dvs ds)(hx:dA CX X E)(ha:PA X (e::es) t)
  (z:(x==(cf:Str))=false:=by decide)
  (O:starEach (e::es) X.env=(false,eval e X.env)::starEach es X.env:=by rfl) (S:(backTo pos<|starEach es X.env).any (·.1)=false:=by rfl)
  (ht:eval (.Call (.Attribute (.Name x p) m apos) (e::es) [] pos) X.env=(do
   let ov<-eval (.Name x p) X.env
   standAt apos.atName
   let(f,first)<-holding [ov] (getMethod ov m pl)
   callWith pos f first (backTo pos<|starEach (e::es) X.env) (backToKw pos<|keywordEach [] X.env)):=by rfl):
  PE X (.Call (.Attribute (.Name x p) m apos) (e::es) [] pos) (Ek sp dvs E t):=by
 intro W s J H Q I h;refine Z7 (pl:=pl) (cJ I Y Z ?_ z) ht;refine method_cls I.kIn hc.sp<|cls_value I.kIn hc.rd hc.at_ M ?_;refine QJ (first:=[]) (h₀:=X.base) I.ok.mod.kin hk (HX (ha pos W _ J H _ (I.tok _) h) λus s2 zz=>?_) O S;let{vs,H2,U,r,q2}:=zz;refine{U.kIn,?_};exact pW F hr hb hd hx U r q2
def GP(K:J5)(t:TA):TE:=λJ H Q=>t J H λvs H1=>∃ea C od r bm,vs= .ref ea::r/\r.length<=1000/\H1 ea=some (XN ea C od)/\I0 K C bm/\Q .non H1
def xU{pl:Sem Bool}(hg:Gl X x)(hm:X.mg x=some (.ref C))(hc:yr X.K C m (.builtin eN))(ha:PA X (e::es) t)
  (z:(x==(cf:Str))=false:=by decide)
  (O:starEach (e::es) X.env=(false,eval e X.env)::starEach es X.env:=by rfl) (S:(backTo pos<|starEach es X.env).any (·.1)=false:=by rfl)
  (ht:eval (.Call (.Attribute (.Name x p) m apos) (e::es) [] pos) X.env=(do
   let ov<-eval (.Name x p) X.env
   standAt apos.atName
   let(f,first)<-holding [ov] (getMethod ov m pl)
   callWith pos f first (backTo pos<|starEach (e::es) X.env) (backToKw pos<|keywordEach [] X.env)):=by rfl):
  PE X (.Call (.Attribute (.Name x p) m apos) (e::es) [] pos) (GP X.K t):=by
 intro W s J H Q I h;refine Z7 (pl:=pl) (cJ I hg hm ?_ z) ht;refine method_cls I.kIn hc.sp<|cls_value I.kIn hc.rd hc.at_ ∅ ?_;have hA:=ha pos W _ J H _ (I.tok<|s.toks+1) h;show wpAny _ _ (callWith pos (.builtin eN) [] (backTo pos<|starEach (e::es) X.env) []) _ _ _;rw[O]at hA⊢;refine Calls.callWith_builtin (by show(false||(backTo pos<|starEach es X.env).any (·.1))=false;rw[S]<;>rfl)<|Calls.evalArgs_plain ?_;refine HX hA λus s2 U=>?_;let{vs,H2,Z,r2,ea,C',od,r,bm,ev,hz,hx,Y,q2}:=U;subst ev;let{nm,q',N,bs,sn,sub,ab,col,dd,k0,k1,k2,k3,k5,hK}:=Y.ob;have hC:=Z.kIn _ _ hK;cases r2 with
 | @cons _ u _ us' r0 r1=>
  cases (show u=Value.ref ea from r0);let{t0,he}:=oQ Z.hok hx;let{h0,g0,d0,a0,o0}:=s2;refine wpAny_call<|vO (us:=us') Y.mro hC he (by rw[<-r1.length];exact Zn<|bR hz) λh' k' n'=>?_;have I3:=Z.rewrite (C:=C') (od:=od) (tk:=a0) hx k' n';rw[lF hx]at I3;exact⟨V.non,H2,I3,M,q2⟩
def Inv.newfld{ea:B'}{t1:B'}{fn:Str}{y:V}{u:Kb}{h':Heap}{tk:Nat}(I:Inv X W J H s)(hx:H ea=some (XN ea C none))(k:∀b o,b≠ea->s.heap.get? b=some o->h'.get? b=some o)
  (new:h'.get? ea=some (aw C (some s.heap.objs.size) #[.ref t1,.none,.none,.none,.bool false,.none])) (hn:h'.Ns1 s.heap.objs.size (λz=>if z=fn then some u else none)) (ry:RelV y u):
  Inv X W J (upd (upd H s.heap.objs.size<|.xd [(fn,y)]) ea<|XN ea C<|some s.heap.objs.size) {s with heap:=h',toks:=tk}:=by
 have nd:H s.heap.objs.size=none:=I.hok.fresh (Qc _);have ne:ea≠s.heap.objs.size:=λz=>by rw[z,nd]at hx;cases hx
 have S:∀b v,H b=some v->b≠ea->upd (upd H s.heap.objs.size<|.xd [(fn,y)]) ea (XN ea C<|some s.heap.objs.size) b=some v:=λb v q z=>by
  rw[ah z,ah (aq q nd)];exact q
 have un:∀b,H b=none->b≠s.heap.objs.size->upd (upd H s.heap.objs.size<|.xd [(fn,y)]) ea (XN ea C<|some s.heap.objs.size) b=none:=λb q z=>by
  rw[ah (λw=>by rw[w,hx]at q;cases q),ah z];exact q
 have U:∀b,H b=none->b≠ea:=λb q z=>by rw[z,hx]at q;cases q
 have lt:∀b o,s.heap.get? b=some o->b≠s.heap.objs.size:=λb o q=>Qs (Xi q);refine I.un (t':=tk) {λb o O Y _ _=>k b o (U b Y) O,λb o O Y _ _=>{o.slots,k b o (U b Y) O},λb o O Y _=>un b Y<|lt b o O,λb o O _=>?_,λb xs O=>S b _ O λz=>(by rw[z,hx]at O;cases O),λb o v O=>S b _ O λz=>(by rw[z,hx]at O;cases O),λb ps O=>{#[],?_}} λb v q=>?_
 .by_cases z:b=ea
  .exact{_,z▸new}
  .exact{o,k b o z O}
 .rw[S b _ O λz=>(by rw[z,hx]at O;cases O)];simp
 .by_cases z:b=ea
  .subst z;rw[BB]at q;cases q;exact zS new
  .rw[ah z]at q;by_cases z2:b=s.heap.objs.size
   .subst z2;rw[BB]at q;cases q;refine{_,hn,λg=>?_};show Ig (List.lookup g [(fn,y)]) (if g=fn then some u else none);by_cases Z:g=fn
    .subst Z;rw[Xe M];show Ig (match g==g with|true=>some y|false=>none) (some u);rwa[Xy]
    .rw[Xc Z];show Ig (match g==fn with|true=>some y|false=>none) none;rw[Xq.mpr Z];exact Xn
   .rw[ah z2]at q;refine(I.hok b v q).stay (λc w hc r=>k c w ?_ r) (λc r=>S c _ r λz=>(by rw[z,hx]at r;cases r)) λc xs r=>S c _ r λz=>(by rw[z,hx]at r;cases r);rcases hc with rfl|hc
    .exact z
    .exact λz=>by rw[z,hx]at hc;cases hc
def GT(K:J5)(ta tv:TE)(f:Str):TS:=λD J H=>tv J H λy H1=>ta J H1 λx H2=>∃ea C bm,x= .ref ea/\H2 ea=some (XN ea C none)/\I0 K C bm/\HR K C f/\∀dx,H2 dx=none->D.nx J (upd (upd H2 dx<|.xd [(f,y)]) ea<|XN ea C<|some dx)
def xO{o value:Expr}{tv:TE}{f:Str}{pos':Pos}(ha:PE X o ta)(S:PE X value tv)(hs:swapsWith value (some<|.Attribute o f pos') pos.line X.env=pure false):PS X (.Assign [.Attribute o f pos'] value pos) (GT X.K ta tv f):=by
 intro W s J H D I h;refine plainObj_wpAny_Assign_Attribute (HX (S W s J H _ I h) λu s1 zz=>?_) hs;let{y,H1,U,Z,q}:=zz;refine HX (ha W s1 J H1 _ U q) λov s2 O=>?_;let{x,H2,z,rx,ea,C,bm,ex,hx,Y,n,q2}:=O;subst ex;obtain rfl:ov=Value.ref ea:=rx;let{t1,he}:=oQ z.hok hx;refine Dy z.kIn Y n he λh' tk k1 k2 k3=>{J,_,z.newfld hx k1 k2 k3 Z,q2 _<|z.hok.fresh (Qc _)}
def mY{env:Env}{y:Sem Value}{M':Model}(O:A.handled=none)
  (h:wpAny M' A y (λv s1=>∃ea C od t nm q N bs bm sn sub ab col dd k0 k1 k2 k3 k5,v= .ref ea/\s1.heap.get? C=some (excClassObj nm q C N bs bm true sn sub ab col dd k0 k1 k2 k3 k5 cb)/\HY bm/\
   s1.heap.get? ea=some (aw C od #[.ref t,.none,.none,.none,.bool false,.none])/\J3 (.ref ea) s1) J3 s):wpAny M' A (raiseStmt env (some y) none) Q J3 s:=by
 unfold raiseStmt;refine Xa<|Xp h (λv s1 z=>?_) λ_ _ z=>z;let{ea,C,od,t,nm,q,N,bs,bm,sn,sub,ab,col,dd,k0,k1,k2,k3,k5,rfl,I,B,he,S}:=z;have U:(Value.ref C::bm).contains (.type ff)=true:=by rw[Qo,B.bas,QP]
 let{hp,g,d,tk,os}:=s1
 repeat (first|with_reducible refine wpAny_loadPart_at he ?_|with_reducible refine wpAny_loadPart_at I ?_|(with_reducible refine wpAny_isSubtype_exc I ?_;rw[U])|wp_step)
 exact wpAny_raiseNew_none O S
def BC(X:Cx)(E:XK):Prop:=∀e s,yt X (λ_=>E) e s->X.xe e s
def mW(K:J5)(te:TE)(E:XK):TS:=λ_ J H=>te J H λv H1=>∃ea C od bm,v= .ref ea/\H1 ea=some (XN ea C od)/\I0 K C bm/\E (.ref ea) od (upd H1 ea<|XO ea C od)
def eL{ex:Expr}{te:TE}(hc:X.calm=true)(hx:BC X E)(he:PE X ex te):PS X (.Raise (some ex) none pos) (mW X.K te E):=by
 intro W s J H D I h;rw[arm_exec_Raise];refine Xa<|wpAny_standAt (mY (I.ok.hd hc)<|Xa<|HX (he W s J H _ I h) λv s1 zz=>?_);let{y,H1,O,U,ea,C,od,bm,Z,S,Y,q}:=zz;refine Xa<|wpAny_standAt<|Xj ?_;subst Z;cases (show v=Value.ref ea from U);let{nm,q',N,bs,sn,sub,ab,col,dd,k0,k1,k2,k3,k5,hK}:=Y.ob;let{t,z}:=oQ O.hok S;exact{ea,C,od,t,nm,q',N,bs,bm,sn,sub,ab,col,dd,k0,k1,k2,k3,k5,M,O.kIn _ _ hK,Y.mro,z,hx _ _ {W,J,H1,ea,C,od,_,_,M,O,S,z,(by show 1<6;decide),.inl M,q}}
end
def fW{P:Ki}{w:Kj}{K:J5}{mg:Kq}{base:Heap}{N:Kc}{qual:Str}{scope:Scope}{cd:Kb}{outer:Kr}:
  BC (hI (JV P w) P w K mg base N qual scope f cd A outer s H E) E:=λ_ _ h=>vC h
variable{A:Kp}{Q:Bool->Shared->Prop}{pn:Kf}{M':Model}{s:J'}{J3:Kn}
section
variable{nm q nm' q':Str}{C N C' N':B'}{bs bm bs' bm':Kd}{sn sn':Kc}{sub sub':Kd}{ab ab':Bool}{col col':Option Bool}{dd dd':Kg}{k0 k1 k2 k3 k5 k0' k1' k2' k3' k5':Lb}
def zj{e:B'}{od:Kg}{vs:Ko}{b:Bool}(I:s.heap.get? C=some (excClassObj nm q C N bs bm true sn sub ab col dd k0 k1 k2 k3 k5 cb))
  (z:s.heap.get? C'=some (excClassObj nm' q' C' N' bs' bm' true sn' sub' ab' col' dd' k0' k1' k2' k3' k5' cb)) (B:HY bm') (he:s.heap.get? e=some (aw C od vs)) (hb:(Value.ref C::bm).contains (.ref C')=b)
  (hq:Q b s):wpAny M' A (excMatches (.ref e)<|.ref C') Q J3 s:=by
 have O:(Value.ref C'::bm').contains (.type ff)=true:=by rw[Qo,B.bas,QP]
 have f:=tc_notTuple;let{hp,g,d,t,os}:=s;unfold excMatches
 repeat (first|with_reducible refine wpAny_loadPart_at he ?_|with_reducible refine wpAny_loadPart_at z ?_|(with_reducible refine wpAny_isSubtype_exc z ?_;rw[O])|(with_reducible refine wpAny_isSubtype_exc I ?_;rw[hb])|wp_step)
 cases b<;>(wp_walk;exact hq)
end
abbrev Cx.sui(X:Cx)(ea:B'):Cx:={X with A:=X.A.mark (some<|.ref ea),calm:=false,xe:=λ_ _=>False}
abbrev Cx.tr(X:Cx)(pn:Kf)(E:St->XK):Cx:={X with pn:=X.pn++pn,xe:=yt {X with pn:=X.pn++pn} E}
section
variable{X:Cx}{W:Kf}{J:St}{H:Hp}
def Cx.Ok.sui(ok:X.Ok)(ea:B'):(X.sui ea).Ok:=
 {ok.mod,ok.kind,ok.glob,ok.blt,ok.above,ok.inj,ok.has,ok.cab,λz=>Xd z Q8,ok.frames,ok.stk,ok.exf,ok.bs,ok.bsz,ok.noex,ok.exfs,ok.funs,ok.frf}
def Inv.sui(I:Inv X W J H s)(ea:B'):Inv (X.sui ea) W J H s:={I.ok.sui ea,I.os,I.bare,I.base,I.loc,I.cell,I.free,I.freeC,I.pin,I.hok,I.len}
def Inv.back{ea:B'}(ok:X.Ok)(I:Inv (X.sui ea) W J H s):Inv X W J H s:=⟨ok,I.os,I.bare,I.base,I.loc,I.cell,I.free,I.freeC,I.pin,I.hok,I.len⟩
def Cx.Ok.tr(ok:X.Ok)(pn:Kf)(E:St->XK):(X.tr pn E).Ok:=
 ⟨ok.mod,ok.kind,ok.glob,ok.blt,ok.above,ok.inj,ok.has,ok.cab,ok.hd,ok.frames,ok.stk,ok.exf,ok.bs,ok.bsz,ok.noex,ok.exfs,ok.funs,ok.frf⟩
def Inv.tr(I:Inv X W J H s)(E:St->XK):Inv (X.tr W E) [] J H s:={I.ok.tr W E,I.os,I.bare,I.base,I.loc,I.cell,I.free,I.freeC,λp hp=>I.pin p (by simpa using hp),I.hok,I.len}
def Inv.untr(ok:X.Ok)(I:Inv {X with pn:=X.pn++pn} W J H s):Inv X pn J H s:=
 {ok,I.os,I.bare,I.base,I.loc,I.cell,I.free,I.freeC,λp hp=>I.pin p<|Qu _ hp,I.hok,I.len}
def Inv.untr'{E:St->XK}(ok:X.Ok)(I:Inv (X.tr pn E) W J H s):Inv X pn J H s:=
 {ok,I.os,I.bare,I.base,I.loc,I.cell,I.free,I.freeC,λp hp=>I.pin p<|Qu _ hp,I.hok,I.len}
def jY{i:Nat}{x:Str}{pos:Pos}{Q:Ky}(I:Inv X W J H s)(hN:X.N.Nodup)(hi:X.N[i]?=some x)(hk:X.env.scope.names.lookup x=some .local)
  (h:∀s',Inv X W (J.set i none) H s'->Q Unit.unit s'):wpAny M' A (do bindName X.env x .none;unbindBehindTheSuite X.env x pos) Q J3 s:=by
 let{m,hn,hl}:=id I.loc;have O:i<J.length:=by rw[I.len];exact(Q7.mp hi).1
 have above:∀b o,X.s₀.heap.get? b=some o->b≠X.env.locals:=λb o e=>Qs (Ql (Xi e) I.ok.above);refine wpAny_nameGoes_keeps hk hn (by rw[I.ok.kind];rfl) λh' v S hs=>h _ ?_;have cl:∀y c,X.env.cells.lookup y=some c->∀w,s.heap.IsCell c w->h'.IsCell c w:=λy c e w z=>z.sameBut hs (I.cne y c e);refine{I.ok,I.os,I.bare,{λb o e n hb hx=>(hs.2 b<|above b o e).trans<|I.base.keep b o e n hb hx,λb o e n hb hx=>?_,I.base.free,λb o e hx=>?_,I.base.tups,I.base.frzs,I.base.tbls},{_,S,λj y v' U e2 e3=>?_},λy c e=>?_,I.free,I.freeC,λp hp=>?_,λb ob e=>?_,by simpa using I.len}
 .let{sl,r}:=I.base.slot b o e n hb hx;exact{sl,(hs.2 b<|above b o e).trans r}
 .let{o',r}:=I.base.there b o e hx;exact{o',(hs.2 b<|above b o e).trans r}
 .have Y:j≠i:=λz=>by rw[z,ZH O]at e2;cases e2
  rw[ZO (Ne.symm Y)]at e2;let{u,r,q}:=hl j y v' U e2 e3;refine{u,r,?_};rcases q with⟨k,e⟩|⟨k,c,e,z⟩
  .have ny:y≠x:=λz=>Y (qx hN U<|z▸hi);exact .inl {k,by simp[ny,e]}
  .exact .inr {k,c,e,cl y c e _ z}
 .let{w',z}:=I.cell y c e;exact{w',cl y c e w' z}
 .let{e,n,ne,nf,d}:=I.pin p hp;exact{(hs.2 p.1 ne).trans e,n,ne,nf,d}
 .refine(I.hok b ob e).stay (λc w' hc r=>(hs.2 c ?_).trans r) (λ_ r=>r) λ_ _ r=>r;rintro rfl;have Z:=I.free;rcases hc with rfl|hc
  .rw[Z]at e;cases e
  .rw[Z]at hc;cases hc
end
variable{b:Bool}{Q:Flow->Shared->Prop}{hs:List ExceptHandler}{bm:Kd}
abbrev TH:=Iw->St->Hp->Addr->Addr->Option Addr->Prop
def PH(X:Cx)(hs:List ExceptHandler)(t:TH):Prop:=∀(W:Kf)(s:J')(J:St)(H:Hp)(D:Iw)(ea C:B')(od:Kg)(vs:Ko)(T:B'),Inv X W J H s->H ea=some (XO ea C od)->
 s.heap.get? ea=some (aw C od vs)->Iz s.heap ea vs T .none->cK X W H T->t D J H ea C od->J6 X (handleBy (.ref ea) X.env hs) (SP X W D) X.xe s
def Hr:TH:=λ_ _ _ _ _ _=>False
def Iw.gone(D:Iw)(i:Nat):Iw:={λJ H=>D.nx (J.set i none) H,D.rt,λJ H=>D.bk (J.set i none) H,λJ H=>D.ct (J.set i none) H}
inductive hAs(K:J5)(Dc:B')(i:Nat)(ts:TS)(tr:TH)(D:Iw)(J:St)(H:Hp)(ea C:B')(od:Kg):Prop
 |mk(bm b:_)(_:I0 K C bm)(_:subIn K (.ref C) (.ref Dc)=some b)(_:if b=true then ts (D.gone i) (J.set i<|some<|.ref ea) H else tr D J H ea C od)
section
variable{X:Cx}{x n:Str}{np pos:Pos}{b0:Stmt}{suite:Kz}{rest:List ExceptHandler}{i:Nat}{ts:TS}{tr:TH}{Dc:B'}{bm':Kd}
def CU:PH X hs Hr:=λ_ _ _ _ _ _ _ _ _ _ _ _ _ _ _ h=>h.elim
def oG{K:J5}{C D:B'}(Y:I0 K C bm)(h:subIn K (.ref C) (.ref D)=some b):(Value.ref C::bm).contains (.ref D)=b:=by
 let{cd,hc,z,_}:=Y.cd;have h:mroIn K C (.ref D)=some b:=h;unfold mroIn at h;rw[hc,QZ,Xc (by rw[z];exact Q8),z]at h;exact Xf h
def xP{name:Option Str}{W:Kf}{s:J'}{J:St}{H:Hp}{ea C:B'}{od:Kg}{vs:Ko}(I:Inv X W J H s)(S:s.heap.get? ea=some (aw C od vs))(U:Gl X x)(hm:X.mg x=some (.ref Dc))(Z:I0 X.K Dc bm')
  (Y:I0 X.K C bm) (hb:subIn X.K (.ref C) (.ref Dc)=some b) (z:(x==(cf:Str))=false)
  (h1:b=true->codeAny (model X.prog X.w) (X.A.mark<|some<|.ref ea) (.handlers (.ref ea) [.ExceptHandler none name (b0::suite) pos] X.env) (λr s2=>match r with
     | .ok f=>(match name with
      |none=>Q f s2
      |some n=>J6 X (do bindName X.env n .none;unbindBehindTheSuite X.env n pos) (λ_ s3=>Q f s3) X.xe s2)
     | .error x=>cameBackBy (model X.prog X.w) X.A X.env X.xe x s2) s)
  (h2:b=false->J6 X (handleBy (.ref ea) X.env rest) Q X.xe s):
  J6 X (handleBy (.ref ea) X.env (.ExceptHandler (some<|.Name x np) name (b0::suite) pos::rest)) Q X.xe s:=by
 let{nm,q1,N,bs,sn,sub,ab,col,dd,k0,k1,k2,k3,k5,hK}:=Y.ob;let{nm',a0,N',bs',sn',sub',ab',col',dd',k0',k1',k2',k3',k5',O}:=Z.ob;refine wpAny_handleBy_cons (codeAny_handlers_test<|cJ (X:=X.sui ea) (I.sui ea) U hm ?_ z) (by intro q;cases q);refine zj (I.kIn _ _ hK) (I.kIn _ _ O) Z.mro S (oG Y hb) ?_;cases b with
 |true=>exact h1 M
 |false=>exact h2 M
def G7(hN:X.N.Nodup)(hi:X.N[i]?=some n)(hk:X.env.scope.names.lookup n=some .local)(hg:Gl X x)(hm:X.mg x=some (.ref Dc))(Z:I0 X.K Dc bm')(hs:∀ea,Ij (X.sui ea) (b0::suite) ts)(hr:PH X rest tr)(a1:(x==(cf:Str))=false:=by decide):
  PH X (.ExceptHandler (some<|.Name x np) (some n) (b0::suite) pos::rest) (hAs X.K Dc i ts tr):=by
 intro W s J H D ea C od vs T I hx S a0 O h;let{bm,b,Y,hb,h}:=h;refine xP I S hg hm Z Y hb a1 (λz=>?_)<|λz=>?_
 .subst z;rw[Xe M]at h;refine codeAny_handlers_suite_as<|fF (l:=[]) S a0 λh' g1 g2 g3 g4 g5=>?_;have I1:Inv X W J H {s with heap:=h'}:=I.turned (t':=s.toks) (it:=T) g1 O.1 O.2.1 O.2.2.2.1 O.2.2.2.2.1 O.2.2.2.2.2;refine lL (v:= .ref ea) I1 hN hi (.inl hk) M (λs2 I2=>?_)<|.inr hk;refine Xp (hs ea W s2 _ H (D.gone i) (I2.sui ea) h) (λf s4 z=>?_) λ_ _ z=>z.elim;cases f with
  |next=>
   let{U,H',I',q}:=z;exact jY (I'.back I.ok) hN hi hk λs5 I5=>{_,H',I5,q}
  |brk=>
   let{U,H',I',q}:=z;exact jY (I'.back I.ok) hN hi hk λs5 I5=>{_,H',I5,q}
  |cont=>
   let{U,H',I',q}:=z;exact jY (I'.back I.ok) hN hi hk λs5 I5=>{_,H',I5,q}
  |ret u=>
   let{v,U,H',I',rv,q}:=z;exact jY (I'.back I.ok) hN hi hk λs5 I5=>{v,_,H',I5,rv,q}
 .subst z;rw[Xc Q8]at h;exact hr W s J H D ea C od vs T I hx S a0 O h
def sTry(tb:(St->XK)->TS)(th:TH):TS:=λD J H=>tb (λσ1 v od H1=>∃ea C,v= .ref ea/\H1 ea=some (XO ea C od)/\th D σ1 H1 ea C od) D J H
def E5{body:Kz}{h0:ExceptHandler}{tb:(St->XK)->TS}{th:TH}(Y:X.stack=X.env::X.outer)(hf:X.env.frame=some X.env.locals)(hb:∀pn E,Ij (X.tr pn E) body (tb E))(hh:PH X (h0::hs) th):
  PS X (.Try body (h0::hs) [] [] pos) (sTry tb th):=by
 intro W s J H D I h;refine wpAny_Try_except<|Xp (hb W _ [] s J H D (I.tr _) h) (λf s1 z=>?_) λe s1 z=>?_
 .cases f with
  |next=>
   let{O,H',S,q}:=z;exact wpAny_execs_nil {O,H',S.untr' I.ok,q}
  |brk=>
   let{O,H',S,q}:=z;exact{O,H',S.untr' I.ok,q}
  |cont=>
   let{O,H',S,q}:=z;exact{O,H',S.untr' I.ok,q}
  |ret u=>
   let{v,O,H',S,rv,q}:=z;exact{v,O,H',S.untr' I.ok,rv,q}
 .let{Z,a0,H1,ea,C,od,vs,φ,rfl,I1,hx,hr,hz,ht,ea',C',e1,e2,q}:=z;obtain rfl:ea=ea':=Value.ref.inj e1;refine sR (X:={X with pn:=X.pn++W}) I1 Y hf I1.ok.frames hx hr hz ht λs2 vs2 T I2 r2 z2 t2 U=>?_;let{a1,r3,_}:=xD I2.hok e2;obtain rfl:C=C':=by
   have z:=Xo Obj.cls (Xf<|r2.symm.trans r3);exact Value.ref.inj z
  exact hh W s2 a0 _ D ea C od vs2 T (I2.untr I.ok) e2 r2 t2 {U.1,U.2.1,U.2.2.1,U.2.2.2.1,U.2.2.2.2.1,λp hp=>U.2.2.2.2.2 p<|Qu _ hp} q
end
variable{X:Cx}{E:St->XK}
def j9(CX:CXT)(X:Cx)(E:St->XK):Prop:=∀(W:Kf)(J:St)(H:Hp)(s:J')(e:Kb)(s':J'),Inv X W J H s->CX X.stack H s (E J) e s'->X.xe e s'
def G8{pn:Kf}:j9 (JV X.prog X.w) (X.tr pn E) E:=λW J H s e s' I h=>by
 have ok:Cx.Ok {X with pn:=X.pn++pn}:=⟨I.ok.mod,I.ok.kind,I.ok.glob,I.ok.blt,I.ok.above,I.ok.inj,I.ok.has,I.ok.cab,I.ok.hd,I.ok.frames,I.ok.stk,I.ok.exf,I.ok.bs,I.ok.bsz,I.ok.noex,I.ok.exfs,I.ok.funs,I.ok.frf⟩;have z:Inv {X with pn:=X.pn++pn} W J H s:=⟨ok,I.os,I.bare,I.base,I.loc,I.cell,I.free,I.freeC,I.pin,I.hok,I.len⟩;exact z.flies h λ_ _ _ q=>q
def ET(sp:Sp)(dvs:Ke)(E:St->XK)(t:TA):TE:=λJ H Q=>t J H λvs H1=>sp (vs++dvs) H1 Q (E J)
def EN(C:B')(m:Str)(sp:Sp)(dvs:Ke)(E:St->XK)(ta:TE)(t:TA):TE:=λJ H Q=>ta J H λx H1=>∃a dx fs,x= .ref a/\H1 a=some (.ins C dx fs)/\fs.lookup m=none/\
 t J H1 λvs H2=>sp (x::(vs++dvs)) H2 Q (E J)
section
variable{CX:CXT}{k:Nat}{f C:B'}{fd:Kt}{ps:Kc}{sp:Sp}{dvs:Ke}{ds:Kd}{x m:Str}{p pos apos:Pos}{e o:Expr}{es:Kx}{ta:TE}{t:TA}
def xL{W:Kf}{J:St}{H:Hp}{s:J'}{Q:VK}{us:Kd}{vs:Ke}(F:D3 X.prog X.w X.K X.mg X.base CX k f fd ps sp)(O:IB k X.A)(hb:Binds X.K fd ps ds)(hd:HV dvs ds)(hx:j9 CX X E)
  (I:Inv X W J H s) (r:HV vs us) (h:sp (vs++dvs) H Q (E J)):J6 X (call (.ref f) us) (EP X W J Q) X.xe s:=by
 have z:HV (vs++dvs) (us++ds):=r.append hd;have hl:(us++ds).length=ps.length:=by rw[<-z.length];exact F.len _ _ _ _ h
 refine wpAny_call<|codeAny_mono (F.run X.A X.stack s H {us,[]} (us++ds) (vs++dvs) Q (E J) O I.env0 (hb s us I.kIn hl) z h) λr s' hq=>?_;cases r with
 |error e=>exact hx W J H s e s' I hq
 |ok fl=>cases fl<;>first|exact I.after hq|exact False.elim hq
def qa(F:D3 X.prog X.w X.K X.mg X.base CX k f fd ps sp)(U:IB k X.A)(Y:Gl X x)(Z:X.mg x=some (.ref f))(hk:PySem.W.keepIn X.K (.ref f)=true)(hb:Binds X.K fd ps ds)(hd:HV dvs ds)(hx:j9 CX X E)
  (ha:PA X (e::es) t) (z:(x==(cf:Str))=false:=by decide) (he:starEach (e::es) X.env=(false,eval e X.env)::starEach es X.env:=by rfl) (O:(backTo pos<|starEach es X.env).any (·.1)=false:=by rfl):
  PE X (.Call (.Name x p) (e::es) [] pos) (ET sp dvs E t):=by
 intro W s J H Q I h;refine Xs<|cJ I Y Z ?_ z;refine QJ (h₀:=X.base) I.ok.mod.kin hk (HX (ha pos W s J H _ I h) λus s1 zz=>?_) he O;let{vs,H1,S,r,q}:=zz;refine{S.kIn,?_};exact xL F U hb hd hx S r q
def Av{pl:Sem Bool}(he:PE X o ta)(c:Jc X.K C)(U:fR X.K C m f)(F:D3 X.prog X.w X.K X.mg X.base CX k f fd ps sp)(hr:IB k X.A)(hb:Binds X.K fd ps ds)(hd:HV dvs ds)(hx:j9 CX X E)(ha:PA X (e::es) t)
  (z:starEach (e::es) X.env=(false,eval e X.env)::starEach es X.env:=by rfl) (O:(backTo pos<|starEach es X.env).any (·.1)=false:=by rfl)
  (ht:eval (.Call (.Attribute o m apos) (e::es) [] pos) X.env=(do
   let ov<-eval o X.env
   standAt apos.atName
   let(f,first)<-holding [ov] (getMethod ov m pl)
   callWith pos f first (backTo pos<|starEach (e::es) X.env) (backToKw pos<|keywordEach [] X.env)):=by rfl):
  PE X (.Call (.Attribute o m apos) (e::es) [] pos) (EN C m sp dvs E ta t):=by
 intro W s J H Q I h;refine Z7 (pl:=pl) (HX (he W s J H _ I h) λu s1 S=>?_) ht;let{x,H1,Y,rx,a,dx,fs,ex,ea,l,q}:=S;subst ex;obtain rfl:u=Value.ref a:=rx;refine lr Y ea c U l ?_;refine QJ (first:=[.ref a]) (h₀:=X.base) I.ok.mod.kin U.kp (HX (ha pos W s1 J H1 _ Y q) λus s2 zz=>?_) z O;let{vs,H2,Z,r,q2}:=zz;refine{Z.kIn,?_};exact xL (us:= .ref a::us) (vs:= .ref a::vs) F hr hb hd hx Z (.cons M r) q2
end
variable{T:B'}{P:Ki}{w:Kj}
def fB{X:Cx}:dA (JV P w) X E0:=λ_ _ _ _ _ _ _ zz=>by let{_,_,_,_,_,_,_,_,_,_,_,_,_,_,_,_,_,z}:=zz;exact z.elim
def jX(K:J5)(fd:Kt)(ps:Kc)(dvs:Ke):Prop:=∃ds,Binds K fd ps ds/\HV dvs ds
structure JY(K:J5)(x qual:Str)(st:Stmt)(f:B')(fd:Kt):Prop where
 ex:∃(oc:Kb)(od:Kg)(dV kV doc pm:Kb)(an:Kg)(cdv ct:Kb)(osl:Lf),
  fd=fnOf x qual (eZ st) (b8 st) (aj st) dV kV doc pm an cdv ct/\K.lookup f=some {oc,od,.func fd,osl}/\codeIn K cdv qual=true
 kp:keepIn K (.ref f)=true
section
variable{K:J5}{mg:Kq}{base:Heap}{x qual:Str}{st:Stmt}{f:B'}{fd:Kt}{N ps:Kc}{k:Nat}{sp:Sp}
def JY.ok(F:JY K x qual st f fd)(S:au N ps (aj st))(len:∀vs H Q E,sp vs H Q E->vs.length=ps.length)
  (I:∀(z:Kb)(A:Kp)(outer:Kr)(s:J')(H:Hp)(vs:Ke)(Q:VK)(E:XK),IB k (A.deeper<|envOfC qual (aj st) s.heap.objs.size f z)->sp vs H Q E->
   ∃t,Ij (hI IQ P w K mg base N qual (aj st) f z A outer s H E).nox (b8 st) t/\t {nx:=λ_ H'=>Q .non H',rt:=Q} (start N vs) H):D3 P w K mg base IQ (k+1) f fd ps sp:=by
 let{oc,od,dV,kV,Y,pm,an,z,ct,Z,rfl,lk,O}:=F.ex;refine sY lk O S len λA outer s H vs Q E hr U=>?_;let{t,h,q}:=I z A outer s H vs Q E hr U;exact⟨t,h.nox,q⟩
structure Gh(K:J5)(x qual:Str)(st:Stmt)(T f:B')(fd:Kt):Prop where
 toD:JY K x qual st f fd
 ex:∃(kV doc pm:Kb)(an:Kg)(cdv ct:Kb),fd=fnOf x qual (eZ st) (b8 st) (aj st) (.ref T) kV doc pm an cdv ct
def ye{Y:Kb}{od S:Kg}{O:Lf}{kV I U z ct:Kb}(l:K.lookup f=some {Y,od,.func<|fnOf x qual (eZ st) (b8 st) (aj st) (.ref T) kV I U S z ct,O})
  (c:codeIn K z qual=true) (k:keepIn K (.ref f)=true):Gh K x qual st T f (fnOf x qual (eZ st) (b8 st) (aj st) (.ref T) kV I U S z ct):={{{Y,od,_,kV,I,U,S,z,ct,O,M,l,c},k},⟨kV,I,U,S,z,ct,M⟩}
def eG{dd:Kg}{z:Ko}{n:Nat}{Y:Lf}{ds:Kd}(g:Nat)(hg:g+ds.length=ps.length)(F:Gh K x qual st T f fd)(Z:K.lookup T=some {.type cs,dd,.seq z n,Y})
  (h:∀(kV I S:Kb)(U:Kg)(O ct:Kb)(us:Kd),us.length=g->∃k,bindArgs (fnOf x qual (eZ st) (b8 st) (aj st) (.ref T) kV I S U O ct) {us,[]}=seqItems? (.ref T)>>=k/\k (some z)=pure (ps.zip<|us++ds)):
  Binds K fd ps ds:=by
 let{kV,I,S,U,O,ct,rfl}:=F.ex;intro s us X hl;let{k,h1,h2}:=h kV I S U O ct us (by rw[Q5]at hl;lia);exact BindsTo.of_defaults M (X _ _ Z) M h1 h2
end
variable{C e ea:B'}{A:Kp}{vs:Ko}{X:Cx}{ex:Expr}{h:Heap}{φ:K'}{H:Hp}{W pn:Kf}{od:Kg}{P:Ki}{s:J'}{J:St}{x:Str}{te:TE}{Q J3:Kn}{w:Kj}{E:XK}
def KH(P:Ki)(w:Kj):CXT:=λouter H s E e s'=>∃(ea C:B')(od:Kg)(vs:Ko)(T:B')(H':Hp),
 vs[2]?=some .none/\e= .ref ea/\s'.os=s.os/\AllBare s'.gens/\Un (JM outer) [] H H' s.heap s'.heap/\IR P w H' s'.heap/\H' ea=some (XO ea C od)/\s'.heap.get? ea=some (aw C od vs)/\1<vs.size/\
 Iz s'.heap ea vs T .none/\H' T=none/\s.heap.objs.size<=T/\E (.ref ea) od H'
def BD(X:Cx)(E:St->XK)(e:Kb)(s:J'):Prop:=∃(W:Kf)(J:St)(H:Hp)(ea C:B')(od:Kg)(vs:Ko)(φ:K'),
 vs[2]?=some .none/\e= .ref ea/\Inv X W J H s/\H ea=some (.ext φ)/\s.heap.get? ea=some (aw C od vs)/\1<vs.size/\(vs[1]?=some .none\/∃T,Iz s.heap ea vs T .none/\cK X W H T)/\E J (.ref ea) od (upd H ea<|XO ea C od)
def Gi(X:Cx)(E:XK)(e:Kb)(s:J'):Prop:=∃(W:Kf)(J:St)(H:Hp)(ea C:B')(od:Kg)(vs:Ko)(φ:K')(T:B'),
 e= .ref ea/\Inv X W J H s/\H ea=some (.ext φ)/\s.heap.get? ea=some (aw C od vs)/\1<vs.size/\Iz s.heap ea vs T (rawInt X.env.locals)/\cK X W H T/\E (.ref ea) od (upd H ea<|XO ea C od)
def yq(X:Cx)(E:XK):Prop:=∀e s,BD X (λ_=>E) e s->X.xe e s
def oO(X:Cx)(E:XK):Prop:=∀e s,Gi X E e s->X.xe e s
section
variable{K:J5}{mg:Kq}{base:Heap}{N:Kc}{qual:Str}{scope:Scope}{f:B'}{cd:Kb}{outer:Kr}
def lI:yq (hI (KH P w) P w K mg base N qual scope f cd A outer s H E) E:=λe s' h=>by
 let{W,J,H1,ea,C,od,vs,φ,hc,rfl,I,hx,U,hz,Y,q}:=h;show wpAny _ _ (leaving _<|.ref ea) _ _ s';unfold leaving;refine Xa<|eC I M M I.ok.frames hx U hz (Y.imp id .inl) λs2 vs2 T O Z z2 t2 S c2=>?_;refine{ea,C,od,vs2,T,_,c2.trans hc,M,O.os,O.bare,O.base,O.hok,BB,Z,z2,t2,S.1,?_,q};rcases S.2.2.2.1 with z|z
 .exact Xd (show T∈([]:Km) from z)<|by simp
 .exact z
def Cs:oO (hI (JV P w) P w K mg base N qual scope f cd A outer s H E) E:=λe s' h=>by
 let{W,J,H1,ea,C,od,vs,φ,T,rfl,I,hx,U,hz,tr,fp,q}:=h;show wpAny _ _ (leaving _<|.ref ea) _ _ s';unfold leaving;refine Xa<|eC I M M I.ok.frames hx U hz (.inr<|.inr ⟨T,tr,fp⟩) λs2 vs2 T O Y Z t2 S _=>?_;refine{ea,C,od,vs2,T,_,M,O.os,O.bare,O.base,O.hok,BB,Y,Z,t2,S.1,?_,q};rcases S.2.2.2.1 with z|z
 .exact Xd (show T∈([]:Km) from z)<|by simp
 .exact z
variable{st:Stmt}{fd:Kt}{ps:Kc}{k:Nat}{sp:Sp}
def IF.okC(F:IF K x qual st f fd)(S:au N ps (aj st))(len:∀vs H Q E,sp vs H Q E->vs.length=ps.length)
  (I:∀(z:Kb)(A:Kp)(outer:Kr)(s:J')(H:Hp)(vs:Ke)(Q:VK)(E:XK),IB k (A.deeper<|envOfC qual (aj st) s.heap.objs.size f z)->sp vs H Q E->
   ∃t,Ij (hI (KH P w) P w K mg base N qual (aj st) f z A outer s H E) (b8 st) t/\t {nx:=λ_ H'=>Q .non H',rt:=Q} (start N vs) H):D3 P w K mg base (KH P w) (k+1) f fd ps sp:=by
 let{oc,od,kV,Y,pm,an,z,ct,Z,rfl,lk,O}:=F.ex;exact sY lk O S len λA outer s H vs Q E hr U=>I z A outer s H vs Q E hr U
end
def im{pos:Pos}(hc:X.calm=true)(hx:yq X E)(he:PE X ex te):PS X (.Raise (some ex) none pos) (mW X.K te E):=by
 intro W s J H D I h;rw[arm_exec_Raise];refine Xa<|wpAny_standAt (mY (I.ok.hd hc)<|Xa<|HX (he W s J H _ I h) λv s1 zz=>?_);let{y,H1,O,U,ea,C,od,bm,Z,S,Y,q}:=zz;refine Xa<|wpAny_standAt<|Xj ?_;subst Z;cases (show v=Value.ref ea from U);let{nm,q',N,bs,sn,sub,ab,col,dd,k0,k1,k2,k3,k5,hK}:=Y.ob;let{t,z}:=oQ O.hok S;exact{ea,C,od,t,nm,q',N,bs,bm,sn,sub,ab,col,dd,k0,k1,k2,k3,k5,M,O.kIn _ _ hK,Y.mro,z,hx _ _ {W,J,H1,ea,C,od,_,_,M,M,O,S,z,(by show 1<6;decide),.inl M,q}}
noncomputable def XC(e C:B')(od:Kg):HO:= .ext λh=>∃vs,h.get? e=some (aw C od vs)/\1<vs.size/\vs[2]?=some .none
def GB(k:h.get? e=some (aw C od vs))(z:1<vs.size)(c:vs[2]?=some .none):HZ P w H h e (XC e C od):=
 {⟨vs,k,z,c⟩,{_,k},λ_ _ zz st=>by let{vs,k,z,c}:=zz;exact{vs,st _ k,z,c}}
def GC(ok:IR P w H h)(q:H e=some (XC e C od)):∃vs,h.get? e=some (aw C od vs)/\1<vs.size/\vs[2]?=some .none:=(ok e _ q).1
def gL:entryFor table "proto.unchain"=some Builtin.«proto.unchain»:=entryFor_of_tree (by kernel_rfl)
section
variable{prog:Ki}
def lH{h:B'}{z:Obj}{I:Ko}(O:s.heap.get? h=some z)(hd:z.data= .fields I)(hc:I[2]?=some .none)(q:Q .none s):
  wpAny (model prog w) A (runValue<|.builtin "proto.unchain" {[.ref e,.ref h,.ref h,.bool false],[]}) Q J3 s:=by
 refine wpAny_runValue<|codeAny_builtin gL ?_;unfold Builtin.«proto.unchain»;refine Xa<|wpAny_field O hd hc ?_;rw[Xe {_}];exact Xj q
def wI{env:Env}{y c:Sem Value}{Q:Flow->Shared->Prop}{h:B'}(hh:A.handled=some (.ref h))(a0:∀(s:Shared)(Q:Value->Shared->Prop),Q .none s->wpAny (model prog w) A c Q J3 s)
  (hw:wpAny (model prog w) A y (λv s1=>∃ea C od t nm q N bs bm sn sub ab col dd k0 k1 k2 k3 k5,v= .ref ea/\ea≠h/\s1.heap.get? C=some (excClassObj nm q C N bs bm true sn sub ab col dd k0 k1 k2 k3 k5 cb)/\HY bm/\
   s1.heap.get? ea=some (aw C od #[.ref t,.none,.none,.none,.bool false,.none])/\(∃Ch O vh,s1.heap.get? h=some (aw Ch O vh)/\vh[2]?=some .none)/\
   ∀h',(∀b o,b≠ea->s1.heap.get? b=some o->h'.get? b=some o)->h'.get? ea=some (aw C od #[.ref t,.none,.ref h,.none,.bool true,.none])->J3 (.ref ea) {s1 with heap:=h'}) J3 s):wpAny (model prog w) A (raiseStmt env (some y)<|some c) Q J3 s:=by
 unfold raiseStmt;refine Xa<|Xp hw (λv s1 z=>?_) λ_ _ z=>z;let{ea,C,od,t,nm,q,N,bs,bm,sn,sub,ab,col,dd,k0,k1,k2,k3,k5,rfl,S,U,B,he,{Ch,O,vh,hr,hv},hE}:=z;have cB:(Value.ref C::bm).contains (.type ff)=true:=by rw[Qo,B.bas,QP]
 have a1:C≠ea:=λz=>by
  rw[z,he]at U;have:=Xo Obj.data (Xf U);cases this
 refine Xa<|Xv (a0 _ _<|Xa<|Xj ?_);let{hp,g,d,tk,os}:=s1;have ex:∀(str:String)(Q:Kn),Q (.ref ea) ⟨hp,g,d,tk,os⟩->wpAny (model prog w) A (excFromValue (.ref ea) str) Q J3 ⟨hp,g,d,tk,os⟩:=λstr Q q=>by
  unfold excFromValue
  repeat (first|with_reducible refine wpAny_loadPart_at he ?_|with_reducible refine wpAny_loadPart_at U ?_|(with_reducible refine wpAny_isSubtype_exc U ?_;rw[cB])|wp_step)
  exact q
 refine Xa (Xv<|ex _ _ ?_)
 (try dsimp only)
 rw[Xe {_}];refine Xa (Xj ?_)
 (try dsimp only)
 have Z:=Heap.get?_update_self (Obj.mapFields (·.setIfInBounds 3 Value.none)) he (Obj.isFreed_of_fields<|Obj.data_mapFields (vs:= #[.ref t,.none,.none,.none,.bool false,.none]) M _);have o1:∀b,b≠ea->(hp.update ea (Obj.mapFields (·.setIfInBounds 3 Value.none))).get? b=hp.get? b:=λb z=>Xm _ _ (Ne.symm z);refine Xa (wpAny_setField he M (by show 3<6;decide) ?_)
 (try dsimp only)
 generalize hp.update ea (Obj.mapFields (·.setIfInBounds 3 Value.none))=h1 at Z o1⊢;have I:=Heap.get?_update_self (Obj.mapFields (·.setIfInBounds 4 (Value.bool true))) Z (Obj.isFreed_of_fields<|Obj.data_mapFields (vs:= #[.ref t,.none,.none,.none,.bool false,.none]) M _);have o2:∀b,b≠ea->(h1.update ea (Obj.mapFields (·.setIfInBounds 4 (Value.bool true)))).get? b=hp.get? b:=λb z=>(Xm _ _<|Ne.symm z).trans (o1 b z);refine Xa (wpAny_setField Z M (by show 4<6;decide) ?_)
 (try dsimp only)
 generalize h1.update ea (Obj.mapFields (·.setIfInBounds 4 (Value.bool true)))=h2 at I o2⊢;have I:h2.get? ea=some (aw C od #[.ref t,.none,.none,.none,.bool true,.none]):=I;have Y:=(o2 C a1).trans U;have a2:=(o2 h<|Ne.symm S).trans hr;clear Z o1
 repeat (first|with_reducible refine wpAny_loadPart_at I ?_|with_reducible refine wpAny_loadPart_at Y ?_|(with_reducible refine wpAny_isSubtype_exc Y ?_;rw[cB])|wp_step)
 show wpAny (model prog w) A (raiseNew<|.ref ea) _ _ _;unfold raiseNew;refine Xa<|wpAny_handled ?_;rw[hh]
 (try dsimp only)
 rw[Xe (by simp;exact Ne.symm S)];refine Xa<|Xv (lH a2 M hv ?_);refine Xa ?_;unfold updateField;refine Xa (wpAny_load I ?_)
 (try dsimp only)
 rw[Xe (by show 2<6;decide)];refine wpAny_update I<|wpAny_throw (hE _ (λb o z e=>?_) ?_)
 .exact(Xm _ _<|Ne.symm z).trans<|(o2 b z).trans e
 .exact Heap.get?_update_self _ I M
end
section
variable{M':Model}
def AE{Q:Ky}(I:Inv X W J H s)(S:X.stack=X.env::X.outer)(hf:X.env.frame=some X.env.locals)(hA:A.frames=some X.stack)
  (hx:H ea=some (.ext φ)) (hr:s.heap.get? ea=some (aw C od vs)) (hz:1<vs.size) (h1:vs[1]?=some .none)
  (q:∀h' O T,Inv X W J (upd H ea<|XO ea C od) {s with heap:=h'}->h'.get? ea=some (aw C od O)->1<O.size->Iz h' ea O T (rawInt X.env.locals)->cK X W (upd H ea<|XO ea C od) T->Q Unit.unit {s with heap:=h'}):
  wpAny M' A (noteFrame (.ref ea) X.env) Q J3 s:=by
 rw[S]at hA;have hl:s.heap.FunFrames X.base (X.env::X.outer):=S▸I.stack;have U:∀b∈JM (X.env::X.outer),H b=none:=S▸I.stkFree;refine lh hA hl hf hr h1 λh1 T' O n g1 g2 Z g4=>?_;have Y:IR X.prog X.w (upd H ea<|XO ea C od) h1:=n.hok I.hok U (λb z=>z.elim) hx g1 (g2.1▸hz);have a0:Un (JM X.stack) [] H (upd H ea<|XO ea C od) s.heap h1:=by
  rw[S];exact n.un (λb z=>z.elim) hx
 have I2:Inv X W J (upd H ea<|XO ea C od) {s with heap:=h1}:=I.call' (s':={s with heap:=h1}) M a0 Y I.bare λb hb=>nomatch hb
 refine q h1 O T' I2 g1 (g2.1▸hz) g4<|I.fpOk Z ?_;have neT:T'≠ea:=λz=>Xd (Xi hr) (ZI.mpr<|z▸Z);rw[ah neT];exact I.hok.fresh Z
def zx{T:B'}(I:Inv X W J H s)(Y:X.env.frame=some X.env.locals)(hx:H ea=some (.ext φ))(S:s.heap.get? ea=some (aw C od vs))(hz:1<vs.size)
  (tr:Iz s.heap ea vs T (rawInt X.env.locals)) (fp:cK X W H T) (q:E (.ref ea) od (upd H ea<|XO ea C od)) (Z:oO X E):cameBackBy M' A X.env X.xe (.ref ea) s:=by
 let{h1,ne,oT,ts,U,hd,h3}:=tr;have big:3<ts.size:=(QM.mp h3).1;unfold cameBackBy;refine Xa<|wpAny_field S M h1 ?_;rw[Xc (show ¬(Value.ref T==Value.none)=true by simp)];unfold setFlight;refine Xa<|wpAny_field S M h1 ?_;rw[Xe (show(Value.ref T !=Value.none)=true by simp),Y];have O:∀b,b≠T->(s.heap.update T (Obj.mapFields (·.setIfInBounds 3 ((some X.env.locals).elim Value.none λf=>rawInt f)))).get? b=s.heap.get? b:=λb z=>Xm _ _ (Ne.symm z);have new:=Heap.get?_update_self (Obj.mapFields (·.setIfInBounds 3 ((some X.env.locals).elim Value.none λf=>rawInt f))) U (Obj.isFreed_of_fields<|Obj.data_mapFields hd _);refine wpAny_setField U hd big<|Z _ _ {W,J,H,ea,C,od,vs,φ,T,M,?_,hx,(O ea<|Ne.symm ne).trans S,hz,{h1,ne,_,_,new,Obj.data_mapFields hd _,by simp[big]},fp,q};exact I.turned (t':=s.toks) (it:=T) (λb o z g=>(O b z).trans g) fp.1 fp.2.1 fp.2.2.2.1 fp.2.2.2.2.1 fp.2.2.2.2.2
end
abbrev Cx.trC(X:Cx)(pn:Kf)(E:St->XK):Cx:={X with pn:=X.pn++pn,xe:=BD {X with pn:=X.pn++pn} E}
abbrev Cx.suF(X:Cx)(ea:B'):Cx:={X with A:=X.A.mark (some<|.ref ea),calm:=false,xe:=notedBy (model X.prog X.w) (X.A.mark<|some<|.ref ea) X.env (cameBackBy (model X.prog X.w) X.A X.env X.xe)}
section
variable{np cp rp hp pos:Pos}{Dc:B'}{bm':Kd}{j:Nat}{body:Kz}{tb:(St->XK)->TS}
def Fd{E:St->XK}:j9 (KH X.prog X.w) (X.trC pn E) E:=λW J H s e s' I h=>by
 have ok:Cx.Ok {X with pn:=X.pn++pn}:=⟨I.ok.mod,I.ok.kind,I.ok.glob,I.ok.blt,I.ok.above,I.ok.inj,I.ok.has,I.ok.cab,I.ok.hd,I.ok.frames,I.ok.stk,I.ok.exf,I.ok.bs,I.ok.bsz,I.ok.noex,I.ok.exfs,I.ok.funs,I.ok.frf⟩;have O:Inv {X with pn:=X.pn++pn} W J H s:=⟨ok,I.os,I.bare,I.base,I.loc,I.cell,I.free,I.freeC,I.pin,I.hok,I.len⟩;let{ea,C,od,vs,T,H',hc,rfl,os,bare,un,hok,hx,S,hz,tr,U,Y,q}:=h;exact{W,J,H',ea,C,od,vs,_,hc,M,O.call' os un hok bare λb z=>Xd z (by simp),hx,S,hz,.inr {T,tr,O.fpOk Y U},by rw[lF hx];exact q}
def Inv.trC(I:Inv X W J H s)(E:St->XK):Inv (X.trC W E) [] J H s:=
 {⟨I.ok.mod,I.ok.kind,I.ok.glob,I.ok.blt,I.ok.above,I.ok.inj,I.ok.has,I.ok.cab,I.ok.hd,I.ok.frames,I.ok.stk,I.ok.exf,I.ok.bs,I.ok.bsz,I.ok.noex,I.ok.exfs,I.ok.funs,I.ok.frf⟩,I.os,I.bare,I.base,I.loc,I.cell,I.free,I.freeC,λp hp=>I.pin p (by simpa using hp),I.hok,I.len}
def Inv.untrC{E:St->XK}(ok:X.Ok)(I:Inv (X.trC pn E) W J H s):Inv X pn J H s:=
 {ok,I.os,I.bare,I.base,I.loc,I.cell,I.free,I.freeC,λp hp=>I.pin p<|Qu _ hp,I.hok,I.len}
def Inv.suF(I:Inv X W J H s)(ea:B'):Inv (X.suF ea) W J H s:=
 {{I.ok.mod,I.ok.kind,I.ok.glob,I.ok.blt,I.ok.above,I.ok.inj,I.ok.has,I.ok.cab,λz=>Xd z Q8,I.ok.frames,I.ok.stk,I.ok.exf,I.ok.bs,I.ok.bsz,I.ok.noex,I.ok.exfs,I.ok.funs,I.ok.frf},I.os,I.bare,I.base,I.loc,I.cell,I.free,I.freeC,I.pin,I.hok,I.len}
def Inv.unsuF(ok:X.Ok)(I:Inv (X.suF ea) W J H s):Inv X W J H s:=⟨ok,I.os,I.bare,I.base,I.loc,I.cell,I.free,I.freeC,I.pin,I.hok,I.len⟩
inductive Eo(K:J5)(ea C:B')(od:Kg)(E:XK)(v:V)(H2:Hp):Prop
 |mk(e2 C2 od2 bm2:_)(_:v= .ref e2)(_:e2≠ea)(_:H2 e2=some (XN e2 C2 od2))(_:H2 ea=some (XC ea C od))(_:I0 K C2 bm2)(_:E (.ref e2) od2 (upd (upd H2 ea<|XO ea C od) e2<|XO e2 C2 od2))
def GR(K:J5)(Dc:B')(tb:(St->XK)->TS)(te:TE)(E:XK):TS:=λD J H=>tb (λσ1 v od H1=>∃ea C bm,v= .ref ea/\H1 ea=some (XO ea C od)/\I0 K C bm/\subIn K (.ref C) (.ref Dc)=some true/\
 te σ1 (upd H1 ea<|XC ea C od) (Eo K ea C od E)) D J H
end
variable{Q:Bool->Shared->Prop}{J3:Kn}
section
variable{M':Model}{A:Kp}{s:J'}
variable{nm q nm' q' nm2 q2:Str}{C N C' N' C2 N2:B'}{bs bm bs' bm' bs2 bm2:Kd}{sn sn' sn2:Kc}{sub sub' sub2:Kd}{ab ab' ab2:Bool}{col col' col2:Option Bool}{dd dd' dd2:Kg}{k0 k1 k2 k3 k5 k0' k1' k2' k3' k5' l0 l1 l2 l3 l5:Lb}
def xl{e p:B'}{n:Nat}{od:Kg}{vs:Ko}(S:s.heap.get? C=some (excClassObj nm q C N bs bm true sn sub ab col dd k0 k1 k2 k3 k5 cb))
  (O:s.heap.get? C'=some (excClassObj nm' q' C' N' bs' bm' true sn' sub' ab' col' dd' k0' k1' k2' k3' k5' cb)) (B:HY bm')
  (z:s.heap.get? C2=some (excClassObj nm2 q2 C2 N2 bs2 bm2 true sn2 sub2 ab2 col2 dd2 l0 l1 l2 l3 l5 cb)) (U:HY bm2)
  {Y:Kg} {Z:Lf} (hp:s.heap.get? p=some {.type cs,Y,.seq #[.ref C',.ref C2] n,Z})
  (he:s.heap.get? e=some (aw C od vs)) (hb:(Value.ref C::bm).contains (.ref C')=true)
  (hq:Q true s):wpAny M' A (excMatches (.ref e)<|.ref p) Q J3 s:=by
 have cB:(Value.ref C'::bm').contains (.type ff)=true:=by rw[Qo,B.bas,QP]
 have I:(Value.ref C2::bm2).contains (.type ff)=true:=by rw[Qo,U.bas,QP]
 have f:=tc_notTuple;have f2:isSubtype (.type cs) (.type cs)=pure true:=by kernel_rfl
 let{a0,g,d,t,os}:=s;unfold excMatches
 repeat (first|with_reducible refine wpAny_loadPart_at he ?_|with_reducible refine wpAny_loadPart_at hp ?_|with_reducible refine wpAny_loadPart_at O ?_|(with_reducible refine wpAny_isSubtype_exc O ?_;rw[cB])|(with_reducible refine wpAny_isSubtype_exc S ?_;rw[hb])|(with_reducible refine wpAny_isSubtype_exc z ?_;rw[I])|with_reducible refine wpAny_loadPart_at z ?_|wp_step)
 exact hq
end
variable{C T e ea f h:B'}{A:Kp}{vs:Ko}{X:Cx}{ex:Expr}{Q:Flow->Shared->Prop}{fd:Kt}{base:Heap}{φ:K'}{H:Hp}{W pn:Kf}{outer:Kr}{body:Kz}{N ps:Kc}{bm bm':Kd}{M':Model}{j:Nat}{od:Kg}{pos:Pos}{P:Ki}{K:J5}{scope:Scope}{s:J'}{sp:Sp}{J:St}{qual x:Str}{te:TE}{J3:Kn}{w:Kj}{E:XK}
noncomputable def XV(e C:B')(od:Kg)(vs:Ko):HO:= .ext λh=>h.get? e=some (aw C od vs)/\1<vs.size
def K4(H:Hp)(h:Heap)(ea:B')(vs:Ko):Prop:=vs[2]?=some .none\/∃(e2 C2:B')(od2:Kg)(vs2:Ko),vs[2]?=some (.ref e2)/\e2≠ea/\H e2=some (XO e2 C2 od2)/\h.get? e2=some (aw C2 od2 vs2)/\1<vs2.size/\vs2[2]?=some .none
def K8(P:Ki)(w:Kj):CXT:=λouter H s E e s'=>∃(ea C:B')(od:Kg)(vs:Ko)(T:B')(H':Hp),
 K4 H' s'.heap ea vs/\e= .ref ea/\s'.os=s.os/\AllBare s'.gens/\Un (JM outer) [] H H' s.heap s'.heap/\IR P w H' s'.heap/\H' ea=some (XO ea C od)/\s'.heap.get? ea=some (aw C od vs)/\1<vs.size/\
 Iz s'.heap ea vs T .none/\H' T=none/\s.heap.objs.size<=T/\E (.ref ea) od H'
def xz(X:Cx)(E:St->XK)(e:Kb)(s:J'):Prop:=∃(W:Kf)(J:St)(H:Hp)(ea C:B')(od:Kg)(vs:Ko)(φ:K'),
 K4 H s.heap ea vs/\e= .ref ea/\Inv X W J H s/\H ea=some (.ext φ)/\s.heap.get? ea=some (aw C od vs)/\1<vs.size/\(vs[1]?=some .none\/∃T,Iz s.heap ea vs T .none/\cK X W H T)/\E J (.ref ea) od (upd H ea<|XO ea C od)
def Gj(X:Cx)(E:XK)(e:Kb)(s:J'):Prop:=∃(W:Kf)(J:St)(H:Hp)(ea C:B')(od:Kg)(vs:Ko)(φ:K')(T:B'),
 K4 H s.heap ea vs/\e= .ref ea/\Inv X W J H s/\H ea=some (.ext φ)/\s.heap.get? ea=some (aw C od vs)/\1<vs.size/\Iz s.heap ea vs T (rawInt X.env.locals)/\cK X W H T/\E (.ref ea) od (upd H ea<|XO ea C od)
def yp(X:Cx)(E:XK):Prop:=∀e s,xz X (λ_=>E) e s->X.xe e s
def oP(X:Cx)(E:XK):Prop:=∀e s,Gj X E e s->X.xe e s
def Inv.fix(I:Inv X W J H s)(q:H e=some (XO e C od))(k:s.heap.get? e=some (aw C od vs))(z:1<vs.size):Inv X W J (upd H e<|XV e C od vs) s:=
 I.write (x:=e) (e:=e) (h':=s.heap) (t':=s.toks) (by rw[q];exact Xn) (.inl M) (λ_ _ _ e=>e) {_,k} {⟨k,z⟩,{_,k},λ_ _ zz st=>by let{k,z}:=zz;exact{st _ k,z}}
def Inv.unfix(I:Inv X W J H s)(q:H e=some (XV e C od vs)):Inv X W J (upd H e<|XO e C od) s/\s.heap.get? e=some (aw C od vs)/\1<vs.size:=by
 obtain⟨k,z⟩:s.heap.get? e=some (aw C od vs)/\1<vs.size:=(I.hok e _ q).1;exact{I.write (x:=e) (e:=e) (h':=s.heap) (t':=s.toks) (by rw[q];exact Xn) (.inl M) (λ_ _ _ e=>e) {_,k}<|sG k z,k,z}
def lG{a b:B'}{o I o2:HO}(n:a≠b)(h:H a=some o):upd (upd (upd H a I) b o2) a o=upd H b o2:=by
 funext c;by_cases ca:c=a
 .subst ca;rw[BB,ah n,h]
 .rw[ah ca];by_cases z:c=b
  .subst z;rw[BB,BB]
  .rw[ah z,ah z,ah ca]
def lg{Q:Ky}(I:Inv X W J H s)(Z:X.stack=X.env::X.outer)(hf:X.env.frame=some X.env.locals)(hA:A.frames=some X.stack)
  (hx:H ea=some (.ext φ)) (hr:s.heap.get? ea=some (aw C od vs)) (hz:1<vs.size) (ht:vs[1]?=some .none\/(∃T,Iz s.heap ea vs T .none/\cK X W H T)\/∃T,Iz s.heap ea vs T (rawInt X.env.locals)/\cK X W H T) (c:K4 H s.heap ea vs)
  (q:∀s' O T,Inv X W J (upd H ea<|XO ea C od) s'->s'.heap.get? ea=some (aw C od O)->1<O.size->Iz s'.heap ea O T .none->cK X W (upd H ea<|XO ea C od) T->K4 (upd H ea<|XO ea C od) s'.heap ea O->Q Unit.unit s'):
  wpAny M' A (noteFrame (.ref ea) X.env) (λ_ s1=>wpAny M' A (setFlight (.ref ea) none) Q J3 s1) J3 s:=by
 rcases c with c|⟨e2,C2,S,vs2,c,ne,h2,k2,z2,n2⟩
 .exact eC I Z hf hA hx hr hz ht λs' O T I' r' z' t' f' c'=>q s' O T I' r' z' t' f' (.inl<|c'.trans c)
 .have I':=I.fix h2 k2 z2;have fp:∀{T},cK X W H T->cK X W (upd H e2<|XV e2 C2 S vs2) T:=λ{T} f=>{by rw[ah (λz=>by have:=f.1;rw[z,h2]at this;cases this)];exact f.1,f.2};refine eC I' Z hf hA (by rwa[ah (Ne.symm ne)]) hr hz (ht.imp id λz=>z.imp (λzz=>by let{T,t,f}:=zz;exact{T,t,fp f}) λzz=>by let{T,t,f}:=zz;exact{T,t,fp f}) λs' O T I' r' z' t' f' c'=>?_;let{I2,k3,_}:=I'.unfix (e:=e2) (C:=C2) (od:=S) (vs:=vs2) (by rw[ah ne,BB]);have f2:cK X W (upd H ea<|XO ea C od) T:=by
   refine{?_,f'.2};have Y:=f'.1;by_cases ct:T=e2
   .rw[ct,ah ne,BB]at Y;cases Y
   by_cases U:T=ea
   .rw[U,BB]at Y;cases Y
   rw[ah U,ah ct]at Y;rwa[ah U]
  rw[lG ne h2]at I2;exact q s' O T I2 r' z' t' f2<|.inr {e2,C2,S,vs2,c'.trans c,ne,by rwa[ah ne],k3,z2,n2}
section
variable{mg:Kq}{cd:Kb}
def oF:yp (hI (K8 P w) P w K mg base N qual scope f cd A outer s H E) E:=λe s' h=>by
 let{W,J,H1,ea,C,od,vs,φ,hc,rfl,I,hx,U,hz,Y,q}:=h;show wpAny _ _ (leaving _<|.ref ea) _ _ s';unfold leaving;refine Xa<|lg I M M I.ok.frames hx U hz (Y.imp id .inl) hc λs2 vs2 T O Z z2 t2 S c2=>?_;refine{ea,C,od,vs2,T,_,c2,M,O.os,O.bare,O.base,O.hok,BB,Z,z2,t2,S.1,?_,q};rcases S.2.2.2.1 with z|z
 .exact Xd (show T∈([]:Km) from z)<|by simp
 .exact z
def Ct:oP (hI (K8 P w) P w K mg base N qual scope f cd A outer s H E) E:=λe s' h=>by
 let{W,J,H1,ea,C,od,vs,φ,T,hc,rfl,I,hx,U,hz,tr,fp,q}:=h;show wpAny _ _ (leaving _<|.ref ea) _ _ s';unfold leaving;refine Xa<|lg I M M I.ok.frames hx U hz (.inr<|.inr ⟨T,tr,fp⟩) hc λs2 vs2 T O Y Z t2 S c2=>?_;refine{ea,C,od,vs2,T,_,c2,M,O.os,O.bare,O.base,O.hok,BB,Y,Z,t2,S.1,?_,q};rcases S.2.2.2.1 with z|z
 .exact Xd (show T∈([]:Km) from z)<|by simp
 .exact z
def D3.toD{k:Nat}(F:D3 P w K mg base (KH P w) k f fd ps sp):D3 P w K mg base (K8 P w) k f fd ps sp:=
 {F.len,λA outer s H args us vs Q E I he hb O hs=>codeAny_mono (F.run A outer s H args us vs Q E I he hb O hs) λr s' z=>by
  cases r with
  |ok fl=>cases fl<;>exact z
  |error e=>
   let{ea,C,od,vs,T,H',c,z}:=z;exact{ea,C,od,vs,T,H',.inl c,z}}
variable{st:Stmt}{k:Nat}
def JY.okC(F:JY K x qual st f fd)(S:au N ps (aj st))(len:∀vs H Q E,sp vs H Q E->vs.length=ps.length)
  (I:∀(z:Kb)(A:Kp)(outer:Kr)(s:J')(H:Hp)(vs:Ke)(Q:VK)(E:XK),IB k (A.deeper<|envOfC qual (aj st) s.heap.objs.size f z)->sp vs H Q E->
   ∃t,Ij (hI (KH P w) P w K mg base N qual (aj st) f z A outer s H E) (b8 st) t/\t {nx:=λ_ H'=>Q .non H',rt:=Q} (start N vs) H):D3 P w K mg base (KH P w) (k+1) f fd ps sp:=by
 let{oc,od,dV,kV,Y,pm,an,z,ct,Z,rfl,lk,O}:=F.ex;exact sY lk O S len λA outer s H vs Q E hr U=>I z A outer s H vs Q E hr U
def IF.okD(F:IF K x qual st f fd)(S:au N ps (aj st))(len:∀vs H Q E,sp vs H Q E->vs.length=ps.length)
  (I:∀(z:Kb)(A:Kp)(outer:Kr)(s:J')(H:Hp)(vs:Ke)(Q:VK)(E:XK),IB k (A.deeper<|envOfC qual (aj st) s.heap.objs.size f z)->sp vs H Q E->
   ∃t,Ij (hI (K8 P w) P w K mg base N qual (aj st) f z A outer s H E) (b8 st) t/\t {nx:=λ_ H'=>Q .non H',rt:=Q} (start N vs) H):D3 P w K mg base (K8 P w) (k+1) f fd ps sp:=by
 let{oc,od,kV,Y,pm,an,z,ct,Z,rfl,lk,O}:=F.ex;exact sY lk O S len λA outer s H vs Q E hr U=>I z A outer s H vs Q E hr U
end
abbrev Cx.trD(X:Cx)(pn:Kf)(E:St->XK):Cx:={X with pn:=X.pn++pn,xe:=xz {X with pn:=X.pn++pn} E}
def Inv.fliesD{E E':St->XK}{outer:Kr}{e:Kb}{s':J'}(I:Inv X W J H s)(h:K8 X.prog X.w X.stack H s (E J) e s'):xz X E e s':=by
 let{ea,C,od,vs,T,H',hc,rfl,os,bare,un,hok,hx,O,hz,tr,S,U,q}:=h;exact{W,J,H',ea,C,od,vs,_,hc,M,I.call' os un hok bare λb z=>Xd z (by simp),hx,O,hz,.inr {T,tr,I.fpOk U S},by rw[lF hx];exact q}
def Az{E:St->XK}:j9 (K8 X.prog X.w) (X.trD pn E) E:=λW J H s e s' I h=>by
 have ok:Cx.Ok {X with pn:=X.pn++pn}:=⟨I.ok.mod,I.ok.kind,I.ok.glob,I.ok.blt,I.ok.above,I.ok.inj,I.ok.has,I.ok.cab,I.ok.hd,I.ok.frames,I.ok.stk,I.ok.exf,I.ok.bs,I.ok.bsz,I.ok.noex,I.ok.exfs,I.ok.funs,I.ok.frf⟩;have z:Inv {X with pn:=X.pn++pn} W J H s:=⟨ok,I.os,I.bare,I.base,I.loc,I.cell,I.free,I.freeC,I.pin,I.hok,I.len⟩;exact Inv.fliesD (E':=E) (outer:=X.outer) z h
def Inv.trD(I:Inv X W J H s)(E:St->XK):Inv (X.trD W E) [] J H s:=
 {⟨I.ok.mod,I.ok.kind,I.ok.glob,I.ok.blt,I.ok.above,I.ok.inj,I.ok.has,I.ok.cab,I.ok.hd,I.ok.frames,I.ok.stk,I.ok.exf,I.ok.bs,I.ok.bsz,I.ok.noex,I.ok.exfs,I.ok.funs,I.ok.frf⟩,I.os,I.bare,I.base,I.loc,I.cell,I.free,I.freeC,λp hp=>I.pin p (by simpa using hp),I.hok,I.len}
def Inv.untrD{E:St->XK}(ok:X.Ok)(I:Inv (X.trD pn E) W J H s):Inv X pn J H s:=
 {ok,I.os,I.bare,I.base,I.loc,I.cell,I.free,I.freeC,λp hp=>I.pin p<|Qu _ hp,I.hok,I.len}
def mZ(hc:X.calm=true)(hx:yp X E)(he:PE X ex te):PS X (.Raise (some ex) none pos) (mW X.K te E):=by
 intro W s J H D I h;rw[arm_exec_Raise];refine Xa<|wpAny_standAt (mY (I.ok.hd hc)<|Xa<|HX (he W s J H _ I h) λv s1 zz=>?_);let{y,H1,O,U,ea,C,od,bm,Z,S,Y,q}:=zz;refine Xa<|wpAny_standAt<|Xj ?_;subst Z;cases (show v=Value.ref ea from U);let{nm,q',N,bs,sn,sub,ab,col,dd,k0,k1,k2,k3,k5,hK}:=Y.ob;let{t,z}:=oQ O.hok S;exact{ea,C,od,t,nm,q',N,bs,bm,sn,sub,ab,col,dd,k0,k1,k2,k3,k5,M,O.kIn _ _ hK,Y.mro,z,hx _ _ {W,J,H1,ea,C,od,_,_,.inl M,M,O,S,z,(by show 1<6;decide),.inl M,q}}
section
variable{mg:Kq}{cd:Kb}
def vm:dA (K8 P w) (hI (K8 P w) P w K mg base N qual scope f cd A outer s H E) E:=
 λ_ _ _ _ _ _ I h=>oF _ _ (Inv.fliesD (E:=λ_=>E) (E':=λ_=>E) (outer:=outer) I h)
end
def yU{Q:Ky}(I:Inv X W J H s)(U:X.stack=X.env::X.outer)(hf:X.env.frame=some X.env.locals)(hA:A.frames=some X.stack)
  (hx:H ea=some (.ext φ)) (hr:s.heap.get? ea=some (aw C od vs)) (hz:1<vs.size) (h1:vs[1]?=some .none) (c:K4 H s.heap ea vs)
  (q:∀h' O T,Inv X W J (upd H ea<|XO ea C od) {s with heap:=h'}->h'.get? ea=some (aw C od O)->1<O.size->Iz h' ea O T (rawInt X.env.locals)->cK X W (upd H ea<|XO ea C od) T->K4 (upd H ea<|XO ea C od) h' ea O->Q Unit.unit {s with heap:=h'}):
  wpAny M' A (noteFrame (.ref ea) X.env) Q J3 s:=by
 rw[U]at hA;have hl:s.heap.FunFrames X.base (X.env::X.outer):=U▸I.stack;have S:∀b∈JM (X.env::X.outer),H b=none:=U▸I.stkFree;refine lh hA hl hf hr h1 λh1 T' O n g1 Z g3 g4=>?_;have Y:IR X.prog X.w (upd H ea<|XO ea C od) h1:=n.hok I.hok S (λb z=>z.elim) hx g1 (Z.1▸hz);have a0:Un (JM X.stack) [] H (upd H ea<|XO ea C od) s.heap h1:=by
  rw[U];exact n.un (λb z=>z.elim) hx
 have I2:Inv X W J (upd H ea<|XO ea C od) {s with heap:=h1}:=I.call' (s':={s with heap:=h1}) M a0 Y I.bare λb hb=>nomatch hb
 refine q h1 O T' I2 g1 (Z.1▸hz) g4 (I.fpOk g3 ?_) (c.imp (Z.2.trans ·) λzz=>by let{e2,C2,a1,vs2,c,ne,h2,k2,z2,n2}:=zz;exact{e2,C2,a1,vs2,Z.2.trans c,ne,by rwa[ah ne],n.keep e2 _ k2 (λm=>by rw[S _ m]at h2;cases h2) ne<|λz=>z.elim,z2,n2});have neT:T'≠ea:=λz=>Xd (Xi hr) (ZI.mpr<|z▸g3);rw[ah neT];exact I.hok.fresh g3
def xo(I:Inv X W J H s)(Z:X.env.frame=some X.env.locals)(hx:H ea=some (.ext φ))(S:s.heap.get? ea=some (aw C od vs))(hz:1<vs.size)(c:K4 H s.heap ea vs)
  (tr:Iz s.heap ea vs T (rawInt X.env.locals)) (fp:cK X W H T) (q:E (.ref ea) od (upd H ea<|XO ea C od)) (hX:oP X E):cameBackBy M' A X.env X.xe (.ref ea) s:=by
 let{h1,ne,oT,ts,Y,hd,h3}:=tr;have big:3<ts.size:=(QM.mp h3).1;unfold cameBackBy;refine Xa<|wpAny_field S M h1 ?_;rw[Xc (show ¬(Value.ref T==Value.none)=true by simp)];unfold setFlight;refine Xa<|wpAny_field S M h1 ?_;rw[Xe (show(Value.ref T !=Value.none)=true by simp),Z];have O:∀b,b≠T->(s.heap.update T (Obj.mapFields (·.setIfInBounds 3 ((some X.env.locals).elim Value.none λf=>rawInt f)))).get? b=s.heap.get? b:=λb z=>Xm _ _ (Ne.symm z);have new:=Heap.get?_update_self (Obj.mapFields (·.setIfInBounds 3 ((some X.env.locals).elim Value.none λf=>rawInt f))) Y (Obj.isFreed_of_fields<|Obj.data_mapFields hd _);refine wpAny_setField Y hd big<|hX _ _ {W,J,H,ea,C,od,vs,φ,T,?_,M,?_,hx,(O ea<|Ne.symm ne).trans S,hz,{h1,ne,_,_,new,Obj.data_mapFields hd _,by simp[big]},fp,q}
 .exact c.imp id λzz=>by let{e2,C2,U,vs2,c,ne,h2,k2,z2,n2}:=zz;exact{e2,C2,U,vs2,c,ne,h2,(O e2 λz=>by have:=fp.1;rw[<-z,h2]at this;cases this).trans k2,z2,n2}
 .exact I.turned (t':=s.toks) (it:=T) (λb o z g=>(O b z).trans g) fp.1 fp.2.1 fp.2.2.2.1 fp.2.2.2.2.1 fp.2.2.2.2.2
section
variable{np cp rp hp:Pos}{Dc:B'}{tb:(St->XK)->TS}
def Ak(ok:X.Ok)(Z:X.stack=X.env::X.outer)(hf:X.env.frame=some X.env.locals)(hX:oP X E)(he:PE (X.sui ea) ex te)(I:Inv X W J H s)(h:te J H (Eo X.K ea C od E)):
  wpAny (model X.prog X.w) (X.A.mark<|some<|.ref ea) (exec (.Raise (some ex) (some<|.Constant .none j cp) rp) X.env) Q (X.suF ea).xe s:=by
 have z:PE (X.suF ea) ex te:=PE.nox (X:=X.suF ea) he;rw[arm_exec_Raise];refine Xa<|wpAny_standAt (wI (h:=ea) M (λs1 Q1 q1=>Xa<|Constant_none<|Xa<|wpAny_standAt<|Xj q1)<|Xa<|HX (z W s J H _ (I.suF ea) h) λv s1 zz=>?_);let{y,H1,O,ry,e2,C2,S,bm,ev,ne,hn,hc,Y,q}:=zz;refine Xa<|wpAny_standAt<|Xj ?_;subst ev;cases (show v=Value.ref e2 from ry);have O:Inv X W J H1 s1:=O.unsuF ok;let{nm,q',N,bs,sn,sub,ab,col,dd,k0,k1,k2,k3,k5,hK}:=Y.ob;let{t,z}:=oQ O.hok hn;let{vh,U,hz,hv}:=GC O.hok hc;refine{e2,C2,S,t,nm,q',N,bs,bm,sn,sub,ab,col,dd,k0,k1,k2,k3,k5,M,ne,O.kIn _ _ hK,Y.mro,z,⟨C,od,vh,U,hv⟩,λh' keep new=>?_};have I2:Inv X W J (upd H1 ea<|XO ea C od) {s1 with heap:=s1.heap}:=O.write (x:=ea) (e:=ea) (t':=s1.toks) (by rw[hc];exact Xn) (.inl M) (λ_ _ _ e=>e) {_,U} (sG U hz);have I3:Inv X W J (upd (upd H1 ea<|XO ea C od) e2<|XO e2 C2 S) {s1 with heap:=h'}:=I2.write (x:=e2) (e:=e2) (t':=s1.toks) (by rw[ah ne,hn];exact Xn) (.inl M) keep {_,new} (sG new<|by show 1<6;decide);show wpAny _ _ (noteFrame (.ref e2) X.env) _ _ _;refine yU I3 Z hf (show(X.A.mark<|some<|.ref ea).frames=some X.stack from I.ok.frames) BB new (by show 1<6;decide) M (.inr {ea,C,od,vh,M,Ne.symm ne,by rw[ah (Ne.symm ne),BB],keep _ _ (Ne.symm ne) U,hz,hv}) λh2 vs2 T I4 r4 z4 t4 f4 c4=>?_;rw[bS]at I4 f4 c4;exact xo I4 hf BB r4 z4 c4 t4 f4 (by rw[bS];exact q) hX
def CQ(a0:X.stack=X.env::X.outer)(hf:X.env.frame=some X.env.locals)(hb:∀pn E,Ij (X.trC pn E) body (tb E))(hg:Gl X x)(hm:X.mg x=some (.ref Dc))(Z:I0 X.K Dc bm')(hX:oP X E)(he:∀ea,PE (X.sui ea) ex te)(a2:(x==(cf:Str))=false:=by decide):
  PS X (.Try body [.ExceptHandler (some<|.Name x np) none [.Raise (some ex) (some<|.Constant .none j cp) rp] hp] [] [] pos) (GR X.K Dc tb te E):=by
 intro W s J H D I h;refine wpAny_Try_except<|Xp (hb W _ [] s J H D (I.trC _) h) (λf s1 z=>?_) λe s1 z=>?_
 .cases f with
  |next=>
   let{O,H',S,q}:=z;exact wpAny_execs_nil {O,H',S.untrC I.ok,q}
  |brk=>
   let{O,H',S,q}:=z;exact{O,H',S.untrC I.ok,q}
  |cont=>
   let{O,H',S,q}:=z;exact{O,H',S.untrC I.ok,q}
  |ret u=>
   let{v,O,H',S,rv,q}:=z;exact{v,O,H',S.untrC I.ok,rv,q}
 .let{a3,U,H1,ea,C,od,vs,φ,a4,rfl,I1,hx,hr,hz,ht,ea',C',bm,e1,e2,Y,a1,q}:=z;obtain rfl:ea=ea':=Value.ref.inj e1;refine eC (X:={X with pn:=X.pn++W}) I1 a0 hf I1.ok.frames hx hr hz (ht.imp id .inl) λs2 vs2 T I2 r2 z2 t2 f2 c2=>?_;let{a5,r3,_}:=xD I2.hok e2;obtain rfl:C=C':=by
   have z:=Xo Obj.cls (Xf<|r2.symm.trans r3);exact Value.ref.inj z
  have I3:Inv X W U (upd H1 ea<|XO ea C od) s2:=I2.untr I.ok;have f3:cK X W (upd H1 ea<|XO ea C od) T:={f2.1,f2.2.1,f2.2.2.1,f2.2.2.2.1,f2.2.2.2.2.1,λp hp=>f2.2.2.2.2.2 p<|Qu _ hp};refine xP I3 r2 hg hm Z Y a1 a2 (λ_=>?_) (λz=>nomatch z);refine codeAny_handlers_suite<|fF (l:=[]) r2 t2 λh' g1 g2 g3 g4 g5=>?_;have I4:Inv X W U (upd H1 ea<|XO ea C od) {s2 with heap:=h'}:=I3.turned (t':=s2.toks) (it:=T) g1 f3.1 f3.2.1 f3.2.2.2.1 f3.2.2.2.2.1 f3.2.2.2.2.2;have I5:Inv X W U (upd (upd H1 ea<|XO ea C od) ea<|XC ea C od) {s2 with heap:=h'}:=I4.write (x:=ea) (e:=ea) (t':=s2.toks) (by rw[BB];exact Xn) (.inl M) (λ_ _ _ e=>e) {_,g2} (GB g2 z2<|c2.trans a4);exact wpAny_execs_cons<|Ak I.ok a0 hf hX (he ea) I5 q
end
def Ch2(hp:Heap)(ea h:B')(vh:Ko):Prop:=vh[2]?=some .none\/∃(c2 C2:B')(od2:Kg)(v2:Ko),vh[2]?=some (.ref c2)/\c2≠ea/\c2≠h/\hp.get? c2=some (aw C2 od2 v2)/\v2[2]?=some .none
section
variable{prog:Ki}
def uL{S:B'}{z:Kg}{I:Ko}{Q:Kn}(O:s.heap.get? h=some (aw S z I))(hc:Ch2 s.heap e h I)(q:Q .none s):
  wpAny (model prog w) A (runValue<|.builtin "proto.unchain" {[.ref e,.ref h,.ref h,.bool false],[]}) Q J3 s:=by
 rcases hc with hc|⟨c2,C2,U,v2,Y,Z,z3,z4,z5⟩
 .exact lH O M hc q
 refine wpAny_runValue<|codeAny_builtin gL ?_;unfold Builtin.«proto.unchain»;refine Xa<|wpAny_field O M Y ?_;rw[Xc (by simp),Xc (by simpa using Z),Xc (by simpa using z3)];refine Xa<|Xj (Xj {by kernel_rfl,codeAny_builtin gL ?_});unfold Builtin.«proto.unchain»;refine Xa<|wpAny_field z4 M z5 ?_;rw[Xe {_}];exact Xj q
def wH{env:Env}{y c:Sem Value}(hh:A.handled=some (.ref h))(a0:∀(s:Shared)(Q:Value->Shared->Prop),Q .none s->wpAny (model prog w) A c Q J3 s)
  (hw:wpAny (model prog w) A y (λv s1=>∃ea C od t nm q N bs bm sn sub ab col dd k0 k1 k2 k3 k5,v= .ref ea/\ea≠h/\s1.heap.get? C=some (excClassObj nm q C N bs bm true sn sub ab col dd k0 k1 k2 k3 k5 cb)/\HY bm/\
   s1.heap.get? ea=some (aw C od #[.ref t,.none,.none,.none,.bool false,.none])/\(∃Ch O vh,s1.heap.get? h=some (aw Ch O vh)/\Ch2 s1.heap ea h vh)/\
   ∀h',(∀b o,b≠ea->s1.heap.get? b=some o->h'.get? b=some o)->h'.get? ea=some (aw C od #[.ref t,.none,.ref h,.none,.bool true,.none])->J3 (.ref ea) {s1 with heap:=h'}) J3 s):wpAny (model prog w) A (raiseStmt env (some y)<|some c) Q J3 s:=by
 unfold raiseStmt;refine Xa<|Xp hw (λv s1 z=>?_) λ_ _ z=>z;let{ea,C,od,t,nm,q,N,bs,bm,sn,sub,ab,col,dd,k0,k1,k2,k3,k5,rfl,S,U,B,he,{Ch,O,vh,hr,hv},hE}:=z;have cB:(Value.ref C::bm).contains (.type ff)=true:=by rw[Qo,B.bas,QP]
 have a1:C≠ea:=λz=>by
  rw[z,he]at U;have:=Xo Obj.data (Xf U);cases this
 refine Xa<|Xv (a0 _ _<|Xa<|Xj ?_);let{hp,g,d,tk,os}:=s1;have ex:∀(str:String)(Q:Kn),Q (.ref ea) ⟨hp,g,d,tk,os⟩->wpAny (model prog w) A (excFromValue (.ref ea) str) Q J3 ⟨hp,g,d,tk,os⟩:=λstr Q q=>by
  unfold excFromValue
  repeat (first|with_reducible refine wpAny_loadPart_at he ?_|with_reducible refine wpAny_loadPart_at U ?_|(with_reducible refine wpAny_isSubtype_exc U ?_;rw[cB])|wp_step)
  exact q
 refine Xa (Xv<|ex _ _ ?_)
 (try dsimp only)
 rw[Xe {_}];refine Xa (Xj ?_)
 (try dsimp only)
 have Z:=Heap.get?_update_self (Obj.mapFields (·.setIfInBounds 3 Value.none)) he (Obj.isFreed_of_fields<|Obj.data_mapFields (vs:= #[.ref t,.none,.none,.none,.bool false,.none]) M _);have o1:∀b,b≠ea->(hp.update ea (Obj.mapFields (·.setIfInBounds 3 Value.none))).get? b=hp.get? b:=λb z=>Xm _ _ (Ne.symm z);refine Xa (wpAny_setField he M (by show 3<6;decide) ?_)
 (try dsimp only)
 generalize hp.update ea (Obj.mapFields (·.setIfInBounds 3 Value.none))=h1 at Z o1⊢;have I:=Heap.get?_update_self (Obj.mapFields (·.setIfInBounds 4 (Value.bool true))) Z (Obj.isFreed_of_fields<|Obj.data_mapFields (vs:= #[.ref t,.none,.none,.none,.bool false,.none]) M _);have o2:∀b,b≠ea->(h1.update ea (Obj.mapFields (·.setIfInBounds 4 (Value.bool true)))).get? b=hp.get? b:=λb z=>(Xm _ _<|Ne.symm z).trans (o1 b z);refine Xa (wpAny_setField Z M (by show 4<6;decide) ?_)
 (try dsimp only)
 generalize h1.update ea (Obj.mapFields (·.setIfInBounds 4 (Value.bool true)))=h2 at I o2⊢;have I:h2.get? ea=some (aw C od #[.ref t,.none,.none,.none,.bool true,.none]):=I;have Y:=(o2 C a1).trans U;have a2:=(o2 h<|Ne.symm S).trans hr;clear Z o1
 repeat (first|with_reducible refine wpAny_loadPart_at I ?_|with_reducible refine wpAny_loadPart_at Y ?_|(with_reducible refine wpAny_isSubtype_exc Y ?_;rw[cB])|wp_step)
 show wpAny (model prog w) A (raiseNew<|.ref ea) _ _ _;unfold raiseNew;refine Xa<|wpAny_handled ?_;rw[hh]
 (try dsimp only)
 rw[Xe (by simp;exact Ne.symm S)];refine Xa<|Xv (uL a2 (hv.imp id λzz=>by let{c2,C2,a3,v2,z1,z2,z3,z4,z5}:=zz;exact{c2,C2,a3,v2,z1,z2,z3,(o2 c2 z2).trans z4,z5}) ?_);refine Xa ?_;unfold updateField;refine Xa (wpAny_load I ?_)
 (try dsimp only)
 rw[Xe (by show 2<6;decide)];refine wpAny_update I<|wpAny_throw (hE _ (λb o z e=>?_) ?_)
 .exact(Xm _ _<|Ne.symm z).trans<|(o2 b z).trans e
 .exact Heap.get?_update_self _ I M
end
section
variable{nm q nm' q' nm2 q2:Str}{N C' N' C2 N2:B'}{bs bs' bs2 bm2:Kd}{sn sn' sn2:Kc}{sub sub' sub2:Kd}{ab ab' ab2:Bool}{col col' col2:Option Bool}{dd dd' dd2:Kg}{k0 k1 k2 k3 k5 k0' k1' k2' k3' k5' l0 l1 l2 l3 l5:Lb}
def vM{p:B'}{n:Nat}{Q:Bool->Shared->Prop}(S:s.heap.get? C=some (excClassObj nm q C N bs bm true sn sub ab col dd k0 k1 k2 k3 k5 cb))
  (U:s.heap.get? C'=some (excClassObj nm' q' C' N' bs' bm' true sn' sub' ab' col' dd' k0' k1' k2' k3' k5' cb)) (B:HY bm')
  (z:s.heap.get? C2=some (excClassObj nm2 q2 C2 N2 bs2 bm2 true sn2 sub2 ab2 col2 dd2 l0 l1 l2 l3 l5 cb)) (Y:HY bm2)
  {Z:Kg} {sl:Lf} (hp:s.heap.get? p=some {.type cs,Z,.seq #[.ref C',.ref C2] n,sl})
  (he:s.heap.get? e=some (aw C od vs)) (hb:(Value.ref C::bm).contains (.ref C')=false) (I:(Value.ref C::bm).contains (.ref C2)=true)
  (hq:Q true s):wpAny M' A (excMatches (.ref e)<|.ref p) Q J3 s:=by
 have cB:(Value.ref C'::bm').contains (.type ff)=true:=by rw[Qo,B.bas,QP]
 have O:(Value.ref C2::bm2).contains (.type ff)=true:=by rw[Qo,Y.bas,QP]
 have f:=tc_notTuple;have f2:isSubtype (.type cs) (.type cs)=pure true:=by kernel_rfl
 let{a0,g,d,t,os}:=s;unfold excMatches
 repeat (first|with_reducible refine wpAny_loadPart_at he ?_|with_reducible refine wpAny_loadPart_at hp ?_|with_reducible refine wpAny_loadPart_at U ?_|(with_reducible refine wpAny_isSubtype_exc U ?_;rw[cB])|(with_reducible refine wpAny_isSubtype_exc S ?_;rw[hb])|(with_reducible refine wpAny_isSubtype_exc S ?_;rw[I])|(with_reducible refine wpAny_isSubtype_exc z ?_;rw[O])|with_reducible refine wpAny_loadPart_at z ?_|wp_step)
 exact hq
end
section
variable{y:Str}{np mp tp cp rp hp:Pos}{D1 D2:B'}{b1 b2:Kd}{k:Nat}{tb:(St->XK)->TS}
def yM{b0:Stmt}{suite:Kz}{rest:List ExceptHandler}{fl:Kb}(I:Inv X W J H s)(hx:H ea=some (XO ea C od))(hr:s.heap.get? ea=some (aw C od vs))(tr:Iz s.heap ea vs T fl)(fp:cK X W H T)(hg:Gl X x)(hm:X.mg x=some (.ref D1))(Z1:I0 X.K D1 b1)(a2:Gl X y)(a3:X.mg y=some (.ref D2))(Z2:I0 X.K D2 b2)
  (Y:I0 X.K C bm) (hb:subIn X.K (.ref C) (.ref D1)=some true\/(subIn X.K (.ref C) (.ref D1)=some false/\subIn X.K (.ref C) (.ref D2)=some true)) (a4:(x==(cf:Str))=false) (S:(y==(cf:Str))=false)
  (h1:∀p s1,H p=none->(∀b o,s.heap.get? b=some o->s1.heap.get? b=some o)->Inv X W J (upd H p<|.tup [.ref D1,.ref D2]) s1->s1.heap.get? ea=some (aw C od vs)->Iz s1.heap ea vs T fl->cK X W (upd H p<|.tup [.ref D1,.ref D2]) T->codeAny (model X.prog X.w) (X.A.mark<|some<|.ref ea) (.handlers (.ref ea) [.ExceptHandler none none (b0::suite) pos] X.env) (λr s2=>match r with
     | .ok f=>Q f s2
     | .error x=>cameBackBy (model X.prog X.w) X.A X.env X.xe x s2) s1):
  J6 X (handleBy (.ref ea) X.env (.ExceptHandler (some<|.Tuple [.Name x np,.Name y mp] k tp) none (b0::suite) pos::rest)) Q X.xe s:=by
 let{nm,q1,N,bs,sn,sub,ab,col,dd,k0,k1,k2,k3,k5,hK}:=Y.ob;let{nm',a5,N',bs',sn',sub',ab',col',dd',k0',k1',k2',k3',k5',U}:=Z1.ob;let{nm2,a6,N2,bs2,sn2,sub2,ab2,col2,dd2,l0,l1,l2,l3,l5,Z}:=Z2.ob;have hf:H s.heap.objs.size=none:=I.hok.fresh (Qc _);have O:Inv X W J (upd H s.heap.objs.size<|.tup [.ref D1,.ref D2]) {s with heap:=s.heap.push {cls:= .type cs,data:= .seq #[.ref D1,.ref D2]}}:=I.laid (t':=s.toks) (λb u e=>Xb _ e) (Qc _) {(by show 2<=sizeLine;decide),[.ref D1,.ref D2],.cons M<|.cons M .nil,{_,Xl _ M,M,_,M}};have z:(s.heap.push {cls:= .type cs,data:= .seq #[.ref D1,.ref D2]}).get? ea=some (aw C od vs):=Xb _ hr;have a0:Iz (s.heap.push {cls:= .type cs,data:= .seq #[.ref D1,.ref D2]}) ea vs T fl:=by
  let{t1,t2,oT,ts,t3,t4}:=tr;exact{t1,t2,oT,ts,Xb _ t3,t4}
 have a1:cK X W (upd H s.heap.objs.size<|.tup [.ref D1,.ref D2]) T:=by
  let{t1,t2,oT,ts,t3,t4}:=tr;refine{?_,fp.2};rw[ah (Qs<|Xi t3)];exact fp.1
 refine wpAny_handleBy_cons (codeAny_handlers_test<|wpAny_Tuple_spliced ?_) (by intro q;cases q);show wpAny _ _ (spliced ((false,eval (.Name x np) X.env)::(false,eval (.Name y mp) X.env)::[])) _ _ s;refine Calls.spliced_cons<|cJ (X:=X.sui ea) (I.sui ea) hg hm (Calls.spliced_cons<|cJ (X:=X.sui ea) (I.sui ea) a2 a3 (Calls.spliced_nil {(by show 2<=sizeLine;decide),?_}) S) a4;rcases hb with hb|hb
 .exact xl (O.kIn _ _ hK) (O.kIn _ _ U) Z1.mro (O.kIn _ _ Z) Z2.mro (Xl _ M) z (oG Y hb)<|h1 _ _ hf (λb o e=>Xb _ e) O z a0 a1
 .exact vM (O.kIn _ _ hK) (O.kIn _ _ U) Z1.mro (O.kIn _ _ Z) Z2.mro (Xl _ M) z (oG Y hb.1) (oG Y hb.2) (h1 _ _ hf (λb o e=>Xb _ e) O z a0 a1)
inductive Al(K:J5)(H H2:Hp)(E:XK)(v:V)(H3:Hp):Prop
 |mk(e2 C2 od2 bm2:_)(_:v= .ref e2)(_:H2 e2=none)(_:H3=upd H2 e2 (XN e2 C2 od2))(_:I0 K C2 bm2)(_:(H e2=none->E (.ref e2) od2 (upd H e2<|XO e2 C2 od2)))
def Inv.fixed(I:Inv X W J H s)(hx:H ea=some (XO ea C od))(hr:s.heap.get? ea=some (aw C od vs))(hz:1<vs.size)(c:K4 H s.heap ea vs):
  ∃H2,Inv X W J H2 s/\∀e2,H2 e2=none->H e2=none/\e2≠ea/\∀o s1,Inv X W J (upd H2 e2 o) s1->Inv X W J (upd H e2 o) s1/\s1.heap.get? ea=some (aw C od vs)/\Ch2 s1.heap e2 ea vs:=by
 have I1:=I.fix hx hr hz;rcases c with c|⟨c2,C2,S,vs2,c,ne,h2,k2,z2,n2⟩
 .refine{_,I1,λe2 n=>?_};have O:e2≠ea:=λz=>by rw[z,BB]at n;cases n
  rw[ah O]at n;refine{n,O,λo s1 J4=>?_};let{U,r1,_}:=J4.unfix (e:=ea) (C:=C) (od:=od) (vs:=vs) (by rw[ah (Ne.symm O),BB]);rw[lG (Ne.symm O) hx]at U;exact{U,r1,.inl c}
 .have Y:upd H ea (XV ea C od vs) c2=some (XO c2 C2 S):=by rwa[ah ne]
  have I2:=I1.fix Y k2 z2;refine{_,I2,λe2 n=>?_};have Z:e2≠c2:=λz=>by rw[z,BB]at n;cases n
  rw[ah Z]at n;have O:e2≠ea:=λz=>by rw[z,BB]at n;cases n
  rw[ah O]at n;refine{n,O,λo s1 J4=>?_};let{U,r1,_}:=J4.unfix (e:=c2) (C:=C2) (od:=S) (vs:=vs2) (by rw[ah (Ne.symm Z),BB]);rw[lG (Ne.symm Z) Y]at U;let{J2,r2,_}:=U.unfix (e:=ea) (C:=C) (od:=od) (vs:=vs) (by rw[ah (Ne.symm O),BB]);rw[lG (Ne.symm O) hx]at J2;exact{J2,r2,.inr {c2,C2,S,vs2,c,Ne.symm Z,ne,r1,n2}}
def CI(ok:X.Ok)(U:X.stack=X.env::X.outer)(hf:X.env.frame=some X.env.locals)(hX:oO X E)(he:PE (X.sui ea) ex te)(I:Inv X W J H s)
  (hx:H ea=some (XO ea C od)) (hr:s.heap.get? ea=some (aw C od vs)) (hz:1<vs.size) (c:K4 H s.heap ea vs) (h:∀H2,te J H2 (Al X.K H H2 E)):
  wpAny (model X.prog X.w) (X.A.mark<|some<|.ref ea) (exec (.Raise (some ex) (some<|.Constant .none j cp) rp) X.env) Q (X.suF ea).xe s:=by
 have O:PE (X.suF ea) ex te:=PE.nox (X:=X.suF ea) he;let{H2,I2,z}:=I.fixed hx hr hz c;rw[arm_exec_Raise];refine Xa<|wpAny_standAt (wH (h:=ea) M (λs1 Q1 q1=>Xa<|Constant_none<|Xa<|wpAny_standAt<|Xj q1)<|Xa<|HX (O W s J H2 _ (I2.suF ea)<|h H2) λv s1 zz=>?_);let{y,H1,I1,ry,e2,C2,S,bm,ev,n2,eH,Y,q}:=zz;refine Xa<|wpAny_standAt<|Xj ?_;subst ev eH;cases (show v=Value.ref e2 from ry);let{n3,ne,z}:=z e2 n2;let{Z,hh,hv}:=z _ s1 (I1.unsuF ok);let{nm,q',N,bs,sn,sub,ab,col,dd,k0,k1,k2,k3,k5,hK}:=Y.ob;let{t,O}:=oQ Z.hok BB;refine{e2,C2,S,t,nm,q',N,bs,bm,sn,sub,ab,col,dd,k0,k1,k2,k3,k5,M,ne,Z.kIn _ _ hK,Y.mro,O,⟨C,od,vs,hh,hv⟩,λh' keep new=>?_};have I4:Inv X W J (upd (upd H e2<|XN e2 C2 S) e2<|XO e2 C2 S) {s1 with heap:=h'}:=Z.write (x:=e2) (e:=e2) (t':=s1.toks) (by rw[BB];exact Xn) (.inl M) keep {_,new} (sG new<|by show 1<6;decide);rw[bS]at I4;show wpAny _ _ (noteFrame (.ref e2) X.env) _ _ _;refine AE I4 U hf (show(X.A.mark<|some<|.ref ea).frames=some X.stack from I.ok.frames) BB new (by show 1<6;decide) M λh2 vs2 T I5 r4 z4 t4 f4=>?_;rw[bS]at I5 f4;exact zx I5 hf BB r4 z4 t4 f4 (by rw[bS];exact q n3) hX
def GS(K:J5)(D1 D2:B')(tb:(St->XK)->TS)(te:TE)(E:XK):TS:=λD J H=>tb (λσ1 v od H1=>∃ea C bm,v= .ref ea/\H1 ea=some (XO ea C od)/\I0 K C bm/\(subIn K (.ref C) (.ref D1)=some true\/(subIn K (.ref C) (.ref D1)=some false/\subIn K (.ref C) (.ref D2)=some true))/\
 ∀p,H1 p=none->∀H2,te σ1 H2 (Al K (upd H1 p<|.tup [.ref D1,.ref D2]) H2 E)) D J H
def An(a3:X.stack=X.env::X.outer)(hf:X.env.frame=some X.env.locals)(hb:∀pn E,Ij (X.trD pn E) body (tb E))(hg:Gl X x)(hm:X.mg x=some (.ref D1))(Z:I0 X.K D1 b1)(a6:Gl X y)(a7:X.mg y=some (.ref D2))(Z2:I0 X.K D2 b2)(hX:oO X E)(he:∀ea,PE (X.sui ea) ex te)(a8:(x==(cf:Str))=false:=by decide)(a4:(y==(cf:Str))=false:=by decide):
  PS X (.Try body [.ExceptHandler (some<|.Tuple [.Name x np,.Name y mp] k tp) none [.Raise (some ex) (some<|.Constant .none j cp) rp] hp] [] [] pos) (GS X.K D1 D2 tb te E):=by
 intro W s J H D I h;refine wpAny_Try_except<|Xp (hb W _ [] s J H D (I.trD _) h) (λf s1 z=>?_) λe s1 z=>?_
 .cases f with
  |next=>
   let{O,H',U,q}:=z;exact wpAny_execs_nil {O,H',U.untrD I.ok,q}
  |brk=>
   let{O,H',U,q}:=z;exact{O,H',U.untrD I.ok,q}
  |cont=>
   let{O,H',U,q}:=z;exact{O,H',U.untrD I.ok,q}
  |ret u=>
   let{v,O,H',U,rv,q}:=z;exact{v,O,H',U.untrD I.ok,rv,q}
 .let{ac,af,H1,ea,C,od,vs,φ,ak,rfl,I1,hx,hr,hz,ht,ea',C',bm,e1,e2,Y,a5,q}:=z;obtain rfl:ea=ea':=Value.ref.inj e1;refine lg (X:={X with pn:=X.pn++W}) I1 a3 hf I1.ok.frames hx hr hz (ht.imp id .inl) ak λs2 vs2 T I2 r2 z2 t2 f2 c2=>?_;let{an,r3,_}:=xD I2.hok e2;obtain rfl:C=C':=by
   have z:=Xo Obj.cls (Xf<|r2.symm.trans r3);exact Value.ref.inj z
  have I3:Inv X W af (upd H1 ea<|XO ea C od) s2:=I2.untr I.ok;have S:cK X W (upd H1 ea<|XO ea C od) T:={f2.1,f2.2.1,f2.2.2.1,f2.2.2.2.1,f2.2.2.2.2.1,λp hp=>f2.2.2.2.2.2 p<|Qu _ hp};have a0:upd H1 ea (XO ea C od) ea=some (XO ea C od):=BB;generalize upd H1 ea (XO ea C od)=H3 at*;refine yM I3 a0 r2 t2 S hg hm Z a6 a7 Z2 Y a5 a8 a4 λp s3 np kp I3 r2 t2 S=>?_;have al:ea≠p:=aq a0 np;have c3:K4 (upd H3 p<|.tup [.ref D1,.ref D2]) s3.heap ea vs2:=c2.imp id λ⟨a2,C2,a1,v2,c,ne,h2,k2,z2,n2⟩=>{a2,C2,a1,v2,c,ne,by rwa[ah (aq h2 np)],kp _ _ k2,z2,n2};refine codeAny_handlers_suite<|fF (l:=[]) r2 t2 λh' g1 g2 g3 g4 g5=>?_;have I4:=I3.turned (t':=s3.toks) (it:=T) g1 S.1 S.2.1 S.2.2.2.1 S.2.2.2.2.1 S.2.2.2.2.2;have c4:K4 (upd H3 p<|.tup [.ref D1,.ref D2]) h' ea vs2:=c3.imp id λ⟨a2,C2,a1,v2,c,ne,h2,k2,z2,n2⟩=>{a2,C2,a1,v2,c,ne,h2,g1 _ _ (λz=>by have:=S.1;rw[<-z,h2]at this;cases this) k2,z2,n2};exact wpAny_execs_cons<|CI I.ok a3 hf hX (he ea) I4 (by rwa[ah al]) g2 z2 c4 (q p np)
end
abbrev _root_.Lh:=List (Str×Nat×Addr)
variable{a:B'}{ps:Lh}
def kdE(w:Kj)(x:Str×Nat×Addr):DictEntry:={PyData.keyHash w.params x.1,.str x.1 x.2.1,.ref x.2.2}
def KD(w:Kj)(K:J5)(a:B')(ps:Lh):Prop:=(∃n,K.lookup a=some {.type "dict",none,.dict (ps.map<|kdE w).toArray n, #[]})/\(a==sysModules)=false/\(ps.map (·.1)).Nodup
noncomputable def Iu(ps:Lh)(x:Str):Option V:=(ps.find? λp=>decide (p.1=x)).map λp=>V.ref p.2.2
theorem vE{P:Ki}{w:Kj}:∀ps:List (Str×Nat×Addr),Pairs (bG P w) (ps.map<|kdE w) (ps.map λp=>((.inr p.1:Key),Value.ref p.2.2))
 | []=> .nil
 |p::ps=> .cons (jH P w p.1 p.2.1) M (vE ps)
def Ex{P:Ki}{w:Kj}{K:J5}{h:Heap}(k:KD w K a ps)(hk:K.In h):h.DictOf (bG P w) a (ps.map λp=>((.inr p.1:Key),Value.ref p.2.2)):=by
 let{{n,k1},k2,k3}:=k;refine{_,_,_,hk _ _ k1,⟨M,M,M⟩,M,λe he=>?_,by simpa using vE ps,?_}
 .have he:e∈ps.map (kdE w):=by simpa using he
  let{p,_,rfl}:=Qn.mp he;exact{.inr p.1,jH P w p.1 p.2.1,M}
 .rw[Zv,show((λkv:Key×Value=>kv.1)∘λp:Str×Nat×Addr=>((.inr p.1:Key),Value.ref p.2.2))=(Sum.inr∘λp:Str×Nat×Addr=>p.1) from rfl,<-Zv];exact List.Pairwise.map _ (λ_ _ q z=>q<|Sum.inr.inj z) k3
def Ba(ps:Lh)(x:Str):valueAt (ps.map λp=>((.inr p.1:Key),Value.ref p.2.2)) (.inr x)=(ps.find? λp=>decide (p.1=x)).map λp=>Value.ref p.2.2:=by
 unfold valueAt;rw[List.find?_map,Option.map_map];have:((λkv:Key×Value=>decide (kv.1=Sum.inr x))∘λp:Str×Nat×Addr=>((.inr p.1:Key),Value.ref p.2.2))=λp=>decide (p.1=x):=by
  funext p;show decide ((Sum.inr p.1:Key)=Sum.inr x)=decide (p.1=x);by_cases c:p.1=x
  .rw[Xg c,Xg (Xo Sum.inr c)]
  .rw[Xh c,Xh λz=>c (Sum.inr.inj z)]
 rw[this];rfl
section
variable{X:Cx}{o i:Expr}{x:Str}{np pos:Pos}{ty:TE}
def GJ(ps:Lh)(ty:TE):TE:=λJ H Q=>ty J H λy H2=>∃z v,y= .str z/\Iu ps z=some v/\Q v H2
def Cv(ps:Lh)(ty:TE):TE:=λJ H Q=>ty J H λy H2=>∃z,y= .str z/\Q (.bl<|!(Iu ps z).isSome) H2
def xT(U:Gl X x)(Y:X.mg x=some (.ref a))(k:KD X.w X.K a ps)(hi:PE X i ty)(hs:Gf i)(hd:(x==(cf:Str))=false:=by decide):PE X (.Subscript (.Name x np) i pos) (GJ ps ty):=by
 intro W s J H Q I h;refine xE PySem.F.slot_dict_getitem.lookup hs<|cJ I U Y (HX (hi W s J H _ I h) λiv s2 O=>?_) hd;let{y,H2,S,Z,z,v,ey,e,q2}:=O;subst ey;have dd:=Ex (P:=X.prog) k (h:=s2.heap) λb o e=>S.kIn b o e;refine{dd.mapOf.typeIs,?_};unfold Iu at e;let{p,e1,e2}:=QL.mp e;refine wpAny_getItem_of (nS (k:= .inr z) Z) dd.mapOf (by rw[Ba,e1];rfl) {v,H2,S.tok _,?_,q2};rw[<-e2];rfl
def yN(S:Gl X x)(U:X.mg x=some (.ref a))(k:KD X.w X.K a ps)(hi:PE X i ty)(hd:(x==(cf:Str))=false:=by decide):PC X .NotIn i (.Name x np) (Cv ps ty):=by
 intro W s J H Q I h;refine HX (hi W s J H _ I h) λiv s1 zz=>?_;let{y,H1,O,Y,z,Z,q2}:=zz;refine cJ O S U ?_ hd;subst Z;have dd:=Ex (P:=X.prog) k (h:=s1.heap) λb o e=>O.kIn b o e;refine wpAny_notIn_of (nS (k:= .inr z) Y) k.2.1 dd.mapOf {.bl<|!(Iu ps z).isSome,H1,O.tok _,?_,q2};rw[Ba];unfold Iu;rw[Zp,Zp];rfl
end
variable{D:Addr->Sp->Prop}{kk:Nat}
section
variable{X:Cx}{CX:CXT}{E:XK}{x:Str}{p pos:Pos}{e:Expr}{es:Kx}{t:TA}{ta:TE}{k:Nat}{f:B'}{fd:Kt}{ps:Kc}{sp:Sp}
def v9(X:Cx)(CX:CXT)(kk:Nat)(f:B')(sp:Sp):Prop:=keepIn X.K (.ref f)=true/\∃fd ps,D3 X.prog X.w X.K X.mg X.base CX kk f fd ps sp/\Binds X.K fd ps []
def nG(hk:keepIn X.K (.ref f)=true)(F:D3 X.prog X.w X.K X.mg X.base CX k f fd ps sp)(hb:Binds X.K fd ps [])(hl:k<=kk):∀z sp',(z=f/\sp'=sp)->v9 X CX kk z sp':=λz sp' h=>by
 let{rfl,rfl}:=h;exact{hk,fd,ps,F.mono hl,hb}
def vL{I:Addr->Sp->Prop}(h:∀f sp,D f sp->v9 X CX kk f sp)(h':∀f sp,I f sp->v9 X CX kk f sp):∀f sp,(D f sp\/I f sp)->v9 X CX kk f sp:=λf sp z=>z.elim (h f sp) (h' f sp)
def ES(D:Addr->Sp->Prop)(ta:TE)(E:XK)(t:TA):TE:=λJ H Q=>ta J H λy H1=>∃f sp,y= .ref f/\D f sp/\t J H1 λvs H2=>sp (vs++ []) H2 Q E
def Ax(U:∀f sp,D f sp->v9 X CX kk f sp)(Y:IB kk X.A)(Z:PE X (.Name x p) ta)(hx:dA CX X E)(ha:PA X (e::es) t)
  (he:starEach (e::es) X.env=(false,eval e X.env)::starEach es X.env:=by rfl) (z:(backTo pos<|starEach es X.env).any (·.1)=false:=by rfl):
  PE X (.Call (.Name x p) (e::es) [] pos) (ES D ta E t):=by
 intro W s J H Q I h;refine Xs<|HX (Z W s J H _ I h) λu s1 O=>?_;let{y,H1,I1,ry,f,sp,ey,d,q1}:=O;subst ey;cases (show u=Value.ref f from ry);let{hk,fd,ps,F,hb}:=U f sp d;refine QJ (h₀:=X.base) I.ok.mod.kin hk (HX (ha pos W s1 J H1 _ I1 q1) λus s2 zz=>?_) he z;let{vs,H2,S,r,q}:=zz;refine{S.kIn,?_};exact pW F Y hb .nil hx S r q
end
end L2
namespace L2
open PySem PySem.Spec PyProof.Rows
open SeqAt
section
variable{X:Cx}
def PlainL.isL{h:Heap}{a:B'}{xs:Ko}(p:PlainL h a xs):h.IsList a xs:=by
 let{o,n,e,c,_,d}:=p;exact⟨o,e,c,n,d⟩
inductive rEqN(K:J5)(f:Bool)(x y:V)(H:Hp)(Q:VK):Prop
 |mk(a b xs:_)(_:x= .ref a)(_:y= .ref b)(_:HS K H a xs)(_:HS K H b [])(_:Q (.bl<|xs.isEmpty !=f) H)
def AD(K:J5)(hK:X.K=K)(hu:X.A.units+20<cLine):Iy X (compareOp .Eq) (rEqN K false):=by
 subst hK;intro W s J H x y v u Q I O S h;let{a,b,xs,rfl,rfl,h1,h2,q}:=h;cases O;cases S;let{Y,r1,p1,Z}:=I.list h1;let{i2,U,p2,z2}:=I.list h2;have z:X.A.units<cLine:=();cases U;cases r1 with
 |nil=>exact RcAt.lists (A:=X.A) (e:=λ_=>true) (PlainL.isL p1) (PlainL.isL p2) M z (λj h1=>Xd h1<|Nat.not_lt_zero _) _ _ _ _ {.bl _,H,I,M,q}
 |cons r t=>exact RcAt.lists_lengths (PlainL.isL p1) (PlainL.isL p2) (by simp) z _ _ _ _ {.bl _,H,I,M,q}
end
def Fl:V->Prop
 | .int _=>True| .str _=>True| .non=>True| .bl _=>True|_=>False
section
variable{X:Cx}{W:Kf}{J:St}{H:Hp}{s:J'}
def uq{A:Kp}{x:V}{u v:Kb}(h:Fl x)(r1:RelV x u)(z:RelV x v):EqAt A s u v true:=by
 cases x with
 |int n=>
  let{I,rfl}:=r1;let{O,rfl}:=z;have:=EqAt.int_int (A:=A) (s:=s) n I n O;rwa [Xy]at this
 |str n=>
  let{I,rfl}:=r1;let{O,rfl}:=z;have:=EqAt.str_str (A:=A) (s:=s) n I n O;rwa [Xy]at this
 |bl b=>
  cases (show u=Value.bool b from r1);cases (show v=Value.bool b from z);have:=EqAt.bool_bool (A:=A) (s:=s) b b;rwa [Xy]at this
 |non=>
  cases (show u=Value.none from r1);cases (show v=Value.none from z);exact EqAt.same _
 |_=>exact h.elim
theorem vJ{A:Kp}:∀{xs:Ke}{us vs:Kd},HV xs us->HV xs vs->(∀x∈xs,Fl x)->us.length=vs.length/\∀(j:Nat)(h1:j<us.length)(h2:j<vs.length),EqAt A s us[j] vs[j] true
 | [],_,_,.nil,.nil,_=>{M,λj h=>Xd h<|Nat.not_lt_zero _}
 |x::xs,_,_,.cons r1 t1,.cons r2 t2,h=>by
  let{l,g}:=vJ (A:=A) t1 t2 λy hy=>h y (Q4 _ hy);refine{by rw[Q3,Q3,l],λj h1 h2=>?_};cases j with
  |zero=>exact uq (h x Q6) r1 r2
  |succ j=>exact g j (by simpa using h1) (by simpa using h2)
inductive rEqF(K:J5)(f:Bool)(x y:V)(H:Hp)(Q:VK):Prop
 |mk(a b xs:_)(_:x= .ref a)(_:y= .ref b)(_:HS K H a xs)(_:HS K H b xs)(_:(∀v∈xs,Fl v))(_:Q (.bl<|!f) H)
def Fg(K:J5)(hK:X.K=K)(hu:X.A.units+20<cLine):Iy X (compareOp .Eq) (rEqF K false):=by
 subst hK;intro W s J H x y v u Q I z O h;let{a,b,xs,rfl,rfl,h1,h2,fl,q}:=h;cases z;cases O;let{U,r1,p1,Y}:=I.list h1;let{Z,S,p2,z2}:=I.list h2;let{l,g}:=vJ (A:=X.A.in1) (s:=s) r1 S fl;exact RcAt.lists (A:=X.A) (e:=λ_=>true) (PlainL.isL p1) (PlainL.isL p2) (by simpa using l) () (λj a b=>by simpa using g j (by simpa using a) (by simpa using b)) _ _ _ _ {.bl _,H,I,M,by rw[Qx.mpr λ_ _=>rfl];exact q}
end
def Alk(K:J5)(H:Hp):Nat->V->V->Prop
 |0,x,y=>Fl x/\x=y
 |n+1,x,y=>(Fl x/\x=y)\/∃a b xs ys,x= .ref a/\y= .ref b/\(HS K H a xs/\HS K H b ys\/IP K H a xs/\IP K H b ys)/\xs.length=ys.length/\∀(j:Nat)(u v:V),xs[j]?=some u->ys[j]?=some v->Alk K H n u v
def uB{xs:Ke}{us:Kd}(r:HV xs us)(j:Nat)(h:j<us.length):∃x,xs[j]?=some x/\RelV x us[j]:=by
 induction r generalizing j with
 |nil=>cases h
 |cons r _ z=>cases j with
  |zero=>exact{_,M,r}
  |succ j=>exact z j<|Nat.lt_of_succ_lt_succ h
section
variable{X:Cx}{W:Kf}{J:St}{H:Hp}{s:J'}
theorem BA(I:Inv X W J H s):∀(n:Nat){A:Kp}{x y:V}{u v:Kb},A.units+n<cLine->Alk X.K H n x y->RelV x u->RelV y v->EqAt A s u v true
 |0,_,_,_,_,_,_,⟨f,e⟩,r1,r2=>uq f r1 (e▸r2)
 |n+1,A,x,y,u,v,hu,h,r1,r2=>by
  rcases h with⟨f,e⟩|⟨a,b,xs,ys,rfl,rfl,o,l,g⟩
  .exact uq f r1<|e▸r2
  cases r1;cases r2;by_cases e:a=b
  .subst e;exact EqAt.same _
  have it:∀{us vs:Kd},HV xs us->HV ys vs->∀(j:Nat)(h1:j<us.length)(h2:j<vs.length),EqAt A.in1 s us[j] vs[j] true:=λz O j h1 h2=>by
   let{x,S,q1}:=uB z j h1;let{y,e2,q2}:=uB O j h2;exact BA I n (by show A.units+1+n<cLine;lia) (g j x y S e2) q1 q2
  refine EqAt.of_refs e ?_;rcases o with⟨h1,h2⟩|⟨h1,h2⟩
  .let{U,z,p1,_}:=I.list h1;let{Y,O,p2,_}:=I.list h2;have:=RcAt.lists (A:=A) (e:=λ_=>true) (PlainL.isL p1) (PlainL.isL p2) (by simpa[<-z.length,<-O.length]using l) () (λj a b=>by simpa using it z O j (by simpa using a) (by simpa using b));rw[Qx.mpr λ_ _=>rfl]at this;exact this
  .let{U,z,p1,_}:=I.tuple h1;let{Y,O,p2,_}:=I.tuple h2;have:=RcAt.tuples (A:=A) (e:=λ_=>true) p1 p2 () (λj a b=>by simpa using it z O j (by simpa using a) (by simpa using b));rw[Qx.mpr λ_ _=>rfl]at this;simpa[<-z.length,<-O.length,l]using this
inductive rAlk(K:J5)(f:Bool)(x y:V)(H:Hp)(Q:VK):Prop
 |mk(a b:B')(xs ys:Ke)(_:x= .ref a)(_:y= .ref b)(_:(HS K H a xs/\HS K H b ys\/IP K H a xs/\IP K H b ys))(_:xs.length=ys.length)(_:(∀(j:Nat)(u v:V),xs[j]?=some u->ys[j]?=some v->Alk K H 4 u v))(_:Q (.bl<|!f) H)
def Ff(K:J5)(hK:X.K=K)(hu:X.A.units+20<cLine):Iy X (compareOp .NotEq) (rAlk K true):=by
 subst hK;intro W s J H x y v u Q I Y Z h;let{a,b,xs,ys,rfl,rfl,o,l,g,q}:=h;cases Y;cases Z;have it:∀{us vs:Kd},HV xs us->HV ys vs->∀(j:Nat)(h1:j<us.length)(h2:j<vs.length),EqAt X.A.in1 s us[j] vs[j] true:=λz O j h1 h2=>by
  let{x,e1,q1}:=uB z j h1;let{y,e2,q2}:=uB O j h2;exact BA I 4 (by show X.A.units+1+4<cLine;lia) (g j x y e1 e2) q1 q2
 rcases o with⟨h1,h2⟩|⟨h1,h2⟩
 .let{S,z,p1,_}:=I.list h1;let{U,O,p2,_}:=I.list h2;have:=RcNeAt.lists (A:=X.A) (e:=λ_=>true) (PlainL.isL p1) (PlainL.isL p2) (by simpa[<-z.length,<-O.length]using l) () (λj a b=>by simpa using it z O j (by simpa using a) (by simpa using b));rw[Qx.mpr λ_ _=>rfl]at this;exact this _ _ _ _ {.bl _,H,I,M,q}
 .let{S,z,p1,_}:=I.tuple h1;let{U,O,p2,_}:=I.tuple h2;have:=RcNeAt.tuples (A:=X.A) (e:=λ_=>true) p1 p2 () (λj a b=>by simpa using it z O j (by simpa using a) (by simpa using b));rw[Qx.mpr λ_ _=>M,show(true&&S.toArray.size==U.toArray.size)=true by simp[<-z.length,<-O.length,l]]at this;exact this _ _ _ _ {.bl _,H,I,M,q}
end
end L2
namespace L2
open PySem PySem.Spec PyProof.Rows
variable{o:HO}{H:Hp}{A B:Prop}{x y:V}
def Bg(e:x=y)(h:B):if(!decide (x=y))=true then A else B:=by
 rw[Xg e];exact cX h
def Bf(e:¬x=y)(h:A):if(!decide (x=y))=true then A else B:=by
 rw[Xh e];exact cT h
def jL(e:x=y)(h:A):if decide (x=y)=true then A else B:=by
 rw[Xg e];exact cT h
def ae{p:B'}(h:H p=none):HU H (upd H p o):=λb u e=>by
 rwa[ah (aq e h)]
def fk{H':Hp}{l:B'}(s:HU H H')(n:H l=none):HU H (upd H' l o):=λb u e=>by
 rw[ah (aq e n)];exact s b u e
def AZ{K:J5}{C D:B'}{b:Bool}(h1:PySem.W.typeIn K (.ref D)=some (.type "type"))(h2:PySem.W.isClsIn K D=true)(O:PySem.W.subIn K (.ref C) (.ref D)=some b)(I:C=D->b=true):
  PySem.W.kitOne K (.ref C) (.ref D)=some b:=by
 unfold PySem.W.kitOne;by_cases z:((Value.ref C:Kb)== .ref D)=true
 .rw[Xe z,I (Value.ref.inj<|Xu.mp z)]
 .rw[Xc z];show(if((PySem.W.clsIn K D).isSome&&PySem.W.typeIn K (.ref D)==some (.type "type"))=true then PySem.W.subIn K (.ref C) (.ref D)else none)=some b;have:(PySem.W.clsIn K D).isSome=true:=h2;rw[Xe (by rw[this,h1];simp),O]
def IB.u20{k:Nat}{A:Kp}(r:IB k A):A.units+20<cLine:=by have:=r.un;lia
end L2
namespace Srt
open PySem PyProof.Rows
end Srt
namespace L2
open PySem PySem.Spec PyProof.Rows
end L2
namespace Srt
open PySem PyProof.Rows
end Srt
namespace L2
open PySem PySem.Spec PyProof.Rows
variable{C D d:B'}{X:Cx}{elt iter l tg:Expr}{H H1 H4:Hp}{Fin:Hp->Prop}{lo:Int}{J4:It}{R:It->Hp->Prop}{W:Kf}{kvs:Kv}{vs:List (Key×Value)}{cl:List (Str×Addr)}{elts ifs:Kx}{M' N':Kc}{xs ys:Ke}{i n:Nat}{ob:Obj}{pos px:Pos}{P:Ki}{K:J5}{scope:Scope}{s:J'}{J:St}{x y:Str}{nx:Le}{B:St->VK->It->Hp->Prop}{te:TE}{g:TG}{wi:TI}{tc:TT}{Q:VK}{RR:Value->Addr->Result->Shared->Prop}{w:Kj}
def Dn{k:Key}{v:Kb}(h:(bG P w).is k v=true):RelV (kV k) v:=by
 rw[wT]at h;cases k with
 |inl i=>
  cases v with
  |int j t=>exact{t,by simp[jJ,Value.isInt]at h;rw[h]}
  |_=>simp[jJ,Value.isInt]at h
 |inr x=>
  cases v with
  |str y t=>exact{t,by simp[jJ,Value.isStrOf]at h;rw[h]}
  |_=>simp[jJ,Value.isStrOf]at h
inductive GX(K:J5)(x:V)(vs:Ke)(H:Hp)(Q:VK):Prop
 |mk(sep:Str)(a:B')(ys:Kc)(_:x= .str sep)(_:vs=[.ref a])(_:HS K H a (ys.map V.str))(_:sep.length<=16)(_:(ys.map (·.length)).sum+ys.length<=1048576)(_:Q (.str<|Txt.join sep ys) H)
theorem uP:∀{ys:Kc}{its:Kd},HV (ys.map V.str) its->StrsAre its ys
 | [],_,.nil=> .nil
 |_::_,_,.cons ⟨t,e⟩ r=>by subst e;exact .cons _ _<|uP r
def fZ:KL X "str.join" (GX X.K):=by
 intro W s J H x vs v us Q I z O h;let{S,a,ys,rfl,rfl,U,h1,h2,q}:=h;let{t,rfl}:=z;let{u,rfl,Y}:=O.one;cases Y;let{its,r,pl,_}:=I.list U;exact join_listW pl.isList (by simpa using uP r) h1 h2 λt' k=>{.str _,H,I.tok _,⟨t',M⟩,q}
set_option tactic.hygienic true in
theorem lD{env:Env}:∀(l:List (Str×NameKind))(I:List (Str×Addr)),(∀p∈l,p.2= .free->∃c,env.cells.lookup p.1=some c)->
  ∃cl,(forIn l I (λp I=>if(p.2==NameKind.free)=true then cellOf env p.1>>=λa=>pure (ForInStep.yield ((p.1,a)::I))else pure (ForInStep.yield I)):Sem _)=pure cl/\
   (∀y c,cl.lookup y=some c->I.lookup y=some c\/env.cells.lookup y=some c)/\(∀y c,I.lookup y=some c->∃O,cl.lookup y=some O)/\(∀y,(y,NameKind.free)∈l->∃c,cl.lookup y=some c)
 | [],I,_=>{I,by rw[List.forIn_nil],λy c h=> .inl h,λy c h=>⟨c,h⟩,λy h=>nomatch h}
 |(n,k)::r,I,h=>by
  rw[List.forIn_cons];by_cases hk:k= .free
  .subst hk;let{c,hc}:=h (n,.free) Q6 M;have hc:env.cells.lookup n=some c:=hc;have e:cellOf env n=pure c:=by unfold cellOf;rw[hc]
   let{cl,h1,h2,S,U}:=lD r ((n,c)::I) λp hp=>h p (Q4 _ hp);refine{cl,?_,λy O hy=>?_,λy O hy=>?_,λy hy=>?_}
   .simp only[Xy,if_true,e,pure_bind];exact h1
   .rcases h2 y O hy with q|q
    .rw[Zh]at q;split at q
     .rename_i z
      cases q;rw[Xu]at z;subst z;exact .inr hc
     .exact .inl q
    .exact .inr q
   .by_cases z:y=n
    .exact S y c<|by rw[Zh,z];simp
    .exact S y O<|by rwa[Zh,Xq.mpr z]
   .rcases Qa.mp hy with q|q
    .have Y:y=n:=(Xz q).1;exact S y c<|by rw[Zh,Y];simp
    .exact U y q
  .have hb:(k==NameKind.free)=false:=by simpa using hk
   let{cl,h1,h2,S,U}:=lD r I λp hp=>h p (Q4 _ hp);refine{cl,?_,h2,S,λy hy=>?_}
   .simp only[hb,ZX,if_false,pure_bind];exact h1
   .rcases Qa.mp hy with q|q
    .exact Xd (Xz q).2.symm hk
    .exact U y q
def qL{env:Env}(h:∀p∈scope.names,p.2= .free->∃c,env.cells.lookup p.1=some c):
  ∃cl,closureFor scope env=pure cl/\(∀y c,cl.lookup y=some c->env.cells.lookup y=some c)/\(∀y,(y,NameKind.free)∈scope.names->∃c,cl.lookup y=some c):=by
 let{cl,h1,h2,_,I}:=lD scope.names [] h;refine{cl,?_,λy c hy=>(h2 y c hy).resolve_left λz=>by simp at z,I};unfold closureFor;simp only[bind_pure];exact h1
def Ja(X:Cx)(M' N':Kc)(scope:Scope)(cl:List (Str×Addr))(C:B')(s₂:J')(H₂:Hp)(fp:Km):Cx:=
 {X with N:=M'++N',s₀:=s₂,H₀:=H₂,env:=compEnvC scope cl C X.env,outer:=X.stack,stack:=X.stack,ex:=fp,fn:=λ_=>false,pn:=[],xe:=λ_ _=>False}
structure ID(X:Cx)(M' N':Kc)(scope:Scope):Prop where
 kind:scope.kind= .function
 nd:(M'++N').Nodup
 ln:N'.length=X.N.length
 own:∀x∈M',scope.names.lookup x=some .local
 nocell:∀y∈scope.names,y.2≠ .cell
 names:∀y∈scope.names,y.2= .local->scope.names.lookup y.1=some .local
 free:∀y∈scope.names,y.2= .free->X.env.kindOf y.1=some .cell
 vis:∀(j:Nat)(y:Str),N'[j]?=some y->KP (relabel scope X.env) y->X.N[j]?=some y/\(y,NameKind.free)∈scope.names/\(relabel scope X.env).names.lookup y=some .cell
 cells:∀y,((relabel scope X.env).names.lookup y=some .cell\/(relabel scope X.env).names.lookup y=some .free)->(y,NameKind.free)∈scope.names
def v6(n:Nat)(g:TG)(tc:TT)(te:TE)(J:St)(Q:VK)(J4:It)(H1:Hp):Prop:=∀D,H1 D=none->∃J3:Nat->Nat->St->List V->Hp->Prop,(∃m,J3 0 m (List.replicate n none++J) [] (upd H1 D<|.lst []))/\∀i m τ ys H2,J3 i m τ ys H2->H2 D=some (.lst ys)->
 (J4.stop i H2/\Q (.ref D) H2)\/(J4.go i H2/\∀x H3,J4.yld i H2 x H3->∃G:St->Hp->Prop,(∀τ2 H4,G τ2 H4->∃(Ny:VK)(Ns:Hp->Prop),(∀y H6,Ny y H6->H6 D=some (.lst ys)/\ys.length<sizeLine/\∃m',m'<m/\J3 (i+1) m' τ2 (ys++ [y]) (upd H6 D<|.lst<|ys++ [y]))/\
  (∀H5,Ns H5->H5 D=some (.lst ys)/\∃m',m'<m/\J3 (i+1) m' τ2 ys H5)/\tc τ2 H4 λb H5=>if b=true then te τ2 H5 Ny else Ns H5)/\g x τ H3 G)
def Eg:TT:=λ_ H Q=>Q true H
def PTs(X:Cx)(ifs:Kx)(tc:TT):Prop:=∀(W:Kf)(s:J')(J:St)(H:Hp)(Q:Bool->Hp->Prop),Inv X W J H s->tc J H Q->
 J6 X (forIn ifs true λc r=>if r=true then do let ok<-isTrue c X.env (eval c X.env);pure (ForInStep.yield ok)else pure (ForInStep.yield r)) (λb s'=>∃H',Inv X W J H' s'/\Q b H') X.xe s
def CP:PTs X [] Eg:=λ_ _ _ H _ I h=>wpAny_tests_nil ⟨H,I,h⟩
def xN{c:Expr}(h:PT X c tc):PTs X [c] tc:=λW s J H Q I q=>wpAny_tests_one (h W s J H Q I q)
def ID.pg{s₂:J'}{z:Hp}{fp:Km}(S:ID X M' N' scope)(h:M'[i]?=some x):PG (Ja X M' N' scope cl C s₂ z fp) (.Name x px) (mm i):=
 xQ S.nd (by show(M'++N')[i]?=_;rwa[ZB (Q7.mp h).1]) (.inl<|lookup_relabel_local<|S.own x<|Q2 h) (.inr<|lookup_relabel_local<|S.own x<|Q2 h)
structure EG(X:Cx)(W:Kf)(H:Hp)(C:B'):Prop where
 no:H C=none
 fr:C≠X.env.locals
 ab:X.s₀.heap.objs.size<=C
 ce:∀x c,X.env.cells.lookup x=some c->c≠C
 pi:∀p∈X.pn++W,p.1≠C
def tf(hc:X.calm=true)(S:ID X M' N' scope)(hi:PI X tg iter wi)
  (hg:∀cl C s₂ Z fp,PG (Ja X M' N' scope cl C s₂ Z fp) tg g) (be:∀cl C s₂ Z fp,PTs (Ja X M' N' scope cl C s₂ Z fp) ifs tc) (he:∀cl C s₂ Z fp,PE (Ja X M' N' scope cl C s₂ Z fp) elt te)
  (a0:∀y c,cl.lookup y=some c->X.env.cells.lookup y=some c) (an:∀y,(y,NameKind.free)∈scope.names->∃c,cl.lookup y=some c) (I:Inv X W J H s) (h:wi J H R) (hB:∀J4 H,R J4 H->v6 M'.length g tc te J Q J4 H)
  (hR:∀D C s4 H',Inv X W J H' s4->(∃m,s4.heap.Ns C m)->EG X W H' C->Q (.ref D) H'->RR (.ref D) C (.ok .next) s4):
  J6 X (eval iter X.env) (λv s1=>J6 X (pyIter v) (λap s2=>J6 X (newList []) (λIr s3=>
   J6 X (newFunctionEnv scope X.env.globals cl [] X.env.qual none .none<|some X.env) (λa6 s4=>
    codeAny (model X.prog X.w) X.A (.compStart (.ListComp elt [{tg,iter,ifs,0}] scope pos) 0 ap Ir {a6 with scope:=relabel scope X.env}) (RR Ir a6.locals) s4) X.xe s3) X.xe s2) X.xe s1) X.xe s:=by
 refine HX (hi W s J H _ I h) λv s1 h1=>HX h1 λap s2 h2=>?_;let{it,fp,tn,J4,H2,e,O,T,ac,f2,h}:=h2;subst e;refine wpAny_newObj_type<|wpAny_newFunctionEnv S.nocell (by intro y hy;simp at hy) (λh₁ U Y=>?_) S.kind;dsimp only at U Y⊢;generalize hD:s2.heap.objs.size=D at*;generalize af:s2.heap.push {cls:= .type i1,dict:=none,data:= .seq ([]:List Value).toArray}=h3 at U Y⊢;have a2:h3.objs.size=D+1:=by rw[<-af,Heap.size_push,hD]
 have fD:H2 D=none:=O.hok.fresh (Zo hD);let{J3,{m0,w0},av}:=hB _ _ h D fD;generalize hC:h3.objs.size=C at*;have gD:s2.heap.get? D=none:=XD (Zo hD);have gC:s2.heap.get? C=none:=XD (by rw[hD,a2];exact Za _);have DC:D≠C:=by rw[a2];exact Qs<|X2 _
 have bh:∀b o,s2.heap.get? b=some o->h3.get? b=some o:=λb o e=>by rw[<-af];exact Xb _ e
 have a7:∀b o,h3.get? b=some o->h₁.get? b=some o:=λb o e=>Y.extBut b o (by intro z;have:=Xi e;rw[z,hC]at this;exact Xd this<|Zj _) (Xb _ e);have up:∀b o,s2.heap.get? b=some o->h₁.get? b=some o:=λb o e=>a7 b o (bh b o e);have oD:h₁.get? D=some {cls:= .type i1,dict:=none,data:= .seq ([]:List Value).toArray}:=a7 _ _ (by rw[<-af,<-hD];exact Xl _ M);have a4:∀b∈fp,b≠C/\b∉JM X.stack:=λb hb=>by
  let{o,e,_}:=T.obj _ _ ac b hb;refine{λz=>(by rw[z,gC]at e;cases e),λz=>?_};rcases Qa.mp (O.stkSub b z)with q|q
  .exact(f2 b hb).2.1 q
  .exact(f2 b hb).2.2.1 q
 have fC:H2 C=none:=O.hok.fresh (by rw[hD,a2];exact Za _);have ok:(Ja X M' N' scope cl C s2 H2 fp).Ok:=
  {mod:=O.ok.mod,kind:=S.kind,glob:=O.ok.glob,blt:=O.ok.blt,above:=by show s2.heap.objs.size<=C;rw[hD,a2];exact Za _
   inj:=λy z c h1 h2=>O.ok.inj y z c (a0 _ _ h1) (a0 _ _ h2),has:=λy hy=>an y (S.cells y hy),cab:=λy c z=>by cases z
   hd:=O.ok.hd,frames:=O.ok.frames,stk:= .inl M,exf:=λb hb=>{(a4 b hb).1,λy c e=>(f2 b hb).2.2.2.2.1 y c<|a0 y c e}
   bs:=O.bs,bsz:=Qw O.ok.bsz O.sz
   noex:=λb o e hb=>by
    rcases(f2 b hb).2.2.2.1 with q|q
    .exact O.ok.noex b o e q
    .exact Xd (Ql (Xi e)<|Qw O.ok.bsz q) (Zj _)
   exfs:=λb hb=>(a4 b hb).2,funs:=O.stack,frf:=O.stkFree}
 have br:∀b u,H2 b=some u->b≠D:=λb u e=>aq e fD;have I3:Inv (Ja X M' N' scope cl C s2 H2 fp) [] (List.replicate M'.length none++J) (upd H2 D<|.lst []) {s2 with heap:=h₁,toks:=s2.toks+([]:Lg).length}:=
  {ok:=ok,os:=rfl,bare:=O.bare,base:=Un.laid up (Zo hD) fD
   loc:={_,U,λi y v e1 e2 e3=>by
    by_cases lt:i<M'.length
    .have e2:(List.replicate M'.length none++J)[i]?=some (some v):=e2;rw[ZB (by rwa[QR]),List.getElem?_replicate,Xe lt]at e2;cases e2
    .have e1:(M'++N')[i]?=some y:=e1;have e2:(List.replicate M'.length none++J)[i]?=some (some v):=e2;rw[Zw (ZI.mp lt)]at e1;rw[Zw (by rw[QR];exact ZI.mp lt),QR]at e2;generalize i-M'.length=j at e1 e2;let{e1,q1,q2}:=S.vis j y e1 e3;have kc:=S.free _ q1 M;let{m,hn,hl}:=O.loc;let{u,r,l}:=hl j y v e1 e2 (.inr<|.inl kc);refine{u,r,?_};rcases l with⟨k,_⟩|⟨_,c,e,z⟩
     .rw[kc]at k;cases k
     .let{c',e'}:=an y q1;have ee:=a0 _ _ e';rw[e]at ee;cases ee;let{o,ho,hd}:=z;exact .inr {.inl q2,c,e',o,up _ _ ho,hd}}
   cell:=λy c e=>by
    let{v,o,ho,hd}:=O.cell y c (a0 _ _ e);exact{v,o,up _ _ ho,hd}
   free:=by show upd H2 D (.lst []) C=none;rwa[ah DC.symm]
   freeC:=λy c e=>by
    have q:=O.freeC y c (a0 _ _ e);let{v,o,ho,hd}:=O.cell y c (a0 _ _ e);rw[ah (λz=>by rw[z,gD]at ho;cases ho)];exact q
   pin:=λp hp=>Xd (show p∈([]:Kf) from hp) (by simp)
   hok:=O.hok.laid up (Zo hD) {Qy _,[],0,.nil,oD}
   len:=by show(List.replicate M'.length none++J).length=(M'++N').length;rw[Q5,Q5,QR,O.len,S.ln]}
 have a3:∀{H':Hp},(∀b∈fp,H' b=none)->∀b∈fp,cK (Ja X M' N' scope cl C s2 H2 fp) [] H' b:=λhn b hb=>
  {hn b hb,(a4 b hb).1,(a4 b hb).2,.inl hb,λy c e=>(f2 b hb).2.2.2.2.1 y c<|a0 _ _ e,λp hp=>Xd (show p∈([]:Kf) from hp)<|by simp}
 have b3:tn 0 h₁:=T.keep _ _ _ ac λb hb o e=>up b o e;have a8:∀s3:Shared,s3={s2 with heap:=h₁,toks:=s2.toks+([]:Lg).length}->
   codeAny (model X.prog X.w) X.A (.compLoop (.ListComp elt [{tg,iter,ifs,0}] scope pos) 0 (.ref it) (.ref D)<|compEnvC scope cl C X.env) (RR (.ref D) C) s3:=by
  rintro s3 rfl;refine codeAny_loop M (λn s'=>∃i τ ys H',Inv (Ja X M' N' scope cl C s2 H2 fp) [] τ H' s'/\tn i s'.heap/\(∀b∈fp,H' b=none)/\H' D=some (.lst ys)/\J3 i n τ ys H') ?_ m0
   {0,_,[],_,I3,b3,λb hb=>by rw[ah (λz=>by let{o,e,_}:=T.obj _ _ ac b hb;rw[z,gD]at e;cases e)];exact(f2 b hb).1,BB,w0}
  rintro n s' ⟨i,τ,ys,H',I',b4,b5,bj,w'⟩;show wpAny _ X.A ((compTurn (.ListComp elt [{tg,iter,ifs,0}] scope pos) 0 (.ref it) (.ref D)<|compEnvC scope cl C X.env).onRaise<|λx=>do noteFrame x (compEnvC scope cl C X.env);theTreesLotGoes x) _ _ s';refine wpAny_noted ?_;rw[compTurn_list];refine Xa<|wpAny_standAt (Xa ?_);rcases av i n τ ys H' w' bj with⟨ba,qn⟩|⟨go,step⟩
  .refine HX (T.done (Ja X M' N' scope cl C s2 H2 fp) M M M hc i [] s' _ H' _ I' (a3 b5) b4 ba) λr s4 zz=>?_;let{hr,I4}:=zz;subst hr;refine Xj ?_;let{m,hn,_}:=I4.loc;have IX:Inv X W J H' s4:=O.call' (s':=s4) I4.os (show Un (JM X.stack) fp H2 H' s2.heap s4.heap from I4.base) I4.hok I4.bare λb hb=>{(f2 b hb).2.2.2.1,(f2 b hb).2.1,(f2 b hb).2.2.2.2.1,(f2 b hb).2.2.2.2.2};refine hR D C s4 H' IX ⟨m,hn⟩ {I4.free,λz=>?_,?_,λy c e z=>?_,λp hp z=>?_} qn
   .have:=O.lt;rw[<-z,a2,hD]at this;exact Xd this<|ZI.mpr (Za _)
   .refine Qw O.sz ?_;rw[hD,a2];exact Za _
   .let{v,o,ho,_}:=O.cell y c e;rw[z,gC]at ho;cases ho
   .have ho:=(O.pin p hp).1;rw[z,gC]at ho;cases ho
  .refine HX (T.item (Ja X M' N' scope cl C s2 H2 fp) M M M hc i [] s' _ H' _ I' (a3 b5) b4 go) λr s4 zz=>?_;let{u,hr,h4}:=zz;subst hr;refine Xa<|HX h4 λ_ s5 a1=>?_;let{y,H5,I5,r5,y5,ak,bl}:=a1;have bn:=I5.pinned (a3 bl) (T.obj _ _ ak);let{G,hG,gq}:=step y H5 y5;refine Xa<|Xp (hg cl C s2 H2 fp _ s5 _ H5 y _ _ bn r5 gq) (λ_ s6 a1=>?_) λ_ _ f=>f.elim;let{bb,H6,I6,q6}:=a1;have a5:∀{bd:St}{H7:Hp}{s7:J'},Inv (Ja X M' N' scope cl C s2 H2 fp) ([]++pZ fp s5.heap) bd H7 s7->tn (i+1) s7.heap/\∀b∈fp,H7 b=none:=λ{bd H7 s7} I7=>by
    refine{T.keep _ _ _ ak λb hb o e=>(I7.pin (b,o)<|Qj _<|Qj _<|iZ hb e).1,λb hb=>?_};let{o,e,d}:=T.obj _ _ ak b hb;exact(I7.pin (b,o)<|Qj _<|Qj _<|iZ hb e).2.1
   let{Ny,Ns,hy,hn,q6}:=hG _ _ q6;refine Xa<|Xp (be cl C s2 H2 fp _ s6 _ H6 _ I6 q6) (λb s7 zz=>?_) λ_ _ f=>f.elim;let{H7,I7,q7}:=zz;cases b with
   |false=>
    rw[Xc Q8]at q7;let{bo,m',al,w7}:=hn _ q7;exact Xj<|show _/\_ from{M,m',al,i+1,bb,ys,_,I7.unpinned,(a5 I7).1,(a5 I7).2,bo,w7}
   |true=>
    rw[Xe M]at q7;refine Xa<|Xa (Xp (he cl C s2 H2 fp _ s7 _ H7 _ I7 q7) (λz s8 a1=>?_) λ_ _ f=>f.elim);let{y',H8,I8,r8,q8}:=a1;let{bp,bq,m',al,w8}:=hy _ _ q8;refine Xa<|Xp (fe (X:=Ja X M' N' scope cl C s2 H2 fp) _ s8 _ H8 (.ref D) [y'] (.ref D) [z] (λ_ H9=>H9=upd H8 D (.lst<|ys++ [y'])) I8 M (.cons r8 .nil) ⟨D,ys,y',M,M,bp,bq,M⟩) (λz9 s9 a1=>?_) λ_ _ f=>f.elim;let{_,H9,I9,_,e9}:=a1;subst e9;exact Xj<|Xj {M,m',al,i+1,bb,ys++ [y'],_,I9.unpinned,(a5 I9).1,(a5 I9).2,BB,w8}
 exact codeAny_compStart_list (a8 _ M)<|T.self _ 0 _ _ _ b3 (a8 _ M)
def Inv.loose{h':Heap}(I:Inv X W J H s)(l:EG X W H C)(z:Heap.SameBut C s.heap h'):Inv X W J H {s with heap:=h'}:=
 I.turned (t':=s.toks) (λb o hb e=>(z.2 b hb).trans e) l.no l.fr (.inr l.ab) l.ce l.pi
section
variable{py spos:Pos}
def vj(hB:∀J Q J4 H,B J Q J4 H->v6 M'.length g tc te J Q J4 H)(hc:X.calm=true)(S:ID X M' N' scope)(hi:PI X tg iter wi)(hg:ID X M' N' scope->∀cl C s₂ z fp,PG (Ja X M' N' scope cl C s₂ z fp) tg g)(U:∀cl C s₂ z fp,PTs (Ja X M' N' scope cl C s₂ z fp) ifs tc)(he:∀cl C s₂ z fp,PE (Ja X M' N' scope cl C s₂ z fp) elt te)
  (hs:∀x,foldedSetIterable iter X.env x=pure x:=by subst_eqs):PE X (.ListComp elt [{tg,iter,ifs,0}] scope pos) (λJ H Q=>wi J H<|B J Q):=by
 intro W s J H Q I h;let{cl,O,Y,Z}:=qL (env:=X.env) (scope:=scope) λp hp hf=>I.ok.has p.1 (.inl<|S.free p hp hf);rw[eval_ListComp];refine wpAny_comprehension_free (use:=none) M hs O S.kind S.names<|tf hc S hi (hg S) U he Y Z I h (hB _ _) λD C s4 H' I4 hn l q=>?_;let{m,hn}:=hn;exact{m,hn,λh' sb=>{.ref D,H',I4.loose l sb,M,q}}
def Ao(hB:∀J Q J4 H,B J Q J4 H->v6 M'.length g tc te J Q J4 H)(hc:X.calm=true)(S:ID X M' N' scope)(hi:PI X tg iter wi)(hg:ID X M' N' scope->∀cl C s₂ O fp,PG (Ja X M' N' scope cl C s₂ O fp) tg g)(Y:∀cl C s₂ O fp,PTs (Ja X M' N' scope cl C s₂ O fp) ifs tc)(he:∀cl C s₂ O fp,PE (Ja X M' N' scope cl C s₂ O fp) elt te)
  (hN:X.N.Nodup) (hy:X.N[i]?=some y) (hk:X.env.scope.names.lookup y=some .local) (Z:swapsWith (.ListComp elt [{tg,iter,ifs,0}] scope pos) (some<|.Name y py) spos.line X.env=pure true:=by rfl)
  (hs:∀x,foldedSetIterable iter X.env x=pure x:=by subst_eqs):PS X (.Assign [.Name y py] (.ListComp elt [{tg,iter,ifs,0}] scope pos) spos) (Aa (λJ H Q=>wi J H<|B J Q)<|mm i):=by
 intro W s J H D I h;let{cl,U,a0,a1}:=qL (env:=X.env) (scope:=scope) λp hp hf=>I.ok.has p.1 (.inl<|S.free p hp hf);rw[exec_Assign_Name_used _ _ _ _ Z];refine Xa<|wpAny_standAt (Xa ?_);show wpAny _ X.A (do let _<-comprehension (.ListComp elt [{tg,iter,ifs,0}] scope pos) scope X.env _ (newList []) false (eval iter X.env) (some<|assign (.Name y py) X.env)) _ _ s;refine Xa (HX (wpAny_comprehension_free (use:=some<|assign (.Name y py) X.env) (Q:=λ_ s'=>SP X W D .next s') M hs U S.kind S.names
  (tf (Q:=λv H'=>D.nx (J.set i<|some v) H') hc S hi (hg S) Y he a0 a1 I h (hB _ _) λD' C s4 H' I4 hn l q=>?_)) λ_ s' hq=>Xj<|Xj hq)
 let{m,hn}:=hn;show wpAny _ X.A (assign (.Name y py) X.env<|.ref D') _ _ _;refine wpAny_assign_Name<|sK (v:= .ref D') I4 hN hy (.inl hk) M (λs5 I5 a2=>?_) (.inr hk);let{a,sb,ha}:=a2;have ne:C≠a:=by
  rcases ha with z|z
  .rw[z];exact l.fr
  .exact Ne.symm<|l.ce _ _ z
 exact{m,hn.sameBut sb ne,λh' a3=>{_,H',I5.loose l a3,q}}
end
def xr(te:TE)(J:St)(Q:VK)(J4:It)(H1:Hp):Prop:=∀D,H1 D=none->∃J3:Nat->Nat->List V->Hp->Prop,(∃m,J3 0 m [] (upd H1 D<|.lst []))/\∀i m ys H2,J3 i m ys H2->H2 D=some (.lst ys)->
 (J4.stop i H2/\Q (.ref D) H2)\/(J4.go i H2/\∀x H3,J4.yld i H2 x H3->te (some x::J) H3 λy H4=>H4 D=some (.lst ys)/\ys.length<sizeLine/\∃m',m'<m/\J3 (i+1) m' (ys++ [y]) (upd H4 D<|.lst<|ys++ [y]))
def GO(wi:TI)(te:TE):TE:=λJ H Q=>wi J H (xr te J Q)
def Hw(h:xr te J Q J4 H1):v6 1 (mm 0) Eg te J Q J4 H1:=λD Y=>by
 let{J3,{Z,w0},I}:=h D Y;refine{λi m U ys H=>(∃v,U=v::J)/\J3 i m ys H,{Z,⟨none,M⟩,w0},λi m U ys H2 w e=>?_};let{{v,rfl},w}:=w;rcases I i m ys H2 w e with z|⟨go,z⟩
 .exact .inl z
 .refine .inr {go,λx H3 y=>{λO H4=>O=some x::J/\H4=H3,λO H4 e=>?_,M,M}};let{rfl,rfl}:=e;refine{λy S=>S D=some (.lst ys)/\ys.length<sizeLine/\∃m',m'<m/\J3 (i+1) m' (ys++ [y]) (upd S D<|.lst<|ys++ [y]),λ_=>False,λy S n=>?_,λ_ n=>n.elim,?_}
  .let{n1,n2,m',n3,n4}:=n;exact{n1,n2,m',n3,{_,M},n4}
  .exact cT (B:=False)<|z x _ y
def tW(hc:X.calm=true)(S:ID X [x] N' scope)(hi:PI X (.Name x px) iter wi)(he:∀cl C s₂ z fp,PE (Ja X [x] N' scope cl C s₂ z fp) elt te)
  (hs:∀x,foldedSetIterable iter X.env x=pure x:=by subst_eqs):PE X (.ListComp elt [{.Name x px,iter,[],0}] scope pos) (GO wi te):=
 vj (B:=xr te) (λ_ _ _ _=>Hw) hc S hi (λS _ _ _ _ _=>S.pg M) (λ_ _ _ _ _=>CP) he hs
noncomputable def va(scope dsc:Scope):List (Str×NameKind):=scope.names.map λp=>if(p.2==NameKind.free&&dsc.kind==ScopeKind.function&&dsc.names.lookup p.1==some NameKind.cell)=true then(p.1,NameKind.cell)else(p.1,p.2)
def EB(M' N N':Kc)(dsc:Scope)(scope:Scope):Bool:=
 (scope.kind==ScopeKind.function)&&decide (M'++N').Nodup&&(M'.all λx=>scope.names.lookup x==some NameKind.local)&&(scope.names.all λy=>y.2 !=NameKind.cell)&&(scope.names.all λy=>y.2 !=NameKind.local||scope.names.lookup y.1==some NameKind.local)
 &&(scope.names.all λy=>y.2 !=NameKind.free||dsc.names.lookup y.1==some NameKind.cell)&&(N'.all λy=>(va scope dsc).lookup y !=some NameKind.local&&(va scope dsc).lookup y !=some NameKind.free)&&decide (N'.length=N.length)&&(N'.zip N).all λp=>p.1==p.2||(va scope dsc).lookup p.1==none
set_option tactic.hygienic true in
theorem lQ{dsc:Scope}:∀{l:List (Str×NameKind)}{y:Str}{k:NameKind},(∀p∈l,p.2≠NameKind.cell)->(l.map λp=>if(p.2==NameKind.free&&dsc.kind==ScopeKind.function&&dsc.names.lookup p.1==some NameKind.cell)=true then(p.1,NameKind.cell)else(p.1,p.2)).lookup y=some k->(k= .cell\/k= .free)->(y,NameKind.free)∈l
 | [],y,k,_,h,_=>by simp at h
 |(n,kk)::r,y,k,hn,h,hk=>by
  rw[Qm]at h;by_cases c:(kk==NameKind.free&&dsc.kind==ScopeKind.function&&dsc.names.lookup n==some NameKind.cell)=true
  .dsimp only at h;rw[Xe c,Zh]at h;split at h
   .rename_i z
    rw[Xu]at z;subst z;have:kk= .free:=by
     rw[Qv,Qv]at c;simpa using c.1.1
    rw[this];exact Q6
   .exact Q4 _<|lQ (λp hp=>hn p<|Q4 _ hp) h hk
  .dsimp only at h;rw[Xc c,Zh]at h;split at h
   .rename_i z
    rw[Xu]at z;subst z;cases h;rcases hk with e|e
    .exact Xd e<|hn _ Q6
    .rw[e];exact Q6
   .exact Q4 _<|lQ (λp hp=>hn p<|Q4 _ hp) h hk
def ID.of{dsc:Scope}{N:Kc}(Y:X.N=N)(Z:X.env.scope=dsc)(h:EB M' N N' dsc scope=true):ID X M' N' scope:=by
 unfold EB at h;simp only[Qv]at h;let{{{{{{{{h1,h2},h3},h4},h5},h6},h7},h8},h9}:=h;have O:(relabel scope X.env).names=va scope dsc:=by rw[<-Z];rfl
 have I:∀y∈scope.names,y.2≠NameKind.cell:=λy hy=>by have:=Qx.mp h4 y hy;simpa using this
 refine{by simpa using h1,Xk h2,by rw[Y];exact Xk h8,λx hx=>by simpa using Qx.mp h3 x hx,I,λy hy e=>?_,λy hy e=>?_,λj y U v=>?_,λy e=>?_}
 .have:=Qx.mp h5 y hy;rw[e]at this;simpa using this
 .have:=Qx.mp h6 y hy;rw[e]at this;show X.env.scope.names.lookup y.1=_;rw[Z];simpa using this
 .have S:=Qx.mp h7 y (Q2 U);have hz:∃z,N[j]?=some z/\(y,z)∈N'.zip N:=by
   have lj:=(Q7.mp U).1;have l8:N'.length=N.length:=Xk h8;refine{N[j]'(),Qb _,?_};refine Q2 (i:=j) ?_;rw[List.getElem?_zip_eq_some];exact{U,Qb _}
  let{z,hz,mz}:=hz;have e9:=Qx.mp h9 _ mz;unfold KP at v;rw[O]at v⊢;have S:¬(va scope dsc).lookup y=some NameKind.local/\¬(va scope dsc).lookup y=some NameKind.free:=by simpa using S
  rcases v with v|v|v
  .exact Xd v S.1
  .refine{?_,lQ I v<|.inl M,v};rw[Y,hz];dsimp only at e9;rw[v,Bool.or_eq_true]at e9;rcases e9 with e9|e9
   .rw[Xu]at e9;rw[e9]
   .cases e9
  .exact Xd v S.2
 .have e:(va scope dsc).lookup y=some .cell\/(va scope dsc).lookup y=some .free:=by rwa[<-O]
  rcases e with e|e
  .exact lQ I e<|.inl M
  .exact lQ I e<|.inr M
abbrev _root_.Ld:=Nat->List V->Hp->Prop
def Ie(n i:Nat)(ys:Ke)(D:B')(Pv:Ld):VK:=λy H4=>H4 D=some (.lst ys)/\ys.length<sizeLine/\∃m',m'<n-i/\m'=n-(i+1)/\i+1<=n/\Pv (i+1) (ys++ [y]) (upd H4 D<|.lst<|ys++ [y])
def Ie.mk{Pv:Ld}{y:V}(hi:i<n)(h1:H4 D=some (.lst ys))(h2:ys.length<sizeLine)(z:Pv (i+1) (ys++ [y]) (upd H4 D<|.lst<|ys++ [y])):Ie n i ys D Pv y H4:=
 {h1,h2,n-(i+1),(),M,hi,z}
def zu{a:B'}(Pv:Ld)(I:Pv 0 [] (upd H1 D<|.lst []))(hl:∀i ys H,i<=xs.length->Pv i ys H->HS K H a xs)
  (hs:∀i x ys H2,xs[i]?=some x->Pv i ys H2->H2 D=some (.lst ys)->te (some x::J) H2 (Ie xs.length i ys D Pv))
  (hd:∀ys H2,Pv xs.length ys H2->H2 D=some (.lst ys)->Fin H2):
  ∃J3:Nat->Nat->List V->Hp->Prop,(∃m,J3 0 m [] (upd H1 D<|.lst []))/\∀i m ys H2,J3 i m ys H2->H2 D=some (.lst ys)->
   ((KR K a).stop i H2/\Fin H2)\/((KR K a).go i H2/\∀x H3,(KR K a).yld i H2 x H3->te (some x::J) H3 λy H4=>H4 D=some (.lst ys)/\ys.length<sizeLine/\∃m',m'<m/\J3 (i+1) m' (ys++ [y]) (upd H4 D<|.lst<|ys++ [y])):=by
 refine{λi m ys H=>m=xs.length-i/\i<=xs.length/\Pv i ys H,{xs.length,by simp,Qy _,I},?_};rintro i m ys H ⟨rfl,hi,p⟩ z;have q:=hl i ys H hi p;by_cases lt:i<xs.length
 .refine .inr {{xs,xs[i],q,by simp[lt]},λx H' y=>?_};let{e,y}:=y;subst e;exact hs i x ys _ (y xs q) p z
 .have e:i=xs.length:=();subst e;exact .inl {{xs,q,Qc _},hd ys H p z}
def xm(Pv:Ld)(I:Pv 0 [] (upd H1 D<|.lst []))
  (hs:∀i ys H2,i<n->Pv i ys H2->H2 D=some (.lst ys)->te (some (.int<|lo+i)::J) H2 (Ie n i ys D Pv))
  (hd:∀ys H2,Pv n ys H2->H2 D=some (.lst ys)->Fin H2):
  ∃J3:Nat->Nat->List V->Hp->Prop,(∃m,J3 0 m [] (upd H1 D<|.lst []))/\∀i m ys H2,J3 i m ys H2->H2 D=some (.lst ys)->
   ((Jr lo n).stop i H2/\Fin H2)\/((Jr lo n).go i H2/\∀x H3,(Jr lo n).yld i H2 x H3->te (some x::J) H3 λy H4=>H4 D=some (.lst ys)/\ys.length<sizeLine/\∃m',m'<m/\J3 (i+1) m' (ys++ [y]) (upd H4 D<|.lst<|ys++ [y])):=by
 refine{λi m ys H=>m=n-i/\i<=n/\Pv i ys H,{n,by simp,Qy _,I},?_};rintro i m ys H ⟨rfl,hi,p⟩ z;by_cases lt:i<n
 .refine .inr {lt,λx H' y=>?_};let{e,y}:=y;subst e y;exact hs i ys _ lt p z
 .have e:i=n:=();subst e;exact .inl {Qc _,hd ys H p z}
def uw(tc:TT)(te:TE)(J:St)(Q:VK)(J4:It)(H1:Hp):Prop:=∀D,H1 D=none->∃J3:Nat->Nat->List V->Hp->Prop,(∃m,J3 0 m [] (upd H1 D<|.lst []))/\∀i m ys H2,J3 i m ys H2->H2 D=some (.lst ys)->
 (J4.stop i H2/\Q (.ref D) H2)\/(J4.go i H2/\∀x H3,J4.yld i H2 x H3->tc (some x::J) H3 λb H4=>if b=true then te (some x::J) H4 λy H5=>H5 D=some (.lst ys)/\ys.length<sizeLine/\∃m',m'<m/\J3 (i+1) m' (ys++ [y]) (upd H5 D<|.lst<|ys++ [y])else H4 D=some (.lst ys)/\∃m',m'<m/\J3 (i+1) m' ys H4)
def z7(wi:TI)(tc:TT)(te:TE):TE:=λJ H Q=>wi J H (uw tc te J Q)
def EC(h:uw tc te J Q J4 H1):v6 1 (mm 0) tc te J Q J4 H1:=λD hD=>by
 let{J3,{m0,w0},I}:=h D hD;refine{λi m Z ys H=>(∃v,Z=v::J)/\J3 i m ys H,{m0,⟨none,M⟩,w0},λi m Z ys H2 w e=>?_};let{{v,rfl},w}:=w;rcases I i m ys H2 w e with z|⟨go,z⟩
 .exact .inl z
 .refine .inr {go,λx H3 y=>{λO H4=>O=some x::J/\H4=H3,λO H4 e=>?_,M,M}};let{rfl,rfl}:=e;refine{_,_,λy H6 n=>?_,λH5 n=>?_,z x _ y}
  .let{S,n2,m',U,Y}:=n;exact{S,n2,m',U,{_,M},Y}
  .let{S,m',U,Y}:=n;exact{S,m',U,{_,M},Y}
def vk{I:Expr}(hc:X.calm=true)(S:ID X [x] N' scope)(hi:PI X (.Name x px) iter wi)(O:∀cl C s₂ z fp,PT (Ja X [x] N' scope cl C s₂ z fp) I tc)(he:∀cl C s₂ z fp,PE (Ja X [x] N' scope cl C s₂ z fp) elt te)
  (hs:∀x,foldedSetIterable iter X.env x=pure x:=by subst_eqs):PE X (.ListComp elt [{.Name x px,iter,[I],0}] scope pos) (z7 wi tc te):=
 vj (B:=uw tc te) (λ_ _ _ _=>EC) hc S hi (λS _ _ _ _ _=>S.pg M) (λ_ _ _ _ _=>xN<|O _ _ _ _ _) he hs
def Ap{I:Expr}{py spos:Pos}(hc:X.calm=true)(S:ID X [x] N' scope)(hi:PI X (.Name x px) iter wi)(O:∀cl C s₂ z fp,PT (Ja X [x] N' scope cl C s₂ z fp) I tc)(he:∀cl C s₂ z fp,PE (Ja X [x] N' scope cl C s₂ z fp) elt te)
  (Y:X.N.Nodup) (hy:X.N[i]?=some y) (hk:X.env.scope.names.lookup y=some .local) (U:swapsWith (.ListComp elt [{.Name x px,iter,[I],0}] scope pos) (some<|.Name y py) spos.line X.env=pure true:=by rfl)
  (hs:∀x,foldedSetIterable iter X.env x=pure x:=by subst_eqs):PS X (.Assign [.Name y py] (.ListComp elt [{.Name x px,iter,[I],0}] scope pos) spos) (Aa (z7 wi tc te)<|mm i):=
 Ao (B:=uw tc te) (λ_ _ _ _=>EC) hc S hi (λS _ _ _ _ _=>S.pg M) (λ_ _ _ _ _=>xN<|O _ _ _ _ _) he Y hy hk U hs
def Jd(n i:Nat)(ys:Ke)(D:B')(Pv:Ld)(H4:Hp):Prop:=H4 D=some (.lst ys)/\∃m',m'<n-i/\m'=n-(i+1)/\i+1<=n/\Pv (i+1) ys H4
def Jd.mk{Pv:Ld}(hi:i<n)(h1:H4 D=some (.lst ys))(z:Pv (i+1) ys H4):Jd n i ys D Pv H4:={h1,n-(i+1),(),M,hi,z}
def qK{a:B'}(Pv:Ld)(O:Pv 0 [] (upd H1 D<|.lst []))(hl:∀i ys H,i<=xs.length->Pv i ys H->HS K H a xs)
  (hs:∀i x ys H2,xs[i]?=some x->Pv i ys H2->H2 D=some (.lst ys)->tc (some x::J) H2 λb H4=>if b=true then te (some x::J) H4 (Ie xs.length i ys D Pv)else Jd xs.length i ys D Pv H4)
  (hd:∀ys H2,Pv xs.length ys H2->H2 D=some (.lst ys)->Fin H2):
  ∃J3:Nat->Nat->List V->Hp->Prop,(∃m,J3 0 m [] (upd H1 D<|.lst []))/\∀i m ys H2,J3 i m ys H2->H2 D=some (.lst ys)->
   ((KR K a).stop i H2/\Fin H2)\/((KR K a).go i H2/\∀x H3,(KR K a).yld i H2 x H3->tc (some x::J) H3 λb H4=>if b=true then te (some x::J) H4 λy z=>z D=some (.lst ys)/\ys.length<sizeLine/\∃m',m'<m/\J3 (i+1) m' (ys++ [y]) (upd z D<|.lst<|ys++ [y])else H4 D=some (.lst ys)/\∃m',m'<m/\J3 (i+1) m' ys H4):=by
 refine{λi m ys H=>m=xs.length-i/\i<=xs.length/\Pv i ys H,{xs.length,by simp,Qy _,O},?_};rintro i m ys H ⟨rfl,hi,p⟩ I;have q:=hl i ys H hi p;by_cases lt:i<xs.length
 .refine .inr {{xs,xs[i],q,by simp[lt]},λx H' y=>?_};let{e,y}:=y;subst e;exact hs i x ys _ (y xs q) p I
 .have e:i=xs.length:=();subst e;exact .inl {{xs,q,Qc _},hd ys H p I}
def vX(Pv:Ld)(O:Pv 0 [] (upd H1 D<|.lst []))
  (hs:∀i ys H2,i<n->Pv i ys H2->H2 D=some (.lst ys)->tc (some (.int<|lo+i)::J) H2 λb H4=>if b=true then te (some (.int<|lo+i)::J) H4 (Ie n i ys D Pv)else Jd n i ys D Pv H4)
  (hd:∀ys H2,Pv n ys H2->H2 D=some (.lst ys)->Fin H2):
  ∃J3:Nat->Nat->List V->Hp->Prop,(∃m,J3 0 m [] (upd H1 D<|.lst []))/\∀i m ys H2,J3 i m ys H2->H2 D=some (.lst ys)->
   ((Jr lo n).stop i H2/\Fin H2)\/((Jr lo n).go i H2/\∀x H3,(Jr lo n).yld i H2 x H3->tc (some x::J) H3 λb H4=>if b=true then te (some x::J) H4 λy z=>z D=some (.lst ys)/\ys.length<sizeLine/\∃m',m'<m/\J3 (i+1) m' (ys++ [y]) (upd z D<|.lst<|ys++ [y])else H4 D=some (.lst ys)/\∃m',m'<m/\J3 (i+1) m' ys H4):=by
 refine{λi m ys H=>m=n-i/\i<=n/\Pv i ys H,{n,by simp,Qy _,O},?_};rintro i m ys H ⟨rfl,hi,p⟩ I;by_cases lt:i<n
 .refine .inr {lt,λx H' y=>?_};let{e,y}:=y;subst e y;exact hs i ys _ lt p I
 .have e:i=n:=();subst e;exact .inl {Qc _,hd ys H p I}
noncomputable def vwO(a d:B'):HO:= .ext λh=>h.IsItemsView a d
def Itd(ob:Obj)(d:B')(kvs:Kv):It:=
 {λi H=>H d=some (.frz ob<|.dK kvs)/\i<kvs.length,λi H x H'=>∃p k v,x= .ref p/\H p=none/\kvs[i]?=some (k,v)/\H'=upd H p (.tup [kV k,v]),λi H=>H d=some (.frz ob<|.dK kvs)/\kvs.length<=i}
def DObj(P:Ki)(w:Kj)(ob:Obj)(d:B')(kvs:Kv)(vs:List (Key×Value))(ep:Nat):Prop:=
 KV kvs vs/\∀h:Heap,h.get? d=some ob->h.DictAt (bG P w) d vs ep
set_option tactic.hygienic true in
def KV.getI(h:KV kvs vs):∀{i:Nat}{k:Key}{v:V},kvs[i]?=some (k,v)->∃u,vs[i]?=some (k,u)/\RelV v u:=by
 induction h with
 |nil=>intro i k v e;simp at e
 |cons r t z=>
  rename_i p q ps I
  intro i k v e;cases i with
  |zero=>
   simp at e;subst e;exact{q.2,by simp[show k=q.1 from r.1],r.2}
  |succ j=>
   let{u,h1,h2}:=z (i:=j) (by simpa using e);exact{u,by simpa using h1,h2}
def wp{x1}{ep:Nat}(it:B')(D:DObj P w ob d kvs vs ep):
  xx P w K (.Tuple elts x1 pos) (Itd ob d kvs) [it] it (λi h=>∃ok Y,IsItemIter h it d i vs.length ep ok Y) where
 mem:=by simp
 obj:=λi h st b hb=>by
  let{ok,Y,st}:=st;have z:b=it:=by simpa using hb
  subst z;exact{_,st,λv z=>by cases z}
 keep:=λi h h' st k=>by
  let{ok,Y,st}:=st;exact{ok,Y,k it (by simp) _ st}
 item:=by
  intro X hP hw hK hc i W s J H E I hf st hg;subst hP hw hK;let{ok,Y,st}:=st;let{hq,hi}:=hg;have fi:=hf it (by simp);let{O,_}:=I.hok d _ hq;have S:=D.2 s.heap O;obtain⟨⟨k,v⟩,hx⟩:∃kv,kvs[i]?=some kv:={kvs[i],by simp[hi]};let{u,hu,ru}:=KV.getI D.1 hx;refine wpAny_pyNext_items_item st S hu λkey h' Z g1 g3 gz g5=>{_,M,?_};refine wpAny_letOwnedTupleGo_items g1 λh2 k1 k2=>?_;have rk:RelV (kV k) key:=Dn Z;have np:H s.heap.objs.size=none:=I.hok.fresh (Qc _);have a0:s.heap.objs.size≠it:=X0 (Xi st);have keep:∀b o,b≠it->s.heap.get? b=some o->h2.get? b=some o:=λb o z q=>(k2.2 b z).trans (g5 b o z q);have U:h2.get? s.heap.objs.size=some {cls:= .type cs,data:= .seq #[key,u]}:=(k2.2 _ a0).trans g3;have KW:∀b v,H b=some v->b≠it:=λb v q z=>by rw[z,fi.1]at q;cases q
  have un:Un (JM X.stack) [it] H (upd H s.heap.objs.size<|.tup [kV k,v]) s.heap h2:=by
   refine{λb o q n hb hx=>keep b o (λz=>hx<|by simp[z]) q,λb o q n hb hx=>{o.slots,keep b o (λz=>hx<|by simp[z]) q},λb o q n hx=>?_,
    λb o q hx=>{o,keep b o (λz=>hx<|by simp[z]) q},λb ys q=>?_,λb o v q=>?_,λb ps q=>{#[],?_}}
   .rwa[ah (Qs<|Xi q)]
   .rw[ah (aq q np)];exact q
   .rw[ah (aq q np)];exact q
   .rw[ah (aq q np),q];simp
  have hok:IR X.prog X.w (upd H s.heap.objs.size<|.tup [kV k,v]) h2:=λb v' q=>by
   by_cases z:b=s.heap.objs.size
   .subst z;rw[BB]at q;cases q;exact{by show 2<=sizeLine;decide,[key,u],.cons rk<|.cons ru .nil,_,U,M,_,M}
   .rw[ah z]at q;refine(I.hok b v' q).stay (λc o hc r=>?_) (λc r=>by rwa[ah (aq r np)]) λc ys r=>by rwa[ah (aq r np)]
    rcases hc with rfl|hc
    .exact keep _ _ (KW _ _ q) r
    .exact keep _ _ (KW _ _ hc) r
  have I2:Inv X W J (upd H s.heap.objs.size<|.tup [kV k,v]) {s with heap:=h2}:=I.call' (s':={s with heap:=h2}) M un hok I.bare λb hb=>by
   have z:cK X W H b:=hf b hb;exact⟨z.2.2.2.1,z.2.1,z.2.2.2.2.1,z.2.2.2.2.2⟩
  refine{.ref s.heap.objs.size,_,I2,M,{_,k,v,M,np,hx,M},⟨key,u,k1⟩,λb hb=>?_};have z:b=it:=by simpa using hb
  subst z;rw[ah (Ne.symm a0)];exact fi.1
 done:=by
  intro X hP hw hK hc i W s J H E I hf st hg;subst hP hw hK;let{ok,Y,st}:=st;let{hq,hi}:=hg;let{O,_}:=I.hok d _ hq;have S:=D.2 s.heap O;let{f0,f1,f2,f3,f4,f5}:=hf it (by simp);have hl:kvs.length=vs.length:=D.1.length;exact wpAny_pyNext_items_end (I.ok.hd hc) st S (by simp;lia) λh' eb=>{M,I.turned (t':=s.toks) (λb o hb e=>eb b o hb e) f0 f1 f3 f4 f5}
 self:=λ_ _ _ _ _ st h=>let⟨_,_,st⟩:=st;PySem.W.kcp_self st h
inductive E3(x:V)(vs:Ke)(H:Hp)(Q:VK):Prop
 |mk(d kvs:_)(_:x= .ref d)(_:vs=[])(_:H d=some (.dK kvs))(_:∀a,H a=none->Q (.ref a) (upd H a<|vwO a d))
def AM:KL X "dict.items" E3:=by
 intro W s J H x vs v us Q I O S h;let{d,kvs,rfl,rfl,hd,q}:=h;cases O;cases S;let{z,lo,ws,U,dd}:=vR I.hok hd;refine call_meetsIn PySem.F.slot_dict_items dd.typeIs PySem.F.entry_dict_items (PySem.F.args_dict_items_1 _) (meets_dict_items (bG X.prog X.w) d lo) {⟨ws,dd⟩,?_};have new:(s.heap.push {cls:= .type "dict_items",data:= .fields #[.ref d]}).get? s.heap.objs.size=some {cls:= .type "dict_items",data:= .fields #[.ref d]}:=Xl _ M;refine{.ref s.heap.objs.size,_,I.laid (t':=s.toks) (λb o e=>Xb _ e) (Qc _) (show HZ X.prog X.w _ _ _ (vwO s.heap.objs.size d) from{{_,new,M,M},{_,new},λh1 h2 p k=>?_}),M,q _<|I.hok.fresh (Qc _)};let{o,e,c}:=p;exact{o,k o e,c}
def Inv.freeze{H:Hp}{d:B'}{kvs:Kv}(I:Inv X W J H s)(hd:H d=some (.dK kvs))(O:s.heap.get? d=some ob):Inv X W J (upd H d<|.frz ob<|.dK kvs) s:=by
 have own:∀b y,H b=some (.own y)->upd H d (.frz ob<|.dK kvs) b=some (.own y):=λb y q=>by rw[ah (λz=>by rw[z,hd]at q;cases q)];exact q
 have tup:∀b xs,H b=some (.tup xs)->upd H d (.frz ob<|.dK kvs) b=some (.tup xs):=λb xs q=>by rw[ah (λz=>by rw[z,hd]at q;cases q)];exact q
 have non:∀b,H b=none->upd H d (.frz ob<|.dK kvs) b=none:=λb q=>by rw[ah (λz=>by rw[z,hd]at q;cases q)];exact q
 refine{I.ok,I.os,I.bare,{I.base.keep,I.base.slot,λb o e n hx=>non b<|I.base.free b o e n hx,I.base.there,λb xs e=>tup b xs<|I.base.tups b xs e,λb o u e=>?_,λb ps e=>?_},I.loc,I.cell,non _ I.free,λx c e=>non c<|I.freeC x c e,λp hp=>?_,λb o e=>?_,I.len}
 .have:=I.base.frzs b o u e;rwa[ah (λz=>by rw[z,hd]at this;cases this)]
 .let{m,q}:=I.base.tbls b ps e;exact{m,by rw[ah (λz=>by rw[z,hd]at q;cases q)];exact q}
 .let{h1,h2,S}:=I.pin p hp;exact{h1,non _ h2,S}
 .by_cases z:b=d
  .subst z;rw[BB]at e;cases e;exact{O,(I.hok b _ hd).stay (λ_ _ _ q=>q) (λc q=>own c b q) tup}
  .rw[ah z]at e;exact(I.hok b o e).stay (λ_ _ _ q=>q) (λc q=>own c b q) tup
def Inv.thaw{H:Hp}{d:B'}{kvs:Kv}(I:Inv X W J H s)(hd:H d=some (.frz ob<|.dK kvs))(O:∀o u,X.H₀ d≠some (.frz o u)):Inv X W J (upd H d<|.dK kvs) s:=by
 have own:∀b y,H b=some (.own y)->upd H d (.dK kvs) b=some (.own y):=λb y q=>by rw[ah (λz=>by rw[z,hd]at q;cases q)];exact q
 have tup:∀b xs,H b=some (.tup xs)->upd H d (.dK kvs) b=some (.tup xs):=λb xs q=>by rw[ah (λz=>by rw[z,hd]at q;cases q)];exact q
 have non:∀b,H b=none->upd H d (.dK kvs) b=none:=λb q=>by rw[ah (λz=>by rw[z,hd]at q;cases q)];exact q
 refine{I.ok,I.os,I.bare,{I.base.keep,I.base.slot,λb o e n hx=>non b<|I.base.free b o e n hx,I.base.there,λb xs e=>tup b xs<|I.base.tups b xs e,λb o u e=>?_,λb ps e=>?_},I.loc,I.cell,non _ I.free,λx c e=>non c<|I.freeC x c e,λp hp=>?_,λb o e=>?_,I.len}
 .have:=I.base.frzs b o u e;rwa[ah (λz=>by rw[z]at e;exact O _ _ e)]
 .let{m,q}:=I.base.tbls b ps e;exact{m,by rw[ah (λz=>by rw[z,hd]at q;cases q)];exact q}
 .let{h1,h2,S}:=I.pin p hp;exact{h1,non _ h2,S}
 .by_cases z:b=d
  .subst z;rw[BB]at e;cases e;let{_,q}:=I.hok b _ hd;exact HZ.stay (show HZ X.prog X.w H s.heap b (.dK kvs) from q) (λ_ _ _ q=>q) (λc q=>own c b q) tup
  .rw[ah z]at e;exact(I.hok b o e).stay (λ_ _ _ q=>q) (λc q=>own c b q) tup
def Inv.noFrz{H:Hp}{d:B'}{kvs:Kv}(I:Inv X W J H s)(hd:H d=some (.dK kvs)):∀o u,X.H₀ d≠some (.frz o u):=λo u e=>by
 have:=I.base.frzs d o u e;rw[hd]at this;cases this
def FK(te:TE):TI:=λJ H R=>te J H λx H1=>∃a d kvs,x= .ref a/\H1 a=some (vwO a d)/\H1 d=some (.dK kvs)/\∀ob,R (Itd ob d kvs) (upd H1 d<|.frz ob<|.dK kvs)
def As{x1}(hl:PE X l te):PI X (.Tuple elts x1 pos) l (FK te):=by
 intro W s J H R I h;refine HX (hl W s J H _ I h) λv s1 S=>?_;let{x,H1,U,r1,q1}:=S;let{a,d,kvs,e,ha,hd,q}:=q1;subst e;cases r1;let{z,lo,vs,Y,dd}:=vR U.hok hd;let{ep,O}:=dd.dictAt;let{vw,_,_}:=(show HZ X.prog X.w H1 s1.heap a (vwO a d) from U.hok a _ ha);let{ob,es,Z,rest}:=id O;refine wpAny_pyIter_items vw O ?_;have If:=U.freeze hd Z;refine{s1.heap.objs.size,[s1.heap.objs.size],_,_,_,M,If.kept (t':=s1.toks) λb o e=>Xb _ e,wp _ {Y,λh e=>⟨ob,es,e,rest⟩},{_,_,Xl _ M},λb hb=>?_,q ob};have e:b=s1.heap.objs.size:=by simpa using hb
 subst e;exact If.fpOk (Qc _) (If.hok.fresh<|Qc _)
inductive GD(t:TS)(D:Iw)(J:St)(H:Hp):Prop
 |mk(d kvs:_)(_:H d=some (.dK kvs))(_:t {λσ' H'=>∃ob,H' d=some (.frz ob<|.dK kvs)/\D.nx σ' (upd H' d<|.dK kvs),λv H'=>∃ob,H' d=some (.frz ob<|.dK kvs)/\D.rt v (upd H' d<|.dK kvs),λσ' H'=>∃ob,H' d=some (.frz ob<|.dK kvs)/\D.bk σ' (upd H' d<|.dK kvs),λσ' H'=>∃ob,H' d=some (.frz ob<|.dK kvs)/\D.ct σ' (upd H' d<|.dK kvs)} J H)
def CS{st:Stmt}{t:TS}(h:PS X st t):PS X st (GD t):=by
 intro W s J H D I ⟨d,kvs,hd,q⟩;have U:=I.noFrz hd;refine HX (h W s J H _ I q) λf s1 q1=>?_;cases f with
 |next=>let{z,Y,O,ob,e,S}:=q1;exact{z,_,O.thaw e U,S}
 |cont=>let{z,Y,O,ob,e,S}:=q1;exact{z,_,O.thaw e U,S}
 |brk=>let{z,Y,O,ob,e,S}:=q1;exact{z,_,O.thaw e U,S}
 |ret v=>let{Z,z,Y,O,r7,ob,e,S}:=q1;exact{Z,z,_,O.thaw e U,r7,S}
def xj{tb:TS}{rt:VK}(Pv:Nat->St->Hp->Prop)(S:Pv 0 J H)(hl:∀i J H,i<=kvs.length->Pv i J H->H d=some (.frz ob<|.dK kvs))
  (hs:∀i k v p J H,kvs[i]?=some (k,v)->Pv i J H->H p=none->g (.ref p) J (upd H p<|.tup [kV k,v]) λI H2=>tb {Pv<|i+1,rt,nx,Pv<|i+1} I H2) (hd:∀J H,Pv kvs.length J H->nx J H):
  ∃J3:Nat->Nat->St->Hp->Prop,(∃m,J3 0 m J H)/\∀i m J H,J3 i m J H->
   ((Itd ob d kvs).stop i H/\nx J H)\/((Itd ob d kvs).go i H/\∃N:St->Hp->Prop,(∀O H',N O H'->∃m',m'<m/\J3 (i+1) m' O H')/\∀x H',(Itd ob d kvs).yld i H x H'->g x J H' λI H2=>tb ⟨N,rt,nx,N⟩ I H2):=by
 refine{λi m J H=>m=kvs.length-i/\i<=kvs.length/\Pv i J H,{kvs.length,by simp,Qy _,S},?_};rintro i m J H ⟨rfl,hi,p⟩;have q:=hl i J H hi p;by_cases lt:i<kvs.length
 .refine .inr {⟨q,lt⟩,Pv<|i+1,λO H' z=>{kvs.length-(i+1),(),M,lt,z},λx H' y=>?_};let{U,k,v,rfl,np,e,rfl}:=y;exact hs i k v U J H e p np
 .have e:i=kvs.length:=();subst e;exact .inl {{q,Qc _},hd J H p}
section
variable(K:J5)(hK:X.K=K)
include hK
theorem Be:IxR X (rIxL K):=by subst hK;exact aJ
end
inductive CL(x:V)(vs:Ke)(H:Hp)(Q:VK):Prop
 |mk(l:B')(xs:Ke)(k:Int)(y:V)(_:x= .ref l)(_:vs=[.int k,y])(_:H l=some (.lst xs))(_:0<=k)(_:k<=(xs.length:Int))(_:xs.length<sizeLine)(_:Q .non (upd H l<|.lst (xs.take k.toNat++y::xs.drop k.toNat)))
def sT:MtM X "list.insert" CL:=by
 intro W s J H x vs v us Q I Y Z h;let{l,xs,k,y,rfl,rfl,S,h0,hk,hz,q}:=h;cases Y;let{u1,u,rfl,{t,rfl},ru}:=Z.two;let{z,its,n,r,hl,e}:=I.lstM S;have O:¬(!Builtin.List.listFitsIndex k)=true:=by
  have U:=nB;rw[fitsIndex_both () ()];exact Q8
 have hsz:its.toArray.size<=sizeLine:=by rw[Qg];lia
 refine call_meets F.slot_list_insert {_,e,M} F.entry_list_insert (F.args_list_insert_3 _ _ _) (AutoListH.list_insert_list_int_val_1 l its.toArray n k t u O hsz) {e,?_};refine{.non,_,I.lset (its':=its.take k.toNat++u::its.drop k.toNat) S e ?_ ((r.take k.toNat).append<|.cons ru<|r.drop k.toNat) ?_,M,q}
 .have e0:(if k<0 then(k+((its.toArray.size:Nat):Int)).toNat else min k.toNat its.toArray.size)=k.toNat:=by
   rw[Xc (),Qg];lia
  show(its.toArray.extract 0 _).push u++its.toArray.extract _=_;rw[e0];simp;exact Qt<|by rw[QA];lia
 .rw[Q5,Q3,Qq,QA];lia
def xp:fV X (.type "dict") (λxs H Q=>∃d kvs,xs=[.ref d]/\H d=some (.dK kvs)/\∀p,H p=none->Q (.ref p) (upd H p<|.dK kvs)):=by
 intro W s J H xs us Q I r h;let{d,kvs,rfl,hd,q}:=h;let{u,rfl,S}:=oS r;cases S;let{z,lo,vs,O,dd}:=vR I.hok hd;refine kt_call_dict lo dd (by rwa[<-O.length]) λh' U hs=>?_;let{_,nm,_}:=vS (P:=X.prog) (w:=X.w) (H:=H) s.heap I.big;refine{.ref s.heap.objs.size,_,I.laid (a:=s.heap.objs.size) (o:= .dK kvs) (t':=s.toks) (λb o e=>(hs.2 b<|Qs<|Xi e).trans<|Xb _ e) (Qc _) ⟨z,nm,vs,O,U⟩,M,q _<|I.hok.fresh (Qc _)}
inductive CK(x:V)(vs:Ke)(H:Hp)(Q:VK):Prop
 |mk(a kvs k y:_)(_:x= .ref a)(_:vs=[kV k,y])(_:H a=some (.dK kvs))(_:kvs.length<sizeLine)(_:(∀v,aR kvs k=some v->Q v H))(_:(aR kvs k=none->Q y (upd H a<|.dK<|bC kvs k y)))
def yX:KL X "dict.setdefault" CK:=by
 intro W s J H x vs v us Q I Z rv h;let{a,kvs,k,y,rfl,rfl,U,hl,q1,q2}:=h;cases Z;let{u,r,rfl,ru,Y}:=oR rv;let{z,hd,ws,S,dd}:=vR I.hok U;have O:=S.val k;refine call_meetsIn X6 dd.typeIs PySem.F.entry_dict_setdefault (PySem.F.args_dict_setdefault_3 _ _ _) (kt_meets_setdefault (bG X.prog X.w) a (nS ru) hd r) {ws,dd,by rwa[<-S.length],λv hv=>?_,λhn h' dd' hs=>?_}
 .rw[hv]at O;cases e:aR kvs k with
  |none=>rw[e]at O;exact O.elim
  |some x=>
   rw[e]at O;exact{x,H,I.tok _,O,q1 x e}
 .rw[hn]at O;cases e:aR kvs k with
  |some x=>rw[e]at O;exact O.elim
  |none=>
   have he:∃q,h'.get? a=some q:=by let{q,_,_,hq,_}:=dd';exact⟨q,hq⟩
   have lp:=dB kvs k y;exact{y,_,ur I (by rw[U];exact Xn) hs he<|Bq () hd (S.put k Y) dd',Y,q2 e}
def F2:bootBuiltins "all"=some (.builtin "all"):=by decide+kernel
def nU:fV X (.type "int") (λxs H Q=>∃b,xs=[.bl b]/\Q (.int<|if b then 1 else 0) H):=by
 intro W s J H xs us Q I r h;let{b,rfl,q}:=h;let{u,rfl,z}:=oS r;cases z;exact call_int_bool {.int _,H,I.tok _,{_,M},q}
def Bw{bs:List Bool}:∀{us:Kd},HV (bs.map V.bl) us->LSm.BoolsAre us bs:=by
 induction bs with
 |nil=>intro us r;rw[List.map_nil]at r;cases r;exact .nil
 |cons b bs z=>
  intro us r;rw[Qm]at r;cases r with
  |cons r1 I=>
   cases r1;exact .cons b<|z I
def zA(hc:X.calm=true):fV X (.builtin "all") (λxs H Q=>∃(p:B')(bs:List Bool),xs=[.ref p]/\HS X.K H p (bs.map V.bl)/\Q (.bl<|bs.all id) H):=by
 intro W s J H xs us Q I r h;let{p,bs,rfl,hq,q}:=h;let{u,rfl,S}:=oS r;cases S;let{its,U,pl,hz}:=I.list hq;have hb:=Bw U;have hl:=pl.isList;have z:p<s.heap.objs.size:=by let{_,e,_}:=hl;exact Xi e
 refine call_all_walk<|wpAny_pyIter_list hl ?_;refine{s.heap.objs.size,[s.heap.objs.size,p],[s.heap.objs.size],its.toArray.size,_,_,λi=>(bs[i]?).getD true,M,Walks.list (A:=X.A.in1) (I.ok.hd hc) _ p (Qs z) its.toArray,
  {{_,Xl _ M,M,M},hl.push _},λi v s' Q' E' Y O=>?_,λh' tk hk=>?_}
 .let{b,e,rfl}:=hb.get i v (by simpa using Y);simp only[e,Option.getD_some]at O;exact Xr O
 .have e:((List.range its.toArray.size).all λi=>(bs[i]?).getD true)=bs.all id:=by
   rw[Qg,hb.length];exact LSm.range_all bs
  rw[e];exact{.bl _,H,I.kept (t':=tk)<|LSm.kept_iter hk,M,q}
def sr:fV X (.type "int") (λxs H Q=>∃z n,xs=[.str z]/\PySem.intText? z=some n/\z.length<=640/\Q (.int n) H):=by
 intro W s J H xs us Q I r h;let{z,n,rfl,O,hl,q}:=h;let{u,rfl,t,rfl}:=oS r;exact PySem.W.KIN.call_text O hl {.int _,H,I.tok _,{_,M},q}
inductive rSlS(x:V)(lo hi:Option Int)(H:Hp)(Q:VK):Prop
 |mk(z:_)(_:x= .str z)(_:z.length<=sizeLine)(_:Q (.str<|Txt.slice z lo hi) H)
def EV:SlR X rSlS:=by
 intro W s J H x v Z vu lo hi sl Q I Y hs pl S h;let{z,rfl,hz,q}:=h;let{t,rfl}:=Y;refine{qs,_,PyProof.Rows.slot_str_getitem.lookup,typeIs_str _ _ _,?_};have O:∀t' k,EP X W J Q (.str (Txt.slice z lo hi) t') {s with toks:=k}:=λt' k=>{.str _,H,I.kept (t':=k)<|λb o e=>e,{_,M},q};cases pl with
 |none=>
  cases S with
  |none=>exact wpAny_getItem_str_slice (l:=none) (u:=none) (st:=none) hs M<|post_val_or_str {Qw (Txt.slice_le z _ _) hz,λt' k=>O t' k}
  |int j u=>exact wpAny_getItem_str_slice (l:=none) (u:=some (j,u)) (st:=none) hs M<|post_val_or_str {Qw (Txt.slice_le z _ _) hz,λt' k=>O t' k}
 |int i U=>
  cases S with
  |none=>exact wpAny_getItem_str_slice (l:=some (i,U)) (u:=none) (st:=none) hs M<|post_val_or_str {Qw (Txt.slice_le z _ _) hz,λt' k=>O t' k}
  |int j u=>exact wpAny_getItem_str_slice (l:=some (i,U)) (u:=some (j,u)) (st:=none) hs M<|post_val_or_str {Qw (Txt.slice_le z _ _) hz,λt' k=>O t' k}
def KN(z:Str):It:={λi _=>i<z.cps.size,λi H x H'=>H'=H/\∃c,z.cps[i]?=some c/\x= .str {#[c]},λi _=>z.cps.size<=i}
def wq(it:B')(z:Str)(t:Tok):xx P w K tg (KN z) [it] it (λi h=>h.IsStrIter it "str_ascii_iterator" z t i) where
 mem:=by simp
 obj:=λi h st b hb=>by
  have e:b=it:=by simpa using hb
  subst e;let{o,e,c,d}:=st;exact{o,e,λv z=>by rw[d]at z;cases z}
 keep:=λi h h' st k=>by
  let{o,e,r}:=st;exact{o,k it (by simp) _ e,r}
 item:=by
  intro X Y hw hK hc i W s J H E I U st O;subst Y hw hK;let{Z,f1,f2,f3,f4,f5}:=U it (by simp);have O:i<z.cps.size:=O;refine wpAny_pyNext_ascii_item st (c:=z.cps[i]) (by simp[O]) λh' S a0=>?_;have I1:Inv X W J H {s with heap:=h',toks:=s.toks+1}:=I.turned (λb o hb e=>a0.extBut b o hb e) Z f1 f3 f4 f5;let{o,e,c,d}:=id S;exact{_,M,vG (s:={s with heap:=h',toks:=s.toks+1}) e c d (_) {.str {#[z.cps[i]]},H,I1,{_,M},{M,_,by simp[O],M},S,λb hb=>(U b hb).1}}
 done:=by
  intro X Y hw hK hc i W s J H E I U st O;subst Y hw hK;let{Z,f1,f2,f3,f4,f5}:=U it (by simp);have O:z.cps.size<=i:=O;exact wpAny_pyNext_ascii_end (I.ok.hd hc) st (by simp[O]) λh' eb=>{M,I.turned (t':=s.toks) (λb o hb e=>eb b o hb e) Z f1 f3 f4 f5}
 self:=λ_ _ _ _ _ st h=>wpAny_pyIter_striter_ascii st h
def yx(it:B')(z:Str)(t:Tok):xx P w K tg (KN z) [it] it (λi h=>h.IsStrIter it "str_iterator" z t i) where
 mem:=by simp
 obj:=λi h st b hb=>by
  have e:b=it:=by simpa using hb
  subst e;let{o,e,c,d}:=st;exact{o,e,λv z=>by rw[d]at z;cases z}
 keep:=λi h h' st k=>by
  let{o,e,r}:=st;exact{o,k it (by simp) _ e,r}
 item:=by
  intro X Y hw hK hc i W s J H E I U st O;subst Y hw hK;let{Z,f1,f2,f3,f4,f5}:=U it (by simp);have O:i<z.cps.size:=O;refine wpAny_pyNext_wide_item st (c:=z.cps[i]) (by simp[O]) λh' S a0=>?_;have I1:Inv X W J H {s with heap:=h',toks:=s.toks+1}:=I.turned (λb o hb e=>a0.extBut b o hb e) Z f1 f3 f4 f5;let{o,e,c,d}:=id S;exact{_,M,vG (s:={s with heap:=h',toks:=s.toks+1}) e c d (_) {.str {#[z.cps[i]]},H,I1,{_,M},{M,_,by simp[O],M},S,λb hb=>(U b hb).1}}
 done:=by
  intro X Y hw hK hc i W s J H E I U st O;subst Y hw hK;let{Z,f1,f2,f3,f4,f5}:=U it (by simp);have O:z.cps.size<=i:=O;exact wpAny_pyNext_wide_end (I.ok.hd hc) st (by simp[O]) λh' eb=>{M,I.turned (t':=s.toks) (λb o hb e=>eb b o hb e) Z f1 f3 f4 f5}
 self:=λ_ _ _ _ _ st h=>wpAny_pyIter_striter_wide st h
def iStr(te:TE):TI:=λJ H R=>te J H λx H1=>∃z,x= .str z/\R (KN z) H1
def E7(hl:PE X l te):PI X tg l (iStr te):=by
 intro W s J H R I h;refine HX (hl W s J H _ I h) λv s1 S=>?_;let{x,H1,O,r1,q1}:=S;let{z,e,q}:=q1;subst e;let{t,rfl}:=r1;cases ha:z.cps.all (· <128)
 .refine wpAny_pyIter_wide ha {s1.heap.objs.size,[s1.heap.objs.size],_,_,H1,M,O.kept (t':=s1.toks) λb o e=>Xb _ e,yx _ z t,{_,Xl _ M,M,M},λb hb=>?_,q};have e:b=s1.heap.objs.size:=by simpa using hb
  subst e;exact O.fpOk (Qc _)<|O.hok.fresh (Qc _)
 .refine wpAny_pyIter_ascii ha {s1.heap.objs.size,[s1.heap.objs.size],_,_,H1,M,O.kept (t':=s1.toks) λb o e=>Xb _ e,wq _ z t,{_,Xl _ M,M,M},λb hb=>?_,q};have e:b=s1.heap.objs.size:=by simpa using hb
  subst e;exact O.fpOk (Qc _)<|O.hok.fresh (Qc _)
inductive CJ(x:V)(vs:Ke)(H:Hp)(Q:VK):Prop
 |mk(a d:_)(_:x= .str a)(_:vs=[.str d])(_:Q (.bl<|Txt.startswith a d) H)
def sS:KL X "str.startswith" CJ:=by
 intro W s J H x vs v us Q I z O h;let{a,d,rfl,rfl,q}:=h;let{t,rfl}:=z;let{u,rfl,S}:=O.one;let{t',rfl}:=S;exact SC.startswith {.bl _,H,I,M,q}
def Bt{z:Str}(Pv:Ld)(O:Pv 0 [] (upd H1 D<|.lst []))
  (hs:∀i c ys H2,z.cps[i]?=some c->Pv i ys H2->H2 D=some (.lst ys)->te (some (.str {#[c]})::J) H2 (Ie z.cps.size i ys D Pv))
  (hd:∀ys H2,Pv z.cps.size ys H2->H2 D=some (.lst ys)->Fin H2):
  ∃J3:Nat->Nat->List V->Hp->Prop,(∃m,J3 0 m [] (upd H1 D<|.lst []))/\∀i m ys H2,J3 i m ys H2->H2 D=some (.lst ys)->
   ((KN z).stop i H2/\Fin H2)\/((KN z).go i H2/\∀x H3,(KN z).yld i H2 x H3->te (some x::J) H3 λy H4=>H4 D=some (.lst ys)/\ys.length<sizeLine/\∃m',m'<m/\J3 (i+1) m' (ys++ [y]) (upd H4 D<|.lst<|ys++ [y])):=by
 refine{λi m ys H=>m=z.cps.size-i/\i<=z.cps.size/\Pv i ys H,{z.cps.size,by simp,Qy _,O},?_};rintro i m ys H ⟨rfl,hi,p⟩ I;by_cases lt:i<z.cps.size
 .refine .inr {lt,λx H' y=>?_};let{e,c,S,y}:=y;subst e y;exact hs i c ys _ S p I
 .have e:i=z.cps.size:=();subst e;exact .inl {Qc _,hd ys H p I}
abbrev sg(z:Str):List Nat:=z.cps.toList
def cO(z:Str):z.length=(sg z).length:=by show z.cps.size=_;simp[sg]
def gh{a b:Str}(h:sg a=sg b):a=b:=by cases a;cases b;congr 1;exact Array.toList_inj.mp h
def oV(z:Str)(c:Nat):Txt.startswith z {#[c]}=decide ((sg z).head?=some c):=by
 have h:=StrLaws.subAt_one z c 0;unfold Txt.startswith
 rw[Zt,Qv,decide_eq_true_eq,h,decide_eq_true_eq,List.head?_eq_getElem?]
def wD(z:Str)(lo hi:Option Int)(is:List Nat)(e:Builtin.Str.strSliceIndices lo hi 1 z.length=is)(h:is.filterMap (z.cps[·]?)=is.filterMap ((sg z)[·]?)):sg (Txt.slice z lo hi)=if is.length=z.length then sg z else is.filterMap ((sg z)[·]?):=by
 unfold Txt.slice;rw[e];by_cases c:is.length=z.length
 .rw[Xe c,Xe (by simp[c])]
 .rwa[Xc c,Xc (by simp[c]),sg]
def uT(z:Str):sg (Txt.slice z (some 1) none)=(sg z).drop 1:=by
 have L:=cO z;have I:∀is:List Nat,is.filterMap (z.cps[·]?)=is.filterMap ((sg z)[·]?):=λis=>by congr 1;funext i;simp[sg]
 rcases Zm z.length with q|q
 .have nz:sg z=[]:=Z5 ();have O:=Txt.slice_le z (some 1) none;have:(sg<|Txt.slice z (some 1) none)=[]:=Z5 (by rw[<-cO];lia);rw[this,nz];rfl
 .have e:Builtin.Str.strSliceIndices (some 1) none 1 z.length=Builtin.Str.strSliceIndices (some ((1:Nat):Int)) (some (z.length:Int)) 1 z.length:=by
   unfold Builtin.Str.strSliceIndices;simp;rw[Xc (show ¬((z.length:Nat):Int)<0 by lia)];congr 1;lia
  rw[wD z _ _ _ (e.trans<|StrLaws.strSliceIndices_plain (a:=1) (b:=z.length) ()<|Qc _) (I _)];rw[Xc (by simp;lia)];rw[StrLaws.picks (sg z) (z.length-1) 1 ()];exact Qt<|by rw[QA];lia
open PySem.Builtin PySem.Builtin.Str
variable{E Q:Kn}
section
variable{X:Cx}
def yB(l:List (Str×Tok)):HV ((l.map (·.1)).map V.str) (strValues l):=by
 induction l with
 |nil=>exact .nil
 |cons a r z=>exact .cons ⟨a.2,M⟩ z
def Ad{prog:Ki}{w:Kj}{A:Kp}{s:J'}{x y:Str}{t u:Tok}(hy:(y.length==0)=false)
  (hq:∀(l:List (Str×Tok))(k:Nat),l.map (·.1)=Txt.split x y->Q (.ref s.heap.objs.size) {s with heap:=s.heap.push {cls:= .type i1,data:= .seq (strValues l).toArray},toks:=k})
  (hsz:x.length<=sizeLine) (z:(Txt.split x y).length<=sizeLine):
  wpAny (model prog w) A (call (.builtin "str.split") [.str x t,.str y u]) Q E s:=by
 cases h1:(decide (x.length<y.length)||decide (strKind x<strKind y))
 .cases I:(occurrences x y 0 x.length<|x.length+1).isEmpty
  .have es:Txt.split x y=partsBetween x (occurrences x y 0 x.length<|x.length+1) y.length:=(Xc<|ne_true_of_eq_false h1).trans (Xc<|ne_true_of_eq_false I);refine call_meets F.slot_str_split (typeIs_str _ _ _) F.entry_str_split (F.args_str_split_2 _ _) (meets_str_split_sep x y t u h1 hy I hsz<|es▸z) ?_;show wants Q E _ {s with toks:=_,heap:=s.heap.push {cls:= .type i1,data:= .seq (strsFrom s.toks<|partsBetween x (occurrences x y 0 x.length<|x.length+1) y.length).toArray}};rw[strsFrom_eq];exact hq (numbered s.toks _) _<|(numbered_texts _ _).trans es.symm
  .exact call_meets F.slot_str_split (typeIs_str _ _ _) F.entry_str_split (F.args_str_split_2 _ _) (meets_str_split_not_found x y t u h1 hy I)
    (hq [(x,t)] s.toks ((Xc<|ne_true_of_eq_false h1).trans<|Xe I).symm)
 .exact call_meets F.slot_str_split (typeIs_str _ _ _) F.entry_str_split (F.args_str_split_2 _ _) (meets_str_split_cannot_occur x y t u h1)
   (hq [(x,t)] s.toks (Xe h1).symm)
inductive E2(x:V)(vs:Ke)(H:Hp)(Q:VK):Prop
 |mk(a d:_)(_:x= .str a)(_:vs=[.str d])(_:1<=d.length)(_:a.length<=100000)(_:∀l,H l=none->Q (.ref l) (upd H l<|.lst<|(Txt.split a d).map V.str))
def vx:KL X "str.split" E2:=by
 intro W s J H x vs v us Q I O S h;let{a,d,rfl,rfl,U,Z,q}:=h;let{t,rfl}:=O;let{u,rfl,Y}:=S.one;let{t',rfl}:=Y;have big:100001<=sizeLine:=by decide
 have w:=split_weight a d U;have hn:(Txt.split a d).length<=100001:=();refine Ad (by simp;lia) (λl k hl=>?_) () ();have z:=yB l;rw[hl]at z;refine{.ref s.heap.objs.size,_,I.laid (t':=k) (o:= .lst<|(Txt.split a d).map V.str) (λb ob q=>Xb _ q) (Qc _) ?_,M,q _<|I.hok.fresh (Qc _)};exact{by rw[Q0];lia,_,0,z,Xl _ M}
def ar{e:Expr}{es:Kx}{te:TE}{t:TA}(ha:PE X e te)(z:PA X es t)(hs:starEach (e::es) X.env=(false,eval e X.env)::starEach es X.env):PA X (e::es) (sJ te t):=aa ha z hs
def eS{x:Str}{j:Nat}{p:Pos}{es:Kx}{t:TA}(z:PA X es t):PA X (.Constant (.str x) j p::es) (sJ (tC<|.str x) t):=aa ao z M
end
def jn(c:Nat):List Str->List Nat
 | []=> []
 | [a]=>sg a
 |a::b::r=>sg a++c::jn c (b::r)
theorem oI(c:Nat):∀l:List Str,sg (Str.join {#[c]} l)=jn c l
 | []=>rfl
 | [a]=>rfl
 |a::b::r=>by
  show sg (a++{#[c]}++Str.join {#[c]} (b::r))=sg a++c::jn c (b::r);rw[<-oI c (b::r)];simp[sg,Str.cps_append]
theorem vI{c:Nat}:∀{a b r q:List Nat},c∉a->c∉b->a++c::r=b++c::q->a=b/\r=q
 | [],[],_,_,_,_,e=>by simp at e;exact⟨M,e⟩
 | [],x::b,_,_,_,h2,e=>by
  simp at e;exact Xd (by rw[e.1];exact Q6) h2
 |x::a,[],_,_,h1,_,e=>by
  simp at e;exact Xd (by rw[<-e.1];exact Q6) h1
 |x::a,y::b,r,q,h1,h2,e=>by
  simp only[ZE,List.cons.injEq]at e;let{I,e2}:=vI (λz=>h1<|Q4 _ z) (λz=>h2<|Q4 _ z) e.2;exact{by rw[e.1,I],e2}
theorem Bd{c:Nat}:∀{l m:Kc},l≠[]->m≠[]->(∀a∈l,c∉sg a)->(∀a∈m,c∉sg a)->jn c l=jn c m->l=m
 | [],_,h,_,_,_,_=>Xd M h
 |_::_,[],_,h,_,_,_=>Xd M h
 | [a],[b],_,_,_,_,e=>by rw[gh (show sg a=sg b from e)]
 | [a],b::b'::m,_,_,h1,_,e=>by
  refine Xd ?_<|h1 a Q6;rw[show sg a=sg b++c::jn c (b'::m) from e];simp
 |a::z::l,[b],_,_,_,h2,e=>by
  refine Xd ?_<|h2 b Q6;rw[<-show sg a++c::jn c (z::l)=sg b from e];simp
 |a::z::l,b::b'::m,_,_,h1,h2,e=>by
  let{I,e2}:=vI (h1 a Q6) (h2 b Q6) (show sg a++c::jn c (z::l)=sg b++c::jn c (b'::m) from e);rw[gh I,Bd (by simp) (by simp) (λx hx=>h1 x<|Q4 _ hx) (λx hx=>h2 x<|Q4 _ hx) e2]
def oK(z:Str)(l:Kc):Txt.join z l=Str.join z l:=StrLaws.glued_eq_join z l
def d6{c:Nat}{l:Kc}(I:l≠[])(h:∀a∈l,c∉sg a):Txt.split (Txt.join {#[c]} l) {#[c]}=l:=by
 have e:=StrLaws.join_split (Txt.join {#[c]} l) {#[c]};have f:=StrLaws.split_free (Txt.join {#[c]} l) c;rw[oK]at e f⊢;have e:=Xo sg e;rw[oI,oI]at e;refine Bd (λz=>?_) I f h e;unfold Txt.split at z;split at z
 .cases z
 .split at z
  .cases z
  .rw[StrLaws.partsBetween_eq]at z;let{p,r,O}:=StrLaws.partsFrom_ne (Str.join {#[c]} l) ({#[c]}:Str).length 0 (occurrences (Str.join {#[c]} l) {#[c]} 0 (Str.join {#[c]} l).length<|(Str.join {#[c]} l).length+1);rw[O]at z;cases z
end L2
namespace L2
open PySem PySem.Spec PyProof.Rows
variable{X:Cx}{i:Nat}{s:J'}{c:Str}{E:Kn}
inductive E1(x:V)(vs:Ke)(H:Hp)(Q:VK):Prop
 |mk(a:_)(_:x= .str a)(_:vs=[])(_:a.length<=1000)(_:Q (.str<|Txt.upper a) H)
def AL:KL X "str.upper" E1:=by
 intro W s J H x vs v us Q I z O h;let{a,rfl,rfl,S,q}:=h;let{t,rfl}:=z;cases O;exact PyProof.Rows.SCL.upper () λ_=>{.str _,H,I.tok _,{_,M},q}
inductive E4(x:V)(vs:Ke)(H:Hp)(Q:VK):Prop
 |mk(a:_)(_:x= .str a)(_:vs=[])(_:Q (.bl<|Txt.isdigit a) H)
def AN:KL X "str.isdigit" E4:=by
 intro W s J H x vs v us Q I z O h;let{a,rfl,rfl,q}:=h;let{t,rfl}:=z;cases O;exact SC.isdigit {.bl _,H,I,M,q}
def CW(K:J5)(hK:X.K=K){o:Expr}{to:TE}{name:Str}{apos cpos:Pos}{T id:String}{r:V->List V->Hp->VK->Prop}(pa:PlainAttrs T)(slot:Slot T name id)(O:typeOf (.builtin id)=pure (.type "method_descriptor"))(S:KL X id r)(U:PE X o to)
  (z:attributeBase o name X.env (eval o X.env)=eval o X.env:=by rfl) (I:(apos.endLine==cpos.line)=true:=by rfl):PE X (.Call (.Attribute o name apos) [] [] cpos) (tBM0 K T r to):=by
 subst hK;exact wK pa slot O S U z I
def AB:Iy X (binaryOp .Mult) (λx y H Q=>∃(i:Str)(b:Bool),x= .str i/\y= .int (if b then 1 else 0)/\i.length<=1000/\Q (.str<|if b then i else Str.empty) H):=by
 intro W s J H x y v u Q I z O h;let{i,b,rfl,rfl,S,q}:=h;let{t,rfl}:=z;let{t',rfl}:=O;cases b with
 |false=>exact P.mul_str_none (_) (_) {.str _,H,I.tok _,{_,M},q}
 |true=>
  refine P.mul_str (_) (λ_ h=>Xd h<|by simp) (λ_ h=>Xd h<|by simp) ?_;rw[Xc (_),Xe (by simp)];exact{.str _,H,I,{_,M},q}
def yO:Iy X (binaryOp .Mult) (λx y H Q=>∃(i:Str)(n:Int),x= .str i/\y= .int n/\2<=n/\n<=1000/\i.length=1/\Q (.str {(List.replicate n.toNat i.cps).foldl (· ++ ·) #[]}) H):=by
 intro W s J H x y v u Q I z O h;let{i,n,rfl,rfl,Z,n1,l1,q}:=h;let{t,rfl}:=z;let{t',rfl}:=O;have len:∀(k:Nat)(Ir:Array Nat),((List.replicate k i.cps).foldl (· ++ ·) Ir).size=Ir.size+k:=by
  intro k
  induction k with
  |zero=>intro Ir;rfl
  |succ k S=>
   intro Ir;rw[List.replicate_succ,List.foldl_cons,S,Array.size_append];have:i.cps.size=1:=l1;lia
 have U:(n==1||i.length==0)=false:=by rw[l1];simp;lia
 have Y:({(List.replicate n.toNat i.cps).foldl (· ++ ·) #[]}:Str).length=n.toNat:=by
  show((List.replicate n.toNat i.cps).foldl (· ++ ·) #[]).size=_;rw[len];simp
 have big:1000<=sizeLine:=by decide
 refine P.mul_str (by rw[Xh (),Xh ()];rfl) (λ_ _=>?_) (λ_ _=>?_) ?_
 .rw[l1];have:(1:Int)<=(2^63-1)/n:=(Int.le_ediv_iff_mul_le ()).mpr ();lia
 .unfold Builtin.Str.tooLong;rw[l1];exact Xh ()
 .rw[Xc (),Xc (by rw[U];decide)];exact{by rw[Y];lia,{.str _,H,I.tok _,{_,M},q}}
def w9{x:Str}{pos:Pos}{W:Kf}{J:St}{H:Hp}{v:V}{Q:Kn}(I:Inv X W J H s)(e:J[i]?=some (some v))(h:∀u,RelV v u->Q u s)
  (S:X.N[i]?=some x) (U:KP X.env.scope x) (hd:(x==(cf:Str))=false) (O:(x==("__classdict__":Str))=false):J6 X (eval (.Name x pos) X.env) Q E s:=by
 let{m,Y,hl}:=I.loc;let{u,r,l}:=hl i x v S e U;rcases l with⟨hk,Z⟩|⟨hk,c,hc,z⟩
 .exact wpAny_Name (wpAny_loadName_local I.ok.kind hk Y Z<|h u r) hd
 .rcases hk with hk|hk
  .exact wpAny_Name (wpAny_loadName_cell I.ok.kind hk hc z<|h u r) hd
  .exact wpAny_Name (wpAny_loadName_free I.ok.kind hk hc z (h u r) O) hd
inductive GY(x y:V)(H:Hp)(Q:VK):Prop
 |mk(i j:_)(_:x= .str i)(_:y= .str j)(_:i.length+j.length<=sizeLine)(_:Q (.str<|i++j) H)
section
variable{d:Str}{k k1 k2 k3:Nat}{x:Str}{p1 p2 p3 p4 p5 p6 p7 p8 p9 q1 q2 q3:Pos}{e4:Expr}{t4:TE}
def GF(c d:Str)(i:Nat)(t4:TE):TA:=λJ H Q=>∃z:Str,J[i]?=some (some<|.str z)/\z.length<=10000/\Ka GY (tC<|.str<|Txt.replace z c d) t4 J H λy H1=>Q [.str (c++z),.str (z++c),y] H1
def yo{A:Kp}{pg:Ki}{w:Kj}{x y:Str}{t u:Tok}{Q:Kn}(O:0<s.toks)(hz:x.length+y.length<=sizeLine)(h:∀t' k,0<k->Q (.str (x++y) t') {s with toks:=k}):
  wpAny (model pg w) A (binaryOp .Add (.str x t)<|.str y u) Q E s:=by
 refine PySem.P.add_str ?_;by_cases z:x.length=0
 .rw[Xe (by simp[z])];have:x++y=y:=gh (by have:sg x=[]:=Z5 (by rwa[<-cO]);show(x.cps++y.cps).toList=_;simp[sg]at this⊢;simp[this]);rw[this]at h;exact h u s.toks O
 .rw[Xc (by simpa using z)];by_cases I:y.length=0
  .rw[Xe (by simp[I])];have:x++y=x:=gh (by have:sg y=[]:=Z5 (by rw[<-cO];exact I);show(x.cps++y.cps).toList=_;simp[sg]at this⊢;simp[this]);rw[this]at h;exact h t s.toks O
  .rw[Xc (by simpa using I)];exact{by rwa[Str.length_append],h _ _<|X1 _}
def CY(a1:c.length<=10)(a2:d.length<=10)(a0:(c==d)=false)(h4:PE X e4 t4)(hN:X.N[i]?=some x:=by rfl)(hv:KP X.env.scope x:=by and_intros)
  (hd:(x==(cf:Str))=false:=by decide) (O:(x==("__classdict__":Str))=false:=by decide)
  (S:attributeBase (.Name x p5) "replace" X.env (eval (.Name x p5) X.env)=eval (.Name x p5) X.env:=by rfl)
  (Y:((backTo p7<|starEach [.Constant (.str c) k p8,.Constant (.str d) k2 p9] X.env).all (λx=>!x.1)&&(backToKw p7<|keywordEach [] X.env).all (λx=>x.1.isSome)
   &&decide (([.Constant (.str c) k p8,.Constant (.str d) k2 p9]:Kx).length+([]:List Keyword).length+(if([]:List Keyword).isEmpty then 0 else 1)<30))=true:=by rfl)
  (U:(p6.endLine==p7.line)=true:=by rfl):
  PA X [.BinOp (.Constant (.str c) k1 p1) .Add (.Name x p2) p3,.BinOp (.Name x p4) .Add (.Constant (.str c) k3 q1) q2,
   .BinOp (.Call (.Attribute (.Name x p5) "replace" p6) [.Constant (.str c) k p8,.Constant (.str d) k2 p9] [] p7) .Add e4 q3] (GF c d i t4):=by
 intro pos W s J H Q I h;let{z,ez,zl,q}:=h;have big:10020<=sizeLine:=by decide
 show wpAny _ _ (spliced ((false,eval _ X.env)::(false,eval _ X.env)::(false,eval _ X.env)::[])) _ _ s;refine Calls.spliced_cons<|wpAny_BinOp (Calls.Constant_str<|w9 (I.tok _) ez (λu Z=>?_) hN hv hd O);let{t,rfl}:=Z;refine yo (X1 _) () λta ka pa=>?_;refine Calls.spliced_cons<|wpAny_BinOp (w9 (I.tok _) ez (λu Z=>Calls.Constant_str ?_) hN hv hd O);let{t2,rfl}:=Z;refine yo (X1 _) () λtb kb pb=>?_;refine Calls.spliced_cons<|wpAny_BinOp ?_;refine wpAny_Call_method_late S Y U M<|w9 (I.tok _) ez (λu Z=>?_) hN hv hd O;let{t3,rfl}:=Z;refine{qs,"str.replace",Qk,PySem.F.slot_str_replace,PySem.F.type_str_replace,typeIs_str _ _ _,(λ_ e=>nomatch e),?_};refine Calls.callWith_builtin M<|Calls.evalArgs_plain ?_;show wpAny _ _ (spliced ((false,eval _ X.env)::(false,eval _ X.env)::[])) _ _ _;refine Calls.spliced_cons<|Calls.Constant_str (Calls.spliced_cons<|Calls.Constant_str<|Calls.spliced_nil ?_);refine SC.replaceW (by show kb≠0;lia) (by show kb+1≠0;lia) (by show kb≠kb+1;lia) a0 () () λtc kc=>?_;refine HX (h4 W _ J H _ (I.tok kc) q) λu s2 zz=>?_;let{y,H2,I2,r2,iz,jz,e1,e2,le,q2}:=zz;cases e1;subst e2;let{tu,rfl}:=r2;exact add_str (λt' tk=>Calls.spliced_nil {[.str (c++z),.str (z++c),.str (Txt.replace z c d++jz)],H2,I2.tok _,.cons {_,M}<|.cons {_,M}<|.cons {_,M} .nil,q2}) le
end
def tFkv(c:Str)(ta tb:TE):TE:=λJ H Q=>ta J H λx H1=>∃i:Int,x= .int i/\i.natAbs.log2<1920/\(Str.ofString (toString i)++c).length<=sizeLine/\tb J H1 λy H2=>∃k:Int,y= .int k/\k.natAbs.log2<1920/\(Str.ofString (toString i)++c++Str.ofString (toString k)).length<=sizeLine/\Q (.str<|Str.ofString (toString i)++c++Str.ofString (toString k)) H2
def lJ(a b:Str):(a++b).length=a.length+b.length:=by
 show(a.cps++b.cps).size=a.cps.size+b.cps.size;exact Array.size_append
def tM(a:Str):Str.empty++a=a:=by
 show Str.mk (#[]++a.cps)=a;rw[Array.empty_append]
def Fa{a b:Expr}{ta tb:TE}{j:Nat}{p1 p2 p3 pos:Pos}(ha:PE X a ta)(hb:PE X b tb):PE X (.JoinedStr [.FormattedValue a (-1) none p1,.Constant (.str c) j p2,.FormattedValue b (-1) none p3] pos) (tFkv c ta tb):=by
 intro W s J H Q I h;refine JoinedStr_many<|joinParts_cons (FormattedValue_plain<|HX (ha W s J H _ I h) λv s1 h1=>?_);let{x,H1,z,r1,i,rfl,hz,l1,q1}:=h1;let{t,rfl}:=r1;refine formatField_int_small hz {?_,joinParts_cons<|Calls.Constant_str {?_,joinParts_consE<|joinParts_cons (FormattedValue_plain<|HX (hb W _ J H1 _ (((z.tok _).tok _).tok _) q1) λv s2 h2=>?_)}}
 .rw[tM];rw[lJ]at l1;lia
 .rwa[tM]
 let{y,H2,O,S,k,rfl,hk,l2,q2}:=h2;let{u,rfl}:=S;rw[tM];refine formatField_int_small hk {l2,?_};exact joinParts_nilE<|joinParts_nil {.str _,H2,((O.tok _).tok _).tok _,{_,M},q2} l2
end L2
namespace SW
open PySem L2
set_option maxHeartbeats 0
abbrev _root_.Kl:=List (Int×V)
abbrev _root_.Ku:=List (Int×Int)
abbrev _root_.La:=List (List Int)
variable{C L a b c dx h l p q r tb:B'}{F F' G:Kh}{t:II}{D:Iw}{o:HO}{H H' H1:Hp}{k m n sz:Int}{ps:Ku}{kv':Kl}{kvs:Kv}{ls:La}{fs:Ks}{A as:Km}{ks x y:Kk}{pa':List Pk}{ths ts ws zs:Kc}{xs:Ke}{bm:Kd}{i j:Nat}{K:J5}{st:IE}{J:St}{w0:Str}{α β:Type}{v:V}{Q:VK}{E:XK}
structure Txt(K:J5)(mg:Kq)(t:II)(w:Kj):Prop where
 mf:mg "WalkError"=some (.ref t.aZ)
 cP:mg "NoToken"=some (.ref t.aQ)
 j3:mg "NoText"=some (.ref t.bj)
 iu:mg "NoRow"=some (.ref t.bb)
 ue:mg "OutOfTurn"=some (.ref t.a6)
 AQ:mg "NoKey"=some (.ref t.bM)
 Hf:mg "Twice"=some (.ref t.de)
 Ev:mg "NoMoment"=some (.ref t.cv)
 vB:mg "Token"=some (.ref t.gb)
 wU:mg "BySlots"=some (.ref t.a7)
 HP:mg "Up"=some (.ref t.uv)
 HF:mg "Down"=some (.ref t.jk)
 Gq:mg "Copier"=some (.ref t.cn)
 Gp:mg "Leaves"=some (.ref t.bX)
 Hh:mg "Makes"=some (.ref t.fc)
 Hg:mg "Slots"=some (.ref t.ba)
 Hi:mg "House"=some (.ref t.br)
 HG:mg "Desk"=some (.ref t.fN)
 Ci:IF K cC "NoKey.__init__" gy t.ia t.gW
 B7:Binds K t.gW [aF,ci] []
 Ce:IF K cC "Twice.__init__" gu t.hW t.gS
 BZ:Binds K t.gS [aF,ci] []
 Gu:mg "mark_of"=some (.ref t.tF)
 zF:IF K "mark_of" "mark_of" mU t.tF t.nK
 GA:Binds K t.nK [ci] []
 sV:mg "slot_of"=some (.ref t.tD)
 nN:IF K "slot_of" "slot_of" mT t.tD t.nI
 tx:Binds K t.nI [ci,"size"] []
 Fu:mg "is_whole"=some (.ref t.qN)
 xA:IF K "is_whole" "is_whole" kW t.qN t.lB
 F6:Binds K t.lB [lm] []
 ix:mg "is_from"=some (.ref t.tG)
 fg:IF K "is_from" "is_from" mV t.tG t.nM
 iC:Binds K t.nM [lm,"low"] []
 ib:IF K cC "Token.__init__" gv t.hZ t.gT
 kA:Binds K t.gT [aF,"kind",ox,u0] []
 zQ:JY K cC "BySlots.__init__" eP t.ju t.cE
 zP:Binds K t.cE [aF,ox,u0] []
 Gk:JY K cC "Up.__init__" kY t.qP t.fJ
 F7:Binds K t.fJ [aF,ox,u0] []
 Ed:JY K cC "Down.__init__" iX t.mK t.dW
 DT:Binds K t.dW [aF,ox,u0] []
 BI:JY K cC "Copier.__init__" fA t.jV t.dX
 oE:jX K t.dX [aF,pp,"token","stopped"] [.non]
 BG:IF K cC "Leaves.__init__" fv t.jT t.fK
 Bz:Binds K t.fK [aF] []
 Cm:IF K "add" "Leaves.add" eK t.kJ t.g6
 Cb:Binds K t.g6 [aF,ci] []
 Cl:IF K "has" "Leaves.has" gG t.kI t.gZ
 Ca:Binds K t.gZ [aF,ci] []
 yv:IF K "from_on" "Leaves.from_on" cH t.gg t.dS
 yk:Binds K t.dS [aF,ci,"most"] []
 yu:IF K "leaf_of" "Leaves.leaf_of" dH t.gf t.dR
 gc:Binds K t.dR [aF,ci] []
 wj:IF K "part_leaf" "Leaves.part_leaf" cW t.eV t.c5
 wg:Binds K t.c5 [aF,ox] []
 Ck:IF K cC "Makes.__init__" gF t.kH t.gY
 B9:Binds K t.gY [aF] []
 Cj:IF K "note" "Makes.note" gE t.kG t.gX
 B8:Binds K t.gX [aF,"moment",ih] []
 nQ:mg "empty_row"=some (.ref t.nW)
 jW:IF K "empty_row" "empty_row" fX t.nW t.jM
 nV:Binds K t.jM ["size"] []
 Cg:IF K cC "Slots.__init__" gx t.kF t.gV
 B6:Binds K t.gV [aF] []
 D7:IF K p0 "Slots.put" iS t.mF t.je
 DP:Binds K t.je [aF,ci,ih] []
 Ea:IF K "get" "Slots.get" iU t.mH t.jg
 DR:Binds K t.jg [aF,ci] []
 D9:IF K "has" "Slots.has" iT t.mG t.jf
 DQ:Binds K t.jf [aF,ci] []
 Cf:IF K "many" "Slots.many" gw t.kE t.gU
 B0:Binds K t.gU [aF] []
 zG:IF K "cell_of" "Slots.cell_of" d8 t.iF t.eF
 iD:Binds K t.eF [aF,ci] []
 xB:IF K "move_slot" "Slots.move_slot" dk t.fP t.du
 xv:Binds K t.du [aF] []
 xC:IF K "begin_row" "Slots.begin_row" dn t.fQ t.dw
 xw:Binds K t.dw [aF] []
 Co:IF K cC "House.__init__" gI t.kL t.g8
 Cc:Binds K t.g8 [aF] []
 Eb:IF K p0 "House.put" iV t.mI t.jh
 DS:Binds K t.jh [aF,ci,ih] []
 Ec:IF K "get" "House.get" iW t.mJ t.ji
 uA:Binds K t.ji [aF,ci] []
 Cn:IF K "many" "House.many" gH t.kK t.g7
 sw:Binds K t.g7 [aF] []
 BH:JY K "diary" "House.diary" fw t.jU t.dU
 oC:jX K t.dU [aF,"low"] [(.int<|0)]
 Cp:IF K "done" "House.done" gJ t.kM t.g9
 Cd:Binds K t.g9 [aF,"row",ih] []
 BQ:mg "are_figures"=some (.ref t.kC)
 sC:IF K "are_figures" "are_figures" eJ t.kC t.gN
 BV:Binds K t.gN [ro] []
 uh:mg "read_whole"=some (.ref t.mt)
 mM:IF K "read_whole" "read_whole" iI t.mt t.i4
 uy:Binds K t.i4 [ro] []
 ui:mg "read_bound"=some (.ref t.mC)
 mN:IF K "read_bound" "read_bound" iM t.mC t.i8
 uz:Binds K t.i8 ["word"] []
 Dh:mg "read_token"=some (.ref t.mw)
 uC:IF K "read_token" "read_token" iJ t.mw t.i5
 DI:Binds K t.i5 [ro] []
 Hj:mg "row_of"=some (.ref t.v7)
 BE:IF K "row_of" "row_of" pU t.v7 t.qI
 Hx:Binds K t.qI [ci,ih] []
 Gs:mg "rows_of"=some (.ref t.tE)
 zE:IF K "rows_of" "rows_of" jZ t.tE t.nJ
 Gz:Binds K t.nJ [pp] []
 Dj:mg "read_order"=some (.ref t.mB)
 uE:IF K "read_order" "read_order" iL t.mB t.i7
 DK:Binds K t.i7 ["row"] []
 BP:mg "read_things"=some (.ref t.kB)
 sB:IF K "read_things" "read_things" gi t.kB t.gM
 BU:Binds K t.gM ["form","words"] []
 Di:mg "read_thing"=some (.ref t.my)
 uD:IF K "read_thing" "read_thing" iK t.my t.i6
 DJ:Binds K t.i6 [lm,ro] []
 Hk:mg "may_be"=some (.ref t.v8)
 BF:IF K "may_be" "may_be" pV t.v8 t.qJ
 Hy:Binds K t.qJ [lm,"number"] []
 uF:IF K "answer_put" "answer_put" iN t.jm t.i9
 DL:Binds K t.i9 [jN,gp] []
 uH:IF K "answer_get" "answer_get" iP t.jp t.jb
 DN:Binds K t.jb [jN,gp] []
 sD:IF K "answer_many" "answer_many" gj t.hJ t.gO
 BW:Binds K t.gO [jN,gp] []
 uG:IF K "answer_now" "answer_now" iO t.jo t.ja
 DM:Binds K t.ja [jN,gp] []
 sF:IF K "answer_copy" "answer_copy" gl t.hV t.gQ
 BY:Binds K t.gQ [jN,gp] []
 sE:IF K "answer_keep" "answer_keep" gk t.hU t.gP
 BX:Binds K t.gP [jN,gp] []
 Ee:IF K cC "Desk.__init__" iY t.mL t.jj
 DU:Binds K t.jj [aF] []
 EH:IF K "say" "Desk.say" jA t.nX t.jO
 bO:Binds K t.jO [aF,"row"] []
 bh:mg "_law_cell_at"=some (.ref t.jS)
 be:IF K "_law_cell_at" "_law_cell_at" ft t.jS t.fI
 bn:Binds K t.fI [cx,"_law_k"] []
 sj:mg "_law_number"=some (.ref t.kD)
 kN:IF K "_law_number" "_law_number" gs t.kD t.gR
 sv:Binds K t.gR [cy] []
 mj:mg "_law_token"=some (.ref t.mE)
 jq:IF K "_law_token" "_law_token" iR t.mE t.jd
 mr:Binds K t.jd [cx,"_law_ordered"] []
 Dk:mg "_law_words"=some (.ref t.mD)
 uI:IF K "_law_words" "_law_words" iQ t.mD t.jc
 DO:Binds K t.jc [cx] []
 w5:mg "_law_put"=some (.ref t.qO)
 qS:IF K "_law_put" "_law_put" kX t.qO t.lC
 xt:Binds K t.lC [bz,"_law_at","_law_word"] []
 yZ:mg "_law_otherwise"=some (.ref t.iE)
 nO:IF K "_law_otherwise" "_law_otherwise" d7 t.iE t.eE
 zB:Binds K t.eE [bz,cy] []
 wc:mg "_law_other_number"=some (.ref t.eU)
 kr:IF K "_law_other_number" "_law_other_number" b7 t.eU t.cZ
 wf:Binds K t.cZ [bz,cy] []
 x6:mg "_law_other_many"=some (.ref t.gd)
 mO:IF K "_law_other_many" "_law_other_many" dG t.gd t.dQ
 yj:Binds K t.dQ [bz,cy] []
 w6:mg "_law_other_token"=some (.ref t.fO)
 lE:IF K "_law_other_token" "_law_other_token" dj t.fO t.dt
 xu:Binds K t.dt [bz,cy] []
 AU:mg "_law_spoiled"=some (.ref t.jQ)
 qQ:IF K "_law_spoiled" "_law_spoiled" fm t.jQ t.fG
 Bx:Binds K t.fG [bz,cx] []
 AV:mg "_law_refused"=some (.ref t.jR)
 qR:IF K "_law_refused" "_law_refused" fq t.jR t.fH
 By:Binds K t.fH ["_law_told","_law_row"] []
 HQ:mg "law"=some (.ref t.ED)
 HA:IF K "law" "law" Ah t.ED t.yi
 Cr:I0 K t.aZ (([]:Km).map Value.ref++JH)
 aW:I0 K t.aQ (([t.aZ]:Km).map Value.ref++JH)
 dC:PySem.W.findIn K (.ref t.aQ) cC=some (some<|.builtin eN)
 cR:I0 K t.bj (([t.aZ]:Km).map Value.ref++JH)
 xf:PySem.W.findIn K (.ref t.bj) cC=some (some<|.builtin eN)
 aT:I0 K t.bb (([t.aZ]:Km).map Value.ref++JH)
 ie:KO K t.bb
 iy:PySem.W.findIn K (.ref t.bb) cC=some (some<|.builtin eN)
 tI:I0 K t.a6 (([t.aZ]:Km).map Value.ref++JH)
 BS:PySem.W.findIn K (.ref t.a6) cC=some (some<|.builtin eN)
 C8:HR K t.bM ci
 uJ:I0 K t.bM (([t.aZ]:Km).map Value.ref++JH)
 Gw:PySem.W.findIn K (.ref t.bM) cC=some (some<|.ref t.ia)
 Gy:PySem.W.isFn K (.ref t.ia)=true
 C7:HR K t.de ci
 zT:I0 K t.de (([t.aZ]:Km).map Value.ref++JH)
 Gv:PySem.W.findIn K (.ref t.de) cC=some (some<|.ref t.hW)
 Gx:PySem.W.isFn K (.ref t.hW)=true
 Ef:I0 K t.cv (([t.aZ]:Km).map Value.ref++JH)
 zK:HR K t.a7 "kind"
 BJ:HR K t.a7 ox
 AK:HR K t.a7 u0
 xn:Jc K t.a7
 Fp:Mk K t.a7 t.ju
 EI:KO K t.a7
 xb:PySem.W.kitOne K (.ref t.a7) (.ref t.a7)=some true
 Fn:HR K t.uv "kind"
 Hb:HR K t.uv ox
 Gm:HR K t.uv u0
 Hv:Jc K t.uv
 HN:Mk K t.uv t.qP
 HM:KO K t.uv
 BR:PySem.W.kitOne K (.ref t.uv) (.ref t.a7)=some false
 C9:HR K t.jk "kind"
 Fo:HR K t.jk ox
 Eu:HR K t.jk u0
 DF:Jc K t.jk
 HC:Mk K t.jk t.mK
 HB:KO K t.jk
 zL:PySem.W.kitOne K (.ref t.jk) (.ref t.a7)=some false
 zI:HR K t.cn pp
 zJ:HR K t.cn "first"
 AI:HR K t.cn "rest"
 wS:HR K t.cn "followed"
 yW:HR K t.cn "copied"
 AJ:HR K t.cn mu
 iB:Jc K t.cn
 Go:Mk K t.cn t.jV
 aN:HR K t.bX kt
 a8:Jc K t.bX
 Gn:Mk K t.bX t.jT
 BN:fR K t.bX "add" t.kJ
 BM:fR K t.bX "has" t.kI
 x4:fR K t.bX "from_on" t.gg
 f7:fR K t.bX "leaf_of" t.gf
 wb:fR K t.bX "part_leaf" t.eV
 sd:HR K t.fc "made"
 vY:Jc K t.fc
 Hd:Mk K t.fc t.kH
 BL:fR K t.fc "note" t.kG
 aX:HR K t.ba "table"
 bP:HR K t.ba "shifted"
 bB:HR K t.ba "kept"
 aK:Jc K t.ba
 Hc:Mk K t.ba t.kF
 Dd:fR K t.ba p0 t.mF
 Df:fR K t.ba "get" t.mH
 De:fR K t.ba "has" t.mG
 BK:fR K t.ba "many" t.kE
 iw:fR K t.ba "cell_of" t.iF
 wV:fR K t.ba "move_slot" t.fP
 wW:fR K t.ba "begin_row" t.fQ
 eX:HR K t.br "now"
 qy:HR K t.br "floor"
 dP:HR K t.br gr
 js:HR K t.br kt
 ir:HR K t.br "written"
 AH:HR K t.br "marks"
 sf:HR K t.br fo
 yV:HR K t.br "holders"
 aU:Jc K t.br
 He:Mk K t.br t.kL
 Dg:fR K t.br p0 t.mI
 uf:fR K t.br "get" t.mJ
 si:fR K t.br "many" t.kK
 AS:fR K t.br "diary" t.jU
 BO:fR K t.br "done" t.kM
 b5:HR K t.fN pp
 qz:HR K t.fN "copier"
 bH:Jc K t.fN
 HE:Mk K t.fN t.mL
 bN:fR K t.fN "say" t.nX
 kz:yr K t.gb cC (.ref t.hZ)
 lZ:yr K t.aZ cC (.builtin eN)
 Ac:PySem.W.subIn K (.ref t.bb) (.ref t.bM)=some false
 xG:PySem.W.subIn K (.ref t.bb) (.ref t.cv)=some false
 Ab:PySem.W.subIn K (.ref t.bb) (.ref t.bb)=some true
 zH:PySem.W.subIn K (.ref t.bb) (.ref t.bj)=some false
 yA:PySem.W.subIn K (.ref t.bb) (.ref t.aQ)=some false
 ww:PySem.W.subIn K (.ref t.bb) (.ref t.a6)=some false
 wv:PySem.W.subIn K (.ref t.bb) (.ref t.aZ)=some true
 mQ:PySem.W.subIn K (.ref t.bj) (.ref t.bj)=some true
 xF:PySem.W.subIn K (.ref t.aQ) (.ref t.bj)=some false
 wu:PySem.W.subIn K (.ref t.aQ) (.ref t.aQ)=some true
 g_PLACES:∃tk,mg "PLACES"=some (.int 65536 tk)
 g_MOST_IN_LEAF:∃tk,mg "MOST_IN_LEAF"=some (.int 8 tk)
 g_LEAST_SIZE:∃tk,mg "LEAST_SIZE"=some (.int 4 tk)
 g_GREATEST_SIZE:∃tk,mg "GREATEST_SIZE"=some (.int 256 tk)
 g_FIGURES:∃tk,mg "FIGURES"=some (.str so tk)
 g_MOST_FIGURES:∃tk,mg "MOST_FIGURES"=some (.int 60 tk)
 g_WORDS_OF_TOKEN:∃tk,mg "WORDS_OF_TOKEN"=some (.int 3 tk)
 g_MOST_KEYS:∃tk,mg "MOST_KEYS"=some (.int 100 tk)
 Cq:mg gm=none
 HL:mg "all"=none
 HI:mg "bool"=none
 HH:mg "dict"=none
 zR:mg "int"=none
 bp:mg nj=none
 cz:mg "len"=none
 HK:mg "max"=none
 HJ:mg "min"=none
 tH:mg u3=none
 cw:mg qs=none
 AR:mg "FORMS"=some (.ref t.Do)
 Bc:KD w K t.Do t.bq
 Hl:t.bq.map (λp=>p.1)=[(p0:Str),("drop":Str),("get":Str),("many":Str),(mu:Str),("hold":Str),("free":Str),("sweep":Str),("now":Str),(ox:Str),(fo:Str),(ub:Str),("open":Str),(rr:Str),("close":Str),("follow":Str),("show":Str),("covers":Str),("total":Str),("stop":Str),("keep":Str)]
 kt_FORMS_put:∃a,Iu t.bq (p0:Str)=some (.ref a)/\∀H:Hp,IP K H a [.str iA,.str hH]
 kt_FORMS_get:∃a,Iu t.bq ("get":Str)=some (.ref a)/\∀H:Hp,IP K H a [.str iA]
 kt_FORMS_many:∃a,Iu t.bq ("many":Str)=some (.ref a)/\∀H:Hp,IP K H a []
 kt_FORMS_now:∃a,Iu t.bq ("now":Str)=some (.ref a)/\∀H:Hp,IP K H a []
 kt_FORMS_copy:∃a,Iu t.bq (ub:Str)=some (.ref a)/\∀H:Hp,IP K H a [.str cj]
 kt_FORMS_keep:∃a,Iu t.bq ("keep":Str)=some (.ref a)/\∀H:Hp,IP K H a []
 kt_FORMS_drop:∃a,Iu t.bq ("drop":Str)=some (.ref a)/\∀H:Hp,IP K H a [.str iA]
 kt_FORMS_page:∃a,Iu t.bq (mu:Str)=some (.ref a)/\∀H:Hp,IP K H a [.str cj,.str gt]
 kt_FORMS_hold:∃a,Iu t.bq ("hold":Str)=some (.ref a)/\∀H:Hp,IP K H a []
 kt_FORMS_free:∃a,Iu t.bq ("free":Str)=some (.ref a)/\∀H:Hp,IP K H a [.str hQ]
 kt_FORMS_sweep:∃a,Iu t.bq ("sweep":Str)=some (.ref a)/\∀H:Hp,IP K H a []
 kt_FORMS_at:∃a,Iu t.bq (ox:Str)=some (.ref a)/\∀H:Hp,IP K H a [.str iA,.str hQ]
 kt_FORMS_past:∃a,Iu t.bq (fo:Str)=some (.ref a)/\∀H:Hp,IP K H a [.str hQ,.str cj,.str gt]
 kt_FORMS_open:∃a,Iu t.bq ("open":Str)=some (.ref a)/\∀H:Hp,IP K H a []
 kt_FORMS_read:∃a,Iu t.bq (rr:Str)=some (.ref a)/\∀H:Hp,IP K H a [.str gt]
 kt_FORMS_close:∃a,Iu t.bq ("close":Str)=some (.ref a)/\∀H:Hp,IP K H a []
 kt_FORMS_follow:∃a,Iu t.bq ("follow":Str)=some (.ref a)/\∀H:Hp,IP K H a [.str "STEPS"]
 kt_FORMS_show:∃a,Iu t.bq ("show":Str)=some (.ref a)/\∀H:Hp,IP K H a []
 kt_FORMS_covers:∃a,Iu t.bq ("covers":Str)=some (.ref a)/\∀H:Hp,IP K H a [.str iA]
 kt_FORMS_total:∃a,Iu t.bq ("total":Str)=some (.ref a)/\∀H:Hp,IP K H a []
 kt_FORMS_stop:∃a,Iu t.bq ("stop":Str)=some (.ref a)/\∀H:Hp,IP K H a []
 Fq:mg "ANSWERS"=some (.ref t.za)
 FF:KD w K t.za t.eB
 A7:Iu t.eB (p0:Str)=some (.ref t.jm)
 A9:Iu t.eB ("get":Str)=some (.ref t.jp)
 zM:Iu t.eB ("many":Str)=some (.ref t.hJ)
 A8:Iu t.eB ("now":Str)=some (.ref t.jo)
 zO:Iu t.eB (ub:Str)=some (.ref t.hV)
 zN:Iu t.eB ("keep":Str)=some (.ref t.hU)
 Da:mg "OF_COPIER"=some (.ref t.jK)
 Dl:∀H:Hp,IP K H t.jK [.str "open",.str rr,.str "close",.str "follow",.str "show",.str "covers",.str "total",.str "stop"]
def pN:au [aF,ci] [aF,ci] (aj gy):=IJ
def pJ:au [aF,ci] [aF,ci] (aj gu):=IJ
def wF:au [ci] [ci] (aj mU):=IJ
def wE:au [ci,"size"] [ci,"size"] (aj mT):=IJ
def uX:au [lm] [lm] (aj kW):=IJ
def wG:au [lm,"low"] [lm,"low"] (aj mV):=IJ
def pK:au [aF,"kind",ox,u0] [aF,"kind",ox,u0] (aj gv):=IJ
def Ic:au [aF,ox,u0] [aF,ox,u0] (aj eP):=IJ
def JU:au [aF,ox,u0] [aF,ox,u0] (aj kY):=IJ
def JA:au [aF,ox,u0] [aF,ox,u0] (aj iX):=IJ
def Il:au [aF,pp,"token","stopped"] [aF,pp,"token","stopped"] (aj fA):=IJ
def oo:au [aF] [aF] (aj fv):=IJ
def Ix:au [aF,ci,ox,"leaf"] [aF,ci] (aj eK):=IJ
def pQ:au [aF,ci,ox] [aF,ci] (aj gG):=IJ
def IW:au [aF,ci,"most","told",ox] [aF,ci,"most"] (aj cH):=IJ
def kU:au [aF,ci,"low","high","middle"] [aF,ci] (aj dH):=IJ
def jx:au [aF,ox,"leaf","middle"] [aF,ox] (aj cW):=IJ
def pP:au [aF] [aF] (aj gF):=IJ
def pO:au [aF,"moment",ih] [aF,"moment",ih] (aj gE):=IJ
def tP:au ["size"] ["size"] (aj fX):=IJ
def pM:au [aF] [aF] (aj gx):=IJ
def rG:au [aF,ci,ih,"cell"] [aF,ci,ih] (aj iS):=IJ
def JC:au [aF,ci,"cell"] [aF,ci] (aj iU):=IJ
def rH:au [aF,ci] [aF,ci] (aj iT):=IJ
def pL:au [aF] [aF] (aj gw):=IJ
def lP:au [aF,ci,"old","slot","new"] [aF,ci] (aj d8):=IJ
def kh:au [aF,"old","new",ci,ih] [aF] (aj dk):=IJ
def kj:au [aF,"size"] [aF] (aj dn):=IJ
def pS:au [aF] [aF] (aj gI):=IJ
def JD:au [aF,ci,ih] [aF,ci,ih] (aj iV):=IJ
def JJ:au [aF,ci] [aF,ci] (aj iW):=IJ
def pR:au [aF] [aF] (aj gH):=IJ
def Ik:au [aF,"low"] [aF,"low"] (aj fw):=IJ
def pT:au [aF,"row",ih,ci] [aF,"row",ih] (aj gJ):=IJ
def pF:au [ro] [ro] (aj eJ):=IJ
def JF:au [ro,"below","figures"] [ro] (aj iI):=IJ
def JE:au ["word"] ["word"] (aj iM):=IJ
def JI:au [ro,"words",ox,u0] [ro] (aj iJ):=IJ
def yG:au [ci,ih] [ci,ih] (aj pU):=IJ
def JX:au [pp,"keys"] [pp] (aj jZ):=IJ
def JG:au ["row","words","first",gp] ["row"] (aj iL):=IJ
def IY:au ["form","words",gp,ox,lm,"width"] ["form","words"] (aj gi):=IJ
def JB:au [lm,ro,"number"] [lm,ro] (aj iK):=IJ
def yH:au [lm,"number"] [lm,"number"] (aj pV):=IJ
def J9:au [jN,gp] [jN,gp] (aj iN):=IJ
def J7:au [jN,gp] [jN,gp] (aj iP):=IJ
def pG:au [jN,gp] [jN,gp] (aj gj):=IJ
def rD:au [jN,gp] [jN,gp] (aj iO):=IJ
def pH:au [jN,gp] [jN,gp] (aj gl):=IJ
def Iv:au [jN,gp] [jN,gp] (aj gk):=IJ
def rJ:au [aF] [aF] (aj iY):=IJ
def JN:au [aF,"row","order","first","answer"] [aF,"row"] (aj jA):=IJ
def ol:au [cx,"_law_k"] [cx,"_law_k"] (aj ft):=IJ
def pI:au [cy] [cy] (aj gs):=IJ
def rF:au [cx,"_law_ordered",cy,"_law_low","_law_high"] [cx,"_law_ordered"] (aj iR):=IJ
def rE:au [cx,"_law_form","_law_one","_law_two","_law_many"] [cx] (aj iQ):=IJ
def uY:au [bz,"_law_at","_law_word"] [bz,"_law_at","_law_word"] (aj kX):=IJ
def Ia:au [bz,cy,"_law_odd"] [bz,cy] (aj d7):=IJ
def IS:au [bz,cy,"_law_places","_law_at"] [bz,cy] (aj b7):=IJ
def kT:au [bz,cy] [bz,cy] (aj dG):=IJ
def IG:au [bz,cy,"_law_low","_law_some","_law_token_here"] [bz,cy] (aj dj):=IJ
def oj:au [bz,cx,cy,"_law_way","_law_row"] [bz,cx] (aj fm):=IJ
def Im:au ["_law_told","_law_row","e","_law_others"] ["_law_told","_law_row"] (aj fq):=IJ
def KB:au [cx,"_law_told","_law_k","_law_held","_law_row","_law_again"] [cx] (aj Ah):=IJ
def Sc:V->Prop
 | .non=>True| .bl _=>True| .int _=>True| .str _=>True|_=>False
noncomputable def isW:V->Bool
 | .int _=>true|_=>false
def Fr(F F':Kh)(H H':Hp):Prop:=∀b o,¬F b->H b=some o->H' b=some o/\¬F' b
def Fr.refl:Fr F F H H:=λ_ _ n e=>⟨e,n⟩
def Fr.trans{z:Kh}{H'':Hp}(x:Fr F F' H H')(y:Fr F' z H' H''):Fr F z H H'':=λb o n e=>y b o (x b o n e).2 (x b o n e).1
def Fr.of_same(s:HU H H'):Fr F F H H':=λb o n e=>{s b o e,n}
noncomputable def bg(kv:Kl):List (Key×V):=kv.map λp=>(Sum.inl p.1,p.2)
def eD{kv:Kl}:aR (bg kv) (Sum.inl k:Key)=aR kv k:=by
 induction kv with
 |nil=>rfl
 |cons p r I=>
  show aR ((Sum.inl p.1,p.2)::bg r) (Sum.inl k:Key)=_;by_cases e:p.1=k
  .rw[bI e,bI (by show(Sum.inl p.1:Key)=_;rw[e])]
  .rw[bJ e,bJ (by show ¬(Sum.inl p.1:Key)=_;exact λz=>e<|Sum.inl.inj z),I]
def y7{kv:Kl}:((bg kv).any λx=>decide (x.1=(Sum.inl k:Key)))=kv.any λx=>decide (x.1=k):=by
 rw[cN,cN,eD]
def j4{kv:Kl}:bC (bg kv) (Sum.inl k:Key) v=bg (bC kv k v):=by
 unfold bC;rw[y7];by_cases c:(kv.any λx=>decide (x.1=k))=true
 .rw[Xe c,Xe c];unfold bg;rw[Zv,Zv];refine Zu λp _=>?_;show(if(Sum.inl p.1:Key)=Sum.inl k then _ else _)=_;by_cases e:p.1=k
  .rw[Xe (by rw[e])];simp[e]
  .rw[Xc λz=>e (Sum.inl.inj z)];simp[e]
 .rw[Xc c,Xc c];unfold bg;rw[Qf];rfl
def j5{kv:Kl}:(bg kv).length=kv.length:=Q0 _
theorem jB{f:Str}{v:V}:∀fs:List (Str×V),(bY f v fs).length<=fs.length+1
 | []=>Qc _
 |(g,x)::r=>by
  rw[bY];split
  .rw[Q3,Q3];lia
  .have:=jB (f:=f) (v:=v) r;rw[Q3,Q3];lia
section
variable{κ:Type}[DecidableEq κ]{kv:List (κ×V)}{k j:κ}
theorem mem_keys:∀{kv:List (κ×V)},k∈kv.map (·.1)↔(aR kv k).isSome=true
 | []=>by simp[oU]
 |p::r=>by
  by_cases e:p.1=k
  .rw[bI e];simp[e]
  .rw[bJ e,<-mem_keys];simp[Ne.symm e]
def qD:(bC kv k v).map (·.1)=if(aR kv k).isSome=true then kv.map (·.1)else kv.map (·.1)++ [k]:=by
 unfold bC;rw[cN];by_cases c:(aR kv k).isSome=true
 .rw[Xe c,Xe c,Zv];refine Zu λp _=>?_;show(if p.1=k then(p.1,v)else p).1=p.1;split<;>rfl
 .rw[Xc c,Xc c,Qf];rfl
def wR(h:(kv.map (·.1)).Nodup):((bC kv k v).map (·.1)).Nodup:=by
 cases e:aR kv k with
 |none=>exact C6 v h e
 |some x=>rwa[qD,e]
theorem qw:∀{l S:List κ},l.Nodup->(∀x∈l,x∈S)->l.length<=S.length
 | [],_,_,_=>Qy _
 |x::xs,S,hn,hs=>by
  let{h1,h2}:=QQ.mp hn;have hx:x∈S:=hs x Q6;have:=qw (S:=S.erase x) h2 λy hy=>(List.mem_erase_of_ne λz=>h1<|by rwa[<-z]).mpr (hs y<|Q4 _ hy);rw[List.length_erase_of_mem hx]at this;have:=List.length_pos_of_mem hx;rw[Q3];lia
end
set_option genInjectivity false in
structure IE where
 kv:List (Int×V)
 size:Int
 nxt:Option Int
 mv:Int
noncomputable def IE.new:IE:={[],4,none,0}
noncomputable def IE.one(s:IE):IE:=match s.nxt with
 |none=>s
 |some m=>if s.mv+1=s.size then{s with size:=m,nxt:=none,mv:=0}else{s with mv:=s.mv+1}
noncomputable def IE.three(s:IE):IE:=match s.nxt with
 |some _=>s
 |none=>if s.size<(s.kv.length:Int)/\s.size<256 then{s with nxt:=some (2*s.size),mv:=0}else if 4*(s.kv.length:Int)<s.size/\4<s.size then{s with nxt:=some (s.size/2),mv:=0}else s
def IE.put(s:IE)(k:Int)(v:V):IE:=IE.three {s.one with kv:=bC s.kv k v}
noncomputable def IE.moved(s:IE):Int:=match s.nxt with
 |none=>0
 |some _=>s.mv
set_option genInjectivity false in
structure KF where
 tb:Addr
 r0:Addr
 r1:Addr
 A0:List Addr
 A1:List Addr
 C0:List (List<|Int×V)
 C1:List (List<|Int×V)
 n:Int
noncomputable def JK(tb:B')(sh n:Int):List (Str×V):=[("table",.ref tb),("shifted",.int sh),("kept",.int n)]
def eY{k:Str}{r:Ks}:((k,v)::r).lookup k=some v:=by
 have hb:(k==k)=true:=Xu.mpr M;simp only[List.lookup,hb]
def bQ{k m:Str}{r:Ks}(h:m≠k):((k,v)::r).lookup m=r.lookup m:=by
 have hb:(m==k)=false:=Xq.mpr h;simp only[List.lookup,hb]
section
variable{tb':B'}{sh sh' n':Int}{m:Str}
def jr:(JK tb sh n).lookup ("table":Str)=some (.ref tb):=eY
def uU:(JK tb sh n).lookup ("shifted":Str)=some (.int sh):=by unfold JK;rw[bQ ∅,eY]
def lO:(JK tb sh n).lookup ("kept":Str)=some (.int n):=by unfold JK;rw[bQ ∅,bQ ∅,eY]
def NoM(m:Str):Prop:=m≠("table":Str)/\m≠("shifted":Str)/\m≠("kept":Str)
instance:Decidable (NoM m):=by unfold NoM;infer_instance
def El(h:NoM m):(JK tb sh n).lookup m=none:=by unfold JK;rw[bQ h.1,bQ h.2.1,bQ h.2.2];rfl
def G0:bY ("table":Str) (.ref tb') (JK tb sh n)=JK tb' sh n:=by unfold JK;rw[bY,Xe M]
def Es:bY ("shifted":Str) (.int sh') (JK tb sh n)=JK tb sh' n:=by unfold JK;rw[bY,Xc ∅,bY,Xe M]
def G6:bY ("kept":Str) (.int n') (JK tb sh n)=JK tb sh n':=by unfold JK;rw[bY,Xc ∅,bY,Xc ∅,bY,Xe M]
def oH:(JK tb sh n).length<1000:=by show 3<1000;decide
end
structure IC(H:Hp)(r:B')(A:Km)(C:List (List<|Int×V))(sz:Int):Prop where
 lst:H r=some (.lst<|A.map V.ref)
 la:(A.length:Int)=sz
 lc:(C.length:Int)=sz
 cell:∀(j:Nat)(b:B')(kv:Kl),A[j]?=some b->C[j]?=some kv->H b=some (.dK<|bg kv)
 ndk:∀(j:Nat)(kv:Kl),C[j]?=some kv->(kv.map (·.1)).Nodup
 inj:∀(i j:Nat)(b:B'),A[i]?=some b->A[j]?=some b->i=j
 home:∀(j:Nat)(kv:Kl),C[j]?=some kv->∀p∈kv,p.1%65536%sz=(j:Int)
def IC.has{C:List (List<|Int×V)}(h:IC H r A C sz)(hb:b∈A):∃(j:Nat)(kv:Kl),A[j]?=some b/\C[j]?=some kv/\H b=some (.dK<|bg kv):=by
 let{j,I,e}:=QO hb;have hc:j<C.length:=by have:=h.la;have:=h.lc;lia
 have z:A[j]?=some b:=by rw[Qb I,e]
 have e2:C[j]?=some C[j]:=Qb hc;exact{j,C[j],z,e2,h.cell j b _ z e2}
def IC.frame{C:List (List<|Int×V)}(h:IC H r A C sz)(f:∀b,b=r\/b∈A->H' b=H b):IC H' r A C sz:=
 {by rw[f r (.inl M)];exact h.lst,h.la,h.lc,λj b kv z e2=>by rw[f b (.inr<|Q2 z)];exact h.cell j b kv z e2,h.ndk,h.inj,h.home}
def IC.notr{C:List (List<|Int×V)}(h:IC H r A C sz)(hb:b∈A){x:B'}(e:H x=some o)(ne:∀kvs,o≠ .dK kvs):b≠x:=λz=>by
 let{j,kv,_,_,q}:=h.has hb;rw[z,e]at q;cases q;exact ne _ M
def IC.set{C:List (List<|Int×V)}(h:IC H r A C sz)(ea:A[j]?=some c)(O:(kv'.map (·.1)).Nodup)(S:∀p∈kv',p.1%65536%sz=(j:Int)):
  IC (upd H c<|.dK<|bg kv') r A (C.set j kv') sz:=by
 have hc:r≠c:=(h.notr (Q2 ea) h.lst<|λ_ z=>by cases z).symm;refine{by rw[ah hc];exact h.lst,h.la,by rw[QE];exact h.lc,λi b kv I e2=>?_,λi kv e=>?_,h.inj,λi kv e=>?_}
 .rw[Qr]at e2;by_cases z:j=i
  .subst z;rw[ea]at I;cases I;rw[Xe M]at e2;split at e2
   .cases e2;exact BB
   .cases e2
  .rw[Xc z]at e2;rw[ah λy=>z (h.inj j i c ea<|by rw[<-y];exact I)];exact h.cell i b kv I e2
 .rw[Qr]at e;by_cases z:j=i
  .rw[Xe z]at e;split at e
   .cases e;exact O
   .cases e
  .rw[Xc z]at e;exact h.ndk i kv e
 .rw[Qr]at e;by_cases z:j=i
  .subst z;rw[Xe M]at e;split at e
   .cases e;exact S
   .cases e
  .rw[Xc z]at e;exact h.home i kv e
def JO(a:B')(st:IE)(d:KF):Addr->Prop:=λb=>b=a\/b=d.tb\/b=d.r0\/b∈d.A0\/(st.nxt.isSome=true/\b=d.r1)\/b∈d.A1
def IsCell(d:KF)(st:IE)(k:Int)(c:B')(kv:Kl):Prop:=
 (st.moved<=k%65536%st.size/\d.A0[(k%65536%st.size).toNat]?=some c/\d.C0[(k%65536%st.size).toNat]?=some kv)\/
 (∃m,st.nxt=some m/\k%65536%st.size<st.moved/\d.A1[(k%65536%m).toNat]?=some c/\d.C1[(k%65536%m).toNat]?=some kv)
structure IN(st:IE):Prop where
 pw:st.size∈([4,8,16,32,64,128,256]:Kk)
 nx:∀m,st.nxt=some m->m∈([4,8,16,32,64,128,256]:Kk)/\0<=st.mv/\st.mv<st.size/\(m=2*st.size\/2*m=st.size)
def lR{x:Int}(h:x∈([4,8,16,32,64,128,256]:List Int)):x=4\/x=8\/x=16\/x=32\/x=64\/x=128\/x=256:=by simpa using h
def dJ{x:Int}(h:x∈([4,8,16,32,64,128,256]:List Int)):4<=x/\x<=256:=by
 rcases lR h with h|h|h|h|h|h|h<;>lia
structure IV(t:II)(H:Hp)(a:B')(st:IE)(d:KF):Prop where
 obj:∃dx,H a=some (.ins t.ba dx<|JK d.tb st.moved d.n)
 tbl:H d.tb=some (.lst<|match st.nxt with|none=> [.ref d.r0]|some _=> [.ref d.r0,.ref d.r1])
 row0:IC H d.r0 d.A0 d.C0 st.size
 row1:match st.nxt with|none=>d.A1=[]/\d.C1=[]|some m=>IC H d.r1 d.A1 d.C1 m
 dis:∀b,b∈d.A0->b∉d.A1
 tr:d.tb≠d.r0
 tr1:st.nxt.isSome=true->d.tb≠d.r1/\d.r0≠d.r1
 old:∀(j:Nat)(kv:Kl),d.C0[j]?=some kv->(j:Int)<st.moved->kv=[]
 new:∀(j:Nat)(kv:Kl),d.C1[j]?=some kv->∀p∈kv,p.1%65536%st.size<st.moved
 val:∀(k:Int)(c:B')(kv:Kl),IsCell d st k c kv->aR kv k=aR st.kv k
section
variable{d:KF}
def IV.frame(h:IV t H a st d)(f:∀b,JO a st d b->H' b=H b):IV t H' a st d:=by
 let{dx,z}:=h.obj;refine{{dx,by rwa[f a (.inl M)]},by rw[f d.tb (.inr<|.inl M)];exact h.tbl,h.row0.frame λb hb=>f b ?_,?_,h.dis,h.tr,h.tr1,h.old,h.new,h.val}
 .rcases hb with hb|hb
  .exact .inr<|.inr (.inl hb)
  .exact .inr<|.inr (.inr<|.inl hb)
 .have r1:=h.row1;have I:=f;unfold JO at I;cases e:st.nxt with
  |none=>rw[e]at r1;exact r1
  |some m=>
   rw[e]at r1;refine IC.frame (H:=H) r1 λb hb=>f b ?_;unfold JO;rw[e];rcases hb with hb|hb
   .exact .inr<|.inr (.inr<|.inr<|.inl ⟨M,hb⟩)
   .exact .inr<|.inr (.inr<|.inr<|.inr hb)
def IV.dom(h:IV t H a st d)(hb:JO a st d b):∃o,H b=some o:=by
 let{dx,z}:=h.obj;rcases hb with rfl|rfl|rfl|hb|⟨hs,rfl⟩|hb
 .exact{_,z}
 .exact{_,h.tbl}
 .exact{_,h.row0.lst}
 .let{_,_,_,_,q}:=h.row0.has hb;exact{_,q}
 .have r1:=h.row1;cases e:st.nxt with
  |none=>rw[e]at hs;cases hs
  |some m=>rw[e]at r1;exact{_,r1.lst}
 .have r1:=h.row1;cases e:st.nxt with
  |none=>rw[e]at r1;rw[r1.1]at hb;cases hb
  |some m=>rw[e]at r1;let{_,_,_,_,q}:=r1.has hb;exact{_,q}
def IV.at(h:IV t H a st d){kv:Kl}(I:IsCell d st k c kv):H c=some (.dK<|bg kv)/\JO a st d c/\(kv.map (·.1)).Nodup:=by
 rcases I with⟨_,z,e2⟩|⟨m,O,_,z,e2⟩
 .exact{h.row0.cell _ _ _ z e2,.inr<|.inr<|.inr<|.inl<|Q2 z,h.row0.ndk _ _ e2}
 .have r1:=h.row1;rw[O]at r1;exact{r1.cell _ _ _ z e2,.inr<|.inr<|.inr<|.inr<|.inr<|Q2 z,r1.ndk _ _ e2}
def ni(z:4<=m):0<=k%65536%m/\k%65536%m<m/\((k%65536%m).toNat:Int)=k%65536%m:=by
 have h1:=Qi (k%65536) (show m≠0 by lia);have h2:=Qh (k%65536) (show 0<m by lia);exact{h1,h2,Int.toNat_of_nonneg h1}
def cY{l:List α}{z:Int}(I:0<=z)(h1:z<(l.length:Int)):∃x,l[z.toNat]?=some x:={l[z.toNat]'(),Qb ()}
def IV.cell(h:IV t H a st d)(z:IN st)(k:Int):∃c kv,IsCell d st k c kv:=by
 let{s4,_}:=dJ z.pw;let{O,S,m2}:=ni (k:=k) s4;by_cases c:st.moved<=k%65536%st.size
 .let{x,I}:=cY (l:=d.A0) O (by rw[h.row0.la];exact S);let{y,e2}:=cY (l:=d.C0) O (by rw[h.row0.lc];exact S);exact{x,y,.inl ⟨c,I,e2⟩}
 .cases e:st.nxt with
  |none=>
   exfalso;have:st.moved=0:=by unfold IE.moved;rw[e]
   lia
  |some m=>
   let{Z,_}:=z.nx m e;let{s5,_}:=dJ Z;let{U,Y,n2}:=ni (k:=k) s5;have r1:=h.row1;rw[e]at r1;let{x,I}:=cY (l:=d.A1) U (by rwa[r1.la]);let{y,e2}:=cY (l:=d.C1) U (by rwa[r1.lc]);exact{x,y,.inr {m,e,(),I,e2}}
def IsCell.uniq{U:B'}{kv:Kl}(x:IsCell d st k c kv)(y:IsCell d st k U kv'):c=U/\kv=kv':=by
 rcases x with⟨Y,S,e2⟩|⟨m,Z,Y,S,e2⟩<;>rcases y with⟨g0,z,I⟩|⟨m',O,g0,z,I⟩
 .rw[S]at z;rw[e2]at I;cases z;cases I;exact⟨M,M⟩
 .lia
 .lia
 .rw[Z]at O;cases O;rw[S]at z;rw[e2]at I;cases z;cases I;exact⟨M,M⟩
def IV.setN(h:IV t H a st d):IV t (upd H a<|.ins t.ba dx<|JK d.tb st.moved n) a st {d with n:=n}:=by
 let{S,I}:=h.obj;have O:d.tb≠a:=cI h.tbl I (by intro z;cases z);refine{⟨dx,BB⟩,by show upd H a _ d.tb=_;rw[ah O];exact h.tbl,h.row0.frame λb hb=>ah ?_,?_,h.dis,h.tr,h.tr1,h.old,h.new,h.val}
 .rcases hb with rfl|hb
  .exact cI h.row0.lst I<|by intro z;cases z
  .exact h.row0.notr hb I<|λ_ z=>by cases z
 .have r1:=h.row1;cases e:st.nxt with
  |none=>rw[e]at r1;exact r1
  |some m=>
   rw[e]at r1;refine IC.frame (H:=H) r1 λb hb=>ah ?_;rcases hb with rfl|hb
   .exact cI r1.lst I<|by intro z;cases z
   .exact r1.notr hb I<|λ_ z=>by cases z
def IV.setCell(h:IV t H a st d)(z:IN st){kv kvs:Kl}(ic:IsCell d st k c kv)(nd:(kv'.map (·.1)).Nodup)(hm:∀p∈kv',p∈kv\/p.1=k)
  (hk:aR kv' k=aR kvs k) (ho:∀j,j≠k->aR kv' j=aR kv j/\aR kvs j=aR st.kv j):
  ∃d',IV t (upd H c<|.dK<|bg kv') a {st with kv:=kvs} d'/\d'.n=d.n/\∀b,JO a {st with kv:=kvs} d' b↔JO a st d b:=by
 let{hc,hf,_}:=h.at ic;let{dx,a1}:=h.obj;let{s4,_}:=dJ z.pw;let{m0,m1,m2}:=ni (k:=k) s4;have na:a≠c:=cI a1 hc (by intro z;cases z);have nt:d.tb≠c:=cI h.tbl hc (by intro z;cases z);have nr:d.r0≠c:=cI h.row0.lst hc (by intro z;cases z);have a0:∀(d':KF)(j:Int)(b:B')(x:Kl),IsCell d' {st with kv:=kvs} j b x->(∀y,IsCell d st j b y->(x=y/\b≠c)\/(x=kv'/\y=kv))->(∃y,IsCell d st j b y)->aR x j=aR kvs j:=λd' j b x hx f ⟨y,hy⟩=>by
  by_cases e:j=k
  .subst e;let{rfl,rfl}:=IsCell.uniq hy ic;rcases f y hy with⟨_,z⟩|⟨rfl,_⟩
   .exact Xd M z
   .exact hk
  .rw[(ho j e).2];rcases f y hy with⟨rfl,_⟩|⟨rfl,rfl⟩
   .exact h.val j b x hy
   .rw[(ho j e).1];exact h.val j b y hy
 rcases ic with⟨h0,e1,e2⟩|⟨m,em,h0,e1,e2⟩
 .have Y:c∈d.A0:=Q2 e1;have Z:∀p∈kv',p.1%65536%st.size=((k%65536%st.size).toNat:Int):=λp hp=>by
   rcases hm p hp with q|q
   .exact h.row0.home _ _ e2 p q
   .rw[q,m2]
  refine⟨{d with C0:=d.C0.set (k%65536%st.size).toNat kv'},{{dx,by rwa[ah na]},by show upd H c _ d.tb=_;rw[ah nt];exact h.tbl,h.row0.set e1 nd Z,?_,h.dis,h.tr,h.tr1,λj x e lt=>?_,h.new,λj b x hx=>?_},M,λb=>Iff.rfl⟩
  .have r1:=h.row1;show match st.nxt with|none=>_|some m=>_
   cases e:st.nxt with
   |none=>rw[e]at r1;exact r1
   |some m=>
    rw[e]at r1;refine IC.frame (H:=H) r1 λb hb=>ah ?_;rcases hb with rfl|hb
    .exact cI r1.lst hc<|by intro z;cases z
    .exact λy=>h.dis c Y (y▸hb)
  .have e:(d.C0.set (k%65536%st.size).toNat kv')[j]?=some x:=e;have lt:(j:Int)<st.moved:=lt;rw[Qr]at e;by_cases q:(k%65536%st.size).toNat=j
   .exfalso;lia
   .rw[Xc q]at e;exact h.old j x e lt
  .refine a0 _ j b x hx (λy hy=>?_) ?_
   .rcases hx with⟨U,I,S⟩|⟨m',O,U,I,S⟩
    .have S:(d.C0.set (k%65536%st.size).toNat kv')[(j%65536%st.size).toNat]?=some x:=S;have I:d.A0[(j%65536%st.size).toNat]?=some b:=I;have U:st.moved<=j%65536%st.size:=U;rcases hy with⟨_,y1,y2⟩|⟨_,_,y0,_,_⟩
     .rw[Qr]at S;by_cases q:(k%65536%st.size).toNat=(j%65536%st.size).toNat
      .rw[Xe q]at S;split at S
       .cases S;rw[<-q,e2]at y2;cases y2;exact .inr ⟨M,M⟩
       .cases S
      .rw[Xc q,y2]at S;cases S;exact .inl {M,λw=>q<|h.row0.inj _ _ c e1 (by rw[<-w];exact I)}
     .lia
    .have I:d.A1[(j%65536%m').toNat]?=some b:=I;have S:d.C1[(j%65536%m').toNat]?=some x:=S;have U:j%65536%st.size<st.moved:=U;have O:st.nxt=some m':=O;rcases hy with⟨y0,_,_⟩|⟨m2,e3,y0,y1,y2⟩
     .lia
     .rw[O]at e3;cases e3;rw[S]at y2;cases y2;exact .inl {M,λw=>h.dis c Y<|w▸Q2 I}
   .let{b',y,hy}:=h.cell z j;have:b'=b:=by
     rcases hx with⟨U,I,S⟩|⟨m',O,U,I,S⟩<;>rcases hy with⟨y0,y1,y2⟩|⟨m3,e3,y0,y1,y2⟩
     .have I:d.A0[(j%65536%st.size).toNat]?=some b:=I;rw[y1]at I;exact Xf I
     .have U:st.moved<=j%65536%st.size:=U;lia
     .have U:j%65536%st.size<st.moved:=U;lia
     .have O:st.nxt=some m':=O;rw[O]at e3;cases e3;have I:d.A1[(j%65536%m').toNat]?=some b:=I;rw[y1]at I;exact Xf I
    subst this;exact⟨y,hy⟩
 .have r1:=h.row1;rw[em]at r1;have Y:c∈d.A1:=Q2 e1;let{pm,_}:=z.nx m em;let{s5,_}:=dJ pm;let{n0,n1,n2}:=ni (k:=k) s5;have Z:∀p∈kv',p.1%65536%m=((k%65536%m).toNat:Int):=λp hp=>by
   rcases hm p hp with q|q
   .exact r1.home _ _ e2 p q
   .rw[q,n2]
  refine⟨{d with C1:=d.C1.set (k%65536%m).toNat kv'},{{dx,by rwa[ah na]},by show upd H c _ d.tb=_;rw[ah nt];exact h.tbl,h.row0.frame λb hb=>ah ?_,?_,h.dis,h.tr,h.tr1,h.old,λj x e p hp=>?_,λj b x hx=>?_},M,λb=>Iff.rfl⟩
  .rcases hb with rfl|hb
   .exact nr
   .exact λy=>h.dis b hb (y▸Y)
  .show match st.nxt with|none=>_|some m=>_
   rw[em];exact r1.set e1 nd Z
  .have e:(d.C1.set (k%65536%m).toNat kv')[j]?=some x:=e;show p.1%65536%st.size<st.moved;rw[Qr]at e;by_cases q:(k%65536%m).toNat=j
   .rw[Xe q]at e;split at e
    .cases e;rcases hm p hp with q|q
     .exact h.new _ _ e2 p q
     .rwa[q]
    .cases e
   .rw[Xc q]at e;exact h.new j x e p hp
  .refine a0 _ j b x hx (λy hy=>?_) ?_
   .rcases hx with⟨U,I,S⟩|⟨m',O,U,I,S⟩
    .have I:d.A0[(j%65536%st.size).toNat]?=some b:=I;have S:d.C0[(j%65536%st.size).toNat]?=some x:=S;have U:st.moved<=j%65536%st.size:=U;rcases hy with⟨_,y1,y2⟩|⟨_,_,y0,_,_⟩
     .rw[S]at y2;cases y2;exact .inl {M,λw=>h.dis b (Q2 I)<|w▸Y}
     .lia
    .have O:st.nxt=some m':=O;rw[em]at O;cases O;have S:(d.C1.set (k%65536%m).toNat kv')[(j%65536%m).toNat]?=some x:=S;have I:d.A1[(j%65536%m).toNat]?=some b:=I;have U:j%65536%st.size<st.moved:=U;rcases hy with⟨y0,_,_⟩|⟨m2,e3,y0,y1,y2⟩
     .lia
     .rw[em]at e3;cases e3;rw[Qr]at S;by_cases q:(k%65536%m).toNat=(j%65536%m).toNat
      .rw[Xe q]at S;split at S
       .cases S;rw[<-q,e2]at y2;cases y2;exact .inr ⟨M,M⟩
       .cases S
      .rw[Xc q,y2]at S;cases S;exact .inl {M,λw=>q<|r1.inj _ _ c e1 (by rw[<-w];exact I)}
   .let{b',y,hy}:=h.cell z j;have:b'=b:=by
     rcases hx with⟨U,I,S⟩|⟨m',O,U,I,S⟩<;>rcases hy with⟨y0,y1,y2⟩|⟨m3,e3,y0,y1,y2⟩
     .have I:d.A0[(j%65536%st.size).toNat]?=some b:=I;rw[y1]at I;exact Xf I
     .have U:st.moved<=j%65536%st.size:=U;lia
     .have U:j%65536%st.size<st.moved:=U;lia
     .have O:st.nxt=some m':=O;rw[O]at e3;cases e3;have I:d.A1[(j%65536%m').toNat]?=some b:=I;rw[y1]at I;exact Xf I
    subst this;exact⟨y,hy⟩
end
def qB{kv:Kl}{p:Int×V}(h:p∈bC kv k v):p∈kv\/p.1=k:=by
 unfold bC at h;split at h
 .let{q,hq,e}:=Qn.mp h;by_cases z:q.1=k
  .rw[Xe z]at e;rw[<-e];exact .inr z
  .rw[Xc z]at e;rw[<-e];exact .inl hq
 .rcases Qd.mp h with h|h
  .exact .inl h
  .rw[Q9.mp h];exact .inr M
def Db{kv:Kl}{p:Int×V}(h:p∈kv):(aR kv p.1).isSome=true:=mem_keys.mp (Qn.mpr ⟨p,h,M⟩)
def eT(m:Int)(C:List (List<|Int×V))(p:Int×V):List (List<|Int×V):=C.set (p.1%65536%m).toNat (bC (C.getD (p.1%65536%m).toNat []) p.1 p.2)
def AO{C:List (List<|Int×V)}{p:Int×V}:(eT m C p).length=C.length:=QE
theorem xZ{m:Int}:∀{kv:Kl}{C:List (List<|Int×V)},(kv.foldl (eT m) C).length=C.length
 | [],_=>rfl
 |p::r,C=>by rw[List.foldl_cons,xZ,AO]
def vz{C:List (List<|Int×V)}{p:Int×V}{y:Kl}(e:C[j]?=some y):(eT m C p)[j]?=some (if(p.1%65536%m).toNat=j then bC y p.1 p.2 else y):=by
 unfold eT;rw[Qr];by_cases z:(p.1%65536%m).toNat=j
 .have I:j<C.length:=(Q7.mp e).1;rw[Xe z,Xe z,Xe (by rw[z];exact I),Zb,z,e];rfl
 .rw[Xc z,Xc z,e]
set_option tactic.hygienic true in
theorem uc{m:Int}:∀{kv:Kl}{C:List (List<|Int×V)}{j:Nat}{y:Kl},(kv.map (·.1)).Nodup->C[j]?=some y->∃x,(kv.foldl (eT m) C)[j]?=some x/\
  (∀p∈x,p∈y\/p.1∈kv.map (·.1))/\∀k,aR x k=if(k%65536%m).toNat=j then(aR kv k).or (aR y k)else aR y k
 | [],C,j,y,_,e=>{y,e,λp hp=> .inl hp,λk=>by rw[oU];simp}
 |p::r,C,j,y,nd,e=>by
  let{I,O}:=QQ.mp (show(p.1::r.map (·.1)).Nodup from nd);let{x,h1,h2,S}:=uc (m:=m) O (vz (m:=m) (p:=p) e);refine{x,h1,λq hq=>?_,λk=>?_}
  .rcases h2 q hq with z|z
   .split at z
    .rcases qB z with z|z
     .exact .inl z
     .exact .inr<|Qn.mpr ⟨p,Q6,z.symm⟩
    .exact .inl z
   .exact .inr<|Q4 _ z
  .rw[S k];by_cases z:(k%65536%m).toNat=j
   .rw[Xe z,Xe z];by_cases w:p.1=k
    .subst w;have:aR r p.1=none:=by
      cases q:aR r p.1 with
      |none=>rfl
      |some v=>exact Xd (tJ q) I
     rw[this,bI M,Xe z,cM,Xe M];rfl
    .rw[bJ w];congr 1;split
     .rw[cM,Xc (Ne.symm w)]
     .rfl
   .rw[Xc z,Xc z];split
    .rename_i w
     rw[cM,Xc (λy=>z<|by rwa[y])]
    .rfl
def IC.mov{C:List (List<|Int×V)}{y:Kl}(h:IC H r A C sz)(s4:4<=sz)(ea:A[(k%65536%sz).toNat]?=some c)(I:C[(k%65536%sz).toNat]?=some y):
  IC (upd H c<|.dK<|bg<|bC y k v) r A (eT sz C (k,v)) sz:=by
 have e:eT sz C (k,v)=C.set (k%65536%sz).toNat (bC y k v):=by
  unfold eT;rw[Zb];show C.set (k%65536%sz).toNat (bC (C[(k%65536%sz).toNat]?.getD []) k v)=_;rw[I];rfl
 rw[e];let{S,U,O}:=ni (k:=k) s4;refine h.set ea (wR<|h.ndk _ _ I) λp hp=>?_;rcases qB hp with z|z
 .exact h.home _ _ I p z
 .rw[z,O]
section
variable{d:KF}
def IE.moved_some(e:st.nxt=some m):st.moved=st.mv:=by unfold IE.moved;rw[e]
def IE.moved_none(e:st.nxt=none):st.moved=0:=by unfold IE.moved;rw[e]
def IV.movVal(h:IV t H a st d)(z:IN st)(I:st.nxt=some m){kv:Kl}(O:d.C0[st.mv.toNat]?=some kv)(hk:k%65536%st.size<=st.mv){x:Kl}
  (ex:(kv.foldl (eT m) d.C1)[(k%65536%m).toNat]?=some x):aR x k=aR st.kv k:=by
 let{pm,v0,v1,_}:=z.nx m I;let{s4,_}:=dJ z.pw;let{s5,_}:=dJ pm;have r1:=h.row1;rw[I]at r1;let{n0,n1,n2}:=ni (k:=k) s5;let{m0,m1,m2}:=ni (k:=k) s4;let{y,S}:=cY (l:=d.C1) n0 (by rwa[r1.lc]);let{c1,U}:=cY (l:=d.A1) n0 (by rwa[r1.la]);let{x',e',_,hv}:=uc (m:=m) (h.row0.ndk _ _ O) S;rw[ex]at e';cases e';rw[hv k,Xe M];have hm:=IE.moved_some I;by_cases c:k%65536%st.size=st.mv
 .let{b0,Y}:=cY (l:=d.A0) m0 (by rwa[h.row0.la]);have Z:IsCell d st k b0 kv:= .inl {(),Y,by rwa[c]};have yn:aR y k=none:=by
   cases q:aR y k with
   |none=>rfl
   |some v=>
    let{p,hp,e}:=Qn.mp (tJ q);have:=h.new _ _ S p hp;rw[e]at this;lia
  rw[h.val k b0 kv Z,yn];simp
 .have Z:IsCell d st k c1 y:= .inr {m,I,(),U,S};have kn:aR kv k=none:=by
   cases q:aR kv k with
   |none=>rfl
   |some v=>
    let{p,hp,e}:=Qn.mp (tJ q);have:=h.row0.home _ _ O p hp;rw[e]at this;lia
  rw[kn,h.val k c1 y Z];rfl
def c7{l:List α}{x y:α}(e:(l.set i x)[j]?=some y):(i=j/\y=x)\/(i≠j/\l[j]?=some y):=by
 rw[Qr]at e;by_cases z:i=j
 .rw[Xe z]at e;split at e
  .cases e;exact .inl ⟨z,M⟩
  .cases e
 .rw[Xc z]at e;exact .inr ⟨z,e⟩
def IV.one(h:IV t H a st d)(z:IN st)(Y:st.nxt=some m){kv:Kl}(ek:d.C0[st.mv.toNat]?=some kv){b':B'}(nl:st.mv+1≠st.size)
  (ha:H' a=some (.ins t.ba dx<|JK d.tb (st.mv+1) d.n)) (ht:H' d.tb=H d.tb) (h0:H' d.r0=some (.lst<|(d.A0.set st.mv.toNat b').map V.ref)) (hb:H' b'=some (.dK [])) (hF:¬JO a st d b')
  (hA:∀(j:Nat) b,d.A0[j]?=some b->j≠st.mv.toNat->H' b=H b) (hr:IC H' d.r1 d.A1 (kv.foldl (eT m) d.C1) m):
  IV t H' a st.one {d with A0:=d.A0.set st.mv.toNat b',C0:=d.C0.set st.mv.toNat [],C1:=kv.foldl (eT m) d.C1}:=by
 let{pm,v0,v1,_}:=z.nx m Y;have a1:st.one={st with mv:=st.mv+1}:=by unfold IE.one;rw[Y];exact Xc nl
 have I:({st with mv:=st.mv+1}:IE).moved=st.mv+1:=IE.moved_some (st:={st with mv:=st.mv+1}) Y;have hm:=IE.moved_some Y;have a2:b'∉d.A0:=λq=>hF (.inr<|.inr<|.inr<|.inl q);have a3:b'∉d.A1:=λq=>hF (.inr<|.inr<|.inr<|.inr<|.inr q);rw[a1];have r1:=h.row1;rw[Y]at r1;refine{{dx,by rwa[I]},by rw[ht];exact h.tbl,{h0,by rw[QE];exact h.row0.la,by rw[QE];exact h.row0.lc,λj b x Z e2=>?_,λj x e=>?_,λi j b Z e2=>?_,λj x e p hp=>?_},?_,λb a4 hb1=>?_,h.tr,h.tr1,λj x e lt=>?_,λj x e p hp=>?_,λk c x ic=>?_}
 .rcases c7 Z with⟨q,rfl⟩|⟨q,Z⟩
  .rcases c7 e2 with⟨_,rfl⟩|⟨q2,_⟩
   .exact hb
   .exact Xd q q2
  .rcases c7 e2 with⟨q2,_⟩|⟨_,e2⟩
   .exact Xd q2 q
   .rw[hA j b Z (Ne.symm q)];exact h.row0.cell j b x Z e2
 .rcases c7 e with⟨_,rfl⟩|⟨_,e⟩
  .exact Zc
  .exact h.row0.ndk j x e
 .have Z:(d.A0.set st.mv.toNat b')[i]?=some b:=Z;have e2:(d.A0.set st.mv.toNat b')[j]?=some b:=e2;rcases c7 Z with⟨q,y1⟩|⟨q,S⟩<;>rcases c7 e2 with⟨q2,y2⟩|⟨q2,O⟩
  .exact q.symm.trans q2
  .rw[y1]at O;exact Xd (Q2 O) a2
  .rw[y2]at S;exact Xd (Q2 S) a2
  .exact h.row0.inj i j b S O
 .rcases c7 e with⟨_,rfl⟩|⟨_,e⟩
  .cases hp
  .exact h.row0.home j x e p hp
 .show match st.nxt with|none=>_|some m=>_
  rwa[Y]
 .let{j,hj,e}:=QO (show b∈d.A0.set st.mv.toNat b' from a4);rcases c7 (Q7.mpr ⟨hj,e⟩)with⟨_,rfl⟩|⟨_,e⟩
  .exact a3 hb1
  .exact h.dis b (Q2 e) hb1
 .rw[I]at lt;rcases c7 e with⟨_,rfl⟩|⟨q,e⟩
  .rfl
  .exact h.old j x e ()
 .rw[I];show p.1%65536%st.size<st.mv+1;obtain⟨y,ey⟩:∃y,d.C1[j]?=some y:=by
   have hj:j<(kv.foldl (eT m) d.C1).length:=(Q7.mp e).1;rw[xZ]at hj;exact{_,Qb hj}
  let{x',e',a0,_}:=uc (m:=m) (h.row0.ndk _ _ ek) ey;have e:(kv.foldl (eT m) d.C1)[j]?=some x:=e;rw[e]at e';cases e';rcases a0 p hp with q|q
  .have:=h.new j y ey p q;lia
  .let{p',a0,e3}:=Qn.mp q;have:=h.row0.home _ _ ek p' a0;rw[e3]at this;lia
 .show aR x k=aR st.kv k;rcases ic with⟨g0,S,O⟩|⟨m',U,g0,S,O⟩
  .rw[I]at g0;have g0:st.mv+1<=k%65536%st.size:=g0;have S:(d.A0.set st.mv.toNat b')[(k%65536%st.size).toNat]?=some c:=S;have O:(d.C0.set st.mv.toNat [])[(k%65536%st.size).toNat]?=some x:=O;rcases c7 S with⟨q,_⟩|⟨_,S⟩
   .lia
   .rcases c7 O with⟨q,_⟩|⟨_,O⟩
    .lia
    .exact h.val k c x<|.inl {(),S,O}
  .rw[I]at g0;have U:st.nxt=some m':=U;rw[Y]at U;cases U;have g0:k%65536%st.size<st.mv+1:=g0;exact h.movVal z Y ek () O
def IV.last(h:IV t H a st d)(z:IN st)(U:st.nxt=some m){kv:Kl}(Y:d.C0[st.mv.toNat]?=some kv){tb':B'}(l:st.mv+1=st.size)
  (ha:H' a=some (.ins t.ba dx<|JK tb' 0 d.n)) (Z:H' tb'=some (.lst [.ref d.r1])) (hn:tb'≠d.r1) (hr:IC H' d.r1 d.A1 (kv.foldl (eT m) d.C1) m):
  IV t H' a st.one {tb',d.r1,d.r1,d.A1,[],kv.foldl (eT m) d.C1,[],d.n}:=by
 have I:st.one={st with size:=m,nxt:=none,mv:=0}:=by unfold IE.one;rw[U];exact Xe l
 let{s4,_}:=dJ z.pw;rw[I];refine{⟨dx,ha⟩,Z,hr,⟨M,M⟩,(λb _ q=>by cases q),hn,(λq=>by cases q),λj x e lt=>?_,(λj x e=>by simp at e),λk c x ic=>?_}
 .have lt:(j:Int)<0:=lt;lia
 .rcases ic with⟨g0,f1,O⟩|⟨m',S,_⟩
  .have O:(kv.foldl (eT m) d.C1)[(k%65536%m).toNat]?=some x:=O;let{m0,m1,m2}:=ni (k:=k) s4;exact h.movVal z U Y () O
  .cases S
def IV.begin(h:IV t H a st d)(en:st.nxt=none)(ha:H' a=H a)(ht:H' d.tb=some (.lst [.ref d.r0,.ref r]))(h0:∀b,b=d.r0\/b∈d.A0->H' b=H b)
  (hr:IC H' r A (List.replicate m.toNat []) m) (S:¬JO a st d r) (nA:∀b∈A,¬JO a st d b):IV t H' a {st with nxt:=some m,mv:=0} {d with r1:=r,A1:=A,C1:=List.replicate m.toNat []}:=by
 let{dx,U}:=h.obj;have Y:=IE.moved_none en;refine{{dx,by rw[ha];rw[Y]at U;exact U},ht,h.row0.frame h0,hr,λb q q2=>nA b q2<|.inr<|.inr<|.inr<|.inl q,h.tr,λ_=>{λq=>S<|.inr<|.inl q.symm,λq=>S<|.inr (.inr<|.inl q.symm)},λj x e lt=>?_,λj x e p hp=>?_,λk c x ic=>?_}
 .have lt:(j:Int)<0:=lt;lia
 .have:=QW (Q2 e);subst this;cases hp
 .rcases ic with⟨I,Z,O⟩|⟨m',a0,I,Z,O⟩
  .refine h.val k c x<|.inl {?_,Z,O};rw[Y];exact I
  .have I:k%65536%st.size<0:=I;have O:(List.replicate m.toNat ([]:Kl))[(k%65536%m').toNat]?=some x:=O;have:0<=k%65536%st.size:=by
    have z:(0:Int)<=st.size:=by rw[<-h.row0.la];lia
    rcases Int.lt_or_eq_of_le z with q|q
    .exact Qi _ ()
    .rw[<-q,Int.emod_zero];exact Qi _ (_)
   lia
def IV.fresh(ha:H a=some (.ins t.ba dx<|JK tb 0 0))(O:H tb=some (.lst [.ref r]))(S:IC H r A (List.replicate 4 []) 4)(n:tb≠r):IV t H a IE.new {tb,r,r,A,[],List.replicate 4 [],[],0}:=by
 refine{⟨dx,ha⟩,O,S,⟨M,M⟩,(λb _ q=>by cases q),n,(λq=>by cases q),λj x e lt=>?_,(λj x e=>by simp at e),λk c x U=>?_}
 .have lt:(j:Int)<0:=lt;lia
 .rcases U with⟨Y,Z,z⟩|⟨m',I,_⟩
  .have z:(List.replicate 4 ([]:Kl))[(k%65536%4).toNat]?=some x:=z;have:=QW (Q2 z);subst this;rfl
  .cases I
def IV.short(h:IV t H a st d)(z:IN st){kv:Kl}(Z:IsCell d st k c kv):kv.length<=st.kv.length:=by
 let{_,_,nd}:=h.at Z;have sub:∀x∈kv.map (·.1),x∈st.kv.map (·.1):=λx hx=>by
  let{p,hp,e}:=Qn.mp hx;subst e;refine mem_keys.mpr ?_;have hs:=Db hp;have:∃O,IsCell d st p.1 O kv:=by
   rcases Z with⟨g0,S,I⟩|⟨m,U,g0,S,I⟩
   .let{s4,_}:=dJ z.pw;let{m0,m1,m2}:=ni (k:=k) s4;have e:=h.row0.home _ _ I p hp;rw[m2]at e;exact{c,.inl {by rwa[e],by rw[e];exact S,by rw[e];exact I}}
   .let{pm,_}:=z.nx m U;let{s5,_}:=dJ pm;let{n0,n1,n2}:=ni (k:=k) s5;have r1:=h.row1;rw[U]at r1;have e:=r1.home _ _ I p hp;rw[n2]at e;exact{c,.inr {m,U,h.new _ _ I p hp,by rw[e];exact S,by rw[e];exact I}}
  let{O,Y}:=this;rwa[<-h.val p.1 O kv Y]
 have:=qw nd sub;rw[Q0,Q0]at this;exact this
end
theorem vy{m:Int}:∀{kv:Kl}{C:List (List<|Int×V)}{j:Nat}{x y:Kl},C[j]?=some y->(kv.foldl (eT m) C)[j]?=some x->x.length<=y.length+kv.length
 | [],C,j,x,y,e,f=>by
  have f:C[j]?=some x:=f;rw[e]at f;cases f;exact Qc _
 |p::r,C,j,x,y,e,f=>by
  have h:=vy (m:=m) (vz (m:=m) (p:=p) e) f;have l:=dB y p.1 p.2;rw[Q3];split at h<;>lia
section
variable{d:KF}
def IV.short0(h:IV t H a st d)(z:IN st){kv:Kl}(e:d.C0[j]?=some kv):kv.length<=st.kv.length:=by
 cases kv with
 |nil=>exact Qy _
 |cons p r=>
  have hp:=h.row0.home j _ e p Q6;have S:¬(j:Int)<st.moved:=λq=>by have:=h.old j _ e q;cases this
  have I:(p.1%65536%st.size).toNat=j:=();have O:j<d.A0.length:=by
   have:=h.row0.la;have:=h.row0.lc;have:=(Q7.mp e).1;lia
  exact h.short z (k:=p.1) (c:=d.A0[j])<|.inl {(),by rw[I];exact Qb O,by rwa[I]}
def IV.short1(h:IV t H a st d)(z:IN st)(I:st.nxt=some m){kv:Kl}(e:d.C1[j]?=some kv):kv.length<=st.kv.length:=by
 have r1:=h.row1;rw[I]at r1;cases kv with
 |nil=>exact Qy _
 |cons p r=>
  have hp:=r1.home j _ e p Q6;have S:=h.new j _ e p Q6;have O:(p.1%65536%m).toNat=j:=();have U:j<d.A1.length:=by
   have:=r1.la;have:=r1.lc;have:=(Q7.mp e).1;lia
  exact h.short z (k:=p.1) (c:=d.A1[j])<|.inr {m,I,S,by rw[O];exact Qb U,by rwa[O]}
end
def IN.new:IN IE.new:={(_),λm e=>by cases e}
def IN.kv{kvs:Kl}(z:IN st):IN {st with kv:=kvs}:=⟨z.pw,z.nx⟩
set_option tactic.hygienic true in
def IN.one(z:IN st):IN st.one:=by
 unfold IE.one;cases e:st.nxt with
 |none=>exact z
 |some m=>
  let{I,S,U,O}:=z.nx m e;show IN (if _ then _ else _);split
  .exact{I,λm' q=>by cases q}
  .rename_i c
   refine{z.pw,λm' q=>?_};have q:some m=some m':=q;cases q;exact{I,by show 0<=st.mv+1;lia,by show st.mv+1<st.size;lia,O}
def GZ{x:Int}(h:x∈([4,8,16,32,64,128,256]:List Int))(c:x<256):2*x∈([4,8,16,32,64,128,256]:Kk):=by
 rcases lR h with rfl|rfl|rfl|rfl|rfl|rfl|rfl<;>first|decide|exact Xd c (_)
def Er{x:Int}(h:x∈([4,8,16,32,64,128,256]:List Int))(c:4<x):x/2∈([4,8,16,32,64,128,256]:Kk)/\2*(x/2)=x:=by
 rcases lR h with rfl|rfl|rfl|rfl|rfl|rfl|rfl<;>first|decide|exact Xd c (_)
def Ep{x:Int}(h:x∈([4,8,16,32,64,128,256]:List Int)):0<x:=by
 rcases lR h with rfl|rfl|rfl|rfl|rfl|rfl|rfl<;>decide
set_option tactic.hygienic true in
def IN.three(z:IN st):IN st.three:=by
 unfold IE.three;cases e:st.nxt with
 |some m=>exact z
 |none=>
  show IN (if _ then _ else _);split
  .rename_i c
   refine{z.pw,λm' q=>?_};cases q;exact{GZ z.pw c.2,ZQ _,Ep z.pw,.inl M}
  .split
   .rename_i c
    refine{z.pw,λm' q=>?_};cases q;exact{(Er z.pw c.2).1,ZQ _,Ep z.pw,.inr (Er z.pw c.2).2}
   .exact z
def JR(_K:J5)(t:II)(H:Hp)(a:B')(F:Kh)(st:IE):Prop:=
 ∃d,IV t H a st d/\(∀b,F b↔JO a st d b)/\d.n=(st.kv.length:Int)/\(st.kv.map (·.1)).Nodup/\IN st
def JR.ins(h:JR K t H a F st):∃dx fs,H a=some (.ins t.ba dx fs)/\∀m,NoM m->fs.lookup m=none:=by
 let{d,hb,_}:=h;let{dx,z}:=hb.obj;exact{dx,_,z,λm I=>El I}
def JR.dom(h:JR K t H a F st)(hb:F b):∃o,H b=some o:=by
 let{d,h1,h2,_}:=h;exact h1.dom<|(h2 b).mp hb
def JR.frame(h:JR K t H a F st)(f:∀b,F b->H' b=H b):JR K t H' a F st:=by
 let{d,h1,h2,z}:=h;exact{d,h1.frame λb hb=>f b<|(h2 b).mpr hb,h2,z}
def JR.same(h:JR K t H a F st)(s:HU H H'):JR K t H' a F st:=h.frame λb hb=>by
 let{o,e}:=h.dom hb;rw[e];exact s b o e
def JR.out(h:JR K t H a F st)(e:H p=none):¬F p:=λz=>by
 let{o,q}:=h.dom z;rw[q]at e;cases e
def RsF(K:J5)(t:II)(a:B')(F:Kh)(st:IE)(H:Hp)(C:B')(fs:Ks)(E:XK):Prop:=
 ∀(ea:B')(od:Kg)(H':Hp)(F':Kh),J8 H' ea od C fs->JR K t H' a F' st->Fr F F' H H'->E (.ref ea) od H'
def pj(K:J5)(t:II):Sp:=λvs H Q _=>∃(a dx:B'),vs=[.ref a]/\H a=some (.ins t.ba dx [])/\H dx=some (.own a)/\∀H' F,JR K t H' a F IE.new->Fr (λb=>b=a\/b=dx) F H H'->Q .non H'
def rg(K:J5)(t:II):Sp:=λvs H Q _=>∃(a:B')(k i:Int)(F:Kh)(st:IE),vs=[.ref a,.int k,.int i]/\JR K t H a F st/\0<=k/\st.kv.length<4096/\
 ∀H' F',JR K t H' a F' (st.put k<|.int i)->Fr F F' H H'->Q .non H'
def rj(K:J5)(t:II):Sp:=λvs H Q E=>∃(a:B')(k:Int)(F:Kh)(st:IE),vs=[.ref a,.int k]/\JR K t H a F st/\0<=k/\
 (∀v,aR st.kv k=some v->∀H' F',JR K t H' a F' st->Fr F F' H H'->Q v H')/\(aR st.kv k=none->RsF K t a F st H t.bM [(ci,.int k)] E)
def rh(K:J5)(t:II):Sp:=λvs H Q _=>∃(a:B')(k:Int)(F:Kh)(st:IE),vs=[.ref a,.int k]/\JR K t H a F st/\0<=k/\
 ∀H' F',JR K t H' a F' st->Fr F F' H H'->Q (.bl (aR st.kv k).isSome) H'
def pf(K:J5)(t:II):Sp:=λvs H Q _=>∃(a:B')(F:Kh)(st:IE),vs=[.ref a]/\JR K t H a F st/\∀H' F',JR K t H' a F' st->Fr F F' H H'->Q (.int st.kv.length) H'
def cV(l:Kk):Prop:=l.Pairwise (· < ·)
structure Ip(ls:La):Prop where
 ne:∀l∈ls,l≠[]
 le:∀l∈ls,l.length<=8
 nb:∀(i:Nat)(x y:Kk),ls[i]?=some x->ls[i+1]?=some y->5<=x.length+y.length
 up:cV ls.flatten
def Ip.nil:Ip []:={(λ_ h=>by cases h),(λ_ h=>by cases h),(λi x y e=>by simp at e),XB}
def FX(e:ls[i]?=some x):ls=ls.take i++x::ls.drop (i+1):=by
 let{h,e}:=Q7.mp e;rw[<-e,<-List.drop_eq_getElem_cons h,QF]
def j8(e:ls[i]?=some x):ls.flatten=(ls.take i).flatten++(x++(ls.drop<|i+1).flatten):=by
 conv=>lhs;rw[FX e]
 rw[Zi,Zq]
def Jm{a b c:Kk}:cV (a++(b++c))↔cV a/\cV b/\cV c/\(∀x∈a,∀y∈b,x<y)/\(∀x∈a,∀y∈c,x<y)/\∀x∈b,∀y∈c,x<y:=by
 unfold cV;rw[QU,QU];constructor
 .rintro ⟨h1,⟨h2,O,S⟩,I⟩;exact{h1,h2,O,λx hx y hy=>I x hx y<|Qu _ hy,λx hx y hy=>I x hx y<|Qj _ hy,S}
 .rintro ⟨h1,h2,O,S,I,U⟩;refine{h1,⟨h2,O,U⟩,λx hx y hy=>?_};rcases Qd.mp hy with z|z
  .exact S x hx y z
  .exact I x hx y z
structure Ib(ls:La)(k:Int)(i:Nat):Prop where
 le:i<=ls.length
 lo:∀(j:Nat)(x:Kk),j<i->ls[j]?=some x->∀y∈x,y<k
 hi:∀x,ls[i]?=some x->∃y∈x,k<=y
def uN{y:Int}(h:y∈(ls.take i).flatten):∃(j:Nat)(x:Kk),j<i/\ls[j]?=some x/\y∈x:=by
 let{x,hx,hy}:=X3.mp h;let{j,z,e}:=QO hx;rw[Qq]at z;rw[List.getElem_take]at e;exact{j,x,(),Q7.mpr {(),e},hy}
def Ib.ahead(h:Ib ls k i):∀y∈(ls.take i).flatten,y<k:=λy hy=>by
 let{j,x,z,e,hx}:=uN hy;exact h.lo j x z e y hx
def Ib.behind(o:Ip ls)(h:Ib ls k i):∀y∈(ls.drop<|i+1).flatten,k<y:=λy hy=>by
 cases e:ls[i]? with
 |none=>
  have:ls.length<=i:=List.getElem?_eq_none_iff.mp e;rw[ZJ ()]at hy;cases hy
 |some x=>
  let{z,hz,I}:=h.hi x e;have up:=o.up;rw[j8 e]at up;have:=(Jm.mp up).2.2.2.2.2 z hz y hy;lia
def Ib.mem(o:Ip ls)(h:Ib ls k i):k∈ls.flatten↔∃x,ls[i]?=some x/\k∈x:=by
 constructor
 .intro hk;cases e:ls[i]? with
  |none=>
   have l:ls.length<=i:=List.getElem?_eq_none_iff.mp e;have:ls.take i=ls:=Qt l;have:=h.ahead k (by rwa[this]);lia
  |some x=>
   rw[j8 e]at hk;rcases Qd.mp hk with z|z
   .have:=h.ahead k z;lia
   .rcases Qd.mp z with z|z
    .exact⟨x,M,z⟩
    .have:=h.behind o k z;lia
 .rintro ⟨x,e,hk⟩;exact X3.mpr {x,Q2 e,hk}
theorem vU:∀{l:Kk}{k:Int},cV l->k∉l->(∀x∈l.take (l.filter<|λz=>decide (z<k)).length,x<k)/\∀x∈l.drop (l.filter<|λz=>decide (z<k)).length,k<x
 | [],k,_,_=>{λx h=>by simp at h,λx h=>by simp at h}
 |a::r,k,up,nk=>by
  let{h1,h2}:=Zz.mp up;have I:k∉r:=λz=>nk (Q4 _ z);have U:a≠k:=λz=>nk (by rw[z];exact Q6);by_cases c:a<k
  .let{O,S}:=vU h2 I;rw[List.filter_cons,Xe (by simpa using c),Q3,List.take_succ_cons,List.drop_succ_cons];refine{λx hx=>?_,S};rcases Qa.mp hx with rfl|hx
   .exact c
   .exact O x hx
  .have:(a::r).filter (λz=>decide (z<k))=[]:=by
    rw[List.filter_eq_nil_iff];intro x hx;rcases Qa.mp hx with rfl|hx
    .simpa using c
    .have:=h1 x hx;simp;lia
   rw[this];refine{λx hx=>by simp at hx,λx hx=>?_};have hx:x∈a::r:=by simpa using hx
   rcases Qa.mp hx with rfl|hx
   .lia
   .have:=h1 x hx;lia
noncomputable def eM(l:Kk)(k:Int):List Int:=l.take (l.filter<|λz=>decide (z<k)).length++k::l.drop (l.filter<|λz=>decide (z<k)).length
def Bi{l:Kk}:(eM l k).length=l.length+1:=by
 have h:=QT (λz=>decide (z<k)) l;unfold eM;rw[Q5,Q3,Qq,QA];lia
def Jb{l:Kk}{x:Int}:x∈eM l k↔x=k\/x∈l:=by
 unfold eM;rw[Qd,Qa];have:x∈l↔x∈l.take (l.filter<|λz=>decide (z<k)).length\/x∈l.drop (l.filter<|λz=>decide (z<k)).length:=by
  rw[<-Qd,QF]
 rw[this];constructor
 .rintro (h|h|h)
  .exact .inr<|.inl h
  .exact .inl h
  .exact .inr<|.inr h
 .rintro (h|h|h)
  .exact .inr<|.inl h
  .exact .inl h
  .exact .inr<|.inr h
def zc{l:Kk}(up:cV l)(O:k∉l):cV (eM l k):=by
 let{h1,h2}:=vU up O;have I:cV (l.take (l.filter<|λz=>decide (z<k)).length++l.drop (l.filter<|λz=>decide (z<k)).length):=by rwa[QF]
 let{S,U,Y}:=QU.mp I;unfold eM;refine QU.mpr {S,Zz.mpr ⟨h2,U⟩,λx hx y hy=>?_};rcases Qa.mp hy with rfl|hy
 .exact h1 x hx
 .exact Y x hx y hy
structure KC(ls:La)(k:Int)(i:Nat)(x:Kk):Prop where
 at_:ls[i]?=some x
 lo:∀y∈(ls.take i).flatten,y<k
 hi:∀y∈(ls.drop<|i+1).flatten,k<y
def Ib.add(o:Ip ls)(h:Ib ls k i)(ne:ls≠[]):∃x,KC ls k (min i<|ls.length-1) x:=by
 have hl:0<ls.length:=QB.mpr ne;by_cases c:i<ls.length
 .have:min i (ls.length-1)=i:=();rw[this];exact{ls[i],Qb c,h.ahead,h.behind o}
 .have I:=h.le;have:min i (ls.length-1)=ls.length-1:=();rw[this];have z:ls.length-1<ls.length:=();refine{ls[ls.length-1],Qb z,λy hy=>?_,λy hy=>?_}
  .let{j,x,O,e,hx}:=uN hy;exact h.lo j x () e y hx
  .rw[ZJ ()]at hy;cases hy
def xI(e:ls[i]?=some x):ls.set i y=ls.take i++y::ls.drop (i+1):=by
 have hi:=(Q7.mp e).1;rw[ZZ,Xe hi]
def uW(e:ls[i]?=some x):(ls.set i y).flatten=(ls.take i).flatten++(y++(ls.drop<|i+1).flatten):=by
 rw[xI e,Zi,Zq]
def KC.set(o:Ip ls)(h:KC ls k i x)(I:k∉ls.flatten):cV (ls.set i<|eM x k).flatten/\∀z,z∈(ls.set i<|eM x k).flatten↔z=k\/z∈ls.flatten:=by
 have up:=o.up;rw[j8 h.at_]at up I;let{O,S,U,Y,Z,u6}:=Jm.mp up;have nx:k∉x:=λz=>I (Qj _<|Qu _ z);rw[uW h.at_,j8 h.at_];refine{Jm.mpr {O,zc S nx,U,λa ha b hb=>?_,Z,λa ha b hb=>?_},λz=>?_}
 .rcases Jb.mp hb with rfl|hb
  .exact h.lo a ha
  .exact Y a ha b hb
 .rcases Jb.mp ha with rfl|ha
  .exact h.hi b hb
  .exact u6 a ha b hb
 .rw[Qd,Qd,Qd,Qd,Jb];constructor
  .rintro (h|(h|h)|h)
   .exact .inr<|.inl h
   .exact .inl h
   .exact .inr<|.inr (.inl h)
   .exact .inr<|.inr (.inr h)
  .rintro (h|h|h|h)
   .exact .inr<|.inl (.inl h)
   .exact .inl h
   .exact .inr<|.inl (.inr h)
   .exact .inr<|.inr h
def uo{z:Kk}(e:ls[i]?=some x)(f:(ls.set i y)[j]?=some z):(i=j/\z=y)\/(i≠j/\ls[j]?=some z):=by
 rw[Qr]at f;by_cases c:i=j
 .rw[Xe c]at f;split at f
  .cases f;exact .inl ⟨c,M⟩
  .cases f
 .rw[Xc c]at f;exact .inr ⟨c,f⟩
def mem_set{z:Kk}(e:ls[i]?=some x)(h:z∈ls.set i y):z=y\/z∈ls:=by
 let{j,I,O}:=QO h;rcases uo e (Q7.mpr ⟨I,O⟩)with⟨_,q⟩|⟨_,q⟩
 .exact .inl q
 .exact .inr<|Q2 q
def Ip.grown(o:Ip ls)(e:ls[i]?=some x)(l1:x.length<=y.length)(l2:y.length<=8)(up:cV (ls.set i y).flatten):Ip (ls.set i y):=by
 have hx:=o.ne x (Q2 e);have px:0<x.length:=QB.mpr hx;refine{λl hl=>?_,λl hl=>?_,λj a b f g=>?_,up}
 .rcases mem_set e hl with rfl|hl
  .exact ZC ()
  .exact o.ne l hl
 .rcases mem_set e hl with rfl|hl
  .exact l2
  .exact o.le l hl
 .rcases uo e f with⟨c,h1⟩|⟨c,z⟩<;>rcases uo e g with⟨I,h2⟩|⟨I,O⟩
  .lia
  .subst c;have:=o.nb i x b e O;rw[h1];lia
  .rw[I]at e;have:=o.nb j a x z e;rw[h2];lia
  .exact o.nb j a b z O
set_option tactic.hygienic true in
def Ip.parted{a b:Kk}(o:Ip ls)(e:ls[i]?=some x)(U:a.length=4)(Y:b.length=5)(up:cV (ls.set i<|a++b).flatten):
  Ip ((ls.set i a).take (i+1)++b::(ls.set i a).drop (i+1))/\((ls.set i a).take (i+1)++b::(ls.set i a).drop (i+1)).flatten=(ls.set i<|a++b).flatten:=by
 have hi:=(Q7.mp e).1;have lt:(ls.take i).length=i:=by rw[Qq];lia
 have S:(ls.set i a).take (i+1)++b::(ls.set i a).drop (i+1)=ls.take i++a::b::ls.drop (i+1):=by
  rw[xI (y:=a) e];have h1:(ls.take i++a::ls.drop (i+1)).take (i+1)=ls.take i++ [a]:=by
   rw[List.take_append,lt,Qt ()];have:i+1-i=1:=();rw[this];rfl
  have h2:(ls.take i++a::ls.drop (i+1)).drop (i+1)=ls.drop (i+1):=by
   rw[List.drop_append,lt,ZJ ()];have:i+1-i=1:=();rw[this];rfl
  rw[h1,h2,QV];rfl
 have e2:(ls.take i++a::b::ls.drop (i+1)).flatten=(ls.set i<|a++b).flatten:=by
  rw[uW e,Zi,Zq,Zq,QV]
 rw[S];refine{{λl hl=>?_,λl hl=>?_,λj p q f g=>?_,by rwa[e2]},e2}
 .rcases Qd.mp hl with h|h
  .exact o.ne l<|Zd h
  .rcases Qa.mp h with rfl|h
   .exact ZC ()
   .rcases Qa.mp h with rfl|h
    .exact ZC ()
    .exact o.ne l<|Ze h
 .rcases Qd.mp hl with h|h
  .exact o.le l<|Zd h
  .rcases Qa.mp h with rfl|h
   .lia
   .rcases Qa.mp h with rfl|h
    .lia
    .exact o.le l<|Ze h
 .have look:∀(j:Nat)(p:Kk),(ls.take i++a::b::ls.drop (i+1))[j]?=some p->(j<i/\ls[j]?=some p)\/(j=i/\p=a)\/(j=i+1/\p=b)\/(i+2<=j/\ls[j-1]?=some p):=λj p f=>by
   rw[ZR,lt]at f;split at f
   .rename_i c
    rw[List.getElem?_take,Xe c]at f;exact .inl ⟨c,f⟩
   .rename_i c
    rcases(show j=i\/j=i+1\/i+2<=j by lia)with rfl|rfl|h
    .have:j-j=0:=();rw[this]at f;cases f;exact .inr<|.inl ⟨M,M⟩
    .have:i+1-i=1:=();rw[this]at f;cases f;exact .inr<|.inr (.inl ⟨M,M⟩)
    .obtain⟨n,rfl⟩:∃n,j=i+2+n:={j-(i+2),()};have:i+2+n-i=n+1+1:=();rw[this,Z0,Z0,ZY]at f;refine .inr<|.inr (.inr {h,?_});have:i+2+n-1=i+1+n:=();rw[this];exact f
  have pos:∀(j:Nat)(p:Kk),ls[j]?=some p->1<=p.length:=λj p f=>QB.mpr (o.ne p<|Q2 f);rcases look j p f with⟨c,z⟩|⟨c,h1⟩|⟨c,h1⟩|⟨c,z⟩<;>rcases look (j+1) q g with⟨O,I⟩|⟨O,h2⟩|⟨O,h2⟩|⟨O,I⟩<;>(try rw[h1])<;>(try rw[h2])<;>(try lia)
  .exact o.nb j p q z I
  .have:=pos j p z;lia
  .have:j+1-1=j-1+1:=();rw[this]at I;exact o.nb (j-1) p q z I
def lvF(L:B'):List (Str×V):=[(kt,.ref L)]
def f9:(lvF L).lookup (kt:Str)=some (.ref L):=by
 have hb:((kt:Str)==(kt:Str))=true:=Xu.mpr M;unfold lvF;simp only[List.lookup,hb]
def Ew{m:Str}(h:m≠(kt:Str)):(lvF L).lookup m=none:=by
 have hb:(m==(kt:Str))=false:=Xq.mpr h;unfold lvF;simp only[List.lookup,hb]
structure JL(t:II)(H:Hp)(a L:B')(A:Km)(ls:La):Prop where
 obj:∃dx,H a=some (.ins t.bX dx<|lvF L)
 lst:H L=some (.lst<|A.map V.ref)
 len:A.length=ls.length
 leaf:∀(j:Nat)(b:B')(l:Kk),A[j]?=some b->ls[j]?=some l->H b=some (.lst<|l.map V.int)
 inj:∀(i j:Nat)(b:B'),A[i]?=some b->A[j]?=some b->i=j
 nL:L∉A
def Jq(a L:B')(A:Km):Addr->Prop:=λb=>b=a\/b=L\/b∈A
def JL.at(h:JL t H a L A ls)(e:ls[i]?=some x):∃c,A[i]?=some c/\H c=some (.lst<|x.map V.int):=by
 have hi:i<A.length:=by rw[h.len];exact(Q7.mp e).1
 exact{A[i],Qb hi,h.leaf i _ x (Qb hi) e}
def JL.has(h:JL t H a L A ls)(hb:b∈A):∃(j:Nat)(l:Kk),A[j]?=some b/\ls[j]?=some l/\H b=some (.lst<|l.map V.int):=by
 let{j,z,e}:=QO hb;have hc:j<ls.length:=by rwa[<-h.len]
 have I:A[j]?=some b:=by rw[Qb z,e]
 exact{j,ls[j],I,Qb hc,h.leaf j b _ I<|Qb hc}
def JL.frame(h:JL t H a L A ls)(f:∀b,Jq a L A b->H' b=H b):JL t H' a L A ls:=by
 let{dx,I}:=h.obj;exact{{dx,by rw[f a (.inl M)];exact I},by rw[f L (.inr<|.inl M)];exact h.lst,h.len,λj b l z e2=>by rw[f b (.inr<|.inr<|Q2 z)];exact h.leaf j b l z e2,h.inj,h.nL}
def JL.dom(h:JL t H a L A ls)(hb:Jq a L A b):∃o,H b=some o:=by
 let{dx,z}:=h.obj;rcases hb with rfl|rfl|hb
 .exact{_,z}
 .exact{_,h.lst}
 .let{_,_,_,_,q}:=h.has hb;exact{_,q}
def JL.same(h:JL t H a L A ls)(s:HU H H'):JL t H' a L A ls:=h.frame λb hb=>by
 let{o,e}:=h.dom hb;rw[e,s b o e]
def JL.out(h:JL t H a L A ls)(n:H p=none):¬Jq a L A p:=λz=>by
 let{o,e}:=h.dom z;rw[n]at e;cases e
def JL.write(h:JL t H a L A ls)(I:A[i]?=some c)(ex:ls[i]?=some x):JL t (upd H c<|.lst<|y.map V.int) a L A (ls.set i y):=by
 let{dx,S}:=h.obj;have hc:=h.leaf i c x I ex;have U:=Q2 I;refine{{dx,by rw[ah (cI S hc<|by intro z;cases z)];exact S},by rw[ah (λz=>h.nL<|by rwa[z])];exact h.lst,by rw[QE];exact h.len,λj b l O e2=>?_,h.inj,h.nL};rw[Qr]at e2;by_cases z:i=j
 .subst z;rw[I]at O;cases O;rw[Xe M]at e2;split at e2
  .cases e2;exact BB
  .cases e2
 .rw[Xc z]at e2;rw[ah (λy=>z<|h.inj i j c I<|by rwa[<-y])];exact h.leaf j b l O e2
def JL.swap(h:JL t H a L A ls){n:B'}(Z:A[i]?=some c)(ex:ls[i]?=some x)(U:H n=some (.lst<|y.map V.int))(O:¬Jq a L A n):JL t (upd H L<|.lst<|(A.set i n).map V.ref) a L (A.set i n) (ls.set i y):=by
 let{dx,S}:=h.obj;have nA:n∉A:=λz=>O (.inr<|.inr z);have nL:n≠L:=λz=>O (.inr<|.inl z);refine{{dx,by rw[ah (cI S h.lst<|by intro z;cases z)];exact S},BB,by rw[QE,QE];exact h.len,λj b l I e2=>?_,λj k b I e2=>?_,λz=>?_}
 .rw[Qr]at I e2;by_cases z:i=j
  .rw[Xe z]at I e2;split at I
   .cases I;split at e2
    .cases e2;rwa[ah nL]
    .cases e2
   .cases I
  .rw[Xc z]at I e2;rw[ah (λy=>h.nL<|by rw[<-y];exact Q2 I)];exact h.leaf j b l I e2
 .rw[Qr]at I e2;by_cases z:i=j
  .rw[Xe z]at I;split at I
   .cases I;by_cases w:i=k
    .exact z.symm.trans w
    .rw[Xc w]at e2;exact Xd (Q2 e2) nA
   .cases I
  .rw[Xc z]at I;by_cases w:i=k
   .rw[Xe w]at e2;split at e2
    .cases e2;exact Xd (Q2 I) nA
    .cases e2
   .rw[Xc w]at e2;exact h.inj j k b I e2
 .let{j,Y,e}:=QO z;have I:=Q7.mpr ⟨Y,e⟩;rw[Qr]at I;by_cases w:i=j
  .rw[Xe w]at I;split at I
   .cases I;exact nL M
   .cases I
  .rw[Xc w]at I;exact h.nL<|Q2 I
set_option tactic.hygienic true in
def IU{l:List α}{x y:α}(hi:i<=l.length)(e:(l.take i++x::l.drop i)[j]?=some y):(j<i/\l[j]?=some y)\/(j=i/\y=x)\/(i<j/\l[j-1]?=some y):=by
 have lt:(l.take i).length=i:=by rw[Qq];lia
 rw[ZR,lt]at e;split at e
 .rename_i c
  rw[List.getElem?_take,Xe c]at e;exact .inl ⟨c,e⟩
 .rename_i c
  rcases(show j=i\/i<j by lia)with rfl|h
  .have:j-j=0:=();rw[this]at e;cases e;exact .inr<|.inl ⟨M,M⟩
  .obtain⟨n,rfl⟩:∃n,j=i+1+n:={j-(i+1),()};have:i+1+n-i=n+1:=();rw[this,Z0,ZY]at e;have:i+1+n-1=i+n:=();exact .inr<|.inr {h,by rwa[this]}
def JL.insert(h:JL t H a L A ls){n:B'}(hi:i<=A.length)(hn:H n=some (.lst<|y.map V.int))(Z:¬Jq a L A n):
  JL t (upd H L<|.lst<|(A.take i++n::A.drop i).map V.ref) a L (A.take i++n::A.drop i) (ls.take i++y::ls.drop i):=by
 let{dx,ho}:=h.obj;have nA:n∉A:=λz=>Z (.inr<|.inr z);have nL:n≠L:=λz=>Z (.inr<|.inl z);have U:i<=ls.length:=by rwa[<-h.len]
 refine{{dx,by rwa[ah (cI ho h.lst<|by intro z;cases z)]},BB,?_,λj b l Y e2=>?_,λj k b Y e2=>?_,λz=>?_}
 .have:=h.len;rw[Q5,Q5,Q3,Q3,Qq,Qq,QA,QA];lia
 .rcases IU hi Y with⟨S,I⟩|⟨S,I⟩|⟨S,I⟩<;>rcases IU U e2 with⟨c2,O⟩|⟨c2,O⟩|⟨c2,O⟩<;>(try lia)
  .rw[ah (λy=>h.nL<|by rw[<-y];exact Q2 I)];exact h.leaf j b l I O
  .rwa[I,O,ah nL]
  .rw[ah (λy=>h.nL<|by rw[<-y];exact Q2 I)];exact h.leaf (j-1) b l I O
 .rcases IU hi Y with⟨S,I⟩|⟨S,I⟩|⟨S,I⟩<;>rcases IU hi e2 with⟨c2,O⟩|⟨c2,O⟩|⟨c2,O⟩
  .exact h.inj j k b I O
  .rw[O]at I;exact Xd (Q2 I) nA
  .have:=h.inj _ _ b I O;lia
  .rw[I]at O;exact Xd (Q2 O) nA
  .lia
  .rw[I]at O;exact Xd (Q2 O) nA
  .have:=h.inj _ _ b I O;lia
  .rw[O]at I;exact Xd (Q2 I) nA
  .have:=h.inj _ _ b I O;lia
 .rcases Qd.mp z with z|z
  .exact h.nL<|Zd z
  .rcases Qa.mp z with z|z
   .exact nL z.symm
   .exact h.nL<|Ze z
def sM(up:cV ls.flatten)(ex:ls[i]?=some x)(z:ls[j]?=some y)(h:i<j):∀p∈x,∀q∈y,p<q:=λp hp q hq=>by
 rw[j8 ex]at up;refine(Jm.mp up).2.2.2.2.2 p hp q<|X3.mpr {y,?_,hq};refine Q2 (i:=j-(i+1)) ?_;rw[ZY];have:i+1+(j-(i+1))=j:=();rwa[this]
def CH(up:cV ls.flatten)(ex:ls[i]?=some x):cV x:=by
 rw[j8 ex]at up;exact(Jm.mp up).2.1
def AY(up:cV x)(ne:x≠[]):∃m,x[x.length-1]?=some m/\m∈x/\∀y∈x,y<=m:=by
 have hl:=QB.mpr ne;have z:x.length-1<x.length:=();refine{x[x.length-1],Qb z,Zr z,λy hy=>?_};let{j,I,e}:=QO hy;rcases(show j=x.length-1\/j<x.length-1 by lia)with h|h
 .subst h;rw[e];exact ZQ _
 .have:=List.pairwise_iff_getElem.mp up j (x.length-1) I z h;rw[e]at this;lia
def JS(_K:J5)(t:II)(H:Hp)(a:B')(F:Kh)(ks:Kk):Prop:=∃L A ls,JL t H a L A ls/\Ip ls/\ls.flatten=ks/\∀b,F b↔Jq a L A b
def JS.ins(h:JS K t H a F ks):∃dx fs,H a=some (.ins t.bX dx fs)/\∀m,m≠(kt:Str)->fs.lookup m=none:=by
 let{L,A,ls,hb,_}:=h;let{dx,z}:=hb.obj;exact{dx,_,z,λm I=>Ew I}
def JS.dom(h:JS K t H a F ks)(hb:F b):∃o,H b=some o:=by
 let{L,A,ls,h1,_,_,h2}:=h;exact h1.dom<|(h2 b).mp hb
def JS.frame(h:JS K t H a F ks)(f:∀b,F b->H' b=H b):JS K t H' a F ks:=by
 let{L,A,ls,h1,z,I,h2}:=h;exact{L,A,ls,h1.frame λb hb=>f b<|(h2 b).mpr hb,z,I,h2}
def JS.same(h:JS K t H a F ks)(s:HU H H'):JS K t H' a F ks:=h.frame λb hb=>by
 let{o,e}:=h.dom hb;rw[e];exact s b o e
def JS.out(h:JS K t H a F ks)(e:H p=none):¬F p:=λz=>by
 let{o,q}:=h.dom z;rw[q]at e;cases e
def RsL(K:J5)(t:II)(a:B')(F:Kh)(ks:Kk)(H:Hp)(C:B')(fs:Ks)(E:XK):Prop:=
 ∀(ea:B')(od:Kg)(H':Hp)(F':Kh),J8 H' ea od C fs->JS K t H' a F' ks->Fr F F' H H'->E (.ref ea) od H'
def oa(K:J5)(t:II):Sp:=λvs H Q _=>∃(a dx:B'),vs=[.ref a]/\H a=some (.ins t.bX dx [])/\H dx=some (.own a)/\∀H' F,JS K t H' a F []->Fr (λb=>b=a\/b=dx) F H H'->Q .non H'
def pz(K:J5)(t:II):Sp:=λvs H Q _=>∃(a:B')(k:Int)(F:Kh)(ks:Kk),vs=[.ref a,.int k]/\JS K t H a F ks/\∀H' F',JS K t H' a F' ks->Fr F F' H H'->Q (.bl<|decide (k∈ks)) H'
def pA(K:J5)(t:II):Sp:=λvs H Q E=>∃(a:B')(k:Int)(F:Kh)(ks:Kk),vs=[.ref a,.int k]/\JS K t H a F ks/\ks.length<4096/\
 (k∉ks->∀H' F' ks',JS K t H' a F' ks'->(∀z,z∈ks'↔z=k\/z∈ks)->Fr F F' H H'->Q .non H')/\(k∈ks->RsL K t a F ks H t.de [(ci,.int k)] E)
def Ip.short(o:Ip ls):ls.length<=ls.flatten.length:=by
 have h:=o.ne;clear o
 induction ls with
 |nil=>exact Qc _
 |cons x r z=>
  have:=QB.mpr (h x Q6);have:=z λl hl=>h l (Q4 _ hl);rw[Zq,Q5,Q3];lia
def kS(K:J5)(t:II):Sp:=λvs H Q _=>∃(a:B')(k n:Int)(F:Kh)(ks:Kk),vs=[.ref a,.int k,.int n]/\JS K t H a F ks/\ks.length<4096/\0<=n/\
 ∀(H':Hp)(l:B'),HU H H'->H l=none->H' l=some (.lst<|((ks.filter λz=>decide (k<=z)).take n.toNat).map V.int)->Q (.ref l) H'
def Bs(h:0<=n):dZ xs none (some n)=xs.take n.toNat:=by
 unfold dZ HT.sIx;simp only[ZA,Nat.sub_zero];rw[Xc ()];rcases Nat.le_total n.toNat xs.length with c|c
 .rw[ZM c]
 .rw[Nat.min_eq_right c,Z3,Qt c]
def zg{I:Nat}(o:Ip ls)(h:Ib ls k I):∀z∈(ls.take I).flatten,¬k<=z:=λz hz=>by
 have:=h.ahead z hz;lia
structure DX(kd:Str)(fs:Ks)(a e:V):Prop where
 ki:fs.lookup ("kind":Str)=some (.str kd)
 at_:fs.lookup (ox:Str)=some a
 end_:fs.lookup (u0:Str)=some e
 wo:fs.lookup ("words":Str)=none
 ho:fs.lookup ("holds":Str)=none
def okS(a e:V):Prop:=∃i j,a= .int i/\e= .int j/\0<=i/\i<=j/\j<=65536
def okU(a e:V):Prop:=∃i,a= .int i/\0<=i/\(e= .non\/∃j,e= .int j/\i<=j)
def okD(a e:V):Prop:=∃j,e= .int j/\0<=j/\(a= .non\/∃i,a= .int i/\j<=i)
def D0(p:B')(H H':Hp):Prop:=∀b o,H b=some o->b≠p->H' b=some o
def RsB(p:B')(H:Hp)(C:B')(E:XK):Prop:=∀(ea:B')(od:Kg)(H':Hp),J8 H' ea od C []->D0 p H H'->E (.ref ea) od H'
def uQ:Sp:=λvs H Q _=>∃x,vs=[x]/\Sc x/\Q (.bl<|isW x) H
noncomputable def isF(lo:Int):V->Bool
 | .int i=>decide (lo<=i)|_=>false
def wB:Sp:=λvs H Q _=>∃x lo,vs=[x,.int lo]/\Sc x/\Q (.bl<|isF lo x) H
def fj(K:J5):Sp:=λvs H Q _=>∃(p C dx:B')(kd:Str)(a e:V),vs=[.ref p,.str kd,a,e]/\H p=some (.ins C dx [])/\Jc K C/\HR K C "kind"/\HR K C ox/\HR K C u0/\∀H' fs,D0 p H H'->H' p=some (.ins C dx fs)->DX kd fs a e->Q .non H'
def xH(C N:B')(kd:Str)(ok:V->V->Prop):Sp:=λvs H Q E=>∃(p dx:B')(a e:V),vs=[.ref p,a,e]/\H p=some (.ins C dx [])/\Sc a/\Sc e/\
 (ok a e->∀H' fs,D0 p H H'->H' p=some (.ins C dx fs)->DX kd fs a e->Q .non H')/\(¬ok a e->RsB p H N E)
def mR(t:II):Sp:=xH t.a7 t.aQ gr okS
def uS(t:II):Sp:=xH t.uv t.aQ "up" okU
def rA(t:II):Sp:=xH t.jk t.aQ "down" okD
def Ji(kd:Int)(a e:V):Prop:=(kd=0/\okS a e)\/(kd=1/\okU a e)\/(kd=2/\okD a e)
def tkC(t:II)(kd:Int):Addr:=if kd=0 then t.a7 else if kd=1 then t.uv else t.jk
noncomputable def Jx(kd:Int):Str:=if kd=0 then gr else if kd=1 then "up" else "down"
def sL{x:B'}(h1:H x=none)(h2:H dx=none)(k:D0 x (upd (upd H dx<|.own x) x<|.ins C dx []) H'):HU H H':=λb o q=>by
 refine k b o ?_<|aq q h1;rw[ah (aq q h1),ah (aq q h2)];exact q
def DY(t:II)(H:Hp)(p:B')(kd:Int)(a e:V):Prop:=∃(dx:B')(fs:Ks),H p=some (.ins (tkC t kd) dx fs)/\DX (Jx kd) fs a e
def Ji.kd{kd:Int}{a e:V}(h:Ji kd a e):kd=0\/kd=1\/kd=2:=by
 rcases h with⟨h,_⟩|⟨h,_⟩|⟨h,_⟩
 .exact .inl h
 .exact .inr<|.inl h
 .exact .inr<|.inr h
def Ji.s{a e:V}(h:Ji 0 a e):okS a e:=by
 rcases h with⟨_,h⟩|⟨h,_⟩|⟨h,_⟩
 .exact h
 .cases h
 .cases h
def Ji.u{a e:V}(h:Ji 1 a e):okU a e:=by
 rcases h with⟨h,_⟩|⟨_,h⟩|⟨h,_⟩
 .cases h
 .exact h
 .cases h
def Ji.d{a e:V}(h:Ji 2 a e):okD a e:=by
 rcases h with⟨h,_⟩|⟨h,_⟩|⟨_,h⟩
 .cases h
 .cases h
 .exact h
section
variable{P:Ki}{w:Kj}{mg:Kq}{base:Heap}
def wA:Sp:=λvs H Q _=>∃k:Int,vs=[.int k]/\Q (.int<|k%65536) H
def wx:Sp:=λvs H Q _=>∃k n:Int,vs=[.int k,.int n]/\0<n/\Q (.int<|k%65536%n) H
def wN(T:Txt K mg t w):D3 P w K mg base IQ 1 t.tF t.nK [ci] wA:=by
 let{I,z}:=T.g_PLACES;refine T.zF.okl wF λ_ _ _ s H vs Q E O h _=>?_;intro X;let{n,rfl,k}:=h;refine{_,(ax<|ay<|aD bw F3<|bL (v:= .int 65536) {_} z {_,M})
  ,?_}
 exact{_,M,_,_,M,M,(by show(0:Int)<65536;decide),k}
def qb(T:Txt K mg t w):D3 P w K mg base IQ 2 t.tD t.nI [ci,"size"] wx:=by
 refine T.nN.okl wE λ_ _ _ s H vs Q E z h _=>?_;intro X;let{n,m,rfl,I,k}:=h;refine{_,(ax<|ay<|aD bw (aI (wN T) z.mo {_} T.Gu T.zF.kp T.GA .nil aM (aa F3 ag)) HW)
  ,?_}
 exact{_,M,_,M,_,M,_,_,M,M,I,k}
def wC(K:J5):Sp:=λvs H Q _=>∃(e C:B')(bm:Kd)(x:V),vs=[.ref e,x]/\H e=some (XN e C none)/\I0 K C bm/\HR K C ci/\∀dx,H dx=none->Q .non (upd (upd H dx<|.xd [(ci,x)]) e<|XN e C<|some dx)
def pk(K:J5):Sp:=wC K
def pe(K:J5):Sp:=wC K
def ql(T:Txt K mg t w):D3 P w K mg base IQ 1 t.ia t.gW [aF,ci] (pk K):=by
 refine T.Ci.okl pN λ_ _ _ s H vs Q E O h _=>?_;intro X;let{e,C,bm,x,rfl,he,Y,z,k}:=h;refine ai (bu<|xU {_} T.mf T.lZ (aa F3<|aa ao ag))
   (aC (xO F3 HW M) ?_)
 intros
 exact{_,M,e,C,none,_,bm,M,(by show 1<=1000;decide),he,Y,_,M,_,M,e,C,bm,M,he,Y,z,λdx I=>k dx I}
def qi(T:Txt K mg t w):D3 P w K mg base IQ 1 t.hW t.gS [aF,ci] (pe K):=by
 refine T.Ce.okl pJ λ_ _ _ s H vs Q E O h _=>?_;intro X;let{e,C,bm,x,rfl,he,Y,z,k}:=h;refine ai (bu<|xU {_} T.mf T.lZ (aa F3<|aa ao ag))
   (aC (xO F3 HW M) ?_)
 intros
 exact{_,M,e,C,none,_,bm,M,(by show 1<=1000;decide),he,Y,_,M,_,M,e,C,bm,M,he,Y,z,λdx I=>k dx I}
def sN{E':XK}{x:V}(Y:I0 K C bm)(O:HR K C ci)(r:∀(ea:B')(od:Kg)(H':Hp),J8 H' ea od C [(ci,x)]->HU H H'->E (.ref ea) od H')(hi:J[i]?=some (some x)):
  mW K (zZ C (wC K) [] E'<|sJ (zY i) yz) E D J H:=by
 refine{x,hi,(by show 1<=1000;decide),λea z=>{ea,C,bm,x,M,BB,Y,O,λdx I=>{M,ea,C,some dx,bm,M,BB,Y,?_}}};rw[bS];have ne:dx≠ea:=(aq BB I).symm;have S:H dx=none:=by rw[ah ne]at I;exact I
 refine r ea (some dx) _ {BB,.inr {dx,M,by rw[ah ne,BB]}} λb o q=>?_;rw[ah (aq q z),ah (aq q S),ah (aq q z)];exact q
def yE{n:Nat}(h:n<=4096):n<sizeLine:=Zx h (_)
def tN:Sp:=λvs H Q _=>∃n:Int,vs=[.int n]/\0<=n/\n<=1000/\∀H' r A,HU H H'->H r=none->(∀b∈A,H b=none)->IC H' r A (List.replicate n.toNat []) n->Q (.ref r) H'
set_option tactic.hygienic true in
def lW(T:Txt K mg t w):D3 P w K mg base IQ 1 t.nW t.jM ["size"] tN:=by
 refine T.jW.okl tP λ_ _ _ s H vs Q E hr h _=>?_;intro X;let{n,rfl,n0,n1,q}:=h;refine{_,(ax<|ay<|tW M (ID.of (M':=["slot"]) (N:=["size"]) (N':=["size"]) (dsc:=aj fX) M M ∅) (m6 {_} T.tH (aa F3 ag))<|λ_ _ _ _ _=>iq)
  ,?_}
 refine{_,M,n,M,(),(),λD Z=>?_};refine xm (n:=n.toNat) (lo:=0) (λi ys H3=>HU H H3/\∃as:List Addr,ys=as.map V.ref/\as.length=i/\(∀b∈as,H b=none/\b≠D/\H3 b=some (.dK []))/\∀(x y:Nat)(b:B'),as[x]?=some b->as[y]?=some b->x=y)
  {ae Z,[],M,M,(λb hb=>by cases hb),λx y b e=>by simp at e} (λi ys H3 hi zw I=>?_) (λys H3 zw I=>?_)
 .let{s3,as,Y,el,hb,inj}:=zw;intro c S;have cD:c≠D:=(aq I S).symm;have O:c∉as:=λz=>by
   have:=(hb c z).2.2;rw[S]at this;cases this
  have nH:H c=none:=by
   cases e:H c with
   |none=>rfl
   |some o=>rw[s3 c o e]at S;cases S
  refine Ie.mk hi (by rw[ah cD.symm];exact I) (by rw[Y,Q0];exact bR ()) {fk (s3.trans<|ae S) Z,as++ [c],by rw[Y,Qf];rfl,by rw[Q5,el];rfl,λb a0=>?_,λx y b e1 e2=>?_}
  .rcases Qd.mp a0 with z|z
   .let{h1,h2,h3}:=hb b z;exact{h1,h2,by rwa[ah h2,ah (λw=>O<|by rw[<-w];exact z)]}
   .rw[Q9.mp z];exact{nH,cD,by rw[ah cD,BB]}
  .have U:∀x:Nat,(as++ [c])[x]?=some b->as[x]?=some b\/(x=as.length/\b=c):=λx e=>by
    rw[ZR]at e;split at e
    .exact .inl e
    .rename_i w
     have:x-as.length=0:=by
      rcases Zm (x-as.length)with z|z
      .exact z
      .rw[List.getElem?_eq_none (by simp;lia)]at e;cases e
     rw[this]at e;cases e;exact .inr {(),M}
   rcases U x e1 with f1|⟨f1,g1⟩<;>rcases U y e2 with f2|⟨f2,g2⟩
   .exact inj x y b f1 f2
   .subst g2;exact Xd (Q2 f1) O
   .subst g1;exact Xd (Q2 f2) O
   .lia
 .let{s3,as,Y,el,hb,inj}:=zw;refine q H3 D as s3 Z (λb z=>(hb b z).1) {by rw[I,Y],by rw[el];lia,by rw[QR];lia,λj b kv e1 e2=>?_,λj kv e=>?_,inj,λj kv e p hp=>?_}
  .rw[QW (Q2 e2)];exact(hb b<|Q2 e1).2.2
  .rw[QW (Q2 e)];exact Zc
  .rw[QW (Q2 e)]at hp;cases hp
def lN(t:II):Sp:=λvs H Q _=>∃(a:B')(k:Int)(st:IE)(d:KF),vs=[.ref a,.int k]/\IV t H a st d/\IN st/\∀c kv,IsCell d st k c kv->Q (.ref c) H
def kf(t:II):Sp:=λvs H Q _=>∃(a:B')(st:IE)(d:KF),vs=[.ref a]/\IV t H a st d/\IN st/\st.kv.length<4096/\∀H' d',IV t H' a st.one d'->d'.n=d.n->Fr (JO a st d) (JO a st.one d') H H'->Q .non H'
def kg(t:II):Sp:=λvs H Q _=>∃(a:B')(st:IE)(d:KF),vs=[.ref a]/\IV t H a st d/\IN st/\d.n=(st.kv.length:Int)/\∀H' d',IV t H' a st.three d'->d'.n=d.n->Fr (JO a st d) (JO a st.three d') H H'->Q .non H'
def ug{z:Int}(I:0<=z)(e:A[z.toNat]?=some c):JP (A.map V.ref) z=some (.ref c):=by
 let{j,rfl}:=QC I;refine cU ?_;rw[Qp];have e:A[j]?=some c:=e;rw[e];rfl
def dO(T:Txt K mg t w):D3 P w K mg base IQ 3 t.iF t.eF [aF,ci] (lN t):=by
 refine T.zG.okl lP λ_ _ _ s H vs Q E Y h _=>?_;intro X;let{a,k,st,d,rfl,hb,z,q}:=h;refine ai (IL 2<|aY aJ (aO F3 M) am<|λ_ _=>M)
   (ai (IL 3<|aI (qb T) Y.mo {_} T.sV T.nN.kp T.tx .nil aM (aa HW<|aa (aG aE {_} T.cz bF (aa IA ag)) ag))
   (ai (aS (aA xX IM (aO F3 M)<|aH _)
    (ax<|ay<|aY aJ IA IM<|λ_ _=>M)
    aB)
   (ai (IL 4<|aY aJ (aO F3 M) am<|λ_ _=>M)
   (aC (ay<|aY aJ Je (aI (qb T) Y.mo {_} T.sV T.nN.kp T.tx .nil aM (aa HW<|aa (aG aE {_} T.cz bF (aa Je ag)) ag))<|λ_ _=>M) ?_))))
 intros
 let{dx,O}:=hb.obj;let{s4,s5}:=dJ z.pw;let{S,Z,m2}:=ni (k:=k) s4;have t0:∃xs,H d.tb=some (.lst xs)/\JP xs 0=some (.ref d.r0):=by
  refine{_,hb.tbl,?_};cases st.nxt<;>rfl
 let{xs,hx,x0}:=t0;have a0:∀{Q':VK},Q' (.ref d.tb) H->tFld K (zY 0) "table" [some (.ref a),some (.int k),none,none,none] H Q':=λ{Q'} q=>{_,M,a,_,dx,_,_,M,O,T.aK,T.aX,jr,q};have la:((d.A0.map V.ref).length:Int)=st.size:=by rw[Q0];exact hb.row0.la
 refine{_,M,a,_,dx,_,_,M,O,T.aK,T.aX,jr,d.tb,_,_,_,M,M,HS.of hx,x0,?_};refine{_,M,_,M,d.r0,_,M,.inl<|HS.of hb.row0.lst,k,_,M,by rw[la];lia,?_};dsimp only;rw[la];refine{_,M,_,M,a,_,dx,_,_,M,O,T.aK,T.bP,uU,_,_,M,M,_,M,dD (λc=>?_)<|λc=>?_}
 .have c:=Xk c;let{x,I}:=cY (l:=d.A0) S (by rwa[hb.row0.la]);let{y,e2}:=cY (l:=d.C0) S (by rwa[hb.row0.lc]);exact{_,M,_,M,d.r0,_,_,_,M,M,HS.of hb.row0.lst,ug S I,q x y<|.inl ⟨c,I,e2⟩}
 .have c:¬st.moved<=k%65536%st.size:=λz=>c (Xg z);cases e:st.nxt with
  |none=>rw[IE.moved_none e]at c;exact Xd S c
  |some m=>
   have hm:=IE.moved_some e;let{pm,_}:=z.nx m e;let{s6,_}:=dJ pm;let{U,n1,n2}:=ni (k:=k) s6;have r1:=hb.row1;rw[e]at r1;have ht:=hb.tbl;rw[e]at ht;have lb:((d.A1.map V.ref).length:Int)=m:=by rw[Q0];exact r1.la
   let{x,I}:=cY (l:=d.A1) U (by rwa[r1.la]);let{y,e2}:=cY (l:=d.C1) U (by rwa[r1.lc]);refine{_,M,a,_,dx,_,_,M,O,T.aK,T.aX,jr,d.tb,_,_,_,M,M,HS.of ht,M,?_};refine{_,M,_,M,_,M,d.r1,_,M,.inl<|HS.of r1.lst,k,_,M,by rw[lb];lia,?_};dsimp only;rw[lb];exact{d.r1,_,_,_,M,M,HS.of r1.lst,ug U I,q x y<|.inr {m,e,(),I,e2}}
def dE{n:Nat}(h:n<=100000):n<sizeLine:=Zx h (_)
def FH{n:Nat}{z:Int}(I:0<=z)(h1:z<n):K5 n z=some z.toNat:=by unfold K5;rw[Xe I,Xe h1]
def y6{kv:Kl}{k:Key}(e:(bg kv)[i]?=some (k,v)):∃n:Int,k=Sum.inl n/\kv[i]?=some (n,v):=by
 unfold bg at e;rw[Qp]at e;cases q:kv[i]? with
 |none=>rw[q]at e;cases e
 |some p=>rw[q]at e;cases e;exact⟨p.1,M,M⟩
def zX{kv:Kl}{C:List (List<|Int×V)}{p:Int×V}(e:kv[i]?=some p):(kv.take<|i+1).foldl (eT m) C=eT m ((kv.take i).foldl (eT m) C) p:=by
 rw[QN,e,List.foldl_append];rfl
def ko(T:Txt K mg t w):D3 P w K mg base IQ 3 t.fP t.du [aF] (kf t):=by
 refine T.xB.okl kh λ_ _ _ s H vs Q E hr h _=>?_;intro X;let{a,st,d,rfl,hb,z,hl,q}:=h;refine ai (aS (aA bV (aG aE {_} T.cz bF (aa (aO F3 M) ag)) am<|aH _)
    (ax tR)
    aB)
   (ai (IL 1<|aY aJ (aO F3 M) am<|λ_ _=>M)
   (ai (IL 2<|aY aJ (aO F3 M) am<|λ_ _=>M)
   (cm (λx=>(CS (tS XA M (As<|wK PySem.F.plainAttrs_dict PySem.F.slot_dict_items PySem.F.type_dict_items AM<|aY aJ HW (aO F3 M)<|λ_ _=>M) (E8 M<|vf (pgn 3)<|vf (pgn 4) CV)
    x))) ?_)))
 refine aC (tT (jt hr) (aY aJ IA (aI (qb T) hr.mo {_} T.sV T.nN.kp T.tx .nil aM (aa IM<|aa (aG aE {_} T.cz bF (aa IA ag)) ag))<|λ_ _=>M) IM Je M) ?_
 intros
 refine ai (Ar iq<|At HW (aO F3 M) uV)
   (ai (m5 F3 am xg)
   (aC (aS (aA bV (aO F3 M) (aG aE {_} T.cz bF (aa HW ag))<|aH _)
    (ii (bx F3 (az<|aa IA ag) M)
    (ax<|bx F3 am M))
    aB) ?_))
 intros
 let{dx,ho}:=hb.obj;have ht:=hb.tbl;cases e:st.nxt with
 |none=>
  rw[e]at ht;refine{_,M,a,_,dx,_,_,M,ho,T.aK,T.aX,jr,d.tb,_,M,.inl<|HS.of ht,M,_,M,jL M ?_};have e1:st.one=st:=by unfold IE.one;rw[e]
  rw[e1]at q;exact q H d hb M Fr.refl
 |some m=>
  rw[e]at ht;refine{_,M,a,_,dx,_,_,M,ho,T.aK,T.aX,jr,d.tb,_,M,.inl<|HS.of ht,M,_,M,b6 (λz=>by cases z) ?_};refine{_,M,a,_,dx,_,_,M,ho,T.aK,T.aX,jr,d.tb,_,_,_,M,M,HS.of ht,M,?_};refine{_,M,a,_,dx,_,_,M,ho,T.aK,T.aX,jr,d.tb,_,_,_,M,M,HS.of ht,M,?_};let{pm,v0,v1,_}:=z.nx m e;let{s4,s5}:=dJ z.pw;let{s6,s7}:=dJ pm;have hm:=IE.moved_some e;rw[hm]at ho;have r1:=hb.row1;rw[e]at r1;let{c0,ec}:=cY (l:=d.A0) v0 (by rwa[hb.row0.la]);let{kv,ek}:=cY (l:=d.C0) v0 (by rwa[hb.row0.lc]);have O:=hb.row0.cell _ _ _ ec ek;have lb:((d.A1.map V.ref).length:Int)=m:=by rw[Q0];exact r1.la
  have a5:c0∉d.A1:=hb.dis c0 (Q2 ec);have ac:d.r1≠c0:=cI r1.lst O (by intro z;cases z);have bb:=hb.short0 z ek;have a6:∀b,b=d.r1\/b∈d.A1->∃o,H b=some o:=λb hb1=>by
   rcases hb1 with rfl|hb1
   .exact{_,r1.lst}
   .let{_,_,_,_,w}:=r1.has hb1;exact{_,w}
  refine{c0,bg kv,O,_,M,_,M,a,_,dx,_,_,M,ho,T.aK,T.bP,uU,d.r0,_,_,_,M,M,HS.of hb.row0.lst,ug v0 ec,.inr<|.inr<|.inl {M,.inl {_,O}},c0,bg kv,M,M,O,λvw nv=>?_};have an:upd H vw (vwO vw c0) c0=some (.dK<|bg kv):=by rwa[ah (aq O nv)]
  refine{vw,c0,bg kv,M,BB,an,λob=>?_};refine xj (λi J H'=>∃v3 v4,J=[some (.ref a),some (.ref d.r0),some (.ref d.r1),v3,v4]/\IC H' d.r1 d.A1 ((kv.take i).foldl (eT m) d.C1) m/\H' c0=some (.frz ob<|.dK<|bg kv)/\∀b o,b∉d.A1->b≠c0->H b=some o->H' b=some o)
   {_,_,M,?_,BB,λb o _ n2 e=>?_} (λi J H' _ zz=>by let{_,_,_,_,hf,_}:=zz;exact hf) (λi k v p J H' ei zw np=>?_) (λJ H' zw=>?_)
  .refine IC.frame (H:=H) r1 λb hb1=>?_;let{o,w}:=a6 b hb1;have n2:b≠c0:=by
    rcases hb1 with rfl|hb1
    .exact ac
    .exact λz=>a5 (z▸hb1)
   rw[ah n2,ah (aq w nv)]
  .rwa[ah n2,ah (aq e nv)]
  .let{v3,v4,a7,hr,hf,hk}:=zw;subst a7;let{n,rfl,en}:=y6 ei;have a0:IC (upd H' p<|.tup [kV (Sum.inl n),v]) d.r1 d.A1 ((kv.take i).foldl (eT m) d.C1) m:=hr.frame λb hb1=>ah λw=>by
    have:∃o,H' b=some o:=by
     rcases hb1 with rfl|hb1
     .exact{_,hr.lst}
     .let{_,_,_,_,w}:=hr.has hb1;exact{_,w}
    let{o,q}:=this;rw[w,np]at q;cases q
   let{n0,n1,n2}:=ni (k:=n) s6;let{c,e1}:=cY (l:=d.A1) n0 (by rwa[a0.la]);let{y,e2}:=cY (l:=(kv.take i).foldl (eT m) d.C1) n0 (by rwa[a0.lc]);let{y0,e3}:=cY (l:=d.C1) n0 (by rwa[r1.lc]);have yl:=vy e3 e2;have bd:=hb.short1 z e e3;have tl:(kv.take i).length<=kv.length:=by rw[Qq];lia
   have hc:=a0.cell _ _ _ e1 e2;have cA:c∈d.A1:=Q2 e1;refine{p,_,M,IP.of BB,M,_,_,M,_,_,M,M,?_};refine{_,M,_,M,_,M,_,M,d.r1,_,M,.inl<|HS.of a0.lst,n,_,M,by rw[lb];lia,?_};dsimp only;rw[lb];refine{d.r1,_,_,_,M,M,HS.of a0.lst,ug n0 e1,_,M,c,_,M,Jk.k (k:=Sum.inl n) hc (by rw[j5];exact dE ()),?_};rw[j4];have pn:∀b o,H' b=some o->b≠p:=λb o q=>aq q np;refine{_,_,M,?_,?_,λb o nA nc q=>?_}
   .rw[zX en];exact a0.mov s6 e1 e2
   .rwa[ah (λw=>a5<|by rw[w];exact cA),ah (pn _ _ hf)]
   .have q:=hk b o nA nc q;rw[ah (λw=>nA<|by rw[w];exact cA),ah (pn _ _ q)];exact q
  .let{v3,v4,a7,hr,hf,hk}:=zw;subst a7;rw[j5,Z3]at hr;refine{ob,hf,λb' S=>?_};have hF:∀b,¬JO a st d b->b∉d.A1/\b≠c0/\b≠a/\b≠d.r0/\b≠d.tb/\b≠d.r1:=λb n=>
    {λq=>n<|.inr<|.inr<|.inr<|.inr<|.inr q,λq=>n<|.inr<|.inr<|.inr<|.inl<|q▸Q2 ec,λq=>n<|.inl q,λq=>n<|.inr<|.inr<|.inl q,λq=>n<|.inr<|.inl q,λq=>n<|.inr (.inr<|.inr<|.inr<|.inl {by rw[e];rfl,q})}
   have a2:∀b o,H b=some o->(∀kvs,o≠ .dK kvs)->b∉d.A1:=λb o q ne w=>(r1.notr w q ne) M;have K1:∀b o,b∉d.A1->b≠c0->H b=some o->upd H' c0 (.dK<|bg kv) b=some o:=λb o n1 n2 q=>by rw[ah n2];exact hk b o n1 n2 q
   have a1:IC (upd H' c0<|.dK<|bg kv) d.r1 d.A1 (kv.foldl (eT m) d.C1) m:=hr.frame λb hb1=>ah (by
    rcases hb1 with rfl|hb1
    .exact ac
    .exact λw=>a5<|w▸hb1)
   have af:upd H' c0 (.dK<|bg kv) c0=some (.dK<|bg kv):=BB;generalize upd H' c0 (.dK<|bg kv)=H3 at S K1 a1 af⊢;have U:=K1 a _ (a2 _ _ ho<|λ_ w=>by cases w) (cI ho O<|by intro w;cases w) ho;have a3:=hb.row0.lst;have I:=K1 d.r0 _ (a2 _ _ a3<|λ_ w=>by cases w) (cI a3 O<|by intro w;cases w) a3;have a8:=K1 d.tb _ (a2 _ _ ht<|λ_ w=>by cases w) (cI ht O<|by intro w;cases w) ht;have ap:¬JO a st d b':=λw=>by
    rcases w with w|w|w|w|⟨_,w⟩|w
    .rw[w,U]at S;cases S
    .rw[w,a8]at S;cases S
    .rw[w,I]at S;cases S
    .let{j,av,f1,f2,f3}:=hb.row0.has w;by_cases y:b'=c0
     .rw[y,af]at S;cases S
     .rw[K1 b' _ (hb.dis b' w) y f3]at S;cases S
    .rw[w,a1.lst]at S;cases S
    .let{_,_,_,_,w'}:=a1.has w;rw[w']at S;cases S
   have lA:((d.A0.map V.ref).length:Int)=st.size:=by rw[Q0];exact hb.row0.la
   have bo:∀{x:B'}{o:HO},H3 x=some o->x≠b':=λq=>aq q S;refine{_,M,_,M,a,_,dx,_,_,M,(by rwa[ah (bo U)]),T.aK,T.bP,uU,d.r0,_,_,_,M,M,(by rw[ah (bo I)];exact I),FH v0 (by rwa[lA]),?_};have g0:H3 d.r1=some (.lst<|d.A1.map V.ref):=a1.lst;have ra:d.r0≠a:=cI a3 ho (by intro w;cases w);have b3:d.r0≠d.r1:=(hb.tr1<|by rw[e];rfl).2;have t1:d.tb≠d.r1:=(hb.tr1<|by rw[e];rfl).1;have ta:d.tb≠a:=cI ht ho (by intro w;cases w);have ak:d.r1≠a:=cI r1.lst ho (by intro w;cases w);have Z:∀b∈d.A1,b≠b'/\b≠d.r0/\b≠a:=λb w=>by
    let{_,_,_,_,f}:=a1.has w;exact{bo f,cI f I (by intro w;cases w),cI f U<|by intro w;cases w}
   have es:(d.A0.map V.ref).set st.mv.toNat (V.ref b')=(d.A0.set st.mv.toNat b').map V.ref:=by rw[List.map_set]
   rw[es];have al:upd (upd H3 b'<|.dK []) d.r0 (.lst<|(d.A0.set st.mv.toNat b').map V.ref) a=some (.ins t.ba dx<|JK d.tb st.mv d.n):=by rwa[ah ra.symm,ah (bo U)]
   refine{_,M,a,_,dx,_,_,M,al,T.aK,T.bP,uU,_,_,M,M,dx,_,al,oH,?_};rw[Es];have a4:∀{o:HO},upd (upd (upd H3 b'<|.dK []) d.r0<|.lst<|(d.A0.set st.mv.toNat b').map V.ref) a o d.r0=some (.lst<|(d.A0.set st.mv.toNat b').map V.ref):=by
    intro o;rw[ah ra,BB]
   have lS:(((d.A0.set st.mv.toNat b').map V.ref).length:Int)=st.size:=by rw[Q0,QE];exact hb.row0.la
   refine{_,M,a,_,dx,_,_,M,BB,T.aK,T.bP,uU,_,M,d.r0,_,M,.inl<|HS.of a4,M,_,M,?_};rw[lS];have Y:∀{o:HO},IC (upd (upd (upd H3 b'<|.dK []) d.r0<|.lst<|(d.A0.set st.mv.toNat b').map V.ref) a o) d.r1 d.A1 (kv.foldl (eT m) d.C1) m:=λ{o}=>a1.frame λb hb1=>by
    have:b≠b'/\b≠d.r0/\b≠a:=by
     rcases hb1 with rfl|hb1
     .exact{bo g0,b3.symm,ak}
     .exact Z b hb1
    rw[ah this.2.2,ah this.2.1,ah this.1]
   have K6:∀{o':HO}(b:B')(o:HO),¬JO a st d b->H b=some o->upd (upd (upd H3 b'<|.dK []) d.r0<|.lst<|(d.A0.set st.mv.toNat b').map V.ref) a o' b=some o:=λ{o'} b o n q=>by
    let{f1,f2,f3,f4,_}:=hF b n;have q3:=K1 b o f1 f2 q;rwa[ah f3,ah f4,ah (bo q3)]
   refine dD (λc=>?_)<|λc=>?_
   .have c:st.mv+1=st.size:=V.int.inj (Xk c);refine{_,M,(by show 1<=sizeLine;decide),λtb' nt=>{_,M,a,_,dx,_,M,(by rw[ah (aq BB nt)];exact BB),T.aK,T.aX,oH,?_}};rw[G0];refine{_,M,a,_,dx,_,M,BB,T.aK,T.bP,oH,?_};rw[Es,bS];have b4:tb'≠a:=(aq BB nt).symm;have b5:tb'≠d.r1:=(aq (Y (o:= .ins t.ba dx<|JK d.tb (st.mv+1) d.n)).lst nt).symm;refine q _ _ (hb.last z e ek (tb':=tb') (dx:=dx) c BB (by rw[ah b4];exact BB) b5 ?_) M<|λb o n w=>?_
    .refine(Y (o:= .ins t.ba dx<|JK d.tb (st.mv+1) d.n)).frame λb hb1=>?_;have:b≠a:=by
      rcases hb1 with rfl|hb1
      .exact ak
      .exact(Z b hb1).2.2
     rw[ah this,ah (λw=>?_)];obtain⟨o,f⟩:∃o,upd (upd (upd H3 b'<|.dK []) d.r0<|.lst<|(d.A0.set st.mv.toNat b').map V.ref) a (.ins t.ba dx<|JK d.tb (st.mv+1) d.n) b=some o:=by
      rcases hb1 with rfl|hb1
      .exact{_,Y.lst}
      .let{_,_,_,_,f}:=Y.has hb1;exact{_,f}
     rw[w,nt]at f;cases f
    .let{f1,f2,f3,f4,f5,f6}:=hF b n;have k6:=K6 (o':= .ins t.ba dx<|JK d.tb (st.mv+1) d.n) b o n w;have bt:b≠tb':=aq k6 nt;refine{by rwa[ah f3,ah bt],λy=>?_};rcases y with y|y|y|y|⟨_,y⟩|y
     .exact f3 y
     .exact bt y
     .exact f6 y
     .exact f1 y
     .exact f6 y
     .cases y
   .have c:st.mv+1≠st.size:=λw=>c (Xg<|by rw[w]);refine q _ _ (hb.one z e ek (b':=b') (dx:=dx) c BB (by rw[ah ta,ah hb.tr,ah (bo a8),a8,hb.tbl,e]) a4 ?_ ap (λj b f1 f2=>?_) Y) M<|λb o n w=>{K6 b o n w,λy=>?_}
    .have n1:b'≠a:=(bo U).symm;have n2:b'≠d.r0:=(bo I).symm;rw[ah n1,ah n2];exact BB
    .have bA:=Q2 f1;let{_,av,_,_,f}:=hb.row0.has bA;have nc:b≠c0:=λw=>f2 (hb.row0.inj j _ c0 (w▸f1) ec);have f3:=K1 b _ (hb.dis b bA) nc f;rw[ah (cI f3 U<|by intro w;cases w),ah (cI f3 I<|by intro w;cases w),ah (bo f3),f3,f]
    .let{f1,f2,f3,f4,f5,f6}:=hF b n;rcases y with y|y|y|y|⟨_,y⟩|y
     .exact f3 y
     .exact f5 y
     .exact f4 y
     .let{j,hj,ej}:=QO (show b∈d.A0.set st.mv.toNat b' from y);rcases c7 (Q7.mpr ⟨hj,ej⟩)with⟨_,g⟩|⟨_,g⟩
      .have:=K1 b o f1 f2 w;rw[g,S]at this;cases this
      .exact n<|.inr (.inr<|.inr<|.inl<|Q2 g)
     .exact f6 y
     .exact f1 y
def kq(T:Txt K mg t w):D3 P w K mg base IQ 2 t.fQ t.dw [aF] (kg t):=by
 let{U,I}:=T.g_GREATEST_SIZE;let{Z,O}:=T.g_LEAST_SIZE;refine T.xC.okl kj λ_ _ _ s H vs Q E hr h _=>?_;intro X;let{a,st,d,rfl,hb,z,hn,q}:=h;refine ai (aS (aA bV (aG aE {_} T.cz bF (aa (aO F3 M) ag)) am<|aH _)
    (ax tR)
    aB)
   (ai (IL 1<|aG aE {_} T.cz bF (aa (aY aJ (aO F3 M) am<|λ_ _=>M) ag))
   (G9 (λx y=>aS (PW.pt<|eQ (aA AC (aO F3 M) HW<|aH _)<|dM<|aA fY HW (bL (v:= .int 256) {_} I {_,M})<|aH _) x y) ?_))
 refine aC (bu<|c6 QD QX QY fe (aO F3 M)<|aa (aI (lW T) hr.mo {_} T.nQ T.jW.kp T.nV .nil aM (aa (aD wL HW am) ag)) ag) ?_
 intros
 refine Ha (λx=>aS (PW.pt<|eQ (aA fY (aD wL am<|aO F3 M) HW<|aH _)<|dM<|aA AC HW (bL (v:= .int 4) {_} O {_,M})<|aH _) x aB) ?_;refine aC (bu<|c6 QD QX QY fe (aO F3 M)<|aa (aI (lW T) hr.mo {_} T.nQ T.jW.kp T.nV .nil aM (aa (aD c8 HW am) ag)) ag) ?_
 intros
 let{dx,S}:=hb.obj;have Y:=hb.tbl;cases e:st.nxt with
 |some m=>
  rw[e]at Y;refine{_,M,a,_,dx,_,_,M,S,T.aK,T.aX,jr,d.tb,_,M,.inl<|HS.of Y,M,_,M,jL M ?_};have e1:st.three=st:=by unfold IE.three;rw[e]
  rw[e1]at q;exact q H d hb M Fr.refl
 |none=>
  rw[e]at Y;refine{_,M,a,_,dx,_,_,M,S,T.aK,T.aX,jr,d.tb,_,M,.inl<|HS.of Y,M,_,M,b6 (λz=>by cases z) ?_};have la:((d.A0.map V.ref).length:Int)=st.size:=by rw[Q0];exact hb.row0.la
  let{a5,a6}:=dJ z.pw;refine{_,M,a,_,dx,_,_,M,S,T.aK,T.aX,jr,d.tb,_,_,_,M,M,HS.of Y,M,d.r0,_,M,.inl<|HS.of hb.row0.lst,?_};dsimp only;rw[la];have a1:∀{m:Int}{H':Hp}{r:B'}{A:Km},st.three={st with nxt:=some m,mv:=0}->HU H H'->H r=none->(∀b∈A,H b=none)->IC H' r A (List.replicate m.toNat []) m->H' d.tb=some (.lst [.ref d.r0])/\Q .non (upd H' d.tb<|.lst<|[.ref d.r0]++ [.ref r]):=λ{m H' r A} e3 s nr nA hr=>by
   have a2:=s _ _ Y;have a0:∀b,JO a st d b->∃o,H b=some o:=λb w=>hb.dom w;have a3:¬JO a st d r:=λw=>by let{o,q}:=a0 r w;rw[nr]at q;cases q
   have a4:∀b∈A,¬JO a st d b:=λb hA w=>by let{o,q}:=a0 b w;rw[nA b hA]at q;cases q
   refine{a2,?_};have sb:=hb.begin (H':=upd H' d.tb<|.lst [.ref d.r0,.ref r]) e (m:=m) (r:=r) (A:=A) (by rw[ah (cI S Y<|by intro w;cases w),s _ _ S,S]) BB (λb hb1=>?_) (hr.frame λb hb1=>ah ?_) a3 a4
   .rw[<-e3]at sb;refine q _ _ sb M λb o n w=>{?_,λy=>?_}
    .rw[ah (λv=>n<|.inr<|.inl v)];exact s _ _ w
    .rw[e3]at y;rcases y with y|y|y|y|⟨_,y⟩|y
     .exact n<|.inl y
     .exact n<|.inr (.inl y)
     .exact n<|.inr (.inr<|.inl y)
     .exact n<|.inr (.inr<|.inr<|.inl y)
     .have y:b=r:=y;rw[y,nr]at w;cases w
     .rw[nA b y]at w;cases w
   .let{o,q}:=a0 b (by
     rcases hb1 with w|w
     .exact .inr<|.inr (.inl w)
     .exact .inr<|.inr<|.inr<|.inl w)
    have:b≠d.tb:=by
     rcases hb1 with w|w
     .rw[w];exact hb.tr.symm
     .exact hb.row0.notr w Y<|λ_ z=>by cases z
    rw[ah this,s _ _ q,q]
   .rcases hb1 with w|w
    .rw[w];exact λv=>by rw[v,Y]at nr;cases nr
    .exact λv=>by have:=nA b w;rw[v,Y]at this;cases this
  by_cases cA:st.size<d.n/\st.size<256
  .have e3:st.three={st with nxt:=some (2*st.size),mv:=0}:=by
    unfold IE.three;rw[e];exact Xe<|by rwa[<-hn]
   refine{_,M,a,_,dx,_,_,M,S,T.aK,T.bB,lO,_,M,_,_,M,M,_,M,oA cA.1 {_,M,_,_,M,M,_,M,oA cA.2 ?_}};refine{_,M,a,_,dx,_,_,M,S,T.aK,T.aX,jr,.inl {M,_,HS.of Y},_,M,_,_,M,M,.inr {(_),(_)},_,M,(),(),λH' r A s nr nA hr=>?_};let{f1,f2}:=a1 (m:=st.size*2) (by rw[e3,Int.mul_comm]) s nr nA hr;exact{d.tb,_,_,M,M,f1,bR (by show 1<=1000;decide),f2}
  .by_cases cB:4*d.n<st.size/\4<st.size
   .have e3:st.three={st with nxt:=some (st.size/2),mv:=0}:=by
     unfold IE.three;rw[e];exact(Xc<|by rwa[<-hn]).trans<|Xe (by rwa[<-hn])
    have c1:¬st.size<d.n:=();refine{_,M,a,_,dx,_,_,M,S,T.aK,T.bB,lO,_,M,_,_,M,M,_,M,b6 c1 ?_};refine{_,M,a,_,dx,_,_,M,S,T.aK,T.bB,lO,_,_,M,M,.inl {(_),(_)},_,M,_,_,M,M,_,M,oA cB.1 {_,M,_,_,M,M,_,M,oA cB.2 ?_}};refine{_,M,a,_,dx,_,_,M,S,T.aK,T.aX,jr,.inl {M,_,HS.of Y},_,M,_,_,M,M,{(_),(_)},_,M,(),(),λH' r A s nr nA hr=>?_};let{f1,f2}:=a1 (m:=st.size/2) e3 s nr nA hr;exact{d.tb,_,_,M,M,f1,bR (by show 1<=1000;decide),f2}
   .have e3:st.three=st:=by
     unfold IE.three;rw[e];exact(Xc<|by rwa[<-hn]).trans<|Xc (by rwa[<-hn])
    rw[e3]at q;have q0:=q H d hb M Fr.refl;by_cases c1:st.size<d.n
    .have c2:¬st.size<256:=λw=>cA ⟨c1,w⟩;have c3:¬4*d.n<st.size:=();refine{_,M,a,_,dx,_,_,M,S,T.aK,T.bB,lO,_,M,_,_,M,M,_,M,oA c1 {_,M,_,_,M,M,_,M,b6 c2 ?_}};exact{_,M,a,_,dx,_,_,M,S,T.aK,T.bB,lO,_,_,M,M,.inl {(_),(_)},_,M,_,_,M,M,_,M,b6 c3 q0}
    .refine{_,M,a,_,dx,_,_,M,S,T.aK,T.bB,lO,_,M,_,_,M,M,_,M,b6 c1 ?_};refine{_,M,a,_,dx,_,_,M,S,T.aK,T.bB,lO,_,_,M,M,.inl {(_),(_)},_,M,_,_,M,M,_,M,?_};by_cases c3:4*d.n<st.size
     .exact oA c3 {_,M,_,_,M,M,_,M,b6 (λw=>cB ⟨c3,w⟩) q0}
     .exact b6 c3 q0
section
variable{d:KF}
def IV.put(h:IV t H a st d)(z:IN st){k:Int}{kv:Kl}(I:IsCell d st k c kv)(v:V):
  ∃d',IV t (upd H c<|.dK<|bg<|bC kv k v) a {st with kv:=bC st.kv k v} d'/\d'.n=d.n/\∀b,JO a {st with kv:=bC st.kv k v} d' b↔JO a st d b:=
 h.setCell z I (wR (h.at I).2.2) (λ_ hp=>qB hp) (by rw[cM,cM,Xe M,Xe M]) λj O=>{by rw[cM,Xc O],by rw[cM,Xc O]}
def IV.insM(h:IV t H a st d):∃dx fs,H a=some (.ins t.ba dx fs)/\∀m,NoM m->fs.lookup m=none:=by
 let{dx,z}:=h.obj;exact{dx,_,z,λm I=>El I}
def IE.one_kv:st.one.kv=st.kv:=by
 unfold IE.one;cases st.nxt with
 |none=>rfl
 |some m=>show(if _ then _ else _:IE).kv=_;split<;>rfl
def IE.three_kv:st.three.kv=st.kv:=by
 unfold IE.three;cases st.nxt with
 |some m=>rfl
 |none=>show(if _ then _ else _:IE).kv=_;split;rfl;split<;>rfl
set_option tactic.hygienic true in
def x9{kv:Kl}:((bC kv k v).length:Int)=if(aR kv k).isSome=true then(kv.length:Int)else kv.length+1:=by
 have:=Xo List.length (qD (kv:=kv) (k:=k) (v:=v));rw[Q0]at this;split
 .rename_i c;rw[Xe c,Q0]at this;lia
 .rename_i c;rw[Xc c,Q5,Q0]at this;simp at this;lia
end
def rW(T:Txt K mg t w):D3 P w K mg base IQ 4 t.mG t.jf [aF,ci] (rh K t):=by
 refine T.D9.okl rH λ_ _ _ s H vs Q E I h _=>?_;intro X;let{a,k,F,st,rfl,{d,hb,S,U,Y,z},h0,q}:=h;refine{_,(ax<|ay<|Fb<|Fc (jt I) HW<|bc F3 T.aK T.iw (dO T) I.mo T.iD .nil aM<|aa HW ag)
  ,?_}
 let{dx,fs,hi,Z}:=hb.insM;refine{_,M,_,M,a,dx,fs,M,hi,Z _ ∅,_,M,a,k,st,d,M,hb,z,λc kv O=>?_};let{hc,_,_}:=hb.at O;refine{c,_,M,Io.k (k:=Sum.inl k) hc,?_};rw[eD,hb.val k c kv O];exact q H F ⟨d,hb,S,U,Y,z⟩ Fr.refl
def rX(T:Txt K mg t w):D3 P w K mg base (JV P w) 4 t.mH t.jg [aF,ci] (rj K t):=by
 have Y:=JC.nd;refine T.Ea.okX JC (λvs H Q E h=>?_)<|λZ A outer s H vs Q E I h=>?_
 .let{a,k,F,st,rfl,_}:=h;rfl
 .let{a,k,F,st,rfl,{d,hb,hF,hn,nd,z},h0,q1,q2}:=h;refine ai (IL 2<|bc F3 T.aK T.iw (dO T) I.mo T.iD .nil aM<|aa HW ag)
    (cm (λx=>aS (wJ<|sO (jt I) HW IA) x aB) ?_)
  refine aC (eL M fW<|vg T.uJ T.Gw T.Gy (ql T) I.mo {_} T.AQ T.B7 .nil aM (aa HW ag)) ?_
  intros
  refine aC (ay<|j1 (jt I) IA HW<|λ_ _=>M) ?_
  intros
  have O:JR K t H a F st:=⟨d,hb,hF,hn,nd,z⟩;let{dx,fs,hi,hm}:=hb.insM;refine{_,M,a,dx,fs,M,hi,hm _ ∅,_,M,a,k,st,d,M,hb,z,λc kv S=>?_};let{hc,_,_}:=hb.at S;have U:=hb.val k c kv S;refine{_,M,_,M,c,_,M,Io.k (k:=Sum.inl k) hc,?_};rw[eD,U];cases e:aR st.kv k with
  |none=>
   refine{_,M,cT ?_};exact sN T.uJ T.C8 (λea od H' hx hs=>q2 e ea od H' F hx (O.same hs)<|Fr.of_same hs) M
  |some v=>
   refine{_,M,cX ?_};refine{_,M,_,M,c,v,M,?_,q1 v e H F O Fr.refl};have:=Io.k (k:=Sum.inl k) hc;rw[eD,U,e]at this;exact this
def qj(T:Txt K mg t w):D3 P w K mg base IQ 1 t.kE t.gU [aF] (pf K t):=by
 refine T.Cf.okl pL λ_ _ _ s H vs Q E Y h _=>?_;intro X;let{a,F,st,rfl,{d,hb,S,I,U,z},q}:=h;refine{_,(ax<|ay<|aO F3 M)
  ,?_}
 let{dx,O}:=hb.obj;rw[I]at O;exact{_,M,a,_,dx,_,_,M,O,T.aK,T.bB,lO,q H F ⟨d,hb,S,I,U,z⟩ Fr.refl}
def rV(T:Txt K mg t w):D3 P w K mg base IQ 4 t.mF t.je [aF,ci,ih] (rg K t):=by
 refine T.D7.okl rG λ_ _ _ s H vs Q E hr h _=>?_;intro X;let{a,k,i,F,st,rfl,{d,hb,hF,hn,nd,z},h0,hl,q}:=h;refine ai (bu<|io F3 T.aK T.wV (ko T) hr.mo T.xv .nil aM)
   (ai (IL 3<|bc F3 T.aK T.iw (dO T) hr.mo T.iD .nil aM<|aa HW ag)
   (ai (aS (wJ<|sO (jt hr) HW IM)
    (ax<|m5 F3 am xg)
    aB)
   (ai (tT (jt hr) IM HW IA M)
   (aC (bu<|io F3 T.aK T.wW (kq T) hr.mo T.xw .nil aM) ?_))))
 intros
 let{dx,fs,hi,hm}:=hb.insM;refine{_,M,a,dx,fs,M,hi,hm _ ∅,a,st,d,M,hb,z,hl,λH1 Y hb1 e1 S=>?_};let{ac,af,ak,al}:=hb1.insM;have z1:=z.one;refine{_,M,a,ac,af,M,ak,al _ ∅,_,M,a,k,st.one,Y,M,hb1,z1,λc kv ic=>?_};let{hc,cF,_}:=hb1.at ic;have hv:=hb1.val k c kv ic;have sh:=hb1.short z1 ic;rw[IE.one_kv]at hv sh;let{U,Z}:=hb1.obj;have na:a≠c:=cI Z hc (by intro w;cases w);have key:∀(H2:Hp)(n2:Int),IV t H2 a st.one {Y with n:=n2}->Fr (JO a st d) (JO a st.one Y) H H2->n2=((bC st.kv k<|.int i).length:Int)->∃O,IV t (upd H2 c<|.dK<|bg<|bC kv k<|.int i) a {st.one with kv:=bC st.one.kv k (.int i)} O/\O.n=((bC st.one.kv k<|.int i).length:Int)/\
   ∀H4 d4,IV t H4 a (IE.three {st.one with kv:=bC st.one.kv k (.int i)}) d4->d4.n=O.n->Fr (JO a {st.one with kv:=bC st.one.kv k (.int i)} O) (JO a (IE.three {st.one with kv:=bC st.one.kv k (.int i)}) d4) (upd H2 c<|.dK<|bg<|bC kv k<|.int i) H4->Q .non H4:=λH2 n2 a0 an ap=>by
  let{O,I,e3,f3}:=a0.put z1 (kv:=kv) ic (.int i);have a1:O.n=((bC st.one.kv k<|.int i).length:Int):=by rwa[e3,IE.one_kv]
  refine{O,I,a1,λH4 d4 a7 e4 a8=>?_};rw[IE.one_kv]at a7 a8 f3 a1;refine q H4 _ {d4,a7,λb=>Iff.rfl,?_,?_,?_} ?_
  .show d4.n=((IE.three _).kv.length:Int);rw[IE.three_kv,e4,a1]
  .show((IE.three _).kv.map (·.1)).Nodup;rw[IE.three_kv];exact wR nd
  .exact(z1.kv).three
  .have step:Fr (JO a st.one Y) (JO a {st.one with kv:=bC st.kv k (.int i)} O) H2 (upd H2 c<|.dK<|bg<|bC kv k<|.int i):=λb o n w=>{by rwa[ah (λy=>n<|by rw[y];exact cF)],λy=>n<|(f3 b).mp y};exact Fr.trans (λb o n w=>an b o (λy=>n<|(hF b).mpr y) w)<|Fr.trans step a8
 refine{_,M,_,M,c,_,M,Io.k (k:=Sum.inl k) hc,?_};rw[eD,hv];have kl:(bg kv).length<sizeLine:=by rw[j5];exact yE ()
 cases e:aR st.kv k with
 |none=>
  refine{_,M,cT ?_};refine{_,M,a,_,U,_,_,M,Z,T.aK,T.bB,lO,_,_,M,M,U,_,Z,oH,?_};rw[G6];have a0:=hb1.setN (dx:=U) (n:=Y.n+1);have av:upd H1 a (.ins t.ba U<|JK Y.tb st.one.moved<|Y.n+1) c=some (.dK<|bg kv):=by rwa[ah na.symm]
  let{O,I,n3,a2}:=key _ _ a0 (λb o n w=>{by rw[ah (λy=>(S b o n w).2<|.inl y)];exact(S b o n w).1,(S b o n w).2}) (by rw[x9,e,e1,hn];rfl);refine{_,M,_,M,_,M,c,_,M,Jk.k (k:=Sum.inl k) av kl,?_};rw[j4];let{a3,a4,a5,a6}:=I.insM;exact{_,M,a,a3,a4,M,a5,a6 _ ∅,a,_,O,M,I,z1.kv,n3,a2}
 |some v=>
  refine{_,M,cX ?_};let{O,I,n3,a2}:=key H1 Y.n hb1 S (by rw[x9,e,e1,hn];rfl);refine{_,M,_,M,_,M,c,_,M,Jk.k (k:=Sum.inl k) hc kl,?_};rw[j4];let{a3,a4,a5,a6}:=I.insM;exact{_,M,a,a3,a4,M,a5,a6 _ ∅,a,_,O,M,I,z1.kv,n3,a2}
def EW{sh:Int}:bY ("kept":Str) (.int n) (bY ("shifted":Str) (.int sh)<|bY ("table":Str) (.ref tb) [])=JK tb sh n:=by
 have z:bY ("table":Str) (.ref tb) []=[(("table":Str),V.ref tb)]:=M;rw[z,bY,Xc ∅,bY,bY,Xc ∅,bY,Xc ∅,bY];rfl
def qk(T:Txt K mg t w):D3 P w K mg base IQ 2 t.kF t.gV [aF] (pj K t):=by
 let{I,z}:=T.g_LEAST_SIZE;refine T.Cg.okl pM λ_ _ _ s H vs Q E O h _=>?_;intro X;let{a,dx,rfl,ha,hd,q}:=h;refine ai (bx F3 (az<|aa (aI (lW T) O.mo {_} T.nQ T.jW.kp T.nV .nil aM (aa (bL (v:= .int 4) {_} z {_,M}) ag)) ag) M)
   (ai (bx F3 am M)
   (aC (bx F3 am M) ?_))
 intros
 refine{4,M,(_),(_),λH' r A s nr nA O=>{(by show 1<=sizeLine;decide),λtb Y=>?_}};have S:=s _ _ ha;have U:a≠tb:=aq S Y;refine{_,M,a,_,dx,[],M,(by rw[ah U];exact S),T.aK,T.aX,(by show 0<1000;decide),?_};refine{_,M,a,_,dx,_,M,BB,T.aK,T.bP,?_,?_}
 .show 1<1000;decide
 refine{_,M,a,_,dx,_,M,BB,T.aK,T.bB,?_,?_}
 .have h1:=jB (f:="shifted") (v:= .int 0) (bY "table" (.ref tb) []);have h2:=jB (f:="table") (v:= .ref tb) [];have h3:([]:Ks).length=0:=M;lia
 rw[EW,bS,bS];have a0:tb≠r:=(aq O.lst Y).symm;have sb:=IV.fresh (t:=t) (H:=upd (upd H' tb<|.lst [.ref r]) a<|.ins t.ba dx<|JK tb 0 0) (a:=a) (tb:=tb) (r:=r) (A:=A) (dx:=dx) BB (by rw[ah U.symm];exact BB) (O.frame λb hb1=>?_) a0
 .refine q _ _ {_,sb,λb=>Iff.rfl,M,Zc,IN.new} λb o n w=>?_;have Z:b≠a:=λy=>n (.inl y);have w1:=s _ _ w;have n2:b≠tb:=aq w1 Y;refine{by rwa[ah Z,ah n2],λy=>?_};rcases y with y|y|y|y|⟨y,_⟩|y
  .exact Z y
  .exact n2 y
  .have y:b=r:=y;rw[y,nr]at w;cases w
  .rw[nA b y]at w;cases w
  .cases y
  .cases y
 .have:∃o,H' b=some o:=by
   rcases hb1 with rfl|hb1
   .exact{_,O.lst}
   .let{_,_,_,_,w}:=O.has hb1;exact{_,w}
  let{o,w}:=this;have n2:b≠tb:=aq w Y;have Z:b≠a:=λy=>by
   rcases hb1 with y2|y2
   .rw[<-y2,y,ha]at nr;cases nr
   .have:=nA b y2;rw[y,ha]at this;cases this
  rw[ah Z,ah n2]
def mi(e:A[j]?=some c):JP (A.map V.ref) (j:Int)=some (.ref c):=by
 refine cU ?_;rw[Qp,e];rfl
def DW(ne:x≠[])(e:x[x.length-1]?=some m):JP (x.map V.int) (-1)=some (.int m):=by
 have hl:=QB.mpr ne;unfold JP K5;rw[Q0,Xc (_),Xe ()];show(x.map V.int)[((-1:Int)+(x.length:Int)).toNat]?=_;have:((-1:Int)+(x.length:Int)).toNat=x.length-1:=();rw[this,Qp,e];rfl
def Dq(h:i<A.length):K5 (A.map V.ref).length (i:Int)=some i:=by
 unfold K5;rw[Xe (),Xe (by rw[Q0];lia)];rfl
def EE(a:B')(k:Int)(ls:La)(H:Hp):Nat->St->Hp->Prop:=λm J H'=>∃(lo hi:Nat)(v4:Option V),m=hi-lo/\H'=H/\J=[some (.ref a),some (.int k),some (.int (lo:Int)),some (.int (hi:Int)),v4]/\lo<=hi/\hi<=ls.length/\
 (∀(j:Nat)(x:Kk),j<lo->ls[j]?=some x->∀y∈x,y<k)/\∀(j:Nat)(x:Kk),hi<=j->ls[j]?=some x->∃y∈x,k<=y
def kR(t:II):Sp:=λvs H Q _=>∃(a:B')(k:Int)(L:B')(A:Km)(ls:La),vs=[.ref a,.int k]/\JL t H a L A ls/\(∀l∈ls,l≠[])/\cV ls.flatten/\∀i:Nat,Ib ls k i->Q (.int (i:Int)) H
def dq(T:Txt K mg t w):D3 P w K mg base IQ 1 t.gf t.dR [aF,ci] (kR t):=by
 refine T.yu.okl kU λ_ _ _ s H vs Q E hr h _=>?_;intro X;let{a,k,L,A,ls,rfl,hb,ne,up,q}:=h;refine ai (IL 2 am)
   (ai (IL 3<|aG aE {_} T.cz bF (aa (aO F3 M) ag))
   (cm (λx=>(ve XA (aA fY IA IM<|aH _)
    x)) ?_))
 refine ai (IL 4<|aD c8 (aD dN IA IM) am)
   (aC (aS (aA fY (aY aJ (aY aJ (aO F3 M) Je<|λ_ _=>M) (xR tK am)<|λ_ _=>M) HW<|aH _)
    (ax<|IL 2<|aD dN Je am)
    (ax<|IL 3 Je)) ?_)
 intros
 refine aC (ay IA) ?_
 intros
 let{dx,ho}:=hb.obj;have lA:((A.map V.ref).length:Int)=(ls.length:Int):=by rw[Q0,hb.len]
 refine{_,M,a,_,dx,_,_,M,ho,T.a8,T.aN,f9,L,_,M,.inl<|HS.of hb.lst,?_};dsimp only;rw[lA];refine{EE a k ls H,{_,0,ls.length,none,M,M,M,Qy _,Qc _,λj x h=>Xd h (),λj x h e=>?_},?_}
 .have:=(Q7.mp e).1;lia
 rintro m J H' ⟨lo,hi,v4,rfl,rfl,rfl,h1,h2,h3,h4⟩;refine{_,M,_,M,_,_,M,M,_,M,dD (λc=>?_)<|λc=>?_}
 .have c:lo<hi:=by have:=Xk c;lia
  refine{λU H''=>∃m',m'<hi-lo/\EE a k ls H' m' U H'',λ_ _ h=>h,?_};refine{_,M,_,M,_,_,M,M,_,_,M,M,{(_),(_)},?_};obtain⟨I,em,m1,m2⟩:∃I:Nat,((lo:Int)+(hi:Int))/2=(I:Int)/\lo<=I/\I<hi:={(lo+hi)/2,(),(),()};dsimp only;rw[em];have hm:I<ls.length:=();have ex:ls[I]?=some ls[I]:=Qb hm;let{b,eb,Y}:=hb.at ex;have O:=ne _ (Zr hm);let{g,eg,Z,S}:=AY (CH up ex) O;refine{_,M,a,_,dx,_,_,M,ho,T.a8,T.aN,f9,_,M,L,_,_,_,M,M,HS.of hb.lst,mi eb,_,M,b,_,_,_,M,M,HS.of Y,DW O eg,_,M,_,_,M,M,_,M,dD (λc2=>?_)<|λc2=>?_}
  .have c2:=Xk c2;refine{_,M,_,_,M,M,hi-(I+1),(),I+1,hi,_,M,M,M,(),h2,λj x hj e y hy=>?_,h4};rcases(show j<I\/j=I by lia)with h|h
   .have:=sM up e ex h y hy g Z;lia
   .subst h;rw[ex]at e;cases e;have:=S y hy;lia
  .have c2:¬g<k:=λz=>c2 (Xg z);refine{_,M,I-lo,(),lo,I,_,M,M,M,(),(),h3,λj x hj e=>?_};rcases(show j=I\/I<j by lia)with h|h
   .subst h;rw[ex]at e;cases e;exact{g,Z,()}
   .let{y,hy}:=List.exists_mem_of_ne_nil x (ne x<|Q2 e);have:=sM up ex e h g Z y hy;exact{y,hy,()}
 .have c:¬lo<hi:=λz=>c (Xg ());have:lo=hi:=();subst this;exact{_,M,q lo {h2,h3,λx e=>h4 lo x (Qc _) e}}
theorem vF{k:Int}:∀{x:Kk},K7 (.int k) (x.map V.int)=decide (k∈x)
 | []=>rfl
 |a::r=>by
  have I:=vF (k:=k) (x:=r);unfold K7 at I⊢;rw[Qm,Zs,I];have:K2 (.int a) (.int k)=decide (k=a):=by
   show(a==k)=_;by_cases c:a=k
   .subst c;simp
   .have O:¬k=a:=λz=>c z.symm;simp[c,O]
  rw[this];by_cases c:k=a
  .simp[c]
  .simp[c]
def zi:(x.map V.int).all mq=true:=by
 rw[List.all_map];exact Qx.mpr λ_ _=>rfl
def qp(T:Txt K mg t w):D3 P w K mg base IQ 2 t.kI t.gZ [aF,ci] (pz K t):=by
 refine T.Cl.okl pQ λ_ _ _ s H vs Q E hr h _=>?_;intro X;let{a,k,F,ks,rfl,O,q}:=h;refine ai (IL 2<|bc F3 T.a8 T.f7 (dq T) hr.mo T.gc .nil aM<|aa HW ag)
   (aC (ay<|m7 (eW fY IA (aG aE {_} T.cz bF (aa (aO F3 M) ag))<|aH _)<|kZ<|eW sQ HW (aY aJ (aO F3 M) IA<|λ_ _=>M) M) ?_)
 intros
 let{dx,fs,hi,hm}:=O.ins;have q:=q H F O Fr.refl;let{L,A,ls,hb,ok,U,hF}:=O;let{I,Y}:=hb.obj;have lA:((A.map V.ref).length:Int)=(ls.length:Int):=by rw[Q0,hb.len]
 refine{_,M,a,dx,fs,M,hi,hm _ ∅,_,M,a,k,L,A,ls,M,hb,ok.ne,ok.up,λi Z=>?_};refine{_,M,_,M,a,_,I,_,_,M,Y,T.a8,T.aN,f9,L,_,M,.inl<|HS.of hb.lst,_,_,M,M,_,M,dD (λc=>?_)<|λc=>?_}
 .have c:=Xk c;have hi:i<ls.length:=();have ex:ls[i]?=some ls[i]:=Qb hi;let{b,eb,S}:=hb.at ex;refine{_,M,_,M,a,_,I,_,_,M,Y,T.a8,T.aN,f9,_,M,L,_,_,_,M,M,HS.of hb.lst,mi eb,b,_,M,.inl<|HS.of S,M,zi,?_};show Q (.bl<|K7 (.int k)<|ls[i].map V.int) H;rw[vF];have:k∈ls[i]↔k∈ks:=by
   rw[<-U,Z.mem ok];constructor
   .exact λz=>{_,ex,z}
   .rintro ⟨x,e,z⟩;rw[ex]at e;cases e;exact z
  rw[decide_eq_decide.mpr this];exact q
 .have c:¬(i:Int)<((A.map V.ref).length:Int):=λz=>c (Xg z);have:k∉ks:=λz=>by
   rw[<-U,Z.mem ok]at z;let{x,e,_}:=z;have:=(Q7.mp e).1;lia
  rw[Xh this]at q;exact q
def ou(T:Txt K mg t w):D3 P w K mg base IQ 1 t.jT t.fK [aF] (oa K t):=by
 refine T.BG.okl oo λ_ _ _ s H vs Q E U h _=>?_;intro X;let{a,dx,rfl,ha,hd,q}:=h;refine{_,(ax<|bx F3 (az ag) M)
  ,?_}
 refine{Qy _,λL nL=>{_,M,a,_,dx,[],M,(by rwa[ah (aq ha nL)]),T.a8,T.aN,(by show 0<1000;decide),?_}};have S:=aq ha nL;refine q _ (Jq a L []) {L,[],[],{⟨dx,BB⟩,by rw[ah S.symm];exact BB,M,(λj b l e=>by simp at e),(λi j b e=>by simp at e),(λz=>by cases z)},Ip.nil,M,λb=>Iff.rfl} λb o n w=>?_;have I:b≠a:=λy=>n (.inl y);have O:b≠L:=aq w nL;refine{by rwa[ah I,ah O],λy=>?_};rcases y with y|y|y
 .exact I y
 .exact O y
 .cases y
def jw(t:II):Sp:=λvs H Q _=>∃(a L:B')(A:Km)(ls:La)(i:Nat)(x:Kk),vs=[.ref a,.int (i:Int)]/\JL t H a L A ls/\ls[i]?=some x/\x.length=9/\ls.length<5000/\
 ∀H' A',JL t H' a L A' ((ls.set i<|x.take 4).take (i+1)++x.drop 4::(ls.set i<|x.take 4).drop (i+1))->Fr (Jq a L A) (Jq a L A') H H'->Q .non H'
def jF(T:Txt K mg t w):D3 P w K mg base IQ 1 t.eV t.c5 [aF,ox] (jw t):=by
 refine T.wj.okl jx λ_ _ _ s H vs Q E hr h _=>?_;intro X;let{a,L,A,ls,i,x,rfl,hb,ex,lx,ll,q}:=h;refine ai (IL 2<|aY aJ (aO F3 M) HW<|λ_ _=>M)
   (ai (IL 3<|aD c8 (aG aE {_} T.cz bF (aa IA ag)) am)
   (ai (Ar (bK cq IA cr<|bU IM)<|At (aO F3 M) HW uV)
   (aC (bu<|c6 QD PySem.F.slot_list_insert PySem.F.type_list_insert sT (aO F3 M)<|aa (aD dN HW am)<|aa (bK cq IA (bU IM) cr) ag) ?_)))
 intros
 let{dx,ho}:=hb.obj;let{c,ec,hc}:=hb.at ex;have an:i<A.length:=(Q7.mp ec).1;have a0:((x.map V.int).length:Int)=9:=by rw[Q0,lx];rfl
 refine{_,M,a,_,dx,_,_,M,ho,T.a8,T.aN,f9,_,M,L,_,_,_,M,M,HS.of hb.lst,mi ec,?_};refine{_,M,c,_,M,.inl<|HS.of hc,_,_,M,M,{(_),(_)},?_};dsimp only;rw[a0];have a1:dZ (x.map V.int) none (some<|9/2)=(x.take 4).map V.int:=by
  unfold dZ;rw[Q0,lx];show((x.map V.int).drop 0).take (4-0)=_;rw[ZA,Zk]
 have a2:dZ (x.map V.int) (some<|9/2) none=(x.drop 4).map V.int:=by
  unfold dZ;rw[Q0,lx];show((x.map V.int).drop 4).take (9-4)=_;rw[ZW,Qt (by rw[QA,Q0,lx];exact Qc _)]
 refine{_,M,_,M,_,M,c,_,M,HS.of hc,λI S=>?_};rw[a1];have s1:HU H (upd H I<|.lst<|(x.take 4).map V.int):=ae S;have hb1:=hb.same s1;have a3:upd H I (.lst<|(x.take 4).map V.int) I=some (.lst<|(x.take 4).map V.int):=BB;have ap:=hb.out S;have a4:=s1 _ _ ho;have a5:=s1 _ _ hc;have a6:=s1 _ _ hb.lst;generalize upd H I (.lst<|(x.take 4).map V.int)=H1 at s1 hb1 a3 a4 a5 a6⊢;refine{_,M,a,_,dx,_,_,M,a4,T.a8,T.aN,f9,_,M,L,_,_,_,M,M,a6,Dq an,?_};have es:(A.map V.ref).set i (V.ref I)=(A.set i I).map V.ref:=by rw[List.map_set]
 rw[es];have O:=hb1.swap ec ex a3 ap;have cL:c≠L:=λz=>hb.nL (z▸Q2 ec);have a7:upd H1 L (.lst<|(A.set i I).map V.ref) c=some (.lst<|x.map V.int):=by rwa[ah cL]
 let{av,ac}:=O.obj;have U:=O.lst;have f2:Fr (Jq a L A) (Jq a L<|A.set i I) H (upd H1 L<|.lst<|(A.set i I).map V.ref):=λb o n w=>by
  have w1:=s1 _ _ w;refine{by rwa[ah (λy=>n<|.inr<|.inl y)],λy=>?_};rcases y with y|y|y
  .exact n<|.inl y
  .exact n<|.inr (.inl y)
  .rcases ZD y with y|y
   .exact n<|.inr (.inr y)
   .rw[y,S]at w;cases w
 generalize upd H1 L (.lst<|(A.set i I).map V.ref)=H2 at O a7 ac U f2⊢;refine{_,M,a,_,av,_,_,M,ac,T.a8,T.aN,f9,.inl {M,_,HS.of U},_,M,_,_,M,M,_,M,_,M,_,M,c,_,M,HS.of a7,λZ Y=>?_};rw[a2];have s3:HU H2 (upd H2 Z<|.lst<|(x.drop 4).map V.int):=ae Y;have af:=O.same s3;have ak:upd H2 Z (.lst<|(x.drop 4).map V.int) Z=some (.lst<|(x.drop 4).map V.int):=BB;have b3:=O.out Y;have al:=s3 _ _ U;generalize upd H2 Z (.lst<|(x.drop 4).map V.int)=H3 at s3 af ak al⊢;have lS:(A.set i I).length=A.length:=QE;refine{L,_,_,_,M,M,al,(),(by rw[Q0,lS];lia),(by rw[Q0,lS,hb.len];exact dE ()),?_};have ei:((i:Int)+1).toNat=i+1:=();have b4:=af.insert (i:=i+1) (by rw[lS];lia) ak b3;rw[ei];have em:((A.set i I).map V.ref).take (i+1)++V.ref Z::((A.set i I).map V.ref).drop (i+1)=((A.set i I).take (i+1)++Z::(A.set i I).drop (i+1)).map V.ref:=by
  rw[Qf,Qm,Zk,ZW]
 rw[em];refine q _ _ b4<|f2.trans (λb o n w=>?_);have w3:=s3 _ _ w;refine{by rwa[ah (λy=>n<|.inr<|.inl y)],λy=>?_};rcases y with y|y|y
 .exact n<|.inl y
 .exact n<|.inr (.inl y)
 .rcases Qd.mp y with y|y
  .exact n<|.inr (.inr<|Zd y)
  .rcases Qa.mp y with y|y
   .rw[y,Y]at w;cases w
   .exact n<|.inr (.inr<|Ze y)
def JL.insM(h:JL t H a L A ls):∃dx fs,H a=some (.ins t.bX dx fs)/\∀m,m≠(kt:Str)->fs.lookup m=none:=by
 let{dx,z}:=h.obj;exact{dx,_,z,λm I=>Ew I}
def qq(T:Txt K mg t w):D3 P w K mg base (JV P w) 3 t.kJ t.g6 [aF,ci] (pA K t):=by
 let{O,I}:=T.g_MOST_IN_LEAF;have bl:=Ix.nd;refine T.Cm.okX Ix (λvs H Q E h=>?_)<|λbn A outer s H vs Q E hr h=>?_
 .let{a,k,F,ks,rfl,_}:=h;rfl
 .let{a,k,F,ks,rfl,hA,hl,q1,q2}:=h;refine cm (λx=>aS (cc<|bc F3 T.a8 T.BM (qp T) hr.mo T.Ca .nil aM<|aa HW ag) x aB) ?_;refine aC (eL M fW<|vg T.zT T.Gv T.Gx (qi T) hr.mo {_} T.Hf T.BZ .nil aM (aa HW ag)) ?_
  intros
  refine cm (λx=>aS (aA bV (aG aE {_} T.cz bF (aa (aO F3 M) ag)) am<|aH _) x aB) ?_;refine ai (bu<|c6 QD QX QY fe (aO F3 M)<|aa (az<|aa HW ag) ag)
    (aC tR ?_)
  intros
  refine ai (IL 2<|aG (zy M) {_} T.HJ FY (aa (bc F3 T.a8 T.f7 (dq T) hr.mo T.gc .nil aM<|aa HW ag)<|aa (aD m8 (aG aE {_} T.cz bF (aa (aO F3 M) ag)) am) ag))
    (ai (IL 3<|aY aJ (aO F3 M) IA<|λ_ _=>M)
    (ai (bu<|c6 QD PySem.F.slot_list_insert PySem.F.type_list_insert sT IM<|aa (aG aE {_} T.cz bF (aa (vk M (ID.of (M':=["one"]) (N:=[aF,ci,ox,"leaf"]) (N':=[aF,ci,ox,"leaf"]) (dsc:=aj eK) M M ∅) (tU IM) (λ_ _ _ _ _=>(aA fY F3 IA<|aH _))<|λ_ _ _ _ _=>F3) ag))<|aa HW ag)
    (aC (aS (aA AC (aG aE {_} T.cz bF (aa IM ag)) (bL (v:= .int 8) {_} I {_,M})<|aH _)
   (ax<|bu<|bc F3 T.a8 T.wb (jF T) hr.mo T.wg .nil aM<|aa IA ag)
   aB) ?_)))
  intros
  let{dx,fs,hi,hm}:=hA.ins;refine{_,M,a,dx,fs,M,hi,hm _ ∅,_,M,a,k,F,ks,M,hA,λH0 F0 a1 a0=>?_};by_cases ck:k∈ks
  .rw[Xg ck];refine{_,M,cT ?_};exact sN T.zT T.C7 (λea od H' hx hs=>q2 ck ea od H' F0 hx (a1.same hs)<|a0.trans<|Fr.of_same hs) M
  rw[Xh ck];refine{_,M,cX ?_};have q:=q1 ck;let{L,A,ls,hb,ok,ef,hF}:=a1;let{S,ho}:=hb.obj;have lA:((A.map V.ref).length:Int)=(ls.length:Int):=by rw[Q0,hb.len]
  have sh:=ok.short;rw[ef]at sh;have fr:Fr F (Jq a L A) H H0:=λb o n e=>{(a0 b o n e).1,λy=>(a0 b o n e).2<|(hF b).mpr y};have nk:k∉ls.flatten:=by rwa[ef]
  by_cases ce:ls=[]
  .subst ce;have eA:A=[]:=ZF.mp hb.len;subst eA;refine{_,M,a,_,S,_,_,M,ho,T.a8,T.aN,f9,L,_,M,.inl<|HS.of hb.lst,M,_,M,jL M ?_};refine{_,M,a,_,S,_,_,M,ho,T.a8,T.aN,f9,.inl {M,_,HS.of hb.lst},_,M,(by show 1<=sizeLine;decide),λn nn=>?_};have s1:HU H0 (upd H0 n<|.lst [.int k]):=ae nn;have hb1:=hb.same s1;have a6:upd H0 n (.lst [.int k]) n=some (.lst<|([k]:Kk).map V.int):=BB;have nF:=hb.out nn;have a7:=s1 _ _ hb.lst;refine{L,_,_,M,M,a7,bR (by show 0<=1000;decide),?_};have ac:=hb1.insert (i:=0) (Qy _) a6 nF;have af:Ip [[k]]:={(λl hl=>by rw[Q9.mp hl];simp),(λl hl=>by rw[Q9.mp hl];simp),(λi x y e1 e2=>by simp at e2),by show cV [k];exact ZG _ _};refine q _ (Jq a L [n]) [k] {L,[n],[[k]],ac,af,M,λb=>Iff.rfl} (λz=>?_)<|fr.trans λb o n' w=>?_
   .rw[<-ef];simp
   .have w1:=s1 _ _ w;refine{by rwa[ah (λy=>n'<|.inr<|.inl y)],λy=>?_};rcases y with y|y|y
    .exact n'<|.inl y
    .exact n'<|.inr (.inl y)
    .rw[Q9.mp y,nn]at w;cases w
  .have bj:=QB.mpr ce;refine{_,M,a,_,S,_,_,M,ho,T.a8,T.aN,f9,L,_,M,.inl<|HS.of hb.lst,M,_,M,b6 (λw=>?_) ?_}
   .have:=V.int.inj w;lia
   let{ak,al,an,ap}:=hb.insM;refine{_,M,a,ak,al,M,an,ap _ ∅,_,M,a,k,L,A,ls,M,hb,ok.ne,ok.up,λi li=>?_};refine{_,M,a,_,S,_,_,M,ho,T.a8,T.aN,f9,L,_,M,.inl<|HS.of hb.lst,_,_,M,M,_,_,M,?_};let{x,ad}:=li.add ok ce;have em:(if((A.map V.ref).length:Int)-1<(i:Int)then((A.map V.ref).length:Int)-1 else(i:Int))=((min i (ls.length-1):Nat):Int):=by
    rw[lA];split<;>lia
   dsimp only;rw[em];generalize min i (ls.length-1)=j at ad⊢;let{c,ec,hc}:=hb.at ad.at_;have jl:j<ls.length:=(Q7.mp ad.at_).1;have x8:=ok.le x (Q2 ad.at_);refine{_,M,a,_,S,_,_,M,ho,T.a8,T.aN,f9,_,M,L,_,_,_,M,M,HS.of hb.lst,mi ec,?_};refine{_,M,.inl {M,_,HS.of hc},_,M,c,M,{_,HS.of hc},λD hD=>?_};refine qK (K:=K) (a:=c) (xs:=x.map V.int) (λn ys H3=>H3=upd H0 D (.lst ys)/\ys=((x.take n).filter<|λz=>decide (z<k)).map V.int) ⟨M,M⟩ (λn ys H3 _ w=>HS.of<|by rwa[w.1,ah (aq hc hD)]) (λn v ys H3 hv w U=>?_)<|λys H3 w U=>?_
   .let{e1,e2}:=w;obtain⟨g,rfl,eg⟩:∃g:Int,v= .int g/\x[n]?=some g:=by
     rw[Qp]at hv;cases e:x[n]? with
     |none=>rw[e]at hv;cases hv
     |some g=>rw[e]at hv;cases hv;exact⟨g,M,M⟩
    have hn:n<(x.map V.int).length:=(Q7.mp hv).1;refine{_,M,_,M,_,_,M,M,_,M,?_};have fl:ys.length<=8:=by
     rw[e2,Q0];have h1:=QT (λz=>decide (z<k)) (x.take n);have h2:(x.take n).length<=x.length:=by rw[Qq];lia
     lia
    by_cases cg:g<k
    .refine oA cg {_,M,Ie.mk hn U (bR ()) {by rw[e1,bS],?_}};rw[e2,QN,eg,Z6,Qf];simp[cg]
    .refine b6 cg<|Jd.mk hn U {e1,?_};rw[e2,QN,eg,Z6];simp[cg]
   .let{e1,e2}:=w;rw[Q0,Z3]at e2;have s3:HU H0 H3:=by rw[e1];exact ae hD
    have av:=hb.same s3;have b3:=s3 _ _ hc;have yl:(ys.length:Int)=((x.filter<|λz=>decide (z<k)).length:Int):=by rw[e2,Q0]
    have bo:=QT (λz=>decide (z<k)) x;refine{D,_,M,.inl<|HS.of U,_,M,c,_,_,_,M,M,b3,(),(by rw[Q0];lia),(by rw[Q0];exact bR ()),?_};have ei:(x.map V.int).take (ys.length:Int).toNat++V.int k::(x.map V.int).drop (ys.length:Int).toNat=(eM x k).map V.int:=by
     rw[yl,Int.toNat_natCast];unfold eM;rw[Qf,Qm,Zk,ZW]
    dsimp only;rw[ei];have Y:=av.write (y:=eM x k) ec ad.at_;have il:=Bi (l:=x) (k:=k);let{a2,Z}:=ad.set ok nk;have cF:Jq a L A c:= .inr (.inr<|Q2 ec);have f4:Fr (Jq a L A) (Jq a L A) H0 (upd H3 c<|.lst<|(eM x k).map V.int):=λb o n w=>{by rw[ah (λy=>n<|by rwa[y])];exact s3 _ _ w,n};have a3:upd H3 c (.lst<|(eM x k).map V.int) c=some (.lst<|(eM x k).map V.int):=BB;generalize upd H3 c (.lst<|(eM x k).map V.int)=H4 at Y f4 a3⊢;refine{_,M,c,_,M,.inl<|HS.of a3,_,_,M,M,_,M,?_};have ll:((eM x k).map V.int).length=x.length+1:=by rw[Q0,il]
    by_cases c9:x.length=8
    .refine oA (by rw[ll];lia) ?_;let{b4,b5,ba,bb}:=Y.insM;have e5:(ls.set j<|eM x k)[j]?=some (eM x k):=by rw[Qr,Xe M,Xe jl]
     refine{_,M,a,b4,b5,M,ba,bb _ ∅,_,M,a,L,A,_,j,_,M,Y,e5,(),by rw[QE];lia,λH6 A6 a4 f6=>?_};have er:(ls.set j<|eM x k).set j ((eM x k).take 4)=ls.set j ((eM x k).take 4):=List.set_set _;rw[er]at a4;have bd:cV (ls.set j<|(eM x k).take 4++(eM x k).drop 4).flatten:=by rwa[QF]
     let{be,a5}:=ok.parted ad.at_ (a:=(eM x k).take 4) (b:=(eM x k).drop 4) (by rw[Qq];lia) (by rw[QA];lia) bd;rw[QF]at a5;refine q H6 _ _ {L,A6,_,a4,be,M,λb=>Iff.rfl} (λz=>?_)<|fr.trans (f4.trans f6);rw[a5,Z,ef]
    .refine b6 (by rw[ll];lia) ?_;have bh:=ok.grown ad.at_ (y:=eM x k) () () a2;exact q H4 _ _ {L,A,_,Y,bh,M,λb=>Iff.rfl} (λz=>by rw[Z,ef])<|fr.trans f4
def EF(a l:B')(k n:Int)(ls:La)(H:Hp):Nat->St->Hp->Prop:=λm J H'=>∃(i:Nat),m=ls.length-i/\HU H H'/\H l=none/\J=[some (.ref a),some (.int k),some (.int n),some (.ref l),some (.int (i:Int))]/\i<=ls.length/\H' l=some (.lst<|(((ls.take i).flatten).filter λz=>decide (k<=z)).map V.int)
def sZ(e:ls[i]?=some x):(ls.take<|i+1).flatten=(ls.take i).flatten++x:=by
 rw[QN,e,Zi];simp
def vK(ls:La)(i:Nat):ls.flatten=(ls.take i).flatten++(ls.drop i).flatten:=by rw[<-Zi,QF]
def lf(T:Txt K mg t w):D3 P w K mg base IQ 2 t.gg t.dS [aF,ci,"most"] (kS K t):=by
 refine T.yv.okl IW λ_ _ _ s H vs Q E hr h _=>?_;intro X;let{a,k,n,F,ks,rfl,hA,hl,n0,q}:=h;refine ai (IL 3<|az ag)
   (ai (IL 4<|bc F3 T.a8 T.f7 (dq T) hr.mo T.gc .nil aM<|aa HW ag)
   (cm (λx=>(ve XA (PW.pt<|eQ (aA fY Je (aG aE {_} T.cz bF (aa (aO F3 M) ag))<|aH _)<|dM<|aA fY (aG aE {_} T.cz bF (aa IM ag)) IA<|aH _)
    x)) ?_))
 refine ai (bu<|c6 QD PySem.F.slot_list_extend PySem.F.type_list_extend yY IM<|aa (vk M (ID.of (M':=["one"]) (N:=[aF,ci,"most","told",ox]) (N':=[aF,ci,"most","told",ox]) (dsc:=aj cH) M M ∅) (tU<|aY aJ (aO F3 M) Je<|λ_ _=>M) (λ_ _ _ _ _=>(aA xX F3 IA<|aH _))<|λ_ _ _ _ _=>F3) ag)
   (aC (Aq (i:=4) IW.nd M (Or.inl M) am Bh) ?_)
 intros
 refine aC (ay<|bK cq IM cr<|bU IA) ?_
 intros
 let{L,A,ls,hb,ok,ef,hF}:=hA;refine{Qy _,λl Z=>?_};have s0:HU H (upd H l<|.lst []):=ae Z;have e0:upd H l (.lst []) l=some (.lst<|([]:Kk).map V.int):=BB;have S:=hb.same s0;generalize upd H l (.lst [])=H0 at s0 e0 S⊢;let{a4,a5,a6,a7}:=S.insM;refine{_,M,a,a4,a5,M,a6,a7 _ ∅,_,M,a,k,L,A,ls,M,S,ok.ne,ok.up,λi0 li=>?_};have f0:((ls.take i0).flatten).filter (λz=>decide (k<=z))=[]:=List.filter_eq_nil_iff.mpr λz hz=>by
  have:=zg ok li z hz;simpa using this
 have lA:((A.map V.ref).length:Int)=(ls.length:Int):=by rw[Q0,hb.len]
 refine{EF a l k n ls H,{_,i0,M,s0,Z,M,li.le,by rw[f0];exact e0},?_};rintro m J H' ⟨i,rfl,s1,_,rfl,il,e1⟩;have hb1:=hb.same s1;let{a0,a1}:=hb1.obj;have a2:∀(done:((((ls.take i).flatten).filter λz=>decide (k<=z)).take n.toNat)=(ks.filter λz=>decide (k<=z)).take n.toNat),∀p,H' p=none->Q (.ref p) (upd H' p<|.lst<|dZ ((((ls.take i).flatten).filter λz=>decide (k<=z)).map V.int) none<|some n):=λdone p np=>by
  refine q _ p (s1.trans<|ae np) ?_ ?_
  .cases e:H p with
   |none=>rfl
   |some o=>rw[s1 _ _ e]at np;cases np
  .rw[BB,Bs n0,<-Zk,done]
 refine{_,M,_,M,a,_,a0,_,_,M,a1,T.a8,T.aN,f9,L,_,M,.inl<|HS.of hb1.lst,_,_,M,M,_,M,?_};by_cases c:i<ls.length
 .refine oA (by rw[lA];lia) ?_;refine{_,M,l,_,M,.inl<|HS.of e1,_,M,_,_,M,M,_,M,?_};by_cases c2:((((((ls.take i).flatten).filter λz=>decide (k<=z)).map V.int).length:Nat):Int)<n
  .refine oA c2 ?_;refine{λac H''=>∃m',m'<ls.length-i/\EF a l k n ls H m' ac H'',λ_ _ h=>h,?_};have ex:ls[i]?=some ls[i]:=Qb c;let{b,eb,I}:=hb1.at ex;have lb:l≠b:=λz=>by
    let{b',a3,h'}:=hb.at ex;rw[eb]at a3;cases a3;rw[<-z,Z]at h';cases h'
   have ak:=QT (λz=>decide (k<=z)) (ls.take i).flatten;have af:(ls.take i).flatten.length+ls[i].length<=ks.length:=by
    rw[<-ef,vK ls (i+1),sZ ex,Q5,Q5];lia
   refine{_,M,.inl {M,_,HS.of e1},_,M,a,_,a0,_,_,M,a1,T.a8,T.aN,f9,_,M,L,_,_,_,M,M,HS.of hb1.lst,mi eb,b,M,{_,HS.of I},λD hD=>?_};generalize ls[i]=x at ex I af⊢;refine qK (K:=K) (a:=b) (xs:=x.map V.int) (λm ys H3=>H3=upd H' D (.lst ys)/\ys=((x.take m).filter<|λz=>decide (k<=z)).map V.int) ⟨M,M⟩ (λm ys H3 _ w=>HS.of<|by rw[w.1,ah (aq I hD)];exact I) (λm v ys H3 Y w O=>?_)<|λys H3 w O=>?_
   .let{w1,U}:=w;obtain⟨g,rfl,eg⟩:∃g:Int,v= .int g/\x[m]?=some g:=by
     rw[Qp]at Y;cases e:x[m]? with
     |none=>rw[e]at Y;cases Y
     |some g=>rw[e]at Y;cases Y;exact⟨g,M,M⟩
    have hn:m<(x.map V.int).length:=(Q7.mp Y).1;refine{_,M,_,M,_,_,M,M,_,M,?_};have fl:ys.length<=100000:=by
     rw[U,Q0];have h1:=QT (λz=>decide (k<=z)) (x.take m);have h2:(x.take m).length<=x.length:=by rw[Qq];lia
     lia
    by_cases cg:k<=g
    .refine oA cg {_,M,Ie.mk hn O (dE fl) {by rw[w1,bS],?_}};rw[U,QN,eg,Z6,Qf];simp[cg]
    .refine b6 cg<|Jd.mk hn O {w1,?_};rw[U,QN,eg,Z6];simp[cg]
   .let{w1,U}:=w;rw[Q0,Z3]at U;have s3:HU H' H3:=by rw[w1];exact ae hD
    have e3:=s3 _ _ e1;have al:=QT (λz=>decide (k<=z)) x;have hsz:((((ls.take i).flatten).filter λz=>decide (k<=z)).map V.int).length+ys.length<=sizeLine:=by
     rw[U,Q0,Q0];exact Zn<|dE ()
    refine{l,D,_,_,M,M,e3,O,hsz,?_};have hE:(((ls.take i).flatten).filter λz=>decide (k<=z)).map V.int++ys=(((ls.take<|i+1).flatten).filter λz=>decide (k<=z)).map V.int:=by
     rw[U,sZ ex,Z6,Qf]
    rw[hE];refine{_,M,_,_,M,M,_,?_,i+1,M,?_,Z,M,c,BB}
    .lia
    .exact fk (s1.trans s3) Z
  .refine b6 c2 ?_;refine{_,M,_,M,_,M,l,_,M,HS.of e1,a2 ?_};have:ks.filter (λz=>decide (k<=z))=((ls.take i).flatten).filter (λz=>decide (k<=z))++((ls.drop i).flatten).filter (λz=>decide (k<=z)):=by rw[<-ef,vK ls i,Z6]
   rw[this,List.take_append_of_le_length];rw[Q0]at c2;lia
 .refine b6 (by rw[lA];lia) ?_;have ei:i=ls.length:=();subst ei;refine{_,M,_,M,_,M,l,_,M,HS.of e1,a2 ?_};rw[Z3,ef]
theorem u9:∀{a b:Kk},cV a->cV b->(∀z,z∈a↔z∈b)->a=b
 | [],[],_,_,_=>rfl
 | [],y::r,_,_,h=>by have:=(h y).mpr Q6;cases this
 |x::r,[],_,_,h=>by have:=(h x).mp Q6;cases this
 |x::r,y::r',ha,hb,h=>by
  let{O,S}:=Zz.mp ha;let{b1,b2}:=Zz.mp hb;have I:x=y:=by
   rcases Qa.mp ((h x).mp Q6)with e|e
   .exact e
   .rcases Qa.mp ((h y).mpr Q6)with e2|e2
    .exact e2.symm
    .have h1:=b1 x e;have h2:=O y e2;lia
  subst I;rw[u9 S b2 λz=>?_];constructor
  .intro hz;rcases Qa.mp ((h z).mp<|Q4 _ hz)with e|e
   .have:=O z hz;lia
   .exact e
  .intro hz;rcases Qa.mp ((h z).mpr<|Q4 _ hz)with e|e
   .have:=b1 z hz;lia
   .exact e
def JS.rise(h:JS K t H a F ks):cV ks:=by
 let{_,_,ls,_,ok,z,_}:=h;rw[<-z];exact ok.up
def d9(Y:I0 K C bm)(k:RsB p H C E){x:Str}:mW K (tL C<|sJ (tC<|.str x) yz) E D J H:=by
 refine{(by show 1<=1000;decide),λea I=>{ea,C,none,bm,M,BB,Y,?_}};rw[bS];refine k ea none _ {BB,.inl ⟨M,M⟩} λb o q z=>?_;rw[ah (aq q I)];exact q
def vo(T:Txt K mg t w):D3 P w K mg base IQ 1 t.qN t.lB [lm] uQ:=by
 refine T.xA.okl uX λ_ _ _ s H vs Q E z h _=>?_;intro X;let{x,rfl,hx,k}:=h;refine{_,(ax<|ay<|m7 (aG eO {_} T.bp a9 (aa F3<|aa (j2 (v:= .ty "int") {_} T.zR ux M) ag))<|kZ<|Au<|aG eO {_} T.bp a9 (aa F3<|aa (j2 (v:= .ty "bool") {_} T.HI DH M) ag))
  ,?_}
 cases x with
 |int i=>
  refine{_,M,_,_,_,_,M,IH.int _,Fx,true,M,cT ?_};exact{_,M,_,_,_,_,M,IH.int _,Fy,_,M,k}
 |bl c=>
  refine{_,M,_,_,_,_,M,IH.bl _,Fz,true,M,cT ?_};exact{_,M,_,_,_,_,M,IH.bl _,FA,_,M,k}
 |str c=>exact{_,M,_,_,_,_,M,IH.str _,Fv,false,M,cX k}
 |non=>exact{_,M,_,_,_,_,M,IH.non,Fw,false,M,cX k}
 |_=>exact hx.elim
def k7(T:Txt K mg t w):D3 P w K mg base IQ 2 t.tG t.nM [lm,"low"] wB:=by
 refine T.fg.okl wG λ_ _ _ s H vs Q E z h _=>?_;intro X;let{x,lo,rfl,hx,k}:=h;refine{_,(ax<|ay<|m7 (aI (vo T) z.mo {_} T.Fu T.xA.kp T.F6 .nil aM (aa F3 ag))<|kZ<|eW xX F3 HW<|aH _)
  ,?_}
 cases x with
 |int i=>exact{_,M,_,M,hx,true,M,cT {_,M,_,M,_,_,M,M,k}}
 |bl c=>exact{_,M,_,M,hx,false,M,cX k}
 |str c=>exact{_,M,_,M,hx,false,M,cX k}
 |non=>exact{_,M,_,M,hx,false,M,cX k}
 |_=>exact hx.elim
def fE(T:Txt K mg t w):D3 P w K mg base IQ 1 t.hZ t.gT [aF,"kind",ox,u0] (fj K):=by
 refine T.ib.okl pK λ_ _ _ s H vs Q E U h _=>?_;intro X;let{p,C,dx,kd,a,e,rfl,hp,cl,I,O,S,k}:=h;refine ai (bx F3 HW M)
   (ai (bx F3 IA M)
   (aC (bx F3 IM M) ?_))
 intros
 refine{_,M,_,M,p,C,dx,[],M,hp,cl,I,(by show 0<1000;decide),_,M,_,M,p,C,dx,_,M,BB,cl,O,(by show 1<1000;decide),_,M,_,M,p,C,dx,_,M,BB,cl,S,?_,?_}
 .have h1:=jB (f:=ox) (v:=a) (bY "kind" (.str kd) []);have h2:=jB (f:="kind") (v:= .str kd) [];have Y:([]:Ks).length=0:=M;lia
 rw[bS,bS];refine k _ _ (λb o q z=>by rw[ah z];exact q) BB {?_,?_,?_,?_,?_}
 .rw[bf,Xc ∅,bf,Xc ∅,bf,Xe M]
 .rw[bf,Xc ∅,bf,Xe M]
 .rw[bf,Xe M]
 .rw[bf,Xc ∅,bf,Xc ∅,bf,Xc ∅];rfl
 .rw[bf,Xc ∅,bf,Xc ∅,bf,Xc ∅];rfl
def j7{x:V}{lo:Int}(h:isF lo x=true):∃i,x= .int i/\lo<=i:=by
 cases x with
 |int i=>exact{i,M,Xk h}
 |_=>cases h
def m9(T:Txt K mg t w):D3 P w K mg base (KH P w) 3 t.ju t.cE [aF,ox,u0] (mR t):=by
 let{I,z}:=T.g_PLACES;have a0:=Ic.nd;refine T.zQ.okC Ic (λvs H Q E h=>?_)<|λa1 A outer s H vs Q E U h=>?_
 .let{p,dx,a,e,rfl,_}:=h;rfl
 .let{p,dx,a,e,rfl,hp,sa,se,k1,k2}:=h;refine ai (aS (eR<|PW.pt<|eQ (cc<|aI (k7 T) U.mo {_} T.ix T.fg.kp T.iC .nil aM (aa HW<|aa am ag))<|eQ (cc<|aI (k7 T) U.mo {_} T.ix T.fg.kp T.iC .nil aM (aa IA<|aa HW ag))<|dM<|aA vn IA (bL (v:= .int 65536) {_} z {_,M})<|aH _)
   (ax<|im M lI<|bv T.aW T.dC {_} T.cP (aa ao ag))
   aB)
     (aC (bu<|tX {_} T.vB T.kz T.ib.kp (fE T) U.mo T.kA .nil aM (@ar _ _ _ _ _ F3 (@ar _ _ _ _ _ ao (@ar _ _ _ _ _ HW (@ar _ _ _ _ _ IA ag M) M) M) M)) ?_)
  intros
  refine{_,M,a,0,M,sa,_,M,dD (λc=>?_)<|λc=>?_}
  .let{i,rfl,i0}:=j7 c;refine{_,M,_,M,e,i,M,se,_,M,dD (λc=>?_)<|λc=>?_}
   .let{j,rfl,ij}:=j7 c;refine{_,M,_,_,M,M,_,M,?_};by_cases O:j<=65536
    .rw[Xg O];exact cX {_,M,_,M,_,M,p,_,dx,_,.int i,.int j,M,hp,T.xn,T.zK,T.BJ,T.AK,λH' fs k h f=>k1 ⟨i,j,M,M,i0,ij,O⟩ H' fs k h f}
    .rw[Xh O];exact cT<|d9 T.aW (k2 λzz=>by let{Z,j',S,e2,_,_,h}:=zz;cases e2;exact O h)
   .exact cT<|d9 T.aW (k2 λY=>by let{Z,j',S,e2,_,h,_}:=Y;exact c<|by cases S;rw[e2];exact Xg h)
  .exact cT<|d9 T.aW (k2 λY=>by let{Z,j',S,_,h,_}:=Y;exact c<|by rw[S];exact Xg h)
def vp(T:Txt K mg t w):D3 P w K mg base (KH P w) 3 t.qP t.fJ [aF,ox,u0] (uS t):=by
 have a0:=JU.nd;refine T.Gk.okC JU (λvs H Q E h=>?_)<|λa1 A outer s H vs Q E O h=>?_
 .let{p,dx,a,e,rfl,_}:=h;rfl
 .let{p,dx,a,e,rfl,hp,sa,se,k1,k2}:=h;refine ai (aS (eR<|PW.pt<|eQ (cc<|aI (k7 T) O.mo {_} T.ix T.fg.kp T.iC .nil aM (aa HW<|aa am ag))<|dM<|PW.pt<|xM (aA tZ IA jC<|aH _)<|tQ<|cc<|aI (k7 T) O.mo {_} T.ix T.fg.kp T.iC .nil aM (aa IA<|aa HW ag))
   (ax<|im M lI<|bv T.aW T.dC {_} T.cP (aa ao ag))
   aB)
     (aC (bu<|tX {_} T.vB T.kz T.ib.kp (fE T) O.mo T.kA .nil aM (@ar _ _ _ _ _ F3 (@ar _ _ _ _ _ ao (@ar _ _ _ _ _ HW (@ar _ _ _ _ _ IA ag M) M) M) M)) ?_)
  intros
  refine{_,M,a,0,M,sa,_,M,dD (λc=>?_)<|λc=>?_}
  .let{i,rfl,Z}:=j7 c;have z:okU (.int i) e->fj K [.ref p,.str "up",.int i,e] H (λ_ H'=>Q .non H') E0:=λok=>{p,_,dx,"up",.int i,e,M,hp,T.Hv,T.Fn,T.Hb,T.Gm,λH' fs k h f=>k1 ok H' fs k h f};by_cases I:e= .non
   .exact{_,M,M,_,M,jL I<|cX {_,M,_,M,_,M,z {i,M,Z,.inl I}}}
   .refine{_,M,M,_,M,b6 I {_,M,_,M,e,i,M,se,_,M,?_}};cases S:isF i e with
    |true=>
     let{j,rfl,ij}:=j7 S;exact cX {_,M,_,M,_,M,z {i,M,Z,.inr ⟨j,M,ij⟩}}
    |false=>
     refine cT<|d9 T.aW (k2 λU=>?_);let{i',Y,_,e2}:=U;cases Y;rcases e2 with e2|⟨j',e2,h⟩
     .exact I e2
     .rw[e2]at S;exact Xw S h
  .exact cT<|d9 T.aW (k2 λU=>by let{i',Y,h,_}:=U;exact c<|by rw[Y];exact Xg h)
def rZ(T:Txt K mg t w):D3 P w K mg base (KH P w) 3 t.mK t.dW [aF,ox,u0] (rA t):=by
 have a0:=JA.nd;refine T.Ed.okC JA (λvs H Q E h=>?_)<|λa1 A outer s H vs Q E O h=>?_
 .let{p,dx,a,e,rfl,_}:=h;rfl
 .let{p,dx,a,e,rfl,hp,sa,se,k1,k2}:=h;refine ai (aS (eR<|PW.pt<|eQ (cc<|aI (k7 T) O.mo {_} T.ix T.fg.kp T.iC .nil aM (aa IA<|aa am ag))<|dM<|PW.pt<|xM (aA tZ HW jC<|aH _)<|tQ<|cc<|aI (k7 T) O.mo {_} T.ix T.fg.kp T.iC .nil aM (aa HW<|aa IA ag))
   (ax<|im M lI<|bv T.aW T.dC {_} T.cP (aa ao ag))
   aB)
     (aC (bu<|tX {_} T.vB T.kz T.ib.kp (fE T) O.mo T.kA .nil aM (@ar _ _ _ _ _ F3 (@ar _ _ _ _ _ ao (@ar _ _ _ _ _ HW (@ar _ _ _ _ _ IA ag M) M) M) M)) ?_)
  intros
  refine{_,M,e,0,M,se,_,M,dD (λc=>?_)<|λc=>?_}
  .let{j,rfl,Z}:=j7 c;have z:okD a (.int j)->fj K [.ref p,.str "down",a,.int j] H (λ_ H'=>Q .non H') E0:=λok=>{p,_,dx,"down",a,.int j,M,hp,T.DF,T.C9,T.Fo,T.Eu,λH' fs k h f=>k1 ok H' fs k h f};by_cases I:a= .non
   .exact{_,M,M,_,M,jL I<|cX {_,M,_,M,_,M,z {j,M,Z,.inl I}}}
   .refine{_,M,M,_,M,b6 I {_,M,_,M,a,j,M,sa,_,M,?_}};cases S:isF j a with
    |true=>
     let{i,rfl,ij}:=j7 S;exact cX {_,M,_,M,_,M,z {j,M,Z,.inr ⟨i,M,ij⟩}}
    |false=>
     refine cT<|d9 T.aW (k2 λU=>?_);let{j',Y,_,e2}:=U;cases Y;rcases e2 with e2|⟨i',e2,h⟩
     .exact I e2
     .rw[e2]at S;exact Xw S h
  .exact cT (d9 T.aW<|k2 λU=>by let{j',Y,h,_}:=U;exact c<|by rw[Y];exact Xg h)
set_option genInjectivity false in
structure KA where
 p:Addr
 mo:Int
 v:V
structure KG(t:II)(H:Hp)(m l:B')(es:List KA):Prop where
 ob:∃dx,H m=some (.ins t.fc dx [("made",.ref l)])
 li:H l=some (.lst<|es.map λe=>V.ref e.p)
 tu:∀e∈es,H e.p=some (.tup [.int e.mo,e.v])
def KG.keep{m:B'}{es:List KA}(h:KG t H m l es)(z:H' m=H m)(e2:H' l=H l)(tp:∀b xs,H b=some (.tup xs)->H' b=some (.tup xs)):KG t H' m l es:={h.ob.imp λ_ e=>z.trans e,e2.trans h.li,λe he=>tp _ _<|h.tu e he}
def pr(t:II):Sp:=λvs H Q _=>∃(a dx:B'),vs=[.ref a]/\H a=some (.ins t.fc dx [])/\∀(H':Hp)(l:B'),KG t H' a l []->H l=none->(∀b o,b≠a->H b=some o->H' b=some o)->Q .non H'
def qo(T:Txt K mg t w):D3 P w K mg base IQ 1 t.kH t.gY [aF] (pr t):=by
 refine T.Ck.okl pP λ_ _ _ s H vs Q E O h _=>?_;intro X;let{a,dx,rfl,ha,q}:=h;refine{_,(ax<|bx F3 (az ag) M)
  ,?_}
 refine{Qy _,λl z=>{_,M,a,_,dx,[],M,(by rwa[ah (aq ha z)]),T.vY,T.sd,(by show 0<1000;decide),?_}};have I:a≠l:=aq ha z;exact q _ l {⟨dx,BB⟩,by rw[ah I.symm];exact BB,λe he=>by cases he} z λb o n e=>by rwa[ah n,ah (aq e z)]
def pq(t:II):Sp:=λvs H Q _=>∃(m l:B')(es:List KA)(mo:Int)(v:V),vs=[.ref m,.int mo,v]/\KG t H m l es/\es.length<100000/\
 ∀(H':Hp)(p:B'),KG t H' m l (es++ [⟨p,mo,v⟩])->H p=none->(∀b o,b≠l->H b=some o->H' b=some o)->Q .non H'
def qm(T:Txt K mg t w):D3 P w K mg base IQ 1 t.kG t.gX [aF,"moment",ih] (pq t):=by
 refine T.Cj.okl pO λ_ _ _ s H vs Q E S h _=>?_;intro X;let{m,l,es,mo,v,rfl,M',U,q}:=h;refine{_,(ax<|bu<|c6 QD QX QY fe (aO F3 M)<|aa (tV<|aa HW<|aa IA ag) ag)
  ,?_}
 let{dx,I}:=M'.ob;refine{_,M,m,_,dx,_,_,M,I,T.vY,T.sd,M,.inl {M,_,HS.of M'.li},_,M,_,M,(by show 2<=sizeLine;decide),λp np=>?_};have s1:=ae (o:= .tup [.int mo,v]) np;have pl:p≠l:=λz=>by rw[z,M'.li]at np;cases np
 have O:m≠l:=λz=>by have:=M'.li;rw[<-z,I]at this;cases this
 refine{l,_,_,M,M,s1 _ _ M'.li,dE (by rw[Q0];lia),?_};refine q _ p {{dx,by rw[ah O];exact s1 _ _ I},by rw[BB,Qf];rfl,λe he=>?_} np λb o n e=>by rw[ah n];exact s1 _ _ e
 rcases Qd.mp he with he|he
 .have te:=s1 _ _ (M'.tu e he);rwa[ah (λz=>by rw[z,s1 _ _ M'.li]at te;cases te)]
 .rw[Q9.mp he];rw[ah pl];exact BB
def JR.notup(h:JR K t H a F st)(e:H b=some (.tup xs)):¬F b:=λhb=>by
 let{d,h1,h2,_}:=h;let{dx,S}:=h1.obj;have I:∀o,H b=some o->(∀ys,o≠ .tup ys)->False:=λo q n=>by rw[e]at q;exact n _ (Xf q).symm
 rcases(h2 b).mp hb with rfl|rfl|rfl|hb|⟨hs,rfl⟩|hb
 .exact I _ S<|λ_ z=>by cases z
 .exact I _ h1.tbl<|λ_ z=>by cases z
 .exact I _ h1.row0.lst<|λ_ z=>by cases z
 .let{_,_,_,_,q}:=h1.row0.has hb;exact I _ q<|λ_ z=>by cases z
 .have r1:=h1.row1;cases O:st.nxt with
  |none=>rw[O]at hs;cases hs
  |some m=>rw[O]at r1;exact I _ r1.lst<|λ_ z=>by cases z
 .have r1:=h1.row1;cases O:st.nxt with
  |none=>rw[O]at r1;rw[r1.1]at hb;cases hb
  |some m=>
   rw[O]at r1;let{_,_,_,_,q}:=r1.has hb;exact I _ q<|λ_ z=>by cases z
def JS.notup(h:JS K t H a F ks)(e:H b=some (.tup xs)):¬F b:=λhb=>by
 let{L,A,ls,h1,_,_,h2}:=h;let{dx,O}:=h1.obj;have I:∀o,H b=some o->(∀ys,o≠ .tup ys)->False:=λo q n=>by rw[e]at q;exact n _ (Xf q).symm
 rcases(h2 b).mp hb with rfl|rfl|hb
 .exact I _ O<|λ_ z=>by cases z
 .exact I _ h1.lst<|λ_ z=>by cases z
 .let{_,_,_,_,q}:=h1.has hb;exact I _ q<|λ_ z=>by cases z
set_option genInjectivity false in
structure Pk where
 k:Int
 m:Addr
 l:Addr
 es:List KA
set_option genInjectivity false in
structure IK where
 now:Int
 fl:Int
 ma:Int
 st:IE
 ks:List Int
 di:List (Addr×List V)
 pa:List Pk
 ho:List (Int×V)
noncomputable def dY:List Pk->Int->List KA
 | [],_=> []
 |e::r,k=>if e.k=k then e.es else dY r k
noncomputable def Jh(pa:List Pk):List (Int×V):=pa.map λe=>(e.k,V.ref e.m)
def Jf(now fl:Int)(s l w:B')(mk:Int)(p h:B'):List (Str×V):=[("now",.int now),("floor",.int fl),(gr,.ref s),(kt,.ref l),("written",.ref w),("marks",.int mk),(fo,.ref p),("holders",.ref h)]
def NoH(m:Str):Prop:=m≠("now":Str)/\m≠("floor":Str)/\m≠(gr:Str)/\m≠(kt:Str)/\m≠("written":Str)/\m≠("marks":Str)/\m≠(fo:Str)/\m≠("holders":Str)
instance {m:Str}:Decidable (NoH m):=by unfold NoH;infer_instance
section
variable{now now' fl mk mk':Int}{s w:B'}{m:Str}
def oM:(Jf now fl s l w mk p h).lookup ("now":Str)=some (.int now):=eY
def FM:(Jf now fl s l w mk p h).lookup ("floor":Str)=some (.int fl):=by unfold Jf;rw[bQ ∅,eY]
def uk:(Jf now fl s l w mk p h).lookup (gr:Str)=some (.ref s):=by unfold Jf;rw[bQ ∅,bQ ∅,eY]
def xh:(Jf now fl s l w mk p h).lookup (kt:Str)=some (.ref l):=by unfold Jf;rw[bQ ∅,bQ ∅,bQ ∅,eY]
def Bj:(Jf now fl s l w mk p h).lookup ("written":Str)=some (.ref w):=by unfold Jf;rw[bQ ∅,bQ ∅,bQ ∅,bQ ∅,eY]
def FL:(Jf now fl s l w mk p h).lookup (fo:Str)=some (.ref p):=by unfold Jf;rw[bQ ∅,bQ ∅,bQ ∅,bQ ∅,bQ ∅,bQ ∅,eY]
def Ez(n:NoH m):(Jf now fl s l w mk p h).lookup m=none:=by
 let{h1,h2,z,I,O,S,U,Y}:=n;unfold Jf;rw[bQ h1,bQ h2,bQ z,bQ I,bQ O,bQ S,bQ U,bQ Y];rfl
def CO:bY ("now":Str) (.int now') (Jf now fl s l w mk p h)=Jf now' fl s l w mk p h:=by unfold Jf;rw[bY,Xe M]
def Dt:(Jf now fl s l w mk p h).length<1000:=by show 8<1000;decide
end
def Ow(a w p h:B')(pa:List Pk):Addr->Prop:=λb=>b=a\/b=w\/b=p\/b=h\/∃e∈pa,b=e.m\/b=e.l
structure JT(t:II)(H:Hp)(a s l w p h:B')(x:IK):Prop where
 ob:∃dx,H a=some (.ins t.br dx<|Jf x.now x.fl s l w x.ma p h)
 wr:H w=some (.lst<|x.di.map λe=>V.ref e.1)
 dr:∀e∈x.di,H e.1=some (.tup e.2)
 pa:H p=some (.dK<|bg<|Jh x.pa)
 ho:H h=some (.dK<|bg x.ho)
 mx:∀e∈x.pa,KG t H e.m e.l e.es
 ph:p≠h
 wl:∀e∈x.pa,e.l≠w
 kd:(x.pa.map (·.k)).Nodup
 md:(x.pa.map (·.m)).Nodup
 ld:(x.pa.map (·.l)).Nodup
def eI{t u:TS}(M':Le)(h1:∀nx,(∀z H',M' z H'->nx z H')->t {D with nx:=nx} J H)(h2:∀z H',M' z H'->u D z H'):uO t u D J H:=h1 (u D) h2
def Dv{H2:Hp}(s:HU H H2)(n:H2 p=none):H p=none:=by
 cases e:H p with
 |none=>rfl
 |some o=>rw[s _ _ e]at n;cases n
def AG{f:α->β}{l:List α}(n:(l.map f).Nodup){x y:α}(hx:x∈l)(hy:y∈l)(e:f x=f y):x=y:=by
 induction l with
 |nil=>cases hx
 |cons z r O=>
  let{I,S}:=QQ.mp n;rcases Qa.mp hx with rfl|hx'<;>rcases Qa.mp hy with rfl|hy'
  .rfl
  .exact Xd (Qn.mpr ⟨y,hy',e.symm⟩) I
  .exact Xd (Qn.mpr ⟨x,hx',e⟩) I
  .exact O S hx' hy'
section
variable{s w:B'}{x:IK}{pa:List Pk}{y:KA}
def JT.dom(A:JT t H a s l w p h x)(hb:Ow a w p h x.pa b):∃o,H b=some o/\∀ys,o≠ .tup ys:=by
 let{dx,I}:=A.ob;rcases hb with rfl|rfl|rfl|rfl|⟨e,he,rfl|rfl⟩
 .exact{_,I,λ_ z=>by cases z}
 .exact{_,A.wr,λ_ z=>by cases z}
 .exact{_,A.pa,λ_ z=>by cases z}
 .exact{_,A.ho,λ_ z=>by cases z}
 .let{S,O}:=(A.mx e he).ob;exact{_,O,λ_ z=>by cases z}
 .exact{_,(A.mx e he).li,λ_ z=>by cases z}
def JT.keep(A:JT t H a s l w p h x)(g:∀b,Ow a w p h x.pa b->H' b=H b)(tp:∀b xs,H b=some (.tup xs)->H' b=some (.tup xs)):JT t H' a s l w p h x:=
 {A.ob.imp λ_ e=>(g a<|.inl M).trans e,(g w<|.inr<|.inl M).trans A.wr,λe he=>tp _ _<|A.dr e he,(g p<|.inr<|.inr<|.inl M).trans A.pa,(g h<|.inr<|.inr<|.inr<|.inl M).trans A.ho,
  λe he=>(A.mx e he).keep (g _<|.inr<|.inr<|.inr<|.inr {e,he,.inl M}) (g _<|.inr<|.inr<|.inr<|.inr {e,he,.inr M}) tp,A.ph,A.wl,A.kd,A.md,A.ld}
def JT.same(A:JT t H a s l w p h x)(m:HU H H'):JT t H' a s l w p h x:=A.keep (λb hb=>by
 let{o,e,_}:=A.dom hb;rw[e];exact m _ _ e) λb xs e=>m _ _ e
def JT.set(A:JT t H a s l w p h x){now mk:Int}{fl:Int}:JT t (upd H a<|.ins t.br dx<|Jf now fl s l w mk p h) a s l w p h {x with now:=now,fl:=fl,ma:=mk}:=by
 let{U,O}:=A.ob;have n:∀{b:B'}{o:HO},H b=some o->(∀c d fs,o= .ins c d fs->fs.length=1)->b≠a:=λe i z=>by
  rw[z,O]at e;have:=i _ _ _ (Xf e).symm;cases this
 have I:∀{b:B'}{o:HO},H b=some o->(∀c d fs,o≠ .ins c d fs)->b≠a:=λe i=>n e λc d fs z=>Xd z (i c d fs);refine{⟨dx,BB⟩,by rw[ah (I A.wr λ_ _ _ z=>by cases z)];exact A.wr,λe he=>by rw[ah (I (A.dr e he) λ_ _ _ z=>by cases z)];exact A.dr e he,by rw[ah (I A.pa λ_ _ _ z=>by cases z)];exact A.pa,
  by rw[ah (I A.ho λ_ _ _ z=>by cases z)];exact A.ho,λe he=>?_,A.ph,A.wl,A.kd,A.md,A.ld}
 have M':=A.mx e he;let{Y,S}:=M'.ob;exact M'.keep (ah<|n S λ_ _ _ z=>by cases z;rfl) (ah<|I M'.li λ_ _ _ z=>by cases z) λb xs e=>by rwa[ah (I e λ_ _ _ z=>by cases z)]
def JT.row(A:JT t H a s l w p h x)(O:H r=some (.tup xs)):JT t (upd H w<|.lst<|x.di.map (λe=>V.ref e.1)++ [.ref r]) a s l w p h {x with di:=x.di++ [(r,xs)]}:=by
 let{U,S}:=A.ob;have I:∀{b:B'}{o:HO},H b=some o->(∀ys,o≠ .lst ys)->b≠w:=λe i z=>by
  rw[z,A.wr]at e;exact i _ (Xf e).symm
 refine{{U,by rw[ah (I S λ_ z=>by cases z)];exact S},by rw[BB,Qf];rfl,λe he=>?_,by rw[ah (I A.pa λ_ z=>by cases z)];exact A.pa,by rw[ah (I A.ho λ_ z=>by cases z)];exact A.ho,λe he=>?_,A.ph,A.wl,A.kd,A.md,A.ld}
 .rcases Qd.mp he with he|he
  .rw[ah (I (A.dr e he) λ_ z=>by cases z)];exact A.dr e he
  .rwa[Q9.mp he,ah (I O λ_ z=>by cases z)]
 .have M':=A.mx e he;let{Z,Y}:=M'.ob;exact M'.keep (ah<|I Y λ_ z=>by cases z) (ah<|A.wl e he) λb xs e=>by rwa[ah (I e λ_ z=>by cases z)]
noncomputable def Js(pa:List Pk)(k:Int)(y:KA):List Pk:=pa.map λe=>if e.k=k then{e with es:=e.es++ [y]}else e
def sP{f:Pk->β}(z:∀e es,f {e with es:=es}=f e):(Js pa k y).map f=pa.map f:=by
 unfold Js;rw[Zv];refine Zu λe _=>?_;show f (if e.k=k then _ else e)=_;split
 .exact z _ _
 .rfl
set_option tactic.hygienic true in
def tY{e:Pk}(h:e∈Js pa k y):∃g∈pa,e.k=g.k/\e.m=g.m/\e.l=g.l/\((g.k=k/\e.es=g.es++ [y])\/(g.k≠k/\e.es=g.es)):=by
 let{g,z,rfl}:=Qn.mp h;refine{g,z,?_};split
 .rename_i c;exact{M,M,M,.inl ⟨c,M⟩}
 .rename_i c;exact{M,M,M,.inr ⟨c,M⟩}
def Fe(hb:Ow a w p h (Js pa k y) b):Ow a w p h pa b:=by
 rcases hb with z|z|z|z|⟨e,he,z⟩
 .exact .inl z
 .exact .inr<|.inl z
 .exact .inr<|.inr (.inl z)
 .exact .inr<|.inr (.inr<|.inl z)
 .let{g,I,_,e2,O,_}:=tY he;rw[e2,O]at z;exact .inr<|.inr (.inr<|.inr ⟨g,I,z⟩)
def JT.noted(A:JT t H a s l w p h x){e:Pk}(he:e∈x.pa)(ek:e.k=k)(M':KG t H' e.m e.l (e.es++ [y]))(Y:∀b o,b≠e.l->H b=some o->H' b=some o):JT t H' a s l w p h {x with pa:=Js x.pa k y}:=by
 let{dy,ho}:=A.ob;have hl:=(A.mx e he).li;have I:∀{b:B'}{o:HO},H b=some o->(∀ys,o≠ .lst ys)->H' b=some o:=λe i=>Y _ _ (λz=>by
  rw[z,hl]at e;exact i _ (Xf e).symm) e
 refine{{dy,I ho<|λ_ z=>by cases z},Y _ _ (A.wl e he).symm A.wr,λe he=>I (A.dr e he) (λ_ z=>by cases z),?_,I A.ho (λ_ z=>by cases z),λf Z=>?_,A.ph,λf Z=>?_,?_,?_,?_}
 .show H' p=some (.dK<|bg<|Jh<|Js x.pa k y);unfold Jh;rw[sP λ_ _=>rfl];exact I A.pa λ_ z=>by cases z
 .obtain⟨g,O,e1,e2,S,⟨c,e4⟩|⟨c,e4⟩⟩:=tY Z
  .have:g=e:=AG A.kd O he (c.trans ek.symm);subst this;rw[e2,S,e4];exact M'
  .have U:=A.mx g O;let{dm,hm}:=U.ob;rw[e2,S,e4];exact U.keep ((I hm λ_ z=>by cases z).trans hm.symm) ((Y _ _ (λz=>c<|by rwa[AG A.ld O he z]) U.li).trans U.li.symm) λb xs e=>I e λ_ z=>by cases z
 .let{g,O,_,_,S,_}:=tY Z;rw[S];exact A.wl g O
 .show((Js x.pa k y).map (·.k)).Nodup;rw[sP λ_ _=>rfl];exact A.kd
 .show((Js x.pa k y).map (·.m)).Nodup;rw[sP λ_ _=>rfl];exact A.md
 .show((Js x.pa k y).map (·.l)).Nodup;rw[sP λ_ _=>rfl];exact A.ld
def xV(pa:List Pk)(k:Int):(aR (Jh pa) k=none/\k∉pa.map (·.k))\/∃e∈pa,e.k=k/\aR (Jh pa) k=some (.ref e.m)/\dY pa k=e.es:=by
 induction pa with
 |nil=>exact .inl {oU,λz=>by cases z}
 |cons e r S=>
  show(aR ((e.k,V.ref e.m)::Jh r) k=none/\_)\/∃g∈e::r,g.k=k/\aR ((e.k,V.ref e.m)::Jh r) k=_/\(if e.k=k then e.es else dY r k)=_;by_cases c:e.k=k
  .exact .inr {e,Q6,c,bI c,Xe c}
  .rw[bJ c,Xc c];rcases S with⟨I,O⟩|⟨g,U,I,O,Y⟩
   .refine .inl {I,λz=>?_};rw[Qm]at z;rcases Qa.mp z with z|z
    .exact c z.symm
    .exact O z
   .exact .inr {g,Q4 _ U,I,O,Y}
theorem sU:∀{pa:List Pk},k∉pa.map (·.k)->dY pa k=[]
 | [],_=>rfl
 |e::r,n=>by
  rw[Qm]at n;show(if e.k=k then e.es else dY r k)=[];rw[Xc λz=>n (by rw[z];exact Q6)];exact sU λz=>n (Q4 _ z)
theorem me{j:Int}:∀{pa:List Pk},k∈pa.map (·.k)->dY (Js pa k y) j=if j=k then dY pa k++ [y]else dY pa j
 |e::r,n=>by
  show(if(if e.k=k then{e with es:=e.es++ [y]}else e:Pk).k=j then(if e.k=k then{e with es:=e.es++ [y]}else e:Pk).es else dY (Js r k y) j)=if j=k then(if e.k=k then e.es else dY r k)++ [y]else(if e.k=j then e.es else dY r j)
  by_cases c:e.k=k
  .rw[Xe c,Xe c];show(if e.k=j then e.es++ [y]else dY (Js r k y) j)=_;by_cases d:j=k
   .rw[Xe d,Xe (c.trans d.symm)]
   .rw[Xc d,Xc λz=>d (z.symm.trans c),Xc λz=>d (z.symm.trans c)];by_cases m:k∈r.map (·.k)
    .rw[me m,Xc d]
    .have:Js r k y=r:=by
      unfold Js
      conv=>rhs;rw[<-List.map_id r]
      refine Zu λg I=>Xc λz=>m ?_;rw[<-z];exact Qn.mpr ⟨g,I,M⟩
     rw[this]
  .rw[Xc c,Xc c];have m:k∈r.map (·.k):=by
    rw[Qm]at n;rcases Qa.mp n with z|z
    .exact Xd z.symm c
    .exact z
   rw[me m];by_cases d:j=k
   .rw[Xe d,Xe d,Xc λz=>c (z.trans d)]
   .rw[Xc d,Xc d]
theorem qA{e:Pk}{j:Int}:∀{pa:List Pk},e.k∉pa.map (·.k)->dY (pa++ [e]) j=if j=e.k then e.es else dY pa j
 | [],_=>by
  show(if e.k=j then e.es else[])=if j=e.k then e.es else[]
  by_cases c:e.k=j
  .rw[Xe c,Xe c.symm]
  .rw[Xc c,Xc (Ne.symm c)]
 |g::r,n=>by
  rw[Qm]at n;show(if g.k=j then g.es else dY (r++ [e]) j)=if j=e.k then e.es else(if g.k=j then g.es else dY r j)
  rw[qA λz=>n (Q4 _ z)];by_cases c:g.k=j
  .rw[Xe c,Xe c,Xc λz=>n (by rw[<-z,<-c];exact Q6)]
  .rw[Xc c,Xc c]
def JT.newk(A:JT t H a s l w p h x){m g:B'}(nk:k∉x.pa.map (·.k))(M':KG t H m g [])(n1:¬Ow a w p h x.pa m)(U:¬Ow a w p h x.pa g):JT t (upd H p<|.dK<|bg<|Jh x.pa++ [(k,.ref m)]) a s l w p h {x with pa:=x.pa++ [⟨k,m,g,[]⟩]}:=by
 let{dy,Y}:=A.ob;have I:∀{b:B'}{o:HO},H b=some o->(∀ys,o≠ .dK ys)->b≠p:=λe i z=>by
  rw[z,A.pa]at e;exact i _ (Xf e).symm
 have Z:∀{m' l':B'}{es:List KA}{o:HO},KG t H m' l' es->KG t (upd H p o) m' l' es:=λM'=>by
  let{dm,hm}:=M'.ob;exact M'.keep (ah<|I hm λ_ z=>by cases z) (ah<|I M'.li λ_ z=>by cases z) λb xs e=>by rwa[ah (I e λ_ z=>by cases z)]
 refine{{dy,by rwa[ah (I Y λ_ z=>by cases z)]},by rw[ah (I A.wr λ_ z=>by cases z)];exact A.wr,λe he=>by rw[ah (I (A.dr e he) λ_ z=>by cases z)];exact A.dr e he,?_,by rw[ah A.ph.symm];exact A.ho,λe he=>?_,A.ph,λe he=>?_,?_,?_,?_}
 .rw[BB];show _=some (HO.dK<|bg<|Jh<|x.pa++ [{k,m,g,[]}]);unfold Jh;rw[Qf];rfl
 .rcases Qd.mp he with he|he
  .exact Z<|A.mx e he
  .rw[Q9.mp he];exact Z M'
 .rcases Qd.mp he with he|he
  .exact A.wl e he
  .rw[Q9.mp he];exact λz=>U (.inr<|.inl z)
 all_goals
  rw[Qf];refine List.nodup_append.mpr {?_,by simp,λu hu v O z=>?_}
 .exact A.kd
 .cases Q9.mp O;rw[z]at hu;exact nk hu
 .exact A.md
 .cases Q9.mp O;let{e,he,S}:=Qn.mp hu;exact n1<|.inr (.inr<|.inr<|.inr {e,he,.inl<|z.symm.trans S.symm})
 .exact A.ld
 .cases Q9.mp O;let{e,he,S}:=Qn.mp hu;exact U<|.inr (.inr<|.inr<|.inr {e,he,.inr<|z.symm.trans S.symm})
end
structure IT(pa pa':List Pk)(k:Int)(y:KA):Prop where
 of:∀j,dY pa' j=if j=k then dY pa k++ [y]else dY pa j
 ky:pa'.map (·.k)=if k∈pa.map (·.k)then pa.map (·.k)else pa.map (·.k)++ [k]
structure Jn(K:J5)(t:II)(H:Hp)(a s l w p h:B')(Fs Fl:Kh)(x:IK):Prop where
 o:JT t H a s l w p h x
 sl:JR K t H s Fs x.st
 lv:JS K t H l Fl x.ks
 a1:∀b,Fs b->¬Fl b
 a2:∀b,Ow a w p h x.pa b->¬Fs b
 a3:∀b,Ow a w p h x.pa b->¬Fl b
def Jt(a w p h:B')(Fs Fl:Kh)(pa:List Pk):Addr->Prop:=λb=>Fs b\/Fl b\/Ow a w p h pa b
section
variable{s w:B'}{Fs Fs' Fl Fl':Kh}{x x':IK}
def Jn.slots(B:Jn K t H a s l w p h Fs Fl x)(S:JR K t H' s Fs' st)(f:Fr Fs Fs' H H'):Jn K t H' a s l w p h Fs' Fl {x with st:=st}/\Fr (Jt a w p h Fs Fl x.pa) (Jt a w p h Fs' Fl x.pa) H H':=by
 have k1:∀b,Fl b->H' b=H b/\¬Fs' b:=λb hb=>by
  let{o,e}:=B.lv.dom hb;have:=f b o (λz=>B.a1 b z hb) e;exact{this.1.trans e.symm,this.2}
 have k2:∀b,Ow a w p h x.pa b->H' b=H b/\¬Fs' b:=λb hb=>by
  let{o,e,_}:=B.o.dom hb;have:=f b o (B.a2 b hb) e;exact{this.1.trans e.symm,this.2}
 have O:=B.o.keep (H':=H') (λb hb=>(k2 b hb).1) λb xs e=>(f b _ (B.sl.notup e) e).1;exact{{⟨O.ob,O.wr,O.dr,O.pa,O.ho,O.mx,O.ph,O.wl,O.kd,O.md,O.ld⟩,S,B.lv.frame λb hb=>(k1 b hb).1,λb h1 h2=>(k1 b h2).2 h1,λb hb=>(k2 b hb).2,B.a3},λb o n e=>{(f b o (λz=>n<|.inl z) e).1,λz=>z.elim (f b o (λz=>n<|.inl z) e).2 λz=>n<|.inr z}}
def Jn.leaves(B:Jn K t H a s l w p h Fs Fl x)(S:JS K t H' l Fl' ks)(f:Fr Fl Fl' H H'):Jn K t H' a s l w p h Fs Fl' {x with ks:=ks}/\Fr (Jt a w p h Fs Fl x.pa) (Jt a w p h Fs Fl' x.pa) H H':=by
 have k1:∀b,Fs b->H' b=H b/\¬Fl' b:=λb hb=>by
  let{o,e}:=B.sl.dom hb;have:=f b o (B.a1 b hb) e;exact{this.1.trans e.symm,this.2}
 have k2:∀b,Ow a w p h x.pa b->H' b=H b/\¬Fl' b:=λb hb=>by
  let{o,e,_}:=B.o.dom hb;have:=f b o (B.a3 b hb) e;exact{this.1.trans e.symm,this.2}
 have O:=B.o.keep (H':=H') (λb hb=>(k2 b hb).1) λb xs e=>(f b _ (B.lv.notup e) e).1;exact{{⟨O.ob,O.wr,O.dr,O.pa,O.ho,O.mx,O.ph,O.wl,O.kd,O.md,O.ld⟩,B.sl.frame λb hb=>(k1 b hb).1,S,λb h1=>(k1 b h1).2,B.a2,λb hb=>(k2 b hb).2},λb o n e=>{(f b o (λz=>n<|.inr<|.inl z) e).1,λz=>z.elim (λz=>n<|.inl z) λz=>z.elim (f b o (λz=>n<|.inr<|.inl z) e).2 λz=>n<|.inr (.inr z)}}
def Jn.own(B:Jn K t H a s l w p h Fs Fl x)(O:JT t H' a s l w p h x')(I:x'.st=x.st)(e2:x'.ks=x.ks)(f:Fr (Ow a w p h x.pa) (Ow a w p h x'.pa) H H'):Jn K t H' a s l w p h Fs Fl x'/\Fr (Jt a w p h Fs Fl x.pa) (Jt a w p h Fs Fl x'.pa) H H':=by
 have k1:∀b,Fs b->H' b=H b/\¬Ow a w p h x'.pa b:=λb hb=>by
  let{o,e}:=B.sl.dom hb;have:=f b o (λz=>B.a2 b z hb) e;exact{this.1.trans e.symm,this.2}
 have k2:∀b,Fl b->H' b=H b/\¬Ow a w p h x'.pa b:=λb hb=>by
  let{o,e}:=B.lv.dom hb;have:=f b o (λz=>B.a3 b z hb) e;exact{this.1.trans e.symm,this.2}
 exact{{O,by rw[I];exact B.sl.frame λb hb=>(k1 b hb).1,by rw[e2];exact B.lv.frame λb hb=>(k2 b hb).1,B.a1,λb h1 h2=>(k1 b h2).2 h1,λb h1 h2=>(k2 b h2).2 h1},λb o n e=>{(f b o (λz=>n<|.inr<|.inr z) e).1,λz=>z.elim (λz=>n<|.inl z) λz=>z.elim (λz=>n<|.inr<|.inl z) (f b o (λz=>n<|.inr<|.inr z) e).2}}
def Jn.dom(B:Jn K t H a s l w p h Fs Fl x)(hb:Jt a w p h Fs Fl x.pa b):∃o,H b=some o/\∀ys,o≠ .tup ys:=by
 have I:∀F:Addr->Prop,F b->(∀xs,H b=some (.tup xs)->¬F b)->∀o,H b=some o->∃o,H b=some o/\∀ys,o≠ .tup ys:=λF O n o e=>{o,e,λys z=>n ys (by rw[e,z]) O};rcases hb with hb|hb|hb
 .let{o,e}:=B.sl.dom hb;exact I Fs hb (λxs e=>B.sl.notup e) o e
 .let{o,e}:=B.lv.dom hb;exact I Fl hb (λxs e=>B.lv.notup e) o e
 .exact B.o.dom hb
def Jn.keep(B:Jn K t H a s l w p h Fs Fl x)(g:∀b,Jt a w p h Fs Fl x.pa b->H' b=H b)(tp:∀b xs,H b=some (.tup xs)->H' b=some (.tup xs)):Jn K t H' a s l w p h Fs Fl x:=
 {B.o.keep (λb hb=>g b<|.inr<|.inr hb) tp,B.sl.frame λb hb=>g b<|.inl hb,B.lv.frame λb hb=>g b<|.inr<|.inl hb,B.a1,B.a2,B.a3}
end
structure IR(x:IK):Prop where
 ks:∀z,z∈x.ks↔(aR x.st.kv z).isSome=true
 n0:0<=x.now
 m0:0<=x.ma
 dl:(x.di.length:Int)=x.now+x.ma
 pl:(x.pa.length:Int)<=x.now
 el:∀j,((dY x.pa j).length:Int)<=x.now
 sl:(x.st.kv.length:Int)<=x.now
 hn:(x.ho.map (·.1)).Nodup
 hv:∀p∈x.ho,x.fl<=p.1/\p.1<=x.now/\∃n:Int,p.2= .int n/\0<n
 fb:0<=x.fl/\x.fl<=x.now
 up:∀j,(dY x.pa j).Pairwise (λa b=>a.mo<b.mo)/\∀y∈dY x.pa j,y.mo<=x.now
def Ih(K:J5)(t:II)(H:Hp)(a:B')(F:Kh)(x:IK):Prop:=∃s l w p h Fs Fl,Jn K t H a s l w p h Fs Fl x/\IR x/\∀b,F b↔Jt a w p h Fs Fl x.pa b
section
variable{x:IK}
def Ih.ins(A:Ih K t H a F x):∃dx fs,H a=some (.ins t.br dx fs)/\(∀m,NoH m->fs.lookup m=none)/\fs.lookup ("now":Str)=some (.int x.now)/\fs.lookup ("floor":Str)=some (.int x.fl):=by
 let{s,l,w,p,h,Fs,Fl,B,_}:=A;let{dx,e}:=B.o.ob;exact{dx,_,e,λm z=>Ez z,oM,FM}
def Ih.ok(A:Ih K t H a F x):IR x:=by
 let{s,l,w,p,h,Fs,Fl,B,O,_}:=A;exact O
def Ih.dom(A:Ih K t H a F x)(hb:F b):∃o,H b=some o/\∀ys,o≠ .tup ys:=by
 let{s,l,w,p,h,Fs,Fl,B,_,g}:=A;exact B.dom<|(g b).mp hb
def Ih.out(A:Ih K t H a F x)(e:H b=none):¬F b:=λz=>by
 let{o,q,_}:=A.dom z;rw[q]at e;cases e
def Ih.keep(A:Ih K t H a F x)(g:∀b,F b->H' b=H b)(tp:∀b xs,H b=some (.tup xs)->H' b=some (.tup xs)):Ih K t H' a F x:=by
 let{s,l,w,p,h,Fs,Fl,B,O,f}:=A;exact{s,l,w,p,h,Fs,Fl,B.keep (λb hb=>g b<|(f b).mpr hb) tp,O,f}
def Ih.same(A:Ih K t H a F x)(m:HU H H'):Ih K t H' a F x:=A.keep (λb hb=>by
 let{o,e,_}:=A.dom hb;rw[e];exact m _ _ e) λb xs e=>m _ _ e
def Ih.upd(A:Ih K t H a F x)(n:¬F q)(I:∀xs,H q≠some (.tup xs)):Ih K t (L2.upd H q o) a F x:=A.keep (λb hb=>ah λz=>n<|z▸hb) λb xs e=>by rwa[ah λz=>I xs (by rw[<-z];exact e)]
end
def pD(t:II):Sp:=λvs H Q _=>∃(a s l w p h r:B')(k:Int)(x:IK)(v:V)(xs:Ke),vs=[.ref a,.ref r,v]/\JT t H a s l w p h x/\H r=some (.tup xs)/\JP xs 1=some (.int k)/\x.di.length<50000/\x.pa.length<50000/\(dY x.pa k).length<50000/\
 ∀(H':Hp)(pa':List Pk)(q:B'),JT t H' a s l w p h {x with now:=x.now+1,di:=x.di++ [(r,xs)],pa:=pa'}->IT x.pa pa' k {q,x.now+1,v}->Fr (Ow a w p h x.pa) (Ow a w p h pa') H H'->Q (.int<|x.now+1) H'
def qt(T:Txt K mg t w):D3 P w K mg base IQ 3 t.kM t.g9 [aF,"row",ih] (pD t):=by
 refine T.Cp.okl pT λ_ _ _ s H vs Q E hr h _=>?_;intro X;let{a,s,l,O,p,h,r,k,x,v,xs,rfl,A,ht,hk,l1,l2,l3,q}:=h;refine ai (IL 3<|aY nE HW am<|λ_ _=>M)
   (ai (m5 F3 am xg)
   (ai (bu<|c6 QD QX QY fe (aO F3 M)<|aa HW ag)
   (ai (bu<|bc (c6 PySem.F.plainAttrs_dict X6 PySem.F.type_dict_setdefault yX (aO F3 M)<|aa IM<|aa (jD T.Hd (qo T) hr.mo {_} T.Hh T.B9 .nil aM) ag) T.vY T.BL (qm T) hr.mo T.B8 .nil aM<|aa (aO F3 M)<|aa IA ag)
   (aC (ay<|aO F3 M) ?_))))
 intros
 let{dx,ho}:=A.ob;refine{_,M,r,_,_,_,M,M,IP.of ht,hk,?_};refine{_,M,a,_,dx,_,_,M,ho,T.aU,T.eX,oM,_,_,M,M,dx,_,ho,Dt,?_};rw[CO];have A1:=A.set (now:=x.now+1) (mk:=x.ma) (fl:=x.fl) (dx:=dx);have o1:∀b o,b≠a->H b=some o->upd H a (.ins t.br dx<|Jf (x.now+1) x.fl s l O x.ma p h) b=some o:=λb o n e=>by rwa[ah n]
 have ra:r≠a:=λz=>by rw[z,ho]at ht;cases ht
 have U:=o1 _ _ ra ht;generalize upd H a (.ins t.br dx<|Jf (x.now+1) x.fl s l O x.ma p h)=H1 at A1 o1 U⊢;let{a3,a0}:=A1.ob;refine{_,M,a,_,a3,_,_,M,a0,T.aU,T.ir,Bj,.inl {M,_,HS.of A1.wr},_,M,O,_,_,M,M,A1.wr,dE (by rw[Q0];show x.di.length<=_;lia),?_};have Y:=A1.row U;have o2:∀b o,¬Ow a O p h x.pa b->H b=some o->upd H1 O (.lst<|x.di.map (λe=>V.ref e.1)++ [.ref r]) b=some o:=λb o n e=>by rw[ah λz=>n (.inr<|.inl z)];exact o1 _ _ (λz=>n<|.inl z) e
 generalize upd H1 O (.lst<|x.di.map (λe=>V.ref e.1)++ [.ref r])=H2 at Y o2⊢;let{a4,a1}:=Y.ob;refine{_,M,a,_,a4,_,_,M,a1,T.aU,T.sf,FL,.inr<|.inr<|.inl {M,.inl {_,Y.pa}},_,M,λm dm nm nd a5=>{m,dm,M,BB,λH4 g M4 ng o4=>{M,?_}}};have s3:HU H2 (upd (upd H2 dm<|.own m) m<|.ins t.fc dm []):=fk (ae nd) nm;have s4:HU H2 H4:=λb o e=>o4 b o (λz=>by rw[z,nm]at e;cases e) (s3 b o e);have Z:=Dv s3 ng;have A4:=Y.same s4;have om:¬Ow a O p h x.pa m:=λz=>by let{o,e,_}:=Y.dom z;rw[nm]at e;cases e
 have og:¬Ow a O p h x.pa g:=λz=>by let{o,e,_}:=Y.dom z;rw[Z]at e;cases e
 have o5:∀b o,¬Ow a O p h x.pa b->H b=some o->H4 b=some o/\b≠m/\b≠g:=λb o n e=>{s4 _ _<|o2 b o n e,λz=>(by have:=o2 b o n e;rw[z,nm]at this;cases this),λz=>(by have:=o2 b o n e;rw[z,Z]at this;cases this)};clear s3 s4 o4 o2 o1 A1 Y a1 a0 ho A ng nm nd a5 Z U ht;refine{p,_,Sum.inl k,.ref m,M,M,A4.pa,(by rw[j5];exact dE<|by show(Jh x.pa).length<=_;unfold Jh;rw[Q0];lia),λu hu=>?A,λhn=>?B}
 case' A=>
  have hu:aR (bg<|Jh x.pa) (Sum.inl k:Key)=some u:=hu;rw[eD]at hu;obtain⟨e,he,S,ev,em⟩:∃e∈x.pa,e.k=k/\aR (Jh x.pa) k=some (.ref e.m)/\dY x.pa k=e.es:=by
   rcases xV x.pa k with⟨z,_⟩|z
   .rw[z]at hu;cases hu
   .exact z
  rw[ev]at hu;cases hu;obtain⟨I,A5,he,N,f5⟩:∃I,JT t H4 a s l O p h {x with now:=x.now+1,di:=x.di++ [(r,xs)],pa:=I}/\e∈I/\(∀y,IT x.pa (Js I k y) k y)/\Fr (Ow a O p h x.pa) (Ow a O p h I) H H4:=
   {x.pa,A4,he,λy=>{λj=>me<|Qn.mpr ⟨e,he,S⟩,by rw[sP λ_ _=>M,Xe (Qn.mpr ⟨e,he,S⟩)]},λb o n e=>{(o5 b o n e).1,n}}
  have le:e.es.length<50000:=by rwa[<-em]
  clear A4 em ev o5
 case' B=>
  have hn:aR (bg<|Jh x.pa) (Sum.inl k:Key)=none:=hn;rw[eD]at hn;have nk:k∉x.pa.map (·.k):=by
   rcases xV x.pa k with⟨_,z⟩|⟨e,_,_,z,_⟩
   .exact z
   .rw[z]at hn;cases hn
  have ep:bC (bg<|Jh x.pa) (Sum.inl k:Key) (.ref m)=bg (Jh x.pa++ [(k,.ref m)]):=by
   rw[j4];unfold bC;rw[cN,hn];rfl
  rw[ep];obtain⟨e,ee,S,le⟩:∃e:Pk,e={k,m,g,[]}/\e.k=k/\e.es.length<50000:={_,M,M,by show 0<50000;decide};obtain⟨I,A5,he,N,f5⟩:∃I,JT t (upd H4 p<|.dK<|bg<|Jh x.pa++ [(k,.ref m)]) a s l O p h {x with now:=x.now+1,di:=x.di++ [(r,xs)],pa:=I}/\e∈I/\(∀y,IT x.pa (Js I k y) k y)/\Fr (Ow a O p h x.pa) (Ow a O p h I) H (upd H4 p<|.dK<|bg<|Jh x.pa++ [(k,.ref m)]):=by
   refine{x.pa++ [e],ee▸A4.newk nk M4 om og,Qj _ Q6,λy=>{λj=>?_,?_},λb o n eb=>{?_,λz=>?_}}
   .have a2:e.k∉x.pa.map (·.k):=by rwa[S]
    rw[me (by rw[Qf];exact Qj _<|Q9.mpr S.symm),qA a2,qA a2,Xe S.symm,sU nk,ee];by_cases c:j=k
    .rw[Xe c,Xe c]
    .rw[Xc c,Xc c,Xc c]
   .rw[sP λ_ _=>M,Xc nk,Qf,<-S];rfl
   .rw[ah λz=>n (.inr<|.inr<|.inl z)];exact(o5 b o n eb).1
   .rcases z with z|z|z|z|⟨e',a6,z⟩
    .exact n<|.inl z
    .exact n<|.inr (.inl z)
    .exact n<|.inr (.inr<|.inl z)
    .exact n<|.inr (.inr<|.inr<|.inl z)
    .rcases Qd.mp a6 with y|y
     .exact n<|.inr (.inr<|.inr<|.inr ⟨e',y,z⟩)
     .rw[Q9.mp y,ee]at z;exact z.elim (o5 b o n eb).2.1 (o5 b o n eb).2.2
  have em:V.ref m=V.ref e.m:=by rw[ee]
  clear A4 M4 o5 om og hn nk ep;generalize upd H4 p (.dK<|bg<|Jh x.pa++ [(k,.ref m)])=H5 at A5 f5⊢;rw[em]
 all_goals
  have M5:=A5.mx e he;let{dy,hm}:=M5.ob;let{a7,a8}:=A5.ob;refine{e.m,dy,_,M,hm,bQ ∅,_,M,a,_,a7,_,_,M,a8,T.aU,T.eX,oM,_,M,e.m,e.l,e.es,_,v,M,M5,(),λH6 y M6 ny o6=>?_};have A6:=A5.noted he S M6 o6;let{ac,af}:=A6.ob;refine{_,M,a,_,ac,_,_,M,af,T.aU,T.eX,oM,q _ _ y A6 (N _)<|f5.trans λb o n eb=>{o6 b o (λz=>n<|.inr<|.inr<|.inr<|.inr {e,he,.inr z}) eb,λz=>n<|Fe z}}
def IK.new:IK:={0,0,0,IE.new,[],[],[],[]}
def IK.new_ok:IR IK.new:={λz=>{(λy=>by cases y),(λy=>by cases y)},(_),(_),M,(_),λ_=>by show((0:Nat):Int)<=0;decide,(_),Zc,(λ_ z=>by cases z),(_),λ_=>{XB,(λy z=>by cases z)}}
def cQ{f:Str}{nx:Hp->Prop}(k:∀H',H' a=some (.ins C dx<|bY f v fs)->(∀b,b≠a->H' b=H b)->nx H'):nx (upd H a<|.ins C dx<|bY f v fs):=k _ BB λ_ n=>ah n
def jI{n m:Nat}(h:Nat.ble (n+1) m=true):n<m:=Nat.le_of_ble_eq_true h
def pC(K:J5)(t:II):Sp:=λvs H Q _=>∃(a dx:B'),vs=[.ref a]/\H a=some (.ins t.br dx [])/\∀H' F,Ih K t H' a F IK.new->Fr (λb=>b=a) F H H'->Q .non H'
def qr(T:Txt K mg t w):D3 P w K mg base IQ 4 t.kL t.g8 [aF] (pC K t):=by
 refine T.Co.okl pS λ_ _ _ s H vs Q E hr h _=>?_;intro X;let{a,dx,rfl,ha,q}:=h;refine ai (bx F3 am M)
   (ai (bx F3 am M)
   (ai (bx F3 (jD T.Hc (qk T) hr.mo {_} T.Hg T.B6 .nil aM) M)
   (ai (bx F3 (jD T.Gn (ou T) hr.mo {_} T.Gp T.Bz .nil aM) M)
   (ai (bx F3 (az ag) M)
   (ai (bx F3 am M)
   (ai (bx F3 iq M)
   (aC (bx F3 iq M) ?_)))))))
 intros
 refine{_,M,a,_,dx,[],M,ha,T.aU,T.eX,jI (by kernel_rfl),cQ λH1 h1 o1=>?_};refine{_,M,a,_,dx,_,M,h1,T.aU,T.qy,jI (by kernel_rfl),cQ λH2 h2 o2=>?_};refine λs ds ns S a1=>{s,ds,M,BB,by rw[ah a1];exact BB,λH3 Fs S3 f3=>{M,?_}};have k3:∀b o,H2 b=some o->H3 b=some o/\¬Fs b:=λb o e=>f3 b o (λz=>z.elim (λz=>by rw[z,ns]at e;cases e) λz=>by rw[z,S]at e;cases e) (fk (ae S) ns _ _ e);let{h3,na}:=k3 _ _ h2;refine{_,M,a,_,dx,_,M,h3,T.aU,T.dP,jI (by kernel_rfl),cQ λH4 h4 o4=>?_};have S4:=S3.frame (H':=H4) λb hb=>o4 b λz=>na (z▸hb);refine λl dl nl U a2=>{l,dl,M,BB,by rw[ah a2];exact BB,λH5 Fl L5 f5=>{M,?_}};have k5:∀b o,H4 b=some o->H5 b=some o/\¬Fl b:=λb o e=>f5 b o (λz=>z.elim (λz=>by rw[z,nl]at e;cases e) λz=>by rw[z,U]at e;cases e) (fk (ae U) nl _ _ e);let{h5,nb}:=k5 _ _ h4;refine{_,M,a,_,dx,_,M,h5,T.aU,T.js,jI (by kernel_rfl),cQ λI h6 o6=>?_};have L6:=L5.frame (H':=I) λb hb=>o6 b λz=>nb (z▸hb);have S6:=(S4.same λb o e=>(k5 b o e).1).frame (H':=I) λb hb=>o6 b λz=>na (z▸hb);have ap:∀b,Fs b->¬Fl b:=λb hb=>by
  let{o,e}:=S4.dom hb;exact(k5 b o e).2
 have k6:∀b o,b≠a->H b=some o->I b=some o/\¬Fs b/\¬Fl b:=λb o n e=>by
  let{e3,n3}:=k3 b o (by rwa[o2 b n,o1 b n]);let{e5,n5}:=k5 b o (by rwa[o4 b n]);exact{by rwa[o6 b n],n3,n5}
 clear f3 k3 f5 k5 S4 L5 S3 ns S a1 nl U a2 h1 h2 h3 h4 h5 o1 o2 o4 o6;refine{Qy _,λwr nw=>{_,M,a,_,dx,_,M,ae nw _ _ h6,T.aU,T.ir,jI (by kernel_rfl),cQ λH7 h7 o7=>?_}};refine{_,M,a,_,dx,_,M,h7,T.aU,T.AH,jI (by kernel_rfl),cQ λH8 h8 o8=>?_};refine λp np=>{_,M,a,_,dx,_,M,ae np _ _ h8,T.aU,T.sf,jI (by kernel_rfl),cQ λH9 h9 o9=>?_};refine λh nh=>{_,M,a,_,dx,_,M,ae nh _ _ h9,T.aU,T.yV,jI (by kernel_rfl),cQ λa3 a5 a4=>?_};have kk:∀{A B:Hp}{q:B'}{u:HO},A q=none->(∀b,b≠a->B b=upd A q u b)->∀b o,b≠a->A b=some o->B b=some o:=λnq e b o n h=>by rwa[e b n,ah (aq h nq)]
 have wa:=(aq h6 nw).symm;have pa':=(aq h8 np).symm;have Y:=(aq h9 nh).symm;have e8:∀b o,b≠a->I b=some o->H8 b=some o:=λb o n e=>by rw[o8 b n];exact kk nw o7 b o n e
 have e9:=kk np o9;have Z:=kk nh a4;have w8:H8 wr=some (.lst []):=by rw[o8 _ wa,o7 _ wa];exact BB
 have p9:H9 p=some (.dK []):=by rw[o9 _ pa'];exact BB
 have a0:∀b o,b≠a->I b=some o->a3 b=some o:=λb o n e=>Z b o n (e9 b o n<|e8 b o n e);have O:JT t a3 a s l wr p h IK.new:={{dx,a5.trans<|by kernel_rfl},Z _ _ wa<|e9 _ _ wa w8,(λe he=>by cases he),Z _ _ pa' p9,by rw[a4 _ Y];exact BB,(λe he=>by cases he),aq p9 nh,(λe he=>by cases he),Zc,Zc,Zc};have fresh:∀b,(b=wr\/b=p\/b=h)->I b=none:=λb hb=>by
  cases e:I b with
  |none=>rfl
  |some o=>
   rcases hb with rfl|rfl|rfl
   .rw[nw]at e;cases e
   .rw[e8 _ _ pa' e]at np;cases np
   .rw[e9 _ _ Y (e8 _ _ Y e)]at nh;cases nh
 have ow:∀b,Ow a wr p h [] b->b=a\/I b=none:=λb hb=>by
  rcases hb with z|z|z|z|⟨e,he,_⟩
  .exact .inl z
  .exact .inr<|fresh b (.inl z)
  .exact .inr<|fresh b (.inr<|.inl z)
  .exact .inr<|fresh b (.inr<|.inr z)
  .cases he
 refine q _ (Jt a wr p h Fs Fl []) {s,l,wr,p,h,Fs,Fl,{O,S6.frame λb hb=>?_,L6.frame λb hb=>?_,ap,λb hb z=>?_,λb hb z=>?_},IK.new_ok,λ_=>Iff.rfl} λb o n e=>?_
 .let{o,e}:=S6.dom hb;rw[e];exact a0 b o (λz=>na<|z▸hb) e
 .let{o,e}:=L6.dom hb;rw[e];exact a0 b o (λz=>nb<|z▸hb) e
 .rcases ow b hb with y|y
  .exact na<|y▸z
  .exact S6.out y z
 .rcases ow b hb with y|y
  .exact nb<|y▸z
  .exact L6.out y z
 .let{c1,c2,c3}:=k6 b o n e;refine{a0 b o n c1,λz=>?_};rcases z with z|z|z
  .exact c2 z
  .exact c3 z
  .rcases ow b z with y|y
   .exact n y
   .rw[c1]at y;cases y
def Ih.klen{x:IK}(A:Ih K t H a F x):(x.ks.length:Int)<=x.now:=by
 let{s,l,w,p,h,Fs,Fl,B,O,_}:=A;let{L,A,ls,_,ok,e,_}:=B.lv;have I:x.ks.Nodup:=by
  rw[<-e];exact List.Pairwise.imp (λh z=>()) ok.up
 have:=qw (S:=x.st.kv.map (·.1)) I λz hz=>mem_keys.mpr ((O.ks z).mp hz);rw[Q0]at this;have:=O.sl;lia
def IR.noted{x:IK}{y:KA}(O:IR x)(N:IT x.pa pa' k y):(pa'.length:Int)<=x.now+1/\∀j,((dY pa' j).length:Int)<=x.now+1:=by
 constructor
 .have h1:=O.pl;have h2:=Xo List.length N.ky;rw[Q0]at h2;split at h2
  .rw[Q0]at h2;lia
  .rw[Q5,Q0,QS]at h2;lia
 .intro j;rw[N.of];split
  .have:=O.el k;rw[Q5,QS];lia
  .have:=O.el j;lia
def IR.hv1{x:IK}(O:IR x):∀p∈x.ho,x.fl<=p.1/\p.1<=x.now+1/\∃n:Int,p.2= .int n/\0<n:=λp hp=>{(O.hv p hp).1,by have:=(O.hv p hp).2.1;lia,(O.hv p hp).2.2}
def IR.fb1{x:IK}(O:IR x):0<=x.fl/\x.fl<=x.now+1:={O.fb.1,by have:=O.fb.2;lia}
def IR.up1{x:IK}{y:KA}(O:IR x)(N:IT x.pa pa' k y)(e:y.mo=x.now+1):∀j,(dY pa' j).Pairwise (λa b=>a.mo<b.mo)/\∀z∈dY pa' j,z.mo<=x.now+1:=λj=>by
 rw[N.of];let{S,I}:=O.up k;split
 .refine{QU.mpr {S,ZG _ _,λa ha b hb=>?_},λz hz=>?_}
  .rw[Q9.mp hb,e];have:=I a ha;lia
  .rcases Qd.mp hz with hz|hz
   .have:=I z hz;lia
   .rw[Q9.mp hz,e];exact ZQ _
 .let{U,Y}:=O.up j;exact{U,λz hz=>by have:=Y z hz;lia}
def rm(K:J5)(t:II):Sp:=λvs H Q _=>∃(a:B')(k i:Int)(F:Kh)(x:IK),vs=[.ref a,.int k,.int i]/\Ih K t H a F x/\0<=k/\x.now+x.ma<4000/\
 ∀(H':Hp)(F':Kh)(ks':Kk)(r q:B')(pa':List Pk),Ih K t H' a F' {x with now:=x.now+1,st:=x.st.put k (.int i),ks:=ks',di:=x.di++ [(r,[.str p0,.int k,.int i])],pa:=pa'}->IT x.pa pa' k {q,x.now+1,.int i}->Fr F F' H H'->Q (.int<|x.now+1) H'
set_option tactic.hygienic true in
def rY(T:Txt K mg t w):D3 P w K mg base (JV P w) 5 t.mI t.jh [aF,ci,ih] (rm K t):=by
 have an:=JD.nd;refine T.Eb.okX JD (λvs H Q E h=>?_)<|λap A outer s H vs Q E hr h=>?_
 .let{a,k,i,F,x,rfl,_}:=h;rfl
 .let{a,k,i,F,x,rfl,A,k0,l1,q}:=h;refine ai (aS (eR<|cc<|bc (aO F3 M) T.aK T.De (rW T) hr.mo T.DQ .nil aM<|aa HW ag)
   (ax<|bu<|bc (aO F3 M) T.a8 T.BN (qq T) hr.mo T.Cb .nil lU<|aa HW ag)
   aB)
     (ai (bu<|bc (aO F3 M) T.aK T.Dd (rV T) hr.mo T.DP .nil aM<|aa HW<|aa IA ag)
     (aC (ay<|bc F3 T.aU T.BO (qt T) hr.mo T.Cd .nil aM<|@ar _ _ _ _ _ (tV<|@ar _ _ _ _ _ ao (@ar _ _ _ _ _ HW (@ar _ _ _ _ _ IA ag M) M) M) (aa IA ag) M) ?_))
  intros
  have kl:=A.klen;let{s,l,Y,p,h,Fs,Fl,B,O,g}:=A;have n0:=O.n0;have m0:=O.m0;have sl:=O.sl;let{dx,ho}:=B.o.ob;let{ds,fs,hs,hm}:=B.sl.ins
  (try dsimp only)
  refine eI (λJ H2=>∃(U I:Kh)(S:Kk),J=[some (.ref a),some (.int k),some (.int i)]/\Jn K t H2 a s l Y p h U I {x with ks:=S}/\(∀z,z∈S↔z=k\/z∈x.ks)/\Fr (Jt a Y p h Fs Fl x.pa) (Jt a Y p h U I x.pa) H H2) (λnx go=>?_)<|λJ H2 w=>?_
  .refine{_,M,a,_,dx,_,_,M,ho,T.aU,T.dP,uk,s,ds,fs,M,hs,hm _ ∅,_,M,s,k,Fs,x.st,M,B.sl,k0,λH1 a0 S1 f1=>?_};let{B1,g1}:=B.slots S1 f1;let{a1,a2}:=B1.o.ob;let{dl,fl,hl,a3}:=B1.lv.ins;cases ev:(aR x.st.kv k).isSome with
   |true=>
    refine{_,M,dD (λc=>?_)<|λ_=>?_}
    .cases c
    .exact go _ _ {a0,Fl,x.ks,M,B1,λz=>{.inr,λy=>y.elim (λy=>by rw[y];exact(O.ks k).mpr ev) id},g1}
   |false=>
    have nk:k∉x.ks:=λz=>by have:=(O.ks k).mp z;rw[ev]at this;cases this
    refine{_,M,dD (λ_=>?_)<|λc=>?_}
    .refine{_,M,a,_,a1,_,_,M,a2,T.aU,T.js,xh,l,dl,fl,M,hl,a3 _ ∅,_,M,l,k,Fl,x.ks,M,B1.lv,(),λ_ H2 I S L2 mem f2=>?_,λz=>Xd z nk};let{B2,g2}:=B1.leaves L2 f2;exact go _ _ {a0,I,S,M,B2,mem,g1.trans g2}
    .exact Xd M c
  .let{U,I,S,rfl,B2,mem,g2}:=w;let{a4,a5}:=B2.o.ob;let{a6,a7,ac,af}:=B2.sl.ins;refine{_,M,a,_,a4,_,_,M,a5,T.aU,T.dP,uk,s,a6,a7,M,ac,af _ ∅,_,M,_,M,s,k,i,U,x.st,M,B2.sl,k0,(),λH3 Z S3 f3=>?_};let{B3,g3}:=B2.slots S3 f3;let{ak,al}:=B3.o.ob;refine{_,M,a,ak,_,M,al,Ez ∅,_,M,_,M,(by show 3<=sizeLine;decide),λr nr=>?_};have s4:=ae (o:= .tup [.str p0,.int k,.int i]) nr;have ht:upd H3 r (.tup [.str p0,.int k,.int i]) r=some (.tup [.str p0,.int k,.int i]):=BB;have B4:Jn K t (upd H3 r<|.tup [.str p0,.int k,.int i]) a s l Y p h Z I _:=B3.keep (λb hb=>by
    let{o,e,_}:=B3.dom hb;rw[e];exact s4 _ _ e) λb xs e=>s4 _ _ e
   have g4:=(g2.trans g3).trans (Fr.of_same s4);generalize upd H3 r (.tup [.str p0,.int k,.int i])=H4 at B4 ht g4⊢;have dl:=O.dl;have pl:=O.pl;have el:=O.el k;refine{_,M,a,s,l,Y,p,h,r,k,_,.int i,_,M,B4.o,ht,M,by show x.di.length<50000;lia,by show x.pa.length<50000;lia,by show(dY x.pa k).length<50000;lia,λH5 pa' y O5 N f5=>?_};let{B5,g5}:=B4.own O5 M M f5;let{N1,N2}:=O.noted N;have ek:(x.st.put k<|.int i).kv=bC x.st.kv k (.int i):=IE.three_kv;refine q H5 (Jt a Y p h Z I pa') S r y pa' {s,l,Y,p,h,Z,I,B5,{λz=>?_,by show 0<=x.now+1;lia,m0,?_,N1,N2,?_,O.hn,O.hv1,O.fb1,O.up1 N M},λ_=>Iff.rfl} N ?_
   .show z∈S↔(aR (x.st.put k<|.int i).kv z).isSome=true;rw[mem,ek,<-mem_keys,qD,O.ks];split
    .rename_i c
     rw[mem_keys];exact{λy=>y.elim (λy=>y▸c) id,.inr}
    .rw[Qd,Q9,mem_keys];exact{λy=>y.elim .inr .inl,λy=>y.elim .inr .inl}
   .show((x.di++ [(r,_)]).length:Int)=x.now+1+x.ma;rw[Q5,QS];lia
   .show((x.st.put k<|.int i).kv.length:Int)<=x.now+1;rw[ek];have:=dB x.st.kv k (.int i);lia
   .exact λb o n e=>(g4.trans g5) b o (λz=>n<|(g b).mpr z) e
def n9(K:J5):Sp:=λvs H Q _=>∃(a:B')(ns:Kk)(k:Int),vs=[.ref a,.int k]/\HS K H a (ns.map V.int)/\0<=k/\Q (.int<|ns.getD k.toNat 0) H
def db(T:Txt K mg t w):D3 P w K mg base IQ 1 t.jS t.fI [cx,"_law_k"] (n9 K):=by
 refine T.be.okl ol λ_ _ _ s H vs Q E S h _=>?_;intro X;let{a,ns,i,rfl,I,O,k}:=h;refine ai (aS (aA fY HW (aG aE {_} T.cz bF (aa F3 ag))<|aH _)
    (ax<|ay<|aY aJ F3 HW<|λ_ _=>M)
    aB)
   (aC (ay am) ?_)
 intros
 refine{_,M,_,M,a,_,M,.inl I,_,_,M,M,_,M,?_};refine dD (λc=>?_)<|λc=>?_
 .have c:=Xk c;rw[Q0]at c;exact{_,M,_,M,a,_,_,_,M,M,I,Bv O c,k}
 .have c:¬i<((ns.map V.int).length:Int):=λz=>c (Xg z);rw[Q0]at c;rw[Bu c]at k;exact k
def K3(H:Hp)(C:B')(E:XK):Prop:=∀(ea:B')(od:Kg)(H':Hp),J8 H' ea od C []->HU H H'->E (.ref ea) od H'
def b9{H0:Hp}(Y:I0 K C bm)(s:HU H H0)(k:K3 H C E){x:Str}:mW K (tL C<|sJ (tC<|.str x) yz) E D J H0:=by
 refine{(by show 1<=1000;decide),λea z=>{ea,C,none,bm,M,BB,Y,?_}};rw[bS];refine k ea none _ {BB,.inl ⟨M,M⟩} λb o q=>?_;have q:=s b o q;rw[ah (aq q z)];exact q
def dg(c:Nat):Bool:=decide (c∈sg (so:Str))
def Hu{c:Nat}(h:dg c=true):48<=c/\c<=57:=by
 have h:c∈[48,49,50,51,52,53,54,55,56,57]:=Xk h;simp at h;omega (config:={})
def Ds(c:Nat):(!(Builtin.Str.occurrences (so:Str) {#[c]} 0 (so:Str).length 1).isEmpty)=dg c:=StrLaws.found_one _ c
def sy(z:Str):Bool:=(decide (1<=(z.length:Int))&&decide ((z.length:Int)<=60))&&(!(decide ((sg z).head?=some 48)&&decide (z≠("0":Str))))&&(sg z).all dg
def oX:Sp:=λvs H Q _=>∃z:Str,vs=[.str z]/\z.length<=100000/\∀H',HU H H'->Q (.bl<|sy z) H'
def Jz:("0":Str)={#[48]}:=by decide+kernel
def EU:("-":Str)={#[45]}:=by decide+kernel
def xa:PySem.W.kitOne K (.type qs) (.type qs)=some true/\PySem.W.kitOne K (.type "int") (.type qs)=some false/\PySem.W.kitOne K (.type "NoneType") (.type qs)=some false/\PySem.W.kitOne K (.type "bool") (.type qs)=some false/\PySem.W.kitOne K (.type i1) (.type qs)=some false/\PySem.W.kitOne K (.type cs) (.type qs)=some false:=
 {by kernel_rfl,by kernel_rfl,by kernel_rfl,by kernel_rfl,by kernel_rfl,by kernel_rfl}
def qd(T:Txt K mg t w):D3 P w K mg base IQ 1 t.kC t.gN [ro] oX:=by
 let{Y,O}:=T.g_FIGURES;let{S,I}:=T.g_MOST_FIGURES;refine T.sC.okl pF λ_ _ _ s H vs Q E hr h _=>?_;intro X;let{z,rfl,zl,q}:=h;refine ai (aS (eR<|Am vn vn am (aG ut {_} T.cz bF (aa F3 ag))<|bL (v:= .int 60) {_} I {_,M})
    (ax<|ay lT)
    aB)
   (ai (aS (PW.pt<|eQ (cc<|c6 Qk X8 X9 sS F3<|aa ao ag)<|dM<|aA xW F3 ao<|aH _)
    (ax<|ay lT)
    aB)
   (aC (ay<|aG (zA M) {_} T.HL F2 (aa (tW M (ID.of (M':=["sign"]) (N:=[ro]) (N':=[ro]) (dsc:=aj eJ) M M ∅) (E7 F3)<|λ_ _ _ _ _=>(eW yP F3 (bL (v:= .str so) {_} O {_,M}) M)) ag)) ?_))
 intros
 have big:100000<=sizeLine:=by decide
 unfold sy at q;have last:(decide (1<=(z.length:Int))&&decide ((z.length:Int)<=60))=true->(!(decide ((sg z).head?=some 48)&&decide (z≠("0":Str))))=true->∀H',HU H H'->Q (.bl<|((sg z).map dg).all id) H':=λh1 h2 H' s=>by
  have:=q H' s;rw[h1,h2,Bool.true_and,Bool.true_and]at this;rwa[List.all_map]
 have Z:(decide (1<=(z.length:Int))&&decide ((z.length:Int)<=60))=true->(!(decide ((sg z).head?=some 48)&&decide (z≠("0":Str))))=true->∀D,H D=none->∀ys,ys=((sg z).map dg).map V.bl->∀H2,H2=upd H D (.lst ys)->H2 D=some (.lst ys)->∃(p:B')(bs:List Bool),[V.ref D]=[.ref p]/\HS K H2 p (bs.map V.bl)/\Q (.bl<|bs.all id) H2:=λh1 h2 D hD ys ey H2 e2 U=>
  {D,(sg z).map dg,M,HS.of (by rw[U,ey]),last h1 h2 H2<|by rw[e2];exact ae hD}
 refine{_,M,z,M,(),_,_,M,M,_,M,?_};by_cases c1:(1:Int)<=(z.length:Int)
 .refine oA c1 {_,_,M,M,_,M,?_};by_cases c2:(z.length:Int)<=60
  .rw[Xg c1,Xg c2]at q last Z;rw[Xg c2];refine cX ?_;refine{_,M,M,z,_,M,M,_,M,?_};rw[show(Str.ofString "0")={#[48]} from Jz,oV];have a0:(!(decide ((sg z).head?=some 48)&&decide (z≠("0":Str))))=true->∀D,H D=none->∃J3:Nat->Nat->List V->Hp->Prop,(∃m,J3 0 m [] (upd H D<|.lst []))/\∀i m ys H2,J3 i m ys H2->H2 D=some (.lst ys)->
     ((KN z).stop i H2/\∃(p:B')(bs:List Bool),[V.ref D]=[.ref p]/\HS K H2 p (bs.map V.bl)/\Q (.bl<|bs.all id) H2)\/((KN z).go i H2/\∀x H3,(KN z).yld i H2 x H3->Ka (λx y H Q=>∃i j,x= .str i/\y= .str j/\Q (.bl<|!(Builtin.Str.occurrences j i 0 j.length 1).isEmpty) H) (zY 0) (tC<|.str so) (some x::[some (V.str z)]) H3 λy H4=>H4 D=some (.lst ys)/\ys.length<sizeLine/\∃m',m'<m/\J3 (i+1) m' (ys++ [y]) (upd H4 D<|.lst<|ys++ [y])):=λh2 D hD=>by
    refine Bt (z:=z) (λi ys H2=>H2=upd H D (.lst ys)/\ys=(((sg z).take i).map dg).map V.bl) ⟨M,M⟩ (λi c ys H2 hc w U=>?_)<|λys H2 w U=>?_
    .have hi:i<z.cps.size:=by
      rcases Nat.lt_or_ge i z.cps.size with g|g
      .exact g
      .rw[Array.getElem?_eq_none g]at hc;cases hc
     have a1:(sg z)[i]?=some c:=by rw[<-hc];simp[sg]
     have l1:ys.length<=100000:=by
      rw[w.2,Q0,Q0,Qq];have:=cO z;lia
     refine{_,M,_,_,M,M,?_};rw[Ds];refine Ie.mk hi U (dE ()) {by rw[w.1,bS],?_};rw[w.2,QN,a1,Qf,Qf];rfl
    .refine Z M h2 D hD ys ?_ H2 w.1 U;rw[w.2,Qt];have:=cO z;have:z.length=z.cps.size:=M;lia
   by_cases c3:(sg z).head?=some 48
   .rw[Xg c3];refine cT {_,M,M,_,M,?_};by_cases c4:z=("0":Str)
    .refine Bg (by rw[c4,Jz]) ?_;exact{_,M,z,M,λD hD=>a0 (by simp[c4]) D hD}
    .refine Bf (λy=>c4<|(V.str.inj y).trans Jz.symm) ?_;have:=q H (HU.refl _);rw[Xg c3,Xg c4]at this;exact this
   .rw[Xh c3];refine cX ?_;exact{_,M,z,M,λD hD=>a0 (by simp[c3]) D hD}
  .rw[Xh c2];refine cT ?_;rw[Xh c2,Z9]at q;exact q H<|HU.refl _
 .refine b6 c1 ?_;rw[Xh c1]at q;exact{_,M,cT<|q H (HU.refl _)}
noncomputable def Jy(z:Str):Bool:=decide ((sg z).head?=some 45)
def JW(z:Str):Str:=if Jy z=true then Txt.slice z (some 1) none else z
def Ir(z:Str):Bool:=sy (JW z)&&!(Jy z&&decide (JW z=("0":Str)))
def Dx(z:Str):(JW z).length<=z.length:=by
 unfold JW;split
 .exact Txt.slice_le _ _ _
 .exact Qc _
def xk(z:Str):sg z=if Jy z=true then 45::sg (JW z)else sg (JW z):=by
 unfold JW;by_cases c:Jy z=true
 .rw[Xe c,Xe c,uT];have h:(sg z).head?=some 45:=Xk c;cases e:sg z with
  |nil=>rw[e]at h;cases h
  |cons a r=>rw[e]at h;cases h;rfl
 .rw[Xc c,Xc c]
def zC{z:Str}(h:Ir z=true)(hl:z.length<=640):∃n,PySem.intText? z=some n:=by
 unfold Ir sy at h;rw[Qv,Qv,Qv,Qv]at h;let{{{{h1,_},_},I},_}:=h;have ad:PySem.NumText.AllDigits (sg<|JW z):=λc hc=>Hu (Qx.mp I c hc);have ne:sg (JW z)≠[]:=λe=>by
  have h1:=Xk h1;rw[cO,e]at h1;simp at h1
 have fs:=xk z;by_cases c:Jy z=true
 .rw[Xe c]at fs;exact{_,PySem.intText_neg fs ad ne ()}
 .rw[Xc c]at fs;exact{_,PySem.intText_digits (by show PySem.NumText.AllDigits (sg z);rwa[fs]) (by show sg z≠[];rwa[fs]) ()}
def FS{z:Str}(h:sy (JW z)=true):z.length<=640:=by
 unfold sy at h;rw[Qv,Qv,Qv]at h;have h2:=Xk h.1.1.2;have fs:=xk z;have l1:=cO z;have l2:=cO (JW z);rw[fs]at l1;split at l1
 .rw[Q3]at l1;lia
 .lia
def qU(K:J5)(t:II):Sp:=λvs H Q E=>(∃z:Str,vs=[.str z]/\z.length<=100000/\(Ir z=true->∀n H',PySem.intText? z=some n->HU H H'->Q (.int n) H')/\(Ir z=false->K3 H t.bj E))\/
 (∃(x:V)(ty:Kb),vs=[x]/\IH K H x ty/\PySem.W.kitOne K ty (.type qs)=some false/\K3 H t.bj E)
def Cz{t u:TS}(M':Le)(h1:∀nx,(∀z H',M' z H'->nx z H')->t {D with nx:=nx} J H)(h2:∀z H',M' z H'->u D z H'):uO t u D J H:=h1 (u D) h2
def ku(T:Txt K mg t w):D3 P w K mg base (KH P w) 2 t.mt t.i4 [ro] (qU K t):=by
 have a0:=JF.nd;refine T.mM.okC JF (λvs H Q E h=>?_)<|λa1 A outer s H vs Q E hr h=>?_
 .rcases h with⟨z,rfl,_⟩|⟨x,ty,rfl,_⟩<;>rfl
 .refine ai (aS (eR<|cc<|aG eO {_} T.bp a9 (aa F3<|aa (j2 (v:= .ty qs) {_} T.cw bD M) ag))
   (ax<|im M lI<|bv T.cR T.xf {_} T.j3 (aa ao ag))
   aB)
     (ai (IL 1<|c6 Qk X8 X9 sS F3<|aa ao ag)
     (ai (IL 2<|vi (cc HW) (bK EV F3 (bU am) cr) F3)
     (ai (aS (PW.pt<|xM (eR<|cc<|aI (qd T) hr.mo {_} T.BQ T.sC.kp T.BV .nil aM (aa IA ag))<|tQ<|PW.pt<|eQ (cc HW)<|dM<|aA bV IA ao<|aH _)
   (ax<|im M lI<|bv T.cR T.xf {_} T.j3 (aa ao ag))
   aB)
     (aC (ay<|aP sr {_} T.zR ux (aa F3 ag)) ?_))))
  intros
  have big:100000<=sizeLine:=by decide
  rcases h with⟨z,rfl,U,q1,q2⟩|⟨x,ty,rfl,ht,hk,q⟩
  .refine{_,M,_,_,_,_,M,IH.str _,xa.1,true,M,cX ?_};refine{_,M,M,z,_,M,M,?_};rw[show(Str.ofString "-")={#[45]} from EU,oV,show decide ((sg z).head?=some 45)=Jy z from rfl];have fl:=Dx z
   (try dsimp only)
   refine Cz (λO H'=>O=[some (.str z),some (.bl<|Jy z),some (.str<|JW z)]/\H'=H) (λnx go=>?_)<|λO H' w=>?_
   .refine{_,M,_,M,dD (λc=>?_)<|λc=>?_}
    .refine{_,M,_,M,z,M,(),go _ _ {?_,M}};unfold JW;rw[Xe c];rfl
    .refine{_,M,go _ _ {?_,M}};unfold JW;rw[Xc c];rfl
   let{S,Z}:=w;rw[S,Z];clear S Z;refine{_,M,JW z,M,(),λH1 s1=>{_,M,?_}};unfold Ir at q1 q2;cases ea:sy (JW z)with
   |false=>
    refine cT ?_;refine cT ?_;exact b9 T.cR s1<|q2 (by rw[ea];rfl)
   |true=>
    refine cX {_,M,_,M,?_};have U:=FS ea;have ok:(!(Jy z&&decide (JW z=("0":Str))))=true->∃n,PySem.intText? z=some n/\∀H',HU H' H'->HU H H'->Q (.int n) H':=λh=>by
     have ac:Ir z=true:=by unfold Ir;rw[ea,h];rfl
     let{n,I}:=zC ac U;exact{n,I,λH' _ s=>q1 (by rw[ea,h];rfl) n H' I s}
    cases Y:Jy z with
    |true=>
     refine cT {_,M,M,_,M,?_};by_cases c:JW z=("0":Str)
     .refine jL (by rw[c]) ?_;exact b9 T.cR s1<|q2 (by rw[ea,Y,Xg c];rfl)
     .refine b6 (λy=>c<|V.str.inj y) ?_;let{n,I,k}:=ok (by rw[Y,Xh c];rfl);exact{_,M,z,n,M,I,U,k H1 (HU.refl _) s1}
    |false=>
     refine cX ?_;refine cX ?_;let{n,I,k}:=ok (by rw[Y];rfl);exact{_,M,z,n,M,I,U,k H1 (HU.refl _) s1}
  .refine{_,M,_,_,_,_,M,ht,hk,false,M,cT ?_};exact b9 T.cR (HU.refl _) q
def FW{c:Nat}(z:48<=c)(h1:c<=57):dg c=true:=by
 have e:sg (so:Str)=[48,49,50,51,52,53,54,55,56,57]:=by decide+kernel
 unfold dg;rw[e];refine Xg ?_;simp;lia
def ua(m:Nat):∀c∈(Nat.toDigits 10 m).map Char.toNat,48<=c/\c<=57:=λc hc=>by
 let{ch,z,e}:=Qn.mp hc;rw[<-e];exact PyProof.Rows.digit_range<|Nat.isDigit_of_mem_toDigits (_) (_) z
def t9(m:Nat):(Nat.toDigits 10 m).map Char.toNat≠[]:=λe=>by
 have h:0<(Nat.toDigits 10 m).length:=Nat.length_toDigits_pos;rw[List.map_eq_nil_iff.mp e]at h;exact Xd h (_)
def vq(m:Nat):0<m->((Nat.toDigits 10 m).map Char.toNat).head?≠some 48:=by
 induction m using Nat.strongRecOn with
 |_ m z=>
  intro h;by_cases c:m<10
  .rw[Nat.toDigits_of_lt_base c];have d:∀d:Nat,d<10->0<d->(Nat.digitChar d).toNat≠48:=by decide
   intro e;exact d m c h<|Xf e
  .have I:m%10<10:=Nat.mod_lt m (_);have t:Nat.toDigits 10 (m/10)++Nat.toDigits 10 (m%10)=Nat.toDigits 10 (10*(m/10)+m%10):=Nat.toDigits_append_toDigits (_) () I;rw[Nat.div_add_mod]at t;rw[<-t,Qf];have:=z (m/10) () ();cases q:(Nat.toDigits 10<|m/10).map Char.toNat with
   |nil=>exact Xd q<|t9 _
   |cons a r=>rw[q]at this;exact this
def qT:(rs:Str)={#[32]}:=by decide+kernel
def Jj(x:Str):Option V:=if x=("-":Str)then some .non else if Ir x=true then(PySem.intText? x).map V.int else none
def qY(t:II):Sp:=λvs H Q E=>∃x:Str,vs=[.str x]/\x.length<=640/\(∀a,Jj x=some a->∀H',HU H H'->Q a H')/\(Jj x=none->K3 H t.aQ E)
def rO(T:Txt K mg t w):D3 P w K mg base (K8 P w) 3 t.mC t.i8 ["word"] (qY t):=by
 have S:=JE.nd;refine T.mN.okD JE (λvs H Q E h=>?_)<|λU A outer s H vs Q E Y h=>?_
 .let{x,rfl,_}:=h;rfl
 .let{z,rfl,Z,q1,q2}:=h;refine ai (aS (aA bV F3 ao<|aH _)
   (ax<|ay jC)
   aB)
     (aC (CQ M M (λpn E=>(ax<|ay<|qa (ku T) Y.mo {_} T.uh T.mM.kp T.uy .nil Fd (aa F3 ag))) {_} T.j3 T.cR Ct (λea=>(bv T.aW T.dC {_} T.cP (aa ao ag)))) ?_)
  intros
  unfold Jj at q1 q2;by_cases c:z=("-":Str)
  .refine{_,M,M,_,M,jL (by rw[c]) ?_};rw[Xe c]at q1;exact q1 .non M H<|HU.refl _
  .rw[Xc c]at q1 q2;refine{_,M,M,_,M,b6 (λy=>c<|V.str.inj y) ?_};refine{_,M,.inl {z,M,Qw Z (_),λO n H' I s=>?_,λO ea od H' hx hs=>?_}}
   .rw[Xe O,I]at q1;exact q1 _ M H' s
   .refine{ea,t.bj,_,M,hx.1,T.cR,T.mQ,(by show 1<=1000;decide),λe2 I=>?_};have ne:e2≠ea:=λy=>by rw[y,BB]at I;cases I
    rw[ah ne]at I;refine{e2,t.aQ,none,_,M,ne,BB,(by rw[ah (Ne.symm ne)];exact BB),T.aW,?_};refine q2 (by rw[Xc (by rw[O];exact Q8)]) e2 none _ {BB,.inl ⟨M,M⟩} λb o q=>?_;have q:=hs b o q;rw[ah (aq q I)];by_cases y:b=ea
    .subst y;rw[BB,<-hx.1];exact q
    .rw[ah y,ah (aq q I),ah y];exact q
def K3.on(k:K3 H C E)(s:HU H H'):K3 H' C E:=λea od H2 hx hs=>k ea od H2 hx (s.trans hs)
def Tk(z:Str)(kd:Int)(a e:V):Prop:=∃wa we:Str,Txt.split z (rs:Str)=[Jx kd,wa,we]/\Jj wa=some a/\Jj we=some e/\Ji kd a e
def Ge(z:Str):Prop:=∀kd a e,¬Tk z kd a e
def Aj{x:Str}{a:V}(h:Jj x=some a):Sc a:=by
 unfold Jj at h;split at h
 .cases h;exact Xn
 .split at h
  .cases e:PySem.intText? x with
   |none=>rw[e]at h;cases h
   |some n=>rw[e]at h;cases h;exact Xn
  .cases h
def ml{kd kd':Int}(h:kd=0\/kd=1\/kd=2)(h':kd'=0\/kd'=1\/kd'=2)(e:Jx kd=Jx kd'):kd=kd':=by
 rcases h with rfl|rfl|rfl<;>rcases h' with rfl|rfl|rfl<;>first|rfl|exact Xd e ∅
def Tk.is{z U Y:Str}{kd:Int}{a e Z e':V}(es:Txt.split z (rs:Str)=[w0,U,Y])(ra:Jj U=some a)(re:Jj Y=some e)(h:Tk z kd Z e'):w0=Jx kd/\Z=a/\e'=e/\Ji kd a e:=by
 let{wa,we,I,O,S,ok}:=h;rw[es]at I;let{rfl,h2}:=List.cons.inj I;let{rfl,h3}:=List.cons.inj h2;let{rfl,_}:=List.cons.inj h3;rw[ra]at O;rw[re]at S;cases O;cases S;exact⟨M,M,M,ok⟩
def qV(K:J5)(t:II):Sp:=λvs H Q E=>(∃z:Str,vs=[.str z]/\z.length<=600/\(∀kd a e,Tk z kd a e->∀H' p,HU H H'->DY t H' p kd a e->Q (.ref p) H')/\(Ge z->K3 H t.aQ E))\/
 (∃(x:V)(ty:Kb),vs=[x]/\IH K H x ty/\PySem.W.kitOne K ty (.type qs)=some false/\K3 H t.aQ E)
def ud{N:B'}{kd:Str}{ok:V->V->Prop}{a e:V}(O:Sc a)(S:Sc e)(x dx:B')(nx:H x=none)(I:H dx=none)
  (q:ok a e->∀H' fs,HU H H'->H' x=some (.ins C dx fs)->DX kd fs a e->Q .non H') (r:¬ok a e->K3 H N E):xH C N kd ok [.ref x,a,e] (upd (upd H dx<|.own x) x<|.ins C dx []) Q E:=
 {x,dx,a,e,M,BB,O,S,λU H' fs k h f=>q U H' fs (sL nx I k) h f,λz ea od H' hx k=>r z ea od H' hx<|sL nx I k}
def rK(T:Txt K mg t w):D3 P w K mg base (K8 P w) 5 t.mw t.i5 [ro] (qV K t):=by
 let{S,I}:=T.g_WORDS_OF_TOKEN;have a2:=JI.nd;refine T.uC.okD JI (λvs H Q E h=>?_)<|λa3 A outer s H vs Q E hr h=>?_
 .rcases h with⟨z,rfl,_⟩|⟨x,ty,rfl,_⟩<;>rfl
 .refine ai (aS (eR<|cc<|aG eO {_} T.bp a9 (aa F3<|aa (j2 (v:= .ty qs) {_} T.cw bD M) ag))
   (ax<|mZ M oF<|bv T.aW T.dC {_} T.cP (aa ao ag))
   aB)
     (ai (IL 1<|c6 Qk PySem.F.slot_str_split PySem.F.type_str_split vx F3<|aa ao ag)
     (ai (aS (aA xW (aG aE {_} T.cz bF (aa HW ag)) (bL (v:= .int 3) {_} I {_,M})<|aH _)
   (ax<|mZ M oF<|bv T.aW T.dC {_} T.cP (aa ao ag))
   aB)
     (ai (IL 2<|aI (rO T) hr.mo {_} T.ui T.mN.kp T.uz .nil vm (aa (aY aJ HW am<|λ_ _=>M) ag))
     (ai (IL 3<|aI (rO T) hr.mo {_} T.ui T.mN.kp T.uz .nil vm (aa (aY aJ HW am<|λ_ _=>M) ag))
     (ai (aS (aA bV (aY aJ HW am<|λ_ _=>M) ao<|aH _)
   (ax<|ay<|oJ T.Fp (m9 T).toD hr.mo {_} T.wU T.zP .nil vm (aa IA<|aa IM ag))
   aB)
     (ai (aS (aA bV (aY aJ HW am<|λ_ _=>M) ao<|aH _)
   (ax<|ay<|oJ T.HN (vp T).toD hr.mo {_} T.HP T.F7 .nil vm (aa IA<|aa IM ag))
   aB)
     (ai (aS (aA bV (aY aJ HW am<|λ_ _=>M) ao<|aH _)
   (ax<|ay<|oJ T.HC (rZ T).toD hr.mo {_} T.HF T.DT .nil vm (aa IA<|aa IM ag))
   aB)
     (aC (mZ M oF<|bv T.aW T.dC {_} T.cP (aa ao ag)) ?_))))))))
  intros
  rcases h with⟨z,rfl,zl,q1,q2⟩|⟨x,ty,rfl,ht,hk,q⟩
  .refine{_,M,_,_,_,_,M,IH.str _,xa.1,true,M,cX ?_};refine{_,M,M,_,_,M,M,∅,(),λl nl=>?_};have wt:=PyProof.Rows.split_weight z (rs:Str) ∅;rw[show(Str.ofString rs)=(rs:Str) from rfl];generalize es:Txt.split z (rs:Str)=ws at wt⊢;have s1:=ae (o:= .lst<|ws.map V.str) nl;have e1:upd H l (.lst<|ws.map V.str) l=some (.lst<|ws.map V.str):=BB;generalize upd H l (.lst<|ws.map V.str)=H1 at s1 e1⊢;refine{_,M,l,_,M,.inl<|HS.of e1,M,_,M,?_};by_cases c3:ws.length=3
   .refine Bg (by rw[Q0,c3];rfl) ?_;obtain⟨w0,w1,w2,rfl⟩:∃w0 w1 w2,ws=[w0,w1,w2]:=by
     match ws,c3 with
     | [a,b,c],_=>exact⟨a,b,c,M⟩
    have l1:w1.length<=640/\w2.length<=640:=by simp at wt;lia
    refine{_,M,l,_,_,_,M,M,HS.of e1,M,w1,M,l1.1,λa ra H2 s2=>?_,λrn=>(q2 λkd a e zz=>by let{wa,we,O,a0,_}:=zz;exact (by rw[es]at O;cases O;rw[rn]at a0;cases a0)).on s1};have e2:=s2 _ _ e1;refine{_,M,l,_,_,_,M,M,HS.of e2,M,w2,M,l1.2,λe re H3 s3=>?_,λrn=>(q2 λkd a e zz=>by let{wa,we,O,_,a1,_}:=zz;exact (by rw[es]at O;cases O;rw[rn]at a1;cases a1)).on<|s1.trans s2};have Z:=s3 _ _ e2;have s:=(s1.trans s2).trans s3;have sa:=Aj ra;have se:=Aj re;have no:(∀kd,w0=Jx kd->¬Ji kd a e)->K3 H3 t.aQ E:=λk=>(q2 λkd a' e' h=>by
     let{h1,_,_,h4}:=Tk.is es ra re h;exact k kd h1 h4).on s
    have Y:∀kd,w0=Jx kd->Ji kd a e->Tk z kd a e:=λkd h ok=>{w1,w2,by rw[es,h],ra,re,ok};by_cases c0:w0=(gr:Str)
    .refine{_,M,l,_,_,_,M,M,HS.of Z,M,M,_,M,jL (by rw[c0]) {_,M,_,M,λx dx nx nd ne=>?_}};exact ud sa se x dx nx nd (λok H' fs s' h f=>{M,q1 0 a e (Y 0 c0<|.inl ⟨M,ok⟩) H' x (s.trans s') ⟨dx,fs,h,f⟩}) λU=>no λkd h ok=>U (by
      obtain rfl:kd=0:=ml ok.kd (.inl M) (h.symm.trans c0);exact ok.s)
    refine{_,M,l,_,_,_,M,M,HS.of Z,M,M,_,M,b6 (λy=>c0<|V.str.inj y) ?_};by_cases c1:w0=("up":Str)
    .refine{_,M,l,_,_,_,M,M,HS.of Z,M,M,_,M,jL (by rw[c1]) {_,M,_,M,λx dx nx nd ne=>?_}};exact ud sa se x dx nx nd (λok H' fs s' h f=>{M,q1 1 a e (Y 1 c1<|.inr<|.inl ⟨M,ok⟩) H' x (s.trans s') ⟨dx,fs,h,f⟩}) λU=>no λkd h ok=>U (by
      obtain rfl:kd=1:=ml ok.kd (.inr<|.inl M) (h.symm.trans c1);exact ok.u)
    refine{_,M,l,_,_,_,M,M,HS.of Z,M,M,_,M,b6 (λy=>c1<|V.str.inj y) ?_};by_cases c2:w0=("down":Str)
    .refine{_,M,l,_,_,_,M,M,HS.of Z,M,M,_,M,jL (by rw[c2]) {_,M,_,M,λx dx nx nd ne=>?_}};exact ud sa se x dx nx nd (λok H' fs s' h f=>{M,q1 2 a e (Y 2 c2<|.inr<|.inr ⟨M,ok⟩) H' x (s.trans s') ⟨dx,fs,h,f⟩}) λU=>no λkd h ok=>U (by
      obtain rfl:kd=2:=ml ok.kd (.inr<|.inr M) (h.symm.trans c2);exact ok.d)
    refine{_,M,l,_,_,_,M,M,HS.of Z,M,M,_,M,b6 (λy=>c2<|V.str.inj y) ?_};have nn:K3 H3 t.aQ E:=no λkd h ok=>by
     rcases ok.kd with rfl|rfl|rfl
     .exact c0 h
     .exact c1 h
     .exact c2 h
    exact b9 (D:={λ_ _=>False,λ_ _=>False,λ_ _=>False,λ_ _=>False}) (J:=[]) T.aW (HU.refl _) nn
   .refine Bf (λy=>c3<|by have:=V.int.inj y;rw[Q0]at this;lia) ?_;exact b9 T.aW s1<|q2 λkd a e zz=>by let{wa,we,O,_}:=zz;exact c3 (by rw[es]at O;rw[O];rfl)
  .refine{_,M,_,_,_,_,M,ht,hk,false,M,cT ?_};exact b9 T.aW (HU.refl _) q
def jP{f:α->V}{ms:List α}{g:Int}(h:0<=g):dZ (ms.map f) (some g) none=(ms.drop g.toNat).map f:=by
 unfold dZ HT.sIx;dsimp only;rw[Xc (),ZW];rcases Nat.le_total g.toNat (ms.map f).length with c|c
 .rw[ZM c];exact Qt<|by rw[QA];lia
 .rw[Nat.min_eq_right c,List.drop_of_length_le c,List.drop_of_length_le (Qc _),List.take_nil]
def oe(K:J5)(t:II):Sp:=λvs H Q _=>∃(a:B')(lo:Int)(F:Kh)(x:IK),vs=[.ref a,.int lo]/\Ih K t H a F x/\0<=lo/\
 ∀(H':Hp)(r:B'),HU H H'->H r=none->H' r=some (.lst<|(x.di.drop lo.toNat).map λe=>V.ref e.1)->Q (.ref r) H'
def oy(T:Txt K mg t w):D3 P w K mg base IQ 1 t.jU t.dU [aF,"low"] (oe K t):=by
 have I:=Ik.nd;refine T.BH.ok Ik (λvs H Q E h=>?_)<|λS A outer s H vs Q E Z h=>?_
 .let{a,lo,F,x,rfl,_}:=h;rfl
 .let{a,lo,F,x,rfl,A,l0,q}:=h;refine{_,(ax<|ay<|bK cq (aO F3 M) (bU<|aG (zz M) {_} T.HK FZ (aa HW<|aa am ag)) cr)
   ,?_}
  let{s,l,U,p,h,Fs,Fl,B,O,g}:=A;let{dx,Y}:=B.o.ob;refine{_,M,a,_,dx,_,_,M,Y,T.aU,T.ir,Bj,?_};have e0:(if(0:Int)>lo then(0:Int)else lo)=lo:=Xc ();refine{_,M,_,_,M,lo,by rw[e0],U,_,M,HS.of B.o.wr,λr z=>q _ r (ae z) z ?_};rw[BB,jP l0]
def rq(K:J5)(t:II):Sp:=λvs H Q _=>∃(a:B')(k:Int)(v:V)(F:Kh)(x:IK),vs=[.ref a,.int k]/\Ih K t H a F x/\0<=k/\aR x.st.kv k=some v/\∀H' F',Ih K t H' a F' x->Fr F F' H H'->Q v H'
def kx(T:Txt K mg t w):D3 P w K mg base (JV P w) 5 t.mJ t.ji [aF,ci] (rq K t):=by
 have Z:=JJ.nd;refine T.Ec.okX JJ (λvs H Q E h=>?_)<|λa0 A outer s H vs Q E hr h=>?_
 .let{a,k,v,F,x,rfl,_}:=h;rfl
 .let{a,k,v,F,x,rfl,A,k0,U,q}:=h;refine{_,(ax<|ay<|bc (aO F3 M) T.aK T.Df (rX T) hr.mo T.DR .nil lU<|aa HW ag)
   ,?_}
  let{s,l,Y,p,h,Fs,Fl,B,O,g}:=A;let{dx,ho}:=B.o.ob;let{ds,fs,hs,hm}:=B.sl.ins;refine{_,M,a,_,dx,_,_,M,ho,T.aU,T.dP,uk,s,ds,fs,M,hs,hm _ ∅,_,M,s,k,Fs,x.st,M,B.sl,k0,λv' I H1 S S1 f1=>?_,λz=>by rw[U]at z;cases z};rw[U]at I;cases I;let{B1,g1}:=B.slots S1 f1;exact q H1 (Jt a Y p h S Fl x.pa) {s,l,Y,p,h,S,Fl,B1,O,λ_=>Iff.rfl} λb o n e=>g1 b o (λz=>n<|(g b).mpr z) e
def pB(K:J5)(t:II):Sp:=λvs H Q _=>∃(a:B')(F:Kh)(x:IK),vs=[.ref a]/\Ih K t H a F x/\∀H' F',Ih K t H' a F' x->Fr F F' H H'->(∀dx fs l,H a=some (.ins t.br dx fs)->fs.lookup (kt:Str)=some (.ref l)->∃Fl,JS K t H' l Fl x.ks)->Q (.int x.st.kv.length) H'
def jG(T:Txt K mg t w):D3 P w K mg base IQ 2 t.kK t.g7 [aF] (pB K t):=by
 refine T.Cn.okl pR λ_ _ _ s H vs Q E hr h _=>?_;intro X;let{a,F,x,rfl,A,q}:=h;refine{_,(ax<|ay<|io (aO F3 M) T.aK T.BK (qj T) hr.mo T.B0 .nil aM)
  ,?_}
 let{s,l,S,p,h,Fs,Fl,B,O,g}:=A;let{dx,U}:=B.o.ob;let{ds,fs,hs,hm}:=B.sl.ins;refine{_,M,a,_,dx,_,_,M,U,T.aU,T.dP,uk,s,ds,fs,M,hs,hm _ ∅,s,Fs,x.st,M,B.sl,λH1 I S1 f1=>?_};let{Y,g1}:=B.slots S1 f1;refine q H1 (Jt a S p h I Fl x.pa) {s,l,S,p,h,I,Fl,Y,O,λ_=>Iff.rfl} (λb o n e=>g1 b o (λz=>n<|(g b).mpr z) e) λdy fy ly Z e2=>?_;rw[U]at Z;let{_,_,rfl}:=HO.ins.inj (Xf Z);rw[xh]at e2;cases e2;exact⟨Fl,Y.lv⟩
def Em(x:String):sg (Str.ofString x)=x.toList.map Char.toNat:=by
 rw[Str.ofString_eq_toList]
def iH{i:Int}(I: -(10^60)<i)(h1:i<10^60):i.natAbs.log2<1920:=by
 rcases Zm i.natAbs with z|z
 .rw[z];decide
 .refine(Nat.log2_lt<|X0 z).mpr ?_;have:i.natAbs<10^60:=();exact Nat.lt_trans this<|Ql (show 10^60<2^200 by decide) (Nat.pow_le_pow_right (_) (_))
def lK{i:Int}(z: -(10^60)<i)(h1:i<10^60):(Str.ofString<|toString i).length<=61:=by
 have h:(toString i).length<=60+1:=PySem.int_text_length_le10 (_) ();rw[Str.ofString_eq_toList];show((toString i).toList.map Char.toNat).toArray.size<=61;rwa[Qg,Q0]
def K9(p:Int×Int):Str:=Str.ofString (toString p.1)++(rs:Str)++Str.ofString (toString p.2)
def Ih.lvs{x:IK}(A:Ih K t H a F x):∃(dx:B')(fs:Ks)(l:B')(Fl:Kh),H a=some (.ins t.br dx fs)/\fs.lookup (kt:Str)=some (.ref l)/\JS K t H l Fl x.ks:=by
 let{s,l,I,p,h,Fs,Fl,B,O,g}:=A;let{dx,z}:=B.o.ob;exact{dx,_,l,Fl,z,xh,B.lv}
def Dr{xs:Kk}{x:V}(h:(xs.map V.int)[i]?=some x):∃k:Int,x= .int k/\xs[i]?=some k:=by
 rw[Qp]at h;cases e:xs[i]? with
 |none=>rw[e]at h;cases h
 |some k=>rw[e]at h;cases h;exact⟨k,M,M⟩
def CC{p:Int×Int}(h: -(10^60)<p.1/\p.1<10^60/\-(10^60)<p.2/\p.2<10^60):(K9 p).length<=123:=by
 unfold K9;rw[lJ,lJ];have h1:=lK h.1 h.2.1;have h2:=lK h.2.2.1 h.2.2.2;have z:(rs:Str).length=1:=by decide+kernel
 lia
def yC:Sp:=λvs H Q _=>∃k v:Int,vs=[.int k,.int v]/\(-(10^60)<k/\k<10^60/\-(10^60)<v/\v<10^60)/\Q (.str<|K9 (k,v)) H
def yQ(T:Txt K mg t w):D3 P w K mg base IQ 1 t.v7 t.qI [ci,ih] yC:=by
 refine T.BE.okl yG λ_ _ _ s H vs Q E z h _=>?_;intro X;let{k,v,rfl,b,q}:=h;refine{_,(ax<|ay<|Fa F3 HW)
  ,?_}
 have l1:=CC (p:=(k,v)) b;have l2:(K9 (k,v)).length=(Str.ofString (toString k)++(rs:Str)).length+(Str.ofString<|toString v).length:=lJ _ _;have big:1000<=sizeLine:=by decide
 exact{_,M,k,M,iH b.1 b.2.1,(),_,M,v,M,iH b.2.2.1 b.2.2.2,by show(K9 (k,v)).length<=sizeLine;lia,q}
structure K0(K:J5)(t:II)(H:Hp)(a:B')(F:Kh)(x:IK)(ps:Ku):Prop where
 A:Ih K t H a F x
 ks:x.ks=ps.map (·.1)
 kv:∀p∈ps,aR x.st.kv p.1=some (.int p.2)
 ln:x.st.kv.length=ps.length
 bd:∀p∈ps,0<=p.1/\p.1<10^60/\-(10^60)<p.2/\p.2<10^60
 le:ps.length<=3000
def K0.to{x:IK}(J4:K0 K t H a F x ps)(A:Ih K t H' a F' x):K0 K t H' a F' x ps:=⟨A,J4.ks,J4.kv,J4.ln,J4.bd,J4.le⟩
def wz(K:J5)(t:II):Sp:=λvs H Q _=>∃(a:B')(F:Kh)(x:IK)(ps:Ku),vs=[.ref a]/\K0 K t H a F x ps/\∀(H':Hp)(F':Kh)(l:B'),K0 K t H' a F' x ps->Fr F F' H H'->¬F' l->H' l=some (.lst<|(ps.map K9).map V.str)->Q (.ref l) H'
def wM(T:Txt K mg t w):D3 P w K mg base (JV P w) 6 t.tE t.nJ [pp] (wz K t):=by
 have a7:=JX.nd;refine T.zE.okX JX (λvs H Q E h=>?_)<|λac A outer s H vs Q E hr h=>?_
 .let{a,F,x,ps,rfl,_}:=h;rfl
 .let{a,F,x,ps,rfl,J4,q}:=h;refine ai (IL 1<|bc (aO F3 M) T.a8 T.x4 (lf T) hr.mo T.yk .nil aM<|aa am<|aa (io F3 T.aU T.si (jG T) hr.mo T.sw .nil aM) ag)
    (aC (ay<|tW M (ID.of (M':=[ci]) (N:=[pp,"keys"]) (N':=[pp,"keys"]) (dsc:=aj jZ) M M ∅) (tU HW)<|λ_ _ _ _ _=>(aI (yQ T) hr.mo {_} T.Hj T.BE.kp T.Hx .nil aM (aa F3<|aa (bc HW T.aU T.uf (kx T) hr.mo T.uA .nil fB<|aa F3 ag) ag))) ?_)
  intros
  let{dx,fs,l,Fl,ho,hl,L}:=J4.A.lvs;let{dL,fL,hL,a0}:=L.ins;let{dh,fh,hh,a1,_}:=J4.A.ins;refine{_,M,a,_,dx,fs,_,M,ho,T.aU,T.js,hl,l,dL,fL,M,hL,a0 _ ∅,_,M,a,dh,fh,M,hh,a1 _ ∅,a,F,x,M,J4.A,λH1 F1 A1 f1 lv=>?_};let{a2,L1}:=lv dx fs l ho hl;have J1:=J4.to A1;have lk:x.ks.length<=3000:=by rw[J4.ks,Q0];exact J4.le
  have ef:(x.ks.filter λz=>decide (0<=z))=ps.map (·.1):=by
   rw[List.filter_eq_self.mpr λz hz=>?_,J4.ks];rw[J4.ks]at hz;let{p,hp,rfl}:=Qn.mp hz;exact Xg (J4.bd p hp).1
  refine{l,0,_,a2,x.ks,M,L1,(),(),λH2 g s2 ng hg=>?_};rw[ef,J4.ln,show((ps.length:Int)).toNat=ps.length from rfl,Qt (by rw[Q0];exact Qc _)]at hg;have A2:=A1.same s2;have f2:Fr F F1 H H2:=f1.trans (Fr.of_same s2);have a3:¬F1 g:=A1.out ng
  (try dsimp only)
  refine{_,M,g,M,{_,HS.of hg},λD hD=>?_};refine zu (K:=K) (a:=g) (xs:=(ps.map (·.1)).map V.int) (λi ys H3=>∃(O:Kh),Ih K t H3 a O x/\Fr F1 O H2 H3/\¬O D/\ys=((ps.take i).map K9).map V.str) {F1,A2.same<|ae hD,Fr.of_same<|ae hD,A2.out hD,by rw[List.take_zero];rfl} (λi ys H3 _ w=>?_) (λi y ys H3 hy w I=>?_)<|λys H3 w I=>?_
  .let{O,U,S,_}:=w;exact HS.of (S _ _ a3 hg).1
  .let{O,U,S,nD,rfl}:=w;have hi:i<((ps.map (·.1)).map V.int).length:=(Q7.mp hy).1;let{k,rfl,hk}:=Dr hy;rw[Qp]at hk;cases c:ps[i]? with
   |none=>rw[c]at hk;cases hk
   |some p=>
    rw[c]at hk;cases hk;have pm:=Q2 c;have bd:=J4.bd p pm;let{d3,a4,a5,a6,_}:=U.ins;refine{_,M,_,M,a,d3,a4,M,a5,a6 _ ∅,_,M,a,p.1,_,O,x,M,U,bd.1,J4.kv p pm,λH4 F4 A4 f4=>{p.1,p.2,M,{(),bd.2.1,bd.2.2},?_}};let{Y,Z}:=f4 _ _ nD I;refine Ie.mk hi Y (dE<|by rw[Q0,Q0,Qq];have:=J4.le;lia) {F4,A4.upd Z (λxs z=>by rw[Y]at z;cases z),?_,Z,?_}
    .exact λb o n e=>{by rw[ah (aq e hD)];exact((S.trans f4) b o n e).1,((S.trans f4) b o n e).2}
    .rw[QN,c,Qf,Qf];rfl
  .let{O,U,S,nD,rfl}:=w;rw[Q0,Q0,Z3]at I;exact q H3 O D (J4.to U) (f2.trans S) nD I
theorem kO{m:Nat}:∀{ws:Kc},(∀x∈ws,x.length<=m)->(ws.map (·.length)).sum<=ws.length*m
 | [],_=>by simp
 |a::r,h=>by
  have:=kO (ws:=r) λx hx=>h x (Q4 _ hx);have:=h a Q6;simp only[Qm,List.sum_cons,Q3,Nat.add_mul,Nat.one_mul];lia
def Fj{i:Int}(h0: -(10^60)<i)(h1:i<10^60):Ir (Str.ofString<|toString i)=true/\PySem.intText? (Str.ofString<|toString i)=some i/\∀c∈sg (Str.ofString<|toString i),c=45\/(48<=c/\c<=57):=by
 have dl:∀m:Nat,m<10^60->((Nat.toDigits 10 m).map Char.toNat).length<=60:=λm h=>by rw[Q0];exact(Nat.length_toDigits_le_iff (_) (_)).mpr h
 have Y:∀{z:Str}{m:Nat},m<10^60->sg z=(Nat.toDigits 10 m).map Char.toNat->sy z=true:=λ{z m} hm e=>by
  have ad:=ua m;have I:=vq m;have ne:=t9 m;have Z:=dl m hm;rw[<-e]at ad I ne Z;have l1:1<=z.length:=by
   rw[cO];cases q:sg z with
   |nil=>exact Xd q ne
   |cons a r=>simp
  have l2:z.length<=60:=by rwa[cO]
  unfold sy;rw[Xg (show(1:Int)<=(z.length:Int) by lia),Xg (show(z.length:Int)<=60 by lia),Qx.mpr λc hc=>FW (ad c hc).1 (ad c hc).2];by_cases c:(sg z).head?=some 48
  .have z0:z=("0":Str):=by
    rcases Zm m with y|y
    .rw[y]at e;refine gh<|e.trans ?_;decide+kernel
    .exact Xd c<|I y
   rw[Xh (show ¬z≠("0":Str) from λq=>q z0),Z9];rfl
  .rw[Xh c];rfl
 rcases Int.lt_or_le i 0 with a0|pos
 .obtain⟨k,rfl⟩:∃k:Nat,i= -((k+1:Nat):Int):={i.natAbs-1,()};have e:sg (Str.ofString<|toString ((k+1:Nat):Int))=(Nat.toDigits 10<|k+1).map Char.toNat:=PySem.W.KIN.signs_num (k+1);have es:sg (Str.ofString<|toString<|-((k+1:Nat):Int))=45::(Nat.toDigits 10<|k+1).map Char.toNat:=by
   rw[Em]at e⊢;show("-"++toString (k+1)).toList.map Char.toNat=_;rw[String.toList_append,Qf];exact Xo (45:: ·) e
  generalize Str.ofString (toString<|-((k+1:Nat):Int))=z at es;have O:Jy z=true:=Xg (by rw[es];rfl);have fs:=xk z;rw[Xe O,es]at fs;have fs':sg (JW z)=(Nat.toDigits 10<|k+1).map Char.toNat:=(List.cons.inj fs).2.symm;have S:=Y () fs';have ad:=ua (k+1);have ne:=t9 (k+1);have U:PySem.NumText.digitsVal ((Nat.toDigits 10<|k+1).map Char.toNat)=k+1:=PySem.W.KIN.val_back _;have nz:JW z≠("0":Str):=λq=>by
   have I:=vq (k+1) ();rw[<-fs',q]at I;exact I ∅
  have lz:z.length<=61:=by
   have:=dl (k+1) ();rw[cO,es,Q3];lia
  refine{?_,?_,λc hc=>?_}
  .unfold Ir;rw[S,O,Xh nz];rfl
  .rw[PySem.intText_neg es ad ne (),U]
  .rw[es]at hc;rcases Qa.mp hc with h|h
   .exact .inl h
   .exact .inr<|ad c h
 .let{m,rfl}:=QC pos;have es:sg (Str.ofString<|toString (m:Int))=(Nat.toDigits 10 m).map Char.toNat:=PySem.W.KIN.signs_num m;generalize Str.ofString (toString (m:Int))=z at es;have ad:=ua m;have ne:=t9 m;have U:PySem.NumText.digitsVal ((Nat.toDigits 10 m).map Char.toNat)=m:=PySem.W.KIN.val_back _;have S:=Y () es;have lz:z.length<=61:=by
   have:=dl m ();rw[cO,es];lia
  have hd:(sg z).head?≠some 45:=λq=>by
   rw[es]at q;have:=ad 45 (List.mem_of_mem_head? q);lia
  have O:Jy z=false:=Xh hd;have fz:JW z=z:=by unfold JW;rw[O];rfl
  refine{?_,?_,λc hc=> .inr<|ad c (by rwa[<-es])}
  .unfold Ir;rw[fz,S,O];rfl
  .have r:=PySem.intText_digits (x:=z) (by show PySem.NumText.AllDigits (sg z);rwa[es]) (by show sg z≠[];rwa[es]) ();rw[r];show some ((PySem.NumText.digitsVal (sg z):Nat):Int)=some (m:Int);rw[es,U]
def Ih.rise{x:IK}(A:Ih K t H a F x):cV x.ks:=by
 let{_,_,_,_,_,_,L}:=A.lvs;exact L.rise
def K0.put{H H':Hp}{a:B'}{F F':Kh}{x x':IK}{ps:Ku}{k v:Int}(J4:K0 K t H a F x ps)(A:Ih K t H' a F' x')(e:x'.st=x.st.put k (.int v))(up:cV (ps.map (·.1)))(lt:∀p∈ps,p.1<k)(b:0<=k/\k<10^60/\-(10^60)<v/\v<10^60)(l:ps.length<3000):K0 K t H' a F' x' (ps++ [(k,v)])/\cV ((ps++ [(k,v)]).map (·.1)):=by
 have O:x'.st.kv=bC x.st.kv k (.int v):=by rw[e];exact IE.three_kv
 have S:aR x.st.kv k=none:=by
  cases c:aR x.st.kv k with
  |none=>rfl
  |some w=>
   have h:=(J4.A.ok.ks k).mpr (by rw[c];rfl);rw[J4.ks]at h;let{p,hp,ep}:=Qn.mp h;have:=lt p hp;lia
 have I:cV ((ps++ [(k,v)]).map (·.1)):=by
  rw[Qf];refine QU.mpr {up,ZG _ _,λy hy z hz=>?_};let{p,hp,rfl}:=Qn.mp hy;rw[Q9.mp hz];exact lt p hp
 refine{{A,u9 A.rise I λz=>?_,λp hp=>?_,?_,λp hp=>?_,?_},I}
 .rw[A.ok.ks z,O,cM,Qf,Qd];by_cases c:z=k
  .rw[Xe c];exact{λ_=> .inr<|Q9.mpr c,λ_=>M}
  .rw[Xc c,<-J4.A.ok.ks z,J4.ks];exact{.inl,λh=>h.elim id λh=>Xd (Q9.mp h) c}
 .rw[O,cM];rcases Qd.mp hp with hp|hp
  .rw[Xc λc=>by have:=lt p hp;lia];exact J4.kv p hp
  .rw[Q9.mp hp,Xe M]
 .rw[O,vd _ S,Q5,Q5,J4.ln];rfl
 .rcases Qd.mp hp with hp|hp
  .exact J4.bd p hp
  .rwa[Q9.mp hp]
 .rwa[Q5]
def coF(a p:B')(n:Int)(dd:B'):List (Str×V):=[(pp,.ref a),("first",.ref p),("rest",.ref p),("followed",.int n),("copied",.ref dd),(mu,.non)]
def CoN(t:II)(H:Hp)(c:B'):Prop:=∃(dx a p:B')(n:Int)(dd:B'),H c=some (.ins t.cn dx<|coF a p n dd)
def oi(K:J5)(t:II):Sp:=λvs H Q _=>∃(c dx a p:B')(F:Kh)(x:IK),vs=[.ref c,.ref a,.ref p,.non]/\H c=some (.ins t.cn dx [])/\Ih K t H a F x/\
 ∀H',CoN t H' c->(∀b o,b≠c->H b=some o->H' b=some o)->Q .non H'
def oz(T:Txt K mg t w):D3 P w K mg base IQ 2 t.jV t.dX [aF,pp,"token","stopped"] (oi K t):=by
 have a1:=Il.nd;refine T.BI.ok Il (λvs H Q E h=>?_)<|λa2 A outer s H vs Q E hr h=>?_
 .let{c,dx,a,p,F,x,rfl,_}:=h;rfl
 .let{c,dx,a,p,F,x,rfl,hc,A,q}:=h;refine cm (λx=>aS (aA tZ IM jC<|aH _) x aB) ?_;refine aC (IL 3<|tV<|@ar _ _ _ _ _ IA (@ar _ _ _ _ _ (aG aE {_} T.cz bF (aa (io HW T.aU T.AS (oy T) hr.mo T.oC.choose_spec.1 T.oC.choose_spec.2 aM) ag)) (@ar _ _ _ _ _ iq ag M) M) M) ?_
  intros
  refine ai (bx F3 HW M)
    (ai (bx F3 IA M)
    (ai (bx F3 (aY nE IM am<|λ_ _=>M) M)
    (ai (bx F3 (aY nE IM am<|λ_ _=>M) M)
    (ai (bx F3 (aP xp {_} T.HH DG (aa (aY nE IM am<|λ_ _=>M) ag)) M)
    (aC (bx F3 jC M) ?_)))))
  intros
  let{da,fa,hi,hm,_}:=A.ins;refine eI (λJ H'=>∃tp O:Addr,J=[some (.ref c),some (.ref a),some (.ref p),some (.ref tp)]/\HU H H'/\H' tp=some (.tup [.ref p,.int x.di.length,.ref O])/\H' O=some (.dK [])) (λnx go=>?_)<|λJ H2 w=>?_
  .refine{_,M,M,_,M,jL M {_,M,_,M,a,da,fa,M,hi,hm _ ∅,a,0,F,x,M,A,ZQ _,λH1 r s1 nr hr=>{r,_,M,.inl<|HS.of hr,λO a0=>{(by show 3<=sizeLine;decide),λtp Y=>?_}}}};rw[Q0,show(0:Int).toNat=0 from rfl,ZA];exact go _ _ {tp,O,M,(s1.trans<|ae a0).trans<|ae Y,BB,ae Y _ _ BB}
  let{tp,O,rfl,s2,I,S}:=w;have U:=s2 _ _ hc;have Z:tp≠c:=λz=>by rw[z,U]at I;cases I
  have n2:O≠c:=λz=>by rw[z,U]at S;cases S
  refine{_,M,_,M,c,_,dx,[],M,U,T.iB,T.zI,jI (by kernel_rfl),cQ λH3 h3 o3=>?_};refine{_,M,_,M,c,_,dx,_,M,h3,T.iB,T.zJ,jI (by kernel_rfl),cQ λH4 h4 o4=>?_};refine{_,M,tp,_,_,_,M,M,IP.of (by rw[o4 _ Z,o3 _ Z];exact I),M,_,M,c,_,dx,_,M,h4,T.iB,T.AI,jI (by kernel_rfl),cQ λH5 h5 o5=>?_};have kp:∀{b:B'},b≠c->H5 b=H2 b:=λn=>by rw[o5 _ n,o4 _ n,o3 _ n]
  refine{_,M,tp,_,_,_,M,M,IP.of (by rw[kp Z];exact I),M,_,M,c,_,dx,_,M,h5,T.iB,T.wS,jI (by kernel_rfl),cQ λH6 h6 o6=>?_};refine{_,M,tp,_,_,_,M,M,IP.of (by rw[o6 _ Z,kp Z];exact I),M,O,_,M,by rw[o6 _ n2,kp n2];exact S,λdd nd=>?_};refine{_,M,c,_,dx,_,M,ae nd _ _ h6,T.iB,T.yW,jI (by kernel_rfl),cQ λH7 h7 o7=>?_};refine{_,M,c,_,dx,_,M,h7,T.iB,T.AJ,jI (by kernel_rfl),cQ λH8 h8 o8=>?_};have nc:=(aq h6 nd).symm;have k8:∀b o,b≠c->H b=some o->H8 b=some o:=λb o n e=>by
   rw[o8 b n,o7 b n];exact ae nd _ _<|by rw[o6 b n,kp n];exact s2 _ _ e
  exact q _ {dx,a,p,(x.di.length:Int),dd,h8.trans<|by kernel_rfl} k8
def DE{f:α->V}(us zs:List α)(w:Nat):dZ ((us++zs).map f) (some (us.length:Int)) (some<|(us.length:Int)+(w:Int))=(zs.take w).map f:=by
 unfold dZ HT.sIx;dsimp only;rw[Xc (),Xc (),Q0,Q5,Qf];rw[show(us.length:Int).toNat=us.length from rfl,show((us.length:Int)+(w:Int)).toNat=us.length+w by lia,ZM (by lia:us.length<=us.length+zs.length)];rw[List.drop_left' (by rw[Q0]),Zk];rcases Nat.le_total w zs.length with c|c
 .rw[show min (us.length+w) (us.length+zs.length)-us.length=w by lia]
 .rw[show min (us.length+w) (us.length+zs.length)-us.length=zs.length by lia,Qt (by rw[Q0];exact Qc _),Qt (by rw[Q0];exact c)]
def Jg(x:Str):Option Int:=if Ir x=true then PySem.intText? x else none
noncomputable def lq(th:Str)(n:Int):Bool:=if th=(hH:Str)then true else if th=(gt:Str)then decide (1<=n)&&decide (n<=100)else decide (0<=n)
def yD:Sp:=λvs H Q _=>∃(z:Str)(n:Int),vs=[.str z,.int n]/\Q (.bl<|lq z n) H
def yR(T:Txt K mg t w):D3 P w K mg base IQ 1 t.v8 t.qJ [lm,"number"] yD:=by
 let{O,I}:=T.g_MOST_KEYS;refine T.BF.okl yH λ_ _ _ s H vs Q E U h _=>?_;intro X;let{z,n,rfl,q}:=h;refine ai (aS (aA bV F3 ao<|aH _)
    (ax<|ay lT)
    aB)
   (ai (aS (aA bV F3 ao<|aH _)
    (ax<|ay<|Aw vn vn am HW<|bL (v:= .int 100) {_} I {_,M})
    aB)
   (aC (ay<|eW xX HW am<|aH _) ?_))
 intros
 unfold lq at q;by_cases S:z=(hH:Str)
 .rw[Xe S]at q;exact{_,M,M,_,M,jL (by rw[S]) q}
 rw[Xc S]at q;refine{_,M,M,_,M,b6 (λy=>S<|V.str.inj y) ?_};by_cases c2:z=(gt:Str)
 .rw[Xe c2]at q;refine{_,M,M,_,M,jL (by rw[c2]) ?_};refine{_,M,_,_,M,M,_,M,dD (λc=>?_)<|λc=>?_}
  .rw[c,Bool.true_and]at q;exact{_,_,M,M,q}
  .rw[Z4]at c;rw[c,ZP]at q;exact q
 rw[Xc c2]at q;exact{_,M,M,_,M,b6 (λy=>c2<|V.str.inj y) {_,M,_,_,M,M,q}}
def qW(t:II):Sp:=λvs H Q E=>∃(th z:Str),vs=[.str th,.str z]/\z.length<=600/\
 ((th=(cj:Str)/\(∀kd a e,Tk z kd a e->∀H' p,HU H H'->DY t H' p kd a e->Q (.ref p) H')/\(Ge z->Rs H t.bb [] E))\/
  (th≠(cj:Str)/\(∀n,Jg z=some n->lq th n=true->∀H',HU H H'->Q (.int n) H')/\((∀n,Jg z=some n->lq th n=false)->Rs H t.bb [] E)))
def rL(T:Txt K mg t w):D3 P w K mg base (JV P w) 6 t.my t.i6 [lm,ro] (qW t):=by
 have a0:=JB.nd;refine T.uD.okX JB (λvs H Q E h=>?_)<|λa1 A outer s H vs Q E Y h=>?_
 .let{th,z,rfl,_}:=h;rfl
 .let{th,z,rfl,zl,q}:=h;refine ai (An M M (λpn E=>(ii (aS (aA bV F3 ao<|aH _)
   (ax<|ay<|qa (rK T) Y.mo {_} T.Dh T.uC.kp T.DI .nil Az (aa HW ag))
   aB)
   (ax<|IL 2<|qa (ku T).toD Y.mo {_} T.uh T.mM.kp T.uy .nil Az (aa HW ag)))) {_} T.j3 T.cR {_} T.cP T.aW Cs (λea=>(bv T.aT T.iy {_} T.iu (aa ao ag))))
     (ai (aS (eR<|cc<|aI (yR T) Y.mo {_} T.Hk T.BF.kp T.Hy .nil aM (aa F3<|aa IA ag))
   (ax<|eL M fW<|bv T.aT T.iy {_} T.iu (aa ao ag))
   aB)
     (aC (ay IA) ?_))
  intros
  have I:Rs H t.bb [] E->∀(H1:Hp)(p e2:B')(o:HO),HU H H1->H1 p=none->upd H1 p o e2=none->E (.ref e2) none (upd (upd H1 p o) e2<|XO e2 t.bb none):=λk H1 p e2 o s np n2=>k e2 none _ {BB,.inl ⟨M,M⟩} ((s.trans<|ae np).trans<|ae n2);rcases q with⟨rfl,q1,q2⟩|⟨nt,q1,q2⟩
  .refine{_,M,M,_,M,jL M ?_};refine{_,M,.inl {z,M,zl,λkd a e tk H' p s tt=>q1 kd a e tk H' p s tt,λnk ea od H' hx hs=>?_}};exact{ea,t.aQ,_,M,hx.1,T.aW,.inr ⟨T.xF,T.wu⟩,λp np H2=>{(by show 1<=1000;decide),λe2 O=>{e2,t.bb,none,_,M,O,M,T.aT,I (q2 nk) _ _ _ _ hs np}}}
  .refine{_,M,M,_,M,b6 (λy=>nt<|V.str.inj y) ?_};refine{_,M,.inl {z,M,Qw zl (_),λZ n H' O s=>?_,λZ ea od H' hx hs=>?_}}
   .have U:Jg z=some n:=by unfold Jg;rw[Xe Z,O]
    refine{_,M,_,M,th,n,M,?_};cases c:lq th n with
    |true=>exact{_,M,cX {_,M,q1 n U c H' s}}
    |false=>
     refine{_,M,cT ?_};exact b9 (D:={λ_ _=>True,λ_ _=>True,λ_ _=>True,λ_ _=>True}) T.aT s<|q2 λm S=>by rw[U]at S;cases S;exact c
   .have U:Jg z=none:=by unfold Jg;rw[Xc (by rw[Z];exact Q8)]
    exact{ea,t.bj,_,M,hx.1,T.cR,.inl T.mQ,λp np H2=>{(by show 1<=1000;decide),λe2 O=>{e2,t.bb,none,_,M,O,M,T.aT,I (q2 λm S=>by rw[U]at S;cases S) _ _ _ _ hs np}}}
inductive Ok:List Str->List Str->Prop
 |nil:Ok [] []
 |num{th x:Str}{n:Int}{ths zs:Kc}:th≠(cj:Str)->Jg x=some n->lq th n=true->Ok ths zs->Ok (th::ths) (x::zs)
 |tok{x y z:Str}{kd:Int}{a e:V}{ths zs:Kc}:Tk (Txt.join (rs:Str) [x,y,z]) kd a e->Ok ths zs->Ok ((cj:Str)::ths) (x::y::z::zs)
inductive Gr(t:II)(H:Hp)(kvs:Kv):List Str->List Str->Prop
 |nil:Gr t H kvs [] []
 |num{th x:Str}{n:Int}{ths zs:Kc}:th≠(cj:Str)->Jg x=some n->lq th n=true->aR kvs (Sum.inr th)=some (.int n)->Gr t H kvs ths zs->Gr t H kvs (th::ths) (x::zs)
 |tok{x y z:Str}{kd:Int}{a e:V}{p:B'}{ths zs:Kc}:Tk (Txt.join (rs:Str) [x,y,z]) kd a e->DY t H p kd a e->aR kvs (Sum.inr (cj:Str))=some (.ref p)->Gr t H kvs ths zs->Gr t H kvs ((cj:Str)::ths) (z::y::x::zs)
def Gg(H H':Hp):Prop:=∀(p C dx:B')(fs:Ks),H p=some (.ins C dx fs)->H' p=some (.ins C dx fs)
def Gr.on{z:Kv}(g:Gr t H kvs ths zs)(s:Gg H H')(h:∀th∈ths,aR z (Sum.inr th)=aR kvs (Sum.inr th)):Gr t H' z ths zs:=by
 induction g with
 |nil=>exact .nil
 |num a b c d _ I=>exact .num a b c ((h _ Q6).trans d)<|I λth m=>h th (Q4 _ m)
 |tok a b c _ I=>
  let{dx,fs,b1,b2}:=b;exact .tok a {dx,fs,s _ _ _ _ b1,b2} ((h _ Q6).trans c)<|I λth m=>h th (Q4 _ m)
def RtI(t:II)(H:Hp)(f l d:B')(ths zs:Kc)(i:Nat)(J:St)(H':Hp):Prop:=∃(u v:Option V)(kvs:Kv)(us zr:Kc),J=[some (.ref f),some (.ref l),some (.ref d),some (.int (us.length:Int)),u,v]/\zs=us++zr/\HU H H'/\H' d=some (.dK kvs)/\kvs.length<=i/\Gr t H' kvs (ths.take i).reverse us.reverse/\(Ok ths zs->Ok (ths.drop i) zr)
def RtI.step{H2:Hp}{f d:B'}{us us' zq:Kc}{th:Str}{S o2:Option V}(Y:H d=none)(s:HU H H2)(s':HU H' H2)(hd:H2 d=some (.dK kvs))(kl:kvs.length<=i)(g:Gr t H' kvs (ths.take i).reverse us.reverse)
  (O:th∉ths.take i) (Z:(ths.take<|i+1).reverse=th::(ths.take i).reverse) (ez:zs=us'++zq) (el:(us'.length:Int)=n) (ok:Ok ths zs->Ok (ths.drop<|i+1) zq)
  (new:∀H3 I,Gg H2 H3->aR I (Sum.inr th)=some v->Gr t H3 I (ths.take i).reverse us.reverse->Gr t H3 I (th::(ths.take i).reverse) us'.reverse):
  RtI t H f l d ths zs (i+1) [some (.ref f),some (.ref l),some (.ref d),some (.int n),S,o2] (upd H2 d<|.dK<|bC kvs (Sum.inr th) v):=by
 have U:Gg H2 (upd H2 d<|.dK<|bC kvs (Sum.inr th) v):=λp C dx fs e=>by
  rwa[ah λz=>by rw[z,hd]at e;cases e]
 refine{S,o2,bC kvs (Sum.inr th) v,us',zq,by rw[el],ez,fk s Y,BB,Qw (dB _ _ _) (),?_,ok};rw[Z];refine new _ _ U (by rw[cM,Xe M])<|g.on (λp C dx fs e=>U _ _ _ _<|s' _ _ e) λa0 m=>?_;rw[cM,Xc λz=>O (by rw[<-Sum.inr.inj z];exact List.mem_reverse.mp m)]
def Ey{s x:Str}:Txt.join s [x]=x:=by
 rw[oK];rfl
def Rs.on(k:Rs H C fs E)(s:HU H H'):Rs H' C fs E:=λea od H2 hx hs=>k ea od H2 hx (s.trans hs)
def tk3{kd:Int}{a e:V}(hs:∀z∈ws,32∉sg z)(h:Tk (Txt.join (rs:Str) ws) kd a e):∃x y z,ws=[x,y,z]:=by
 let{I,O,h,_}:=h;by_cases c:ws=[]
 .rw[c]at h;have h:=Xo List.length h;rw[show(Txt.split (Txt.join (rs:Str) []) (rs:Str)).length=1 by decide+kernel]at h;cases h
 .rw[qT,d6 c hs]at h;exact{_,_,_,h}
def Dp(h:∀z∈ws,z.length<=100)(l:ws.length<=3):(Txt.join (rs:Str) ws).length<=302:=by
 have e:(rs:Str).length=1:=by decide+kernel
 rw[oK]
 match ws,h,l with
 | [],_,_=>exact Qy _
 | [a],h,_=>
  have:=h a Q6;show a.length<=302;lia
 | [a,b],h,_=>
  have h1:=h a Q6;have h2:=h b (Q4 _ Q6);show(a++(rs:Str)++b).length<=302;rw[Str.length_append,Str.length_append];lia
 | [a,b,c],h,_=>
  have h1:=h a Q6;have h2:=h b (Q4 _ Q6);have I:=h c (Q4 _<|Q4 _ Q6);show(a++(rs:Str)++(b++(rs:Str)++c)).length<=302;rw[Str.length_append,Str.length_append,Str.length_append,Str.length_append];lia
def oW(K:J5)(t:II):Sp:=λvs H Q E=>∃(f l:B')(ths zs:Kc),vs=[.ref f,.ref l]/\(∀H',HU H H'->IP K H' f (ths.map V.str))/\H l=some (.lst<|zs.map V.str)/\ths.Nodup/\ths.length<=3/\zs.length<=1000/\(∀z∈zs,z.length<=100/\32∉sg z)/\
 (∀H' d kvs,HU H H'->H' d=some (.dK kvs)->Gr t H' kvs ths.reverse zs.reverse->Q (.ref d) H')/\(¬Ok ths zs->Rs H t.bb [] E)
def qc(T:Txt K mg t w):D3 P w K mg base (JV P w) 7 t.kB t.gM ["form","words"] (oW K t):=by
 let{S,I}:=T.g_WORDS_OF_TOKEN;have af:=IY.nd;refine T.sB.okX IY (λvs H Q E h=>?_)<|λak A outer s H vs Q E hr h=>?_
 .let{f,l,ths,zs,rfl,_}:=h;rfl
 .let{f,l,ths,zs,rfl,a4,hl,nd,tl,zn,hz,q1,q2}:=h;refine ai (IL 2 iq)
    (ai (IL 3 am)
    (cm (λx=>(tS PassesOwn.leaving M (E6 F3) (pgn 4)
     x)) ?_))
  refine ai (IL 5<|vi (aA bV Je ao<|aH _) (bL (v:= .int 3) {_} I {_,M}) am)
    (ai (tT (jt hr) IA Je (aI (rL T) hr.mo {_} T.Di T.uD.kp T.DJ .nil lU (aa Je<|aa (c6 Qk QG QH fZ ao<|aa (bK cq HW (bU IM)<|bU<|aD dN IM pv5) ag) ag)) M)
    (aC (Aq (i:=3) IY.nd M (Or.inl M) pv5 Bh) ?_))
  intros
  refine ai (aS (aA xW IM (aG aE {_} T.cz bF (aa HW ag))<|aH _)
   (ax<|eL M fW<|bv T.aT T.iy {_} T.iu (aa ao ag))
   aB)
     (aC (ay IA) ?_)
  intros
  refine λd hd=>{_,M,f,M,{_,a4 _<|ae hd},?_};refine Bn (a:=f) (xs:=ths.map V.str) (RtI t H f l d ths zs) {none,none,[],[],zs,M,M,ae hd,BB,Qc _,.nil,id} (λi J H' _ w=>?_) (λi y J H' hy w=>?_)<|λJ H' w=>?_
  .let{u,v,kvs,us,Y,rfl,_,s1,_}:=w;exact a4 _ s1
  .let{u,v,kvs,us,Y,rfl,ez,s1,a1,kl,g,ok}:=w;have a2:=s1 _ _ hl;obtain⟨th,rfl,a3⟩:∃th:Str,y= .str th/\ths[i]?=some th:=by
    rw[Qp]at hy;cases c:ths[i]? with
    |none=>rw[c]at hy;cases hy
    |some th=>rw[c]at hy;cases hy;exact⟨th,M,M⟩
   have hi:i<ths.length:=(Q7.mp a3).1;have ed:ths.drop i=th::ths.drop (i+1):=by
    rw[List.drop_eq_getElem_cons hi];congr 1;exact Xf<|(Qb hi).symm.trans a3
   have et:(ths.take<|i+1).reverse=th::(ths.take i).reverse:=by
    rw[QN,a3,ZV];rfl
   have a5:th∉ths.take i:=λm=>by
    have h:=nd;rw[<-QF i ths,ed]at h;exact(List.nodup_append.mp h).2.2 th m th Q6 M
   rw[ed]at ok;have a8:∀z∈Y,z.length<=100/\32∉sg z:=λz m=>hz z (by rw[ez];exact Qj _ m);obtain⟨wd,O⟩:∃wd:Nat,wd=if th=(cj:Str)then 3 else 1:={_,M}
   have al:wd<=3:=by rw[O];split<;>decide
   refine eI (λJ H2=>J=[some (.ref f),some (.ref l),some (.ref d),some (.int (us.length:Int)),some (.str th),some (.int (wd:Int))]/\H2=H') (λnx go=>?_)<|λJ H2 w=>?_
   .by_cases c:th=(cj:Str)
    .refine{_,M,M,_,M,jL (by rw[c])<|go _ _ {?_,M}};rw[O,Xe c];rfl
    .refine{_,M,M,_,M,b6 (λy=>c<|V.str.inj y)<|go _ _ {?_,M}};rw[O,Xc c];rfl
   let{a6,eH}:=w;rw[a6,eH];clear a6 eH;have tz:∀z∈Y.take wd,z.length<=100/\32∉sg z:=λz m=>a8 z (Zd m);have ac:(Y.take wd).length<=3:=by rw[Qq];lia
   refine{_,M,M,_,M,_,M,_,M,_,M,_,M,_,_,M,M,_,M,l,_,M,HS.of a2,λr nr=>?_};have a0:upd H' r (.lst<|dZ (zs.map V.str) (some (us.length:Int))<|some<|(us.length:Int)+(wd:Int)) d=some (.dK kvs):=ae nr _ _ a1;have s2:=s1.trans (ae (o:= .lst<|dZ (zs.map V.str) (some (us.length:Int))<|some<|(us.length:Int)+(wd:Int)) nr);refine{_,r,Y.take wd,M,M,HS.of (by rw[BB,ez,DE]),∅,?_,?_}
   .have h1:=kO (m:=100) λz m=>(tz z m).1;lia
   have jl:=Dp (λz m=>(tz z m).1) ac;refine{_,_,M,(),?_};by_cases c:th=(cj:Str)
   .refine .inl {c,λkd a e tk H2 p s3 tp=>?_,λnk=>?_}
    .let{x,y,z,Z}:=tk3 (λz m=>(tz z m).2) tk;rw[O,Xe c]at Z;obtain⟨zq,U⟩:∃zq,Y=x::y::z::zq:={Y.drop 3,by rw[<-QF 3 Y,Z];rfl};rw[O,Xe c,Z]at tk;refine{_,M,_,M,d,_,M,Jk.k (k:=Sum.inr _) (s3 _ _ a0)<|bR (),?_};refine{_,M,_,M,_,_,M,M,?_};refine RtI.step (us:=us) (us':=us++ [x,y,z]) (zq:=zq) hd (s2.trans s3) ((ae nr).trans s3) (s3 _ _ a0) kl g a5 et (by rw[ez,U];simp) (by rw[O,Xe c];simp) (λo=>?_) λH3 a7 ik ev g'=>?_
     .have o:=ok o;rw[c,U]at o;cases o with
      |num h=>exact Xd M h
      |tok _ o=>exact o
     .rw[ZV];rw[c]at ev⊢;let{dx,fs,b1,b2}:=tp;exact .tok tk {dx,fs,ik _ _ _ _ b1,b2} ev g'
    .refine Rs.on (q2 λo=>?_) s2;have o:=ok o;rw[c]at o;cases o with
     |num h=>exact h M
     |tok tk _=>exact nk _ _ _<|by rwa[O,Xe c]
   .refine .inr {c,λn hn mn H2 s3=>?_,λno=>?_}
    .rw[O,Xc c]at hn;obtain⟨x,zq,U⟩:∃x zq,Y=x::zq:=by
      cases Y with
      |nil=>
       rw[show Jg (Txt.join (rs:Str)<|List.take 1 ([]:Kc))=none by decide+kernel]at hn;cases hn
      |cons x zq=>exact⟨x,zq,M⟩
     rw[U,show(x::zq).take 1=[x] from rfl,Ey]at hn;refine{_,M,_,M,d,_,M,Jk.k (k:=Sum.inr _) (s3 _ _ a0)<|bR (),?_};refine{_,M,_,M,_,_,M,M,?_};refine RtI.step (us:=us) (us':=us++ [x]) (zq:=zq) hd (s2.trans s3) ((ae nr).trans s3) (s3 _ _ a0) kl g a5 et (by rw[ez,U];simp) (by rw[O,Xc c];simp) (λo=>?_) λH3 a7 ik ev g'=>?_
     .have o:=ok o;rw[U]at o;cases o with
      |num _ _ _ o=>exact o
      |tok=>exact Xd M c
     .rw[ZV];exact .num c hn mn ev g'
    .refine Rs.on (q2 λo=>?_) s2;have o:=ok o;cases o with
     |num h h2 h3 _=>
      have:=no _ (by rw[O,Xc c];exact(Xo Jg Ey).trans h2);rw[h3]at this;cases this
     |tok=>exact c M
  .let{u,v,kvs,us,Y,rfl,ez,s1,a1,kl,g,ok}:=w;have a2:=s1 _ _ hl;rw[Q0,Z3]at g;rw[Q0,List.drop_length]at ok;refine{_,M,_,M,l,_,M,.inl<|HS.of a2,M,_,M,?_};by_cases c:Y=[]
   .rw[c,X4]at ez;refine Bg (by rw[Q0,ez]) {_,M,q1 H' d kvs s1 a1 ?_};rwa[ez]
   .refine Bf (λy=>c ?_) ?_
    .have y:=V.int.inj y;rw[Q0,ez,Q5]at y;exact ZF.mp ()
    .exact b9 (D:={λ_ _=>True,λ_ _=>True,λ_ _=>True,λ_ _=>True}) T.aT s1 (q2 λo=>by
      have o:=ok o;cases o;exact c M)
noncomputable def FT:List (Str×List Str):=((p0:Str),[(iA:Str),(hH:Str)])::(("drop":Str),[(iA:Str)])::(("get":Str),[(iA:Str)])::(("many":Str),[])::((mu:Str),[(cj:Str),(gt:Str)])::(("hold":Str),[])::(("free":Str),[(hQ:Str)])::(("sweep":Str),[])::(("now":Str),[])::((ox:Str),[(iA:Str),(hQ:Str)])::((fo:Str),[(hQ:Str),(cj:Str),(gt:Str)])::((ub:Str),[(cj:Str)])::(("open":Str),[])::((rr:Str),[(gt:Str)])::(("close":Str),[])::(("follow":Str),[("STEPS":Str)])::(("show":Str),[])::(("covers":Str),[(iA:Str)])::(("total":Str),[])::(("stop":Str),[])::(("keep":Str),[])::[]
noncomputable def frm(w:Str):Option (List Str):=(FT.find? λp=>decide (p.1=w)).map λp=>p.2
def FR(T:Txt K mg t w)(h:frm w0=some ths):(∃a,Iu t.bq w0=some (.ref a)/\∀H:Hp,IP K H a (ths.map V.str))/\ths.Nodup/\ths.length<=3:=by
 unfold frm at h;let{p,h1,rfl}:=QL.mp h;obtain rfl:p.1=w0:=Xk (List.find?_some (p:=λp:Str×List Str=>decide (p.1=w0)) h1);have m:=List.mem_of_find?_eq_some h1;have all:∀p∈FT,p.2.Nodup/\p.2.length<=3:=by decide+kernel
 refine{?_,all p m};clear h h1 all;unfold FT at m
 iterate 21
  rcases Qa.mp m with rfl|m
  rotate_left
 .exact Xd m Qe
 .exact T.kt_FORMS_put
 .exact T.kt_FORMS_drop
 .exact T.kt_FORMS_get
 .exact T.kt_FORMS_many
 .exact T.kt_FORMS_page
 .exact T.kt_FORMS_hold
 .exact T.kt_FORMS_free
 .exact T.kt_FORMS_sweep
 .exact T.kt_FORMS_now
 .exact T.kt_FORMS_at
 .exact T.kt_FORMS_past
 .exact T.kt_FORMS_copy
 .exact T.kt_FORMS_open
 .exact T.kt_FORMS_read
 .exact T.kt_FORMS_close
 .exact T.kt_FORMS_follow
 .exact T.kt_FORMS_show
 .exact T.kt_FORMS_covers
 .exact T.kt_FORMS_total
 .exact T.kt_FORMS_stop
 .exact T.kt_FORMS_keep
def FQ(T:Txt K mg t w)(h:frm w0=none):Iu t.bq w0=none:=by
 unfold frm at h;rw[Option.map_eq_none_iff,List.find?_eq_none]at h;unfold Iu;rw[Option.map_eq_none_iff,List.find?_eq_none];intro p hp e;have m:p.1∈t.bq.map (λp=>p.1):=List.mem_map_of_mem (f:=λp:Str×Nat×Addr=>p.1) hp;rw[T.Hl]at m;have m:p.1∈FT.map (λp=>p.1):=m;let{q,hq,z}:=Qn.mp m;refine h q hq ?_;rwa[z]
def tkBS(T:Txt K mg t w){kd:Int}(h:kd=0\/kd=1\/kd=2):Jc K (tkC t kd)/\KO K (tkC t kd)/\PySem.W.kitOne K (.ref<|tkC t kd) (.ref t.a7)=some (decide (kd=0)):=by
 rcases h with rfl|rfl|rfl
 .exact⟨T.xn,T.EI,T.xb⟩
 .exact⟨T.Hv,T.HM,T.BR⟩
 .exact⟨T.DF,T.HB,T.zL⟩
def sA(ws:Kc):Prop:=∀w0 zs ths,ws=w0::zs->frm w0=some ths->Ok ths zs->w0=(fo:Str)/\zs[1]?=some (gr:Str)
set_option tactic.hygienic true in
def Ay(hz:∀z∈zs,32∉sg z)(g:Gr t H kvs [(gt:Str),(cj:Str),(hQ:Str)] zs.reverse):∃(p:B')(kd:Int)(a e:V),DY t H p kd a e/\(kd=0\/kd=1\/kd=2)/\aR kvs (Sum.inr (cj:Str))=some (.ref p)/\(kd=0↔zs[1]?=some (gr:Str)):=by
 generalize I:zs.reverse=O at g;have S:zs=O.reverse:=by rw[<-I,ZS]
 cases g with
 |num _ _ _ _ g=>
  cases g with
  |num h=>exact Xd M h
  |tok tk tp U g=>
   rename_i x y z kd a e p Y
   cases g with
   |num _ _ _ _ g=>
    cases g;have Z:=tk;let{wa,we,h,_,_,ok}:=tk;subst S;rw[qT,d6 (by simp) λw m=>hz w (by simp at m⊢;rcases m with rfl|rfl|rfl<;>simp)]at h;cases h;refine{p,kd,a,e,tp,ok.kd,U,?_};simp;constructor
    .rintro rfl;rfl
    .intro h;exact ml ok.kd (.inl M) h
def qX(K:J5)(t:II):Sp:=λvs H Q E=>(∃(z w0:Str)(zs:Kc),vs=[.str z]/\z.length<=6000/\Txt.split z (rs:Str)=w0::zs/\zs.length<=100/\(∀y∈zs,y.length<=100)/\
  (∀ths H' p d kvs,frm w0=some ths->(w0=(fo:Str)->zs[1]?≠some (gr:Str))->HU H H'->H' p=some (.tup [.str w0,.ref d])->H' d=some (.dK kvs)->Gr t H' kvs ths.reverse zs.reverse->Q (.ref p) H')/\(sA (w0::zs)->Rs H t.bb [] E))\/
 (∃(x:V)(ty:Kb),vs=[x]/\IH K H x ty/\PySem.W.kitOne K ty (.type qs)=some false/\Rs H t.bb [] E)
def rM(T:Txt K mg t w):D3 P w K mg base (JV P w) 8 t.mB t.i7 ["row"] (qX K t):=by
 have a1:=JG.nd;refine T.uE.okX JG (λvs H Q E h=>?_)<|λa2 A outer s H vs Q E hr h=>?_
 .rcases h with⟨z,w0,zs,rfl,_⟩|⟨x,ty,rfl,_⟩<;>rfl
 .refine ai (aS (eR<|cc<|aG eO {_} T.bp a9 (aa F3<|aa (j2 (v:= .ty qs) {_} T.cw bD M) ag))
   (ax<|eL M fW<|bv T.aT T.iy {_} T.iu (aa ao ag))
   aB)
     (ai (IL 1<|c6 Qk PySem.F.slot_str_split PySem.F.type_str_split vx F3<|aa ao ag)
     (ai (IL 2<|aY aJ HW am<|λ_ _=>M)
     (ai (aS (wJ<|yN {_} T.AR T.Bc IA)
   (ax<|eL M fW<|bv T.aT T.iy {_} T.iu (aa ao ag))
   aB)
     (ai (IL 3<|aI (qc T) hr.mo {_} T.BP T.sB.kp T.BU .nil lU (aa (xT {_} T.AR T.Bc IA (λ_ _=>M))<|aa (bK cq HW (bU am) cr) ag))
     (ai (aS (PW.pt<|eQ (aA bV IA ao<|aH _)<|dM<|cc<|aG (uu K M) {_} T.bp a9 (aa (j1 (jt hr) IM ao<|λ_ _=>M)<|aa (bL (v:= .ref t.a7) {_} T.wU M) ag))
   (ax<|eL M fW<|bv T.aT T.iy {_} T.iu (aa ao ag))
   aB)
     (aC (ay<|tV<|aa IA<|aa IM ag) ?_))))))
  intros
  rcases h with⟨z,w0,zs,rfl,zl,es,zn,hz,q1,q2⟩|⟨x,ty,rfl,ht,hk,q⟩
  case inr=>
   refine{_,M,_,_,_,_,M,ht,hk,false,M,cT ?_};exact b9 T.aT (HU.refl _) q
  refine{_,M,_,_,_,_,M,IH.str _,xa.1,true,M,cX ?_};refine{_,M,M,_,_,M,M,∅,(),λl nl=>?_};rw[show(Str.ofString rs)=(rs:Str) from rfl,es];have fr:∀y∈zs,32∉sg y:=λy m=>by
   have h:=StrLaws.split_free z 32;rw[<-qT,es]at h;exact h y<|Q4 _ m
  have s1:=ae (o:= .lst<|(w0::zs).map V.str) nl;have e1:upd H l (.lst<|(w0::zs).map V.str) l=some (.lst<|(w0::zs).map V.str):=BB;generalize upd H l (.lst<|(w0::zs).map V.str)=H1 at s1 e1⊢;refine{_,M,l,_,_,_,M,M,HS.of e1,cU (j:=0) (v:= .str w0) M,?_};refine{_,M,_,M,_,M,?_};cases I:frm w0 with
  |none=>
   rw[FQ T I];refine cT ?_;exact b9 T.aT s1<|q2 λw1 S ths e O _=>by cases e;rw[I]at O;cases O
  |some ths=>
   let{{fa,kd,sq},nd,tl}:=FR T I;rw[kd];refine cX ?_;refine{_,M,_,_,M,kd,_,M,_,M,l,_,M,HS.of e1,λr nr=>?_};refine{fa,r,ths,zs,M,λH' _=>sq H',BB.trans ?_,nd,tl,(),λy m=>{hz y m,fr y m},λH2 d kvs s2 hd g=>?_,λno=>Rs.on (C:=t.bb) (fs:=[]) (q2 λw1 S U e O o=>?_)<|s1.trans (ae nr)}
   .congr 2;exact jP (f:=V.str) (ms:=w0::zs) (g:=1) (_)
   rotate_left
   .cases e;rw[I]at O;cases O;exact Xd o no
   have s3:=(s1.trans<|ae nr).trans s2;have Y:(w0=(fo:Str)->zs[1]?≠some (gr:Str))->∀p,H2 p=none->Q (.ref p) (upd H2 p<|.tup [.str w0,.ref d]):=λh p np=>q1 ths _ p d kvs I h (s3.trans<|ae np) BB (ae np _ _ hd) (g.on (λb C dx fs e=>ae np _ _ e) λ_ _=>M);by_cases cp:w0=(fo:Str)
   .subst cp;obtain rfl:ths=[(hQ:Str),(cj:Str),(gt:Str)]:=(Xf<|I.symm.trans ∅);let{p,kd',av,ev,tp,hk,a0,iff}:=Ay fr g;let{dx,fs,hp,_}:=tp;let{cl,Z,ki}:=tkBS T hk;refine{_,M,M,_,M,jL M ?_};have dg:=Io.k (k:=Sum.inr (cj:Str)) hd;rw[a0]at dg;refine{_,M,d,_,M,dg,_,_,_,_,M,IH.ins hp cl Z.1 Z.2 Z.3 Z.4,ki,_,M,?_};by_cases c0:kd'=0
    .rw[Xg c0];refine cT ?_;exact b9 T.aT s3<|q2 λw1 S U e O o=>by cases e;exact{M,iff.mp c0}
    .rw[Xh c0];refine cX {_,M,_,M,(by show 2<=sizeLine;decide),Y λ_ h=>c0<|iff.mpr h}
   .refine{_,M,M,_,M,b6 (λy=>cp<|V.str.inj y) ?_};exact{_,M,_,M,(by show 2<=sizeLine;decide),Y λh=>Xd h cp}
def x5{x:B'}{I:Kh}(nx:H x=none)(U:H dx=none)(f:Fr I F (upd (upd H dx<|.own x) x<|.ins C dx []) H1)(Y:∀b,I b->b=x\/b=dx):Fr (λ_=>False) F H H1:=λb o _ e=>by
 have O:=aq e nx;have S:=aq e U;exact f b o (λz=>(Y b z).elim O S)<|by rwa[ah O,ah S]
def Iq(K:J5)(t:II)(H:Hp)(d:B')(G:Kh)(x:IK)(ps:Ku):Prop:=∃(dx h:B')(c:V)(F:Kh),H d=some (.ins t.fN dx [(pp,.ref h),("copier",c)])/\K0 K t H h F x ps/\¬F d/\∀b,G b↔b=d\/F b
def Iq.same{d:B'}{x:IK}(D:Iq K t H d G x ps)(s:HU H H'):Iq K t H' d G x ps:=by
 let{dx,h,c,F,hd,J4,z,g}:=D;exact{dx,h,c,F,s _ _ hd,J4.to<|J4.A.same s,z,g}
def K0.new(A:Ih K t H a F IK.new):K0 K t H a F IK.new []:={A,M,(λp hp=>Xd hp Qe),M,(λp hp=>Xd hp Qe),(_)}
def rB(K:J5)(t:II):Sp:=λvs H Q _=>∃(d dx:B'),vs=[.ref d]/\H d=some (.ins t.fN dx [])/\∀H' G,Iq K t H' d G IK.new []->Fr (λb=>b=d) G H H'->Q .non H'
def r9(T:Txt K mg t w):D3 P w K mg base IQ 6 t.mL t.jj [aF] (rB K t):=by
 refine T.Ee.okl rJ λ_ _ _ s H vs Q E Z h _=>?_;intro X;let{d,dx,rfl,ha,q}:=h;refine ai (bx F3 (jD T.He (qr T) Z.mo {_} T.Hi T.Cc .nil aM) M)
   (aC (bx F3 jC M) ?_)
 intros
 refine λx S nx nd ne=>{x,S,M,BB,λH1 F A f=>{M,?_}};have Y:=x5 nx nd f λb h=> .inl h;let{O,I}:=Y _ _ id ha;refine{_,M,d,_,dx,[],M,O,T.bH,T.b5,jI (by kernel_rfl),cQ λH2 h2 o2=>?_};refine{_,M,d,_,dx,_,M,h2,T.bH,T.qz,jI (by kernel_rfl),cQ λH3 h3 U=>?_};have A3:Ih K t H3 x F IK.new:=A.keep (λb hb=>by rw[U b λz=>I (z▸hb),o2 b λz=>I (z▸hb)]) λb xs e=>by
  have n:b≠d:=λz=>by rw[z,O]at e;cases e
  rwa[U b n,o2 b n]
 exact q H3 _ {dx,x,.non,F,h3.trans (by kernel_rfl),K0.new A3,I,λ_=>Iff.rfl} λb o n e=>by
  let{e1,n1}:=Y b o id e;exact{by rwa[U b n,o2 b n],λz=>z.elim n n1}
def Iq.go{d:B'}{c:V}{z:Kh}{x1:IK}{I:Ku}(hd:H d=some (.ins t.fN dx [(pp,.ref h),("copier",c)]))(S:¬F d)(iff:∀b,G b↔b=d\/F b)(U:K0 K t H1 h z x1 I)(O:Fr F z H H1):Iq K t H1 d (λb=>b=d\/z b) x1 I/\Fr G (λb=>b=d\/z b) H H1:=
 {{dx,h,c,z,(O _ _ S hd).1,U,(O _ _ S hd).2,λ_=>Iff.rfl},λb o n e=>by
  let{Y,Z}:=O b o (λy=>n<|(iff b).mpr<|.inr y) e;exact{Y,λy=>y.elim (λy=>n<|(iff b).mpr<|.inl y) Z}}
def Iq.out{d:B'}{x:IK}(D:Iq K t H d G x ps)(n:H l=none):¬G l:=by
 let{dx,h,c,F,hd,J4,I,iff}:=D;intro z;rcases(iff l).mp z with rfl|z
 .rw[hd]at n;cases n
 .exact J4.A.out n z
def IZ(K:J5)(t:II)(H:Hp)(d:B')(G:Kh)(x:IK)(ps:Ku)(ts:Kc)(Q:VK):Prop:=∀(H':Hp)(G':Kh)(l:B'),Iq K t H' d G' x ps->Fr G G' H H'->¬G' l->H' l=some (.lst<|ts.map V.str)->Q (.ref l) H'
def Iq.tell{d:B'}{z:Kh}{x:IK}(D:Iq K t H1 d z x ps)(f:Fr G z H H1)(n:H1 l=none)(q:IZ K t H d G x ps ts Q):Q (.ref l) (upd H1 l<|.lst<|ts.map V.str):=
 q _ z l (D.same<|ae n) (f.trans<|Fr.of_same<|ae n) (D.out n) BB
def rb(K:J5)(t:II):Sp:=λvs H Q _=>∃(d g:B')(G:Kh)(x:IK)(ps:Ku)(kvs:Kv)(k v:Int),vs=[.ref d,.ref g]/\Iq K t H d G x ps/\H g=some (.dK kvs)/\aR kvs (Sum.inr (iA:Str))=some (.int k)/\(k,v)∈ps/\IZ K t H d G x ps [Str.ofString (toString v)] Q
def rR(T:Txt K mg t w):D3 P w K mg base (JV P w) 6 t.jp t.jb [jN,gp] (rb K t):=by
 have S:=J7.nd;refine T.uH.okX J7 (λvs H Q E h=>?_)<|λU A outer s H vs Q E O h=>?_
 .let{d,g,G,x,ps,kvs,k,v,rfl,_}:=h;rfl
 .let{d,g,G,x,ps,kvs,k,v,rfl,{dx,h,c,F,hd,J4,Y,iff},Z,ek,m,q}:=h;refine{_,(ax<|ay<|az<|aa (aP aL {_} T.cw bD (aa (bc (aO F3 M) T.aU T.uf (kx T) O.mo T.uA .nil lU<|aa (j1 (jt O) HW ao<|λ_ _=>M) ag) ag)) ag)
   ,?_}
  have dg:=Io.k (k:=Sum.inr (iA:Str)) Z;rw[ek]at dg;let{dh,fh,hh,z,_}:=J4.A.ins;have I:=J4.bd _ m;refine{_,M,d,_,dx,_,_,M,hd,T.bH,T.b5,M,h,dh,fh,M,hh,z _ ∅,_,M,g,_,M,dg,h,k,_,F,x,M,J4.A,I.1,J4.kv _ m,λH1 F1 A1 f1=>?_};let{D1,g1}:=Iq.go hd Y iff (J4.to A1) f1;exact{v,M,iH I.2.2.1 I.2.2.2,(by show 1<=sizeLine;decide),λl nl=>D1.tell g1 nl q}
def oY(K:J5)(t:II):Sp:=λvs H Q _=>∃(d:B')(g:V)(G:Kh)(x:IK)(ps:Ku),vs=[.ref d,g]/\Iq K t H d G x ps/\IZ K t H d G x ps [Str.ofString (toString (ps.length:Int))] Q
def qe(T:Txt K mg t w):D3 P w K mg base IQ 3 t.hJ t.gO [jN,gp] (oY K t):=by
 refine T.sD.okl pG λ_ _ _ s H vs Q E I h _=>?_;intro X;let{d,g,G,x,ps,rfl,{dx,h,c,F,hd,J4,O,iff},q}:=h;refine{_,(ax<|ay<|az<|aa (aP aL {_} T.cw bD (aa (io (aO F3 M) T.aU T.si (jG T) I.mo T.sw .nil aM) ag)) ag)
  ,?_}
 let{S,U,Y,z,_}:=J4.A.ins;refine{_,M,d,_,dx,_,_,M,hd,T.bH,T.b5,M,h,S,U,M,Y,z _ ∅,h,F,x,M,J4.A,λH1 F1 A1 Z _=>?_};let{D1,g1}:=Iq.go hd O iff (J4.to A1) Z;have le:=J4.le;rw[J4.ln];exact{_,M,iH () (),(by show 1<=sizeLine;decide),λl nl=>D1.tell g1 nl q}
def q9(K:J5)(t:II):Sp:=λvs H Q _=>∃(d:B')(g:V)(G:Kh)(x:IK)(ps:Ku),vs=[.ref d,g]/\Iq K t H d G x ps/\(-(10^60)<x.now/\x.now<10^60/\-(10^60)<x.fl/\x.fl<10^60)/\IZ K t H d G x ps [Str.ofString (toString x.now)++(rs:Str)++Str.ofString (toString x.fl)] Q
def rQ(T:Txt K mg t w):D3 P w K mg base IQ 1 t.jo t.ja [jN,gp] (q9 K t):=by
 refine T.uG.okl rD λ_ _ _ s H vs Q E hr h _=>?_;intro X;let{d,g,G,x,ps,rfl,{dx,h,c,F,hd,J4,S,iff},b,q}:=h;refine{_,(ax<|ay<|az<|aa (aD bZ (aD bZ (aP aL {_} T.cw bD (aa (aO (aO F3 M) M) ag)) ao)<|aP aL {_} T.cw bD (aa (aO (aO F3 M) M) ag)) ag)
  ,?_}
 let{z,I,O,_,U,Y}:=J4.A.ins;let{D1,Z}:=Iq.go hd S iff J4 Fr.refl;have l1:=lK b.1 b.2.1;have l2:=lK b.2.2.1 b.2.2.2;have l3:(rs:Str).length=1:=by decide+kernel
 have big:1000<=sizeLine:=by decide
 refine{_,M,d,_,dx,_,_,M,hd,T.bH,T.b5,M,h,_,z,I,_,M,O,T.aU,T.eX,U,_,M,iH b.1 b.2.1,_,_,M,M,(),?_};refine{_,M,d,_,dx,_,_,M,hd,T.bH,T.b5,M,h,_,z,I,_,M,O,T.aU,T.qy,Y,_,M,iH b.2.2.1 b.2.2.2,_,_,M,M,by rw[Str.length_append];lia,?_};exact{(by show 1<=sizeLine;decide),λl nl=>D1.tell Z nl q}
def oZ(K:J5)(t:II):Sp:=λvs H Q _=>∃(d:B')(g:V)(G:Kh)(x:IK)(ps:Ku),vs=[.ref d,g]/\Iq K t H d G x ps/\IZ K t H d G x ps (ps.map K9) Q
def qf(T:Txt K mg t w):D3 P w K mg base (JV P w) 7 t.hU t.gP [jN,gp] (oZ K t):=by
 have S:=Iv.nd;refine T.sE.okX Iv (λvs H Q E h=>?_)<|λU A outer s H vs Q E Y h=>?_
 .let{d,g,G,x,ps,rfl,_}:=h;rfl
 .let{d,g,G,x,ps,rfl,{dx,h,c,F,hd,J4,I,iff},q}:=h;refine{_,(ax<|ay<|aI (wM T) Y.mo {_} T.Gs T.zE.kp T.Gz .nil lU (aa (aO F3 M) ag))
   ,?_}
  refine{_,M,d,_,dx,_,_,M,hd,T.bH,T.b5,M,h,F,x,ps,M,J4,λH1 F1 l Z O nl hl=>?_};let{D1,g1}:=Iq.go hd I iff Z O;exact q H1 _ l D1 g1 (λz=>z.elim (λz=>by have e:=(O _ _ I hd).1;rw[<-z,hl]at e;cases e) nl) hl
def qZ(K:J5)(t:II):Sp:=λvs H Q _=>∃(d g:B')(G:Kh)(x:IK)(ps:Ku)(kvs:Kv)(k v:Int),vs=[.ref d,.ref g]/\Iq K t H d G x ps/\H g=some (.dK kvs)/\aR kvs (Sum.inr (iA:Str))=some (.int k)/\aR kvs (Sum.inr (hH:Str))=some (.int v)/\(0<=k/\k<10^60/\-(10^60)<v/\v<10^60)/\cV (ps.map (·.1))/\(∀p∈ps,p.1<k)/\ps.length<1000/\x.now+x.ma<4000/\
 ∀x',x'.now=x.now+1->x'.fl=x.fl->x'.ma=x.ma->cV ((ps++ [(k,v)]).map (·.1))->IZ K t H d G x' (ps++ [(k,v)]) [] Q
def rP(T:Txt K mg t w):D3 P w K mg base (JV P w) 6 t.jm t.i9 [jN,gp] (qZ K t):=by
 have Y:=J9.nd;refine T.uF.okX J9 (λvs H Q E h=>?_)<|λZ A outer s H vs Q E z h=>?_
 .let{d,g,G,x,ps,kvs,k,v,rfl,_}:=h;rfl
 .let{d,g,G,x,ps,kvs,k,v,rfl,{dx,h,c,F,hd,J4,nf,iff},S,ek,ev,b,up,lt,pl,I,q}:=h;refine ai (bu<|bc (aO F3 M) T.aU T.Dg (rY T) z.mo T.DS .nil lU<|aa (j1 (jt z) HW ao<|λ_ _=>M)<|aa (j1 (jt z) HW ao<|λ_ _=>M) ag)
    (aC (ay<|az ag) ?_)
  intros
  have dg:=Io.k (k:=Sum.inr (iA:Str)) S;rw[ek]at dg;have U:=Io.k (k:=Sum.inr (hH:Str)) S;rw[ev]at U;let{dh,fh,hh,O,_}:=J4.A.ins;refine{_,M,d,_,dx,_,_,M,hd,T.bH,T.b5,M,h,dh,fh,M,hh,O _ ∅,_,M,g,_,M,dg,_,M,g,_,M,U,h,k,v,F,x,M,J4.A,b.1,I,λH1 F1 a0 r p pa' A1 _ f1=>?_};let{J1,up1}:=J4.put A1 M up lt b ();let{D1,g1}:=Iq.go hd nf iff J1 f1;exact{(by show 0<=sizeLine;decide),λl I=>D1.tell g1 I<|q _ M M M up1}
def pc(K:J5)(t:II):Sp:=λvs H Q _=>∃(d g p:B')(G:Kh)(x:IK)(ps:Ku)(kvs:Kv),vs=[.ref d,.ref g]/\Iq K t H d G x ps/\H g=some (.dK kvs)/\aR kvs (Sum.inr (cj:Str))=some (.ref p)/\IZ K t H d G x ps [] Q
def qg(T:Txt K mg t w):D3 P w K mg base IQ 4 t.hV t.gQ [jN,gp] (pc K t):=by
 refine T.sF.okl pH λ_ _ _ s H vs Q E Y h _=>?_;intro X;let{d,g,p,G,x,ps,kvs,rfl,{dx,h,c,F,hd,J4,Z,iff},hg,ek,q}:=h;refine ai (bx F3 (oJ T.Go (oz T) Y.mo {_} T.Gq T.oE.choose_spec.1 T.oE.choose_spec.2 aM (aa (aO F3 M)<|aa (j1 (jt Y) HW ao<|λ_ _=>M) ag)) M)
   (aC (ay<|az ag) ?_)
 intros
 have dg:=Io.k (k:=Sum.inr (cj:Str)) hg;rw[ek]at dg;refine{_,M,d,_,dx,_,_,M,hd,T.bH,T.b5,M,_,M,g,_,M,dg,λO S nc U ne=>?_};have sn:HU H (upd (upd H S<|.own O) O<|.ins t.cn S []):=λb o e=>by rwa[ah (aq e nc),ah (aq e U)]
 refine{O,S,h,p,F,x,M,BB,J4.A.same sn,λH1 _ o1=>{M,?_}};have s1:HU H H1:=λb o e=>o1 b o (aq e nc) (sn b o e);have I:=s1 _ _ hd;refine{_,M,d,_,dx,_,M,I,T.bH,T.qz,jI (by kernel_rfl),cQ λH2 h2 o2=>?_};have A1:=J4.A.same s1;have A2:Ih K t H2 h F x:=A1.keep (λb hb=>o2 b λz=>Z<|z▸hb) λb xs e=>by
  rwa[o2 b λz=>by rw[z,I]at e;cases e]
 have D2:Iq K t H2 d G x ps:={dx,h,.ref O,F,h2.trans (by kernel_rfl),J4.to A2,Z,iff};have g2:Fr G G H H2:=λb o n e=>{by rw[o2 b λz=>n ((iff b).mpr<|.inl z)];exact s1 _ _ e,n};exact{(by show 0<=sizeLine;decide),λl nl=>D2.tell g2 nl q}
def IZ.on{d:B'}{x:IK}(q:IZ K t H d G x ps ts Q)(s:HU H H1):IZ K t H1 d G x ps ts Q:=λH' z l D f n e=>q H' z l D ((Fr.of_same s).trans f) n e
def xy(K:J5)(H:Hp)(v:V):Prop:=(∃(z w0:Str)(zs:Kc),v= .str z/\z.length<=6000/\Txt.split z (rs:Str)=w0::zs/\zs.length<=100/\(∀y∈zs,y.length<=100)/\sA (w0::zs))\/(∃ty,IH K H v ty/\PySem.W.kitOne K ty (.type qs)=some false)
inductive Act(K:J5)(t:II)(H:Hp)(d:B')(G:Kh)(x:IK)(ps:Ku)(Q:VK):Str->List Str->Prop
 |put{x1 x2:Str}{k v:Int}:Jg x1=some k->Jg x2=some v->(0<=k/\k<10^60/\-(10^60)<v/\v<10^60)->cV (ps.map (·.1))->(∀p∈ps,p.1<k)->ps.length<1000->x.now+x.ma<4000->
   (∀x',x'.now=x.now+1->x'.fl=x.fl->x'.ma=x.ma->cV ((ps++ [(k,v)]).map (·.1))->IZ K t H d G x' (ps++ [(k,v)]) [] Q)->Act K t H d G x ps Q (p0:Str) [x1,x2]
 |get{x1:Str}{k v:Int}:Jg x1=some k->0<=k->(k,v)∈ps->IZ K t H d G x ps [Str.ofString (toString v)] Q->Act K t H d G x ps Q ("get":Str) [x1]
 |many:IZ K t H d G x ps [Str.ofString (toString (ps.length:Int))] Q->Act K t H d G x ps Q ("many":Str) []
 |now:(-(10^60)<x.now/\x.now<10^60/\-(10^60)<x.fl/\x.fl<10^60)->IZ K t H d G x ps [Str.ofString (toString x.now)++(rs:Str)++Str.ofString (toString x.fl)] Q->Act K t H d G x ps Q ("now":Str) []
 |copy{x1 x2 x3:Str}{kd:Int}{a e:V}:Tk (Txt.join (rs:Str) [x1,x2,x3]) kd a e->IZ K t H d G x ps [] Q->Act K t H d G x ps Q (ub:Str) [x1,x2,x3]
 |keep:IZ K t H d G x ps (ps.map K9) Q->Act K t H d G x ps Q ("keep":Str) []
def Act.frm{d:B'}{x:IK}(a:Act K t H d G x ps Q w0 zs):(∃ths,frm w0=some ths/\Ok ths zs)/\w0≠(fo:Str)/\w0∉[("open":Str),(rr:Str),("close":Str),("follow":Str),("show":Str),("covers":Str),("total":Str),("stop":Str)]:=by
 have z:(iA:Str)≠(cj:Str):=by decide+kernel
 have I:(hH:Str)≠(cj:Str):=by decide+kernel
 have mk:∀{n:Int},0<=n->lq (iA:Str) n=true:=λ{n} h=>by
  unfold lq;rw[Xc ∅,Xc ∅];exact Xg h
 have mv:∀{n:Int},lq (hH:Str) n=true:=λ{n}=>by
  unfold lq;rw[Xe M]
 cases a with
 |put h1 h2 b=>exact{{[(iA:Str),(hH:Str)],∅,.num z h1 (mk b.1)<|.num I h2 mv .nil},∅,∅}
 |get h1 h2=>exact{{[(iA:Str)],∅,.num z h1 (mk h2) .nil},∅,∅}
 |many=>exact{{[],∅,.nil},∅,∅}
 |now=>exact{{[],∅,.nil},∅,∅}
 |copy h=>exact{{[(cj:Str)],∅,.tok h .nil},∅,∅}
 |keep=>exact{{[],∅,.nil},∅,∅}
def Ok.app{a b c d:Kc}(h:Ok a b)(k:Ok c d):Ok (a++c) (b++d):=by
 induction h with
 |nil=>exact k
 |num h1 h2 I _ z=>exact .num h1 h2 I z
 |tok h1 _ z=>exact .tok h1 z
def Gr.ok(g:Gr t H kvs ths zs):Ok ths.reverse zs.reverse:=by
 induction g with
 |nil=>exact .nil
 |num h1 h2 I _ _ z=>
  rw[Z8,Z8];exact z.app<|.num h1 h2 I .nil
 |tok h1 _ _ _ z=>
  rw[Z8,Z8,Z8,Z8,QV,QV];exact z.app<|.tok h1 .nil
def uj{l:Kc}:K7 (.str w0) (l.map V.str)=decide (w0∈l):=by
 induction l with
 |nil=>rfl
 |cons a r I=>
  have e:K7 (.str w0) ((a::r).map V.str)=(K2 (.str a) (.str w0)||K7 (.str w0) (r.map V.str)):=M;rw[e,I];have e2:K2 (.str a) (.str w0)=decide (w0=a):=by
   by_cases c:w0=a
   .rw[c];simp[K2]
   .rw[Xh c];simp[K2];exact λz=>c z.symm
  rw[e2,<-Bool.decide_or];congr 1;exact propext<|by rw[Qa]
def bT(K:J5)(t:II):Sp:=λvs H Q E=>∃(d:B')(v:V)(G:Kh)(x:IK)(ps:Ku),vs=[.ref d,v]/\Iq K t H d G x ps/\((xy K H v/\Rs H t.bb [] E)\/
 ∃(z w0:Str)(zs:Kc),v= .str z/\z.length<=6000/\Txt.split z (rs:Str)=w0::zs/\zs.length<=100/\(∀y∈zs,y.length<=100)/\Act K t H d G x ps Q w0 zs)
def lY(T:Txt K mg t w):D3 P w K mg base (JV P w) 9 t.nX t.jO [aF,"row"] (bT K t):=by
 have a3:=JN.nd;refine T.EH.okX JN (λvs H Q E h=>?_)<|λa4 A outer s H vs Q E hr h=>?_
 .let{d,v,G,x,ps,rfl,_}:=h;rfl
 .let{d,v,G,x,ps,rfl,D,q}:=h;refine ai (IL 2<|aI (rM T) hr.mo {_} T.Dj T.uE.kp T.DK .nil lU (aa HW ag))
    (ai (IL 3<|aY nE IA am<|λ_ _=>M)
    (ai (aS (PW.pt<|eQ (aA sQ IM (bL (v:= .ref t.jK) {_} T.Da M) M)<|dM<|aA tZ (aO F3 M) jC<|aH _)
   (ax<|eL M fW<|bv T.tI T.BS {_} T.ue (aa ao ag))
   aB)
     (ai (IL 4<|xT {_} T.Fq T.FF IM (λ_ _=>M))
     (aC (ay<|Ax (kk:=7) (vL (nG T.uF.kp (rP T) T.DL (_))<|vL (nG T.uH.kp (rR T) T.DN (_))<|vL (nG T.sD.kp (qe T).up T.BW (_))<|vL (nG T.uG.kp (rQ T).up T.DM (_))<|vL (nG T.sF.kp (qg T).up T.BY (_))<|nG T.sE.kp (qf T) T.BX (_)) hr.mo Je lU<|aa F3<|aa (aY nE IA am<|λ_ _=>M) ag) ?_))))
  intros
  rcases q with⟨⟨z,w0,zs,rfl,Y,es,Z,hz,no⟩|⟨ty,ht,hk⟩,q⟩|⟨z,w0,zs,rfl,Y,es,Z,hz,a⟩
  .refine{_,M,.inl {z,w0,zs,M,Y,es,Z,hz,λths H' p d' kvs S np s hp a5 g=>?_,λ_=>q}};have o:=g.ok;rw[ZS,ZS]at o;let{h1,h2}:=no w0 zs ths M S o;exact Xd h2<|np h1
  .exact{_,M,.inr ⟨v,ty,M,ht,hk,q⟩}
  let{{ths,S,ok},a0,a1}:=a.frm;refine{_,M,.inl {z,w0,zs,M,Y,es,Z,hz,λI H1 p g kvs a2 _ s hp hg O=>?_,λno=>Xd (no w0 zs ths M S ok).1 a0}};obtain rfl:I=ths:=Xf (a2.symm.trans S);refine{_,M,p,_,_,_,M,M,IP.of hp,M,?_};refine{_,M,t.jK,_,M,.inr<|T.Dl _,M,M,_,M,dD (λc=>Xd c ?_)<|λ_=>?_}
  .show ¬K7 (.str w0) ([("open":Str),(rr:Str),("close":Str),("follow":Str),("show":Str),("covers":Str),("total":Str),("stop":Str)].map V.str)=true;rw[uj,Xh a1];exact Q8
  have D1:=D.same s;have rN:∀{y:Str}{i j:Int},Jg y=some i->Jg y=some j->i=j:=λh1 h2=>Xf (h1.symm.trans h2);cases a with
  | @put x1 x2 k v h1 h2 b up lt pl nl q=>
   obtain rfl:I=[(iA:Str),(hH:Str)]:=Xf (S.symm.trans ∅);have O:Gr t H1 kvs [(hH:Str),(iA:Str)] [x2,x1]:=O;cases O with
   |num _ r1 _ U O=>
    cases O with
    |num _ r2 _ e2 O=>
     rw[rN r1 h2]at U;rw[rN r2 h1]at e2;refine{_,M,_,_,M,T.A7,_,M,_,_,M,.inl ⟨M,M⟩,_,M,_,M,p,_,_,_,M,M,IP.of hp,M,?_};exact{d,g,G,x,ps,kvs,k,v,M,D1,hg,e2,U,b,up,lt,pl,nl,λx' z1 z2 z3 z4=>(q x' z1 z2 z3 z4).on s}
  | @get x1 k v h1 h2 m q=>
   obtain rfl:I=[(iA:Str)]:=Xf (S.symm.trans ∅);have O:Gr t H1 kvs [(iA:Str)] [x1]:=O;cases O with
   |num _ r1 _ U O=>
    rw[rN r1 h1]at U;refine{_,M,_,_,M,T.A9,_,M,_,_,M,.inr<|.inl ⟨M,M⟩,_,M,_,M,p,_,_,_,M,M,IP.of hp,M,?_};exact{d,g,G,x,ps,kvs,k,v,M,D1,hg,U,m,q.on s}
  |many q=>
   refine{_,M,_,_,M,T.zM,_,M,_,_,M,.inr<|.inr<|.inl ⟨M,M⟩,_,M,_,M,p,_,_,_,M,M,IP.of hp,M,?_};exact{d,_,G,x,ps,M,D1,q.on s}
  |now b q=>
   refine{_,M,_,_,M,T.A8,_,M,_,_,M,.inr<|.inr<|.inr<|.inl ⟨M,M⟩,_,M,_,M,p,_,_,_,M,M,IP.of hp,M,?_};exact{d,_,G,x,ps,M,D1,b,q.on s}
  | @copy x1 x2 x3 kd a e tk q=>
   obtain rfl:I=[(cj:Str)]:=Xf (S.symm.trans ∅);have O:Gr t H1 kvs [(cj:Str)] [x3,x2,x1]:=O;cases O with
   |num h=>exact Xd M h
   |tok _ _ U _=>
    refine{_,M,_,_,M,T.zO,_,M,_,_,M,.inr<|.inr<|.inr<|.inr<|.inl ⟨M,M⟩,_,M,_,M,p,_,_,_,M,M,IP.of hp,M,?_};exact{d,g,_,G,x,ps,kvs,M,D1,hg,U,q.on s}
  |keep q=>
   refine{_,M,_,_,M,T.zN,_,M,_,_,M,.inr<|.inr<|.inr<|.inr<|.inr ⟨M,M⟩,_,M,_,M,p,_,_,_,M,M,IP.of hp,M,?_};exact{d,_,G,x,ps,M,D1,q.on s}
noncomputable def Jl:List Str->Nat
 | []=>0
 |th::r=>(if th=(cj:Str)then 3 else 1)+Jl r
def Ok.len(h:Ok ths zs):zs.length=Jl ths:=by
 induction h with
 |nil=>rfl
 |num h _ _ _ z=>unfold Jl;rw[Xc h,Q3,z];lia
 |tok _ _ z=>unfold Jl;rw[Xe M,Q3,Q3,Q3,z];lia
def EY{x:Str}(h:Jg x=some n):Ir x=true/\PySem.intText? x=some n:=by
 unfold Jg at h;split at h
 .next c=>exact⟨c,h⟩
 .cases h
def uM{x y z:Str}{kd:Int}{a e:V}(hs:∀w∈[x,y,z],32∉sg w)(h:Tk (Txt.join (rs:Str) [x,y,z]) kd a e):x=Jx kd/\Jj y=some a/\Jj z=some e/\Ji kd a e:=by
 let{O,S,h,h1,h2,I}:=h;rw[qT,d6 (by simp) hs]at h;cases h;exact⟨M,h1,h2,I⟩
def Kw(z:Str):Prop:=z=(gr:Str)\/z=("up":Str)\/z=("down":Str)
def FG{kd:Int}{a e:V}(h:Ji kd a e):Kw (Jx kd):=by
 rcases h.kd with rfl|rfl|rfl
 .exact .inl M
 .exact .inr<|.inl M
 .exact .inr<|.inr M
def EZ{y:Str}{a:V}(h:Jj y=some a):(y=("-":Str)/\a= .non)\/(Ir y=true/\∃n,PySem.intText? y=some n/\a= .int n):=by
 unfold Jj at h;split at h
 .next c=>cases h;exact .inl ⟨c,M⟩
 .split at h
  .next c=>
   cases e:PySem.intText? y with
   |none=>rw[e]at h;cases h
   |some n=>rw[e]at h;cases h;exact .inr ⟨c,n,M,M⟩
  .cases h
def Fi{kd:Int}{a e:V}(h:Ji kd a e):(∀n,a= .int n->0<=n)/\(∀n,e= .int n->0<=n):=by
 rcases h with⟨_,i,j,rfl,rfl,h1,h2,z⟩|⟨_,i,rfl,h1,h2⟩|⟨_,j,rfl,h1,h2⟩
 .exact{λn e=>by cases e;lia,λn e=>by cases e;lia}
 .refine{λn e=>by cases e;lia,λn e=>?_};rcases h2 with h2|⟨j,h2,z⟩<;>rw[h2]at e<;>cases e;lia
 .refine{λn e=>?_,λn e=>by cases e;lia};rcases h2 with h2|⟨j,h2,z⟩<;>rw[h2]at e<;>cases e;lia
def Ok.word(h:Ok ths zs):(∀z∈zs,32∉sg z)->∀z∈zs,(Ir z=true/\((hH:Str)∉ths->∀n,PySem.intText? z=some n->0<=n))\/z=("-":Str)\/Kw z:=by
 induction h with
 |nil=>exact λ_ z m=>Xd m Qe
 | @num th x n ths zs h1 h2 I _ U=>
  intro hs z m;let{Z,it}:=EY h2;rcases Qa.mp m with rfl|m
  .refine .inl {Z,λO m S=>?_};rw[it]at S;cases S;unfold lq at I;rw[Xc λz=>O (by rw[z];exact Q6)]at I;split at I
   .rw[Qv]at I;have:=Xk I.1;lia
   .exact Xk I
  .exact(U (λz m=>hs z<|Q4 _ m) z m).imp (λzz=>by let{a,b}:=zz;exact{a,λO=>b λy=>O<|Q4 _ y}) id
 | @tok x y w kd a e ths zs h1 _ U=>
  intro hs z m;let{e1,e2,e3,ok}:=uM (x:=x) (y:=y) (z:=w) (λv hv=>hs v<|Qu zs hv) h1;let{g1,g2}:=Fi ok;have Y:∀{v:Str}{a:V},Jj v=some a->(∀n,a= .int n->0<=n)->(Ir v=true/\((hH:Str)∉(cj:Str)::ths->∀n,PySem.intText? v=some n->0<=n))\/v=("-":Str)\/Kw v:=λr g=>by
   rcases EZ r with⟨h,_⟩|⟨h,n,hn,rfl⟩
   .exact .inr<|.inl h
   .exact .inl {h,λ_ m S=>by rw[hn]at S;cases S;exact g _ M}
  rcases Qa.mp m with rfl|m
  .exact .inr<|.inr (by rw[e1];exact FG ok)
  rcases Qa.mp m with rfl|m
  .exact Y e2 g1
  rcases Qa.mp m with rfl|m
  .exact Y e3 g2
  .exact(U (λz m=>hs z<|Q4 _<|Q4 _<|Q4 _ m) z m).imp (λzz=>by let{a,b}:=zz;exact{a,λO=>b λy=>O<|Q4 _ y}) id
def wP(h:frm w0=some ths)(n:zs.length≠Jl ths):sA (w0::zs):=λS O z e I o=>by
 cases e;rw[h]at I;cases I;exact Xd o.len n
def wQ(h:frm w0=none):sA (w0::zs):=λS O z e I o=>by
 cases e;rw[h]at I;cases I
def C4{z:Str}(hs:∀z∈zs,32∉sg z)(m:z∈zs)(h1:Ir z=false)(h2:z≠("-":Str))(O:¬Kw z):sA (w0::zs):=λU S I e Y o=>by
 cases e;rcases o.word hs z m with⟨h,_⟩|h|h
 .rw[h1]at h;cases h
 .exact Xd h h2
 .exact Xd h O
def Fm{z:Str}(hs:∀z∈zs,32∉sg z)(S:frm w0=some ths)(U:(hH:Str)∉ths)(m:z∈zs)(Y:PySem.intText? z=some n)(h1:n<0)(h2:z≠("-":Str))(Z:¬Kw z):sA (w0::zs):=λw1 a0 O e I o=>by
 cases e;rw[S]at I;cases I;rcases o.word hs z m with⟨_,h⟩|h|h
 .have:=h U n Y;lia
 .exact Xd h h2
 .exact Xd h Z
structure JQ(ws:Kc):Prop where
 ne:ws≠[]
 no:sA ws
 sh:∀z∈ws,z.length<=100/\32∉sg z
 ln:ws.length<=50
def JQ.mk'(I:sA (w0::zs))(O:w0.length<=100/\32∉sg w0)(sh:∀z∈zs,z.length<=100/\32∉sg z)(S:zs.length<=40):JQ (w0::zs):=
 {(λz=>nomatch z),I,λz m=>(Qa.mp m).elim (λe=>by rwa[e])<|sh z,by rw[Q3];lia}
abbrev nu(n:Int):Str:=Str.ofString (toString n)
def dF(a b:Str):sg (a++b)=sg a++sg b:=by
 show(a.cps++b.cps).toList=_;rw[Array.toList_append]
def yc{c:Nat}{a:Str}(h:ws≠[]):jn c (a::ws)=sg a++c::jn c ws:=by
 cases ws with
 |nil=>exact Xd M h
 |cons b r=>rfl
theorem yb{c:Nat}{y:Str}:∀{ws:Kc},ws≠[]->jn c (ws++ [y])=jn c ws++c::sg y
 | [],h=>Xd M h
 | [a],_=>rfl
 |a::b::r,_=>by
  have z:=yb (c:=c) (y:=y) (ws:=b::r) (by simp);show sg a++c::jn c ((b::r)++ [y])=_;rw[z];show _=(sg a++c::jn c (b::r))++c::sg y;rw[QV];rfl
def KU(l:Kc):sg (Txt.join (rs:Str) l)=jn 32 l:=by
 rw[oK,qT];exact oI 32 l
def sgB:sg (rs:Str)=[32]:=by decide+kernel
def sgE:sg ("":Str)=[]:=by decide+kernel
def yJ(h:ws≠[]):(rs:Str)++Txt.join (rs:Str) ws=Txt.join (rs:Str) (("":Str)::ws):=gh (by rw[dF,KU,KU,yc h,sgB,sgE];rfl)
def pX{y u:Str}(h:ws≠[])(e:sg u=32::sg y):Txt.join (rs:Str) ws++u=Txt.join (rs:Str) (ws++ [y]):=gh (by rw[dF,KU,KU,yb h,e])
noncomputable def d5:List Str->List Str
 | []=> []
 | [a]=> [a]
 |a::b::r=>a::("":Str)::d5 (b::r)
def zU{a:Str}{r:Kc}:d5 (a::r)≠[]:=by
 cases r<;>exact λz=>nomatch z
theorem sH:∀{ws:Kc},ws≠[]->(d5 ws).length=2*ws.length-1
 | [],h=>Xd M h
 | [a],_=>rfl
 |a::b::r,_=>by
  have z:=sH (ws:=b::r) (by simp);show(d5 (b::r)).length+1+1=_;rw[z];simp only[Q3];lia
theorem mP{z:Str}:∀{ws:Kc},z∈d5 ws->z=("":Str)\/z∈ws
 | [],h=> .inr h
 | [a],h=> .inr h
 |a::b::r,h=>by
  rcases Qa.mp h with h|h
  .exact .inr<|by rw[h];exact Q6
  rcases Qa.mp h with h|h
  .exact .inl h
  .exact(mP h).imp id<|Q4 _
theorem mX:∀{ws:Kc},sg (Str.join ("  ":Str) ws)=jn 32 (d5 ws)
 | []=>rfl
 | [a]=>rfl
 |a::b::r=>by
  have z:=mX (ws:=b::r);show sg (a++("  ":Str)++Str.join ("  ":Str) (b::r))=_;rw[dF,dF,z,show sg ("  ":Str)=[32,32] by decide+kernel];show _=sg a++32::jn 32 (("":Str)::d5 (b::r));rw[yc zU,sgE,QV];rfl
def Bm(h:frm w0=some ths):(w0,ths)∈FT:=by
 unfold frm at h;let{p,h1,rfl}:=QL.mp h;obtain rfl:p.1=w0:=Xk (List.find?_some (p:=λp:Str×List Str=>decide (p.1=w0)) h1);exact List.mem_of_find?_eq_some h1
def EA(h:frm w0=some ths):w0.length<=10/\32∉sg w0/\Jl ths<=5/\frm (w0++("x":Str))=none/\32∉sg (w0++("x":Str)):=by
 have all:∀p∈FT,p.1.length<=10/\32∉sg p.1/\Jl p.2<=5/\frm (p.1++("x":Str))=none/\32∉sg (p.1++("x":Str)):=by decide+kernel
 exact all _<|Bm h
def FP(h:frm w0=some ths):frm (Txt.upper w0)=none/\32∉sg (Txt.upper w0)/\(Txt.upper w0).length<=100:=by
 have all:∀p∈FT,frm (Txt.upper p.1)=none/\32∉sg (Txt.upper p.1)/\(Txt.upper p.1).length<=100:=by decide+kernel
 exact all _ (Bm h)
inductive Wz:Str->Prop
 |num{n:Int}:0<=n->n<10^40->Wz (nu n)
 |dash:Wz ("-":Str)
 |kw{z:Str}:Kw z->Wz z
def JZ(w0:Str)(zs:Kc):Prop:=∃ths,frm w0=some ths/\zs.length=Jl ths/\(((hH:Str)∉ths/\∀z∈zs,Wz z)\/(w0=(p0:Str)/\∃(k:Int)(v:Str),zs=[nu k,v]/\0<=k/\k<10^40/\(v=("0":Str)\/∃n:Int,1<=n/\n<10^40/\v=("-":Str)++nu n)))
def qu(z: -(10^41)<n)(h1:n<10^41):Ir (nu n)=true/\PySem.intText? (nu n)=some n/\(nu n).length<=61/\32∉sg (nu n)/\Jg (nu n)=some n:=by
 let{a,b,c}:=Fj (i:=n) () ();refine{a,b,lK () (),λm=>?_,by unfold Jg;rwa[Xe a]};have:=c 32 m;lia
def F8{x:Str}(h:1<=x.length):Ir (("0":Str)++x)=false:=by
 have e:sg (("0":Str)++x)=48::sg x:=by
  rw[dF,Jz];rfl
 have l0:("0":Str).length=1:=by decide+kernel
 have b:Jy (("0":Str)++x)=false:=by
  unfold Jy;rw[e];rfl
 have n:("0":Str)++x≠("0":Str):=λz=>by
  have:=Xo Str.length z;rw[Str.length_append]at this;lia
 unfold Ir sy;rw[show JW (("0":Str)++x)=("0":Str)++x by unfold JW;rw[b];rfl,e,Xg n];simp
def wO(h:1<=n):("-":Str)++nu n=nu (-n):=by
 obtain⟨k,rfl⟩:∃k:Nat,n=((k+1:Nat):Int):={n.natAbs-1,()};have e:sg (Str.ofString<|toString ((k+1:Nat):Int))=(Nat.toDigits 10<|k+1).map Char.toNat:=PySem.W.KIN.signs_num (k+1);have es:sg (Str.ofString<|toString<|-((k+1:Nat):Int))=45::(Nat.toDigits 10<|k+1).map Char.toNat:=by
  rw[Em]at e⊢;show("-"++toString (k+1)).toList.map Char.toNat=_;rw[String.toList_append,Qf];exact Xo (45:: ·) e
 refine gh ?_;rw[dF,e,es,EU];rfl
def Kw.f{z:Str}(h:Kw z):z.length<=10/\32∉sg z/\Txt.isdigit z=false/\Ir z=false:=by
 rcases h with rfl|rfl|rfl<;>decide+kernel
def Fk{z:Str}(h:Ir z=true):¬Kw z:=λk=>by
 rw[k.f.2.2.2]at h;cases h
def vv{z:Str}(h:Ir z=true):z≠("-":Str):=λk=>by
 rw[k,show Ir ("-":Str)=false by decide+kernel]at h;cases h
def Wz.f{z:Str}(h:Wz z):z.length<=61/\32∉sg z/\(Txt.isdigit z=true->∃n:Int,0<=n/\n<10^40/\z=nu n):=by
 cases h with
 | @num n I h1=>
  let{_,_,l,f,_}:=qu (n:=n) () ();exact{l,f,λ_=>⟨n,I,h1,M⟩}
 |dash=>exact{∅,∅,λh=>Xd h ∅}
 |kw k=>
  let{a,b,c,_}:=k.f;exact{(),b,λh=>by rw[c]at h;cases h}
def DB:Txt.isdigit (("-":Str)++nu n)=false:=by
 unfold Txt.isdigit;rw[show(("-":Str)++nu n).cps=(("-":Str).cps++(nu n).cps) from rfl,Array.all_append,show("-":Str).cps.all Unicode.isDigit=false by decide+kernel,ZP,Z9]
def JZ.sh(h:JZ w0 zs):(∀z∈zs,z.length<=62/\32∉sg z)/\zs.length<=5/\w0.length<=10/\32∉sg w0:=by
 let{ths,h1,h2,I}:=h;let{a,b,c,_}:=EA h1;refine{?_,(),a,b};rcases I with⟨_,h⟩|⟨_,k,v,rfl,k0,k1,O⟩
 .intro z m;let{x,y,_}:=(h z m).f;exact{(),y}
 .intro z m;let{_,_,l,f,_}:=qu (n:=k) () ();rcases Qa.mp m with rfl|m
  .exact{(),f}
  .rw[Q9.mp m];rcases O with rfl|⟨n,S,U,rfl⟩
   .decide+kernel
   .rw[wO S];let{_,_,l,f,_}:=qu (n:= -n) () ();exact{(),f}
def JZ.app{l:Kc}(h:JZ w0 zs)(ne:l≠[])(O:l.length<=20)(I:∀z∈l,z.length<=100/\32∉sg z):JQ (w0::(zs++l)):=by
 let{s1,s2,s3,s4}:=h.sh;let{ths,h1,h2,_}:=h;have:=QB.mpr ne;refine JQ.mk' (wP h1<|by rw[Q5];lia) {(),s4} (λz m=>?_) (by rw[Q5];lia);rcases Qd.mp m with m|m
 .exact{by have:=(s1 z m).1;lia,(s1 z m).2}
 .exact I z m
def JZ.drop(h:JZ w0 zs)(ne:zs≠[]):JQ (w0::zs.dropLast):=by
 let{s1,s2,s3,s4}:=h.sh;let{ths,h1,h2,_}:=h;have:=QB.mpr ne;refine JQ.mk' (wP h1<|by rw[Zf];lia) {(),s4} (λz m=>?_) (by rw[Zf];lia);have m:=(ZN zs).subset m;exact{by have:=(s1 z m).1;lia,(s1 z m).2}
def JZ.put{w0 z:Str}{zs:Kc}{i:Nat}(h:JZ w0 zs)(I:sA (w0::zs.set i z))(hz:z.length<=100/\32∉sg z):JQ (w0::zs.set i z):=by
 let{s1,s2,s3,s4}:=h.sh;refine JQ.mk' I {(),s4} (λy m=>?_) (by rw[QE];lia);rcases ZD m with m|rfl
 .exact{by have:=(s1 y m).1;lia,(s1 y m).2}
 .exact hz
def Af{z:Str}(h:∀z∈zs,32∉sg z)(hz:32∉sg z):∀y∈zs.set i z,32∉sg y:=λy m=>by
 rcases ZD m with m|rfl
 .exact h y m
 .exact hz
def JZ.odd{z:Str}(h:JZ w0 zs)(hi:i<zs.length)(h1:Ir z=false)(h2:z≠("-":Str))(I:¬Kw z)(hz:z.length<=100/\32∉sg z):JQ (w0::zs.set i z):=
 h.put (C4 (Af (λz m=>(h.sh.1 z m).2) hz.2) (List.mem_set hi z) h1 h2 I) hz
def sh1{z:Str}(h:z.length<=62):(("0":Str)++z).length<=100/\(("-":Str)++z).length<=100:=by
 have I:("0":Str).length=1:=by decide+kernel
 have e2:("-":Str).length=1:=by decide+kernel
 rw[Str.length_append,Str.length_append];lia
def sp1{c z:Str}(hc:32∉sg c)(h:32∉sg z):32∉sg (c++z):=by
 rw[dF];exact λm=>(Qd.mp m).elim hc h
def JZ.num{w0 z y:Str}{zs:Kc}{i:Nat}(h:JZ w0 zs)(hi:zs[i]?=some z)(hd:Txt.isdigit z=true)(hy:y=("0":Str)++z\/y=("-":Str)++z\/(Ir y=false/\y≠("-":Str)/\¬Kw y/\y.length<=100/\32∉sg y)):JQ (w0::zs.set i y):=by
 have I:i<zs.length:=(Q7.mp hi).1;have zm:=Q2 hi;let{zl,zf}:=h.sh.1 z zm;let{l1,l2}:=sh1 zl;have f1:32∉sg (("0":Str)++z):=sp1 ∅ zf;have O:32∉sg (("-":Str)++z):=sp1 ∅ zf;have a0:Txt.isdigit z=true->1<=z.length:=λh=>by
  unfold Txt.isdigit at h;rw[Qv]at h;exact Xk h.1
 have z1:=a0 hd;rcases hy with rfl|rfl|⟨a,b,c,d⟩
 .refine h.odd I (F8 z1) (λe=>?_) (λk=>?_) ⟨l1,f1⟩
  .have:=Xo sg e;rw[dF,EU,Jz]at this;cases this
  .have e:(sg<|("0":Str)++z).head?=some 48:=by rw[dF,Jz];rfl
   rcases k with k|k|k<;>rw[k]at e<;>exact Xd e ∅
 .have S:∀n:Int,0<=n->n<10^40->z=nu n->(∀ths,frm w0=some ths->(hH:Str)∉ths\/(w0=(p0:Str)/\i=0))->JQ (w0::zs.set i (("-":Str)++z)):=λn n0 n1 e hv=>by
   rcases Int.lt_or_le 0 n with np|nz
   .have Z:=wO (n:=n) ();let{a1,a2,_,_,a5}:=qu (n:= -n) () ();let{ths,hf,hl,hr}:=id h;rcases hv ths hf with nv|⟨rfl,rfl⟩
    .exact h.put (Fm (n:= -n) (Af (λz m=>(h.sh.1 z m).2) O) hf nv (List.mem_set I _) (by rwa[e,Z]) () (by rw[e,Z];exact vv a1)<|by rw[e,Z];exact Fk a1) ⟨l2,O⟩
    .refine h.put (λw1 a4 U e1 ef o=>?_) ⟨l2,O⟩;cases e1;obtain rfl:U=[(iA:Str),(hH:Str)]:=Xf (ef.symm.trans ∅);cases zs with
     |nil=>cases hi
     |cons y r=>
      rw[List.set_cons_zero,e,Z]at o;cases o with
      |num _ h2 h3 _=>
       rw[a5]at h2;cases h2;exfalso;revert h3;unfold lq;rw[Xc ∅,Xc ∅,Xh ()];exact Q8
   .obtain rfl:n=0:=();rw[e]at O⊢;exact h.odd I ∅ ∅ (λk=>by rcases k with k|k|k<;>exact Xd k ∅) {∅,O}
  let{ths,hf,hl,hr}:=id h;rcases hr with⟨nv,hw⟩|⟨rfl,k,v,rfl,k0,k1,hv⟩
  .let{n,n0,n1,e}:=(hw z zm).f.2.2 hd;exact S n n0 n1 e λa3 Y=>by rw[hf]at Y;cases Y;exact .inl nv
  .match i,I,hi with
   |0,_,hi=>
    cases hi;exact S k k0 k1 M λ_ _=> .inr ⟨M,M⟩
   |1,I,hi=>
    cases hi;rcases hv with rfl|⟨n,n1,n2,rfl⟩
    .exact h.odd I ∅ ∅ (λk=>by rcases k with k|k|k<;>exact Xd k ∅) {∅,O}
    .rw[DB]at hd;cases hd
 .exact h.odd I a b c d
def vH(h:frm w0=some ths)(hw:w0∈[(mu:Str),(fo:Str),(rr:Str)]):(w0=(mu:Str)/\ths=[(cj:Str),(gt:Str)])\/(w0=(fo:Str)/\ths=[(hQ:Str),(cj:Str),(gt:Str)])\/(w0=(rr:Str)/\ths=[(gt:Str)]):=by
 simp only[Qa,Qe,or_false]at hw;rcases hw with rfl|rfl|rfl
 .exact .inl {M,Xf<|h.symm.trans ∅}
 .exact .inr<|.inl {M,Xf<|h.symm.trans ∅}
 .exact .inr<|.inr {M,Xf<|h.symm.trans ∅}
def Ft(h:n<1\/100<n):lq (gt:Str) n=false:=by
 unfold lq;rw[Xc ∅,Xe M,Bool.and_eq_false_iff];rcases h with h|h
 .exact .inl<|Xh ()
 .exact .inr<|Xh ()
def JZ.many(h:JZ w0 zs)(hw:w0∈[(mu:Str),(fo:Str),(rr:Str)])(h0:0<=n)(h1:n<10^40)(Z:n<1\/100<n):JQ (w0::(zs.dropLast++ [nu n])):=by
 let{s1,s2,s3,s4}:=h.sh;let{a1,_,a3,a4,a5}:=qu (n:=n) () ();let{ths,O,hl,_}:=h;have bad:∀{I:Kc},Ok ((gt:Str)::I) [nu n]->False:=λ{I} o=>by
  cases o with
  |num _ h2 S _=>
   rw[a5]at h2;cases h2;rw[Ft Z]at S;cases S
 refine JQ.mk' (λw1 a0 U e Y o=>?_) {(),s4} (λz m=>?_)<|by rw[Q5,Zf,QS];lia
 .cases e;rw[O]at Y;cases Y;exfalso;rcases vH O hw with⟨rfl,rfl⟩|⟨rfl,rfl⟩|⟨rfl,rfl⟩
  .match zs,hl with
   | [a,b,c,d],_=>
    cases o with
    |num h=>exact h M
    |tok _ o=>exact bad o
  .match zs,hl with
   | [m,a,b,c,d],_=>
    cases o with
    |num _ _ _ o=>
     cases o with
     |num h=>exact h M
     |tok _ o=>exact bad o
  .match zs,hl with
   | [a],_=>exact bad o
 .rcases Qd.mp m with m|m
  .have m:=(ZN zs).subset m;exact{by have:=(s1 z m).1;lia,(s1 z m).2}
  .rw[Q9.mp m];exact{(),a4}
def Ii(a b c:Str):Prop:=(∀z∈[a,b,c],z.length<=100/\32∉sg z)/\Ge (Txt.join (rs:Str) [a,b,c])
def dI(O:0<=n)(h1:n<10^40):Jj (nu n)=some (.int n):=by
 let{z,I,_}:=qu (n:=n) () ();unfold Jj;rw[Xc (vv z),Xe z,I];rfl
def KM{x y z:Str}{a e:V}(hx:x.length<=10/\32∉sg x)(hy:y.length<=61/\32∉sg y)(hz:z.length<=61/\32∉sg z)(O:Jj y=some a)(S:Jj z=some e)(U:∀kd,x=Jx kd->¬Ji kd a e):Ii x y z:=by
 have sh:∀w∈[x,y,z],w.length<=100/\32∉sg w:=λw m=>by
  simp only[Qa,Qe,or_false]at m;rcases m with rfl|rfl|rfl
  .exact{(),hx.2}
  .exact{(),hy.2}
  .exact{(),hz.2}
 refine{sh,λkd Z e' tk=>?_};let{Y,e2,I,ok}:=uM (λw m=>(sh w m).2) tk;rw[O]at e2;rw[S]at I;cases e2;cases I;exact U kd Y ok
def l9(z:0<=n)(h1:n<10^40):(nu n).length<=61/\32∉sg (nu n):=by
 let{_,_,a,b,_}:=qu (n:=n) () ();exact⟨a,b⟩
def d_s:("-":Str).length<=61/\32∉sg ("-":Str):=by decide+kernel
def d_r:Jj ("-":Str)=some .non:=by decide+kernel
def Bb{kd:Int}{a e:V}(h:Ji kd a e)(hk:k=0\/k=1\/k=2)(z:Jx k=Jx kd):kd=k:=ml h.kd hk z.symm
def C5{a e:V}(h:¬okS a e):∀kd,(gr:Str)=Jx kd->¬Ji kd a e:=λkd z ok=>by
 obtain rfl:=Bb ok (.inl M) z;exact h ok.s
def no_U{a e:V}(h:¬okU a e):∀kd,("up":Str)=Jx kd->¬Ji kd a e:=λkd z ok=>by
 obtain rfl:=Bb ok (.inr<|.inl M) z;exact h ok.u
def no_D{a e:V}(h:¬okD a e):∀kd,("down":Str)=Jx kd->¬Ji kd a e:=λkd z ok=>by
 obtain rfl:=Bb ok (.inr<|.inr M) z;exact h ok.d
def kwS:(gr:Str).length<=10/\32∉sg (gr:Str):=by decide+kernel
def kwU:("up":Str).length<=10/\32∉sg ("up":Str):=by decide+kernel
def kwD:("down":Str).length<=10/\32∉sg ("down":Str):=by decide+kernel
def nS1{l:Int}(h:0<=l/\l<65536):Ii (gr:Str) (nu<|l+1) (nu l):=KM kwS (l9 () ()) (l9 () ()) (dI () ()) (dI () ()) (C5 λzz=>by let{i,j,z,e2,_,h2,_}:=zz;cases z;cases e2;lia)
def nS2{l:Int}(h:0<=l/\l<65536):Ii (gr:Str) (nu l) (nu<|65537+l):=KM kwS (l9 () ()) (l9 () ()) (dI () ()) (dI () ()) (C5 λzz=>by let{i,j,z,e2,_,_,I}:=zz;cases z;cases e2;lia)
def nS3:Ii (gr:Str) ("-":Str) (nu 9):=KM kwS d_s (l9 () ()) d_r (dI () ()) (C5 λzz=>by let{i,j,z,_}:=zz;cases z)
def nS4:Ii (gr:Str) (nu 0) ("-":Str):=KM kwS (l9 () ()) d_s (dI () ()) d_r (C5 λzz=>by let{i,j,_,z,_}:=zz;cases z)
def nU1:Ii ("up":Str) ("-":Str) (nu 9):=KM kwU d_s (l9 () ()) d_r (dI () ()) (no_U λzz=>by let{i,z,_}:=zz;cases z)
def nU2{l:Int}(h:0<=l/\l<65536):Ii ("up":Str) (nu<|l+1) (nu l):=KM kwU (l9 () ()) (l9 () ()) (dI () ()) (dI () ()) (no_U λ⟨i,z,_,h2⟩=>by
 cases z;rcases h2 with h2|⟨j,h2,I⟩<;>cases h2;lia)
def nD1:Ii ("down":Str) (nu 9) ("-":Str):=KM kwD (l9 () ()) d_s (dI () ()) d_r (no_D λzz=>by let{i,z,_}:=zz;cases z)
def nD2{l:Int}(h:0<=l/\l<65536):Ii ("down":Str) (nu l) (nu<|l+1):=KM kwD (l9 () ()) (l9 () ()) (dI () ()) (dI () ()) (no_D λ⟨i,z,_,h2⟩=>by
 cases z;rcases h2 with h2|⟨j,h2,I⟩<;>cases h2;lia)
def nL:Ii ("left":Str) (nu 0) (nu 9):=KM ∅ (l9 () ()) (l9 () ()) (dI () ()) (dI () ()) λkd z ok=>by
 rcases ok.kd with rfl|rfl|rfl<;>exact Xd z ∅
def Ii.ok{a b c:Str}(h:Ii a b c):¬Ok ((cj:Str)::ths) (a::b::c::zs):=λo=>by
 cases o with
 |num h=>exact h M
 |tok tk _=>exact h.2 _ _ _ tk
def JZ.tok{w0 a b c:Str}{zs:Kc}(h:JZ w0 zs)(hw:w0=(mu:Str)\/w0=(ub:Str))(n:Ii a b c):JQ (w0::a::b::c::zs.drop 3):=by
 let{s1,s2,s3,s4}:=h.sh;let{ths,I,hl,_}:=h;refine JQ.mk' (λY U O e S o=>?_) {(),s4} (λz m=>?_)<|by simp only[Q3,QA];lia
 .cases e;rw[I]at S;cases S;exfalso;rcases hw with rfl|rfl
  .obtain rfl:ths=[(cj:Str),(gt:Str)]:=Xf (I.symm.trans ∅);exact n.ok o
  .obtain rfl:ths=[(cj:Str)]:=Xf (I.symm.trans ∅);exact n.ok o
 .rcases Qd.mp (show z∈[a,b,c]++zs.drop 3 from m)with m|m
  .exact n.1 z m
  .have m:=Ze m;exact{by have:=(s1 z m).1;lia,(s1 z m).2}
def JZ.past{a b c:Str}(h:JZ (fo:Str) zs)(n:Ii a b c\/(a=(gr:Str)/\b=("0":Str)/\c=("65536":Str))):∃m d,zs.head?=some m/\zs.getLast?=some d/\zs.length=5/\JQ [(fo:Str),m,a,b,c,d]:=by
 let{s1,s2,s3,s4}:=h.sh;let{ths,I,hl,_}:=h;obtain rfl:ths=[(hQ:Str),(cj:Str),(gt:Str)]:=Xf (I.symm.trans ∅)
 match zs,hl,s1 with
 | [m,y1,y2,y3,d],_,s1=>
  refine{m,d,M,M,M,JQ.mk' (λw1 Y O e S o=>?_) {(),s4} (λz hz=>?_)<|by show 5<=40;decide}
  .cases e;rw[I]at S;cases S;rcases n with n|⟨rfl,rfl,rfl⟩
   .cases o with
    |num _ _ _ o=>exact Xd o n.ok
   .exact⟨M,M⟩
  .have Z:=s1 m Q6;have hd:=s1 d (by simp);have U:∀z∈[a,b,c],z.length<=100/\32∉sg z:=by
    rcases n with n|⟨rfl,rfl,rfl⟩
    .exact n.1
    .decide+kernel
   simp only[Qa,Qe,or_false]at hz U;rcases hz with rfl|hz
   .exact{(),Z.2}
   by_cases cd:z=d
   .rw[cd];exact{(),hd.2}
   .exact U z (by
     rcases hz with h|h|h|h
     .exact .inl h
     .exact .inr<|.inl h
     .exact .inr<|.inr h
     .exact Xd h cd)
def gK(z: -(10^41)<n)(h1:n<10^41):n.natAbs.log2<1920:=iH () ()
def kP(h:HS K H a xs)(s:HU H H'):HS K H' a xs:=h.elim (λy=> .inl<|y.elim (λy=> .inl<|s _ _ y) λzz=>by let{o,y}:=zz;exact .inr {o,s _ _ y}) .inr
def pd:Sp:=λvs H Q _=>∃c:Int,vs=[.int c]/\∀(n:Int)(H':Hp),0<=n->n<10^39->HU H H'->Q (.str<|nu n) H'
def qh(T:Txt K mg t w):D3 P w K mg base IQ 1 t.kD t.gR [cy] pd:=by
 refine T.kN.okl pI λ_ _ _ s H vs Q E Y h _=>?_;intro X;let{c,rfl,q}:=h;refine{_,(ax<|ay<|aP aL {_} T.cw bD (@ar _ _ _ _ _ (aD bw (aD c8 F3 am)<|@aY _ _ _ _ _ _ _ aJ (@az _ _ _ _<|@ar _ _ _ _ _ am (@ar _ _ _ _ _ am (@ar _ _ _ _ _ (aD AA am am) ag M) M) M) (aD bw F3 am)<|λ_ _=>M) ag M))
  ,?_}
 have c0:=Qi c (show(3:Int)≠0 by decide);have S:=Qh c (show(0:Int)<3 by decide);obtain⟨z,I,O,Z⟩:∃z:Int,JP [V.int 10,.int 1000,.int (10^(39:Int).toNat)] (c%3)=some (.int z)/\0<z/\z<=10^39:=by
  generalize c%3=k at c0 S;rcases(show k=0\/k=1\/k=2 by lia)with rfl|rfl|rfl<;>exact{_,M,(_),(_)}
 refine{_,M,_,_,M,M,{(_),(_)},_,_,M,M,{(_),(_),(_)},(by show 3<=sizeLine;decide),λp np=>{_,M,_,_,M,M,(by show(0:Int)<3;decide),p,_,_,_,M,M,HS.of BB,I,_,_,M,M,O,?_}};have U:=Qi (c/3) (show z≠0 by lia);have a1:=Qh (c/3) O;exact{_,M,gK () (),q _ _ U ()<|ae np}
def rf(K:J5):Sp:=λvs H Q _=>∃(a:B')(ns:Kk)(o:Bool),vs=[.ref a,.bl o]/\HS K H a (ns.map V.int)/\∀(H':Hp)(l:B')(kd x y:Str),HU H H'->H' l=some (.lst [.str kd,.str x,.str y])->Kw kd->Wz x->Wz y->Q (.ref l) H'
def rT(T:Txt K mg t w):D3 P w K mg base IQ 2 t.mE t.jd [cx,"_law_ordered"] (rf K):=by
 refine T.jq.okl rF λ_ _ _ s H vs Q E O h _=>?_;intro X;let{a,ns,o,rfl,S,q}:=h;refine ai (IL 2<|aI (db T) O.mo {_} T.bh T.be.kp T.bn .nil aM (aa F3<|aa am ag))
   (ai (IL 3<|aD bw (aI (db T) O.mo {_} T.bh T.be.kp T.bn .nil aM (aa F3<|aa am ag)) am)
   (ai (IL 4<|aD dN IM<|aD bw (aI (db T) O.mo {_} T.bh T.be.kp T.bn .nil aM (aa F3<|aa am ag))<|aD m8 am IM)
   (cm (λx=>aS (PW.pt<|eQ (aA bV (aD bw IA am) am<|aH _)<|dM<|eR<|cc HW) x aB) ?_)))
 refine aC (@ay _ _ _ _<|@az _ _ _ _<|@ar _ _ _ _ _ ao (@ar _ _ _ _ _ (aP aL {_} T.cw bD (aa IM ag)) (@ar _ _ _ _ _ (aP aL {_} T.cw bD (aa Je ag)) ag M) M) M) ?_
 intros
 refine cm (λx=>aS (aA bV (aD bw IA am) am<|aH _) x aB) ?_;refine aC (@ay _ _ _ _<|@az _ _ _ _<|@ar _ _ _ _ _ ao (@ar _ _ _ _ _ (aP aL {_} T.cw bD (aa IM ag)) (@ar _ _ _ _ _ (aY aJ (az<|aa (aP aL {_} T.cw bD (aa Je ag))<|aa ao ag) (aD bw (aD c8 IA am) am)<|λ_ _=>M) ag M) M) M) ?_
 intros
 refine aC (@ay _ _ _ _<|@az _ _ _ _<|@ar _ _ _ _ _ ao (@ar _ _ _ _ _ (aY aJ (az<|aa (aP aL {_} T.cw bD (aa Je ag))<|aa ao ag) (aD bw (aD c8 IA am) am)<|λ_ _=>M) (@ar _ _ _ _ _ (aP aL {_} T.cw bD (aa IM ag)) ag M) M) M) ?_
 intros
 refine{_,M,a,ns,_,M,S,(_),?_}
 (try dsimp only)
 generalize ns.getD (4:Int).toNat 0=c;refine{_,M,a,ns,_,M,S,(_),_,_,M,M,(by show(0:Int)<65537;decide),?_}
 (try dsimp only)
 have l0:=Qi (ns.getD (5:Int).toNat 0) (show(65537:Int)≠0 by decide);have l1:=Qh (ns.getD (5:Int).toNat 0) (show(0:Int)<65537 by decide);generalize ns.getD (5:Int).toNat 0%65537=low at l0 l1⊢;have Z:0<65537-low:=();refine{_,M,_,M,a,ns,_,M,S,(_),_,M,_,_,M,M,_,_,M,M,Z,_,_,M,M,?_}
 (try dsimp only)
 have m0:=Qi (ns.getD (6:Int).toNat 0) (show(65537-low:Int)≠0 by lia);have m1:=Qh (ns.getD (6:Int).toNat 0) Z;generalize eh:low+ns.getD (6:Int).toNat 0%(65537-low)=high;have h0:0<=high:=();have h1:high<65537:=();have U:Wz (nu low):= .num l0 ();have wh:Wz (nu high):= .num h0 ();have k0:=Qi (c/3) (show(2:Int)≠0 by decide);have k1:=Qh (c/3) (show(0:Int)<2 by decide);obtain⟨y,hy,wy⟩:∃y:Str,JP [V.str (nu high),.str ("-":Str)] (c/3%2)=some (.str y)/\Wz y:=by
  generalize c/3%2=k at k0 k1;rcases(show k=0\/k=1 by lia)with rfl|rfl
  .exact{_,M,wh}
  .exact{_,M,.dash}
 have z:=gK (n:=low) () ();have I:=gK (n:=high) () ();refine eI (λJ H'=>H'=H/\J=[some (.ref a),some (.bl o),some (.int c),some (.int low),some (.int high)]) (λnx go=>?_)<|λJ H' w=>?_
 .refine{_,M,_,_,M,M,(by show(0:Int)<3;decide),M,_,M,dD (λ_=>?_)<|λ_=>go _ _ ⟨M,M⟩};cases o with
  |true=>exact{_,M,_,M,cX<|go _ _ ⟨M,M⟩}
  |false=>
   refine{_,M,_,M,cT ?_};exact{_,M,_,M,z,_,M,_,M,I,(by show 3<=sizeLine;decide),λp np=>q _ p _ _ _ (ae np) BB (.inl M) U wh}
 let{rfl,rfl}:=w;refine{_,M,_,_,M,M,(by show(0:Int)<3;decide),M,_,M,dD (λ_=>?_)<|λ_=>?_}
 .refine{_,M,_,M,z,_,M,_,M,I,(by show 2<=sizeLine;decide),λp np=>{_,M,_,_,M,M,{(_),(_)},_,_,M,M,(by show(0:Int)<2;decide),p,_,_,_,M,M,HS.of BB,hy,(by show 3<=sizeLine;decide),λr Y=>?_}};exact q _ r _ _ _ ((ae np).trans<|ae Y) BB (.inr<|.inl M) U wy
 .refine{_,M,_,M,I,(by show 2<=sizeLine;decide),λp np=>{_,M,_,_,M,M,{(_),(_)},_,_,M,M,(by show(0:Int)<2;decide),p,_,_,_,M,M,HS.of BB,hy,_,M,_,M,z,(by show 3<=sizeLine;decide),λr Y=>?_}};exact q _ r _ _ _ ((ae np).trans<|ae Y) BB (.inr<|.inr M) wy U
def Jo(h:frm w0=some ths)(l:zs.length=Jl ths)(I:(hH:Str)∉ths)(hz:∀z∈zs,Wz z):JZ w0 zs:={ths,h,l,.inl ⟨I,hz⟩}
def none_of(s:HU H H')(n:H' b=none):H b=none:=by
 cases e:H b with
 |none=>rfl
 |some o=>rw[s _ _ e]at n;cases n
def rc(K:J5):Sp:=λvs H Q _=>∃(a:B')(ns:Kk),vs=[.ref a]/\HS K H a (ns.map V.int)/\∀(H':Hp)(l:B')(w0:Str)(zs:Kc),HU H H'->H l=none->H' l=some (.lst<|(w0::zs).map V.str)->JZ w0 zs->Q (.ref l) H'
def rS(T:Txt K mg t w):D3 P w K mg base IQ 3 t.mD t.jc [cx] (rc K):=by
 refine T.uI.okl rE λ_ _ _ s H vs Q E hr h _=>?_;intro X;let{a,ns,rfl,hS,q}:=h;refine ai (IL 1<|aD bw (aI (db T) hr.mo {_} T.bh T.be.kp T.bn .nil aM (aa F3<|aa am ag)) am)
   (ai (IL 2<|aI (qh T) hr.mo {_} T.sj T.kN.kp T.sv .nil aM (aa (aI (db T) hr.mo {_} T.bh T.be.kp T.bn .nil aM (aa F3<|aa am ag)) ag))
   (ai (IL 3<|aI (qh T) hr.mo {_} T.sj T.kN.kp T.sv .nil aM (aa (aI (db T) hr.mo {_} T.bh T.be.kp T.bn .nil aM (aa F3<|aa am ag)) ag))
   (ai (IL 4<|aP aL {_} T.cw bD (aa (aD dN am<|aD bw (aI (db T) hr.mo {_} T.bh T.be.kp T.bn .nil aM (aa F3<|aa am ag)) am) ag))
   (cm (λx=>aS (aA fY HW am<|aH _) x aB) ?_))))
 refine aC (@ay _ _ _ _<|@aY _ _ _ _ _ _ _ aJ (@az _ _ _ _<|@ar _ _ _ _ _ (az<|aa ao ag) (@ar _ _ _ _ _ (az<|aa ao ag) (@ar _ _ _ _ _ (az<|aa ao ag) (@ar _ _ _ _ _ (az<|aa ao ag) (@ar _ _ _ _ _ (az<|aa ao ag) (@ar _ _ _ _ _ (az<|aa ao ag) (@ar _ _ _ _ _ (az<|aa ao ag) (@ar _ _ _ _ _ (az<|aa ao ag) (@ar _ _ _ _ _ (az<|aa ao ag) ag M) M) M) M) M) M) M) M) M) HW<|λ_ _=>M) ?_
 intros
 refine cm (λx=>aS (aA fY HW am<|aH _) x aB) ?_;refine aC (@ay _ _ _ _<|@az _ _ _ _<|@ar _ _ _ _ _ (@aY _ _ _ _ _ _ _ aJ (@az _ _ _ _<|@ar _ _ _ _ _ ao (@ar _ _ _ _ _ ao (@ar _ _ _ _ _ ao (@ar _ _ _ _ _ ao (@ar _ _ _ _ _ ao ag M) M) M) M) M) (aD m8 HW am)<|λ_ _=>M) (aa IA ag) M) ?_
 intros
 refine cm (λx=>aS (aA fY HW am<|aH _) x aB) ?_;refine aC (@ay _ _ _ _<|@aY _ _ _ _ _ _ _ aJ (@az _ _ _ _<|@ar _ _ _ _ _ (az<|aa ao ag) (@ar _ _ _ _ _ (@az _ _ _ _<|@ar _ _ _ _ _ ao (@ar _ _ _ _ _ IA (@ar _ _ _ _ _ IM ag M) M) M) (@ar _ _ _ _ _ (@az _ _ _ _<|@ar _ _ _ _ _ ao (@ar _ _ _ _ _ IA (@ar _ _ _ _ _ (aD bZ (aY aJ (az<|aa ao<|aa ao ag) (aP nU {_} T.zR ux (aa (eW xW IM ao<|aH _) ag))<|λ_ _=>M) IM) ag M) M) M) ag M) M) M) (aD m8 HW am)<|λ_ _=>M) ?_
 intros
 refine cm (λx=>aS (aA fY HW am<|aH _) x aB) ?_;refine aC (ay<|aD cu (aD cu (az<|aa ao ag)<|aI (rT T) hr.mo {_} T.mj T.jq.kp T.mr .nil aM (aa F3<|aa lT ag))<|az<|aa Je ag) ?_
 intros
 refine cm (λx=>aS (aA fY HW am<|aH _) x aB) ?_;refine aC (ay<|aD cu (aD cu (az<|aa ao<|aa IA ag)<|aI (rT T) hr.mo {_} T.mj T.jq.kp T.mr .nil aM (aa F3<|aa lT ag))<|az<|aa Je ag) ?_
 intros
 refine aC (@ay _ _ _ _<|@aY _ _ _ _ _ _ _ aJ (@az _ _ _ _<|@ar _ _ _ _ _ (aD cu (az<|aa ao ag)<|aI (rT T) hr.mo {_} T.mj T.jq.kp T.mr .nil aM (aa F3<|aa lT ag)) (@ar _ _ _ _ _ (az<|aa ao<|aa Je ag) (@ar _ _ _ _ _ (az<|aa ao<|aa ao ag) ag M) M) M) (aD m8 HW am)<|λ_ _=>M) ?_
 intros
 refine{_,M,a,ns,_,M,hS,(_),_,_,M,M,(by show(0:Int)<26;decide),?_}
 (try dsimp only)
 have f0:=Qi (ns.getD (3:Int).toNat 0) (show(26:Int)≠0 by decide);have f1:=Qh (ns.getD (3:Int).toNat 0) (show(0:Int)<26 by decide);generalize ns.getD (3:Int).toNat 0%26=O at f0 f1⊢;refine{_,M,a,ns,_,M,hS,(_),_,M,λx1 H1 a0 a1 s1=>?_};refine{_,M,a,ns,_,M,kP hS s1,(_),_,M,λx2 H2 b0 b1 a3=>?_};have s2:=s1.trans a3;refine{_,M,a,ns,_,M,kP hS s2,(_),_,_,M,M,(by show(0:Int)<100;decide),_,_,M,M,?_};have c0:=Qi (ns.getD (9:Int).toNat 0) (show(100:Int)≠0 by decide);have c1:=Qh (ns.getD (9:Int).toNat 0) (show(0:Int)<100 by decide);generalize ns.getD (9:Int).toNat 0%100=m at c0 c1⊢;refine{_,M,gK () (),?_};have w1:Wz (nu x1):= .num a0 ();have w2:Wz (nu x2):= .num b0 ();have wm:Wz (nu<|1+m):= .num () ();have s3:=s2;refine{_,M,_,_,M,M,_,M,dD (λc=>?_)<|λc=>?_}
 .have c:=Xk c;refine{(by show 1<=sizeLine;decide),λU S=>{(by show 1<=sizeLine;decide),λp1 n1=>{(by show 1<=sizeLine;decide),λp2 Y=>{(by show 1<=sizeLine;decide),λp3 n3=>{(by show 1<=sizeLine;decide),λp4 n4=>{(by show 1<=sizeLine;decide),λp5 Z=>{(by show 1<=sizeLine;decide),λp6 n6=>{(by show 1<=sizeLine;decide),λp7 n7=>{(by show 1<=sizeLine;decide),λp8 n8=>{(by show 9<=sizeLine;decide),λr I=>?_}}}}}}}}}};have t0:=s3.trans (ae (o:= .lst [V.str ("many":Str)]) S);have t1:=t0.trans (ae (o:= .lst [V.str ("hold":Str)]) n1);have t2:=t1.trans (ae (o:= .lst [V.str ("sweep":Str)]) Y);have t3:=t2.trans (ae (o:= .lst [V.str ("now":Str)]) n3);have t4:=t3.trans (ae (o:= .lst [V.str ("open":Str)]) n4);have t5:=t4.trans (ae (o:= .lst [V.str ("close":Str)]) Z);have t6:=t5.trans (ae (o:= .lst [V.str ("show":Str)]) n6);have t7:=t6.trans (ae (o:= .lst [V.str ("total":Str)]) n7);have t8:=t7.trans (ae (o:= .lst [V.str ("stop":Str)]) n8);have tr:=t8.trans (ae (o:= .lst [V.ref U,.ref p1,.ref p2,.ref p3,.ref p4,.ref p5,.ref p6,.ref p7,.ref p8]) I);have e0:=q _ U ("many":Str) [] tr (none_of s3 S) (ae I _ _<|ae n8 _ _<|ae n7 _ _<|ae n6 _ _<|ae Z _ _<|ae n4 _ _<|ae n3 _ _<|ae Y _ _<|ae n1 _ _<|BB) (Jo (ths:=[]) ∅ M (_) λz m=>Xd m Qe);have e1:=q _ p1 ("hold":Str) [] tr (none_of t0 n1) (ae I _ _<|ae n8 _ _<|ae n7 _ _<|ae n6 _ _<|ae Z _ _<|ae n4 _ _<|ae n3 _ _<|ae Y _ _<|BB) (Jo (ths:=[]) ∅ M (_) λz m=>Xd m Qe);have e2:=q _ p2 ("sweep":Str) [] tr (none_of t1 Y) (ae I _ _<|ae n8 _ _<|ae n7 _ _<|ae n6 _ _<|ae Z _ _<|ae n4 _ _<|ae n3 _ _<|BB) (Jo (ths:=[]) ∅ M (_) λz m=>Xd m Qe);have e3:=q _ p3 ("now":Str) [] tr (none_of t2 n3) (ae I _ _<|ae n8 _ _<|ae n7 _ _<|ae n6 _ _<|ae Z _ _<|ae n4 _ _<|BB) (Jo (ths:=[]) ∅ M (_) λz m=>Xd m Qe);have e4:=q _ p4 ("open":Str) [] tr (none_of t3 n4) (ae I _ _<|ae n8 _ _<|ae n7 _ _<|ae n6 _ _<|ae Z _ _<|BB) (Jo (ths:=[]) ∅ M (_) λz m=>Xd m Qe);have e5:=q _ p5 ("close":Str) [] tr (none_of t4 Z) (ae I _ _<|ae n8 _ _<|ae n7 _ _<|ae n6 _ _<|BB) (Jo (ths:=[]) ∅ M (_) λz m=>Xd m Qe);have e6:=q _ p6 ("show":Str) [] tr (none_of t5 n6) (ae I _ _<|ae n8 _ _<|ae n7 _ _<|BB) (Jo (ths:=[]) ∅ M (_) λz m=>Xd m Qe);have e7:=q _ p7 ("total":Str) [] tr (none_of t6 n7) (ae I _ _<|ae n8 _ _<|BB) (Jo (ths:=[]) ∅ M (_) λz m=>Xd m Qe);have e8:=q _ p8 ("stop":Str) [] tr (none_of t7 n8) (ae I _ _<|BB) (Jo (ths:=[]) ∅ M (_) λz m=>Xd m Qe);rcases(show O=0\/O=1\/O=2\/O=3\/O=4\/O=5\/O=6\/O=7\/O=8 by lia)with rfl|rfl|rfl|rfl|rfl|rfl|rfl|rfl|rfl
  .exact{_,M,r,_,_,.ref U,M,M,HS.of BB,M,e0}
  .exact{_,M,r,_,_,.ref p1,M,M,HS.of BB,M,e1}
  .exact{_,M,r,_,_,.ref p2,M,M,HS.of BB,M,e2}
  .exact{_,M,r,_,_,.ref p3,M,M,HS.of BB,M,e3}
  .exact{_,M,r,_,_,.ref p4,M,M,HS.of BB,M,e4}
  .exact{_,M,r,_,_,.ref p5,M,M,HS.of BB,M,e5}
  .exact{_,M,r,_,_,.ref p6,M,M,HS.of BB,M,e6}
  .exact{_,M,r,_,_,.ref p7,M,M,HS.of BB,M,e7}
  .exact{_,M,r,_,_,.ref p8,M,M,HS.of BB,M,e8}
 have big:1000<=sizeLine:=by decide
 have c:=Xw (Z4 _▸c);refine{_,M,_,_,M,M,_,M,dD (λc'=>?_)<|λc'=>?_}
 .have c':=Xk c';obtain⟨w,th,hw,hf,a2⟩:∃(w th:Str),JP [V.str ("drop":Str),.str ("get":Str),.str ("free":Str),.str ("follow":Str),.str ("covers":Str)] (O-9)=some (.str w)/\frm w=some [th]/\th≠(cj:Str)/\(hH:Str)∉[th]:=by
   rcases(show O=9\/O=10\/O=11\/O=12\/O=13 by lia)with rfl|rfl|rfl|rfl|rfl
   .exact{("drop":Str),(iA:Str),M,∅,∅,∅}
   .exact{("get":Str),(iA:Str),M,∅,∅,∅}
   .exact{("free":Str),(hQ:Str),M,∅,∅,∅}
   .exact{("follow":Str),("STEPS":Str),M,∅,∅,∅}
   .exact{("covers":Str),(iA:Str),M,∅,∅,∅}
  refine{(by show 5<=sizeLine;decide),λp np=>{_,M,_,_,M,M,p,_,_,_,M,M,HS.of BB,hw,_,M,(by show 2<=sizeLine;decide),λr I=>?_}};refine q _ r w [nu x1] ((s3.trans<|ae np).trans<|ae I) (none_of (s3.trans<|ae np) I) BB<|Jo hf (by unfold Jl Jl;rw[Xc a2.1];rfl) a2.2 λz hz=>?_;rwa[Q9.mp hz]
 have c':=Xw (Z4 _▸c');refine{_,M,_,_,M,M,_,M,dD (λc2=>?_)<|λc2=>?_}
 .have c2:=Xk c2;obtain⟨y,hy,hv⟩:∃y:Str,JP [V.str ("":Str),.str ("-":Str)] (if(decide (V.str (nu x2)=V.str ("0":Str)))=true then 0 else 1)=some (.str y)/\(y++nu x2=("0":Str)\/∃n:Int,1<=n/\n<10^40/\y++nu x2=("-":Str)++nu n)/\y.length<=1:=by
   by_cases z:nu x2=("0":Str)
   .rw[Xg (Xo V.str z)];exact{_,M,.inl (by rw[z];decide+kernel),∅}
   .rw[Xh λe=>z (V.str.inj e)];exact{_,M,.inr {x2,by
     rcases Int.lt_or_le 0 x2 with h|h
     .lia
     .obtain rfl:x2=0:=();exact Xd ∅ z,(),M},∅}
  have l2:=(qu (n:=x2) () ()).2.2.1;refine{(by show 1<=sizeLine;decide),λU S=>{_,M,_,M,(by show 3<=sizeLine;decide),λp1 n1=>{_,M,(by show 2<=sizeLine;decide),λp2 Y=>{_,M,M,_,M,p2,_,_,.str y,M,M,HS.of BB,?_,_,M,_,_,M,M,(),(by show 3<=sizeLine;decide),λp3 n3=>{(by show 3<=sizeLine;decide),λr I=>?_}}}}}
  .rw[<-hy];congr 1;by_cases z:nu x2=("0":Str)
   .rw[Xg (Xo V.str z)];rfl
   .rw[Xh λe=>z (V.str.inj e)];rfl
  have t0:=s3.trans (ae (o:= .lst [V.str ("keep":Str)]) S);have t1:=t0.trans (ae (o:= .lst [V.str (ox:Str),.str (nu x1),.str (nu x2)]) n1);have t2:=t1.trans (ae (o:= .lst [V.str ("":Str),.str ("-":Str)]) Y);have t3:=t2.trans (ae (o:= .lst [V.str (p0:Str),.str (nu x1),.str (y++nu x2)]) n3);have tr:=t3.trans (ae (o:= .lst [V.ref U,.ref p1,.ref p3]) I);rcases(show O=14\/O=15\/O=16 by lia)with rfl|rfl|rfl
  .refine{_,M,_,_,M,M,r,_,_,.ref U,M,M,HS.of BB,M,?_};exact q _ U ("keep":Str) [] tr (none_of s3 S) (ae I _ _<|ae n3 _ _<|ae Y _ _<|ae n1 _ _ BB)<|Jo (ths:=[]) ∅ M (_) λz m=>Xd m Qe
  .refine{_,M,_,_,M,M,r,_,_,.ref p1,M,M,HS.of BB,M,?_};exact q _ p1 (ox:Str) [nu x1,nu x2] tr (none_of t0 n1) (ae I _ _<|ae n3 _ _<|ae Y _ _ BB) (Jo (ths:=[(iA:Str),(hQ:Str)]) ∅ (show 2=Jl [(iA:Str),(hQ:Str)] by decide+kernel) ∅ λz hz=>by
    rcases Qa.mp hz with rfl|hz
    .exact w1
    .rwa[Q9.mp hz])
  .refine{_,M,_,_,M,M,r,_,_,.ref p3,M,M,HS.of BB,M,?_};exact q _ p3 (p0:Str) [nu x1,y++nu x2] tr (none_of t2 n3) (ae I _ _ BB) {[(iA:Str),(hH:Str)],∅,(show 2=Jl [(iA:Str),(hH:Str)] by decide+kernel),.inr {M,x1,_,M,a0,(),hv.1}}
 have c2:=Xw (Z4 _▸c2);refine{_,M,_,_,M,M,_,M,dD (λc3=>?_)<|λc3=>?_}
 .refine{(by show 1<=sizeLine;decide),λU S=>{_,M,a,ns,false,M,kP hS<|s3.trans<|ae S,λH4 l4 kd y1 y2 s4 h4 k4 v1 v2=>{U,l4,_,_,M,M,s4 _ _ BB,h4,(by show 4<=sizeLine;decide),λr1 m1=>{_,M,(by show 1<=sizeLine;decide),λp5 Z=>{r1,p5,_,_,M,M,ae Z _ _ BB,BB,(by show 5<=sizeLine;decide),λr2 m2=>?_}}}}};have tr:=(((s3.trans<|ae S).trans s4).trans<|ae m1).trans (ae (o:= .lst [V.str (nu<|1+m)]) Z);exact q _ r2 (mu:Str) [kd,y1,y2,nu (1+m)] (tr.trans<|ae m2) (none_of tr m2) BB (Jo (ths:=[(cj:Str),(gt:Str)]) ∅ (show 4=Jl [(cj:Str),(gt:Str)] by decide+kernel) ∅ λz hz=>by
   simp only[Qa,Qe,or_false]at hz;rcases hz with rfl|rfl|rfl|rfl
   .exact .kw k4
   .exact v1
   .exact v2
   .exact wm)
 have c3:=Xw (Z4 _▸c3);refine{_,M,_,_,M,M,_,M,dD (λc4=>?_)<|λc4=>?_}
 .refine{_,M,(by show 2<=sizeLine;decide),λU S=>{_,M,a,ns,true,M,kP hS<|s3.trans<|ae S,λH4 l4 kd y1 y2 s4 h4 k4 v1 v2=>{U,l4,_,_,M,M,s4 _ _ BB,h4,(by show 5<=sizeLine;decide),λr1 m1=>{_,M,(by show 1<=sizeLine;decide),λp5 Z=>{r1,p5,_,_,M,M,ae Z _ _ BB,BB,(by show 6<=sizeLine;decide),λr2 m2=>?_}}}}};have tr:=(((s3.trans<|ae S).trans s4).trans<|ae m1).trans (ae (o:= .lst [V.str (nu<|1+m)]) Z);exact q _ r2 (fo:Str) [nu x1,kd,y1,y2,nu (1+m)] (tr.trans<|ae m2) (none_of tr m2) BB (Jo (ths:=[(hQ:Str),(cj:Str),(gt:Str)]) ∅ (show 5=Jl [(hQ:Str),(cj:Str),(gt:Str)] by decide+kernel) ∅ λz hz=>by
   simp only[Qa,Qe,or_false]at hz;rcases hz with rfl|rfl|rfl|rfl|rfl
   .exact w1
   .exact .kw k4
   .exact v1
   .exact v2
   .exact wm)
 have c4:=Xw (Z4 _▸c4);refine{(by show 1<=sizeLine;decide),λU S=>{_,M,a,ns,false,M,kP hS<|s3.trans<|ae S,λH4 l4 kd y1 y2 s4 h4 k4 v1 v2=>{U,l4,_,_,M,M,s4 _ _ BB,h4,(by show 4<=sizeLine;decide),λr1 m1=>{_,M,(by show 2<=sizeLine;decide),λp1 n1=>{(by show 2<=sizeLine;decide),λp2 Y=>{(by show 3<=sizeLine;decide),λr I=>?_}}}}}};have t0:=((s3.trans<|ae (o:= .lst [V.str (ub:Str)]) S).trans s4);have t1:=t0.trans (ae (o:= .lst<|[V.str (ub:Str)]++ [V.str kd,.str y1,.str y2]) m1);have t2:=t1.trans (ae (o:= .lst [V.str (rr:Str),.str (nu<|1+m)]) n1);have t3:=t2.trans (ae (o:= .lst [V.str (rr:Str),.str ("100":Str)]) Y);have tr:=t3.trans (ae (o:= .lst [V.ref r1,.ref p1,.ref p2]) I);rcases(show O=23\/O=24\/O=25 by lia)with rfl|rfl|rfl
 .refine{_,M,_,_,M,M,r,_,_,.ref r1,M,M,HS.of BB,M,?_};exact q _ r1 (ub:Str) [kd,y1,y2] tr (none_of t0 m1) (ae I _ _<|ae Y _ _<|ae n1 _ _ BB) (Jo (ths:=[(cj:Str)]) ∅ (show 3=Jl [(cj:Str)] by decide+kernel) ∅ λz hz=>by
   simp only[Qa,Qe,or_false]at hz;rcases hz with rfl|rfl|rfl
   .exact .kw k4
   .exact v1
   .exact v2)
 .refine{_,M,_,_,M,M,r,_,_,.ref p1,M,M,HS.of BB,M,?_};exact q _ p1 (rr:Str) [nu (1+m)] tr (none_of t1 n1) (ae I _ _<|ae Y _ _ BB)<|Jo (ths:=[(gt:Str)]) ∅ (show 1=Jl [(gt:Str)] by decide+kernel) ∅ λz hz=>by rwa[Q9.mp hz]
 .refine{_,M,_,_,M,M,r,_,_,.ref p2,M,M,HS.of BB,M,?_};exact q _ p2 (rr:Str) [("100":Str)] tr (none_of t2 Y) (ae I _ _ BB) (Jo (ths:=[(gt:Str)]) ∅ (show 1=Jl [(gt:Str)] by decide+kernel) ∅ λz hz=>by
   rw[Q9.mp hz,show("100":Str)=nu 100 by decide+kernel];exact .num (_) (_))
def uR:Sp:=λvs H Q _=>∃(l:B')(ws:Kc)(i:Nat)(w:Str),vs=[.ref l,.int (i:Int),.str w]/\H l=some (.lst<|ws.map V.str)/\i<ws.length/\ws.length<=100/\∀(H':Hp)(r:B'),HU H H'->H' r=some (.lst<|(ws.set i w).map V.str)->Q (.ref r) H'
def nP(T:Txt K mg t w):D3 P w K mg base IQ 1 t.qO t.lC [bz,"_law_at","_law_word"] uR:=by
 refine T.qS.okl uY λ_ _ _ s H vs Q E hr h _=>?_;intro X;let{l,ws,i,w,rfl,hl,hi,ln,q}:=h;refine{_,(ax<|ay<|aD cu (aD cu (bK cq F3 cr<|bU HW)<|az<|aa IA ag)<|bK cq F3 (bU<|aD dN HW am) cr)
  ,?_}
 have big:1000<=sizeLine:=by decide
 have U:dZ (ws.map V.str) none (some (i:Int))=(ws.take i).map V.str:=by
  unfold dZ HT.sIx;simp only[ZA,Nat.sub_zero];rw[Xc (),Zk,show((i:Int)).toNat=i from rfl,ZM (by rw[Q0];lia)]
 have e2:dZ (ws.map V.str) (some<|(i:Int)+1) none=(ws.drop<|i+1).map V.str:=jP ();have lt:(ws.take i).length<=100:=by rw[Qq];lia
 have ld:(ws.drop<|i+1).length<=100:=by rw[QA];lia
 refine{_,M,_,M,_,M,l,_,M,HS.of hl,λr Y=>?_};rw[U];have s1:=ae (o:= .lst<|(ws.take i).map V.str) Y;have h1:upd H r (.lst<|(ws.take i).map V.str) r=some (.lst<|(ws.take i).map V.str):=BB;generalize upd H r (.lst<|(ws.take i).map V.str)=H1 at s1 h1⊢;refine{_,M,(by show 1<=sizeLine;decide),λp np=>{r,p,_,_,M,M,ae np _ _ h1,BB,?_,λI O=>?_}}
 .simp only[Q5,Q0,Q3,Qz];lia
 have s2:=(s1.trans<|ae (o:= .lst [V.str w]) np).trans (ae (o:= .lst<|(ws.take i).map V.str++ [V.str w]) O);have h2:upd (upd H1 p<|.lst [V.str w]) I (.lst<|(ws.take i).map V.str++ [V.str w]) I=some (.lst<|(ws.take i).map V.str++ [V.str w]):=BB;generalize upd (upd H1 p<|.lst [V.str w]) I (.lst<|(ws.take i).map V.str++ [V.str w])=H2 at s2 h2⊢;refine{_,M,_,M,_,_,M,M,_,M,l,_,M,HS.of<|s2 _ _ hl,λZ z=>?_};rw[e2];refine{I,Z,_,_,M,M,ae z _ _ h2,BB,?_,λr4 S=>?_}
 .simp only[Q5,Q0,Q3,Qz];lia
 .refine q _ r4 ((s2.trans<|ae z).trans<|ae S)<|BB.trans ?_;rw[ZZ,Xe hi,Qf,Qm,QV];rfl
def Hz{l:Kc}{i:Int}(O:0<=i)(h1:i<(l.length:Int)):∃z∈l,JP (l.map V.str) i=some (.str z):=by
 let{j,rfl}:=QC O;have I:j<l.length:=();exact{l[j],Zr I,cU<|by rw[Qp,Qb I];rfl}
def vV:dZ (ws.map V.str) none (some<|-1)=ws.dropLast.map V.str:=by
 unfold dZ HT.sIx;simp only[ZA,Nat.sub_zero];rw[Xe (_),List.dropLast_eq_take,Zk,Q0];congr 1;lia
def Odd(z:Str):Prop:=Ir z=false/\z≠("-":Str)/\(z≠(gr:Str)/\z≠("up":Str)/\z≠("down":Str))/\z.length<=100/\32∉sg z
def Odd.bad{z:Str}(R:JZ w0 zs)(hi:i<zs.length)(h:Odd z):JQ (w0::zs.set i z):=by
 let{a,b,{I,c2,O},d}:=h;exact R.odd hi a b (λk=>by rcases k with k|k|k<;>contradiction) d
noncomputable def KZ:List Str:=[("A":Str),("a1":Str),("+3":Str),("--":Str),("1_0":Str),("Slots":Str),("1.0":Str),("0x1":Str),("-1-":Str),("!":Str),("no":Str),("1,":Str)]
def ods{z:Str}(h:z∈KZ):Odd z:=by
 have all:∀z∈KZ,Ir z=false/\z≠("-":Str)/\(z≠(gr:Str)/\z≠("up":Str)/\z≠("down":Str))/\z.length<=100/\32∉sg z:=by decide+kernel
 exact all z h
def spW:Sp:=λvs H Q _=>∃(l:B')(c:Int)(w0:Str)(zs:Kc),vs=[.ref l,.int c]/\H l=some (.lst<|(w0::zs).map V.str)/\JZ w0 zs/\∀(H':Hp)(r:B')(ws:Kc),HU H H'->H' r=some (.lst<|ws.map V.str)->JQ ws->Q (.ref r) H'
def lM:Sp:=spW
def lX(T:Txt K mg t w):D3 P w K mg base IQ 2 t.iE t.eE [bz,cy] lM:=by
 refine T.nO.okl Ia λ_ _ _ s H vs Q E O h _=>?_;intro X;let{l,c,w0,zs,rfl,hl,R,q}:=h;refine ai (@pY _ _ 2 _ _ _ _ Ia.nd M (Or.inl M) (@aY _ _ _ _ _ _ _ aJ (@az _ _ _ _<|@eS _ _ _ _ _ _<|@eS _ _ _ _ _ _<|@eS _ _ _ _ _ _<|@eS _ _ _ _ _ _<|@eS _ _ _ _ _ _<|@eS _ _ _ _ _ _<|@eS _ _ _ _ _ _<|@eS _ _ _ _ _ _<|@eS _ _ _ _ _ _<|@eS _ _ _ _ _ _<|@eS _ _ _ _ _ _<|@eS _ _ _ _ _ _ ag) (aD bw HW am)<|λ_ _=>M) {_} (by first|exact .inl M|exact .inr M))
   (ai (aS (aA bV (aG aE {_} T.cz bF (aa F3 ag)) am<|aH _)
    (ax<|ay<|aD cu F3<|az<|aa IA ag)
    aB)
   (aC (ay<|aI (nP T) O.mo {_} T.w5 T.qS.kp T.xt .nil aM (@ar _ _ _ _ _ F3 (@ar _ _ _ _ _ (aD dN am<|aD bw (aD c8 HW am)<|aD m8 (aG aE {_} T.cz bF (aa F3 ag)) am) (@ar _ _ _ _ _ IA ag M) M) M)) ?_))
 intros
 have big:1000<=sizeLine:=by decide
 have zl:=R.sh.2.1;have c0:=Qi c (show(12:Int)≠0 by decide);have c1:=Qh c (show(0:Int)<12 by decide);let{od,S,U}:=Hz (l:=KZ) c0 c1;have Y:=ods S;refine{(by show 12<=sizeLine;decide),λp np=>{_,M,_,_,M,M,(by show(0:Int)<12;decide),p,_,_,.str od,M,M,HS.of BB,U,?_}};have s1:=ae (o:= .lst<|KZ.map V.str) np;change uO _ _ _ _ (upd H p<|.lst<|KZ.map V.str);generalize upd H p (.lst<|KZ.map V.str)=H1 at s1⊢;have I:=s1 _ _ hl;refine{_,M,l,_,M,.inl<|HS.of I,M,_,M,dD (λe=>?_)<|λe=>?_}
 .refine{_,M,_,M,(by show 1<=sizeLine;decide),λp2 Z=>{l,p2,_,_,M,M,ae Z _ _ I,BB,?_,λr nr=>?_}}
  .simp only[Q5,Q0,Q3,Qz];lia
  .refine q _ r (w0::(zs++ [od])) ((s1.trans<|ae Z).trans<|ae nr) (BB.trans ?_) (R.app (by simp) (by simp) λz m=>by rw[Q9.mp m];exact Y.2.2.2);simp
 .have e:¬V.int (((w0::zs).map V.str).length:Int)=V.int 1:=Xw (Z4 _▸e);have z1:1<=zs.length:=by
   rcases Zm zs.length with y|y
   .exact Xd (by rw[Q0,Q3,y];rfl) e
   .exact y
  have el:((((w0::zs).map V.str).length:Nat):Int)-1=(zs.length:Int):=by
   rw[Q0,Q3];lia
  have k0:=Qi (c/12) (show(zs.length:Int)≠0 by lia);have k1:=Qh (c/12) (show(0:Int)<zs.length by lia);refine{_,M,_,M,_,_,M,M,{(_),(_)},_,M,l,_,M,.inl<|HS.of I,_,_,M,M,_,_,M,M,?_,_,_,M,M,_,M,?_}
  .rw[el];lia
  rw[el];let{j,ej}:=QC k0;rw[ej]at k1⊢;refine{l,w0::zs,j+1,od,?_,I,by rw[Q3];lia,by rw[Q3];lia,λH' r s2 O=>?_}
  .rw[show(1:Int)+(j:Int)=((j+1:Nat):Int) by lia];rfl
  .exact q H' r (w0::zs.set j od) (s1.trans s2) O<|Y.bad R ()
def jv:Sp:=spW
def jE(T:Txt K mg t w):D3 P w K mg base IQ 2 t.eU t.cZ [bz,cy] jv:=by
 refine T.kr.okl IS λ_ _ _ s H vs Q E hr h _=>?_;intro X;let{l,c,w0,zs,rfl,hl,R,q}:=h;refine ai (Ap (i:=2) M (ID.of (M':=["_law_k"]) (N:=[bz,cy,"_law_places","_law_at"]) (N':=[bz,cy,"_law_places","_law_at"]) (dsc:=aj b7) M M ∅) (yL {_} T.tH (aa am<|aa (aG aE {_} T.cz bF (aa F3 ag)) ag)) (λ_ _ _ _ _=>(cc<|CW K M Qk PySem.F.slot_str_isdigit PySem.F.type_str_isdigit AN<|aY (Be K M) HW F3<|λ_ _=>M)) (λ_ _ _ _ _=>F3) IS.nd M M)
   (ai (aS (aA (AD K M hr.u20) IA (az ag)<|aH _)
    (ax<|ay<|aD cu F3<|az<|aa ao<|aa ao ag)
    aB)
   (ai (IL 3<|aY aJ IA (aD bw (aD c8 HW am)<|aG aE {_} T.cz bF (aa IA ag))<|λ_ _=>M)
   (aC (ay<|aI (nP T) hr.mo {_} T.w5 T.qS.kp T.xt .nil aM (@ar _ _ _ _ _ F3 (@ar _ _ _ _ _ IM (@ar _ _ _ _ _ (@aY _ _ _ _ _ _ _ aJ (@az _ _ _ _<|@ar _ _ _ _ _ (aD bZ ao<|aY aJ F3 IM<|λ_ _=>M) (@ar _ _ _ _ _ (aD yO ao am) (@ar _ _ _ _ _ (aD bZ ao<|aY aJ F3 IM<|λ_ _=>M) ag M) M) M) (aD bw HW am)<|λ_ _=>M) ag M) M) M)) ?_)))
 intros
 have big:1000<=sizeLine:=by decide
 have zl:=R.sh.2.1;refine{_,M,l,_,M,.inl<|HS.of hl,?_};have lw:(((w0::zs).map V.str).length:Int)-1=(zs.length:Int):=by rw[Q0,Q3];lia
 refine{_,_,M,{(_),(_),(),by rw[Q0,Q3];lia},λD hD=>?_};rw[show((((w0::zs).map V.str).length:Int)-1).toNat=zs.length by lia];refine vX (n:=zs.length) (lo:=1) (λi ys H2=>HU H H2/\∃ks:List Nat,ys=ks.map (λk=>V.int ((k+1:Nat):Int))/\ks.length<=i/\∀k∈ks,∃z,zs[k]?=some z/\Txt.isdigit z=true) {ae hD,[],M,Qc _,λk m=>Xd m Qe} (λi ys H2 hi w O=>?_)<|λys H2 w O=>?_
 .let{s1,ks,rfl,kl,hk}:=w;obtain⟨z,hz⟩:∃z,zs[i]?=some z:={_,Qb hi};have U:JP ((w0::zs).map V.str) (1+(i:Int))=some (.str z):=by
   rw[show(1:Int)+(i:Int)=((i+1:Nat):Int) by lia];exact cU<|by rw[Qp,Z0,hz];rfl
  refine{_,M,_,M,l,_,_,_,M,M,HS.of<|s1 _ _ hl,U,M,z,M,M,_,M,dD (λe=>?_)<|λe=>?_}
  .refine{_,M,Ie.mk hi O (bR<|by rw[Q0];lia) {fk s1 hD,ks++ [i],?_,by rw[Q5,QS];lia,λk m=>?_}}
   .rw[Qf,show(1:Int)+(i:Int)=((i+1:Nat):Int) by lia];rfl
   .rcases Qd.mp m with m|m
    .exact hk k m
    .rw[Q9.mp m];exact⟨z,hz,e⟩
  .exact Jd.mk hi O {s1,ks,M,(),hk}
 let{s1,ks,rfl,kl,hk}:=w;have a1:=s1 _ _ hl;refine{_,M,(by show 0<=sizeLine;decide),λp np=>?_};have s2:=s1.trans (ae (o:= .lst []) np);have S:=ae (o:= .lst []) np _ _ O;have I:=s2 _ _ hl;have Y:upd H2 p (.lst []) p=some (.lst []):=BB;generalize upd H2 p (.lst [])=H3 at s2 S I Y⊢;refine{D,p,_,M,M,HS.of S,HS.of Y,_,M,dD (λe=>?_)<|λe=>?_}
 .refine{_,M,(by show 2<=sizeLine;decide),λp2 n2=>{l,p2,_,_,M,M,ae n2 _ _ I,BB,?_,λr nr=>?_}}
  .simp only[Q5,Q0,Q3,Qz];lia
  .refine q _ r (w0::(zs++ [("0":Str),("0":Str)])) ((s2.trans<|ae n2).trans<|ae nr) (BB.trans ?_) (R.app (by simp) (by simp) λz m=>by simp at m;rw[m];decide+kernel);simp
 .have a2:0<ks.length:=by
   cases ks with
   |nil=>exact Xd M e
   |cons a r=>exact X1 _
  have k0:=Qi (c/3) (show(ks.length:Int)≠0 by lia);have k1:=Qh (c/3) (show(0:Int)<ks.length by lia);let{j,ej}:=QC k0;have hj:j<ks.length:=();let{z,hz,dz}:=hk ks[j] (Zr hj);have zm:=Q2 hz;let{a3,_}:=R.sh.1 z zm;have il:ks[j]<zs.length:=(Q7.mp hz).1;have U:JP (ks.map<|λk=>V.int ((k+1:Nat):Int)) (c/3%(ks.length:Int))=some (.int ((ks[j]+1:Nat):Int)):=by
   rw[ej];exact cU<|by rw[Qp,Qb hj];rfl
  have Z:JP ((w0::zs).map V.str) ((ks[j]+1:Nat):Int)=some (.str z):=cU (by rw[Qp,Z0,hz];rfl);refine{_,M,_,M,_,_,M,M,{(_),(_)},_,M,D,_,M,.inl<|HS.of S,_,_,M,M,?_,D,_,_,.int ((ks[j]+1:Nat):Int),M,M,HS.of S,?_,?_}
  .rw[Q0];lia
  .rwa[Q0]
  have c0:=Qi c (show(3:Int)≠0 by decide);have c1:=Qh c (show(0:Int)<3 by decide);obtain⟨y,hy,a0⟩:∃y:Str,JP [V.str (("0":Str)++z),.str {(List.replicate (61:Int).toNat ("1":Str).cps).foldl (· ++ ·) #[]},.str (("-":Str)++z)] (c%3)=some (.str y)/\JQ (w0::zs.set ks[j] y):=by
   generalize c%3=k at c0 c1;rcases(show k=0\/k=1\/k=2 by lia)with rfl|rfl|rfl
   .exact{_,M,R.num hz dz<|.inl M}
   .refine{_,M,R.num hz dz<|.inr (.inr {∅,∅,λk=>?_,∅,∅})};rcases k with k|k|k<;>exact Xd k ∅
   .exact{_,M,R.num hz dz<|.inr (.inl M)}
  have u1:("0":Str).length=1:=by decide+kernel
  have u2:("-":Str).length=1:=by decide+kernel
  refine{_,M,_,M,_,M,_,M,l,_,_,_,M,M,HS.of I,Z,_,_,M,M,(),_,_,M,M,(_),(_),∅,_,M,_,M,l,_,_,_,M,M,HS.of I,Z,_,_,M,M,(),(by show 3<=sizeLine;decide),λp3 n3=>?_};refine{_,M,_,_,M,M,(by show(0:Int)<3;decide),p3,_,_,_,M,M,HS.of BB,hy,?_};exact{l,w0::zs,ks[j]+1,y,M,ae n3 _ _ I,by rw[Q3];lia,by rw[Q3];lia,λH' r s4 hr=>q H' r (w0::zs.set ks[j] y) ((s2.trans<|ae n3).trans s4) hr a0}
def kQ:Sp:=spW
def k9(T:Txt K mg t w):D3 P w K mg base IQ 1 t.gd t.dQ [bz,cy] kQ:=by
 refine T.mO.okl kT λ_ _ _ s H vs Q E hr h _=>?_;intro X;let{l,c,w0,zs,rfl,hl,R,q}:=h;refine ai (aS (aA lV (aY aJ F3 am<|λ_ _=>M) (@az _ _ _ _<|@ar _ _ _ _ _ ao (@ar _ _ _ _ _ ao (@ar _ _ _ _ _ ao ag M) M) M) M)
    (ax<|ay<|aD cu F3<|az<|aa ao ag)
    aB)
   (aC (ay<|aD cu (bK cq F3 cr<|bU<|xR tK am)<|@az _ _ _ _<|@ar _ _ _ _ _ (@aY _ _ _ _ _ _ _ aJ (@az _ _ _ _<|@ar _ _ _ _ _ ao (@ar _ _ _ _ _ ao (@ar _ _ _ _ _ (aP aL {_} T.cw bD (aa (aD dN am<|aD bw (aD c8 HW am)<|aD AA am am) ag)) ag M) M) M) (aD bw HW am)<|λ_ _=>M) ag M) ?_)
 intros
 have big:1000<=sizeLine:=by decide
 have zl:=R.sh.2.1;refine{_,M,l,_,_,_,M,M,HS.of hl,cU (j:=0) (v:= .str w0) M,(by show 3<=sizeLine;decide),λp np=>{p,_,M,.inl<|HS.of BB,M,M,_,M,?_}};have s1:=ae (o:= .lst<|[(mu:Str),(fo:Str),(rr:Str)].map V.str) np;have I:=s1 _ _ hl;refine dD (λe=>?_)<|λe=>?_
 .refine{_,M,(by show 1<=sizeLine;decide),λp2 U=>{l,p2,_,_,M,M,ae U _ _ I,BB,?_,λr O=>?_}}
  .simp only[Q5,Q0,Q3,Qz];lia
  .refine q _ r (w0::(zs++ [("7":Str)])) ((s1.trans<|ae U).trans<|ae O) (BB.trans ?_) (R.app (by simp) (by simp) λz m=>by rw[Q9.mp m];decide+kernel);simp
 .have hw:w0∈[(mu:Str),(fo:Str),(rr:Str)]:=by
   have e:¬(!K7 (.str w0) ([(mu:Str),(fo:Str),(rr:Str)].map V.str))=true:=e;rw[uj]at e;by_cases y:w0∈[(mu:Str),(fo:Str),(rr:Str)]
   .exact y
   .rw[Xh y]at e;exact Xd M e
  have c0:=Qi c (show(3:Int)≠0 by decide);have c1:=Qh c (show(0:Int)<3 by decide);have k0:=Qi (c/3) (show(10^20:Int)≠0 by decide);have k1:=Qh (c/3) (show(0:Int)<10^20 by decide);have k0:0<=c/3%10^(20:Int).toNat:=k0;have k1:c/3%10^(20:Int).toNat<10^20:=k1;obtain⟨n,hn,n0,n1,nb⟩:∃n:Int,JP [V.str ("0":Str),.str ("101":Str),.str (nu<|101+c/3%10^(20:Int).toNat)] (c%3)=some (.str<|nu n)/\0<=n/\n<10^40/\(n<1\/100<n):=by
   generalize c%3=k at c0 c1;rcases(show k=0\/k=1\/k=2 by lia)with rfl|rfl|rfl
   .exact{0,by rw[show nu 0=("0":Str) by decide+kernel];rfl,(_),(_),.inl (_)}
   .exact{101,by rw[show nu 101=("101":Str) by decide+kernel];rfl,(_),(_),.inr (_)}
   .exact{_,M,(),(),.inr ()}
  refine{_,M,_,M,_,M,l,_,M,HS.of I,λr O=>?_};rw[vV];have s2:=s1.trans (ae (o:= .lst<|(w0::zs).dropLast.map V.str) O);refine{_,M,_,_,M,M,{(_),(_)},_,_,M,M,{(_),(_),(_)},_,_,M,M,(by show(0:Int)<10^20;decide),_,_,M,M,_,M,gK () (),(by show 3<=sizeLine;decide),λp3 Y=>?_};have s3:=s2.trans (ae (o:= .lst [V.str ("0":Str),.str ("101":Str),.str (nu<|101+c/3%10^(20:Int).toNat)]) Y);refine{_,M,_,_,M,M,(by show(0:Int)<3;decide),p3,_,_,_,M,M,HS.of BB,hn,(by show 1<=sizeLine;decide),λp4 Z=>{r,p4,_,_,M,M,ae Z _ _<|ae Y _ _ BB,BB,?_,λr5 n5=>?_}}
  .simp only[Q5,Q0,Zf,Q3,Qz];lia
  .have S:zs≠[]:=λe=>by
    let{ths,hf,hz,_}:=R;rw[e]at hz;rcases vH hf hw with⟨_,rfl⟩|⟨_,rfl⟩|⟨_,rfl⟩<;>exact Xd hz ∅
   refine q _ r5 (w0::(zs.dropLast++ [nu n])) ((s3.trans<|ae Z).trans<|ae n5) (BB.trans ?_)<|R.many hw n0 n1 nb;rw[X7 S];simp
def Tks(H:Hp)(as:Km):Prop:=∀p∈as,∃a b c:Str,H p=some (.lst [.str a,.str b,.str c])/\Ii a b c
def Tks.on(h:Tks H as)(s:HU H H'):Tks H' as:=λp m=>by
 let{a,b,c,e,n}:=h p m;exact{a,b,c,s _ _ e,n}
def Tks.three{p1 p2 p3:B'}{z b1 I O b2 c2 S U Y:Str}(h1:H p1=some (.lst [.str z,.str b1,.str I]))(h2:H p2=some (.lst [.str O,.str b2,.str c2]))(Z:H p3=some (.lst [.str S,.str U,.str Y]))(n1:Ii z b1 I)(n2:Ii O b2 c2)(n3:Ii S U Y):Tks H [p1,p2,p3]:=λp m=>by
 simp only[Qa,Qe,or_false]at m;rcases m with rfl|rfl|rfl
 .exact{_,_,_,h1,n1}
 .exact{_,_,_,h2,n2}
 .exact{_,_,_,Z,n3}
def Tks.app{bs:Km}(h:Tks H as)(k:Tks H bs):Tks H (as++bs):=λp m=>(Qd.mp m).elim (h p) (k p)
def e9:nu 9=("9":Str):=by decide+kernel
def e0:nu 0=("0":Str):=by decide+kernel
def ke:Sp:=spW
def km(T:Txt K mg t w):D3 P w K mg base IQ 1 t.fO t.dt [bz,cy] ke:=by
 refine T.lE.okl IG λ_ _ _ s H vs Q E Y h _=>?_;intro X;let{l,c,w0,zs,rfl,hl,R,q}:=h;refine ai (aS (aA lV (aY aJ F3 am<|λ_ _=>M) (@az _ _ _ _<|@ar _ _ _ _ _ ao (@ar _ _ _ _ _ ao (@ar _ _ _ _ _ ao ag M) M) M) M)
    (ax<|ay<|aD cu F3<|@az _ _ _ _<|@ar _ _ _ _ _ ao (@ar _ _ _ _ _ ao (@ar _ _ _ _ _ ao ag M) M) M)
    aB)
   (ai (IL 2<|aD bw (aD c8 HW am) am)
   (ai (@pY _ _ 3 _ _ _ _ IG.nd M (Or.inl M) (@az _ _ _ _<|@ar _ _ _ _ _ (@az _ _ _ _<|@ar _ _ _ _ _ ao (@ar _ _ _ _ _ (aP aL {_} T.cw bD (aa (aD dN IA am) ag)) (@ar _ _ _ _ _ (aP aL {_} T.cw bD (aa IA ag)) ag M) M) M) (@ar _ _ _ _ _ (@az _ _ _ _<|@ar _ _ _ _ _ ao (@ar _ _ _ _ _ (aP aL {_} T.cw bD (aa IA ag)) (@ar _ _ _ _ _ (aP aL {_} T.cw bD (aa (aD dN am IA) ag)) ag M) M) M) (@ar _ _ _ _ _ (@az _ _ _ _<|@ar _ _ _ _ _ ao (@ar _ _ _ _ _ ao (@ar _ _ _ _ _ ao ag M) M) M) ag M) M) M) {_} (by first|exact .inl M|exact .inr M))
   (ai (IL 3<|aD cu IM<|@az _ _ _ _<|@ar _ _ _ _ _ (@az _ _ _ _<|@ar _ _ _ _ _ ao (@ar _ _ _ _ _ ao (@ar _ _ _ _ _ ao ag M) M) M) (@ar _ _ _ _ _ (@az _ _ _ _<|@ar _ _ _ _ _ ao (@ar _ _ _ _ _ ao (@ar _ _ _ _ _ ao ag M) M) M) (@ar _ _ _ _ _ (@az _ _ _ _<|@ar _ _ _ _ _ ao (@ar _ _ _ _ _ (aP aL {_} T.cw bD (aa (aD dN IA am) ag)) (@ar _ _ _ _ _ (aP aL {_} T.cw bD (aa IA ag)) ag M) M) M) ag M) M) M)
   (ai (IL 3<|aD cu IM<|@az _ _ _ _<|@ar _ _ _ _ _ (@az _ _ _ _<|@ar _ _ _ _ _ ao (@ar _ _ _ _ _ ao (@ar _ _ _ _ _ ao ag M) M) M) (@ar _ _ _ _ _ (@az _ _ _ _<|@ar _ _ _ _ _ ao (@ar _ _ _ _ _ (aP aL {_} T.cw bD (aa IA ag)) (@ar _ _ _ _ _ (aP aL {_} T.cw bD (aa (aD dN IA am) ag)) ag M) M) M) (@ar _ _ _ _ _ (@az _ _ _ _<|@ar _ _ _ _ _ ao (@ar _ _ _ _ _ ao (@ar _ _ _ _ _ ao ag M) M) M) ag M) M) M)
   (ai (IL 4<|aY aJ IM (aD bw HW am)<|λ_ _=>M)
   (cm (λx=>aS (aA bV (aY aJ F3 am<|λ_ _=>M) ao<|aH _) x aB) ?_))))))
 refine cm (λx=>aS (aA bV (aD bw (aD c8 HW am) am) am<|aH _) x aB) ?_;refine aC (@pY _ _ 4 _ _ _ _ IG.nd M (Or.inl M) (@az _ _ _ _<|@ar _ _ _ _ _ ao (@ar _ _ _ _ _ ao (@ar _ _ _ _ _ ao ag M) M) M) {_} (by first|exact .inl M|exact .inr M)) ?_
 intros
 refine aC (ay<|aD cu (aD cu (bK cq F3 cr<|bU am) Je)<|bK cq F3 (bU<|xR tK am) cr) ?_
 intros
 refine aC (ay<|aD cu (aD cu (bK cq F3 cr<|bU am) Je)<|bK cq F3 (bU am) cr) ?_
 intros
 have big:1000<=sizeLine:=by decide
 have zl:=R.sh.2.1;refine{_,M,l,_,_,_,M,M,HS.of hl,cU (j:=0) (v:= .str w0) M,(by show 3<=sizeLine;decide),λp np=>{p,_,M,.inl<|HS.of BB,M,M,_,M,?_}};have s1:=ae (o:= .lst<|[(mu:Str),(fo:Str),(ub:Str)].map V.str) np;have a2:=s1 _ _ hl;refine dD (λe=>?_)<|λe=>?_
 .refine{_,M,(by show 3<=sizeLine;decide),λp2 S=>{l,p2,_,_,M,M,ae S _ _ a2,BB,?_,λr nr=>?_}}
  .simp only[Q5,Q0,Q3,Qz];lia
  .refine q _ r (w0::(zs++ [(gr:Str),("0":Str),("4":Str)])) ((s1.trans<|ae S).trans<|ae nr) (BB.trans ?_)<|R.app (by simp) (by simp) ∅;simp
 have hw:w0∈[(mu:Str),(fo:Str),(ub:Str)]:=by
  have e:¬(!K7 (.str w0) ([(mu:Str),(fo:Str),(ub:Str)].map V.str))=true:=e;rw[uj]at e;by_cases y:w0∈[(mu:Str),(fo:Str),(ub:Str)]
  .exact y
  .rw[Xh y]at e;exact Xd M e
 change uO _ _ _ _ (upd H p<|.lst<|[(mu:Str),(fo:Str),(ub:Str)].map V.str);generalize upd H p (.lst<|[(mu:Str),(fo:Str),(ub:Str)].map V.str)=H1 at s1 a2⊢;refine{_,M,_,_,M,M,{(_),(_)},_,_,M,M,(by show(0:Int)<65536;decide),?_};have l0:=Qi (c/9) (show(65536:Int)≠0 by decide);have l1:=Qh (c/9) (show(0:Int)<65536 by decide)
 (try dsimp only)
 generalize c/9%65536=low at l0 l1⊢;have lw:0<=low/\low<65536:=⟨l0,l1⟩;have g1:=gK (n:=low) () ();have g2:=gK (n:=low+1) () ();have g3:=gK (n:=65537+low) () ();refine eI (λJ H'=>∃r as,J=[some (.ref l),some (.int c),some (.int low),some (.ref r),none]/\HU H H'/\H' r=some (.lst<|as.map V.ref)/\as.length=3/\Tks H' as) (λnx go=>?_)<|λJ H2 w=>?_
 .refine{_,M,_,_,M,M,_,M,g2,_,M,_,M,g1,(by show 3<=sizeLine;decide),λp1 n1=>{_,M,_,M,g1,_,M,_,_,M,M,_,M,g3,(by show 3<=sizeLine;decide),λp2 S=>{(by show 3<=sizeLine;decide),λp3 O=>{(by show 3<=sizeLine;decide),λr nr=>?_}}}};refine go _ _ {r,[p1,p2,p3],M,(((s1.trans<|ae n1).trans<|ae S).trans<|ae O).trans<|ae nr,BB,M,?_};exact Tks.three (ae nr _ _<|ae O _ _<|ae S _ _ BB) (ae nr _ _<|ae O _ _ BB) (ae nr _ _ BB) (nS1 lw) (nS2 lw)<|e9▸nS3
 let{r,as,rfl,s2,Y,al,tk}:=w;refine eI (λJ H'=>∃r as,J=[some (.ref l),some (.int c),some (.int low),some (.ref r),none]/\HU H H'/\H' r=some (.lst<|as.map V.ref)/\as.length=6/\Tks H' as) (λnx go=>?_)<|λJ H3 w=>?_
 .refine{_,M,(by show 3<=sizeLine;decide),λp1 n1=>{(by show 3<=sizeLine;decide),λp2 S=>{_,M,_,_,M,M,_,M,g2,_,M,_,M,g1,(by show 3<=sizeLine;decide),λp3 O=>{(by show 3<=sizeLine;decide),λU I=>?_}}}};have t4:=(((ae (o:= .lst [V.str (gr:Str),.str ("0":Str),.str ("-":Str)]) n1).trans<|ae (o:= .lst [V.str ("up":Str),.str ("-":Str),.str ("9":Str)]) S).trans<|ae (o:= .lst [V.str ("up":Str),.str (nu<|low+1),.str (nu low)]) O).trans (ae (o:= .lst<|[p1,p2,p3].map V.ref) I);refine{r,U,_,_,M,M,t4 _ _ Y,BB,?_,λr3 z=>?_}
  .simp only[Q5,Q0,Q3,Qz];lia
  refine go _ _ {r3,as++ [p1,p2,p3],M,(s2.trans t4).trans<|ae z,BB.trans (by rw[Qf];rfl),by rw[Q5,al];rfl,((tk.on t4).on<|ae z).app ?_};exact Tks.three (ae z _ _<|ae I _ _<|ae O _ _<|ae S _ _ BB) (ae z _ _<|ae I _ _<|ae O _ _ BB) (ae z _ _<|ae I _ _ BB) (e0▸nS4) (e9▸nU1) (nU2 lw)
 clear Y al tk;let{r,as,rfl,s3,Y,al,tk}:=w;refine eI (λJ H'=>∃r as,J=[some (.ref l),some (.int c),some (.int low),some (.ref r),none]/\HU H H'/\H' r=some (.lst<|as.map V.ref)/\as.length=9/\Tks H' as) (λnx go=>?_)<|λJ H4 w=>?_
 .refine{_,M,(by show 3<=sizeLine;decide),λp1 n1=>{_,M,_,M,g1,_,M,_,_,M,M,_,M,g2,(by show 3<=sizeLine;decide),λp2 S=>{(by show 3<=sizeLine;decide),λp3 O=>{(by show 3<=sizeLine;decide),λU I=>?_}}}};have t4:=(((ae (o:= .lst [V.str ("down":Str),.str ("9":Str),.str ("-":Str)]) n1).trans<|ae (o:= .lst [V.str ("down":Str),.str (nu low),.str (nu<|low+1)]) S).trans<|ae (o:= .lst [V.str ("left":Str),.str ("0":Str),.str ("9":Str)]) O).trans (ae (o:= .lst<|[p1,p2,p3].map V.ref) I);refine{r,U,_,_,M,M,t4 _ _ Y,BB,?_,λr3 z=>?_}
  .simp only[Q5,Q0,Q3,Qz];lia
  refine go _ _ {r3,as++ [p1,p2,p3],M,(s3.trans t4).trans<|ae z,BB.trans (by rw[Qf];rfl),by rw[Q5,al];rfl,((tk.on t4).on<|ae z).app ?_};exact Tks.three (ae z _ _<|ae I _ _<|ae O _ _<|ae S _ _ BB) (ae z _ _<|ae I _ _<|ae O _ _ BB) (ae z _ _<|ae I _ _ BB) (e9▸nD1) (nD2 lw) (e0▸e9▸nL)
 clear Y al tk;let{r,as,rfl,s4,Y,al,tk}:=w;have k0:=Qi c (show(9:Int)≠0 by decide);have k1:=Qh c (show(0:Int)<9 by decide);let{j,ej}:=QC k0;have hj:j<as.length:=();let{a,b,d,ht,O}:=tk as[j] (Zr hj);refine{_,M,_,M,_,_,M,M,(by show(0:Int)<9;decide),r,_,_,.ref as[j],M,M,HS.of Y,?_,?_}
 .rw[ej];exact cU<|by rw[Qp,Qb hj];rfl
 have a3:=s4 _ _ hl;refine{_,M,l,_,_,_,M,M,HS.of a3,cU (j:=0) (v:= .str w0) M,M,_,M,?_};by_cases cp:w0=(fo:Str)
 .subst cp;refine jL M ?_;refine eI (λJ H'=>∃(tp:B')(Z b' d':Str),J=[some (.ref l),some (.int c),some (.int low),some (.ref r),some (.ref tp)]/\HU H H'/\H' tp=some (.lst [.str Z,.str b',.str d'])/\(Ii Z b' d'\/(Z=(gr:Str)/\b'=("0":Str)/\d'=("65536":Str)))) (λnx go=>?_)<|λJ H5 w=>?_
  .refine{_,M,_,_,M,M,{(_),(_)},_,_,M,M,(by show(0:Int)<2;decide),M,_,M,dD (λ_=>?_)<|λ_=>go _ _ {_,_,_,_,M,s4,ht,.inl O}};exact{(by show 3<=sizeLine;decide),λtp nt=>go _ _ {tp,_,_,_,M,s4.trans<|ae nt,BB,.inr ⟨M,M,M⟩}}
  let{tp,Z,b',d',rfl,s5,a4,n5}:=w;let{m,d2,hm,a0,z5,bad}:=R.past n5;obtain⟨y1,y2,y3,ez⟩:∃y1 y2 y3,zs=[m,y1,y2,y3,d2]:=by
   match zs,z5,hm,a0 with
   | [m',y1,y2,y3,d3],_,hm,a0=>cases hm;cases a0;exact{_,_,_,M}
  have a5:=s5 _ _ hl;refine{_,M,_,M,l,_,M,HS.of a5,λr1 m1=>?_};rw[show dZ (((fo:Str)::zs).map V.str) none (some 2)=[V.str (fo:Str),.str m] by rw[ez];rfl];refine{_,M,r1,tp,_,_,M,M,BB,ae m1 _ _ a4,(by show 5<=sizeLine;decide),λU m2=>?_};have s6:=(s5.trans<|ae (o:= .lst [V.str (fo:Str),.str m]) m1).trans (ae (o:= .lst<|[V.str (fo:Str),.str m]++ [V.str Z,.str b',.str d']) m2);have a1:upd (upd H5 r1<|.lst [V.str (fo:Str),.str m]) U (.lst<|[V.str (fo:Str),.str m]++ [V.str Z,.str b',.str d']) U=some (.lst<|[V.str (fo:Str),.str m]++ [V.str Z,.str b',.str d']):=BB;refine{_,M,_,M,_,M,l,_,M,HS.of<|s6 _ _ hl,λr3 m3=>?_};rw[show dZ (((fo:Str)::zs).map V.str) (some<|-1) none=[V.str d2] by rw[ez];rfl];refine{U,r3,_,_,M,M,ae m3 _ _ a1,BB,(by show 6<=sizeLine;decide),λr4 m4=>?_};exact q _ r4 [(fo:Str),m,Z,b',d',d2] ((s6.trans<|ae m3).trans<|ae m4) BB bad
 .refine b6 (λy=>cp<|V.str.inj y) ?_;have a6:w0=(mu:Str)\/w0=(ub:Str):=by
   simp only[Qa,Qe,or_false]at hw;rcases hw with h|h|h
   .exact .inl h
   .exact Xd h cp
   .exact .inr h
  refine{_,M,_,M,l,_,M,HS.of a3,λr1 m1=>?_};rw[show dZ ((w0::zs).map V.str) none (some 1)=[V.str w0] by unfold dZ HT.sIx;simp];refine{_,M,r1,as[j],_,_,M,M,BB,ae m1 _ _ ht,(by show 4<=sizeLine;decide),λU m2=>?_};have s6:=(s4.trans<|ae (o:= .lst [V.str w0]) m1).trans (ae (o:= .lst<|[V.str w0]++ [V.str a,.str b,.str d]) m2);have a1:upd (upd H4 r1<|.lst [V.str w0]) U (.lst<|[V.str w0]++ [V.str a,.str b,.str d]) U=some (.lst<|[V.str w0]++ [V.str a,.str b,.str d]):=BB;refine{_,M,_,M,l,_,M,HS.of<|s6 _ _ hl,λr3 m3=>?_};rw[show dZ ((w0::zs).map V.str) (some 4) none=(zs.drop 3).map V.str from jP (f:=V.str) (ms:=w0::zs) (g:=4) (_)];refine{U,r3,_,_,M,M,ae m3 _ _ a1,BB,?_,λr4 m4=>?_}
  .simp only[Q5,Q0,Q3,Qz,QA];lia
  .refine q _ r4 (w0::a::b::d::zs.drop 3) ((s6.trans<|ae m3).trans<|ae m4) (BB.trans ?_)<|R.tok a6 O;simp
def KI(l:B')(v:V):Prop:=(∃(z w0:Str)(zs:Kc),v= .str z/\z.length<=6000/\Txt.split z (rs:Str)=w0::zs/\zs.length<=100/\(∀y∈zs,y.length<=100)/\sA (w0::zs))\/v= .non\/v= .int 7\/v= .bl true\/v= .ref l
theorem xc{c:Nat}:∀l:List Str,(jn c l).length<=(l.map (·.length)).sum+l.length
 | []=>by simp[jn]
 | [a]=>by
  show(sg a).length<=_;rw[<-cO];simp
 |a::b::r=>by
  have z:=xc (c:=c) (b::r);show(sg a++c::jn c (b::r)).length<=_;rw[Q5,<-cO,Q3];simp only[Qm,List.sum_cons,Q3]at z⊢;lia
def qF{m n:Nat}(h:∀z∈ws,z.length<=m)(l:ws.length<=n):(Txt.join (rs:Str) ws).length<=n*m+n:=by
 rw[cO,KU];have h1:=xc (c:=32) ws;have h2:=kO h;have I:ws.length*m<=n*m:=Zg _ l;lia
def JQ.row(b:JQ ws)(l:B'):KI l (.str<|Txt.join (rs:Str) ws):=by
 let{ne,O,sh,I}:=b;have hl:=qF (λz m=>(sh z m).1) I;have es:Txt.split (Txt.join (rs:Str) ws) (rs:Str)=ws:=by
  rw[qT];exact d6 ne λz m=>(sh z m).2
 cases ws with
 |nil=>exact Xd M ne
 |cons w0 zs=>exact .inl {_,w0,zs,M,(),es,by rw[Q3]at I;lia,λy m=>(sh y<|Q4 _ m).1,O}
def JQ.sum(b:JQ ws):(ws.map (·.length)).sum<=5000/\ws.length<=50:=by
 have h:=kO λz m=>(b.sh z m).1;have:=b.ln;have I:ws.length*100<=50*100:=Zg _ this;lia
def nY(K:J5):Sp:=λvs H Q _=>∃(l a:B')(ns:Kk)(w0:Str)(zs:Kc),vs=[.ref l,.ref a]/\HS K H a (ns.map V.int)/\H l=some (.lst<|(w0::zs).map V.str)/\JZ w0 zs/\∀(H':Hp)(v:V),HU H H'->KI l v->Q v H'
def oq(T:Txt K mg t w):D3 P w K mg base IQ 3 t.jQ t.fG [bz,cx] (nY K):=by
 refine T.qQ.okl oj λ_ _ _ s H vs Q E S h _=>?_;intro X;let{l,a,ns,w0,zs,rfl,hS,hl,R,q}:=h;refine ai (IL 2<|aI (db T) S.mo {_} T.bh T.be.kp T.bn .nil aM (aa HW<|aa am ag))
   (ai (IL 3<|aD bw (aI (db T) S.mo {_} T.bh T.be.kp T.bn .nil aM (aa HW<|aa am ag)) am)
   (ai (IL 4<|c6 Qk QG QH fZ ao<|aa F3 ag)
   (cm (λx=>aS (aA bV IM am<|aH _) x aB) ?_)))
 refine aC (ay<|aY aJ (az<|CY ∅ ∅ ∅ (aD AB ao<|aP nU {_} T.zR ux (aa (eW bV (aG aE {_} T.cz bF (aa F3 ag)) am<|aH _) ag)) (i:=4)) (aD bw IA am)<|λ_ _=>M) ?_
 intros
 refine cm (λx=>aS (aA bV IM am<|aH _) x aB) ?_;refine aC (ay<|c6 Qk QG QH fZ ao<|aa (aD cu (az<|aa (aY aJ (az<|aa (wK Qk PySem.F.slot_str_upper PySem.F.type_str_upper AL<|aY aJ F3 am<|λ_ _=>M)<|aa (aD bZ (aY aJ F3 am<|λ_ _=>M) ao) ag) (aD bw IA am)<|λ_ _=>M) ag)<|bK cq F3 (bU am) cr) ag) ?_
 intros
 refine cm (λx=>aS (aA bV IM am<|aH _) x aB) ?_;refine aC (ay<|c6 Qk QG QH fZ ao<|aa (bK cq F3 cr<|bU<|xR tK am) ag) ?_
 intros
 refine cm (λx=>aS (aA bV IM am<|aH _) x aB) ?_;refine aC (ay<|aD bZ Je<|@aY _ _ _ _ _ _ _ aJ (@az _ _ _ _<|@ar _ _ _ _ _ ao (@ar _ _ _ _ _ ao (@ar _ _ _ _ _ ao (@ar _ _ _ _ _ ao ag M) M) M) M) (aD bw IA am)<|λ_ _=>M) ?_
 intros
 refine cm (λx=>aS (aA bV IM am<|aH _) x aB) ?_;refine aC (ay<|c6 Qk QG QH fZ ao<|aa (aI (lX T) S.mo {_} T.yZ T.nO.kp T.zB .nil aM (aa F3<|aa IA ag)) ag) ?_
 intros
 refine cm (λx=>aS (aA bV IM am<|aH _) x aB) ?_;refine aC (ay<|c6 Qk QG QH fZ ao<|aa (aI (jE T) S.mo {_} T.wc T.kr.kp T.wf .nil aM (aa F3<|aa IA ag)) ag) ?_
 intros
 refine cm (λx=>aS (aA bV IM am<|aH _) x aB) ?_;refine aC (ay<|c6 Qk QG QH fZ ao<|aa (aI (k9 T) S.mo {_} T.x6 T.mO.kp T.yj .nil aM (aa F3<|aa IA ag)) ag) ?_
 intros
 refine cm (λx=>aS (aA bV IM am<|aH _) x aB) ?_;refine aC (ay<|c6 Qk QG QH fZ ao<|aa (aI (km T) S.mo {_} T.w6 T.lE.kp T.xu .nil aM (aa F3<|aa IA ag)) ag) ?_
 intros
 refine aC (@ay _ _ _ _<|@aY _ _ _ _ _ _ _ aJ (@az _ _ _ _<|@ar _ _ _ _ _ jC (@ar _ _ _ _ _ am (@ar _ _ _ _ _ F3 (@ar _ _ _ _ _ lT ag M) M) M) M) (aD bw IA am)<|λ_ _=>M) ?_
 intros
 have big:10000<=sizeLine:=by decide
 let{sh,zl,a5,a1}:=R.sh;have I:∀z∈w0::zs,z.length<=62/\32∉sg z:=λz m=>(Qa.mp m).elim (λe=>by rw[e];exact{(),a1}) (sh z);have rl:(Txt.join (rs:Str) (w0::zs)).length<=6*62+6:=qF (λz m=>(I z m).1) (by rw[Q3];lia);have sm:=kO λz m=>(I z m).1;have sl:(w0::zs).length<=6:=by rw[Q3];lia
 have a6:(w0::zs).length*62<=6*62:=Zg _ sl;have a2:Txt.split (Txt.join (rs:Str) (w0::zs)) (rs:Str)=w0::zs:=by
  rw[qT];exact d6 (by simp) λz m=>(I z m).2
 refine{_,M,a,ns,_,M,hS,(_),?_}
 (try dsimp only)
 generalize ns.getD (2:Int).toNat 0=c;refine{_,M,a,ns,_,M,hS,(_),_,_,M,M,(by show(0:Int)<9;decide),?_}
 (try dsimp only)
 have y0:=Qi (ns.getD (1:Int).toNat 0) (show(9:Int)≠0 by decide);have y1:=Qh (ns.getD (1:Int).toNat 0) (show(0:Int)<9 by decide);generalize ns.getD (1:Int).toNat 0%9=Z at y0 y1⊢;refine{M,_,M,_,l,w0::zs,M,M,HS.of hl,∅,?_,?_}
 .lia
 rw[show(Str.ofString rs)=(rs:Str) from rfl];generalize U:Txt.join (rs:Str) (w0::zs)=row at rl a2⊢;have O:∀{k:Int}{A B:Prop},(Z=k->A)->(Z≠k->B)->if decide (V.int Z=V.int k)=true then A else B:=λh1 h2=>dD (λe=>h1<|V.int.inj<|Xk e) λe=>h2 λz=>e (Xg<|Xo V.int z)
 refine{_,M,M,_,M,O (λ_=>?_)<|λn0=>?_}
 .have c0:=Qi c (show(3:Int)≠0 by decide);have c1:=Qh c (show(0:Int)<3 by decide);have e1:(rs:Str).length=1:=by decide+kernel
  have er:Txt.replace row (rs:Str) ("  ":Str)=Str.join ("  ":Str) (w0::zs):=by
   rw[qT,StrLaws.replace_one,<-qT,a2]
  have wl:=sH (ws:=w0::zs) (by simp);let{ths,hf,hz,_}:=id R;have bE:("":Str).length<=100/\32∉sg ("":Str):=by decide+kernel
  have a3:(Txt.replace row (rs:Str) ("  ":Str)).length<=900:=by
   rw[er,cO,mX];have h1:=xc (c:=32) (d5 (w0::zs));have h2:=kO (m:=62) (ws:=d5 (w0::zs)) λz m=>(mP m).elim (λe=>by rw[e];decide+kernel) λm=>(I z m).1;have h3:(d5 (w0::zs)).length*62<=11*62:=Zg _ ();lia
  have n1:KI l (.str<|(rs:Str)++row):=by
   rw[<-U,yJ (by simp)];exact(JQ.mk' (wQ ∅) bE (λz m=>{by have:=(I z m).1;lia,(I z m).2}) ()).row l
  have n2:KI l (.str<|row++(rs:Str)):=by
   rw[<-U,pX (y:=("":Str)) (by simp) (by rw[sgB,sgE])];exact(R.app (l:=[("":Str)]) (by simp) (by simp) λz m=>by rwa[Q9.mp m]).row l
  have n3:KI l (.str<|Txt.replace row (rs:Str) ("  ":Str)++(if decide (V.int (((w0::zs).map V.str).length:Int)=V.int 1)=true then(rs:Str)else Str.empty)):=by
   rw[er];by_cases Y:zs=[]
   .rw[Y,Xe (show decide (V.int ((([w0].map V.str).length:Nat):Int)=V.int 1)=true from Xg M)];have e:Str.join ("  ":Str) [w0]++(rs:Str)=Txt.join (rs:Str) ([w0]++ [("":Str)]):=pX (ws:=[w0]) (y:=("":Str)) (by simp) (by rw[sgB,sgE]);rw[e];rw[Y]at R;exact(R.app (l:=[("":Str)]) (by simp) (by simp) λz m=>by rwa[Q9.mp m]).row l
   .rw[Xc λe=>Y (by
     have e:=V.int.inj (Xk e);rw[Q0,Q3]at e;exact ZF.mp ())]
    have e:Str.join ("  ":Str) (w0::zs)++Str.empty=Txt.join (rs:Str) (d5 (w0::zs)):=gh (by rw[dF,mX,KU,show sg Str.empty=[] from rfl,X4]);rw[e];obtain⟨b,r,a4⟩:∃b r,zs=b::r:=by
     cases zs with
     |nil=>exact Xd M Y
     |cons b r=>exact⟨b,r,M⟩
    have ew:d5 (w0::zs)=w0::("":Str)::d5 (b::r):=by rw[a4];rfl
    have wm:∀z∈("":Str)::d5 (b::r),z.length<=100/\32∉sg z:=λz m=>by
     have m:z∈d5 (w0::zs):=by rw[ew];exact Q4 _ m
     rcases mP m with h|h
     .rwa[h]
     .exact{by have:=(I z h).1;lia,(I z h).2}
    have ln:(("":Str)::d5 (b::r)).length=2*zs.length:=by
     have:(d5 (w0::zs)).length=(("":Str)::d5 (b::r)).length+1:=by rw[ew];rfl
     rw[Q3]at wl;lia
    rw[ew];have zp:=QB.mpr Y;exact(JQ.mk' (wP hf ()) {(),a1} wm ()).row l
  obtain⟨v,hv,nv⟩:∃v:V,JP [V.str ((rs:Str)++row),.str (row++(rs:Str)),.str (Txt.replace row (rs:Str) ("  ":Str)++(if decide (V.int (((w0::zs).map V.str).length:Int)=V.int 1)=true then(rs:Str)else Str.empty))] (c%3)=some v/\KI l v:=by
   generalize c%3=k at c0 c1;rcases(show k=0\/k=1\/k=2 by lia)with rfl|rfl|rfl
   .exact{_,M,n1}
   .exact{_,M,n2}
   .exact{_,M,n3}
  refine{row,M,(),_,M,l,_,M,.inl<|HS.of hl,M,_,M,(rs:Str),_,M,M,(),_,_,M,M,?_,(by show 3<=sizeLine;decide),λp np=>{_,M,_,_,M,M,(by show(0:Int)<3;decide),p,_,_,v,M,M,HS.of BB,hv,q _ _ (ae np) nv}};have ul:∀b:Bool,(if b=true then(rs:Str)else Str.empty).length<=1:=by decide+kernel
  exact Qw (Nat.add_le_add a3<|ul _) ()
 refine{_,M,M,_,M,O (λ_=>?_)<|λn1=>?_}
 .have c0:=Qi c (show(2:Int)≠0 by decide);have c1:=Qh c (show(0:Int)<2 by decide);let{ths,hf,hz,_}:=id R;let{_,_,_,fx,sx}:=EA hf;let{fu,su,lu}:=FP hf;have ex:("x":Str).length=1:=by decide+kernel
  have lx:(w0++("x":Str)).length<=100:=by rw[Str.length_append];lia
  obtain⟨u,hu,fu,su⟩:∃u:Str,JP [V.str (Txt.upper w0),.str (w0++("x":Str))] (c%2)=some (.str u)/\frm u=none/\u.length<=100/\32∉sg u:=by
   generalize c%2=k at c0 c1;rcases(show k=0\/k=1 by lia)with rfl|rfl
   .exact{_,M,fu,lu,su}
   .exact{_,M,fx,lx,sx}
  have bad:JQ (u::zs):=JQ.mk' (wQ fu) su (λz m=>{by have:=(sh z m).1;lia,(sh z m).2}) ();have a0:JP ((w0::zs).map V.str) 0=some (.str w0):=cU (j:=0) M;refine{M,_,M,l,_,_,_,M,M,HS.of hl,a0,M,w0,M,M,(),_,M,l,_,_,_,M,M,HS.of hl,a0,_,_,M,M,(),(by show 2<=sizeLine;decide),λp np=>{_,M,_,_,M,M,(by show(0:Int)<2;decide),p,_,_,.str u,M,M,HS.of BB,hu,(by show 1<=sizeLine;decide),λp2 n2=>?_}};have s2:=(ae (o:= .lst [V.str (Txt.upper w0),.str (w0++("x":Str))]) np).trans (ae (o:= .lst [V.str u]) n2);refine{_,M,_,M,l,_,M,HS.of<|s2 _ _ hl,λr nr=>?_};rw[show dZ ((w0::zs).map V.str) (some 1) none=zs.map V.str from jP (f:=V.str) (ms:=w0::zs) (g:=1) (_)];refine{p2,r,_,_,M,M,ae nr _ _ BB,BB,?_,λr3 n3=>{_,r3,u::zs,M,M,HS.of BB,∅,by have:=bad.sum;lia,q _ _ ((s2.trans<|ae nr).trans<|ae n3)<|bad.row l}};simp only[Q5,Q0,Q3,Qz];lia
 refine{_,M,M,_,M,O (λ_=>?_)<|λn2=>?_}
 .refine{M,_,M,_,M,_,M,l,_,M,HS.of hl,λr nr=>?_};rw[vV];have nv:KI l (.str<|Txt.join (rs:Str) (w0::zs).dropLast):=by
   by_cases Y:zs=[]
   .rw[Y,show[w0].dropLast=([]:Kc) from rfl];exact .inl {_,("":Str),[],M,∅,∅,(_),(λy m=>Xd m Qe),wQ ∅}
   .rw[X7 Y];exact(R.drop Y).row l
  refine{_,r,(w0::zs).dropLast,M,M,HS.of BB,∅,?_,q _ _ (ae nr) nv};have h1:=kO (m:=62) (ws:=(w0::zs).dropLast) λz m=>(I z<|(ZN _).subset m).1;have h2:(w0::zs).dropLast.length<=6:=by rw[Zf];lia
  have h3:(w0::zs).dropLast.length*62<=6*62:=Zg _ h2;lia
 refine{_,M,M,_,M,O (λ_=>?_)<|λn3=>?_}
 .have c0:=Qi c (show(4:Int)≠0 by decide);have c1:=Qh c (show(0:Int)<4 by decide);obtain⟨u,y,hu,eu,ul,ys⟩:∃u y:Str,JP [V.str (" x":Str),.str (" -":Str),.str (" 7":Str),.str (" up":Str)] (c%4)=some (.str u)/\sg u=32::sg y/\u.length<=3/\y.length<=100/\32∉sg y:=by
   generalize c%4=k at c0 c1;rcases(show k=0\/k=1\/k=2\/k=3 by lia)with rfl|rfl|rfl|rfl
   .exact{_,("x":Str),M,∅,∅,∅,∅}
   .exact{_,("-":Str),M,∅,∅,∅,∅}
   .exact{_,("7":Str),M,∅,∅,∅,∅}
   .exact{_,("up":Str),M,∅,∅,∅,∅}
  refine{_,M,(by show 4<=sizeLine;decide),λp np=>{_,M,_,_,M,M,(by show(0:Int)<4;decide),p,_,_,.str u,M,M,HS.of BB,hu,_,_,M,M,(),?_}};rw[<-U,pX (y:=y) (by simp) eu];exact q _ _ (ae np)<|(R.app (l:=[y]) (by simp) (by simp) λz m=>by rwa[Q9.mp m]).row l
 refine{_,M,M,_,M,O (λ_=>?_)<|λn4=>?_}
 .refine{M,_,M,_,M,l,c,w0,zs,M,hl,R,λH' r ws s S b=>?_};exact{_,r,ws,M,M,HS.of S,∅,by have:=b.sum;lia,q _ _ s<|b.row l}
 refine{_,M,M,_,M,O (λ_=>?_)<|λn5=>?_}
 .refine{M,_,M,_,M,l,c,w0,zs,M,hl,R,λH' r ws s S b=>?_};exact{_,r,ws,M,M,HS.of S,∅,by have:=b.sum;lia,q _ _ s<|b.row l}
 refine{_,M,M,_,M,O (λ_=>?_)<|λn6=>?_}
 .refine{M,_,M,_,M,l,c,w0,zs,M,hl,R,λH' r ws s S b=>?_};exact{_,r,ws,M,M,HS.of S,∅,by have:=b.sum;lia,q _ _ s<|b.row l}
 refine{_,M,M,_,M,O (λ_=>?_)<|λn7=>?_}
 .refine{M,_,M,_,M,l,c,w0,zs,M,hl,R,λH' r ws s S b=>?_};exact{_,r,ws,M,M,HS.of S,∅,by have:=b.sum;lia,q _ _ s<|b.row l}
 have k0:=Qi c (show(4:Int)≠0 by decide);have k1:=Qh c (show(0:Int)<4 by decide);obtain⟨v,hv,nv⟩:∃v:V,JP [V.non,.int 7,.ref l,.bl true] (c%4)=some v/\KI l v:=by
  generalize c%4=k at k0 k1;rcases(show k=0\/k=1\/k=2\/k=3 by lia)with rfl|rfl|rfl|rfl
  .exact{_,M,.inr<|.inl M}
  .exact{_,M,.inr<|.inr (.inl M)}
  .exact{_,M,.inr<|.inr (.inr<|.inr M)}
  .exact{_,M,.inr<|.inr (.inr<|.inl M)}
 refine{_,M,(by show 4<=sizeLine;decide),λp np=>{_,M,_,_,M,M,(by show(0:Int)<4;decide),p,_,_,v,M,M,HS.of BB,hv,q _ _ (ae np) nv}}
def nZ(K:J5)(t:II):Sp:=λvs H Q _=>∃(d:B')(v:V)(G:Kh)(x:IK)(ps:Ku),vs=[.ref d,v]/\Iq K t H d G x ps/\xy K H v/\∀H',HU H H'->Q (.bl true) H'
def ot(T:Txt K mg t w):D3 P w K mg base IQ 10 t.jR t.fH ["_law_told","_law_row"] (nZ K t):=by
 refine T.qR.okl Im λ_ _ _ s H vs Q E z h _=>?_;intro X;let{d,v,G,x,ps,rfl,D,I,q}:=h;refine ai (E5 M M (λpn E=>(ax<|bu<|Av F3 T.bH T.bN (lY T) z.mo T.bO .nil G8<|aa HW ag))
    (G7 (i:=2) Im.nd M M {_} T.mf T.Cr (λea=>(ii (IL 3<|xS (aG (cG K M) {_} T.bp a9 (aa IA<|aa (bL (v:= .ref t.bj) {_} T.j3 M) ag))<|xS (aG (cG K M) {_} T.bp a9 (aa IA<|aa (bL (v:= .ref t.aQ) {_} T.cP M) ag))<|kZ<|aG (cG K M) {_} T.bp a9 (aa IA<|aa (bL (v:= .ref t.bM) {_} T.AQ M) ag))
    (ii (IL 3<|xS IM<|xS (aG (cG K M) {_} T.bp a9 (aa IA<|aa (bL (v:= .ref t.a6) {_} T.ue M) ag))<|kZ<|aG (cG K M) {_} T.bp a9 (aa IA<|aa (bL (v:= .ref t.cv) {_} T.Ev M) ag))
    (ax<|ay<|m7 (aG (cG K M) {_} T.bp a9 (aa IA<|aa (bL (v:= .ref t.bb) {_} T.iu M) ag))<|m7 (aG (sk K M) {_} T.bp a9 (aa IA<|aa (j2 (v:= .ty gm) {_} T.Cq ss M) ag))<|kZ<|Au IM)))) CU))
   (aC (ay lT) ?_)
 intros
 let{dx,h,c,F,hd,J4,O,iff}:=id D;refine{_,M,d,dx,_,M,hd,M,_,M,d,v,G,x,ps,M,D,.inl {I,λea od H' hx hs=>?_}};refine{ea,t.bb,M,hx.1,_,true,T.aT,T.wv,cT ?_};refine{_,M,ea,od,_,_,_,_,_,M,hx,T.aT,T.ie,j6 T.aT T.cR T.zH,_,M,cX ?_};refine{_,M,ea,od,_,_,_,_,_,M,hx,T.aT,T.ie,j6 T.aT T.aW T.yA,_,M,cX ?_};refine{_,M,ea,od,_,_,_,_,_,M,hx,T.aT,T.ie,j6 T.aT T.uJ T.Ac,?_};refine{_,M,_,M,cX ?_};refine{_,M,ea,od,_,_,_,_,_,M,hx,T.aT,T.ie,j6 T.aT T.tI T.ww,_,M,cX ?_};refine{_,M,ea,od,_,_,_,_,_,M,hx,T.aT,T.ie,j6 T.aT T.Ef T.xG,?_};refine{_,M,ea,od,_,_,_,_,_,M,hx,T.aT,T.ie,j6 T.aT T.aT T.Ab,_,M,cT ?_};refine{_,M,ea,od,_,_,_,_,_,M,hx,T.aT,T.ie,Dm T.aT,_,M,cT ?_};exact{_,M,_,M,q _ hs}
def KI.row(h:KI l v)(hl:H l=some (.lst xs)):xy K H v:=by
 rcases h with h|rfl|rfl|rfl|rfl
 .exact .inl h
 .exact .inr {_,IH.non,by kernel_rfl}
 .exact .inr {_,IH.int _,by kernel_rfl}
 .exact .inr {_,IH.bl _,by kernel_rfl}
 .exact .inr {_,IH.lst hl,by kernel_rfl}
def Iq.ob{d:B'}{x:IK}(D:Iq K t H d G x ps):∃dx h c,H d=some (.ins t.fN dx [(pp,.ref h),("copier",c)]):=by
 let{dx,h,c,F,hd,_}:=D;exact⟨dx,h,c,hd⟩
section
variable{d:B'}{x:IK}
def mS{z:Str}(D:Iq K t H d G x ps)(hl:z.length<=6000)(es:Txt.split z (rs:Str)=w0::zs)(I:zs.length<=100)(hz:∀y∈zs,y.length<=100)(a:Act K t H d G x ps Q w0 zs):bT K t [.ref d,.str z] H Q E:=
 {d,_,G,x,ps,M,D,.inr ⟨z,w0,zs,M,hl,es,I,hz,a⟩}
def u7(D:Iq K t H d G x ps)(q:IZ K t H d G x ps (ps.map K9) Q):bT K t [.ref d,.str ("keep":Str)] H Q E:=
 mS (w0:=("keep":Str)) (zs:=[]) D ∅ ∅ (_) (λy m=>Xd m Qe) (.keep q)
def uZ(D:Iq K t H d G x ps)(q:IZ K t H d G x ps [nu (ps.length:Int)] Q):bT K t [.ref d,.str ("many":Str)] H Q E:=
 mS (w0:=("many":Str)) (zs:=[]) D ∅ ∅ (_) (λy m=>Xd m Qe) (.many q)
def xK(D:Iq K t H d G x ps)(b:0<=x.now/\x.now<100/\x.fl=0)(q:IZ K t H d G x ps [nu x.now++(rs:Str)++nu x.fl] Q):bT K t [.ref d,.str ("now":Str)] H Q E:=
 mS (w0:=("now":Str)) (zs:=[]) D ∅ ∅ (_) (λy m=>Xd m Qe) (.now {(),(),(),()} q)
def Ag(D:Iq K t H d G x ps)(q:IZ K t H d G x ps [] Q):bT K t [.ref d,.str ("copy up 0 -":Str)] H Q E:=
 mS (w0:=(ub:Str)) (zs:=[("up":Str),("0":Str),("-":Str)]) D ∅ ∅ (_) ∅ (.copy (kd:=1) (a:= .int 0) (e:= .non) {("0":Str),("-":Str),∅,∅,∅,.inr<|.inl {M,0,M,(_),.inl M}} q)
def CA{v:Int}(D:Iq K t H d G x ps)(m:(70,v)∈ps)(q:IZ K t H d G x ps [nu v] Q):bT K t [.ref d,.str ("get 70":Str)] H Q E:=
 mS (w0:=("get":Str)) (zs:=[("70":Str)]) D ∅ ∅ (_) ∅ (.get (k:=70) ∅ (_) m q)
def xJ{z x1 x2:Str}{v:Int}(D:Iq K t H d G x ps)(e:z=Txt.join (rs:Str) [(p0:Str),x1,x2])(h1:Jg x1=some k)(h2:Jg x2=some v)(s1:x1.length<=100/\32∉sg x1)(s2:x2.length<=100/\32∉sg x2)(b:0<=k/\k<10^60/\-(10^60)<v/\v<10^60)(up:cV (ps.map (·.1)))(lt:∀p∈ps,p.1<k)(pl:ps.length<1000)(I:x.now+x.ma<4000)
  (q:∀x',x'.now=x.now+1->x'.fl=x.fl->x'.ma=x.ma->cV ((ps++ [(k,v)]).map (·.1))->IZ K t H d G x' (ps++ [(k,v)]) [] Q):bT K t [.ref d,.str z] H Q E:=by
 have sh:∀w∈[(p0:Str),x1,x2],w.length<=100/\32∉sg w:=λw m=>by
  simp only[Qa,Qe,or_false]at m;rcases m with rfl|rfl|rfl
  .decide+kernel
  .exact s1
  .exact s2
 have l:=qF (n:=3) (λw m=>(sh w m).1) (Qc _);refine mS (w0:=(p0:Str)) (zs:=[x1,x2]) D (by rw[e];lia) ?_ (show 2<=100 by decide) (λy m=>(sh y<|Q4 _ m).1)<|.put h1 h2 b up lt pl I q;rw[e,qT];exact d6 (by simp) λw m=>(sh w m).2
end
noncomputable def pl(i:Nat):List (Int×Int):=(List.range i).map λk:Nat=>(5*(k:Int),-((k:Int)+1))
def CT(i:Nat):pl (i+1)=pl i++ [(5*(i:Int),-((i:Int)+1))]:=by
 unfold pl;rw[List.range_succ,Qf];rfl
def Et(h:5*(i:Int)<=k+4):∀p∈pl i,p.1<k:=λp m=>by
 let{j,z,rfl}:=Qn.mp m;have:=List.mem_range.mp z;show 5*(j:Int)<k;lia
def CG(h:0<=k):("put ":Str)++nu (5*k)++(" -":Str)++nu (k+1)=Txt.join (rs:Str) [(p0:Str),nu (5*k),("-":Str)++nu (k+1)]:=by
 refine gh ?_;rw[KU,dF,dF,dF];show _=sg (p0:Str)++32::(sg (nu<|5*k)++32::sg (("-":Str)++nu (k+1)));rw[dF,show sg ("put ":Str)=sg (p0:Str)++ [32] by decide+kernel,show sg (" -":Str)=32::sg ("-":Str) by decide+kernel];simp
def KJ(H:Hp)(G:Kh)(p:B')(x:IK)(ps:Ku):Prop:=∃l1 l2 l3:Addr,(H p=some (.lst [.ref l1,.ref l2,.ref l3])/\¬G p)/\(H l1=some (.lst<|(ps.map K9).map V.str)/\¬G l1)/\(H l2=some (.lst [.str (nu x.now++(rs:Str)++nu x.fl)])/\¬G l2)/\(H l3=some (.lst [.str (nu (ps.length:Int))])/\¬G l3)
def KJ.on{z:Kh}{x:IK}(h:KJ H G p x ps)(f:Fr G z H H'):KJ H' z p x ps:=by
 let{l1,l2,l3,{I,b1},{O,b2},{S,U},{Y,Z}}:=h;exact{l1,l2,l3,f _ _ b1 I,f _ _ b2 O,f _ _ U S,f _ _ Z Y}
def qM(ha:H a=some (.lst<|ts.map V.str))(hb:H b=some (.lst<|ts.map V.str)):Alk K H 4 (.ref a) (.ref b):=by
 refine .inr {a,b,_,_,M,M,.inl {HS.of ha,HS.of hb},M,λj u v hu I=>?_};rw[hu]at I;cases I;let{z,_,rfl}:=Qn.mp (Q2 hu);exact .inl ⟨Xn,M⟩
def KJ.alk{x:IK}(h:KJ H G p x ps)(k:KJ H G q x ps):Alk K H 5 (.ref p) (.ref q):=by
 let{l1,l2,l3,{I,_},{O,_},{S,_},{U,_}}:=h;let{m1,m2,m3,{b1,_},{b2,_},{Y,_},{Z,_}}:=k;refine .inr {p,q,_,_,M,M,.inl {HS.of I,HS.of b1},M,λj u v hu z=>?_}
 match j,hu,z with
 |0,hu,z=>cases hu;cases z;exact qM O b2
 |1,hu,z=>cases hu;cases z;exact qM (ts:=[_]) S Y
 |2,hu,z=>cases hu;cases z;exact qM (ts:=[_]) U Z
def Ae(K:J5):Sp:=λvs H Q _=>∃(a:B')(ns:Kk),vs=[.ref a]/\HS K H a (ns.map V.int)/\ns.length<=63/\∀H',Q (.bl true) H'
def Fh(T:Txt K mg t w):D3 P w K mg base IQ 11 t.ED t.yi [cx] (Ae K):=by
 have J0:=lY (P:=P) (w:=w) (base:=base) T;refine T.HA.okl KB λ_ _ _ s H vs Q E I h _=>?_;intro X;let{a,ns,rfl,hS,bp,q}:=h;refine ai (IL 1<|jD T.HE (r9 T) I.mo {_} T.HG T.DU .nil aM)
   (cm (λx=>(tS XA M (m6 {_} T.tH (aa (aD bw (aI (db T) I.mo {_} T.bh T.be.kp T.bn .nil aM (aa F3<|aa am ag)) am) ag)) (pgn 2)
    x)) ?_)
 refine aC (bu<|bc HW T.bH T.bN J0 I.mo T.bO .nil fB<|aa (aD bZ (aD bZ (aD bZ ao<|aP aL {_} T.cw bD (aa (aD wL am IA) ag)) ao)<|aP aL {_} T.cw bD (aa (aD dN IA am) ag)) ag) ?_
 intros
 refine ai (aS (aA bV (aD bw (aD c8 (aI (db T) I.mo {_} T.bh T.be.kp T.bn .nil aM (aa F3<|aa am ag)) am) am) am<|aH _)
    (ax<|bu<|bc HW T.bH T.bN J0 I.mo T.bO .nil fB<|aa ao ag)
    aB)
   (ai (@pY _ _ 3 _ _ _ _ KB.nd M (Or.inl M) (@az _ _ _ _<|@ar _ _ _ _ _ (bc HW T.bH T.bN J0 I.mo T.bO .nil fB<|aa ao ag) (@ar _ _ _ _ _ (bc HW T.bH T.bN J0 I.mo T.bO .nil fB<|aa ao ag) (@ar _ _ _ _ _ (bc HW T.bH T.bN J0 I.mo T.bO .nil fB<|aa ao ag) ag M) M) M) {_} (by first|exact .inl M|exact .inr M))
   (ai (IL 4<|aI (oq T) I.mo {_} T.AU T.qQ.kp T.Bx .nil aM (aa (aI (rS T) I.mo {_} T.Dk T.uI.kp T.DO .nil aM (aa F3 ag))<|aa F3 ag))
   (cm (λx=>(tS XA M (m6 {_} T.tH (aa am ag)) (pgn 5)
    x)) ?_)))
 refine aC (aS (PW.pt<|xM (eR<|cc<|aI (ot T) I.mo {_} T.AV T.qR.kp T.By .nil aM (aa HW<|aa Je ag))<|tQ<|aA (Ff K M I.u20) (@az _ _ _ _<|@ar _ _ _ _ _ (bc HW T.bH T.bN J0 I.mo T.bO .nil fB<|aa ao ag) (@ar _ _ _ _ _ (bc HW T.bH T.bN J0 I.mo T.bO .nil fB<|aa ao ag) (@ar _ _ _ _ _ (bc HW T.bH T.bN J0 I.mo T.bO .nil fB<|aa ao ag) ag M) M) M) IM<|aH _)
    (ax<|ay lT)
    aB) ?_
 intros
 refine aC (ay<|m7 (eW (AD K M I.u20) (bc HW T.bH T.bN J0 I.mo T.bO .nil fB<|aa ao ag) (az ag)<|aH _)<|kZ<|eW (Fg K M I.u20) (bc HW T.bH T.bN J0 I.mo T.bO .nil fB<|aa ao ag) (az<|aa ao ag)<|aH _) ?_
 intros
 refine λd dx nd b4 ne=>{d,dx,M,BB,λH1 G1 D1 f1=>{M,?_}};have f1:=x5 nd b4 f1 λb h=> .inl h;have keep:∀{H':Hp}{G':Kh},Fr (λ_=>False) G' H H'->HS K H' a (ns.map V.int):=λf=>kP hS λb o e=>(f b o id e).1;have c0:=Qi (ns.getD (0:Int).toNat 0) (show(4:Int)≠0 by decide);have c1:=Qh (ns.getD (0:Int).toNat 0) (show(0:Int)<4 by decide);let{n,en}:=QC c0;refine{_,M,a,ns,_,M,keep f1,(_),_,_,M,M,(by show(0:Int)<4;decide),?_};rw[en];refine{_,M,(),(),?_};rw[show((n:Int)).toNat=n from rfl];refine qH (n:=n) (lo:=0) (λi J H'=>∃(v:Option V)(G:Kh)(x:IK),J=[some (.ref a),some (.ref d),v,none,none,none]/\Iq K t H' d G x (pl i)/\Fr (λ_=>False) G H H'/\x.now=(i:Int)/\x.fl=0/\x.ma=0/\cV ((pl i).map (·.1))) {none,G1,_,M,D1,f1,M,M,M,XB} (λi J H' hi w=>?_)<|λJ H' w=>?_
 .let{v,G,x,rfl,D,f,e1,e2,e3,up}:=w;let{a5,h,c,hd}:=D.ob;obtain⟨k,hk⟩:∃k:Int,k=0+(i:Int):={_,M};rw[<-hk];have ek:k=(i:Int):=();let{_,_,l5,s5,r5}:=qu (n:=5*k) () ();let{_,_,l6,s6,r6}:=qu (n:= -(k+1)) () ();let{_,_,l7,s7,_}:=qu (n:=k+1) () ();have a7:=wO (n:=k+1) ();have u1:("put ":Str).length=4:=by decide+kernel
  have u2:(" -":Str).length=2:=by decide+kernel
  have big:1000<=sizeLine:=by decide
  have x1:("put ":Str).length+(nu<|5*k).length<=sizeLine:=();have x2:(("put ":Str)++nu (5*k)).length+(" -":Str).length<=sizeLine:=by rw[Str.length_append];lia
  have x3:(("put ":Str)++nu (5*k)++(" -":Str)).length+(nu<|k+1).length<=sizeLine:=by rw[Str.length_append,Str.length_append];lia
  refine{_,M,d,a5,_,M,hd,M,_,M,_,_,M,M,.inl (_),_,M,gK () (),_,_,M,M,x1,_,_,M,M,x2,_,M,_,_,M,M,_,M,gK () (),_,_,M,M,x3,?_};refine xJ (x1:=nu<|5*k) (x2:=("-":Str)++nu (k+1)) (k:=5*k) (v:= -(k+1)) D (CG ()) r5 (by rwa[a7]) {(),s5} (by rw[a7];exact{(),s6}) {(),(),(),()} up (Et ()) (by unfold pl;rw[Q0,List.length_range];lia) () λx' z1 z2 z3 z4 H2 G2 l2 D2 f2 _ _=>?_;have ep:pl i++ [(5*k,-(k+1))]=pl (i+1):=by rw[CT,ek]
  rw[ep]at D2 z4;exact{_,G2,x',M,D2,f.trans f2,by rw[z1,e1];lia,by rw[z2,e2],by rw[z3,e3],z4}
 let{v,G,x,rfl,D,f,e1,e2,e3,up}:=w;have a8:∀p∈pl n,p.1<70:=Et ();have b5:(pl n).length=n:=by unfold pl;rw[Q0,List.length_range]
 have ac:(pl n).length<1000:=();generalize pl n=ps at D up a8 b5 ac;change uO _ _ _ _ H';refine eI (λJ H''=>J=[some (.ref a),some (.ref d),v,none,none,none]/\H''=H') (λnx go=>go _ _ ⟨M,M⟩)<|λJ H'' w=>?_;let{rfl,rfl}:=w;refine eI (λJ H'=>∃(G:Kh),J=[some (.ref a),some (.ref d),v,none,none,none]/\Iq K t H' d G x ps/\Fr (λ_=>False) G H H') (λnx go=>?_)<|λJ H2 w=>?_
 .let{a5,h,c,hd}:=D.ob;refine{_,M,a,ns,_,M,keep f,(_),_,_,M,M,{(_),(_)},_,_,M,M,(by show(0:Int)<2;decide),M,_,M,dD (λ_=>?_)<|λ_=>go _ _ ⟨G,M,D,f⟩};exact{_,M,d,a5,_,M,hd,M,Ag D λH3 G3 l3 Y f3 _ _=>go _ _ {G3,M,Y,f.trans f3}}
 clear D f;let{G2,rfl,D,f}:=w;have b:0<=x.now/\x.now<100/\x.fl=0:={(),(),e2};let{Z,h2,af,O}:=D.ob;refine{_,M,d,Z,_,M,O,M,u7 D λH3 G3 l1 Y f3 n3 h3=>?_};let{a0,an,ap,S}:=Y.ob;refine{_,M,d,a0,_,M,S,M,xK Y b λH4 G4 l2 D4 f4 n4 h4=>?_};let{a6,ba,bb,a3}:=D4.ob;refine{_,M,d,a6,_,M,a3,M,uZ D4 λH5 G5 l3 D5 U n5 h5=>{(by show 3<=sizeLine;decide),λp np=>?_}};have g1:=f4 _ _ n3 h3;have fS:=Fr.of_same (F:=G5) (ae (o:= .lst [V.ref l1,.ref l2,.ref l3]) np);have a1:KJ (upd H5 p<|.lst [V.ref l1,.ref l2,.ref l3]) G5 p x ps:={l1,l2,l3,{BB,D5.out np},fS _ _ (U _ _ g1.2 g1.1).2 (U _ _ g1.2 g1.1).1,fS _ _ (U _ _ n4 h4).2 (U _ _ n4 h4).1,fS _ _ n5 h5};have D6:=D5.same (ae (o:= .lst [V.ref l1,.ref l2,.ref l3]) np);have f6:=((((f.trans f3).trans f4).trans U).trans fS);generalize upd H5 p (.lst [V.ref l1,.ref l2,.ref l3])=H6 at a1 D6 f6⊢;clear fS g1 h5 n5 h4 n4 h3 n3 U f4 f3 O S a3 Y D4 D5 np;refine{_,M,a,ns,M,keep f6,λH7 l w0 zs s7 nl hl R=>{_,M,l,a,ns,w0,zs,M,kP (keep f6) s7,hl,R,λH8 vr s8 nv=>?_}};have s9:=s7.trans s8;have D8:=D6.same s9;have bd:=s8 _ _ hl;have bj:=D6.out nl;have av:=a1.on (Fr.of_same s9);have f8:=f6.trans (Fr.of_same s9);refine{_,M,(_),(_),?_};refine qH (n:=2) (lo:=0) (λi J H'=>∃(u:Option V)(G:Kh),J=[some (.ref a),some (.ref d),v,some (.ref p),some vr,u]/\Iq K t H' d G x ps/\KJ H' G p x ps/\H' l=some (.lst<|(w0::zs).map V.str)/\¬G l) ⟨none,G5,M,D8,av,bd,bj⟩ (λi J H' hi w=>?_)<|λJ H' w=>?_
 .let{u,G,rfl,D,a1,hl,ng}:=w;refine{_,M,_,M,d,vr,G,x,ps,M,D,nv.row hl,λH2 s2=>{_,M,cX ?_}};have D2:=D.same s2;have q2:=Fr.of_same (F:=G) s2;let{Z,h2,af,O}:=D2.ob;refine{_,M,d,Z,_,M,O,M,u7 D2 λH3 G3 l1 Y f3 n3 h3=>?_};let{a0,an,ap,S}:=Y.ob;refine{_,M,d,a0,_,M,S,M,xK Y b λH4 G4 l2 D4 f4 n4 h4=>?_};let{a6,ba,bb,a3}:=D4.ob;refine{_,M,d,a6,_,M,a3,M,uZ D4 λH5 G5 l3 D5 U n5 h5=>{(by show 3<=sizeLine;decide),λp2 np=>?_}};have g1:=f4 _ _ n3 h3;have fS:=Fr.of_same (F:=G5) (ae (o:= .lst [V.ref l1,.ref l2,.ref l3]) np);have a4:KJ (upd H5 p2<|.lst [V.ref l1,.ref l2,.ref l3]) G5 p2 x ps:={l1,l2,l3,{BB,D5.out np},fS _ _ (U _ _ g1.2 g1.1).2 (U _ _ g1.2 g1.1).1,fS _ _ (U _ _ n4 h4).2 (U _ _ n4 h4).1,fS _ _ n5 h5};have D6:=D5.same (ae (o:= .lst [V.ref l1,.ref l2,.ref l3]) np);have f6:=((((q2.trans f3).trans f4).trans U).trans fS);have a2:=a1.on f6;let{b3,bl}:=f6 _ _ ng hl;generalize upd H5 p2 (.lst [V.ref l1,.ref l2,.ref l3])=H6 at a4 a2 D6 b3⊢;have ak:=KJ.alk (K:=K) a4 a2;rcases ak with⟨z,_⟩|⟨a',b',xs,ys,ea,eb,sq,le,al⟩
  .exact Xd z id
  cases ea;cases eb;exact{_,M,p2,p,xs,ys,M,M,sq,le,al,_,M,cX {_,G5,M,D6,a2,b3,bl}}
 let{u,G,rfl,D,a1,hl,ng}:=w;let{Z,h2,af,O}:=D.ob;refine{_,M,d,Z,_,M,O,M,xJ (x1:=("70":Str)) (x2:=("0":Str)) (k:=70) (v:=0) D ∅ ∅ ∅ ∅ ∅ {(_),(_),(_),(_)} up a8 ac () λx' _ _ _ _ H2 G2 l2 D2 f2 n2 h2=>{(by show 0<=sizeLine;decide),λr nr=>{l2,r,_,M,M,HS.of<|ae nr _ _ h2,HS.of BB,_,M,cT ?_}}};have Y:=D2.same (ae (o:= .lst []) nr);let{a0,an,ap,S}:=Y.ob;refine{_,M,d,a0,_,M,S,M,CA Y (Qj _ Q6) λH4 G4 l4 D4 f4 n4 h4=>{(by show 1<=sizeLine;decide),λr2 bo=>?_}};exact{l4,r2,[.str ("0":Str)],M,M,HS.of<|ae bo _ _ h4,HS.of BB,λv m=>by rw[Q9.mp m];exact Xn,q _}
end
end SW
namespace ZK
open PySem PySem.W SW L2
def fM{P:Params}{x qual:Str}{st:Stmt}{a:B'}{kV I O z ct:Kb}{S:Kg}(l:(K P).lookup a=some (f<|D x qual st N kV I O S z ct):=by kernel_rfl)(c:codeIn (K P) z qual=true:=by kernel_rfl)(k:keepIn (K P) (.ref a)=true:=by kernel_rfl):IF (K P) x qual st a (D x qual st N kV I O S z ct):=FN l c k
def nA{P:Params}{C:B'}{x:Str}(h:findIn (K P) (.ref C) x=some none:=by kernel_rfl):HR (K P) C x:=h
def fT{P:Params}{x qual:Str}{st:Stmt}{a b:B'}{kV I O z ct:Kb}{S:Kg}(l:(K P).lookup a=some (f<|D x qual st (R b) kV I O S z ct):=by kernel_rfl)(c:codeIn (K P) z qual=true:=by kernel_rfl)(k:keepIn (K P) (.ref a)=true:=by kernel_rfl):Gh (K P) x qual st b a (D x qual st (R b) kV I O S z ct):=ye l c k
def fU{P:Params}{x qual:Str}{st:Stmt}{a b:B'}{kV I O z ct:Kb}{S:Kg}(l:(K P).lookup a=some (f<|D x qual st (R b) kV I O S z ct):=by kernel_rfl)(c:codeIn (K P) z qual=true:=by kernel_rfl)(k:keepIn (K P) (.ref a)=true:=by kernel_rfl):JY (K P) x qual st a (D x qual st (R b) kV I O S z ct):=(ye l c k).1
def Gc{P:Params}:(K P).lookup 257=some {(T cs),none,.seq #[(.int 0 511),(.int 65536 512)] 0, #[]}:=by kernel_rfl
def Gb{P:Params}:(K P).lookup 284=some {(T cs),none,.seq #[(.int 0 546),N] 0, #[]}:=by kernel_rfl
def Ga{P:Params}:(K P).lookup 311=some {(T cs),none,.seq #[N,(.int 0 580)] 0, #[]}:=by kernel_rfl
def T431{P:Params}:(K P).lookup 431=some {(T cs),none,.seq #[N] 0, #[]}:=by kernel_rfl
def T837{P:Params}:(K P).lookup 837=some {(T cs),none,.seq #[(.int 0 1271)] 0, #[]}:=by kernel_rfl
end ZK
namespace SW
open PySem L2
set_option maxHeartbeats 0
variable{α:Type}{YP:World->Heap->Prop}
def us1{us:List α}(hl:us.length=1):∃z,us=[z]:=by rcases us with _|⟨z,_|⟨y,t⟩⟩<;>first|exact{_,M}|simp at hl
def us2{us:List α}(hl:us.length=2):∃z x1,us=[z,x1]:=by rcases us with _|⟨z,_|⟨x1,_|⟨y,t⟩⟩⟩<;>first|exact{_,_,M}|simp at hl
def us3{us:List α}(hl:us.length=3):∃z x1 x2,us=[z,x1,x2]:=by rcases us with _|⟨z,_|⟨x1,_|⟨x2,_|⟨y,t⟩⟩⟩⟩<;>first|exact{_,_,_,M}|simp at hl
def us4{us:List α}(hl:us.length=4):∃z x1 x2 I,us=[z,x1,x2,I]:=by rcases us with _|⟨z,_|⟨x1,_|⟨x2,_|⟨I,_|⟨y,t⟩⟩⟩⟩⟩<;>first|exact{_,_,_,_,M}|simp at hl
open ZK in
def txt{w:Kj}{h:Heap}{mg:Kq}(X:(ZK.K w.params).In h)(G:h.Ns mainGlobals mg):Txt (ZK.K w.params) mg ZK.t w:=by
 constructor
 case g_PLACES=>exact{382,QK X G<|by kernel_rfl}
 case g_MOST_IN_LEAF=>exact{868,QK X G<|by kernel_rfl}
 case g_LEAST_SIZE=>exact{1042,QK X G<|by kernel_rfl}
 case g_GREATEST_SIZE=>exact{1044,QK X G<|by kernel_rfl}
 case g_FIGURES=>exact{1380,QK X G<|by kernel_rfl}
 case g_MOST_FIGURES=>exact{1382,QK X G<|by kernel_rfl}
 case g_WORDS_OF_TOKEN=>exact{1384,QK X G<|by kernel_rfl}
 case g_MOST_KEYS=>exact{1495,QK X G<|by kernel_rfl}
 case kt_FORMS_put=>exact{960,by kernel_rfl,λH=> .inr {_,_,_,(show(ZK.K w.params).lookup 960=some {.type cs,none,.seq #[(S iA 1437),(S hH 1438)] 0, #[]} by kernel_rfl),M,M,(_),(.cons {_,M}<|.cons {_,M} .nil)}}
 case kt_FORMS_get=>exact{962,by kernel_rfl,λH=> .inr {_,_,_,(show(ZK.K w.params).lookup 962=some {.type cs,none,.seq #[(S iA 1444)] 0, #[]} by kernel_rfl),M,M,(_),(.cons {_,M} .nil)}}
 case kt_FORMS_many=>exact{963,by kernel_rfl,λH=> .inr {_,_,_,(show(ZK.K w.params).lookup 963=some {.type cs,none,.seq #[] 0, #[]} by kernel_rfl),M,M,(_),.nil}}
 case kt_FORMS_now=>exact{968,by kernel_rfl,λH=> .inr {_,_,_,(show(ZK.K w.params).lookup 968=some {.type cs,none,.seq #[] 0, #[]} by kernel_rfl),M,M,(_),.nil}}
 case kt_FORMS_copy=>exact{971,by kernel_rfl,λH=> .inr {_,_,_,(show(ZK.K w.params).lookup 971=some {.type cs,none,.seq #[(S cj 1471)] 0, #[]} by kernel_rfl),M,M,(_),(.cons {_,M} .nil)}}
 case kt_FORMS_keep=>exact{981,by kernel_rfl,λH=> .inr {_,_,_,(show(ZK.K w.params).lookup 981=some {.type cs,none,.seq #[] 0, #[]} by kernel_rfl),M,M,(_),.nil}}
 case kt_FORMS_drop=>exact{961,by kernel_rfl,λH=> .inr {_,_,_,(show(ZK.K w.params).lookup 961=some {.type cs,none,.seq #[(S iA 1441)] 0, #[]} by kernel_rfl),M,M,(_),(.cons {_,M} .nil)}}
 case kt_FORMS_page=>exact{964,by kernel_rfl,λH=> .inr {_,_,_,(show(ZK.K w.params).lookup 964=some {.type cs,none,.seq #[(S cj 1449),(S gt 1450)] 0, #[]} by kernel_rfl),M,M,(_),(.cons {_,M}<|.cons {_,M} .nil)}}
 case kt_FORMS_hold=>exact{965,by kernel_rfl,λH=> .inr {_,_,_,(show(ZK.K w.params).lookup 965=some {.type cs,none,.seq #[] 0, #[]} by kernel_rfl),M,M,(_),.nil}}
 case kt_FORMS_free=>exact{966,by kernel_rfl,λH=> .inr {_,_,_,(show(ZK.K w.params).lookup 966=some {.type cs,none,.seq #[(S hQ 1455)] 0, #[]} by kernel_rfl),M,M,(_),(.cons {_,M} .nil)}}
 case kt_FORMS_sweep=>exact{967,by kernel_rfl,λH=> .inr {_,_,_,(show(ZK.K w.params).lookup 967=some {.type cs,none,.seq #[] 0, #[]} by kernel_rfl),M,M,(_),.nil}}
 case kt_FORMS_at=>exact{969,by kernel_rfl,λH=> .inr {_,_,_,(show(ZK.K w.params).lookup 969=some {.type cs,none,.seq #[(S iA 1462),(S hQ 1463)] 0, #[]} by kernel_rfl),M,M,(_),(.cons {_,M}<|.cons {_,M} .nil)}}
 case kt_FORMS_past=>exact{970,by kernel_rfl,λH=> .inr {_,_,_,(show(ZK.K w.params).lookup 970=some {.type cs,none,.seq #[(S hQ 1466),(S cj 1467),(S gt 1468)] 0, #[]} by kernel_rfl),M,M,(_),(.cons {_,M}<|.cons {_,M}<|.cons {_,M} .nil)}}
 case kt_FORMS_open=>exact{972,by kernel_rfl,λH=> .inr {_,_,_,(show(ZK.K w.params).lookup 972=some {.type cs,none,.seq #[] 0, #[]} by kernel_rfl),M,M,(_),.nil}}
 case kt_FORMS_read=>exact{973,by kernel_rfl,λH=> .inr {_,_,_,(show(ZK.K w.params).lookup 973=some {.type cs,none,.seq #[(S gt 1476)] 0, #[]} by kernel_rfl),M,M,(_),(.cons {_,M} .nil)}}
 case kt_FORMS_close=>exact{974,by kernel_rfl,λH=> .inr {_,_,_,(show(ZK.K w.params).lookup 974=some {.type cs,none,.seq #[] 0, #[]} by kernel_rfl),M,M,(_),.nil}}
 case kt_FORMS_follow=>exact{975,by kernel_rfl,λH=> .inr {_,_,_,(show(ZK.K w.params).lookup 975=some {.type cs,none,.seq #[(S "STEPS" 1481)] 0, #[]} by kernel_rfl),M,M,(_),(.cons {_,M} .nil)}}
 case kt_FORMS_show=>exact{976,by kernel_rfl,λH=> .inr {_,_,_,(show(ZK.K w.params).lookup 976=some {.type cs,none,.seq #[] 0, #[]} by kernel_rfl),M,M,(_),.nil}}
 case kt_FORMS_covers=>exact{978,by kernel_rfl,λH=> .inr {_,_,_,(show(ZK.K w.params).lookup 978=some {.type cs,none,.seq #[(S iA 1486)] 0, #[]} by kernel_rfl),M,M,(_),(.cons {_,M} .nil)}}
 case kt_FORMS_total=>exact{979,by kernel_rfl,λH=> .inr {_,_,_,(show(ZK.K w.params).lookup 979=some {.type cs,none,.seq #[] 0, #[]} by kernel_rfl),M,M,(_),.nil}}
 case kt_FORMS_stop=>exact{980,by kernel_rfl,λH=> .inr {_,_,_,(show(ZK.K w.params).lookup 980=some {.type cs,none,.seq #[] 0, #[]} by kernel_rfl),M,M,(_),.nil}}
 all_goals first
  |exact ZK.fM
  |exact QK X G<|by kernel_rfl
  |exact{(by kernel_rfl),(by kernel_rfl),(by kernel_rfl),(by kernel_rfl)}
  |exact ZK.nA
  |exact .all λus hl=>by let{_,_,rfl}:=us2 hl;rfl
  |exact .all λus hl=>by let{_,rfl}:=us1 hl;rfl
  |exact{(by kernel_rfl),(by kernel_rfl),(by kernel_rfl)}
  |exact PySem.W.mg_none_of X G<|by kernel_rfl
  |exact AZ (by kernel_rfl) (by kernel_rfl) (by kernel_rfl)<|λz=>Xd z (_)
  |exact{{_,_,_,_,_,_,_,_,_,_,_,_,_,_,{_}},{[ZK.t.aZ],M},(by kernel_rfl),(by kernel_rfl),(by kernel_rfl),(by kernel_rfl)}
  |exact .all λus hl=>by let{_,_,_,rfl}:=us3 hl;rfl
  |exact ZK.fU
  |exact{{21,by kernel_rfl},∅,∅}
  |exact .all λus hl=>by let{_,_,_,_,rfl}:=us4 hl;rfl
  |exact eG (ds:=[]) 2 M (fT (a:=844)) T837 λ_ _ _ _ _ _ us hl=>by let{_,_,rfl}:=us2 hl;exact{_,M,M}
  |exact eG (ds:=[]) 3 M (fT (a:=264)) Gc λ_ _ _ _ _ _ us hl=>by let{_,_,_,rfl}:=us3 hl;exact{_,M,M}
  |exact eG (ds:=[]) 3 M (fT (a:=291)) Gb λ_ _ _ _ _ _ us hl=>by let{_,_,_,rfl}:=us3 hl;exact{_,M,M}
  |exact eG (ds:=[]) 3 M (fT (a:=318)) Ga λ_ _ _ _ _ _ us hl=>by let{_,_,_,rfl}:=us3 hl;exact{_,M,M}
  |exact eG (ds:=[]) 4 M (fT (a:=438)) T431 λ_ _ _ _ _ _ us hl=>by let{_,_,_,_,rfl}:=us4 hl;exact{_,M,M}
  |exact λH=> .inr {_,_,_,(show(ZK.K w.params).lookup 1162=some {.type cs,none,.seq #[(S "open" 1755),(S rr 1756),(S "close" 1757),(S "follow" 1758),(S "show" 1759),(S "covers" 1760),(S "total" 1761),(S "stop" 1762)] 0, #[]} by kernel_rfl),M,M,(_),(.cons {_,M}<|.cons {_,M}<|.cons {_,M}<|.cons {_,M}<|.cons {_,M}<|.cons {_,M}<|.cons {_,M}<|.cons {_,M} .nil)}
  |exact AZ (by kernel_rfl) (by kernel_rfl) (by kernel_rfl)<|λ_=>M
  |exact{_,eG (ds:=[(.int 0 1271)]) 1 M (fT (a:=844)) T837 λ_ _ _ _ _ _ us hl=>by let{_,rfl}:=us1 hl;exact{_,M,M},(.cons {_,M} .nil)}
  |exact{_,eG (ds:=[(.int 0 511),(.int 65536 512)]) 1 M (fT (a:=264)) Gc λ_ _ _ _ _ _ us hl=>by let{_,rfl}:=us1 hl;exact{_,M,M},(.cons {_,M}<|.cons {_,M} .nil)}
  |exact{_,eG (ds:=[(.int 0 546),N]) 1 M (fT (a:=291)) Gb λ_ _ _ _ _ _ us hl=>by let{_,rfl}:=us1 hl;exact{_,M,M},(.cons {_,M}<|.cons M .nil)}
  |exact{_,eG (ds:=[(.int 0 580)]) 2 M (fT (a:=318)) Ga λ_ _ _ _ _ _ us hl=>by let{_,_,rfl}:=us2 hl;exact{_,M,M},(.cons {_,M} .nil)}
  |exact{_,eG (ds:=[(.int 65536 512)]) 2 M (fT (a:=264)) Gc λ_ _ _ _ _ _ us hl=>by let{_,_,rfl}:=us2 hl;exact{_,M,M},(.cons {_,M} .nil)}
  |exact{_,eG (ds:=[N,(.int 0 580)]) 1 M (fT (a:=318)) Ga λ_ _ _ _ _ _ us hl=>by let{_,rfl}:=us1 hl;exact{_,M,M},(.cons M<|.cons {_,M} .nil)}
  |exact{_,eG (ds:=[N]) 2 M (fT (a:=291)) Gb λ_ _ _ _ _ _ us hl=>by let{_,_,rfl}:=us2 hl;exact{_,M,M},(.cons M .nil)}
  |exact{_,eG (ds:=[N]) 3 M (fT (a:=438)) T431 λ_ _ _ _ _ _ us hl=>by let{_,_,_,rfl}:=us3 hl;exact{_,M,M},(.cons M .nil)}
  |exact{{_,_,_,_,_,_,_,_,_,_,_,_,_,_,{_}},{[],M},(by kernel_rfl),(by kernel_rfl),(by kernel_rfl),(by kernel_rfl)}
  |exact(by kernel_rfl)
def walk{l:PySem.W.OpenLaw}{q:Ki}{loose:Kc}{XP:(Str->Option Value)->Heap->Prop}{d:DefRec}{K:Params->J5}(S:l.most=some 63)(I:d.params.defaults=[])
  (U:∀(w:World)(h:Heap),YP w h->(K w.params).In h) (hd:d.name="law")
  (F:∀(w:World)(mg:Str->Option Value)(h:Heap),(K w.params).In h->h.Ns mainGlobals mg->∃t,Txt (K w.params) mg t w):
  PySem.W.WalkO q loose XP YP l.row.toRowW d [] (λf vs=>PySem.call f vs):=by
 refine L2.walk_of (n:=63) (k:=11) (x:=cx) (CX:=λ_=>IQ) (sp:=λw=>Ae<|K w.params) S (_) I {M,(_),(_)} U (λw mg fa h Y G O=>?_) (λ_ _ a ns hl _ Z=>{a,ns,M,Z,hl,λ_=>M}) λ_ _ _ _ _ z=>z;let{t,T}:=F w mg h Y G;have e:=O.symm.trans ((Xo mg hd).trans T.HQ);cases e;let{oc,od,kV,a0,pm,an,a1,ct,a2,e1,lk,a3}:=T.HA.ex;refine{t.yi,λs u=>?_,λbase _ _=>Fh T};rw[e1];exact .of_eq M
end SW
open PySem PySem.W PyProof.Rows
set_option maxRecDepth 100000 in
set_option maxHeartbeats 0 in
theorem PySem.Challenge.cw_staywalk_k71_what_is_no_row_holds : PySem.Challenge.rw_staywalk_k71_what_is_no_row.Holds := by
 w_on
 refine holds_law ZK.said λsaid=>?_;refine holds_open (q:=ZK.q) (loose:=ZK.L) (Xt:=λs=>xlAt ZK.q [] s&&recOk (RowW.records<|OpenRow.toRowW<|OpenLaw.row PySem.Challenge.rw_staywalk_k71_what_is_no_row) s) (XP:=XL ZK.q []) (Yf:=Hook.obs ZK.H) (Ya:=Hook.val ZK.H) (YP:=Hook.says ZK.H) ZK.left (Hook.of ZK.H) (Hook.keeps ZK.H) (λs e=>xl_of s (Bool.and_eq_true_iff.mp e).1) XL.keeps {_} {_} {_} (λs e=>recFacts_of (Bool.and_eq_true_iff.mp e).2) {_} (by first|assumption|decide+kernel) ∅ ⟨M,M,M,M,M,∅⟩ ?hw ?hc
 (case hw=>w_witness2)
 exact SW.walk (l:=PySem.Challenge.rw_staywalk_k71_what_is_no_row) M M (λw h Y=>kIn_of Y) M λw mg h KX G=>⟨_,SW.txt KX G⟩
#print axioms PySem.Challenge.cw_staywalk_k71_what_is_no_row_holds
