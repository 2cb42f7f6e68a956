import PyProof.Rows.All
import Wide.All
import OpenK.AllK
import Wide.FinOn
import Lean
import PyProof.EqAt
import PyProof.EqKinds
import PyProof.TupleCall
import PyProof.NeKinds
import PyProof.CompMap
import PyProof.EnumFor
import PyProof.EnumMake
import KE.KDictSum
import PyProof.Rows.StrWeight2
import KE.KPairComp
import KE.KRevIter
import PyProof.DictWalks
import KE.KDictOf
import PySem.Challenge.RW_staywalk_k24_whole_walked_by_leaves
set_option Elab.async false
set_option linter.all false
set_option maxRecDepth 100000
namespace L2
open PySem PySem.Spec PyProof.Rows

abbrev Key := Sum Int Str
def keyIs : Key → Value → Bool
  | .inl k, v => Value.isInt k v
  | .inr x, v => Value.isStrOf x v
def keyH (w : World) : Key → Int
  | .inl k => hashInt k
  | .inr x => hashStr w x
theorem keyIs_shape : ∀ {k : Key} {v : Value}, keyIs k v = true → (∃ i t, k = Sum.inl i ∧ v = Value.int i t) ∨ (∃ x t, k = Sum.inr x ∧ v = Value.str x t)
  | .inl i, v, h => by
    obtain ⟨t, e⟩ := Value.isInt_shape (k := i) (v := v) h
    exact .inl ⟨i, t, rfl, e⟩
  | .inr x, v, h => by
    obtain ⟨t, e⟩ := Value.isStrOf_shape (x := x) (v := v) h
    exact .inr ⟨x, t, rfl, e⟩
theorem keyIs_int (i : Int) (t : Tok) : keyIs (.inl i) (.int i t) = true := by simp [keyIs, Value.isInt]
theorem keyIs_str (x : Str) (t : Tok) : keyIs (.inr x) (.str x t) = true := by simp [keyIs, Value.isStrOf]
theorem key_ll (a b : Int) : decide ((Sum.inl a : Key) = Sum.inl b) = (a == b) := by
  by_cases e : a = b
  · subst e; simp
  · have h : ¬ (Sum.inl a : Key) = Sum.inl b := fun q => e (Sum.inl.inj q)
    rw [decide_eq_false h]
    exact (beq_eq_false_iff_ne.mpr e).symm
theorem key_rr (a b : Str) : decide ((Sum.inr a : Key) = Sum.inr b) = decide (a = b) := by
  by_cases e : a = b
  · subst e; simp
  · have h : ¬ (Sum.inr a : Key) = Sum.inr b := fun q => e (Sum.inr.inj q)
    rw [decide_eq_false h, decide_eq_false e]
theorem key_lr (a : Int) (b : Str) : decide ((Sum.inl a : Key) = Sum.inr b) = false := decide_eq_false (fun q => nomatch q)
theorem key_rl (a : Str) (b : Int) : decide ((Sum.inr a : Key) = Sum.inl b) = false := decide_eq_false (fun q => nomatch q)

def mixKind (prog : Program) (w : World) : PySem.KeyKind prog w Key where
  is := keyIs
  hash := keyH w
  inj := fun v a b ha hb => by
    rcases keyIs_shape ha with ⟨i, t, rfl, rfl⟩ | ⟨x, t, rfl, rfl⟩
    · rcases keyIs_shape hb with ⟨j, u, rfl, e⟩ | ⟨y, u, rfl, e⟩
      · injection e with e1 _; rw [e1]
      · exact nomatch e
    · rcases keyIs_shape hb with ⟨j, u, rfl, e⟩ | ⟨y, u, rfl, e⟩
      · exact nomatch e
      · injection e with e1 _; rw [e1]
  byValue := fun k v h => by
    rcases keyIs_shape h with ⟨i, t, rfl, rfl⟩ | ⟨x, t, rfl, rfl⟩ <;> rfl
  pyHash := fun hv h => by
    rcases keyIs_shape hv with ⟨i, t, rfl, rfl⟩ | ⟨x, t, rfl, rfl⟩
    · exact wpAny_pyHash_int h
    · exact wpAny_pyHash_str h
  eqBool := fun hu hv h => by
    rcases keyIs_shape hu with ⟨i, t, rfl, rfl⟩ | ⟨x, t, rfl, rfl⟩
    · rcases keyIs_shape hv with ⟨j, u, rfl, rfl⟩ | ⟨y, u, rfl, rfl⟩
      · rw [key_ll] at h; exact wpAny_eqBool_int h
      · rw [key_lr] at h; exact SeqAt.EqAt.int_str i t y u _ _ _ _ h
    · rcases keyIs_shape hv with ⟨j, u, rfl, rfl⟩ | ⟨y, u, rfl, rfl⟩
      · rw [key_rl] at h; exact SeqAt.EqAt.str_int x t j u _ _ _ _ h
      · rw [key_rr] at h; exact wpAny_eqBool_str h
  «strs» := fun k x t v h => by
    rcases keyIs_shape h with ⟨i, u, rfl, e⟩ | ⟨y, u, rfl, e⟩
    · exact nomatch e
    · injection e with e1 _
      subst e1
      cases v <;> rfl

theorem mixKind_is (prog : Program) (w : World) (k : Key) (v : Value) : (mixKind prog w).is k v = keyIs k v := rfl
theorem mixKind_int (prog : Program) (w : World) (i : Int) (t : Tok) : (mixKind prog w).is (.inl i) (.int i t) = true := keyIs_int i t
theorem mixKind_str (prog : Program) (w : World) (x : Str) (t : Tok) : (mixKind prog w).is (.inr x) (.str x t) = true := keyIs_str x t
end L2

namespace L2
open PySem PySem.Spec PyProof.Rows

inductive V where
  | non | bl (b : Bool) | int (i : Int) | str (x : Str) | byt (b : Array UInt8) | flt (b : UInt64) | ref (a : Addr) | ty (n : String)
  deriving DecidableEq

def RelV : V → Value → Prop
  | .non, u => u = Value.none
  | .bl b, u => u = Value.bool b
  | .int i, u => ∃ t, u = Value.int i t
  | .str x, u => ∃ t, u = Value.str x t
  | .byt b, u => ∃ t, u = Value.bytes b t
  | .flt b, u => ∃ t, u = Value.float b t
  | .ref a, u => u = Value.ref a
  | .ty n, u => u = Value.type n

abbrev Vals : List V → List Value → Prop := Paired RelV
theorem Vals.length {xs : List V} {us : List Value} (r : Vals xs us) : xs.length = us.length := Paired.length r
theorem Vals.get : ∀ {xs : List V} {us : List Value} {i : Nat} {x : V}, Vals xs us → xs[i]? = some x → ∃ u, us[i]? = some u ∧ RelV x u
  | _, _, _, _, .nil, e => by simp at e
  | _, _, 0, _, .cons r _, e => by simp at e; subst e; exact ⟨_, rfl, r⟩
  | _, _, i + 1, x, .cons _ t, e => by
    obtain ⟨u, h1, h2⟩ := Vals.get (i := i) (x := x) t (by simpa using e)
    exact ⟨u, by simpa using h1, h2⟩
theorem Vals.set {x : V} {u : Value} (r : RelV x u) : ∀ {xs : List V} {us : List Value} (i : Nat), Vals xs us → Vals (xs.set i x) (us.set i u)
  | _, _, _, .nil => .nil
  | _, _, 0, .cons _ t => .cons r t
  | _, _, i + 1, .cons q t => .cons q (Vals.set r i t)
theorem Vals.append : ∀ {xs ys : List V} {us ws : List Value}, Vals xs us → Vals ys ws → Vals (xs ++ ys) (us ++ ws)
  | _, _, _, _, .nil, s => s
  | _, _, _, _, .cons r t, s => .cons r (Vals.append t s)
theorem Vals.take : ∀ {xs : List V} {us : List Value} (n : Nat), Vals xs us → Vals (xs.take n) (us.take n)
  | _, _, 0, _ => .nil
  | _, _, _ + 1, .nil => .nil
  | _, _, n + 1, .cons r t => .cons r (Vals.take n t)
theorem Vals.drop : ∀ {xs : List V} {us : List Value} (n : Nat), Vals xs us → Vals (xs.drop n) (us.drop n)
  | _, _, 0, r => r
  | _, _, _ + 1, .nil => .nil
  | _, _, n + 1, .cons _ t => Vals.drop n t
def RelO : Option V → Option Value → Prop
  | some v, some u => RelV v u
  | none, none => True
  | _, _ => False
def KV {κ : Type} : List (κ × V) → List (κ × Value) → Prop := Paired fun (p : κ × V) (q : κ × Value) => p.1 = q.1 ∧ RelV p.2 q.2

def kV : Key → V
  | .inl i => .int i
  | .inr x => .str x

inductive HO where
  | lst (xs : List V)
  | tup (xs : List V)
  | dK (kvs : List (Key × V)) | dT (kvs : List (List Key × V))
  | set (S : Int → Bool) (n : Nat)
  | ins (C dx : Addr) (fs : List (Str × V))
  | own (x : Addr)
  | xd (fs : List (Str × V))
  | met (f x : Addr)
  | rng (lo hi : Int)
  | frz (o : Obj) (u : HO)
  | tbl (ps : Array Value)
  | ext (φ : Heap → Prop)

abbrev Hp := Addr → Option HO
def upd (H : Hp) (a : Addr) (o : HO) : Hp := fun b => if b = a then some o else H b
theorem upd_same {H : Hp} {a : Addr} {o : HO} : upd H a o a = some o := by unfold upd; rw [if_pos rfl]
theorem upd_ne {H : Hp} {a b : Addr} {o : HO} (h : b ≠ a) : upd H a o b = H b := by unfold upd; rw [if_neg h]
theorem upd_upd {H : Hp} {a : Addr} {o u : HO} : upd (upd H a o) a u = upd H a u := by
  funext b; unfold upd; split <;> rfl
theorem ne_of {H : Hp} {a b : Addr} {o u : HO} (h : H a = some o) (h' : H b = some u) (d : o ≠ u) : a ≠ b := by
  intro e; subst e; rw [h] at h'; exact d (Option.some.inj h')
theorem ne_of_none {H : Hp} {a b : Addr} {o : HO} (h : H a = some o) (h' : H b = none) : a ≠ b := by
  intro e; subst e; rw [h] at h'; cases h'

section
variable (P : Program) (w : World)
def ObjOk (H : Hp) (h : Heap) (a : Addr) : HO → Prop
  | .lst xs => xs.length ≤ sizeLine ∧ ∃ (its : List Value) (n : Nat), Vals xs its ∧ h.get? a = some { cls := .type "list", data := .seq its.toArray n }
  | .tup xs => xs.length ≤ sizeLine ∧ ∃ its : List Value, Vals xs its ∧ IsTup h a its.toArray
  | .dK kvs => kvs.length ≤ sizeLine ∧ (a == sysModules) = false ∧ ∃ vs, KV kvs vs ∧ h.DictOf (mixKind P w) a vs
  | .dT kvs => kvs.length ≤ sizeLine ∧ (a == sysModules) = false ∧ ∃ xs : List (List Key × Addr × Value),
      Paired (fun (p : List Key × V) (q : List Key × Addr × Value) => p.1 = q.1 ∧ H q.2.1 = some (.tup (p.1.map kV)) ∧ RelV p.2 q.2.2) kvs xs ∧
      ∃ o es ep, h.get? a = some o ∧ o.ExactDict ∧ o.data = .dict es ep ∧ es.toList = xs.map (entryOfKey (tupleKind (mixKind P w))) ∧ (xs.map (·.1)).Nodup
  | .set S n => h.SetOf (intKind P w) a S n
  | .ins C dx fs => H dx = some (.own a) ∧ fs.length ≤ 1000 ∧ dx ≠ a ∧ h.get? a = some (PySem.W.instObj C dx) ∧
      ∃ mA, h.Ns1 dx mA ∧ (∀ f, RelO (fs.lookup f) (mA f)) ∧ PySem.Within mA (fs.map (·.1))
  | .own _ => ∃ o, h.get? a = some o
  | .xd fs => ∃ mA, h.Ns1 a mA ∧ ∀ f, RelO (fs.lookup f) (mA f)
  | .rng lo hi => ∃ t u v, h.get? a = some { cls := .type "range", data := .fields #[.int lo t, .int hi u, .int 1 v] }
  | .frz o u => h.get? a = some o ∧ ObjOk H h a u
  | .tbl ps => h.get? a = some { cls := .none, data := .fields ps }
  | .met f x => h.get? a = some (PySem.W.methodObj (.ref f) (.ref x))
  | .ext φ => φ h ∧ (∃ o, h.get? a = some o) ∧ ∀ h1 h2 : Heap, φ h1 → (∀ o, h1.get? a = some o → h2.get? a = some o) → φ h2
def HOk (H : Hp) (h : Heap) : Prop := ∀ a o, H a = some o → ObjOk P w H h a o
end

section
variable {P : Program} {w : World} {H H' : Hp} {h h' : Heap} {a : Addr} {o : HO}
theorem ObjOk.lt (x : ObjOk P w H h a o) : a < h.objs.size := by
  cases o with
  | lst xs => obtain ⟨_, _, _, _, e⟩ := x; exact Heap.lt_size e
  | tup xs => obtain ⟨_, _, _, p⟩ := x; exact p.lt
  | dK kvs => obtain ⟨_, _, _, _, o, _, _, e, _⟩ := x; exact Heap.lt_size e
  | dT kvs => obtain ⟨_, _, _, _, o, _, _, e, _⟩ := x; exact Heap.lt_size e
  | set S n => obtain ⟨o, _, _, _, e, _⟩ := x; exact Heap.lt_size e
  | ins C dx fs => obtain ⟨_, _, _, e, _⟩ := x; exact Heap.lt_size e
  | own y => obtain ⟨_, e⟩ := x; exact Heap.lt_size e
  | xd fs => obtain ⟨_, ⟨_, _, _, e, _⟩, _⟩ := x; exact Heap.lt_size e
  | rng lo hi => obtain ⟨_, _, _, e⟩ := x; exact Heap.lt_size e
  | frz ob u => obtain ⟨e, _⟩ := x; exact Heap.lt_size e
  | tbl ps => exact Heap.lt_size (show h.get? a = some _ from x)
  | met f y => exact Heap.lt_size (show h.get? a = some _ from x)
  | ext φ => obtain ⟨_, ⟨_, e⟩, _⟩ := x; exact Heap.lt_size e
theorem Paired.mapP {α β : Type} {F G : α → β → Prop} : ∀ {l₁ : List α} {l₂ : List β}, Paired F l₁ l₂ → (∀ a b, F a b → G a b) → Paired G l₁ l₂
  | _, _, .nil, _ => .nil
  | _, _, .cons r t, f => .cons (f _ _ r) (Paired.mapP t f)
theorem ObjOk.stay (x : ObjOk P w H h a o) (k : ∀ b u, (b = a ∨ H b = some (.own a)) → h.get? b = some u → h'.get? b = some u)
    (ho : ∀ b, H b = some (.own a) → H' b = some (.own a)) (ht : ∀ b xs, H b = some (.tup xs) → H' b = some (.tup xs)) : ObjOk P w H' h' a o := by
  induction o with
  | lst xs => obtain ⟨z, its, n, r, e⟩ := x; exact ⟨z, its, n, r, k _ _ (.inl rfl) e⟩
  | tup xs => obtain ⟨z, its, r, ob, e, c⟩ := x; exact ⟨z, its, r, ob, k _ _ (.inl rfl) e, c⟩
  | dK kvs => obtain ⟨z, y, vs, r, ob, es, ep, e, c⟩ := x; exact ⟨z, y, vs, r, ob, es, ep, k _ _ (.inl rfl) e, c⟩
  | dT kvs =>
    obtain ⟨z, y, xs, r, ob, es, ep, e, c⟩ := x
    exact ⟨z, y, xs, Paired.mapP r fun p q z => ⟨z.1, ht _ _ z.2.1, z.2.2⟩, ob, es, ep, k _ _ (.inl rfl) e, c⟩
  | set S n => obtain ⟨ob, es, ep, t, e, c⟩ := x; exact ⟨ob, es, ep, t, k _ _ (.inl rfl) e, c⟩
  | ins C dx fs =>
    obtain ⟨d, z, ne, e, mA, ⟨od, es, ep, e2, c⟩, r⟩ := x
    exact ⟨ho _ d, z, ne, k _ _ (.inl rfl) e, mA, ⟨od, es, ep, k _ _ (.inr d) e2, c⟩, r⟩
  | own y => obtain ⟨ob, e⟩ := x; exact ⟨ob, k _ _ (.inl rfl) e⟩
  | xd fs => obtain ⟨mA, ⟨od, es, ep, e, c⟩, r⟩ := x; exact ⟨mA, ⟨od, es, ep, k _ _ (.inl rfl) e, c⟩, r⟩
  | rng lo hi => obtain ⟨t, u, v, e⟩ := x; exact ⟨t, u, v, k _ _ (.inl rfl) e⟩
  | frz ob u ih => obtain ⟨e, q⟩ := x; exact ⟨k _ _ (.inl rfl) e, ih q⟩
  | tbl ps =>
    have e : h.get? a = some { cls := .none, data := .fields ps } := x
    show h'.get? a = some { cls := .none, data := .fields ps }
    exact k a _ (.inl rfl) e
  | met f y =>
    have e : h.get? a = some (PySem.W.methodObj (.ref f) (.ref y)) := x
    show h'.get? a = some (PySem.W.methodObj (.ref f) (.ref y))
    exact k a _ (.inl rfl) e
  | ext φ => obtain ⟨p, ⟨o, e⟩, st⟩ := x; exact ⟨st _ _ p fun o q => k _ _ (.inl rfl) q, ⟨o, k _ _ (.inl rfl) e⟩, st⟩
theorem HOk.lt (x : HOk P w H h) (e : H a = some o) : a < h.objs.size := (x a o e).lt
theorem HOk.fresh (x : HOk P w H h) (e : h.objs.size ≤ a) : H a = none := by
  cases q : H a with
  | none => rfl
  | some u => exact absurd (Nat.lt_of_lt_of_le (x.lt q) e) (Nat.lt_irrefl _)
theorem HOk.kept (x : HOk P w H h) (k : ∀ b u, h.get? b = some u → h'.get? b = some u) : HOk P w H h' := fun a o e =>
  (x a o e).stay (fun b u _ q => k b u q) (fun _ q => q) fun _ _ q => q
theorem HOk.laid (x : HOk P w H h) (k : ∀ b u, h.get? b = some u → h'.get? b = some u) (hp : h.objs.size ≤ a) (new : ObjOk P w (upd H a o) h' a o) : HOk P w (upd H a o) h' := fun b u e => by
  have hn := x.fresh hp
  by_cases hb : b = a
  · subst hb; rw [upd_same] at e; cases e; exact new
  · rw [upd_ne hb] at e
    exact (x b u e).stay (fun c v _ q => k c v q) (fun c q => by rw [upd_ne (ne_of_none q hn)]; exact q) fun c xs q => by rw [upd_ne (ne_of_none q hn)]; exact q
end

def Rd (H : Hp) (a : Addr) (u : HO) : Prop := H a = some u ∨ ∃ o, H a = some (.frz o u)
theorem Rd.ok {P : Program} {w : World} {H : Hp} {h : Heap} {a : Addr} {u : HO} (r : Rd H a u) (x : HOk P w H h) : ObjOk P w H h a u := by
  rcases r with r | ⟨o, r⟩
  · exact x a u r
  · obtain ⟨_, q⟩ := x a _ r
    exact q
def Mut : Option HO → Prop
  | some (.lst _) => True
  | some (.dK _) => True
  | some (.dT _) => True
  | some (.set _ _) => True
  | some (.ins _ _ _) => True
  | some (.ext _) => True
  | _ => False
section
variable {P : Program} {w : World} {H : Hp} {h h' : Heap} {x e : Addr} {o' : HO}
theorem HOk.write (ok : HOk P w H h) (mu : Mut (H x)) (he : e = x ∨ H e = some (.own x)) (k : ∀ b u, b ≠ e → h.get? b = some u → h'.get? b = some u) (heo : ∃ u, h'.get? e = some u)
    (new : ObjOk P w (upd H x o') h' x o') : HOk P w (upd H x o') h' := fun b u q => by
  have nown : ∀ c y, H c = some (.own y) → c ≠ x := fun c y r z => by subst z; rw [r] at mu; exact mu
  have ntup : ∀ c xs, H c = some (.tup xs) → c ≠ x := fun c xs r z => by subst z; rw [r] at mu; exact mu
  by_cases hb : b = x
  · subst hb; rw [upd_same] at q; cases q; exact new
  · rw [upd_ne hb] at q
    by_cases hbe : b = e
    · have q' : H b = some (.own x) := by
        rcases he with z | z
        · exact absurd (hbe.trans z) hb
        · rw [hbe]; exact z
      rw [q] at q'; cases q'
      obtain ⟨v, hv⟩ := heo
      exact ⟨v, by rw [hbe]; exact hv⟩
    · refine (ok b u q).stay (fun c v hc r => k c v ?_ r) (fun c r => by rw [upd_ne (nown c b r)]; exact r) fun c xs r => by rw [upd_ne (ntup c xs r)]; exact r
      rcases hc with rfl | hc
      · exact hbe
      · rintro rfl
        rcases he with z | z
        · exact nown c b hc z
        · rw [hc] at z; cases z; exact hb rfl
end

structure Un (fs ex : List Addr) (H H' : Hp) (h h' : Heap) : Prop where
  keep : ∀ b o, h.get? b = some o → H b = none → b ∉ fs → b ∉ ex → h'.get? b = some o
  slot : ∀ b o, h.get? b = some o → H b = none → b ∈ fs → b ∉ ex → ∃ sl, h'.get? b = some { o with slots := sl }
  free : ∀ b o, h.get? b = some o → H b = none → b ∉ ex → H' b = none
  there : ∀ b o, h.get? b = some o → b ∉ ex → ∃ o', h'.get? b = some o'
  tups : ∀ b xs, H b = some (.tup xs) → H' b = some (.tup xs)
  frzs : ∀ b o u, H b = some (.frz o u) → H' b = some (.frz o u)
  tbls : ∀ b ps, H b = some (.tbl ps) → ∃ more, H' b = some (.tbl (ps ++ more))
section
variable {fs fs' ex ex' : List Addr} {H H1 H2 : Hp} {h h1 h2 h' : Heap} {a x e : Addr} {o : HO}
theorem Un.any (u : Un fs ex H H1 h h1) {b : Addr} {ob : Obj} (q : h.get? b = some ob) (n : H b = none) (hx : b ∉ ex) : ∃ sl, h1.get? b = some { ob with slots := sl } := by
  by_cases hb : b ∈ fs
  · exact u.slot b ob q n hb hx
  · exact ⟨ob.slots, u.keep b ob q n hb hx⟩
theorem Un.kept (k : ∀ b u, h.get? b = some u → h'.get? b = some u) : Un fs ex H H h h' :=
  ⟨fun b ob q _ _ _ => k b ob q, fun b ob q _ _ _ => ⟨ob.slots, k b ob q⟩, fun _ _ _ n _ => n, fun b ob q _ => ⟨ob, k b ob q⟩, fun _ _ q => q, fun _ _ _ q => q, fun _ ps q => ⟨#[], by rw [q]; simp⟩⟩
theorem Un.refl : Un fs ex H H h h := Un.kept fun _ _ q => q
theorem Un.laid (k : ∀ b u, h.get? b = some u → h'.get? b = some u) (hp : h.objs.size ≤ a) (hn : H a = none) : Un fs ex H (upd H a o) h h' where
  keep := fun b u q _ _ _ => k b u q
  slot := fun b u q _ _ _ => ⟨u.slots, k b u q⟩
  free := fun b u q n _ => by rw [upd_ne (Nat.ne_of_lt (Nat.lt_of_lt_of_le (Heap.lt_size q) hp))]; exact n
  there := fun b u q _ => ⟨u, k b u q⟩
  tups := fun b xs q => by rw [upd_ne (ne_of_none q hn)]; exact q
  frzs := fun b u xs q => by rw [upd_ne (ne_of_none q hn)]; exact q
  tbls := fun b ps q => ⟨#[], by rw [upd_ne (ne_of_none q hn), q]; simp⟩
theorem Un.write (mu : Mut (H x)) (he : e = x ∨ H e = some (.own x)) (k : ∀ b u, b ≠ e → h.get? b = some u → h'.get? b = some u) (heo : ∃ u, h'.get? e = some u) : Un fs ex H (upd H x o) h h' := by
  have hx : ∀ b, H b = none → b ≠ x := fun b n z => by subst z; rw [n] at mu; exact mu
  have hb : ∀ b, H b = none → b ≠ e := fun b n z => by
    subst z
    rcases he with r | r
    · exact hx b n r
    · rw [n] at r; cases r
  have hm : ∀ b u, H b = some u → ¬ Mut (some u) → b ≠ x := fun b u q nm z => by subst z; rw [q] at mu; exact nm mu
  refine ⟨fun b u q n _ _ => k b u (hb b n) q, fun b u q n _ _ => ⟨u.slots, k b u (hb b n) q⟩, fun b u q n _ => by rw [upd_ne (hx b n)]; exact n, fun b u q _ => ?_,
    fun b xs q => by rw [upd_ne (hm b _ q fun z => z)]; exact q, fun b u xs q => by rw [upd_ne (hm b _ q fun z => z)]; exact q, fun b ps q => ⟨#[], by rw [upd_ne (hm b _ q fun z => z), q]; simp⟩⟩
  by_cases hbe : b = e
  · subst hbe; exact heo
  · exact ⟨u, k b u hbe q⟩
end

def trk (h : Heap) (H : Hp) : List Addr := (List.range h.objs.size).filter fun a => (H a).isSome
def hidT (h : Heap) (H : Hp) : Heap := PySem.W.hideAll h (trk h H)
theorem hidT_size (h : Heap) (H : Hp) : (hidT h H).objs.size = h.objs.size := PySem.W.hideAll_size _ _
theorem hidT_get {h : Heap} {H : Hp} {b : Addr} {o : Obj} (e : h.get? b = some o) (n : H b = none) : (hidT h H).get? b = some o :=
  PySem.W.hideAll_get _ e fun hm => by
    have q : (H b).isSome = true := (List.mem_filter.mp hm).2
    rw [n] at q; simp at q
theorem of_hidT {h : Heap} {H : Hp} {b : Addr} {o : Obj} (e : (hidT h H).get? b = some o) : h.get? b = some o ∧ H b = none := by
  have e' : h.get? b = some o := PySem.W.of_hideAll (trk h H) e
  refine ⟨e', ?_⟩
  cases q : H b with
  | none => rfl
  | some x =>
    have hm : b ∈ trk h H := List.mem_filter.mpr ⟨List.mem_range.mpr (Heap.lt_size e'), by simp [q]⟩
    have z : (hidT h H).get? b = none := PySem.W.hideAll_none (trk h H) hm
    rw [z] at e; cases e

end L2

namespace L2
open PySem PySem.Spec PyProof.Rows

structure Mod (K : PySem.W.Frag) (mg : Str → Option Value) (base : Heap) : Prop where
  kin : K.In base
  glob : base.Ns mainGlobals mg
  blt : ∃ mb, base.Ns builtinsNs mb ∧ ∀ x : Str, x ≠ "__name__" → mb x = bootBuiltins x
  nolimit : base.NoLimit

/-- the context: a def's body (or a comprehension's block) running. base: fixed through the whole law; s₀, H₀: the entry; outer: the frames whose slots others may change (a def's callers); stack: all frames that run;
   ex: iterators that were made ahead of the entry and are walked here (a comprehension's); fn: the names whose cells were made at the entry (a def: all; a comprehension's block: its own); calm: not within an except suite; pn: pins that every state bears; xe: what is wanted of an exception that leaves the code -/
structure Cx where
  prog : Program
  w : World
  K : PySem.W.Frag
  mg : Str → Option Value
  base : Heap
  A : Around
  N : List Str
  s₀ : Shared
  H₀ : Hp
  env : Env
  outer : List Env
  stack : List Env
  ex : List Addr
  fn : Str → Bool
  calm : Bool
  pn : List (Addr × Obj)
  xe : Value → Shared → Prop
def frs (l : List Env) : List Addr := l.filterMap (·.frame)
abbrev Cx.fs (X : Cx) : List Addr := frs X.outer

def Vis (sc : Scope) (x : Str) : Prop := sc.names.lookup x = some .local ∨ sc.names.lookup x = some .cell ∨ sc.names.lookup x = some .free
def Loc (sc : Scope) (x : Str) : Prop := sc.names.lookup x = some .local ∨ sc.names.lookup x = some .cell
def Look (env : Env) (h : Heap) (m : Str → Option Value) (x : Str) (u : Value) : Prop :=
  (env.kindOf x = some .local ∧ m x = some u) ∨ ((env.kindOf x = some .cell ∨ env.kindOf x = some .free) ∧ ∃ c, env.cells.lookup x = some c ∧ h.IsCell c (some u))

structure Cx.Ok (X : Cx) : Prop where
  mod : Mod X.K X.mg X.base
  kind : X.env.scope.kind = .function
  glob : X.env.globals = mainGlobals
  blt : X.env.builtins = builtinsNs
  above : X.s₀.heap.objs.size ≤ X.env.locals
  inj : ∀ x y c, X.env.cells.lookup x = some c → X.env.cells.lookup y = some c → x = y
  has : ∀ x, (X.env.kindOf x = some .cell ∨ X.env.kindOf x = some .free) → ∃ c, X.env.cells.lookup x = some c
  cab : ∀ x c, X.fn x = true → X.env.cells.lookup x = some c → X.s₀.heap.objs.size ≤ c
  hd : X.calm = true → X.A.handled = none
  frames : X.A.frames = some X.stack
  stk : X.stack = X.outer ∨ (X.stack = X.env :: X.outer ∧ X.env.frame = some X.env.locals)
  exf : ∀ b ∈ X.ex, b ≠ X.env.locals ∧ ∀ x c, X.env.cells.lookup x = some c → c ≠ b
  bs : ∀ b o, X.base.get? b = some o → X.s₀.heap.get? b = some o ∧ X.H₀ b = none
  bsz : X.base.objs.size ≤ X.s₀.heap.objs.size
  noex : ∀ b o, X.base.get? b = some o → b ∉ X.ex
  exfs : ∀ b ∈ X.ex, b ∉ X.fs
  funs : X.s₀.heap.FunFrames X.base X.outer
  frf : ∀ b ∈ X.fs, X.H₀ b = none

structure Inv (X : Cx) (pins : List (Addr × Obj)) (σ : List (Option V)) (H : Hp) (s : Shared) : Prop where
  ok : X.Ok
  os : s.os = X.s₀.os
  bare : AllBare s.gens
  base : Un X.fs X.ex X.H₀ H X.s₀.heap s.heap
  loc : ∃ m, s.heap.Ns X.env.locals m ∧ ∀ (i : Nat) (x : Str) (v : V), X.N[i]? = some x → σ[i]? = some (some v) → Vis X.env.scope x → ∃ u, RelV v u ∧ Look X.env s.heap m x u
  cell : ∀ x c, X.env.cells.lookup x = some c → ∃ v, s.heap.IsCell c v
  free : H X.env.locals = none
  freeC : ∀ x c, X.env.cells.lookup x = some c → H c = none
  pin : ∀ p ∈ X.pn ++ pins, s.heap.get? p.1 = some p.2 ∧ H p.1 = none ∧ p.1 ≠ X.env.locals ∧ p.1 ∉ X.fs ∧ ∀ v, p.2.data ≠ .cell v
  hok : HOk X.prog X.w H s.heap
  len : σ.length = X.N.length

section
variable {X : Cx} {pins : List (Addr × Obj)} {σ : List (Option V)} {H H' : Hp} {s : Shared} {h' : Heap}

theorem Cx.Ok.nofr (ok : X.Ok) {b : Addr} {o : Obj} (e : X.base.get? b = some o) : b ∉ X.fs := fun hb => by
  have := (ok.funs.mem hb).1
  rw [e] at this; cases this
theorem Inv.bs (I : Inv X pins σ H s) : ∀ b o, X.base.get? b = some o → s.heap.get? b = some o ∧ H b = none := fun b o e =>
  ⟨I.base.keep b o (I.ok.bs b o e).1 (I.ok.bs b o e).2 (I.ok.nofr e) (I.ok.noex b o e), I.base.free b o (I.ok.bs b o e).1 (I.ok.bs b o e).2 (I.ok.noex b o e)⟩
theorem Inv.bk (I : Inv X pins σ H s) : ∀ b o, X.base.get? b = some o → s.heap.get? b = some o := fun b o e => (I.bs b o e).1
theorem Inv.mod (I : Inv X pins σ H s) : Mod X.K X.mg X.base := I.ok.mod
theorem Inv.kIn (I : Inv X pins σ H s) : X.K.In s.heap := I.ok.mod.kin.keeps I.bk
theorem Inv.lt (I : Inv X pins σ H s) : X.env.locals < s.heap.objs.size := let ⟨_, hn, _⟩ := I.loc; hn.lt
theorem Inv.sz (I : Inv X pins σ H s) : X.s₀.heap.objs.size ≤ s.heap.objs.size := Nat.le_trans I.ok.above (Nat.le_of_lt I.lt)
theorem Inv.nofs (I : Inv X pins σ H s) {a : Addr} (h : s.heap.objs.size ≤ a) : a ∉ X.fs := fun hb => by
  obtain ⟨_, o, ho, _⟩ := I.ok.funs.mem hb
  exact absurd (Nat.lt_of_lt_of_le (Heap.lt_size ho) (Nat.le_trans I.sz h)) (Nat.lt_irrefl _)
theorem Inv.cne (I : Inv X pins σ H s) : ∀ x c, X.env.cells.lookup x = some c → c ≠ X.env.locals := fun x c e z => by
  obtain ⟨v, o, ho, hd⟩ := I.cell x c e
  obtain ⟨m, ⟨o', es, ep, ho', hd', _⟩, _⟩ := I.loc
  rw [z, ho'] at ho; cases ho; rw [hd'] at hd; cases hd
theorem Inv.funs (I : Inv X pins σ H s) : s.heap.FunFrames X.base X.outer := by
  have all : ∀ (l : List Env), (∀ b ∈ frs l, b ∈ X.fs) → X.s₀.heap.FunFrames X.base l → s.heap.FunFrames X.base l := by
    intro l
    induction l with
    | nil => intro _ _; trivial
    | cons env r ih =>
      intro hs hl
      obtain ⟨hk, ⟨L, o, hf, hn, ho, hd⟩, hr⟩ := hl
      have hL : L ∈ X.fs := hs L (by unfold frs; rw [List.filterMap_cons, hf]; exact List.mem_cons_self)
      obtain ⟨sl, e⟩ := I.base.slot L o ho (I.ok.frf L hL) hL fun z => I.ok.exfs L z hL
      exact ⟨hk, ⟨L, _, hf, hn, e, hd⟩, ih (fun b hb => hs b (by unfold frs; rw [List.filterMap_cons, hf]; exact List.mem_cons_of_mem _ hb)) hr⟩
  exact all X.outer (fun _ hb => hb) I.ok.funs

theorem Inv.stack (I : Inv X pins σ H s) : s.heap.FunFrames X.base X.stack := by
  rcases I.ok.stk with e | ⟨e, hf⟩
  · rw [e]; exact I.funs
  · rw [e]
    obtain ⟨m, hn, _⟩ := I.loc
    refine .cons (by rw [I.ok.kind]; decide) hf hn ?_ I.funs
    exact Heap.get?_none_of_le (Nat.le_trans I.ok.bsz I.ok.above)
theorem Inv.stkSub (I : Inv X pins σ H s) : ∀ b ∈ frs X.stack, b ∈ X.env.locals :: X.fs := fun b hb => by
  rcases I.ok.stk with e | ⟨e, hf⟩
  · rw [e] at hb; exact List.mem_cons_of_mem _ hb
  · rw [e] at hb
    unfold frs at hb
    rw [List.filterMap_cons, hf] at hb
    exact hb
theorem Inv.stkFree (I : Inv X pins σ H s) : ∀ b ∈ frs X.stack, H b = none := fun b hb => by
  rcases List.mem_cons.mp (I.stkSub b hb) with e | hb
  · rw [e]; exact I.free
  · obtain ⟨_, o, ho, _⟩ := I.ok.funs.mem hb
    exact I.base.free b o ho (I.ok.frf b hb) fun z => I.ok.exfs b z hb

theorem Inv.step {g' : Array GenState} {t' : Nat} {d' : Drawn} {ch : List Addr} (I : Inv X pins σ H s)
    (hch : ∀ b ∈ ch, (b ∈ X.ex ∨ X.s₀.heap.objs.size ≤ b) ∧ b ≠ X.env.locals ∧ (∀ x c, X.env.cells.lookup x = some c → c ≠ b) ∧ ∀ p ∈ X.pn ++ pins, p.1 ≠ b)
    (keep : ∀ b o, b ≠ X.env.locals → b ∉ X.fs → b ∉ ch → s.heap.get? b = some o → H b = none → h'.get? b = some o)
    (slot : ∀ b o, b ≠ X.env.locals → b ∈ X.fs → b ∉ ch → s.heap.get? b = some o → H b = none → ∃ sl, h'.get? b = some { o with slots := sl }) (free : ∀ b o, b ∉ ch → s.heap.get? b = some o → H b = none → H' b = none)
    (there : ∀ b o, b ∉ ch → s.heap.get? b = some o → ∃ o', h'.get? b = some o')
    (tups : ∀ b xs, H b = some (.tup xs) → H' b = some (.tup xs)) (frzs : ∀ b o u, H b = some (.frz o u) → H' b = some (.frz o u)) (tbls : ∀ b ps, H b = some (.tbl ps) → ∃ more, H' b = some (.tbl (ps ++ more)))
    (ns : ∀ m, s.heap.Ns X.env.locals m → h'.Ns X.env.locals m) (hok : HOk X.prog X.w H' h') (hg : AllBare g') :
    Inv X pins σ H' { s with heap := h', gens := g', drawn := d', toks := t' } := by
  have neL : ∀ b o, X.s₀.heap.get? b = some o → b ≠ X.env.locals := fun b o e => Nat.ne_of_lt (Nat.lt_of_lt_of_le (Heap.lt_size e) I.ok.above)
  have neC : ∀ b o, X.s₀.heap.get? b = some o → b ∉ X.ex → b ∉ ch := fun b o e hx hb => by
    rcases (hch b hb).1 with z | z
    · exact hx z
    · exact absurd (Nat.lt_of_lt_of_le (Heap.lt_size e) z) (Nat.lt_irrefl _)
  have cellK : ∀ x c, X.env.cells.lookup x = some c → ∀ v, s.heap.IsCell c v → h'.IsCell c v := fun x c e v ⟨o, ho, hd⟩ => by
    have nch : c ∉ ch := fun z => (hch c z).2.2.1 x c e rfl
    by_cases hc : c ∈ X.fs
    · obtain ⟨sl, q⟩ := slot c o (I.cne x c e) hc nch ho (I.freeC x c e)
      exact ⟨_, q, hd⟩
    · exact ⟨o, keep c o (I.cne x c e) hc nch ho (I.freeC x c e), hd⟩
  refine ⟨I.ok, I.os, hg, ⟨fun b o e n hb hx => ?_, fun b o e n hb hx => ?_, fun b o e n hx => ?_, fun b o e hx => ?_, fun b xs e => tups b xs (I.base.tups b xs e), fun b o xs e => frzs b o xs (I.base.frzs b o xs e), fun b ps e => ?_⟩, ?_, fun x c e => ?_, ?_, fun x c e => ?_, fun p hp => ?_, hok, I.len⟩
  · exact keep b o (neL b o e) hb (neC b o e hx) (I.base.keep b o e n hb hx) (I.base.free b o e n hx)
  · obtain ⟨sl, e1⟩ := I.base.slot b o e n hb hx
    obtain ⟨sl', e2⟩ := slot b _ (neL b o e) hb (neC b o e hx) e1 (I.base.free b o e n hx)
    exact ⟨sl', e2⟩
  · obtain ⟨o', e1⟩ := I.base.there b o e hx
    exact free b o' (neC b o e hx) e1 (I.base.free b o e n hx)
  · obtain ⟨o', e1⟩ := I.base.there b o e hx
    exact there b o' (neC b o e hx) e1
  · obtain ⟨m1, e1⟩ := I.base.tbls b ps e
    obtain ⟨m2, e2⟩ := tbls b _ e1
    exact ⟨m1 ++ m2, by rw [e2, Array.append_assoc]⟩
  · obtain ⟨m, hn, hl⟩ := I.loc
    refine ⟨m, ns m hn, fun i x v e1 e2 e3 => ?_⟩
    obtain ⟨u, r, l⟩ := hl i x v e1 e2 e3
    refine ⟨u, r, ?_⟩
    rcases l with l | ⟨k, c, e, z⟩
    · exact .inl l
    · exact .inr ⟨k, c, e, cellK x c e _ z⟩
  · obtain ⟨v, z⟩ := I.cell x c e
    exact ⟨v, cellK x c e v z⟩
  · obtain ⟨m, ⟨o, _, _, ho, _⟩, _⟩ := I.loc
    exact free _ o (fun z => (hch _ z).2.1 rfl) ho I.free
  · obtain ⟨v, o, ho, hd⟩ := I.cell x c e
    exact free c o (fun z => (hch c z).2.2.1 x c e rfl) ho (I.freeC x c e)
  · obtain ⟨e, n, ne, nf, d⟩ := I.pin p hp
    have nch : p.1 ∉ ch := fun z => (hch p.1 z).2.2.2 p hp rfl
    exact ⟨keep p.1 p.2 ne nf nch e n, free p.1 p.2 nch e n, ne, nf, d⟩
theorem Inv.un {t' : Nat} (I : Inv X pins σ H s) (u : Un X.fs [] H H' s.heap h') (hok : HOk X.prog X.w H' h') : Inv X pins σ H' { s with heap := h', toks := t' } := by
  obtain ⟨m, ⟨o, es, ep, ho, r⟩, _⟩ := id I.loc
  obtain ⟨sl, hL⟩ := u.any ho I.free (by simp)
  exact I.step (g' := s.gens) (d' := s.drawn) (ch := []) (fun _ z => nomatch z) (fun b o _ hb _ e n => u.keep b o e n hb (by simp)) (fun b o _ hb _ e n => u.slot b o e n hb (by simp)) (fun b o _ e n => u.free b o e n (by simp)) (fun b o _ e => u.there b o e (by simp)) u.tups u.frzs u.tbls (fun m' hm => by
    obtain ⟨o', es', ep', ho', r'⟩ := hm
    rw [ho] at ho'; cases ho'
    exact ⟨_, es', ep', hL, r'⟩) hok I.bare
theorem Inv.call {g' : Array GenState} {t' : Nat} {d' : Drawn} {ch : List Addr} (I : Inv X pins σ H s) (u : Un (frs X.stack) ch H H' s.heap h') (hok : HOk X.prog X.w H' h') (hg : AllBare g')
    (hch : ∀ b ∈ ch, (b ∈ X.ex ∨ X.s₀.heap.objs.size ≤ b) ∧ b ≠ X.env.locals ∧ (∀ x c, X.env.cells.lookup x = some c → c ≠ b) ∧ ∀ p ∈ X.pn ++ pins, p.1 ≠ b) :
    Inv X pins σ H' { s with heap := h', gens := g', drawn := d', toks := t' } := by
  obtain ⟨m, ⟨o, es, ep, ho, r⟩, _⟩ := id I.loc
  obtain ⟨sl, hL⟩ := u.any ho I.free fun z => (hch _ z).2.1 rfl
  exact I.step (ch := ch) hch (fun b o hL hb hc e n => u.keep b o e n (fun z => (List.mem_cons.mp (I.stkSub b z)).elim hL hb) hc) (fun b o _ _ hc e n => u.any e n hc) (fun b o hc e n => u.free b o e n hc) (fun b o hc e => u.there b o e hc) u.tups u.frzs u.tbls (fun m' hm => by
    obtain ⟨o', es', ep', ho', r'⟩ := hm
    rw [ho] at ho'; cases ho'
    exact ⟨_, es', ep', hL, r'⟩) hok hg
theorem Inv.turned {t' : Nat} {it : Addr} (I : Inv X pins σ H s) (k : ∀ b o, b ≠ it → s.heap.get? b = some o → h'.get? b = some o) (hn : H it = none) (hL : it ≠ X.env.locals)
    (h1 : it ∈ X.ex ∨ X.s₀.heap.objs.size ≤ it) (h2 : ∀ x c, X.env.cells.lookup x = some c → c ≠ it) (h3 : ∀ p ∈ X.pn ++ pins, p.1 ≠ it) : Inv X pins σ H { s with heap := h', toks := t' } := by
  have nit : ∀ b u, H b = some u → b ≠ it := fun b u e z => by rw [z, hn] at e; cases e
  refine I.step (g' := s.gens) (d' := s.drawn) (ch := [it]) (fun b hb => ?_) (fun b o _ _ hc e _ => k b o (fun z => hc (by simp [z])) e) (fun b o _ _ hc e _ => ⟨o.slots, k b o (fun z => hc (by simp [z])) e⟩) (fun _ _ _ _ n => n)
    (fun b o hc e => ⟨o, k b o (fun z => hc (by simp [z])) e⟩) (fun _ _ e => e) (fun _ _ _ e => e) (fun b ps e => ⟨#[], by rw [e]; simp⟩) (fun m hm => ?_) (fun b u e => ?_) I.bare
  · have e : b = it := by simpa using hb
    subst e
    exact ⟨h1, hL, h2, h3⟩
  · obtain ⟨o, es, ep, ho, r⟩ := hm
    exact ⟨o, es, ep, k _ o (Ne.symm hL) ho, r⟩
  · refine (I.hok b u e).stay (fun c v hc q => k c v ?_ q) (fun _ q => q) fun _ _ q => q
    rcases hc with z | z
    · rw [z]; exact nit b u e
    · exact nit c _ z
theorem Inv.tok (I : Inv X pins σ H s) (t : Nat) : Inv X pins σ H { s with toks := t } := I.un (h' := s.heap) (t' := t) Un.refl I.hok
theorem Inv.kept {t' : Nat} (I : Inv X pins σ H s) (k : ∀ b u, s.heap.get? b = some u → h'.get? b = some u) : Inv X pins σ H { s with heap := h', toks := t' } := I.un (Un.kept k) (I.hok.kept k)
theorem Inv.laid {a : Addr} {o : HO} {t' : Nat} (I : Inv X pins σ H s) (k : ∀ b u, s.heap.get? b = some u → h'.get? b = some u) (hp : s.heap.objs.size ≤ a) (new : ObjOk X.prog X.w (upd H a o) h' a o) :
    Inv X pins σ (upd H a o) { s with heap := h', toks := t' } := I.un (Un.laid k hp (I.hok.fresh hp)) (I.hok.laid k hp new)
theorem Inv.write {x e : Addr} {o : HO} {t' : Nat} (I : Inv X pins σ H s) (mu : Mut (H x)) (he : e = x ∨ H e = some (.own x)) (k : ∀ b u, b ≠ e → s.heap.get? b = some u → h'.get? b = some u) (heo : ∃ u, h'.get? e = some u)
    (new : ObjOk X.prog X.w (upd H x o) h' x o) : Inv X pins σ (upd H x o) { s with heap := h', toks := t' } := I.un (Un.write mu he k heo) (I.hok.write mu he k heo new)
theorem Inv.pins_of {pins' : List (Addr × Obj)} (I : Inv X pins σ H s) (h : ∀ p ∈ pins', s.heap.get? p.1 = some p.2 ∧ H p.1 = none ∧ p.1 ≠ X.env.locals ∧ p.1 ∉ X.fs ∧ ∀ v, p.2.data ≠ .cell v) : Inv X pins' σ H s :=
  ⟨I.ok, I.os, I.bare, I.base, I.loc, I.cell, I.free, I.freeC, fun p hp => (List.mem_append.mp hp).elim (fun z => I.pin p (List.mem_append_left _ z)) (h p), I.hok, I.len⟩

theorem nodup_ix {N : List Str} (hN : N.Nodup) {i j : Nat} {x : Str} (a : N[i]? = some x) (b : N[j]? = some x) : i = j := by
  obtain ⟨h1, e1⟩ := List.getElem?_eq_some_iff.mp a
  obtain ⟨h2, e2⟩ := List.getElem?_eq_some_iff.mp b
  exact (List.getElem_inj hN).mp (e1.trans e2.symm)

theorem store_ok2 {M : Model} {A : Around} {E : Value → Shared → Prop} {i : Nat} {x : Str} {v : V} {u : Value} {Q : Unit → Shared → Prop} (I : Inv X pins σ H s) (hN : X.N.Nodup) (hi : X.N[i]? = some x) (hx : Loc X.env.scope x) (r : RelV v u)
    (h : ∀ s', Inv X pins (σ.set i (some v)) H s' → (∃ a, Heap.SameBut a s.heap s'.heap ∧ (a = X.env.locals ∨ X.env.cells.lookup x = some a)) → Q () s') (hf : X.fn x = true ∨ X.env.scope.names.lookup x = some .local := by first | exact .inl rfl | exact .inr rfl | assumption) : wpAny M A (storeName X.env x u) Q E s := by
  obtain ⟨m, hn, hl⟩ := id I.loc
  have hcls : (X.env.scope.kind == .class || (X.env.scope.kind == .module && X.env.locals != X.env.globals)) = false := by rw [I.ok.kind]; rfl
  have hiσ : i < σ.length := by rw [I.len]; exact (List.getElem?_eq_some_iff.mp hi).1
  have cne := I.cne
  have tracked : ∀ {a : Addr} {h' : Heap}, (∃ o, s.heap.get? a = some o ∧ H a = none) → Heap.SameBut a s.heap h' → HOk X.prog X.w H h' := fun {a h'} ha hs b ob e => by
    obtain ⟨_, _, hfree⟩ := ha
    refine (I.hok b ob e).stay (fun c w' hc q => (hs.2 c ?_).trans q) (fun _ q => q) fun _ _ q => q
    rintro rfl
    rcases hc with rfl | hc
    · rw [hfree] at e; cases e
    · rw [hfree] at hc; cases hc
  rcases hx with hk | hk
  · refine wpAny_storeName_local hk hn (fun h' hn' hs => ?_) hcls
    obtain ⟨oL, _, _, hoL, _⟩ := id hn
    refine h _ ⟨I.ok, I.os, I.bare, ⟨fun b o e n hb hx => ?_, fun b o e n hb hx => ?_, I.base.free, fun b o e hx => ?_, I.base.tups, I.base.frzs, I.base.tbls⟩, ⟨_, hn', fun j y v' e1 e2 e3 => ?_⟩, fun y c e => ?_, I.free, I.freeC, fun p hp => ?_, tracked ⟨oL, hoL, I.free⟩ hs, by simpa using I.len⟩ ⟨_, hs, .inl rfl⟩
    · exact (hs.2 b (Nat.ne_of_lt (Nat.lt_of_lt_of_le (Heap.lt_size e) I.ok.above))).trans (I.base.keep b o e n hb hx)
    · obtain ⟨sl, e1⟩ := I.base.slot b o e n hb hx
      exact ⟨sl, (hs.2 b (Nat.ne_of_lt (Nat.lt_of_lt_of_le (Heap.lt_size e) I.ok.above))).trans e1⟩
    · obtain ⟨o', e1⟩ := I.base.there b o e hx
      exact ⟨o', (hs.2 b (Nat.ne_of_lt (Nat.lt_of_lt_of_le (Heap.lt_size e) I.ok.above))).trans e1⟩
    · by_cases hj : j = i
      · subst hj
        rw [hi] at e1; cases e1
        rw [List.getElem?_set_self hiσ] at e2
        cases e2
        exact ⟨u, r, .inl ⟨hk, by simp⟩⟩
      · rw [List.getElem?_set_ne (Ne.symm hj)] at e2
        obtain ⟨u', r', q⟩ := hl j y v' e1 e2 e3
        refine ⟨u', r', ?_⟩
        rcases q with ⟨k, e⟩ | ⟨k, c, e, z⟩
        · refine .inl ⟨k, ?_⟩
          have : y ≠ x := fun e => hj (nodup_ix hN e1 (e ▸ hi))
          simp [this, e]
        · exact .inr ⟨k, c, e, z.sameBut hs (cne y c e)⟩
    · obtain ⟨w', z⟩ := I.cell y c e
      exact ⟨w', z.sameBut hs (cne y c e)⟩
    · obtain ⟨e, n, ne, nf, d⟩ := I.pin p hp
      exact ⟨(hs.2 p.1 ne).trans e, n, ne, nf, d⟩
  · have hfn : X.fn x = true := by
      rcases hf with z | z
      · exact z
      · rw [z] at hk; cases hk
    obtain ⟨c, hc⟩ := I.ok.has x (.inl hk)
    obtain ⟨w', z⟩ := I.cell x c hc
    refine wpAny_storeName_cell I.ok.kind hk hc z (fun h' hc' hs => ?_)
    obtain ⟨oc, hoc, hocd⟩ := id z
    refine h { s with heap := h' } ⟨I.ok, I.os, I.bare, ⟨fun b o e n hb hx => ?_, fun b o e n hb hx => ?_, I.base.free, fun b o e hx => ?_, I.base.tups, I.base.frzs, I.base.tbls⟩, ⟨m, hn.sameBut hs (Ne.symm (cne x c hc)), fun j y v' e1 e2 e3 => ?_⟩, fun y c' e => ?_, I.free, I.freeC, fun p hp => ?_, tracked ⟨oc, hoc, I.freeC x c hc⟩ hs, by simpa using I.len⟩ ⟨c, hs, .inr hc⟩
    · exact (hs.2 b (Nat.ne_of_lt (Nat.lt_of_lt_of_le (Heap.lt_size e) (I.ok.cab x c hfn hc)))).trans (I.base.keep b o e n hb hx)
    · obtain ⟨sl, e1⟩ := I.base.slot b o e n hb hx
      exact ⟨sl, (hs.2 b (Nat.ne_of_lt (Nat.lt_of_lt_of_le (Heap.lt_size e) (I.ok.cab x c hfn hc)))).trans e1⟩
    · obtain ⟨o', e1⟩ := I.base.there b o e hx
      exact ⟨o', (hs.2 b (Nat.ne_of_lt (Nat.lt_of_lt_of_le (Heap.lt_size e) (I.ok.cab x c hfn hc)))).trans e1⟩
    · by_cases hj : j = i
      · subst hj
        rw [hi] at e1; cases e1
        rw [List.getElem?_set_self hiσ] at e2
        cases e2
        exact ⟨u, r, .inr ⟨.inl hk, c, hc, hc'⟩⟩
      · rw [List.getElem?_set_ne (Ne.symm hj)] at e2
        obtain ⟨u', r', q⟩ := hl j y v' e1 e2 e3
        refine ⟨u', r', ?_⟩
        rcases q with q | ⟨k, c', e, z'⟩
        · exact .inl q
        · refine .inr ⟨k, c', e, z'.sameBut hs ?_⟩
          rintro rfl
          exact hj (nodup_ix hN e1 (I.ok.inj _ _ _ e hc ▸ hi))
    · by_cases hcc : c' = c
      · subst hcc; exact ⟨_, hc'⟩
      · obtain ⟨w2, z2⟩ := I.cell y c' e
        exact ⟨w2, z2.sameBut hs hcc⟩
    · obtain ⟨e, n, ne, nf, d⟩ := I.pin p hp
      refine ⟨(hs.2 p.1 ?_).trans e, n, ne, nf, d⟩
      intro q
      rw [q, hoc] at e
      have q' : oc = p.2 := Option.some.inj e
      exact d w' (by rw [← q']; exact hocd)
theorem store_ok {M : Model} {A : Around} {E : Value → Shared → Prop} {i : Nat} {x : Str} {v : V} {u : Value} {Q : Unit → Shared → Prop} (I : Inv X pins σ H s) (hN : X.N.Nodup) (hi : X.N[i]? = some x) (hx : Loc X.env.scope x) (r : RelV v u)
    (h : ∀ s', Inv X pins (σ.set i (some v)) H s' → Q () s') (hf : X.fn x = true ∨ X.env.scope.names.lookup x = some .local := by first | exact .inl rfl | exact .inr rfl | assumption) : wpAny M A (storeName X.env x u) Q E s :=
  store_ok2 I hN hi hx r (fun s' I' _ => h s' I') hf
theorem Inv.call' {s' : Shared} {ch : List Addr} (I : Inv X pins σ H s) (ho : s'.os = s.os) (u : Un (frs X.stack) ch H H' s.heap s'.heap) (hok : HOk X.prog X.w H' s'.heap) (hg : AllBare s'.gens)
    (hch : ∀ b ∈ ch, (b ∈ X.ex ∨ X.s₀.heap.objs.size ≤ b) ∧ b ≠ X.env.locals ∧ (∀ x c, X.env.cells.lookup x = some c → c ≠ b) ∧ ∀ p ∈ X.pn ++ pins, p.1 ≠ b) : Inv X pins σ H' s' := by
  obtain ⟨h', g', d', t', o'⟩ := s'
  have e : o' = s.os := ho
  subst e
  exact I.call (g' := g') (t' := t') (d' := d') u hok hg hch
end

abbrev XK := Value → Option Addr → Hp → Prop
abbrev St := List (Option V)
abbrev VK := V → Hp → Prop
abbrev TE := St → Hp → VK → Prop
abbrev TT := St → Hp → (Bool → Hp → Prop) → Prop
abbrev TA := St → Hp → (List V → Hp → Prop) → Prop
structure Ends where
  nx : St → Hp → Prop
  rt : VK
  bk : St → Hp → Prop := fun _ _ => False
  ct : St → Hp → Prop := fun _ _ => False
abbrev TS := Ends → St → Hp → Prop

def EP (X : Cx) (pins : List (Addr × Obj)) (σ : St) (Q : VK) (u : Value) (s' : Shared) : Prop := ∃ v H', Inv X pins σ H' s' ∧ RelV v u ∧ Q v H'
def TP (X : Cx) (pins : List (Addr × Obj)) (σ : St) (Q : Bool → Hp → Prop) (b : Bool) (s' : Shared) : Prop := ∃ H', Inv X pins σ H' s' ∧ Q b H'
def AP (X : Cx) (pins : List (Addr × Obj)) (σ : St) (Q : List V → Hp → Prop) (us : List Value) (s' : Shared) : Prop := ∃ vs H', Inv X pins σ H' s' ∧ Vals vs us ∧ Q vs H'
def SP (X : Cx) (pins : List (Addr × Obj)) (D : Ends) (f : Flow) (s' : Shared) : Prop :=
  match f with
  | .next => ∃ σ' H', Inv X pins σ' H' s' ∧ D.nx σ' H'
  | .brk => ∃ σ' H', Inv X pins σ' H' s' ∧ D.bk σ' H'
  | .cont => ∃ σ' H', Inv X pins σ' H' s' ∧ D.ct σ' H'
  | .ret u => ∃ v σ' H', Inv X pins σ' H' s' ∧ RelV v u ∧ D.rt v H'

def PE (X : Cx) (e : Expr) (t : TE) : Prop :=
  ∀ (pins : List (Addr × Obj)) (s : Shared) (σ : St) (H : Hp) (Q : VK), Inv X pins σ H s → t σ H Q → wpAny (model X.prog X.w) X.A (eval e X.env) (EP X pins σ Q) X.xe s
def PT (X : Cx) (e : Expr) (t : TT) : Prop :=
  ∀ (pins : List (Addr × Obj)) (s : Shared) (σ : St) (H : Hp) (Q : Bool → Hp → Prop), Inv X pins σ H s → t σ H Q → wpAny (model X.prog X.w) X.A (isTrue e X.env (eval e X.env)) (TP X pins σ Q) X.xe s
def PW (X : Cx) (e : Expr) (t : TT) : Prop :=
  ∀ (whole : Sem Value) (pins : List (Addr × Obj)) (s : Shared) (σ : St) (H : Hp) (Q : Bool → Hp → Prop), Inv X pins σ H s → t σ H Q → wpAny (model X.prog X.w) X.A (isTrue e X.env whole) (TP X pins σ Q) X.xe s
theorem PW.pt {X : Cx} {e : Expr} {t : TT} (h : PW X e t) : PT X e t := h _
def PA (X : Cx) (es : List Expr) (t : TA) : Prop :=
  ∀ (pos : Pos) (pins : List (Addr × Obj)) (s : Shared) (σ : St) (H : Hp) (Q : List V → Hp → Prop), Inv X pins σ H s → t σ H Q → wpAny (model X.prog X.w) X.A (spliced (backTo pos (starEach es X.env))) (AP X pins σ Q) X.xe s
def PS (X : Cx) (st : Stmt) (t : TS) : Prop :=
  ∀ (pins : List (Addr × Obj)) (s : Shared) (σ : St) (H : Hp) (D : Ends), Inv X pins σ H s → t D σ H → wpAny (model X.prog X.w) X.A (exec st X.env) (SP X pins D) X.xe s
def PSs (X : Cx) (st : List Stmt) (t : TS) : Prop :=
  ∀ (pins : List (Addr × Obj)) (s : Shared) (σ : St) (H : Hp) (D : Ends), Inv X pins σ H s → t D σ H → wpAny (model X.prog X.w) X.A (execs st X.env) (SP X pins D) X.xe s
theorem thn {α : Type} {t : Sem α} {Q Q' : α → Shared → Prop} {M : Model} {A : Around} {E : Value → Shared → Prop} {s : Shared} (h : wpAny M A t Q E s) (hQ : ∀ a s, Q a s → Q' a s) : wpAny M A t Q' E s := wpAny_mono h hQ fun _ _ x => x
end L2

namespace L2
open PySem PySem.Spec PyProof.Rows
section
variable {X : Cx}

def tVar (i : Nat) : TE := fun σ H Q => ∃ v, σ[i]? = some (some v) ∧ Q v H
def tC (v : V) : TE := fun _ H Q => Q v H
theorem pe_var {i : Nat} {x : Str} {pos : Pos} (hN : X.N[i]? = some x) (hv : Vis X.env.scope x) (hd : (x == ("__debug__" : Str)) = false := by decide) (hcd : (x == ("__classdict__" : Str)) = false := by decide) : PE X (.Name x pos) (tVar i) := by
  intro pins s σ H Q I h
  obtain ⟨v, e, h⟩ := h
  obtain ⟨m, hn, hl⟩ := I.loc
  obtain ⟨u, r, l⟩ := hl i x v hN e hv
  have fin : EP X pins σ Q u s := ⟨v, H, I, r, h⟩
  rcases l with ⟨hk, hm⟩ | ⟨hk, c, hc, hcell⟩
  · exact wpAny_Name (wpAny_loadName_local I.ok.kind hk hn hm fin) hd
  · rcases hk with hk | hk
    · exact wpAny_Name (wpAny_loadName_cell I.ok.kind hk hc hcell fin) hd
    · exact wpAny_Name (wpAny_loadName_free I.ok.kind hk hc hcell fin hcd) hd
theorem pe_int {i j pos} : PE X (.Constant (.int i) j pos) (tC (.int i)) := fun _ _ _ H _ I h => wpAny_Constant_int ⟨.int i, H, I.tok _, ⟨_, rfl⟩, h⟩
theorem pe_bl {b j pos} : PE X (.Constant (.bool b) j pos) (tC (.bl b)) := fun _ _ _ H _ I h => Constant_bool ⟨.bl b, H, I, rfl, h⟩
theorem pe_non {j pos} : PE X (.Constant .none j pos) (tC .non) := fun _ _ _ H _ I h => Constant_none ⟨.non, H, I, rfl, h⟩
theorem pe_str {x j pos} : PE X (.Constant (.str x) j pos) (tC (.str x)) := fun _ _ _ H _ I h => Calls.Constant_str ⟨.str x, H, I.tok _, ⟨_, rfl⟩, h⟩

def Gl (X : Cx) (x : Str) : Prop := X.env.kindOf x = some .globalImplicit
theorem ld_glob {E : Value → Shared → Prop} {pins : List (Addr × Obj)} {s : Shared} {σ : St} {H : Hp} {x : Str} {u : Value} {pos : Pos} {Q : Value → Shared → Prop} (I : Inv X pins σ H s) (hg : Gl X x) (hm : X.mg x = some u) (h : Q u s)
    (hd : (x == ("__debug__" : Str)) = false := by decide) : wpAny (model X.prog X.w) X.A (eval (.Name x pos) X.env) Q E s :=
  Calls.Name_function_global I.ok.kind hg (Calls.loadGlobal_global (by rw [I.ok.glob]; exact I.mod.glob.keeps I.bk) hm h) hd
theorem ld_blt {E : Value → Shared → Prop} {pins : List (Addr × Obj)} {s : Shared} {σ : St} {H : Hp} {x : Str} {u : Value} {pos : Pos} {Q : Value → Shared → Prop} (I : Inv X pins σ H s) (hg : Gl X x) (hm : X.mg x = none) (hv : bootBuiltins x = some u) (h : Q u s)
    (hn : x ≠ "__name__" := by decide) (hd : (x == ("__debug__" : Str)) = false := by decide) : wpAny (model X.prog X.w) X.A (eval (.Name x pos) X.env) Q E s := by
  obtain ⟨mb, h1, h2⟩ := I.mod.blt
  exact Calls.Name_function_global I.ok.kind hg (Calls.loadGlobal_builtin (by rw [I.ok.glob]; exact I.mod.glob.keeps I.bk) hm (by rw [I.ok.blt]; exact h1.keeps I.bk) ((h2 x hn).trans hv) h) hd
theorem pe_glob {x : Str} {v : V} {u : Value} {pos : Pos} (hg : Gl X x) (hm : X.mg x = some u) (r : RelV v u) (hd : (x == ("__debug__" : Str)) = false := by decide) : PE X (.Name x pos) (tC v) :=
  fun _ _ _ H _ I h => ld_glob I hg hm ⟨v, H, I, r, h⟩ hd
theorem pe_bltn {x : Str} {v : V} {u : Value} {pos : Pos} (hg : Gl X x) (hm : X.mg x = none) (hv : bootBuiltins x = some u) (r : RelV v u) (hn : x ≠ "__name__" := by decide) (hd : (x == ("__debug__" : Str)) = false := by decide) : PE X (.Name x pos) (tC v) :=
  fun _ _ _ H _ I h => ld_blt I hg hm hv ⟨v, H, I, r, h⟩ hn hd

variable {a b : Expr} {ta tb : TE} {pos : Pos}
def PC (X : Cx) (op : CmpOp) (a b : Expr) (t : TE) : Prop :=
  ∀ (pins : List (Addr × Obj)) (s : Shared) (σ : St) (H : Hp) (Q : VK), Inv X pins σ H s → t σ H Q →
    wpAny (model X.prog X.w) X.A (eval a X.env) (fun v s₁ => wpAny (model X.prog X.w) X.A (eval b X.env) (fun u s₂ => wpAny (model X.prog X.w) X.A (compareOp op v u) (EP X pins σ Q) X.xe s₂) X.xe s₁) X.xe s
def tB (t : TE) : TT := fun σ H Q => t σ H fun x H1 => ∃ c, x = .bl c ∧ Q c H1
theorem pt_cmp {op : CmpOp} {t : TE} (h : PC X op a b t) (h1 : behindInMarks op b = false := by first | exact nobehind _ (by decide) (by decide) | rfl) : PT X (.Compare a [op] [b] pos) (tB t) := by
  intro pins s σ H Q I hw
  refine wpAny_isTrue_Compare1 (thn (h pins s σ H _ I hw) fun v s1 h1 => thn h1 fun u s2 h2 => thn h2 fun c s3 ⟨x, H1, I1, r1, q1⟩ => ?_) h1
  obtain ⟨d, rfl, q⟩ := q1
  cases r1
  exact wpAny_truthy_bool ⟨H1, I1, q⟩
theorem pt_val {e : Expr} {t : TE} (h : PE X e t) (he : ∀ whole, isTrue e X.env whole = (do let v ← whole; standAt e.pos; holding [v] (truthy v)) := by intro _; rfl) : PT X e (tB t) := by
  intro pins s σ H Q I hw
  refine isTrue_plain (thn (h pins s σ H _ I hw) fun v s1 ⟨x, H1, I1, r1, q1⟩ => ?_) (he _)
  obtain ⟨d, rfl, q⟩ := q1
  cases r1
  exact wpAny_truthy_bool ⟨H1, I1, q⟩

variable {tA tB' : TT} {rest : List Expr}
def tAnd (t u : TT) : TT := fun σ H Q => t σ H fun c H1 => if c = true then u σ H1 Q else Q false H1
def tOr (t u : TT) : TT := fun σ H Q => t σ H fun c H1 => if c = true then Q true H1 else u σ H1 Q
def tNot (t : TT) : TT := fun σ H Q => t σ H fun c H1 => Q (!c) H1
theorem pw_and1 (ha : PT X a tA) : PW X (.BoolOp .And [a] pos) tA := by
  intro wh pins s σ H Q I h
  refine isTrue_and (thn (ha pins s σ H Q I h) fun c s1 e => ?_)
  cases c with
  | true => exact isTrue_and_nil e
  | false => exact e
theorem pw_or1 (ha : PT X a tA) : PW X (.BoolOp .Or [a] pos) tA := by
  intro wh pins s σ H Q I h
  refine isTrue_or (thn (ha pins s σ H Q I h) fun c s1 e => ?_)
  cases c with
  | false => exact isTrue_or_nil e
  | true => exact e
theorem pw_and (ha : PT X a tA) (hb : PW X (.BoolOp .And (b :: rest) pos) tB') : PW X (.BoolOp .And (a :: b :: rest) pos) (tAnd tA tB') := by
  intro wh pins s σ H Q I h
  refine isTrue_and (thn (ha pins s σ H _ I h) fun c s1 ⟨H1, I1, q1⟩ => ?_)
  cases c with
  | true => exact hb wh pins s1 σ H1 Q I1 q1
  | false => exact ⟨H1, I1, q1⟩
theorem pw_or (ha : PT X a tA) (hb : PW X (.BoolOp .Or (b :: rest) pos) tB') : PW X (.BoolOp .Or (a :: b :: rest) pos) (tOr tA tB') := by
  intro wh pins s σ H Q I h
  refine isTrue_or (thn (ha pins s σ H _ I h) fun c s1 ⟨H1, I1, q1⟩ => ?_)
  cases c with
  | true => exact ⟨H1, I1, q1⟩
  | false => exact hb wh pins s1 σ H1 Q I1 q1
theorem pt_not (ha : PT X a tA) : PT X (.UnaryOp .Not a pos) (tNot tA) := by
  intro pins s σ H Q I h
  exact isTrue_not (ha pins s σ H (fun c H1 => Q (!c) H1) I h)
def tAndV (ta tb : TE) : TE := fun σ H Q => ta σ H fun x H1 => ∃ c, x = .bl c ∧ if c = true then tb σ H1 Q else Q (.bl false) H1
theorem pe_one {op} {t : TE} (h : PE X a t) : PE X (.BoolOp op [a] pos) t := fun pins s σ H Q I hw => BoolOp_one (h pins s σ H Q I hw)
theorem pe_and (ha : PE X a ta) (hb : PE X (.BoolOp .And (b :: rest) pos) tb) : PE X (.BoolOp .And (a :: b :: rest) pos) (tAndV ta tb) := by
  intro pins s σ H Q I h
  refine BoolOp_and (thn (ha pins s σ H _ I h) fun v s1 ⟨x, H1, I1, r1, q1⟩ => ?_)
  obtain ⟨c, rfl, q1⟩ := q1
  cases r1
  refine wpAny_truthy_bool ?_
  cases c with
  | true => exact hb pins s1 σ H1 Q I1 q1
  | false => exact ⟨.bl false, H1, I1, rfl, q1⟩
end
end L2

namespace L2
open PySem PySem.Spec PyProof.Rows

def SqL (K : PySem.W.Frag) (H : Hp) (a : Addr) (xs : List V) : Prop :=
  Rd H a (.lst xs) ∨
    ∃ (o : Obj) (its : Array Value) (n : Nat), K.lookup a = some o ∧ o.cls = .type "list" ∧ o.dict = none ∧ o.data = .seq its n ∧ its.size ≤ sizeLine ∧ Vals xs its.toList
def SqT (K : PySem.W.Frag) (H : Hp) (a : Addr) (xs : List V) : Prop :=
  Rd H a (.tup xs) ∨
    ∃ (o : Obj) (its : Array Value) (n : Nat), K.lookup a = some o ∧ o.cls = .type "tuple" ∧ o.data = .seq its n ∧ its.size ≤ sizeLine ∧ Vals xs its.toList
def absV : Value → Option V
  | .none => some .non
  | .bool b => some (.bl b)
  | .int i _ => some (.int i)
  | .str x _ => some (.str x)
  | .bytes b _ => some (.byt b)
  | .float b _ => some (.flt b)
  | .ref a => some (.ref a)
  | .type n => some (.ty n)
  | _ => none
theorem RelV.abs {x : V} {u : Value} (r : RelV x u) : absV u = some x := by
  cases x with
  | non => cases r; rfl
  | bl _ => cases r; rfl
  | int _ => obtain ⟨t, rfl⟩ := r; rfl
  | str _ => obtain ⟨t, rfl⟩ := r; rfl
  | byt _ => obtain ⟨t, rfl⟩ := r; rfl
  | flt _ => obtain ⟨t, rfl⟩ := r; rfl
  | ref _ => cases r; rfl
  | ty _ => cases r; rfl
theorem RelV.inj {x y : V} {u : Value} (r : RelV x u) (q : RelV y u) : x = y := Option.some.inj (r.abs.symm.trans q.abs)
theorem Vals.inj : ∀ {xs ys : List V} {us : List Value}, Vals xs us → Vals ys us → xs = ys
  | _, _, _, .nil, .nil => rfl
  | _, _, _, .cons r t, .cons r' t' => by rw [r.inj r', Vals.inj t t']
section
variable {X : Cx} {pins : List (Addr × Obj)} {σ : St} {H : Hp} {s : Shared} {a : Addr} {xs ys : List V}
theorem SqL.of {K : PySem.W.Frag} (h : H a = some (.lst xs)) : SqL K H a xs := .inl (.inl h)
theorem Inv.list (I : Inv X pins σ H s) (h : SqL X.K H a xs) : ∃ its : List Value, Vals xs its ∧ PlainL s.heap a its.toArray ∧ xs.length ≤ sizeLine := by
  rcases h with h | ⟨o, its, n, hk, hc, hd, hs, hz, r⟩
  · obtain ⟨z, its, n, r, e⟩ := h.ok I.hok
    exact ⟨its, r, ⟨_, n, e, rfl, rfl, rfl⟩, z⟩
  · refine ⟨its.toList, r, ⟨o, n, I.kIn a o hk, hc, hd, by simpa using hs⟩, ?_⟩
    have e := r.length
    simp only [Array.length_toList] at e
    (clear hs hd hc hk; omega)
theorem Inv.tuple (I : Inv X pins σ H s) (h : SqT X.K H a xs) : ∃ its : List Value, Vals xs its ∧ IsTup s.heap a its.toArray ∧ xs.length ≤ sizeLine := by
  rcases h with h | ⟨o, its, n, hk, hc, hs, hz, r⟩
  · obtain ⟨z, its, r, p⟩ := h.ok I.hok
    exact ⟨its, r, p, z⟩
  · refine ⟨its.toList, r, ⟨o, I.kIn a o hk, hc, n, by simpa using hs⟩, ?_⟩
    have e := r.length
    simp only [Array.length_toList] at e
    (clear hs hc hk; omega)
theorem Inv.list_inj (I : Inv X pins σ H s) (h : SqL X.K H a xs) (h' : SqL X.K H a ys) : xs = ys := by
  obtain ⟨its, r, ⟨o, n, e, _, _, d⟩, _⟩ := I.list h
  obtain ⟨its', r', ⟨o', n', e', _, _, d'⟩, _⟩ := I.list h'
  rw [e] at e'; cases e'
  rw [d] at d'
  injection d' with d1 _
  have : its = its' := by simpa using congrArg Array.toList d1
  subst this
  exact r.inj r'
theorem Inv.tuple_inj (I : Inv X pins σ H s) (h : SqT X.K H a xs) (h' : SqT X.K H a ys) : xs = ys := by
  obtain ⟨its, r, ⟨o, e, _, n, d⟩, _⟩ := I.tuple h
  obtain ⟨its', r', ⟨o', e', _, n', d'⟩, _⟩ := I.tuple h'
  rw [e] at e'; cases e'
  rw [d] at d'
  injection d' with d1 _
  have : its = its' := by simpa using congrArg Array.toList d1
  subst this
  exact r.inj r'
end

abbrev Cx.wish (X : Cx) (E : Value → Shared → Prop) : Cx := { X with xe := E }
abbrev Cx.nox (X : Cx) : Cx := X.wish fun _ _ => False
theorem Cx.Ok.wish {X : Cx} (ok : X.Ok) (E : Value → Shared → Prop) : (X.wish E).Ok :=
  ⟨ok.mod, ok.kind, ok.glob, ok.blt, ok.above, ok.inj, ok.has, ok.cab, ok.hd, ok.frames, ok.stk, ok.exf, ok.bs, ok.bsz, ok.noex, ok.exfs, ok.funs, ok.frf⟩
theorem Cx.Ok.unwish {X : Cx} {E : Value → Shared → Prop} (ok : (X.wish E).Ok) : X.Ok :=
  ⟨ok.mod, ok.kind, ok.glob, ok.blt, ok.above, ok.inj, ok.has, ok.cab, ok.hd, ok.frames, ok.stk, ok.exf, ok.bs, ok.bsz, ok.noex, ok.exfs, ok.funs, ok.frf⟩
section
variable {X : Cx} {pins : List (Addr × Obj)} {σ : St} {H : Hp} {s : Shared} {E : Value → Shared → Prop}
theorem Inv.wish (I : Inv X pins σ H s) (E : Value → Shared → Prop) : Inv (X.wish E) pins σ H s := ⟨I.ok.wish E, I.os, I.bare, I.base, I.loc, I.cell, I.free, I.freeC, I.pin, I.hok, I.len⟩
theorem Inv.unwish (I : Inv (X.wish E) pins σ H s) : Inv X pins σ H s := ⟨I.ok.unwish, I.os, I.bare, I.base, I.loc, I.cell, I.free, I.freeC, I.pin, I.hok, I.len⟩
theorem SP.unwish {D : Ends} {f : Flow} {s' : Shared} (h : SP (X.wish E) pins D f s') : SP X pins D f s' := by
  cases f with
  | next => obtain ⟨σ', H', I, q⟩ := h; exact ⟨σ', H', I.unwish, q⟩
  | brk => obtain ⟨σ', H', I, q⟩ := h; exact ⟨σ', H', I.unwish, q⟩
  | cont => obtain ⟨σ', H', I, q⟩ := h; exact ⟨σ', H', I.unwish, q⟩
  | ret u => obtain ⟨v, σ', H', I, r, q⟩ := h; exact ⟨v, σ', H', I.unwish, r, q⟩
theorem PSs.nox {st : List Stmt} {t : TS} (h : PSs X.nox st t) : PSs X st t := fun pins s σ H D I hw =>
  wpAny_mono (h pins s σ H D (I.wish _) hw) (fun _ _ q => q.unwish) fun _ _ z => False.elim z
end

section
variable {X : Cx} {st : Stmt} {rest : List Stmt} {t u : TS} {e : Expr} {te : TE} {pos : Pos}
def tNext : TS := fun D σ H => D.nx σ H
def tSeq (t u : TS) : TS := fun D σ H => t { D with nx := u D } σ H
theorem pss_nil : PSs X [] tNext := fun _ _ σ H _ I h => wpAny_execs_nil ⟨σ, H, I, h⟩
theorem pss_cons (h1 : PS X st t) (h2 : PSs X rest u) : PSs X (st :: rest) (tSeq t u) := by
  intro pins s σ H D I h
  refine wpAny_execs_cons (thn (h1 pins s σ H { D with nx := u D } I h) fun f s1 q => ?_)
  cases f with
  | next =>
    obtain ⟨σ', H', I', q⟩ := q
    exact h2 pins s1 σ' H' D I' q
  | ret v => exact q
  | brk => exact q
  | cont => exact q
theorem pss_one (h1 : PS X st t) : PSs X [st] t := by
  intro pins s σ H D I h
  refine wpAny_execs_cons (thn (h1 pins s σ H D I h) fun f s1 q => ?_)
  cases f with
  | next => exact wpAny_execs_nil q
  | ret v => exact q
  | brk => exact q
  | cont => exact q
theorem Inv.quiet {pins : List (Addr × Obj)} {σ : St} {H : Hp} {s : Shared} (I : Inv X pins σ H s) : interactive X.env = false := by simp [interactive, I.ok.kind]
def tDrop (te : TE) : TS := fun D σ H => te σ H fun _ H1 => D.nx σ H1
theorem ps_expr (he : PE X e te) (hs : swapsWith e none pos.line X.env = pure false := by rfl) : PS X (.Expr e pos) (tDrop te) := by
  intro pins s σ H D I h
  exact wpAny_Expr_any (thn (he pins s σ H _ I h) fun v s1 ⟨x, H1, I1, r1, q1⟩ => ⟨σ, H1, I1, q1⟩) I.quiet hs
def tRet (te : TE) : TS := fun D σ H => te σ H D.rt
theorem ps_ret (he : PE X e te) : PS X (.Return (some e) pos) (tRet te) := by
  intro pins s σ H D I h
  exact wpAny_Return_some (thn (he pins s σ H _ I h) fun v s1 ⟨x, H1, I1, r1, q1⟩ => ⟨x, σ, H1, I1, r1, q1⟩)
def tRetN : TS := fun D _ H => D.rt .non H
theorem ps_retN : PS X (.Return none pos) tRetN := fun _ _ σ H _ I h => wpAny_Return_none ⟨.non, σ, H, I, rfl, h⟩
def tIfS (c : TT) (t u : TS) : TS := fun D σ H => c σ H fun b H1 => if b = true then t D σ H1 else u D σ H1
theorem ps_if {c : Expr} {a b : List Stmt} {tc : TT} (hc : PT X c tc) (ha : PSs X a t) (hb : PSs X b u) : PS X (.If c a b pos) (tIfS tc t u) := by
  intro pins s σ H D I h
  refine wpAny_If (thn (hc pins s σ H _ I h) fun d s1 ⟨H1, I1, q1⟩ => ?_)
  cases d with
  | true => exact ha pins s1 σ H1 D I1 q1
  | false => exact hb pins s1 σ H1 D I1 q1
end

abbrev TG := V → St → Hp → (St → Hp → Prop) → Prop
def PG (X : Cx) (target : Expr) (t : TG) : Prop :=
  ∀ (pins : List (Addr × Obj)) (s : Shared) (σ : St) (H : Hp) (v : V) (u : Value) (Q : St → Hp → Prop), Inv X pins σ H s → RelV v u → t v σ H Q →
    wpAny (model X.prog X.w) X.A (assign target X.env u) (fun _ s' => ∃ σ' H', Inv X pins σ' H' s' ∧ Q σ' H') X.xe s
abbrev TSet := V → V → V → Hp → (Hp → Prop) → Prop
def PSet (X : Cx) (t : TSet) : Prop :=
  ∀ (pins : List (Addr × Obj)) (s : Shared) (σ : St) (H : Hp) (o i v : V) (ov iv u : Value) (Q : Hp → Prop), Inv X pins σ H s → RelV o ov → RelV i iv → RelV v u → t o i v H Q →
    wpAny (model X.prog X.w) X.A (setItem ov iv u) (fun _ s' => ∃ H', Inv X pins σ H' s' ∧ Q H') X.xe s
abbrev TIp := V → V → Hp → VK → Prop
def PIp (X : Cx) (op : Operator) (t : TIp) : Prop :=
  ∀ (pins : List (Addr × Obj)) (s : Shared) (σ : St) (H : Hp) (x y : V) (v u : Value) (Q : VK), Inv X pins σ H s → RelV x v → RelV y u → t x y H Q →
    wpAny (model X.prog X.w) X.A (inplaceOp op v u) (EP X pins σ Q) X.xe s
section
variable {X : Cx} {pos : Pos}
def gName (i : Nat) : TG := fun v σ H Q => Q (σ.set i (some v)) H
theorem pg_name {i : Nat} {x : Str} (hN : X.N.Nodup) (hi : X.N[i]? = some x) (hx : Loc X.env.scope x) (hf : X.fn x = true ∨ X.env.scope.names.lookup x = some .local := by first | exact .inl rfl | exact .inr rfl | assumption) : PG X (.Name x pos) (gName i) := by
  intro pins s σ H v u Q I r h
  exact wpAny_assign_Name (store_ok I hN hi hx r (fun s' I' => ⟨_, H, I', h⟩) hf)
def gSub (to ti : TE) (t : TSet) : TG := fun v σ H Q => to σ H fun o H1 => ti σ H1 fun i H2 => t o i v H2 fun H3 => Q σ H3
theorem pg_sub {o i : Expr} {to ti : TE} {t : TSet} (ho : PE X o to) (hi : PE X i ti) (hs : PSet X t)
    (ha : ∀ v, assign (.Subscript o i pos) X.env v = (do
      let ov ← holding [v] (eval o X.env)
      let iv ← holding [v, ov] (eval i X.env)
      standAt pos
      holding [v, ov, iv] (setItem ov iv v)
      release [v, ov, iv] []) := by intro _; rfl) : PG X (.Subscript o i pos) (gSub to ti t) := by
  intro pins s σ H v u Q I r h
  rw [ha]
  refine wpAny_bind (wpAny_holding (thn (ho pins s σ H _ I h) fun ov s1 ⟨x, H1, I1, r1, q1⟩ => ?_))
  refine wpAny_bind (wpAny_holding (thn (hi pins s1 σ H1 _ I1 q1) fun iv s2 ⟨y, H2, I2, r2, q2⟩ => ?_))
  refine wpAny_bind (wpAny_standAt (wpAny_bind (wpAny_holding (thn (hs pins s2 σ H2 x y v ov iv u _ I2 r1 r2 r q2) fun _ s3 ⟨H3, I3, q3⟩ => ?_))))
  exact wpAny_release ⟨σ, H3, I3, q3⟩
def tAsg (te : TE) (g : TG) : TS := fun D σ H => te σ H fun x H1 => g x σ H1 D.nx
theorem ps_asg {tg e : Expr} {te : TE} {g : TG} (he : PE X e te) (hg : PG X tg g) (hs : swapsWithSole [tg] e pos.line X.env = pure false := by rfl) (hw : swappedStores [tg] e X.env = pure none := by rfl)
    (h1 : (assignEach [tg] X.env).map (·.2) = [assign tg X.env] := by rfl) : PS X (.Assign [tg] e pos) (tAsg te g) := by
  intro pins s σ H D I h
  refine wpAny_Assign_stores (thn (he pins s σ H _ I h) fun v s1 ⟨x, H1, I1, r1, q1⟩ => ?_) hs hw
  rw [h1]
  exact thn (hg pins s1 σ H1 x v _ I1 r1 q1) fun _ s2 q => q
theorem ps_set {i : Nat} {x : Str} {e : Expr} {te : TE} {pos' : Pos} (hN : X.N.Nodup) (hi : X.N[i]? = some x) (hx : Loc X.env.scope x) (he : PE X e te) (hs : swapsWith e (some (.Name x pos')) pos.line X.env = pure false := by rfl) (hf : X.fn x = true ∨ X.env.scope.names.lookup x = some .local := by first | exact .inl rfl | exact .inr rfl | assumption) :
    PS X (.Assign [.Name x pos'] e pos) (tAsg te (gName i)) := by
  intro pins s σ H D I h
  refine wpAny_Assign_Name (thn (he pins s σ H _ I h) fun v s1 ⟨y, H1, I1, r1, q1⟩ => ?_) hs
  exact store_ok I1 hN hi hx r1 (fun s2 I2 => ⟨_, H1, I2, q1⟩) hf
def tAug (i : Nat) (te : TE) (ti : TIp) : TS := fun D σ H => ∃ x, σ[i]? = some (some x) ∧ te σ H fun y H1 => ti x y H1 fun z H2 => D.nx (σ.set i (some z)) H2
theorem ps_aug {i : Nat} {x : Str} {e : Expr} {te : TE} {op : Operator} {ti : TIp} {pos' : Pos} (hN : X.N.Nodup) (hi : X.N[i]? = some x) (hx : Loc X.env.scope x) (he : PE X e te) (ho : PIp X op ti) (hf : X.fn x = true ∨ X.env.scope.names.lookup x = some .local := by first | exact .inl rfl | exact .inr rfl | assumption) :
    PS X (.AugAssign (.Name x pos') op e pos) (tAug i te ti) := by
  intro pins s σ H D I h
  obtain ⟨v, e1, h⟩ := h
  obtain ⟨m, hn, hl⟩ := I.loc
  have vis : Vis X.env.scope x := by rcases hx with k | k; exact .inl k; exact .inr (.inl k)
  obtain ⟨u, r, l⟩ := hl i x v hi e1 vis
  refine wpAny_AugAssign_Name ?_
  have go : wpAny (model X.prog X.w) X.A (eval e X.env) (fun w s₂ => wpAny (model X.prog X.w) X.A (inplaceOp op u w) (fun r s₃ => wpAny (model X.prog X.w) X.A (storeName X.env x r) (fun _ => SP X pins D .next) X.xe s₃) X.xe s₂) X.xe s := by
    refine thn (he pins s σ H _ I h) fun w s1 ⟨y, H1, I1, r1, q1⟩ => ?_
    refine thn (ho pins s1 σ H1 v y u w _ I1 r r1 q1) fun z s2 ⟨zv, H2, I2, r2, q2⟩ => ?_
    exact store_ok I2 hN hi hx r2 (fun s3 I3 => ⟨_, H2, I3, q2⟩) hf
  rcases l with ⟨hk, hm⟩ | ⟨hk, c, hc, hcell⟩
  · exact wpAny_loadName_local I.ok.kind hk hn hm go
  · rcases hk with hk | hk
    · exact wpAny_loadName_cell I.ok.kind hk hc hcell go
    · rcases hx with k | k
      · have : X.env.scope.names.lookup x = some .free := hk
        rw [k] at this; cases this
      · have : X.env.scope.names.lookup x = some .free := hk
        rw [k] at this; cases this
def ipI (f : Int → Int → Int) : TIp := fun x y H Q => ∃ i j, x = .int i ∧ y = .int j ∧ Q (.int (f i j)) H
theorem ip_add : PIp X .Add (ipI fun i j => i + j) := by
  intro pins s σ H x y v u Q I r1 r2 h
  obtain ⟨i, j, e1, e2, q⟩ := h
  subst e1; subst e2
  obtain ⟨t, rfl⟩ := r1
  obtain ⟨t', rfl⟩ := r2
  exact iadd_int ⟨.int _, H, I.tok _, ⟨_, rfl⟩, q⟩
theorem ip_sub : PIp X .Sub (ipI fun i j => i - j) := by
  intro pins s σ H x y v u Q I r1 r2 h
  obtain ⟨i, j, e1, e2, q⟩ := h
  subst e1; subst e2
  obtain ⟨t, rfl⟩ := r1
  obtain ⟨t', rfl⟩ := r2
  exact isub_int ⟨.int _, H, I.tok _, ⟨_, rfl⟩, q⟩
end

section
variable {X : Cx} {pos : Pos}
def tWhile (c : TT) (tb : TS) : TS := fun D σ H => ∃ W : Nat → St → Hp → Prop, (∃ m, W m σ H) ∧ ∀ m σ H, W m σ H →
  c σ H fun b H1 => if b = true then ∃ N : St → Hp → Prop, (∀ σ' H', N σ' H' → ∃ m', m' < m ∧ W m' σ' H') ∧ tb { D with nx := N, ct := N, bk := D.nx } σ H1 else D.nx σ H1
theorem ps_while {c : Expr} {body : List Stmt} {tc : TT} {tb : TS} (hp : PassesOwn (model X.prog X.w) X.A X.env X.xe) (hc : PT X c tc) (hb : PSs X body tb) : PS X (.While c body [] pos) (tWhile tc tb) := by
  intro pins s σ H D I h
  obtain ⟨W, ⟨m0, w0⟩, turn⟩ := h
  refine wpAny_While (codeAny_whileLoop (fun n s' => ∃ σ' H', Inv X pins σ' H' s' ∧ W n σ' H') ?_ m0 ⟨σ, H, I, w0⟩)
  rintro n s1 ⟨σ1, H1, I1, w1⟩
  refine wpAny_passesOwn hp (thn (hc pins s1 σ1 H1 _ I1 (turn n σ1 H1 w1)) fun b s2 ⟨H2, I2, q2⟩ => ?_)
  cases b with
  | true =>
    obtain ⟨N, hN, q2⟩ := q2
    rw [if_pos rfl]
    refine wpAny_passesOwn hp (thn (hb pins s2 σ1 H2 _ I2 q2) fun f s3 q3 => ?_)
    cases f with
    | next =>
      obtain ⟨σ3, H3, I3, n3⟩ := q3
      obtain ⟨m', hm, w3⟩ := hN σ3 H3 n3
      exact ⟨m', hm, σ3, H3, I3, w3⟩
    | cont =>
      obtain ⟨σ3, H3, I3, n3⟩ := q3
      obtain ⟨m', hm, w3⟩ := hN σ3 H3 n3
      exact ⟨m', hm, σ3, H3, I3, w3⟩
    | brk => exact q3
    | ret v => exact q3
  | false =>
    rw [if_neg Bool.false_ne_true]
    exact wpAny_execs_nil ⟨σ1, H2, I2, q2⟩
end

structure It where
  go : Nat → Hp → Prop
  yld : Nat → Hp → V → Hp → Prop
  stop : Nat → Hp → Prop
def FpOk (X : Cx) (pins : List (Addr × Obj)) (H : Hp) (b : Addr) : Prop :=
  H b = none ∧ b ≠ X.env.locals ∧ b ∉ X.fs ∧ (b ∈ X.ex ∨ X.s₀.heap.objs.size ≤ b) ∧ (∀ x c, X.env.cells.lookup x = some c → c ≠ b) ∧ ∀ p ∈ X.pn ++ pins, p.1 ≠ b
theorem Inv.fpOk {X : Cx} {pins : List (Addr × Obj)} {σ : St} {H H' : Hp} {s : Shared} {b : Addr} (I : Inv X pins σ H s) (hb : s.heap.objs.size ≤ b) (hn : H' b = none) : FpOk X pins H' b := by
  refine ⟨hn, Nat.ne_of_gt (Nat.lt_of_lt_of_le I.lt hb), I.nofs hb, .inr (Nat.le_trans I.sz hb), fun x c e z => ?_, fun p hp z => ?_⟩
  · obtain ⟨v, q⟩ := I.cell x c e
    exact absurd (Nat.lt_of_lt_of_le q.lt (by rw [z]; exact hb)) (Nat.lt_irrefl _)
  · exact absurd (Nat.lt_of_lt_of_le (Heap.lt_size (I.pin p hp).1) (by rw [z]; exact hb)) (Nat.lt_irrefl _)
structure Turn (P : Program) (w : World) (K : PySem.W.Frag) (tg : Expr) (J : It) (fp : List Addr) (it : Addr) (tn : Nat → Heap → Prop) : Prop where
  mem : it ∈ fp
  obj : ∀ i h, tn i h → ∀ b ∈ fp, ∃ o, h.get? b = some o ∧ ∀ v, o.data ≠ .cell v
  keep : ∀ i h h', tn i h → (∀ b ∈ fp, ∀ o, h.get? b = some o → h'.get? b = some o) → tn i h'
  item : ∀ (X : Cx), X.prog = P → X.w = w → X.K = K → X.calm = true → ∀ (i : Nat) (pins : List (Addr × Obj)) (s : Shared) (σ : St) (H : Hp) (E : Value → Shared → Prop), Inv X pins σ H s → (∀ b ∈ fp, FpOk X pins H b) → tn i s.heap → J.go i H →
    wpAny (model P w) X.A (pyNext (.ref it)) (fun r s1 => ∃ u, r = some u ∧
      wpAny (model P w) X.A (letOwnedTupleGo tg (.ref it) u) (fun _ s2 => ∃ x H', Inv X pins σ H' s2 ∧ RelV x u ∧ J.yld i H x H' ∧ tn (i + 1) s2.heap ∧ ∀ b ∈ fp, H' b = none) E s1) E s
  done : ∀ (X : Cx), X.prog = P → X.w = w → X.K = K → X.calm = true → ∀ (i : Nat) (pins : List (Addr × Obj)) (s : Shared) (σ : St) (H : Hp) (E : Value → Shared → Prop), Inv X pins σ H s → (∀ b ∈ fp, FpOk X pins H b) → tn i s.heap → J.stop i H →
    wpAny (model P w) X.A (pyNext (.ref it)) (fun r s1 => r = none ∧ Inv X pins σ H s1) E s
  self : ∀ (A : Around) (i : Nat) (s : Shared) (Q : Value → Shared → Prop) (E : Value → Shared → Prop), tn i s.heap → Q (.ref it) s → wpAny (model P w) A (pyIter (.ref it)) Q E s
abbrev TI := St → Hp → (It → Hp → Prop) → Prop
def PIE (X : Cx) (pins : List (Addr × Obj)) (σ : St) (tg : Expr) (R : It → Hp → Prop) (itv : Value) (s2 : Shared) : Prop :=
  ∃ (it : Addr) (fp : List Addr) (tn : Nat → Heap → Prop) (J : It) (H' : Hp), itv = .ref it ∧ Inv X pins σ H' s2 ∧ Turn X.prog X.w X.K tg J fp it tn ∧ tn 0 s2.heap ∧ (∀ b ∈ fp, FpOk X pins H' b) ∧ R J H'
def PI (X : Cx) (tg iter : Expr) (wi : TI) : Prop :=
  ∀ (pins : List (Addr × Obj)) (s : Shared) (σ : St) (H : Hp) (R : It → Hp → Prop), Inv X pins σ H s → wi σ H R →
    wpAny (model X.prog X.w) X.A (eval iter X.env) (fun v s1 => wpAny (model X.prog X.w) X.A (pyIter v) (PIE X pins σ tg R) X.xe s1) X.xe s

theorem go_of {M : Model} {A : Around} {E : Value → Shared → Prop} {s : Shared} {tg : Expr} {it : Addr} {u : Value} {o : Obj} {n : String} {vs : Array Value} {Q : Unit → Shared → Prop} (ho : s.heap.get? it = some o) (hc : o.cls = .type n) (hd : o.data = .fields vs)
    (hn : ["enumerate", "zip", "dict_itemiterator", "dict_reverseitemiterator", "odict_iterator", "itertools.zip_longest", "itertools.pairwise"].contains n = false) (hQ : Q () s) : wpAny M A (letOwnedTupleGo tg (.ref it) u) Q E s := by
  unfold letOwnedTupleGo
  cases tg <;> first
    | exact wpAny_pure hQ
    | (cases u <;> first
        | exact wpAny_pure hQ
        | (refine wpAny_bind (wpAny_load ho ?_)
           rw [hc, hd]
           show wpAny M A (if (["enumerate", "zip", "dict_itemiterator", "dict_reverseitemiterator", "odict_iterator", "itertools.zip_longest", "itertools.pairwise"].contains n && vs[0]? == some (rawInt _)) = true then _ else _) Q E s
           rw [if_neg (by intro h; rw [hn, Bool.false_and] at h; cases h)]
           exact wpAny_pure hQ))

def Itl (K : PySem.W.Frag) (a : Addr) : It :=
  ⟨fun i H => ∃ xs x, SqL K H a xs ∧ xs[i]? = some x, fun i H x H' => H' = H ∧ ∀ xs, SqL K H a xs → xs[i]? = some x, fun i H => ∃ xs, SqL K H a xs ∧ xs.length ≤ i⟩
def Itr (lo : Int) (n : Nat) : It := ⟨fun i _ => i < n, fun i H x H' => H' = H ∧ x = .int (lo + i), fun i _ => n ≤ i⟩
theorem turn_list {P : Program} {w : World} {K : PySem.W.Frag} {tg : Expr} (a it : Addr) : Turn P w K tg (Itl K a) [it] it (fun i h => h.IsListIter it a i) where
  mem := by simp
  obj := fun i h st b hb => by
    have e : b = it := by simpa using hb
    subst e
    obtain ⟨o, e, c, d⟩ := st
    exact ⟨o, e, fun v z => by rw [d] at z; cases z⟩
  keep := fun i h h' st k => st.at fun o e => k it (by simp) o e
  item := by
    intro X hP hw hK hc i pins s σ H E I hf st hg
    subst hP hw hK
    obtain ⟨xs, x, hq, hx⟩ := hg
    obtain ⟨its, rv, p, hz⟩ := I.list hq
    obtain ⟨u, hu, ru⟩ := rv.get hx
    obtain ⟨f0, f1, f2, f3, f4, f5⟩ := hf it (by simp)
    refine wpAny_pyNext_list_item st p.isList (x := u) (by simpa using hu) fun h' st' sb => ?_
    have I1 : Inv X pins σ H { s with heap := h' } := I.turned (t' := s.toks) (fun b o hb e => (sb.2 b hb).trans e) f0 f1 f3 f4 f5
    obtain ⟨o, e, c, d⟩ := id st'
    exact ⟨u, rfl, go_of (s := { s with heap := h' }) e c d (by decide) ⟨x, H, I1, ru, ⟨rfl, fun ys hy => by rw [I.list_inj hy hq]; exact hx⟩, st', fun b hb => (hf b hb).1⟩⟩
  done := by
    intro X hP hw hK hc i pins s σ H E I hf st hg
    subst hP hw hK
    obtain ⟨xs, hq, hx⟩ := hg
    obtain ⟨its, rv, p, hz⟩ := I.list hq
    obtain ⟨f0, f1, f2, f3, f4, f5⟩ := hf it (by simp)
    have hl := rv.length
    exact wpAny_pyNext_list_end (I.ok.hd hc) st p.isList (by simp; (clear f3 f2 f1 f0 hz hc; omega)) fun h' eb => ⟨rfl, I.turned (t' := s.toks) (fun b o hb e => eb b o hb e) f0 f1 f3 f4 f5⟩
  self := fun _ _ _ _ _ st h => wpAny_pyIter_listiter st h
theorem turn_range {P : Program} {w : World} {K : PySem.W.Frag} {tg : Expr} (it : Addr) (lo : Int) (n : Nat) : Turn P w K tg (Itr lo n) [it] it (fun i h => IsRangeIter h it (lo + (i : Nat) * 1) ((n : Int) - (i : Nat)) 1) where
  mem := by simp
  obj := fun i h st b hb => by
    have e : b = it := by simpa using hb
    subst e
    exact ⟨_, st, fun v z => by
      have z' : Data.fields _ = Data.cell v := z
      cases z'⟩
  keep := fun i h h' st k => k it (by simp) _ st
  item := by
    intro X hP hw hK hc i pins s σ H E I hf st hg
    subst hP hw hK
    obtain ⟨f0, f1, f2, f3, f4, f5⟩ := hf it (by simp)
    have W := Walks.range (prog := X.prog) (w := X.w) (I.ok.hd hc) it lo 1 n
    refine W.item i s _ _ hg st fun v h' tk hv st' kk => ?_
    obtain ⟨t, rfl⟩ := hv
    have I1 : Inv X pins σ H { s with heap := h', toks := tk } := I.turned (fun b o hb e => kk b o (by simpa using hb) e) f0 f1 f3 f4 f5
    refine ⟨_, rfl, go_of (s := { s with heap := h', toks := tk }) (n := "range_iterator") st' rfl rfl (by decide) ⟨.int (lo + i), H, I1, ⟨t, ?_⟩, ⟨rfl, rfl⟩, st', fun b hb => (hf b hb).1⟩⟩
    rw [Int.mul_one]
  done := by
    intro X hP hw hK hc i pins s σ H E I hf st hg
    subst hP hw hK
    obtain ⟨f0, f1, f2, f3, f4, f5⟩ := hf it (by simp)
    exact wpAny_pyNext_range_end (I.ok.hd hc) st (by have : n ≤ i := hg; (clear f3 f2 f1 f0 st hc; omega)) fun h' eb => ⟨rfl, I.turned (t' := s.toks) (fun b o hb e => eb b o hb e) f0 f1 f3 f4 f5⟩
  self := fun _ _ _ _ _ st h => wpAny_pyIter_rangeiter st h
end L2

namespace L2
open PySem PySem.Spec PyProof.Rows
section
variable {X : Cx} {tg : Expr}
def iList (K : PySem.W.Frag) (tl : TE) : TI := fun σ H R => tl σ H fun x H1 => ∃ a, x = .ref a ∧ (∃ xs, SqL K H1 a xs) ∧ R (Itl K a) H1
theorem pi_list {l : Expr} {tl : TE} (hl : PE X l tl) : PI X tg l (iList X.K tl) := by
  intro pins s σ H R I h
  refine thn (hl pins s σ H _ I h) fun v s1 ⟨x, H1, I1, r1, q1⟩ => ?_
  obtain ⟨a, e, ⟨xs, hq⟩, q⟩ := q1
  subst e
  cases r1
  obtain ⟨its, rv, p, hz⟩ := I1.list hq
  refine wpAny_pyIter_list p.isList ?_
  refine ⟨s1.heap.objs.size, [s1.heap.objs.size], _, _, H1, rfl, I1.kept (t' := s1.toks) fun b o e => Heap.get?_push_of_some _ e, turn_list a _, ⟨_, Heap.get?_push_size _ rfl, rfl, rfl⟩, fun b hb => ?_, q⟩
  have e : b = s1.heap.objs.size := by simpa using hb
  subst e
  exact I1.fpOk (Nat.le_refl _) (I1.hok.fresh (Nat.le_refl _))
theorem range_it {pins : List (Addr × Obj)} {σ : St} {H : Hp} {s : Shared} {R : It → Hp → Prop} {E : Value → Shared → Prop} {lo hi : Int} {t u v : Tok} {tk : Nat} (I : Inv X pins σ H s) (h1 : -(2 ^ 62) ≤ lo) (h2 : lo < 2 ^ 62) (h3 : -(2 ^ 62) ≤ hi) (h4 : hi < 2 ^ 62)
    (q : R (Itr lo (hi - lo).toNat) H) : wpAny (model X.prog X.w) X.A (pyIter (.ref s.heap.objs.size)) (PIE X pins σ tg R) E { s with heap := s.heap.push { cls := .type "range", data := .fields #[.int lo t, .int hi u, .int 1 v] }, toks := tk } := by
  refine wpAny_pyIter_range (IsRange.new ..) (small_one h1 h2 h3 h4) ?_
  have I1 : Inv X pins σ H { s with heap := s.heap.push { cls := .type "range", data := .fields #[.int lo t, .int hi u, .int 1 v] }, toks := tk } := I.kept fun b o e => Heap.get?_push_of_some _ e
  refine ⟨(s.heap.push { cls := .type "range", data := .fields #[.int lo t, .int hi u, .int 1 v] }).objs.size, [(s.heap.push { cls := .type "range", data := .fields #[.int lo t, .int hi u, .int 1 v] }).objs.size], _, _, H, rfl,
    I1.kept (t' := tk) fun b o e => Heap.get?_push_of_some _ e, turn_range _ lo (hi - lo).toNat, ?_, fun b hb => ?_, q⟩
  · have e1 : lo + ((0 : Nat) : Int) * 1 = lo := by simp
    have e2 : (((hi - lo).toNat : Nat) : Int) - ((0 : Nat) : Int) = Builtin.Range.rangeSize lo hi 1 := by rw [rangeSize_one]; split <;> (clear e1 h4 h3 h2 h1; omega)
    show IsRangeIter _ _ (lo + ((0 : Nat) : Int) * 1) ((((hi - lo).toNat : Nat) : Int) - ((0 : Nat) : Int)) 1
    rw [e1, e2]
    exact Heap.get?_push_size _ rfl
  · have e : b = (s.heap.push { cls := .type "range", data := .fields #[.int lo t, .int hi u, .int 1 v] }).objs.size := by simpa using hb
    subst e
    exact I1.fpOk (Nat.le_refl _) (I1.hok.fresh (Nat.le_refl _))
def iRng1 (ta : TA) : TI := fun σ H R => ta σ H fun vs H1 => ∃ j : Int, vs = [.int j] ∧ -(2 ^ 62) ≤ j ∧ j < 2 ^ 62 ∧ R (Itr 0 j.toNat) H1
theorem pi_range1 {a : Expr} {ta : TA} {p pos : Pos} (hg : Gl X "range") (hm : X.mg "range" = none) (ha : PA X [a] ta) (hs : starEach [a] X.env = [(false, eval a X.env)] := by rfl) : PI X tg (.Call (.Name "range" p) [a] [] pos) (iRng1 ta) := by
  intro pins s σ H R I h
  refine Call_ (ld_blt I hg hm boot_range (PyProof.Rows.callWith_type1 (thn (ha pos pins s σ H _ I h) fun us s1 ⟨vs, H1, I1, r1, q1⟩ => ?_) hs rfl))
  obtain ⟨j, e, q1, q2, q⟩ := q1
  subst e
  cases r1 with
  | cons r rr =>
    cases rr
    obtain ⟨t, rfl⟩ := r
    exact call_range_1 (range_it I1 (by (clear q2 q1 hs hm; omega)) (by (clear q2 q1 hs hm; omega)) q1 q2 (by simpa using q))
def tFor (wi : TI) (g : TG) (tb : TS) : TS := fun D σ H => wi σ H fun J H1 => ∃ W : Nat → Nat → St → Hp → Prop, (∃ m, W 0 m σ H1) ∧ ∀ i m σ H, W i m σ H →
  (J.stop i H ∧ D.nx σ H) ∨ (J.go i H ∧ ∃ N : St → Hp → Prop, (∀ σ' H', N σ' H' → ∃ m', m' < m ∧ W (i + 1) m' σ' H') ∧ ∀ x H', J.yld i H x H' → g x σ H' fun σ2 H2 => tb { D with nx := N, ct := N, bk := D.nx } σ2 H2)
def pinsAt (fp : List Addr) (h : Heap) : List (Addr × Obj) := fp.filterMap fun b => (h.get? b).map fun o => (b, o)
theorem mem_pinsAt {fp : List Addr} {h : Heap} {b : Addr} {o : Obj} (hb : b ∈ fp) (e : h.get? b = some o) : (b, o) ∈ pinsAt fp h := List.mem_filterMap.mpr ⟨b, hb, by rw [e]; rfl⟩
theorem of_pinsAt {fp : List Addr} {h : Heap} {p : Addr × Obj} (hp : p ∈ pinsAt fp h) : p.1 ∈ fp ∧ h.get? p.1 = some p.2 := by
  obtain ⟨b, hb, e⟩ := List.mem_filterMap.mp hp
  cases q : h.get? b with
  | none => rw [q] at e; cases e
  | some o =>
    rw [q] at e
    have e' : (b, o) = p := Option.some.inj e
    subst e'
    exact ⟨hb, q⟩
theorem Inv.pinned {pins : List (Addr × Obj)} {σ : St} {H : Hp} {s : Shared} {fp : List Addr} (I : Inv X pins σ H s) (hf : ∀ b ∈ fp, FpOk X pins H b) (ho : ∀ b ∈ fp, ∃ o, s.heap.get? b = some o ∧ ∀ v, o.data ≠ .cell v) : Inv X (pins ++ pinsAt fp s.heap) σ H s :=
  I.pins_of fun p hp => (List.mem_append.mp hp).elim (fun z => I.pin p (List.mem_append_right _ z)) fun z => by
    obtain ⟨hb, e⟩ := of_pinsAt z
    obtain ⟨f0, f1, f2, _⟩ := hf p.1 hb
    obtain ⟨o, e', d⟩ := ho p.1 hb
    rw [e] at e'; cases e'
    exact ⟨e, f0, f1, f2, d⟩
theorem Inv.unpinned {pins pl : List (Addr × Obj)} {σ : St} {H : Hp} {s : Shared} (I : Inv X (pins ++ pl) σ H s) : Inv X pins σ H s := I.pins_of fun p hp => I.pin p (List.mem_append_right _ (List.mem_append_left _ hp))
theorem ps_for {iter : Expr} {body : List Stmt} {wi : TI} {g : TG} {tb : TS} {pos : Pos} (hp : PassesOwn (model X.prog X.w) X.A X.env X.xe) (hc : X.calm = true) (hi : PI X tg iter wi) (hg : PG X tg g) (hb : PSs X body tb)
    (hs : ∀ x, foldedSetIterable iter X.env x = pure x := by intro _; rfl) : PS X (.For tg iter body [] pos) (tFor wi g tb) := by
  intro pins s σ H D I h
  refine wpAny_For (thn (hi pins s σ H _ I h) fun v s1 h1 => thn h1 fun itv s2 h2 => ?_) hs
  obtain ⟨it, fp, tn, J, H2, e, I2, T, st2, f2, W, ⟨m0, w0⟩, turn⟩ := h2
  subst e
  have stat : ∀ {H' : Hp}, (∀ b ∈ fp, H' b = none) → ∀ b ∈ fp, FpOk X pins H' b := fun hn b hb => ⟨hn b hb, (f2 b hb).2⟩
  refine codeAny_forLoop_any (fun n s' => ∃ i σ' H', Inv X pins σ' H' s' ∧ tn i s'.heap ∧ (∀ b ∈ fp, H' b = none) ∧ W i n σ' H') ?_ m0 ⟨0, σ, H2, I2, st2, fun b hb => (f2 b hb).1, w0⟩
  rintro n s3 ⟨i, σ3, H3, I3, st3, fr3, w3⟩
  rcases turn i n σ3 H3 w3 with ⟨stop, qn⟩ | ⟨go, N, hN, step⟩
  · refine wpAny_passesOwn hp (thn (T.done X rfl rfl rfl hc i pins s3 σ3 H3 X.xe I3 (stat fr3) st3 stop) fun r s4 ⟨hr, I4⟩ => ?_)
    subst hr
    exact wpAny_execs_nil ⟨σ3, H3, I4, qn⟩
  · refine wpAny_passesOwn hp (thn (T.item X rfl rfl rfl hc i pins s3 σ3 H3 X.xe I3 (stat fr3) st3 go) fun r s4 ⟨u, hr, h4⟩ => ?_)
    subst hr
    refine wpAny_passesOwn hp (thn h4 fun _ s5 ⟨x, H5, I5, r5, y5, st5, fr5⟩ => ?_)
    have I5' := I5.pinned (stat fr5) (T.obj _ _ st5)
    refine wpAny_passesOwn hp (thn (hg _ s5 σ3 H5 x u _ I5' r5 (step x H5 y5)) fun _ s6 ⟨σ6, H6, I6, q6⟩ => ?_)
    refine wpAny_passesOwn hp (thn (hb _ s6 σ6 H6 _ I6 q6) fun f s7 q7 => ?_)
    have again : ∀ {σ7 : St} {H7 : Hp}, Inv X (pins ++ pinsAt fp s5.heap) σ7 H7 s7 → N σ7 H7 → ∃ m, m < n ∧ ∃ i σ' H', Inv X pins σ' H' s7 ∧ tn i s7.heap ∧ (∀ b ∈ fp, H' b = none) ∧ W i m σ' H' := fun {σ7 H7} I7 n7 => by
      obtain ⟨m', hm, w7⟩ := hN σ7 H7 n7
      refine ⟨m', hm, i + 1, σ7, H7, I7.unpinned, T.keep _ _ _ st5 fun b hb o e => (I7.pin (b, o) (List.mem_append_right _ (List.mem_append_right _ (mem_pinsAt hb e)))).1, fun b hb => ?_, w7⟩
      obtain ⟨o, e, d⟩ := T.obj _ _ st5 b hb
      exact (I7.pin (b, o) (List.mem_append_right _ (List.mem_append_right _ (mem_pinsAt hb e)))).2.1
    cases f with
    | next => obtain ⟨σ7, H7, I7, n7⟩ := q7; exact again I7 n7
    | cont => obtain ⟨σ7, H7, I7, n7⟩ := q7; exact again I7 n7
    | brk => obtain ⟨σ7, H7, I7, q7⟩ := q7; exact ⟨σ7, H7, I7.unpinned, q7⟩
    | ret v => obtain ⟨x7, σ7, H7, I7, r7, q7⟩ := q7; exact ⟨x7, σ7, H7, I7.unpinned, r7, q7⟩
end

theorem for_list {K : PySem.W.Frag} {a : Addr} {xs : List V} {g : TG} {tb : TS} {D : Ends} {σ : St} {H : Hp} (Pv : Nat → St → Hp → Prop) (h0 : Pv 0 σ H) (hl : ∀ i σ H, i ≤ xs.length → Pv i σ H → SqL K H a xs)
    (hs : ∀ i x σ H, xs[i]? = some x → Pv i σ H → g x σ H fun σ2 H2 => tb { D with nx := Pv (i + 1), ct := Pv (i + 1), bk := D.nx } σ2 H2) (hd : ∀ σ H, Pv xs.length σ H → D.nx σ H) :
    ∃ W : Nat → Nat → St → Hp → Prop, (∃ m, W 0 m σ H) ∧ ∀ i m σ H, W i m σ H →
      ((Itl K a).stop i H ∧ D.nx σ H) ∨ ((Itl K a).go i H ∧ ∃ N : St → Hp → Prop, (∀ σ' H', N σ' H' → ∃ m', m' < m ∧ W (i + 1) m' σ' H') ∧ ∀ x H', (Itl K a).yld i H x H' → g x σ H' fun σ2 H2 => tb { D with nx := N, ct := N, bk := D.nx } σ2 H2) := by
  refine ⟨fun i m σ H => m = xs.length - i ∧ i ≤ xs.length ∧ Pv i σ H, ⟨xs.length, by simp, Nat.zero_le _, h0⟩, ?_⟩
  rintro i m σ H ⟨rfl, hi, p⟩
  have q := hl i σ H hi p
  by_cases hlt : i < xs.length
  · refine .inr ⟨⟨xs, xs[i], q, by simp [hlt]⟩, Pv (i + 1), fun σ' H' p' => ⟨xs.length - (i + 1), by (clear hi; omega), rfl, hlt, p'⟩, fun x H' y => ?_⟩
    obtain ⟨e, y⟩ := y
    subst e
    exact hs i x σ _ (y xs q) p
  · have e : i = xs.length := by omega
    subst e
    exact .inl ⟨⟨xs, q, Nat.le_refl _⟩, hd σ H p⟩
theorem for_range {lo : Int} {n : Nat} {g : TG} {tb : TS} {D : Ends} {σ : St} {H : Hp} (Pv : Nat → St → Hp → Prop) (h0 : Pv 0 σ H)
    (hs : ∀ i σ H, i < n → Pv i σ H → g (.int (lo + i)) σ H fun σ2 H2 => tb { D with nx := Pv (i + 1), ct := Pv (i + 1), bk := D.nx } σ2 H2) (hd : ∀ σ H, Pv n σ H → D.nx σ H) :
    ∃ W : Nat → Nat → St → Hp → Prop, (∃ m, W 0 m σ H) ∧ ∀ i m σ H, W i m σ H →
      ((Itr lo n).stop i H ∧ D.nx σ H) ∨ ((Itr lo n).go i H ∧ ∃ N : St → Hp → Prop, (∀ σ' H', N σ' H' → ∃ m', m' < m ∧ W (i + 1) m' σ' H') ∧ ∀ x H', (Itr lo n).yld i H x H' → g x σ H' fun σ2 H2 => tb { D with nx := N, ct := N, bk := D.nx } σ2 H2) := by
  refine ⟨fun i m σ H => m = n - i ∧ i ≤ n ∧ Pv i σ H, ⟨n, by simp, Nat.zero_le _, h0⟩, ?_⟩
  rintro i m σ H ⟨rfl, hi, p⟩
  by_cases hlt : i < n
  · refine .inr ⟨hlt, Pv (i + 1), fun σ' H' p' => ⟨n - (i + 1), by (clear hi; omega), rfl, hlt, p'⟩, fun x H' y => ?_⟩
    obtain ⟨e, y⟩ := y
    subst e y
    exact hs i σ _ hlt p
  · have e : i = n := by omega
    subst e
    exact .inl ⟨Nat.le_refl _, hd σ H p⟩
end L2

namespace L2
open PySem PySem.Spec PyProof.Rows

abbrev R2 := V → V → Hp → VK → Prop
def OpR (X : Cx) (f : Value → Value → Sem Value) (r : R2) : Prop :=
  ∀ (pins : List (Addr × Obj)) (s : Shared) (σ : St) (H : Hp) (x y : V) (v u : Value) (Q : VK), Inv X pins σ H s → RelV x v → RelV y u → r x y H Q →
    wpAny (model X.prog X.w) X.A (f v u) (EP X pins σ Q) X.xe s
def UnR (X : Cx) (f : Value → Sem Value) (r : V → Hp → VK → Prop) : Prop :=
  ∀ (pins : List (Addr × Obj)) (s : Shared) (σ : St) (H : Hp) (x : V) (v : Value) (Q : VK), Inv X pins σ H s → RelV x v → r x H Q →
    wpAny (model X.prog X.w) X.A (f v) (EP X pins σ Q) X.xe s
def CallR (X : Cx) (f : Value) (r : List V → Hp → VK → Prop) : Prop :=
  ∀ (pins : List (Addr × Obj)) (s : Shared) (σ : St) (H : Hp) (xs : List V) (us : List Value) (Q : VK), Inv X pins σ H s → Vals xs us → r xs H Q →
    wpAny (model X.prog X.w) X.A (call f us) (EP X pins σ Q) X.xe s
def tOp (r : R2) (ta tb : TE) : TE := fun σ H Q => ta σ H fun x H1 => tb σ H1 fun y H2 => r x y H2 Q
def tUn (r : V → Hp → VK → Prop) (ta : TE) : TE := fun σ H Q => ta σ H fun x H1 => r x H1 Q
def rI (C : Int → Int → Prop) (g : Int → Int → V) : R2 := fun x y H Q => ∃ i j, x = .int i ∧ y = .int j ∧ C i j ∧ Q (g i j) H
def rI0 (g : Int → Int → V) : R2 := fun x y H Q => ∃ i j, x = .int i ∧ y = .int j ∧ Q (g i j) H
def rU (g : Int → V) : V → Hp → VK → Prop := fun x H Q => ∃ i, x = .int i ∧ Q (g i) H

section
variable {X : Cx} {a b c : Expr} {ta tb tc : TE} {pos : Pos}

theorem binT (ha : PE X a ta) (hb : PE X b tb) {pins : List (Addr × Obj)} {s : Shared} {σ : St} {H : Hp} {R : V → V → Hp → Prop} (I : Inv X pins σ H s)
    (h : ta σ H fun x H1 => tb σ H1 fun y H2 => R x y H2) {Q : Value → Shared → Prop} {f : Value → Value → Sem Value}
    (hf : ∀ v u s2 x y H2, Inv X pins σ H2 s2 → RelV x v → RelV y u → R x y H2 → wpAny (model X.prog X.w) X.A (f v u) Q X.xe s2) :
    wpAny (model X.prog X.w) X.A (eval a X.env) (fun v s₁ => wpAny (model X.prog X.w) X.A (eval b X.env) (fun u s₂ => wpAny (model X.prog X.w) X.A (f v u) Q X.xe s₂) X.xe s₁) X.xe s := by
  refine thn (ha pins s σ H _ I h) fun v s1 ⟨x, H1, I1, r1, q1⟩ => ?_
  refine thn (hb pins s1 σ H1 _ I1 q1) fun u s2 ⟨y, H2, I2, r2, q2⟩ => ?_
  exact hf v u s2 x y H2 I2 r1 r2 q2

theorem pe_op {op : Operator} {r : R2} (ho : OpR X (binaryOp op) r) (ha : PE X a ta) (hb : PE X b tb) : PE X (.BinOp a op b pos) (tOp r ta tb) := by
  intro pins s σ H Q I h
  exact wpAny_BinOp (binT ha hb I h fun v u s2 x y H2 I2 rx ry q => ho pins s2 σ H2 x y v u Q I2 rx ry q)
theorem pe_un {op : UnaryOp} {r : V → Hp → VK → Prop} (ho : UnR X (unaryOp op) r) (ha : PE X a ta) : PE X (.UnaryOp op a pos) (tUn r ta) := by
  intro pins s σ H Q I h
  exact UnaryOp_ (thn (ha pins s σ H _ I h) fun v s1 ⟨x, H1, I1, r1, q1⟩ => ho pins s1 σ H1 x v Q I1 r1 q1)
theorem opI {f : Value → Value → Sem Value} {C : Int → Int → Prop} {g : Int → Int → Int}
    (rule : ∀ (i j : Int) (t u : Tok) (s : Shared) (Q : Value → Shared → Prop) (E : Value → Shared → Prop), C i j → Q (.int (g i j) s.toks) { s with toks := s.toks + 1 } → wpAny (model X.prog X.w) X.A (f (.int i t) (.int j u)) Q E s) :
    OpR X f (rI C fun i j => .int (g i j)) := by
  intro pins s σ H x y v u Q I rx ry h
  obtain ⟨i, j, rfl, rfl, hc, q⟩ := h
  obtain ⟨t, rfl⟩ := rx
  obtain ⟨t', rfl⟩ := ry
  exact rule i j t t' s _ _ hc ⟨.int (g i j), H, I.tok _, ⟨_, rfl⟩, q⟩
theorem opI0 {f : Value → Value → Sem Value} {g : Int → Int → Int}
    (rule : ∀ (i j : Int) (t u : Tok) (s : Shared) (Q : Value → Shared → Prop) (E : Value → Shared → Prop), Q (.int (g i j) s.toks) { s with toks := s.toks + 1 } → wpAny (model X.prog X.w) X.A (f (.int i t) (.int j u)) Q E s) :
    OpR X f (rI0 fun i j => .int (g i j)) := by
  intro pins s σ H x y v u Q I rx ry h
  obtain ⟨i, j, rfl, rfl, q⟩ := h
  obtain ⟨t, rfl⟩ := rx
  obtain ⟨t', rfl⟩ := ry
  exact rule i j t t' s _ _ ⟨.int (g i j), H, I.tok _, ⟨_, rfl⟩, q⟩
theorem opB0 {f : Value → Value → Sem Value} {g : Int → Int → Bool}
    (rule : ∀ (i j : Int) (t u : Tok) (s : Shared) (Q : Value → Shared → Prop) (E : Value → Shared → Prop), Q (.bool (g i j)) s → wpAny (model X.prog X.w) X.A (f (.int i t) (.int j u)) Q E s) :
    OpR X f (rI0 fun i j => .bl (g i j)) := by
  intro pins s σ H x y v u Q I rx ry h
  obtain ⟨i, j, rfl, rfl, q⟩ := h
  obtain ⟨t, rfl⟩ := rx
  obtain ⟨t', rfl⟩ := ry
  exact rule i j t t' s _ _ ⟨.bl (g i j), H, I, rfl, q⟩

def CDiv (i j : Int) : Prop := 0 < j ∧ j < 1073741824
def CPow (i j : Int) : Prop := 0 ≤ j ∧ j ≤ 1000000 ∧ i.natAbs < 2 ^ 64
def CMul (i j : Int) : Prop := (-(2 ^ 64) < i ∧ i < 2 ^ 64) ∨ (-(2 ^ 64) < j ∧ j < 2 ^ 64)
theorem CMul.ok {i j : Int} (h : CMul i j) : IntMulOk i j := by
  rcases h with ⟨h1, h2⟩ | ⟨h1, h2⟩
  · exact .of_left (intBits_le_64 h1 h2)
  · exact .of_right (intBits_le_64 h1 h2)
theorem op_add : OpR X (binaryOp .Add) (rI0 fun i j => .int (i + j)) := opI0 fun _ _ _ _ _ _ _ q => add_int q
theorem op_sub : OpR X (binaryOp .Sub) (rI0 fun i j => .int (i - j)) := opI0 fun _ _ _ _ _ _ _ q => sub_int q
theorem op_mul : OpR X (binaryOp .Mult) (rI CMul fun i j => .int (i * j)) := opI fun _ _ _ _ _ _ _ hc q => mul_int q hc.ok
/-- // by a positive divisor -/
theorem op_fdiv : OpR X (binaryOp .FloorDiv) (rI CDiv fun i j => .int (i / j)) := opI fun i j _ _ _ _ _ hc q => by
  have h1 : (0 : Int) < j := hc.1
  have h2 : j < 1073741824 := hc.2
  exact floordiv_int (by (clear h2; omega)) (by rw [Int.fdiv_eq_ediv_of_nonneg i (by (clear h2; omega))]; exact q) (.inl (PyProof.noPylong_small (by omega)))
theorem op_mod : OpR X (binaryOp .Mod) (rI (fun _ j => 0 < j) fun i j => .int (i % j)) := opI fun i j _ _ _ _ _ hc q => by
  have h1 : (0 : Int) < j := hc
  exact mod_int' (by (clear h1; omega)) (by rw [Int.fmod_eq_emod_of_nonneg i (by (clear h1; omega))]; exact q)
theorem op_pow : OpR X (binaryOp .Pow) (rI CPow fun i j => .int (i ^ j.toNat)) := opI fun _ _ _ _ _ _ _ hc q => pow_int_small hc.1 hc.2.1 hc.2.2 q
theorem unI {f : Value → Sem Value} {g : Int → Int}
    (rule : ∀ (i : Int) (t : Tok) (s : Shared) (Q : Value → Shared → Prop) (E : Value → Shared → Prop), Q (.int (g i) s.toks) { s with toks := s.toks + 1 } → wpAny (model X.prog X.w) X.A (f (.int i t)) Q E s) :
    UnR X f (rU fun i => .int (g i)) := by
  intro pins s σ H x v Q I rx h
  obtain ⟨i, rfl, q⟩ := h
  obtain ⟨t, rfl⟩ := rx
  exact rule i t s _ _ ⟨.int (g i), H, I.tok _, ⟨_, rfl⟩, q⟩
theorem un_neg : UnR X (unaryOp .USub) (rU fun i => .int (-i)) := unI fun _ _ _ _ _ q => neg_int q
end

def scal : V → V → Bool
  | .non, .non => true | .non, .int _ => true | .int _, .non => true | .non, .bl _ => true | .bl _, .non => true | .non, .str _ => true | .str _, .non => true
  | .int _, .int _ => true | .bl _, .bl _ => true | .str _, .str _ => true | .byt _, .byt _ => true
  | .int _, .str _ => true | .str _, .int _ => true | .bl _, .str _ => true | .str _, .bl _ => true
  | _, _ => false
def rEq : R2 := fun x y H Q => scal x y = true ∧ Q (.bl (decide (x = y))) H
theorem dec_int {i j : Int} : decide (V.int i = V.int j) = (i == j) := by
  rw [Bool.eq_iff_iff]
  simp
theorem dec_bl {i j : Bool} : decide (V.bl i = V.bl j) = (i == j) := by
  rw [Bool.eq_iff_iff]
  simp
theorem dec_str {i j : Str} : decide (V.str i = V.str j) = (i == j) := by
  rw [Bool.eq_iff_iff]
  simp
theorem dec_byt {i j : Array UInt8} : decide (V.byt i = V.byt j) = (i.toList == j.toList) := by
  rw [Bool.eq_iff_iff]
  cases i
  cases j
  simp

section
variable {X : Cx} {a b c : Expr} {ta tb tc : TE} {pos : Pos}
theorem fin_bl {pins : List (Addr × Obj)} {σ : St} {H : Hp} {s : Shared} {Q : VK} {k k' : Bool} (I : Inv X pins σ H s) (q : Q (.bl k) H) (e : k = k') : EP X pins σ Q (.bool k') s := by
  subst e
  exact ⟨.bl k, H, I, rfl, q⟩
theorem op_eq : OpR X (compareOp .Eq) rEq := by
  intro pins s σ H x y v u Q I rx ry h
  obtain ⟨hs, q⟩ := h
  cases x with
  | non =>
    cases rx
    cases y with
    | non => cases ry; exact PySem.EqNone.eq_none_none (fin_bl I q (by simp))
    | bl j => cases ry; exact PySem.EqNone.eq_none_bool (fin_bl I q (by simp))
    | int j => obtain ⟨t', rfl⟩ := ry; exact PySem.EqNone.eq_none_int (fin_bl I q (by simp))
    | str j => obtain ⟨t', rfl⟩ := ry; exact PySem.EqNone.eq_none_str (fin_bl I q (by simp))
    | _ => exact absurd (show false = true from hs) Bool.false_ne_true
  | bl i =>
    cases rx
    cases y with
    | non => cases ry; exact PySem.EqNone.eq_bool_none (fin_bl I q (by simp))
    | bl j => cases ry; exact eq_bool (fin_bl I q dec_bl)
    | str j => obtain ⟨t', rfl⟩ := ry; exact PySem.EqMixed.eq_bool_str (fin_bl I q (by simp))
    | _ => exact absurd (show false = true from hs) Bool.false_ne_true
  | int i =>
    obtain ⟨t, rfl⟩ := rx
    cases y with
    | non => cases ry; exact PySem.EqNone.eq_int_none (fin_bl I q (by simp))
    | int j => obtain ⟨t', rfl⟩ := ry; exact eq_int (fin_bl I q dec_int)
    | str j => obtain ⟨t', rfl⟩ := ry; exact PySem.EqMixed.eq_int_str (fin_bl I q (by simp))
    | _ => exact absurd (show false = true from hs) Bool.false_ne_true
  | str i =>
    obtain ⟨t, rfl⟩ := rx
    cases y with
    | non => cases ry; exact PySem.EqNone.eq_str_none (fin_bl I q (by simp))
    | bl j => cases ry; exact PySem.EqMixed.eq_str_bool (fin_bl I q (by simp))
    | int j => obtain ⟨t', rfl⟩ := ry; exact PySem.EqMixed.eq_str_int (fin_bl I q (by simp))
    | str j => obtain ⟨t', rfl⟩ := ry; exact eq_str (fin_bl I q dec_str)
    | _ => exact absurd (show false = true from hs) Bool.false_ne_true
  | byt i =>
    obtain ⟨t, rfl⟩ := rx
    cases y with
    | byt j => obtain ⟨t', rfl⟩ := ry; exact PySem.W.eq_bytes (fin_bl I q dec_byt)
    | _ => exact absurd (show false = true from hs) Bool.false_ne_true
  | _ => cases y <;> exact absurd (show false = true from hs) Bool.false_ne_true
theorem op_lt : OpR X (compareOp .Lt) (rI0 fun i j => .bl (decide (i < j))) := opB0 fun _ _ _ _ _ _ _ q => lt_int q
theorem op_le : OpR X (compareOp .LtE) (rI0 fun i j => .bl (decide (i ≤ j))) := opB0 fun _ _ _ _ _ _ _ q => le_int q
theorem op_gt : OpR X (compareOp .Gt) (rI0 fun i j => .bl (decide (j < i))) := opB0 fun _ _ _ _ _ _ _ q => gt_int q
theorem op_ge : OpR X (compareOp .GtE) (rI0 fun i j => .bl (decide (j ≤ i))) := opB0 fun _ _ _ _ _ _ _ q => ge_int q
theorem op_isN : OpR X (compareOp .Is) (fun x y H Q => y = .non ∧ Q (.bl (decide (x = .non))) H) := by
  intro pins s σ H x y v u Q I rx ry h
  obtain ⟨rfl, q⟩ := h
  cases ry
  refine is_none_gen (fin_bl I q ?_)
  cases x <;> first
    | (cases rx; rfl)
    | (obtain ⟨t, rfl⟩ := rx; rfl)
theorem op_notN : OpR X (compareOp .IsNot) (fun x y H Q => y = .non ∧ Q (.bl (!decide (x = .non))) H) := by
  intro pins s σ H x y v u Q I rx ry h
  obtain ⟨rfl, q⟩ := h
  cases ry
  refine isnot_none_gen (fin_bl I q ?_)
  cases x <;> first
    | (cases rx; rfl)
    | (obtain ⟨t, rfl⟩ := rx; rfl)

theorem nomark (b : Expr) {op : CmpOp} (h : op ≠ .In := by decide) (h2 : op ≠ .NotIn := by decide) : behindInMarks op b = false := by
  have e1 : (op == CmpOp.In) = false := by cases op <;> first | rfl | exact absurd rfl h
  have e2 : (op == CmpOp.NotIn) = false := by cases op <;> first | rfl | exact absurd rfl h2
  cases b <;> simp [behindInMarks, e1, e2]
theorem pe_cmpR {op : CmpOp} {r : R2} (ho : OpR X (compareOp op) r) (ha : PE X a ta) (hb : PE X b tb) (hm : behindInMarks op b = false) : PE X (.Compare a [op] [b] pos) (tOp r ta tb) := by
  intro pins s σ H Q I h
  exact wpAny_Compare1 (binT ha hb I h fun v u s2 x y H2 I2 rx ry q => ho pins s2 σ H2 x y v u Q I2 rx ry q) hm
def tTest (t : TE) : TT := fun σ H Q => t σ H fun x H' => ∃ k, x = .bl k ∧ Q k H'
theorem pt_cmpR {op : CmpOp} {r : R2} (ho : OpR X (compareOp op) r) (ha : PE X a ta) (hb : PE X b tb) (hm : behindInMarks op b = false) : PT X (.Compare a [op] [b] pos) (tTest (tOp r ta tb)) := by
  intro pins s σ H Q I h
  refine wpAny_isTrue_Compare1 (thn (ha pins s σ H _ I h) fun v s1 ⟨x, H1, I1, r1, q1⟩ => thn (hb pins s1 σ H1 _ I1 q1) fun u s2 ⟨y, H2, I2, r2, q2⟩ =>
    thn (ho pins s2 σ H2 x y v u _ I2 r1 r2 q2) fun c s3 ⟨z, H3, I3, r3, k, e, q3⟩ => ?_) hm
  subst e
  cases r3
  exact wpAny_truthy_bool ⟨H3, I3, q3⟩
def tChain (r r' : R2) (ta tb tc : TE) : TE := fun σ H Q => ta σ H fun x H1 => tb σ H1 fun y H2 => r x y H2 fun z H3 => ∃ k, z = .bl k ∧
  (if k = true then tc σ H3 fun w' H4 => r' y w' H4 Q else Q (.bl false) H3)
theorem pt_chain {op op' : CmpOp} {r r' : R2} (ho : OpR X (compareOp op) r) (ho' : OpR X (compareOp op') r') (ha : PE X a ta) (hb : PE X b tb) (hc : PE X c tc)
    (hm : lastMarks [op, op'] [b, c] = false := by with_unfolding_all rfl) : PT X (.Compare a [op, op'] [b, c] pos) (tTest (tChain r r' ta tb tc)) := by
  intro pins s σ H Q I h
  refine isTrue_chain (thn (ha pins s σ H _ I h) fun v s1 ⟨x, H1, I1, r1, q1⟩ => test_link (thn (hb pins s1 σ H1 _ I1 q1) fun u s2 ⟨y, H2, I2, r2, q2⟩ =>
    thn (ho pins s2 σ H2 x y v u _ I2 r1 r2 q2) fun d s3 ⟨z, H3, I3, r3, k, e, q3⟩ => ?_)) hm
  subst e
  cases r3
  refine wpAny_truthy_bool ?_
  cases k with
  | false =>
    obtain ⟨k', e', q'⟩ := q3
    cases e'
    exact ite_ff ⟨H3, I3, q'⟩
  | true =>
    refine ite_tt (test_last (thn (hc pins s3 σ H3 _ I3 q3) fun w' s4 ⟨z', H4, I4, r4, q4⟩ => thn (ho' pins s4 σ H4 y z' u w' _ I4 r2 r4 q4) fun d' s5 ⟨z2, H5, I5, r5, k2, e2, q5⟩ => ?_))
    subst e2
    cases r5
    exact wpAny_truthy_bool ⟨H5, I5, q5⟩

theorem line63 : (sizeLine : Nat) < 2 ^ 63 := by rw [sizeLine_eq]; decide
theorem vals1 {x : V} {us : List Value} (r : Vals [x] us) : ∃ u, us = [u] ∧ RelV x u := by
  cases r with
  | cons r1 r2 => cases r2; exact ⟨_, rfl, r1⟩
theorem vals2 {x y : V} {us : List Value} (r : Vals [x, y] us) : ∃ u w', us = [u, w'] ∧ RelV x u ∧ RelV y w' := by
  cases r with
  | cons r1 r2 =>
    cases r2 with
    | cons r3 r4 => cases r4; exact ⟨_, _, rfl, r1, r3⟩
theorem call_max2 (hc : X.calm = true) : CallR X (.builtin "max") (fun xs H Q => ∃ i j, xs = [.int i, .int j] ∧ Q (.int (if j > i then j else i)) H) := by
  intro pins s σ H xs us Q I r h
  obtain ⟨i, j, rfl, q⟩ := h
  obtain ⟨u, w', rfl, ⟨t, rfl⟩, ⟨t', rfl⟩⟩ := vals2 r
  refine max_two_ints (I.ok.hd hc) fun h' tk k => ⟨_, H, I.kept k, ?_, q⟩
  by_cases hj : j > i
  · rw [if_pos hj, if_pos hj]; exact ⟨_, rfl⟩
  · rw [if_neg hj, if_neg hj]; exact ⟨_, rfl⟩
theorem call_min2 (hc : X.calm = true) : CallR X (.builtin "min") (fun xs H Q => ∃ i j, xs = [.int i, .int j] ∧ Q (.int (if j < i then j else i)) H) := by
  intro pins s σ H xs us Q I r h
  obtain ⟨i, j, rfl, q⟩ := h
  obtain ⟨u, w', rfl, ⟨t, rfl⟩, ⟨t', rfl⟩⟩ := vals2 r
  refine min_two_ints (I.ok.hd hc) fun h' tk k => ⟨_, H, I.kept k, ?_, q⟩
  by_cases hj : j < i
  · rw [if_pos hj, if_pos hj]; exact ⟨_, rfl⟩
  · rw [if_neg hj, if_neg hj]; exact ⟨_, rfl⟩
end
end L2

namespace L2
open PySem PySem.Spec PyProof.Rows

structure ObjM (h : Heap) (x dx C : Addr) (mA : Str → Option Value) : Prop where
  obj : h.get? x = some (PySem.W.instObj C dx)
  ns : h.Ns1 dx mA
  ne : dx ≠ x

theorem lookIn_ns {h : Heap} {dx : Addr} {mA : Str → Option Value} (n : h.Ns1 dx mA) : ∃ od, h.get? dx = some od ∧ ∀ name, PySem.W.lookIn name od = some (mA name) := by
  obtain ⟨o, es, ep, ho, hd, hk, _, hm⟩ := n
  refine ⟨o, ho, fun name => ?_⟩
  have e := hm name
  unfold nsFind findBy at e
  rw [← Array.find?_toList] at e
  unfold PySem.W.lookIn
  rw [hd]
  dsimp only
  split
  · rename_i y q
    rw [q] at e
    exact congrArg some e
  · rename_i q
    rw [q] at e
    have a : es.toList.any (·.refKey) = false := by
      rw [List.any_eq_false]
      intro y hy
      obtain ⟨z, t, hkey⟩ := hk y (Array.mem_toList_iff.mp hy)
      simp [DictEntry.refKey, hkey]
    have a' : ¬ es.toList.any (·.refKey) = true := by rw [a]; exact Bool.false_ne_true
    rw [if_neg a']
    exact congrArg some e

theorem ObjM.look {h : Heap} {x dx C : Addr} {mA : Str → Option Value} (I : ObjM h x dx C mA) : ∃ od, PySem.W.InstAt h x (PySem.W.instObj C dx) C (some od) ∧ ∀ name, PySem.W.lookIn name od = some (mA name) :=
  let ⟨od, ho, hl⟩ := lookIn_ns I.ns
  ⟨od, ⟨I.obj, rfl, rfl, ho⟩, hl⟩

section
variable {prog : Program} {w : World} {A : Around} {E : Value → Shared → Prop} {s : Shared} {K : PySem.W.Frag} {x dx C f : Addr} {mA : Str → Option Value} {name : Str} {v : Value}

theorem get_map {expr : Bool} {Q : Value → Shared → Prop} (X : K.In s.heap) (I : ObjM s.heap x dx C mA) (hg : PySem.W.plainGet K C name = true) (hh : PySem.W.hasDictIn K C = true)
    (ha : PySem.W.findIn K (.ref C) name = some none) (hv : mA name = some v) (hv' : PySem.W.handedIn v = true) (h : Q v { s with toks := s.toks + 1 }) :
    wpAny (model prog w) A (getAttr (.ref x) name expr) Q E s := by
  obtain ⟨od, J, hl⟩ := I.look
  exact PySem.W.get_value X J (PySem.W.plainGet_of hg).1 (PySem.W.findObj_own hh ha rfl (by rw [hl, hv])) hv' h

theorem get_meth {pl : Sem Bool} {Q : Value × List Value → Shared → Prop} (X : K.In s.heap) (I : ObjM s.heap x dx C mA) (hg : PySem.W.plainGet K C name = true)
    (hf : PySem.W.findIn K (.ref C) name = some (some (.ref f))) (ht : PySem.W.isFn K (.ref f) = true) (hv : mA name = none) (h : Q (.ref f, [.ref x]) s) :
    wpAny (model prog w) A (getMethod (.ref x) name pl) Q E s := by
  obtain ⟨od, J, hl⟩ := I.look
  exact PySem.W.method_fn X J (PySem.W.plainGet_of hg).1 (PySem.W.plainGet_of hg).2 hf (beq_iff_eq.mp ht) (by show (PySem.W.lookIn name od).map (·.isSome) = some false; rw [hl, hv]; rfl) h

theorem set_map {ns : List Str} {Q : Unit → Shared → Prop} (X : K.In s.heap) (I : ObjM s.heap x dx C mA)
    (hs : PySem.W.findIn K (.ref C) "__setattr__" = some (some (.builtin "object.__setattr__"))) (hp : PySem.W.plainOver K C = true) (ht : PySem.W.takerIn K C name = some none) (hh : PySem.W.hasDictIn K C = true)
    (hw : PySem.Within mA ns) (hsz : ns.length ≤ sizeLine)
    (h : ∀ h', ObjM h' x dx C (fun y => if y = name then some v else mA y) → Heap.SameBut dx s.heap h' → Q () { s with heap := h', toks := s.toks + 2 }) :
    wpAny (model prog w) A (setAttr (.ref x) name v) Q E s := by
  obtain ⟨od, J, hl⟩ := I.look
  refine PySem.W.set_plain X J hs (PySem.W.osa_open (s := { s with toks := s.toks + 1 }) (r := none) X J hp ht fun b => ?_)
  obtain ⟨cd, hc, hd'⟩ := PySem.W.any_some hh
  have hx : s.heap.get? x = some ⟨.ref C, some dx, .plain, #[]⟩ := I.obj
  refine wpAny_bind (wpAny_pure (wpAny_bind (wpAny_bind (wpAny_loadPart hx (wpAny_bind (PySem.W.Looks.here (s := { s with toks := s.toks + 1 }) (PySem.W.looks_clsIn X hc) ?_))))))
  rw [hd']
  refine wpAny_pure (a := some dx) (wpAny_bind (wpAny_pure (wpAny_bind ?_)))
  refine wpAny_nsSet1 (s := { s with toks := s.toks + 1 }) I.ns fun h' hn2 hs2 => ?_
  obtain ⟨oD, esD, epD, hoD, hdD, hcD⟩ := hn2.count (PySem.Within.cons name v hw)
  refine wpAny_bind (wpAny_lookBehind hoD (by rw [hdD]; exact pastItsLine_dict (Nat.le_trans hcD (by rw [List.length_cons]; (clear hcD hdD hoD hx hd' hc hh ht hp hs; omega)))) ?_)
  exact wpAny_pure (h _ ⟨(hs2.2 _ (Ne.symm I.ne)).trans I.obj, hn2, I.ne⟩ hs2)

theorem make_map {R : Result → Shared → Prop} {vs : List Value} {kw : List (Str × Value)} (X : K.In s.heap) (hm : PySem.W.makesIn K C = true)
    (hi : PySem.W.findIn K (.ref C) "__init__" = some (some (.ref f))) (hf : PySem.W.typeIn K (.ref f) = some (.type "function"))
    (h : codeAny (model prog w) (A.under (.builtin "type.__call__" ⟨.ref C :: vs, kw⟩)) (.call (.ref f) ⟨.ref (s.heap.objs.size + 1) :: vs, kw⟩) (PySem.W.InitBack (s.heap.objs.size + 1) R)
      { s with heap := (s.heap.push PySem.W.emptyDict).push (PySem.W.instObj C s.heap.objs.size) }) :
    codeAny (model prog w) A (.call (.ref C) ⟨vs, kw⟩) R s := by
  obtain ⟨hh, g, d, t, os⟩ := s
  exact PySem.W.make_core (PySem.W.makes_of X hm) (PySem.W.looks_findIn X hi) (fun self => PySem.W.bind_fn X self hf) (.inl rfl) h
end

def putF (f : Str) (v : V) : List (Str × V) → List (Str × V)
  | [] => [(f, v)]
  | (g, x) :: r => if g = f then (g, v) :: r else (g, x) :: putF f v r
theorem lookup_putF (f g : Str) (v : V) : ∀ fs : List (Str × V), (putF f v fs).lookup g = if g = f then some v else fs.lookup g
  | [] => by
    show List.lookup g [(f, v)] = _
    by_cases h : g = f
    · have hb : (g == f) = true := beq_iff_eq.mpr h
      simp only [List.lookup, hb, if_pos h]
    · have hb : (g == f) = false := beq_eq_false_iff_ne.mpr h
      simp only [List.lookup, hb, if_neg h]
  | (k, x) :: r => by
    have ih := lookup_putF f g v r
    rw [show putF f v ((k, x) :: r) = (if k = f then (k, v) :: r else (k, x) :: putF f v r) from rfl]
    by_cases hk : k = f
    · rw [if_pos hk]
      by_cases h : g = k
      · have hb : (g == k) = true := beq_iff_eq.mpr h
        simp only [List.lookup, hb, if_pos (h.trans hk)]
      · have hb : (g == k) = false := beq_eq_false_iff_ne.mpr h
        simp only [List.lookup, hb, if_neg (fun e : g = f => h (e.trans hk.symm))]
    · rw [if_neg hk]
      by_cases h : g = k
      · have hb : (g == k) = true := beq_iff_eq.mpr h
        simp only [List.lookup, hb, if_neg (fun e : g = f => hk (h.symm.trans e))]
      · have hb : (g == k) = false := beq_eq_false_iff_ne.mpr h
        simp only [List.lookup, hb]
        exact ih
theorem keys_putF (f : Str) (v : V) : ∀ fs : List (Str × V), f ∈ (putF f v fs).map (·.1) ∧ ∀ g, g ∈ fs.map (·.1) → g ∈ (putF f v fs).map (·.1)
  | [] => ⟨by simp [putF], fun g h => by simp at h⟩
  | (k, x) :: r => by
    obtain ⟨i1, i2⟩ := keys_putF f v r
    rw [show putF f v ((k, x) :: r) = (if k = f then (k, v) :: r else (k, x) :: putF f v r) from rfl]
    by_cases hk : k = f
    · rw [if_pos hk]
      subst hk
      exact ⟨by simp, fun g h => by simpa using h⟩
    · rw [if_neg hk]
      refine ⟨?_, fun g h => ?_⟩
      · rw [List.map_cons]
        exact List.mem_cons_of_mem _ i1
      · rw [List.map_cons] at h ⊢
        rcases List.mem_cons.mp h with e | e
        · exact List.mem_cons.mpr (.inl e)
        · exact List.mem_cons_of_mem _ (i2 g e)
theorem length_putF (f : Str) (v : V) : ∀ fs : List (Str × V), (putF f v fs).length ≤ fs.length + 1
  | [] => by simp [putF]
  | (k, x) :: r => by
    have ih := length_putF f v r
    rw [show putF f v ((k, x) :: r) = (if k = f then (k, v) :: r else (k, x) :: putF f v r) from rfl]
    by_cases hk : k = f
    · rw [if_pos hk, List.length_cons, List.length_cons]; (clear hk ih; omega)
    · rw [if_neg hk, List.length_cons, List.length_cons]; (clear hk; omega)

theorem RelO.some_of {v : V} {o : Option Value} (r : RelO (some v) o) : ∃ u, o = some u ∧ RelV v u := by
  cases o with
  | none => exact (show False from r).elim
  | some u => exact ⟨u, rfl, r⟩
theorem RelO.none_of {o : Option Value} (r : RelO none o) : o = none := by
  cases o with
  | none => rfl
  | some u => exact (show False from r).elim
theorem handed_of {v : V} {u : Value} (r : RelV v u) : PySem.W.handedIn u = true := by
  cases v with
  | non => cases (show u = Value.none from r); rfl
  | bl b => cases (show u = Value.bool b from r); rfl
  | int i => obtain ⟨t, e⟩ := (show ∃ t, u = Value.int i t from r); cases e; rfl
  | str x => obtain ⟨t, e⟩ := (show ∃ t, u = Value.str x t from r); cases e; rfl
  | byt b => obtain ⟨t, e⟩ := (show ∃ t, u = Value.bytes b t from r); cases e; rfl
  | flt b => obtain ⟨t, e⟩ := (show ∃ t, u = Value.float b t from r); cases e; rfl
  | ref a => cases (show u = Value.ref a from r); rfl
  | ty n => cases (show u = Value.type n from r); rfl

section
variable {P : Program} {w : World} {H H' : Hp} {h h' : Heap} {a C dx : Addr} {fs fs' : List (Str × V)}
theorem ins_get (hok : HOk P w H h) (e : H a = some (.ins C dx fs)) : ∃ mA, ObjM h a dx C mA ∧ (∀ f, RelO (fs.lookup f) (mA f)) ∧ PySem.Within mA (fs.map (·.1)) ∧ fs.length ≤ 1000 ∧ H dx = some (.own a) := by
  obtain ⟨d, z, ne, ob, mA, n, r, q⟩ := (show ObjOk P w H h a (.ins C dx fs) from hok a _ e)
  exact ⟨mA, ⟨ob, n, ne⟩, r, q, z, d⟩
end

structure Cls (K : PySem.W.Frag) (C : Addr) : Prop where
  pg : PySem.W.plainGet K C Str.empty = true
  hd : PySem.W.hasDictIn K C = true
  po : PySem.W.plainOver K C = true
  sa : PySem.W.findIn K (.ref C) "__setattr__" = some (some (.builtin "object.__setattr__"))
theorem Cls.get {K : PySem.W.Frag} {C : Addr} (c : Cls K C) (f : Str) : PySem.W.plainGet K C f = true := c.pg
def NoAttr (K : PySem.W.Frag) (C : Addr) (f : Str) : Prop := PySem.W.findIn K (.ref C) f = some none
theorem NoAttr.taker {K : PySem.W.Frag} {C : Addr} {f : Str} (n : NoAttr K C f) : PySem.W.takerIn K C f = some none := by
  unfold PySem.W.takerIn
  rw [show PySem.W.findIn K (.ref C) f = some none from n]
  rfl
structure Con (K : PySem.W.Frag) (C : Addr) (f : Str) (v : V) (u : Value) : Prop where
  at_ : PySem.W.findIn K (.ref C) f = some (some u)
  rel : RelV v u
  get : PySem.W.specialIn K u "__get__" = some none
  cp : PySem.W.copiedNames.contains f = false
structure Meth (K : PySem.W.Frag) (C : Addr) (m : Str) (f : Addr) : Prop where
  at_ : PySem.W.findIn K (.ref C) m = some (some (.ref f))
  fn : PySem.W.isFn K (.ref f) = true
  kp : PySem.W.keepIn K (.ref f) = true

section
variable {X : Cx} {pins : List (Addr × Obj)} {σ : St} {H : Hp} {s : Shared} {a C dx : Addr} {fs : List (Str × V)} {f : Str} {v : V} {A : Around} {E : Value → Shared → Prop}

theorem getattr_ok {b : Bool} {Q : Value → Shared → Prop} (I : Inv X pins σ H s) (e : H a = some (.ins C dx fs)) (c : Cls X.K C) (n : NoAttr X.K C f) (l : fs.lookup f = some v)
    (h : ∀ u s', Inv X pins σ H s' → RelV v u → Q u s') : wpAny (model X.prog X.w) A (getAttr (.ref a) f b) Q E s := by
  obtain ⟨mA, O, r, _, _, _⟩ := ins_get I.hok e
  obtain ⟨u, hu, ru⟩ := RelO.some_of (v := v) (o := mA f) (by rw [← l]; exact r f)
  exact get_map I.kIn O (c.get f) c.hd n hu (handed_of ru) (h u _ (I.tok _) ru)

theorem getmeth_ok {m : Str} {g : Addr} {pl : Sem Bool} {Q : Value × List Value → Shared → Prop} (I : Inv X pins σ H s) (e : H a = some (.ins C dx fs)) (c : Cls X.K C) (k : Meth X.K C m g) (l : fs.lookup m = none)
    (h : Q (.ref g, [.ref a]) s) : wpAny (model X.prog X.w) A (getMethod (.ref a) m pl) Q E s := by
  obtain ⟨mA, O, r, _, _, _⟩ := ins_get I.hok e
  have hn : mA m = none := RelO.none_of (by rw [← l]; exact r m)
  exact get_meth I.kIn O (c.get m) k.at_ k.fn hn h

theorem setattr_ok {y : V} {u : Value} {Q : Unit → Shared → Prop} (I : Inv X pins σ H s) (e : H a = some (.ins C dx fs)) (c : Cls X.K C) (n : NoAttr X.K C f) (hl : fs.length < 1000) (ry : RelV y u)
    (h : ∀ s', Inv X pins σ (upd H a (.ins C dx (putF f y fs))) s' → Q () s') : wpAny (model X.prog X.w) A (setAttr (.ref a) f u) Q E s := by
  obtain ⟨mA, O, r, wi, _, ho⟩ := ins_get I.hok e
  have hz : (fs.map (·.1)).length ≤ sizeLine := by rw [List.length_map, sizeLine_eq]; (clear ho hl e; omega)
  refine set_map I.kIn O c.sa c.po n.taker c.hd wi hz fun h' O' sb => h _ ?_
  have hd : ∃ o, h'.get? dx = some o := let ⟨o, _, _, e', _⟩ := O'.ns; ⟨o, e'⟩
  refine I.write (x := a) (e := dx) (by rw [e]; exact True.intro) (.inr ho) (fun b q hb z => (sb.2 b hb).trans z) hd ?_
  refine ⟨by rw [upd_ne O.ne]; exact ho, ?_, O.ne, O'.obj, _, O'.ns, fun g => ?_, fun g hg => ?_⟩
  · have := length_putF f y fs; (clear hz ho e; omega)
  · show RelO ((putF f y fs).lookup g) (if g = f then some u else mA g)
    rw [lookup_putF]
    by_cases q : g = f
    · rw [if_pos q, if_pos q]; exact ry
    · rw [if_neg q, if_neg q]; exact r g
  · by_cases q : g = f
    · rw [q]; exact (keys_putF f y fs).1
    · refine (keys_putF f y fs).2 g (wi g fun z => hg ?_)
      show (if g = f then some u else mA g) = none
      rw [if_neg q]; exact z

theorem Inv.made (I : Inv X pins σ H s) : Inv X pins σ (upd (upd H s.heap.objs.size (.own (s.heap.objs.size + 1))) (s.heap.objs.size + 1) (.ins C s.heap.objs.size []))
    { s with heap := (s.heap.push PySem.W.emptyDict).push (PySem.W.instObj C s.heap.objs.size) } := by
  have e1 : (s.heap.push PySem.W.emptyDict).get? s.heap.objs.size = some PySem.W.emptyDict := Heap.get?_push_size s.heap rfl
  have e2 : ((s.heap.push PySem.W.emptyDict).push (PySem.W.instObj C s.heap.objs.size)).get? (s.heap.objs.size + 1) = some (PySem.W.instObj C s.heap.objs.size) := by
    have := Heap.get?_push_size (s.heap.push PySem.W.emptyDict) (o := PySem.W.instObj C s.heap.objs.size) rfl
    rwa [Heap.size_push] at this
  have e3 : (s.heap.push PySem.W.emptyDict).Ns s.heap.objs.size (fun _ => none) := ⟨PySem.W.emptyDict, #[], _, e1, rfl, (fun e he => absurd he (by simp)), fun _ => rfl⟩
  have I1 := I.laid (a := s.heap.objs.size) (o := .own (s.heap.objs.size + 1)) (h' := s.heap.push PySem.W.emptyDict) (t' := s.toks) (fun b u q => Heap.get?_push_of_some _ q) (Nat.le_refl _) ⟨_, e1⟩
  refine I1.laid (a := s.heap.objs.size + 1) (o := .ins C s.heap.objs.size []) (t' := s.toks) (fun b u q => Heap.get?_push_of_some _ q) (Nat.le_of_eq (Heap.size_push _ _)) ?_
  have ne : s.heap.objs.size ≠ s.heap.objs.size + 1 := Nat.ne_of_lt (Nat.lt_succ_self _)
  refine ⟨by rw [upd_ne ne, upd_same], Nat.zero_le _, ne, e2, fun _ => none, (Heap.Ns1.of_empty e3).at fun o q => Heap.get?_push_of_some _ q, fun _ => True.intro, fun y hy => absurd rfl hy⟩

theorem attr_of {prog : Program} {w : World} {env : Env} {e : Expr} {f : Str} {pos : Pos} {s : Shared} {Q : Value → Shared → Prop} (hb : attributeBase e f env (eval e env) = eval e env)
    (h : wpAny (model prog w) A (eval e env) (fun o s₁ => wpAny (model prog w) A (getAttr o f true) Q E s₁) E s) : wpAny (model prog w) A (eval (.Attribute e f pos) env) Q E s :=
  Attribute_any_ h (by rw [arm_eval_Attribute, hb])
end

def tFld (K : PySem.W.Frag) (ta : TE) (f : Str) : TE := fun σ H Q => ta σ H fun x H1 => ∃ a C dx fs v, x = .ref a ∧ H1 a = some (.ins C dx fs) ∧ Cls K C ∧ NoAttr K C f ∧ fs.lookup f = some v ∧ Q v H1
def sFld (K : PySem.W.Frag) (ta tv : TE) (f : Str) : TS := fun D σ H => tv σ H fun y H1 => ta σ H1 fun x H2 => ∃ a C dx fs, x = .ref a ∧ H2 a = some (.ins C dx fs) ∧ Cls K C ∧ NoAttr K C f ∧ fs.length < 1000 ∧
  D.nx σ (upd H2 a (.ins C dx (putF f y fs)))
section
variable {X : Cx} {o e value : Expr} {f : Str} {pos pos' tpos : Pos} {ta tv : TE}
theorem pe_fld (he : PE X e ta) (hb : attributeBase e f X.env (eval e X.env) = eval e X.env) : PE X (.Attribute e f pos) (tFld X.K ta f) := by
  intro pins s σ H Q I h
  refine attr_of hb (thn (he pins s σ H _ I h) fun u s1 ⟨x, H1, I1, rx, a, C, dx, fs, v, ex, ea, c, n, l, q⟩ => ?_)
  subst ex
  obtain rfl : u = Value.ref a := rx
  exact getattr_ok I1 ea c n l fun u' s2 I2 ru => ⟨v, H1, I2, ru, q⟩
theorem ps_fld (ha : PE X o ta) (hv : PE X value tv) (hs : swapsWith value (some (.Attribute o f pos')) pos.line X.env = pure false) : PS X (.Assign [.Attribute o f pos'] value pos) (sFld X.K ta tv f) := by
  intro pins s σ H D I h
  refine plainObj_wpAny_Assign_Attribute (thn (hv pins s σ H _ I h) fun u s1 ⟨y, H1, I1, ry, q⟩ => thn (ha pins s1 σ H1 _ I1 q) fun ov s2 ⟨x, H2, I2, rx, a, C, dx, fs, ex, ea, c, n, l, q2⟩ => ?_) hs
  subst ex
  obtain rfl : ov = Value.ref a := rx
  exact setattr_ok I2 ea c n l ry fun s3 I3 => ⟨σ, _, I3, q2⟩
theorem methcall_of {pl : Sem Bool} {m : Str} {apos : Pos} {args : List Expr} {pins : List (Addr × Obj)} {s : Shared} {σ : St} {H : Hp} {Q : Value → Shared → Prop} {te : TE} (he : PE X e te) (I : Inv X pins σ H s)
    (h : te σ H fun x H1 => ∃ a C dx fs g, x = .ref a ∧ H1 a = some (.ins C dx fs) ∧ Cls X.K C ∧ Meth X.K C m g ∧ fs.lookup m = none ∧
      ∀ s1, Inv X pins σ H1 s1 → wpAny (model X.prog X.w) X.A (callWith pos (.ref g) [.ref a] (backTo pos (starEach args X.env)) (backToKw pos (keywordEach [] X.env))) Q X.xe s1)
    (ht : eval (.Call (.Attribute e m apos) args [] pos) X.env = (do
      let ov ← eval e X.env
      standAt apos.atName
      let (f, first) ← holding [ov] (getMethod ov m pl)
      callWith pos f first (backTo pos (starEach args X.env)) (backToKw pos (keywordEach [] X.env)))) :
    wpAny (model X.prog X.w) X.A (eval (.Call (.Attribute e m apos) args [] pos) X.env) Q X.xe s := by
  refine PySem.W.methodCall_KW (pl := pl) (thn (he pins s σ H _ I h) fun u s1 ⟨x, H1, I1, rx, a, C, dx, fs, g, ex, ea, c, k, l, q⟩ => ?_) ht
  subst ex
  obtain rfl : u = Value.ref a := rx
  exact getmeth_ok I1 ea c k l (q s1 I1)
end

section
variable {X : Cx} {pins : List (Addr × Obj)} {σ : St} {H : Hp} {s : Shared} {A : Around} {E : Value → Shared → Prop} {Q : Value → Shared → Prop} {c : Value} {b : Bool}
inductive TyOf (K : PySem.W.Frag) (H : Hp) : V → Value → Prop where
  | non : TyOf K H .non (.type "NoneType")
  | bl (x : Bool) : TyOf K H (.bl x) (.type "bool")
  | int (i : Int) : TyOf K H (.int i) (.type "int")
  | str (x : Str) : TyOf K H (.str x) (.type "str")
  | flt (x : UInt64) : TyOf K H (.flt x) (.type "float")
  | lst {a : Addr} {xs : List V} (e : H a = some (.lst xs)) : TyOf K H (.ref a) (.type "list")
  | frz {a : Addr} {o : Obj} {xs : List V} (e : H a = some (.frz o (.lst xs))) : TyOf K H (.ref a) (.type "list")
  | tup {a : Addr} {xs : List V} (e : H a = some (.tup xs)) : TyOf K H (.ref a) (.type "tuple")
  | dK {a : Addr} {kvs : List (Key × V)} (e : H a = some (.dK kvs)) : TyOf K H (.ref a) (.type "dict")
  | dT {a : Addr} {kvs : List (List Key × V)} (e : H a = some (.dT kvs)) : TyOf K H (.ref a) (.type "dict")
  | ins {a C dx : Addr} {fs : List (Str × V)} (e : H a = some (.ins C dx fs)) (cl : Cls K C) (ha : PySem.W.findIn K (.ref C) "__class__" = some (some (.builtin "object.__class__")))
      (hn : PySem.W.specialIn K (.builtin "object.__class__") "__get__" = some (some (.builtin "getset_descriptor.__get__"))) (htk : PySem.W.takesIn K (.builtin "object.__class__") = some true)
      (hm : PySem.W.mroIn K C (.type "object") = some true) : TyOf K H (.ref a) (.ref C)
theorem isinst_ok {x : V} {u t : Value} (I : Inv X pins σ H s) (rx : RelV x u) (ty : TyOf X.K H x t) (e : PySem.W.kitOne X.K t c = some b) (h : ∀ tk, Q (.bool b) { s with toks := tk }) :
    wpAny (model X.prog X.w) A (call (.builtin "isinstance") [u, c]) Q E s := by
  cases ty with
  | non => cases (show u = Value.none from rx); exact PySem.W.kia_one PySem.W.kitx_none I.kIn True.intro e (fun z => nomatch z) h
  | bl y => cases (show u = Value.bool y from rx); exact PySem.W.kia_one PySem.W.kitx_bool I.kIn True.intro e (fun z => nomatch z) h
  | int i => obtain ⟨t, q⟩ := (show ∃ t, u = Value.int i t from rx); cases q; exact PySem.W.kia_one PySem.W.kitx_int I.kIn True.intro e (fun z => nomatch z) h
  | str y => obtain ⟨t, q⟩ := (show ∃ t, u = Value.str y t from rx); cases q; exact PySem.W.kia_one PySem.W.kitx_str I.kIn True.intro e (fun z => nomatch z) h
  | flt y => obtain ⟨t, q⟩ := (show ∃ t, u = Value.float y t from rx); cases q; exact PySem.W.kia_one PySem.W.kitx_float I.kIn True.intro e (fun z => nomatch z) h
  | @lst a xs ea =>
    cases (show u = Value.ref a from rx)
    obtain ⟨_, _, n, _, h1⟩ := (show ObjOk X.prog X.w H s.heap a (.lst xs) from I.hok a _ ea)
    exact PySem.W.kia_one PySem.W.kitx_list I.kIn ⟨_, h1, rfl⟩ e (fun z => nomatch z) h
  | @frz a ob xs ea =>
    cases (show u = Value.ref a from rx)
    obtain ⟨_, _, _, n, _, h1⟩ := (show ObjOk X.prog X.w H s.heap a (.frz ob (.lst xs)) from I.hok a _ ea)
    exact PySem.W.kia_one PySem.W.kitx_list I.kIn ⟨_, h1, rfl⟩ e (fun z => nomatch z) h
  | @tup a xs ea =>
    cases (show u = Value.ref a from rx)
    obtain ⟨_, _, _, p⟩ := (show ObjOk X.prog X.w H s.heap a (.tup xs) from I.hok a _ ea)
    obtain ⟨o, h1, h2, _⟩ := p
    exact PySem.W.kia_one PySem.W.kitx_tuple I.kIn ⟨o, h1, h2⟩ e (fun z => nomatch z) h
  | @dK a kvs ea =>
    cases (show u = Value.ref a from rx)
    obtain ⟨_, _, vs, _, p⟩ := (show ObjOk X.prog X.w H s.heap a (.dK kvs) from I.hok a _ ea)
    obtain ⟨o, es, ep, h1, h2, _⟩ := p
    exact PySem.W.kia_one PySem.W.kitx_dict I.kIn ⟨o, h1, h2.1⟩ e (fun z => nomatch z) h
  | @dT a kvs ea =>
    cases (show u = Value.ref a from rx)
    obtain ⟨_, _, xs, _, o, es, ep, h1, h2, _⟩ := (show ObjOk X.prog X.w H s.heap a (.dT kvs) from I.hok a _ ea)
    exact PySem.W.kia_one PySem.W.kitx_dict I.kIn ⟨o, h1, h2.1⟩ e (fun z => nomatch z) h
  | @ins a C dx fs ea cl ha hn htk hm =>
    cases (show u = Value.ref a from rx)
    obtain ⟨mA, O, _⟩ := ins_get I.hok ea
    obtain ⟨od, J, _⟩ := O.look
    exact PySem.W.kia_one (PySem.W.kitx_own (cl.get _) cl.hd ha hn htk hm) I.kIn J e (fun z => nomatch z) h
end
end L2

namespace L2
open PySem PySem.Spec PyProof.Rows

structure Room (k : Nat) (A : Around) : Prop where
  hd : A.handled = none
  dp : A.depth + 3 * k + 5 < recursionLimit
  un : A.units + 16 * k + 200 < cLine
theorem Room.mono {j k : Nat} {A : Around} (r : Room k A) (h : j ≤ k) : Room j A := ⟨r.hd, by have := r.dp; omega, by have := r.un; omega⟩
theorem Room.deeper {k : Nat} {A : Around} (r : Room (k + 1) A) (env : Env) : Room k (A.deeper env) :=
  ⟨r.hd, by have := r.dp; show A.depth + 1 + 3 * k + 5 < _; omega, by have := r.un; show A.units + 3 + 16 * k + 200 < _; omega⟩
theorem make_depth {A : Around} {C : Addr} {us : List Value} {kw : List (Str × Value)} : (A.under (.builtin "type.__call__" ⟨.ref C :: us, kw⟩)).depth = A.depth + 1 := by
  first | rfl | simp [Around.under, Code.weight, Code.isCreation, Code.isGuard, Code.isCaller, Code.frames, Code.isFrame, guardIds]
theorem make_units {A : Around} {C : Addr} {us : List Value} {kw : List (Str × Value)} : (A.under (.builtin "type.__call__" ⟨.ref C :: us, kw⟩)).units = A.units + 1 := by
  first | rfl | simp [Around.under, Code.cUnits, Code.frames, Code.isFrame]
theorem Room.make {k : Nat} {A : Around} (r : Room (k + 1) A) (C : Addr) (us : List Value) (kw : List (Str × Value)) : Room k (A.under (.builtin "type.__call__" ⟨.ref C :: us, kw⟩)) :=
  ⟨r.hd, by have := r.dp; rw [make_depth]; omega, by have := r.un; rw [make_units]; omega⟩
theorem Room.depth {k : Nat} {A : Around} (r : Room k A) : A.depth < recursionLimit := by have := r.dp; omega
theorem Room.units {k : Nat} {A : Around} (r : Room k A) : A.units + 64 < cLine := by have := r.un; omega
def tNil : TA := fun _ H Q => Q [] H
def tCons (ta : TE) (tr : TA) : TA := fun σ H Q => ta σ H fun x H1 => tr σ H1 fun xs H2 => Q (x :: xs) H2
section
variable {X : Cx} {e : Expr} {es : List Expr} {te : TE} {t : TA} {pos : Pos}
theorem pa_nil : PA X [] tNil := fun _ _ _ _ H Q I h => Calls.spliced_nil ⟨[], H, I, .nil, h⟩
theorem pa_cons (ha : PE X e te) (hr : PA X es t) (hs : starEach (e :: es) X.env = (false, eval e X.env) :: starEach es X.env := by rfl) : PA X (e :: es) (tCons te t) := by
  intro pos pins s σ H Q I h
  rw [hs]
  show wpAny _ _ (spliced ((false, eval e X.env) :: backTo pos (starEach es X.env))) _ _ s
  refine Calls.spliced_cons (thn (ha pins s σ H _ I h) fun u s1 ⟨x, H1, I1, r1, q1⟩ => ?_)
  exact thn (hr pos pins s1 σ H1 _ I1 q1) fun us s2 ⟨xs, H2, I2, r2, q2⟩ => ⟨x :: xs, H2, I2, .cons r1 r2, q2⟩

def tLst (t : TA) : TE := fun σ H Q => t σ H fun xs H1 => xs.length ≤ sizeLine ∧ ∀ p, H1 p = none → Q (.ref p) (upd H1 p (.lst xs))
theorem pe_lst (h : PA X es t) : PE X (.List es pos) (tLst t) := by
  intro pins s σ H Q I hq
  refine wpAny_List_spliced (thn (h pos pins s σ H _ I hq) fun us s1 ⟨xs, H1, I1, r, z, q⟩ => ⟨by rw [← r.length]; exact z, ?_⟩)
  have hf : H1 s1.heap.objs.size = none := I1.hok.fresh (Nat.le_refl _)
  refine ⟨.ref s1.heap.objs.size, upd H1 s1.heap.objs.size (.lst xs), I1.laid (t' := s1.toks) (fun b u e => Heap.get?_push_of_some _ e) (Nat.le_refl _) ?_, rfl, q _ hf⟩
  exact ⟨z, us, 0, r, Heap.get?_push_size _ rfl⟩
end

abbrev Sp := List V → Hp → VK → XK → Prop
abbrev CXT := List Env → Hp → Shared → XK → Value → Shared → Prop

structure Env0 (P : Program) (w : World) (K : PySem.W.Frag) (mg : Str → Option Value) (base : Heap) (A : Around) (outer : List Env) (s : Shared) (H : Hp) : Prop where
  frames : A.frames = some outer
  mod : Mod K mg base
  bs : ∀ b o, base.get? b = some o → s.heap.get? b = some o ∧ H b = none
  bsz : base.objs.size ≤ s.heap.objs.size
  funs : s.heap.FunFrames base outer
  frf : ∀ b ∈ frs outer, H b = none
  hok : HOk P w H s.heap
  bare : AllBare s.gens
def CE (outer : List Env) (P : Program) (w : World) (H : Hp) (s : Shared) (Q : VK) (u : Value) (s' : Shared) : Prop :=
  ∃ v H', s'.os = s.os ∧ AllBare s'.gens ∧ Un (frs outer) [] H H' s.heap s'.heap ∧ HOk P w H' s'.heap ∧ RelV v u ∧ Q v H'
def CR (CX : CXT) (outer : List Env) (P : Program) (w : World) (H : Hp) (s : Shared) (Q : VK) (E : XK) (r : Result) (s' : Shared) : Prop :=
  match r with
  | .ok (.ret u) => CE outer P w H s Q u s'
  | .ok _ => False
  | .error e => CX outer H s E e s'
structure FnOk (P : Program) (w : World) (K : PySem.W.Frag) (mg : Str → Option Value) (base : Heap) (CX : CXT) (k : Nat) (f : Addr) (fd : FuncData) (ps : List Str) (sp : Sp) : Prop where
  len : ∀ vs H Q E, sp vs H Q E → vs.length = ps.length
  run : ∀ (A : Around) (outer : List Env) (s : Shared) (H : Hp) (args : Args) (us : List Value) (vs : List V) (Q : VK) (E : XK), Room k A → Env0 P w K mg base A outer s H → BindsTo s fd args (ps.zip us) → Vals vs us → sp vs H Q E →
    codeAny (model P w) A (.call (.ref f) args) (CR CX outer P w H s Q E) s
theorem Env0.make {P : Program} {w : World} {K : PySem.W.Frag} {mg : Str → Option Value} {base : Heap} {A : Around} {outer : List Env} {s : Shared} {H : Hp} (e : Env0 P w K mg base A outer s H) (C : Addr) (us : List Value) (kw : List (Str × Value)) :
    Env0 P w K mg base (A.under (.builtin "type.__call__" ⟨.ref C :: us, kw⟩)) outer s H := ⟨by first | exact e.frames | (simpa [Around.under, Code.envs, Code.isFrame, pushEnvs] using e.frames), e.mod, e.bs, e.bsz, e.funs, e.frf, e.hok, e.bare⟩
section
variable {X : Cx} {pins : List (Addr × Obj)} {σ : St} {H : Hp} {s s' : Shared}
theorem Inv.env0 (I : Inv X pins σ H s) : Env0 X.prog X.w X.K X.mg X.base X.A X.stack s H :=
  ⟨I.ok.frames, I.ok.mod, I.bs, Nat.le_trans I.ok.bsz I.sz, I.stack, I.stkFree, I.hok, I.bare⟩
theorem Inv.after {Q : VK} {u : Value} (I : Inv X pins σ H s) (h : CE X.stack X.prog X.w H s Q u s') : EP X pins σ Q u s' := by
  obtain ⟨v, H', os, bare, un, hok, r, q⟩ := h
  obtain ⟨hh, g, d, t, os'⟩ := s'
  obtain rfl : os' = s.os := os
  exact ⟨v, H', I.call (h' := hh) (g' := g) (d' := d) (t' := t) (ch := []) un hok bare (fun b z => absurd z (by simp)), r, q⟩
end

def tCall (sp : Sp) (dvs : List V) (E : XK) (t : TA) : TE := fun σ H Q => t σ H fun vs H1 => sp (vs ++ dvs) H1 Q E
def tMeth (C : Addr) (m : Str) (sp : Sp) (dvs : List V) (E : XK) (ta : TE) (t : TA) : TE := fun σ H Q => ta σ H fun x H1 => ∃ a dx fs, x = .ref a ∧ H1 a = some (.ins C dx fs) ∧ fs.lookup m = none ∧
  t σ H1 fun vs H2 => sp (x :: (vs ++ dvs)) H2 Q E
def tMake (C : Addr) (sp : Sp) (dvs : List V) (E : XK) (t : TA) : TE := fun σ H Q => t σ H fun vs H1 => ∀ x dx, H1 x = none → H1 dx = none → dx ≠ x →
  sp (.ref x :: (vs ++ dvs)) (upd (upd H1 dx (.own x)) x (.ins C dx [])) (fun v H2 => v = .non ∧ Q (.ref x) H2) E

def Binds (K : PySem.W.Frag) (fd : FuncData) (ps : List Str) (ds : List Value) : Prop :=
  ∀ (s : Shared) (us : List Value), K.In s.heap → (us ++ ds).length = ps.length → BindsTo s fd ⟨us, []⟩ (ps.zip (us ++ ds))
theorem Binds.all {K : PySem.W.Frag} {fd : FuncData} {ps : List Str} (h : ∀ us : List Value, us.length = ps.length → bindArgs fd ⟨us, []⟩ = pure (ps.zip us)) : Binds K fd ps [] := fun s us _ hl => by
  rw [List.append_nil] at hl ⊢
  exact .of_eq (h us hl)

def Passes (CX : CXT) (X : Cx) (E : XK) : Prop := ∀ (pins : List (Addr × Obj)) (σ : St) (H : Hp) (s : Shared) (e : Value) (s' : Shared), Inv X pins σ H s → CX X.stack H s E e s' → X.xe e s'

section
variable {X : Cx} {CX : CXT} {k : Nat} {f C : Addr} {fd : FuncData} {ps : List Str} {sp : Sp} {dvs : List V} {ds : List Value} {E : XK} {x m : Str} {p pos apos : Pos} {e o : Expr} {es : List Expr} {ta : TE} {t : TA}

theorem run_fn {pins : List (Addr × Obj)} {σ : St} {H : Hp} {s : Shared} {Q : VK} {us : List Value} {vs : List V} (F : FnOk X.prog X.w X.K X.mg X.base CX k f fd ps sp) (hr : Room k X.A) (hb : Binds X.K fd ps ds) (hd : Vals dvs ds) (hx : Passes CX X E)
    (I : Inv X pins σ H s) (r : Vals vs us) (h : sp (vs ++ dvs) H Q E) : wpAny (model X.prog X.w) X.A (call (.ref f) us) (EP X pins σ Q) X.xe s := by
  have r2 : Vals (vs ++ dvs) (us ++ ds) := r.append hd
  have hl : (us ++ ds).length = ps.length := by rw [← r2.length]; exact F.len _ _ _ _ h
  refine wpAny_call (codeAny_mono (F.run X.A X.stack s H ⟨us, []⟩ (us ++ ds) (vs ++ dvs) Q E hr I.env0 (hb s us I.kIn hl) r2 h) fun r s' hq => ?_)
  cases r with
  | error e => exact hx pins σ H s e s' I hq
  | ok fl =>
    cases fl with
    | ret u => exact I.after hq
    | next => exact False.elim hq
    | brk => exact False.elim hq
    | cont => exact False.elim hq

theorem pe_call (F : FnOk X.prog X.w X.K X.mg X.base CX k f fd ps sp) (hr : Room k X.A) (hg : Gl X x) (hm : X.mg x = some (.ref f)) (hk : PySem.W.keepIn X.K (.ref f) = true) (hb : Binds X.K fd ps ds) (hd : Vals dvs ds) (hx : Passes CX X E)
    (ha : PA X (e :: es) t) (hdb : (x == ("__debug__" : Str)) = false := by decide) (he : starEach (e :: es) X.env = (false, eval e X.env) :: starEach es X.env := by rfl) (hpl : (backTo pos (starEach es X.env)).any (·.1) = false := by rfl) :
    PE X (.Call (.Name x p) (e :: es) [] pos) (tCall sp dvs E t) := by
  intro pins s σ H Q I h
  refine wpAny_Call_Name_kw (ld_glob I hg hm ?_ hdb)
  refine PySem.W.callWith_K (h₀ := X.base) I.ok.mod.kin hk (thn (ha pos pins s σ H _ I h) fun us s1 ⟨vs, H1, I1, r, q⟩ => ⟨I1.kIn, ?_⟩) he hpl
  exact run_fn F hr hb hd hx I1 r q
theorem pe_meth {pl : Sem Bool} (he : PE X o ta) (c : Cls X.K C) (hm : Meth X.K C m f) (F : FnOk X.prog X.w X.K X.mg X.base CX k f fd ps sp) (hr : Room k X.A) (hb : Binds X.K fd ps ds) (hd : Vals dvs ds) (hx : Passes CX X E) (ha : PA X (e :: es) t)
    (hst : starEach (e :: es) X.env = (false, eval e X.env) :: starEach es X.env := by rfl) (hpl : (backTo pos (starEach es X.env)).any (·.1) = false := by rfl)
    (ht : eval (.Call (.Attribute o m apos) (e :: es) [] pos) X.env = (do
      let ov ← eval o X.env
      standAt apos.atName
      let (f, first) ← holding [ov] (getMethod ov m pl)
      callWith pos f first (backTo pos (starEach (e :: es) X.env)) (backToKw pos (keywordEach [] X.env))) := by rfl) :
    PE X (.Call (.Attribute o m apos) (e :: es) [] pos) (tMeth C m sp dvs E ta t) := by
  intro pins s σ H Q I h
  refine PySem.W.methodCall_KW (pl := pl) (thn (he pins s σ H _ I h) fun u s1 ⟨x, H1, I1, rx, a, dx, fs, ex, ea, l, q⟩ => ?_) ht
  subst ex
  obtain rfl : u = Value.ref a := rx
  refine getmeth_ok I1 ea c hm l ?_
  refine PySem.W.callWith_K (first := [.ref a]) (h₀ := X.base) I.ok.mod.kin hm.kp (thn (ha pos pins s1 σ H1 _ I1 q) fun us s2 ⟨vs, H2, I2, r, q2⟩ => ⟨I2.kIn, ?_⟩) hst hpl
  exact run_fn (us := .ref a :: us) (vs := .ref a :: vs) F hr hb hd hx I2 (.cons rfl r) q2
structure Mk (K : PySem.W.Frag) (C f : Addr) : Prop where
  makes : PySem.W.makesIn K C = true
  init : PySem.W.findIn K (.ref C) "__init__" = some (some (.ref f))
  fn : PySem.W.isFn K (.ref f) = true
  kp : PySem.W.keepIn K (.ref C) = true

theorem run_make {pins : List (Addr × Obj)} {σ : St} {H : Hp} {s : Shared} {Q : VK} {us : List Value} {vs : List V} (M : Mk X.K C f) (F : FnOk X.prog X.w X.K X.mg X.base CX k f fd ps sp) (hr : Room (k + 1) X.A) (hb : Binds X.K fd ps ds) (hd : Vals dvs ds)
    (hx : Passes CX X E) (I : Inv X pins σ H s) (r : Vals vs us)
    (h : ∀ x dx, H x = none → H dx = none → dx ≠ x → sp (.ref x :: (vs ++ dvs)) (upd (upd H dx (.own x)) x (.ins C dx [])) (fun v H2 => v = .non ∧ Q (.ref x) H2) E) :
    wpAny (model X.prog X.w) X.A (call (.ref C) us) (EP X pins σ Q) X.xe s := by
  have hq := h (s.heap.objs.size + 1) s.heap.objs.size (I.hok.fresh (Nat.le_succ _)) (I.hok.fresh (Nat.le_refl _)) (Nat.ne_of_lt (Nat.lt_succ_self _))
  have I2 := Inv.made (C := C) I
  have r2 : Vals (V.ref (s.heap.objs.size + 1) :: (vs ++ dvs)) (Value.ref (s.heap.objs.size + 1) :: (us ++ ds)) := .cons rfl (r.append hd)
  have hl : (Value.ref (s.heap.objs.size + 1) :: us ++ ds).length = ps.length := by
    have e := r2.length
    rw [F.len _ _ _ _ hq] at e
    exact e.symm
  refine wpAny_call (make_map (f := f) I.kIn M.makes M.init (beq_iff_eq.mp M.fn) (codeAny_mono (F.run _ X.stack _ _ ⟨Value.ref (s.heap.objs.size + 1) :: us, []⟩ (Value.ref (s.heap.objs.size + 1) :: (us ++ ds)) _ _ E (hr.make C us [])
    (I2.env0.make C us []) (hb _ (Value.ref (s.heap.objs.size + 1) :: us) I2.kIn hl) r2 hq) fun r s' hq' => ?_))
  cases r with
  | error e => exact hx pins σ _ _ e s' I2 hq'
  | ok fl =>
    cases fl with
    | ret u =>
      obtain ⟨v, H', I3, rv, ev, q3⟩ := I2.after hq'
      subst ev
      exact ⟨rv, ⟨V.ref (s.heap.objs.size + 1), H', I3, rfl, q3⟩⟩
    | next => exact False.elim hq'
    | brk => exact False.elim hq'
    | cont => exact False.elim hq'
theorem pe_make0 (M : Mk X.K C f) (F : FnOk X.prog X.w X.K X.mg X.base CX k f fd ps sp) (hr : Room (k + 1) X.A) (hg : Gl X x) (hm : X.mg x = some (.ref C)) (hb : Binds X.K fd ps ds) (hd : Vals dvs ds) (hx : Passes CX X E)
    (hdb : (x == ("__debug__" : Str)) = false := by decide) : PE X (.Call (.Name x p) [] [] pos) (tMake C sp dvs E tNil) := by
  intro pins s σ H Q I h
  refine wpAny_Call_Name_kw (ld_glob I hg hm ?_ hdb)
  exact PySem.W.callWith_K0 I.kIn M.kp (run_make (us := []) M F hr hb hd hx I .nil h)
end

section
variable {X : Cx} {CX : CXT} {k : Nat} {f C : Addr} {fd : FuncData} {ps ks : List Str} {sp : Sp} {E : XK} {x m : Str} {p pos apos kpos : Pos} {e o : Expr} {es : List Expr} {kws : List Keyword} {te ta : TE} {t tk : TA} {nm : Option Str}
structure KBinds (K : PySem.W.Frag) (fd : FuncData) (ps ks : List Str) (g : List Value → List Value → List Value) (gV : List V → List V → List V) : Prop where
  to : ∀ (s : Shared) (us ws : List Value), K.In s.heap → (g us ws).length = ps.length → BindsTo s fd ⟨us, ks.zip ws⟩ (ps.zip (g us ws))
  rel : ∀ {vs : List V} {us : List Value} {zs : List V} {ws : List Value}, Vals vs us → Vals zs ws → Vals (gV vs zs) (g us ws)
variable {g : List Value → List Value → List Value} {gV : List V → List V → List V}
end

structure FnScope (N P : List Str) (sc : Scope) : Prop where
  kind : sc.kind = .function
  co : sc.isCoroutine = false
  gen : sc.isGenerator = false
  nd : N.Nodup
  pre : N.take P.length = P
  par : ∀ x ∈ P, sc.names.lookup x = some .local ∨ sc.names.lookup x = some .cell
  nofree : ∀ y ∈ sc.names, y.2 ≠ .free

theorem bindL_out {kindOf : Str → Option NameKind} {x : Str} : ∀ {binds : List (Str × Value)} {m : Str → Option Value}, (∀ v, (x, v) ∉ binds) → bindL kindOf binds m x = m x
  | [], _, _ => rfl
  | (n, v) :: r, m, h => by
    unfold bindL
    rw [bindL_out fun w hw => h w (List.mem_cons_of_mem _ hw)]
    split
    · have : x ≠ n := by rintro rfl; exact h v List.mem_cons_self
      simp [this]
    · rfl
theorem bindC_out {kindOf : Str → Option NameKind} {x : Str} : ∀ {binds : List (Str × Value)} {m : Str → Option Value}, (∀ v, (x, v) ∉ binds) → bindC kindOf binds m x = m x
  | [], _, _ => rfl
  | (n, v) :: r, m, h => by
    unfold bindC
    rw [bindC_out fun w hw => h w (List.mem_cons_of_mem _ hw)]
    split
    · rfl
    · have : x ≠ n := by rintro rfl; exact h v List.mem_cons_self
      simp [this]
theorem bindL_get {kindOf : Str → Option NameKind} {x : Str} {v : Value} : ∀ {P : List Str} {vs : List Value} {i : Nat} {m : Str → Option Value}, P.Nodup → P[i]? = some x → vs[i]? = some v → kindOf x = some .local →
    bindL kindOf (P.zip vs) m x = some v
  | [], _, _, _, _, h, _, _ => by simp at h
  | _ :: _, [], _, _, _, _, h, _ => by simp at h
  | p :: P, w :: vs, 0, m, nd, h1, h2, hk => by
    simp at h1 h2; subst h1; subst h2
    show bindL kindOf ((p, w) :: P.zip vs) m p = _
    unfold bindL
    rw [bindL_out fun v hv => (List.nodup_cons.mp nd).1 (List.of_mem_zip hv).1, if_pos hk]
    simp
  | p :: P, w :: vs, i + 1, m, nd, h1, h2, hk => by
    show bindL kindOf ((p, w) :: P.zip vs) m x = _
    unfold bindL
    exact bindL_get (i := i) (List.nodup_cons.mp nd).2 (by simpa using h1) (by simpa using h2) hk
theorem bindC_get {kindOf : Str → Option NameKind} {x : Str} {v : Value} : ∀ {P : List Str} {vs : List Value} {i : Nat} {m : Str → Option Value}, P.Nodup → P[i]? = some x → vs[i]? = some v → kindOf x ≠ some .local →
    bindC kindOf (P.zip vs) m x = some v
  | [], _, _, _, _, h, _, _ => by simp at h
  | _ :: _, [], _, _, _, _, h, _ => by simp at h
  | p :: P, w :: vs, 0, m, nd, h1, h2, hk => by
    simp at h1 h2; subst h1; subst h2
    show bindC kindOf ((p, w) :: P.zip vs) m p = _
    unfold bindC
    rw [bindC_out fun v hv => (List.nodup_cons.mp nd).1 (List.of_mem_zip hv).1, if_neg hk]
    simp
  | p :: P, w :: vs, i + 1, m, nd, h1, h2, hk => by
    show bindC kindOf ((p, w) :: P.zip vs) m x = _
    unfold bindC
    exact bindC_get (i := i) (List.nodup_cons.mp nd).2 (by simpa using h1) (by simpa using h2) hk

def start (N : List Str) (vs : List V) : St := vs.map some ++ List.replicate (N.length - vs.length) none

def cxOf (CX : CXT) (P : Program) (w : World) (K : PySem.W.Frag) (mg : Str → Option Value) (base : Heap) (N : List Str) (qual : Str) (scope : Scope) (f : Addr) (cd : Value) (A : Around) (outer : List Env) (s : Shared) (H : Hp) (E : XK) : Cx where
  prog := P
  w := w
  K := K
  mg := mg
  base := base
  A := A.deeper (envOfC qual scope s.heap.objs.size f cd)
  N := N
  s₀ := s
  H₀ := H
  env := envOfC qual scope s.heap.objs.size f cd
  outer := outer
  stack := envOfC qual scope s.heap.objs.size f cd :: outer
  ex := []
  calm := true
  fn := fun _ => true
  pn := []
  xe := fun e s' => wpAny (model P w) (A.deeper (envOfC qual scope s.heap.objs.size f cd)) (leaving (envOfC qual scope s.heap.objs.size f cd) e) (fun _ s'' => CX outer H s E e s'') (fun e' s'' => CX outer H s E e' s'') s'

theorem cell_has {sc : Scope} {n : Nat} {x : Str} (h : sc.names.lookup x = some .cell) : ∃ c, (cellsFrom n sc.names []).lookup x = some c := by
  have q := PySem.W.cellsFrom_some sc.names n [] (.inl h)
  exact Option.isSome_iff_exists.mp q

theorem inv_start {CX : CXT} {P : Program} {w : World} {K : PySem.W.Frag} {mg : Str → Option Value} {base : Heap} {N ps : List Str} {qual : Str} {scope : Scope} {f : Addr} {cd : Value} {A : Around} {outer : List Env} {s s1 : Shared} {H : Hp} {E : XK} {us : List Value} {vs : List V}
    (S : FnScope N ps scope) (hd : A.handled = none) (e0 : Env0 P w K mg base A outer s H) (hl : vs.length = ps.length) (r : Vals vs us)
    (x : InCallC s s.heap.objs.size (bindL (envOfC qual scope s.heap.objs.size f cd).kindOf (ps.zip us) fun _ => none) (cellsFrom (s.heap.objs.size + 1) scope.names []) (bindC (envOfC qual scope s.heap.objs.size f cd).kindOf (ps.zip us) fun _ => none) s1) :
    Inv (cxOf CX P w K mg base N qual scope f cd A outer s H E) [] (start N vs) H s1 := by
  have hpl : ps.length ≤ N.length := by have := congrArg List.length S.pre; rw [List.length_take] at this; (clear hl hd; omega)
  obtain ⟨h1, tk, rfl, hk⟩ := x.done
  have noA : ∀ b : Addr, b ∉ (cxOf CX P w K mg base N qual scope f cd A outer s H E).ex := fun b z => absurd (show b ∈ ([] : List Addr) from z) (by simp)
  refine ⟨⟨e0.mod, S.kind, rfl, rfl, Nat.le_refl _, fun y z c h1 h2 => ?_, fun y hy => ?_, fun y c _ h => ?_, fun _ => hd, Around.frames_deeper e0.frames, .inr ⟨rfl, rfl⟩, fun b z => absurd z (noA b), e0.bs, e0.bsz, fun b _ _ => noA b, fun b z => absurd z (noA b), e0.funs, e0.frf⟩,
    rfl, e0.bare, Un.kept hk, ⟨_, x.toInCall.ns, fun i y v h1 h2 h3 => ?_⟩, fun y c h => ⟨_, x.cell y c h⟩, e0.hok.fresh (Nat.le_refl _), fun y c h => ?_, fun p hp => absurd (show p ∈ ([] : List (Addr × Obj)) from hp) (by simp), e0.hok.kept hk, ?_⟩
  · exact name_of_addr x.apart (PySem.mem_of_lookup h1) (PySem.mem_of_lookup h2)
  · have hy : scope.names.lookup y = some .cell ∨ scope.names.lookup y = some .free := hy
    rcases hy with hy | hy
    · exact cell_has hy
    · exact absurd rfl (S.nofree _ (PySem.mem_of_lookup hy))
  · exact Nat.le_of_lt (x.above y c (PySem.mem_of_lookup h))
  · have hi : i < vs.length := by
      unfold start at h2
      by_cases hi : i < vs.length
      · exact hi
      · rw [List.getElem?_append_right (by simpa using hi)] at h2
        rw [List.getElem?_replicate] at h2
        split at h2 <;> cases h2
    have ha : vs[i]? = some v := by
      unfold start at h2
      rw [List.getElem?_append_left (by simpa using hi), List.getElem?_map] at h2
      cases e : vs[i]? with
      | none => rw [e] at h2; cases h2
      | some a => rw [e] at h2; cases h2; rfl
    obtain ⟨u, hu, rv⟩ := r.get ha
    have hp : ps[i]? = some y := by
      rw [← S.pre, List.getElem?_take_of_lt (by (clear hu ha h2 h1 hpl hd; omega))]; exact h1
    have ndP : ps.Nodup := by rw [← S.pre]; exact S.nd.sublist (List.take_sublist _ _)
    refine ⟨u, rv, ?_⟩
    rcases S.par y (List.mem_of_getElem? hp) with k | k
    · exact .inl ⟨k, bindL_get ndP hp hu k⟩
    · obtain ⟨c, e⟩ := cell_has (n := s.heap.objs.size + 1) k
      refine .inr ⟨.inl k, c, e, ?_⟩
      have q := x.cell y c e
      rw [bindC_get ndP hp hu (by show scope.names.lookup y ≠ _; rw [k]; decide)] at q
      exact q
  · exact e0.hok.fresh (Nat.le_of_lt (x.above y c (PySem.mem_of_lookup h)))
  · unfold start
    show _ = N.length
    rw [List.length_append, List.length_map, List.length_replicate]
    (clear hd; omega)

theorem fn_of {CX : CXT} {P : Program} {w : World} {K : PySem.W.Frag} {mg : Str → Option Value} {base : Heap} {k : Nat} {f : Addr} {name qual : Str} {params : Arguments} {body : List Stmt} {scope : Scope} {dV kV doc pm cdv ct oc : Value} {an od : Option Addr}
    {osl : Array (Option Value)} {N ps : List Str} {sp : Sp} (lk : K.lookup f = some ⟨oc, od, .func (PySem.W.fnOf name qual params body scope dV kV doc pm an cdv ct), osl⟩) (hcd : PySem.W.codeIn K cdv qual = true) (S : FnScope N ps scope)
    (len : ∀ vs H Q E, sp vs H Q E → vs.length = ps.length)
    (hbody : ∀ (A : Around) (outer : List Env) (s : Shared) (H : Hp) (vs : List V) (Q : VK) (E : XK), Room k (A.deeper (envOfC qual scope s.heap.objs.size f cdv)) → sp vs H Q E →
      ∃ t, PSs (cxOf CX P w K mg base N qual scope f cdv A outer s H E) body t ∧ t { nx := fun _ H' => Q .non H', rt := Q } (start N vs) H) :
    FnOk P w K mg base CX (k + 1) f (PySem.W.fnOf name qual params body scope dV kV doc pm an cdv ct) ps sp := by
  refine ⟨len, fun A outer s H args us vs Q E hr e0 hb r hsp => ?_⟩
  have hl := len _ _ _ _ hsp
  have KX : K.In s.heap := e0.mod.kin.keeps fun b o e => (e0.bs b o e).1
  have lim : s.heap.NoLimit := e0.mod.nolimit.keeps fun b o e => (e0.bs b o e).1
  have hkind : ∀ y ∈ ps.zip us, scope.names.lookup y.1 = some .local ∨ (scope.names.lookup y.1 = some .cell ∧ ((cellsFrom (s.heap.objs.size + 1) scope.names []).lookup y.1).isSome = true) := fun ⟨n, v⟩ hy => by
    rcases S.par n (List.of_mem_zip hy).1 with q | q
    · exact .inl q
    · exact .inr ⟨q, PySem.W.cellsFrom_some _ _ _ (.inl q)⟩
  refine codeAny_call_function hr.depth (KX _ _ lk) rfl S.co S.gen rfl (PySem.W.codeRec_of KX hcd) (hb _ _ _ _ ?_)
  refine wpAny_newFunctionEnv_cells S.kind hkind fun env he s1 x => ?_
  subst he
  refine ⟨lim.keeps x.toInCall.keep, codeAny_func ?_⟩
  obtain ⟨t, ht, hq⟩ := hbody A outer s H vs Q E (hr.deeper _) hsp
  have I : Inv (cxOf CX P w K mg base N qual scope f cdv A outer s H E) [] (start N vs) H s1 := inv_start S hr.hd e0 hl r x
  refine wpAny_mono (ht [] s1 (start N vs) H _ I hq) (fun fl s' hs => ?_) fun e s' hs => hs
  have fin : ∀ {σ' : St} {H' : Hp} {v : V} {u : Value}, Inv (cxOf CX P w K mg base N qual scope f cdv A outer s H E) [] σ' H' s' → RelV v u → Q v H' → CE outer P w H s Q u s' :=
    fun {σ' H' v u} J rv q => ⟨v, H', J.os, J.bare, J.base, J.hok, rv, q⟩
  cases fl with
  | ret u =>
    obtain ⟨v, σ', H', J, rv, q⟩ := hs
    exact fin J rv q
  | next =>
    obtain ⟨σ', H', J, q⟩ := hs
    exact fin (v := V.non) (u := Value.none) J rfl q
  | brk =>
    obtain ⟨_, _, _, q⟩ := hs
    exact False.elim q
  | cont =>
    obtain ⟨_, _, _, q⟩ := hs
    exact False.elim q
end L2

namespace L2
open PySem PySem.Spec PyProof.Rows
section
variable {X : Cx} {x : Str} {p pos : Pos} {e : Expr} {es : List Expr} {t : TA} {id T : String} {r : List V → Hp → VK → Prop}

def tCB (r : List V → Hp → VK → Prop) (t : TA) : TE := fun σ H Q => t σ H fun vs H1 => r vs H1 Q
theorem pe_callB (hc : CallR X (.builtin id) r) (hg : Gl X x) (hm : X.mg x = none) (hv : bootBuiltins x = some (.builtin id)) (ha : PA X (e :: es) t) (hn : x ≠ "__name__" := by decide) (hdb : (x == ("__debug__" : Str)) = false := by decide)
    (he : starEach (e :: es) X.env = (false, eval e X.env) :: starEach es X.env := by rfl) (hpl : (backTo pos (starEach es X.env)).any (·.1) = false := by rfl) : PE X (.Call (.Name x p) (e :: es) [] pos) (tCB r t) := by
  intro pins s σ H Q I h
  refine wpAny_Call_Name_kw (ld_blt I hg hm hv ?_ hn hdb)
  exact PyProof.Rows.callWith_builtin1 (thn (ha pos pins s σ H _ I h) fun us s1 ⟨vs, H1, I1, r1, q1⟩ => hc pins s1 σ H1 vs us Q I1 r1 q1) he hpl
theorem pe_callTy (hc : CallR X (.type T) r) (hg : Gl X x) (hm : X.mg x = none) (hv : bootBuiltins x = some (.type T)) (ha : PA X (e :: es) t) (hn : x ≠ "__name__" := by decide) (hdb : (x == ("__debug__" : Str)) = false := by decide)
    (he : starEach (e :: es) X.env = (false, eval e X.env) :: starEach es X.env := by rfl) (hpl : (backTo pos (starEach es X.env)).any (·.1) = false := by rfl) : PE X (.Call (.Name x p) (e :: es) [] pos) (tCB r t) := by
  intro pins s σ H Q I h
  refine wpAny_Call_Name_kw (ld_blt I hg hm hv ?_ hn hdb)
  exact PyProof.Rows.callWith_type1 (thn (ha pos pins s σ H _ I h) fun us s1 ⟨vs, H1, I1, r1, q1⟩ => hc pins s1 σ H1 vs us Q I1 r1 q1) he hpl
end
end L2

namespace HT
open PySem PyProof.Rows

def lexLt : List Int → List Int → Bool
  | [], [] => false
  | [], _ :: _ => true
  | _ :: _, [] => false
  | x :: xs, y :: ys => if x = y then lexLt xs ys else decide (x < y)
theorem lexLt_cons (x y : Int) (xs ys : List Int) : lexLt (x :: xs) (y :: ys) = if x = y then lexLt xs ys else decide (x < y) := rfl
theorem lexLt_nil_nil : lexLt [] [] = false := rfl
theorem lexLt_nil_cons (y : Int) (ys : List Int) : lexLt [] (y :: ys) = true := rfl
theorem lexLt_cons_nil (x : Int) (xs : List Int) : lexLt (x :: xs) [] = false := rfl

section
open PySem.SeqAt
open PySem.AutoSeq1 (wpAny_loadPart')
open PySem.MeetsSeq PySem.MeetsSeq2 PySem.MeetsSeq3

end

section
variable {prog : Program} {w : World} {A : Around} {E : Value → Shared → Prop} {s : Shared}

def sIx (n d : Nat) : Option Int → Nat
  | none => d
  | some v => if v < 0 then (v + (n : Int)).toNat else min v.toNat n
end
end HT

namespace L2
open PySem PySem.Spec PyProof.Rows

abbrev TO := St → Hp → (Option Int → Hp → Prop) → Prop
def PO (X : Cx) (e : Option Expr) (t : TO) : Prop :=
  ∀ (pins : List (Addr × Obj)) (s : Shared) (σ : St) (H : Hp) (Q : Option Int → Hp → Prop), Inv X pins σ H s → t σ H Q →
    wpAny (model X.prog X.w) X.A (evalPart e X.env) (fun u s' => ∃ o H', Inv X pins σ H' s' ∧ IsPart u o ∧ Q o H') X.xe s
def tNoPart : TO := fun _ H Q => Q none H
def tPart (t : TE) : TO := fun σ H Q => t σ H fun x H1 => ∃ i, x = .int i ∧ Q (some i) H1

theorem intsAre_of {ns : List Int} : ∀ {us : List Value}, Vals (ns.map V.int) us → IntsAre us ns := by
  induction ns with
  | nil => intro us r; rw [List.map_nil] at r; cases r; exact .nil
  | cons n ns ih =>
    intro us r
    rw [List.map_cons] at r
    cases r with
    | cons r1 r2 =>
      obtain ⟨t, e⟩ := r1
      subst e
      exact .cons n t (ih r2)

section
variable {X : Cx} {e : Expr} {te : TE} {lo hi : Option Expr} {tl th : TO} {pos p2 : Pos}

theorem po_none : PO X none tNoPart := by
  intro pins s σ H Q I h
  rw [evalPart_none]
  exact wpAny_pure ⟨none, H, I, .none, h⟩
theorem po_some (h : PE X e te) : PO X (some e) (tPart te) := by
  intro pins s σ H Q I hw
  rw [evalPart_some]
  refine thn (h pins s σ H _ I hw) fun u s1 ⟨x, H1, I1, r1, q1⟩ => ?_
  obtain ⟨i, rfl, q⟩ := q1
  obtain ⟨t, rfl⟩ := r1
  exact ⟨some i, H1, I1, .int i t, q⟩

def SlR (X : Cx) (r : V → Option Int → Option Int → Hp → VK → Prop) : Prop :=
  ∀ (pins : List (Addr × Obj)) (s : Shared) (σ : St) (H : Hp) (x : V) (v vl vu : Value) (lo hi : Option Int) (sl : Addr) (Q : VK), Inv X pins σ H s → RelV x v → s.heap.IsSliceOf sl vl vu .none → IsPart vl lo → IsPart vu hi → r x lo hi H Q →
    ∃ T id, typeLookup (.type T) "__getitem__" = pure (some (.builtin id)) ∧ s.TypeIs v T ∧ wpAny (model X.prog X.w) X.A (getItem v (.ref sl)) (EP X pins σ Q) X.xe s
def tSl (r : V → Option Int → Option Int → Hp → VK → Prop) (te : TE) (tl th : TO) : TE := fun σ H Q => te σ H fun x H1 => tl σ H1 fun l H2 => th σ H2 fun u H3 => r x l u H3 Q
theorem pe_slice {r : V → Option Int → Option Int → Hp → VK → Prop} (hr : SlR X r) (he : PE X e te) (hl : PO X lo tl) (hu : PO X hi th) : PE X (.Subscript e (.Slice lo hi none p2) pos) (tSl r te tl th) := by
  intro pins s σ H Q I h
  refine Subscript_ (thn (he pins s σ H _ I h) fun v s1 ⟨x, H1, I1, r1, q1⟩ => ?_)
  refine wpAny_Slice (thn (hl pins s1 σ H1 _ I1 q1) fun vl s2 ⟨l, H2, I2, pl, q2⟩ => thn (hu pins s2 σ H2 _ I2 q2) fun vu s3 ⟨u, H3, I3, pu, q3⟩ => ?_)
  rw [evalPart_none]
  refine wpAny_pure ?_
  have I4 : Inv X pins σ H3 { s3 with heap := s3.heap.push { cls := .type "slice", data := .fields #[vl, vu, .none] } } := I3.kept (t' := s3.toks) fun b ob q => Heap.get?_push_of_some _ q
  obtain ⟨T, id, hT, ht, hg⟩ := hr pins { s3 with heap := s3.heap.push { cls := .type "slice", data := .fields #[vl, vu, .none] } } σ H3 x v vl vu l u s3.heap.objs.size Q I4 r1 (Heap.IsSliceOf.new ..) pl pu q3
  show wpAny (model X.prog X.w) X.A (subscriptTail e (.Slice lo hi none p2) v (.ref s3.heap.objs.size)) (EP X pins σ Q) X.xe { s3 with heap := s3.heap.push { cls := .type "slice", data := .fields #[vl, vu, .none] } }
  exact tail_any (ops := [.ref s3.heap.objs.size, v]) ht hT hg (by with_unfolding_all rfl)

def cutV (xs : List V) (lo hi : Option Int) : List V := (xs.drop (HT.sIx xs.length 0 lo)).take (HT.sIx xs.length xs.length hi - HT.sIx xs.length 0 lo)
theorem cutV_length (xs : List V) (lo hi : Option Int) : (cutV xs lo hi).length ≤ xs.length := by
  unfold cutV
  rw [List.length_take, List.length_drop]
  omega
end
end L2

namespace L2
open PySem PySem.Spec PyProof.Rows

def ixN (n : Nat) (i : Int) : Option Nat := if 0 ≤ i then (if i < n then some i.toNat else none) else if -(n : Int) ≤ i then some (i + n).toNat else none
def atI {α : Type} (xs : List α) (i : Int) : Option α := (ixN xs.length i).bind fun j => xs[j]?
theorem ixN_seq {n : Nat} {i : Int} {j : Nat} (h : ixN n i = some j) : seqIndex? i n = some j ∧ j < n ∧ -(n : Int) ≤ i ∧ i < n := by
  unfold ixN at h
  by_cases h0 : 0 ≤ i
  · rw [if_pos h0] at h
    by_cases h1 : i < n
    · rw [if_pos h1] at h
      have e : i.toNat = j := Option.some.inj h
      exact ⟨by rw [seqIndex_of h0 h1, e], by (clear h; omega), by (clear e h1 h; omega), h1⟩
    · rw [if_neg h1] at h; cases h
  · rw [if_neg h0] at h
    by_cases h1 : -(n : Int) ≤ i
    · rw [if_pos h1] at h
      have e : (i + n).toNat = j := Option.some.inj h
      exact ⟨by rw [seqIndex_neg (by (clear e h1 h; omega)) h1, e], by (clear h; omega), h1, by (clear e h1 h; omega)⟩
    · rw [if_neg h1] at h; cases h
theorem atI_get {α : Type} {xs : List α} {i : Int} {v : α} (h : atI xs i = some v) : ∃ j, seqIndex? i xs.length = some j ∧ xs[j]? = some v ∧ j < xs.length ∧ -(xs.length : Int) ≤ i ∧ i < xs.length := by
  unfold atI at h
  cases e : ixN xs.length i with
  | none => rw [e] at h; cases h
  | some j =>
    rw [e] at h
    obtain ⟨h1, h2, h3, h4⟩ := ixN_seq e
    exact ⟨j, h1, h, h2, h3, h4⟩
theorem atI_nat {α : Type} {xs : List α} {j : Nat} {v : α} (h : xs[j]? = some v) : atI xs (j : Int) = some v := by
  have hj : j < xs.length := (List.getElem?_eq_some_iff.mp h).1
  have e : ixN xs.length (j : Int) = some j := by
    unfold ixN
    rw [if_pos (by (clear hj h; omega)), if_pos (by (clear h; omega))]; simp
  unfold atI; rw [e]; exact h
def PlainIx (b : Expr) : Prop := ∀ o i, subscripted b false o i = operate [o, i] (getItem o i)
def IxR (X : Cx) (r : R2) : Prop :=
  ∀ (value slice : Expr) (pins : List (Addr × Obj)) (s : Shared) (σ : St) (H : Hp) (x y : V) (v u : Value) (Q : VK), Inv X pins σ H s → RelV x v → RelV y u → r x y H Q →
    subscripted slice false v u = operate [v, u] (getItem v u) → wpAny (model X.prog X.w) X.A (subscriptTail value slice v u) (EP X pins σ Q) X.xe s
def MtR (X : Cx) (id : String) (r : V → List V → Hp → VK → Prop) : Prop :=
  ∀ (pins : List (Addr × Obj)) (s : Shared) (σ : St) (H : Hp) (x : V) (xs : List V) (v : Value) (us : List Value) (Q : VK), Inv X pins σ H s → RelV x v → Vals xs us → r x xs H Q →
    wpAny (model X.prog X.w) X.A (call (.builtin id) (v :: us)) (EP X pins σ Q) X.xe s
section
variable {X : Cx} {a b : Expr} {ta tb : TE} {pos : Pos}
theorem pe_ix {r : R2} (hr : IxR X r) (ha : PE X a ta) (hb : PE X b tb) (hs : PlainIx b) : PE X (.Subscript a b pos) (tOp r ta tb) := by
  intro pins s σ H Q I h
  exact Subscript_ (binT ha hb I h fun v u s2 x y H2 I2 rx ry q => hr a b pins s2 σ H2 x y v u Q I2 rx ry q (hs _ _))

def rIxL (K : PySem.W.Frag) : R2 := fun x y H Q => ∃ p xs i v, x = .ref p ∧ y = .int i ∧ SqL K H p xs ∧ atI xs i = some v ∧ Q v H
theorem ix_list : IxR X (rIxL X.K) := by
  intro value slice pins s σ H x y v u Q I rx ry h hs
  obtain ⟨p, xs, i, z, rfl, rfl, hq, he, q⟩ := h
  cases rx
  obtain ⟨t, rfl⟩ := ry
  obtain ⟨its, r, pl, hz⟩ := I.list hq
  obtain ⟨j, h1, h2, h3, h4, h5⟩ := atI_get he
  obtain ⟨w, ew, rw'⟩ := r.get h2
  have hl := r.length
  have hn := line63
  have fin : EP X pins σ Q w s := ⟨z, H, I, rw', q⟩
  by_cases h0 : 0 ≤ i
  · have hj : i.toNat = j := by
      rw [seqIndex_of h0 h5] at h1
      exact Option.some.inj h1
    exact item_listR pl.isList h0 (by (clear hj h0 hl ew h4 h3 h2 h1 hs he; omega)) (by rw [hj]; simpa using ew) fin hs
  · have hj : (i + (its.toArray.size : Int)).toNat = j := by
      rw [seqIndex_neg (by (clear hn hl ew h5 h4 h3 h2 h1 hz hs he; omega)) h4] at h1
      rw [List.size_toArray, ← hl]
      exact Option.some.inj h1
    exact subscriptTail_builtinR (x := w) pl.isList.typeIs slot_list_getitem.lookup
      (wpAny_getItem_list_neg (Q := fun r s' => r = w ∧ EP X pins σ Q r s') pl.isList (by (clear hj hn hl ew h5 h4 h3 h2 h1 hz hs he; omega)) (by rw [List.size_toArray] <;> (clear hj h0 hn ew h5 h3 h2 h1 hz hs he; omega)) (by (clear hj h0 hl ew h5 h3 h2 h1 hs he; omega)) (by rw [hj]; simpa using ew) ⟨rfl, fin⟩) hs
theorem mapSeq_set (its : List Value) (n j : Nat) (u : Value) : Obj.mapSeq (·.setIfInBounds j u) { cls := .type "list", data := .seq its.toArray n } = { cls := .type "list", data := .seq (its.set j u).toArray n } := by
  simp [Obj.mapSeq]
theorem Inv.lst {pins : List (Addr × Obj)} {σ : St} {H : Hp} {s : Shared} {p : Addr} {xs : List V} (I : Inv X pins σ H s) (h : H p = some (.lst xs)) :
    ∃ (its : List Value) (n : Nat), Vals xs its ∧ s.heap.get? p = some { cls := .type "list", data := .seq its.toArray n } ∧ xs.length ≤ sizeLine := by
  obtain ⟨z, its, n, r, e⟩ := I.hok p _ h
  exact ⟨its, n, r, e, z⟩
theorem Inv.lstUpd {pins : List (Addr × Obj)} {σ : St} {H : Hp} {s : Shared} {p : Addr} {xs ys : List V} {its its' : List Value} {n n' : Nat} {f : Obj → Obj} (I : Inv X pins σ H s) (h : H p = some (.lst xs))
    (ho : s.heap.get? p = some { cls := .type "list", data := .seq its.toArray n }) (hf : f { cls := .type "list", data := .seq its.toArray n } = { cls := .type "list", data := .seq its'.toArray n' }) (r : Vals ys its') (hz : ys.length ≤ sizeLine) (t : Nat) :
    Inv X pins σ (upd H p (.lst ys)) { s with heap := s.heap.update p f, toks := t } := by
  have e : (s.heap.update p f).get? p = some { cls := .type "list", data := .seq its'.toArray n' } := by
    rw [Heap.get?_update_self f ho (by rw [hf] <;> rfl), hf]
  refine I.write (x := p) (e := p) (by rw [h]; trivial) (.inl rfl) (fun b u hb q => (Heap.get?_update_other _ _ (Ne.symm hb)).trans q) ⟨_, e⟩ ?_
  exact ⟨hz, its', n', r, e⟩
def rSetL : V → V → V → Hp → (Hp → Prop) → Prop := fun o i v H Q => ∃ p xs k j, o = .ref p ∧ i = .int k ∧ H p = some (.lst xs) ∧ ixN xs.length k = some j ∧ Q (upd H p (.lst (xs.set j v)))
theorem set_list : PSet X rSetL := by
  intro pins s σ H o i v ov iv u Q I ro ri rv h
  obtain ⟨p, xs, k, j, rfl, rfl, hp, hj, q⟩ := h
  cases ro
  obtain ⟨t, rfl⟩ := ri
  obtain ⟨its, n, r, ho, hz⟩ := I.lst hp
  obtain ⟨h1, h2, h3, h4⟩ := ixN_seq hj
  have hl := r.length
  have hn := line63
  have I' : Inv X pins σ (upd H p (.lst (xs.set j v))) { s with heap := s.heap.update p (Obj.mapSeq (·.setIfInBounds j u)) } :=
    I.lstUpd hp ho (mapSeq_set its n j u) (r.set rv j) (by rw [List.length_set]; exact hz) s.toks
  by_cases h0 : 0 ≤ k
  · have hk : k.toNat = j := by
      rw [seqIndex_of h0 h4] at h1
      exact Option.some.inj h1
    exact PySem.W.ki_setAt ho h0 (by (clear hk h0 hl h3 h2 h1 ho hj hp; omega)) (by rw [List.size_toArray, ← hl]; exact h4) (by rw [hk]; exact ⟨_, I', q⟩)
  · have hk : (k + (its.toArray.size : Int)).toNat = j := by
      rw [seqIndex_neg (by (clear hn hl h4 h3 h2 h1 hz ho hj hp; omega)) h3] at h1
      rw [List.size_toArray, ← hl]
      exact Option.some.inj h1
    exact PySem.W.ki_setBack ho (by (clear hk hn hl h4 h3 h2 h1 hz ho hj hp; omega)) (by rw [List.size_toArray, ← hl]; exact h3) (by (clear hk h0 hl h4 h2 h1 ho hj hp; omega)) (by rw [hk]; exact ⟨_, I', q⟩)

theorem slice_bounds (lo hi : Option Int) (n : Nat) : (sliceBounds lo hi none n).1 = ((HT.sIx n 0 lo : Nat) : Int) ∧ (sliceBounds lo hi none n).2.1 = ((HT.sIx n n hi : Nat) : Int) ∧ (sliceBounds lo hi none n).2.2 = 1 := by
  refine ⟨?_, ?_, rfl⟩
  · cases lo with
    | none => simp [sliceBounds, HT.sIx]
    | some i =>
      simp only [sliceBounds, HT.sIx, Option.getD_none, show (1 : Int) > 0 by decide, if_true]
      by_cases h : i < 0
      · simp only [h, if_true] <;> omega
      · simp only [h, if_false] <;> (clear h; omega)
  · cases hi with
    | none => simp [sliceBounds, HT.sIx]
    | some i =>
      simp only [sliceBounds, HT.sIx, Option.getD_none, show (1 : Int) > 0 by decide, if_true]
      by_cases h : i < 0
      · simp only [h, if_true] <;> omega
      · simp only [h, if_false] <;> (clear h; omega)
theorem slicePick_cut (its : List Value) (lo hi : Option Int) : slicePick its.toArray lo hi none = ((its.drop (HT.sIx its.length 0 lo)).take (HT.sIx its.length its.length hi - HT.sIx its.length 0 lo)).toArray := by
  obtain ⟨h1, h2, h3⟩ := slice_bounds lo hi its.toArray.size
  unfold slicePick
  rw [h1, h2, h3]
  simp only [sliceRange_one, pick_run, List.size_toArray] <;> rfl
def rSlL (K : PySem.W.Frag) : V → Option Int → Option Int → Hp → VK → Prop := fun x lo hi H Q => ∃ a xs, x = .ref a ∧ SqL K H a xs ∧ ∀ p, H p = none → Q (.ref p) (upd H p (.lst (cutV xs lo hi)))
theorem sl_list : SlR X (rSlL X.K) := by
  intro pins s σ H x v vl vu lo hi sl Q I rx hs pl pu h
  obtain ⟨a, xs, rfl, hx, q⟩ := h
  cases rx
  obtain ⟨its, r, ht, hz⟩ := I.list hx
  have hlen := r.length
  refine ⟨"list", _, slot_list_getitem.lookup, ht.isList.typeIs, ?_⟩
  refine wpAny_getItem_list_slice ht.isList hs pl pu .none (by simp) ?_ (by rw [List.size_toArray] <;> omega)
  rw [slicePick_cut, ← hlen]
  refine ⟨.ref s.heap.objs.size, _, I.laid (t' := s.toks) (o := .lst (cutV xs lo hi)) (fun b ob q => Heap.get?_push_of_some _ q) (Nat.le_refl _) ?_, rfl, q _ (I.hok.fresh (Nat.le_refl _))⟩
  exact ⟨Nat.le_trans (cutV_length xs lo hi) hz, _, 0, (r.drop (HT.sIx xs.length 0 lo)).take (HT.sIx xs.length xs.length hi - HT.sIx xs.length 0 lo), Heap.get?_push_size _ rfl⟩

def flatV : V → Bool
  | .non => true
  | .bl _ => true
  | .int _ => true
  | .str _ => true
  | _ => false
def eqV : V → V → Bool
  | .non, .non => true
  | .bl a, .bl b => a == b
  | .bl a, .int b => (if a then 1 else 0) == b
  | .int a, .bl b => a == (if b then 1 else 0)
  | .int a, .int b => a == b
  | .str a, .str b => a == b
  | _, _ => false
theorem eqAt_V {A : Around} {s : Shared} {y x : V} {u v : Value} (ry : RelV y u) (rx : RelV x v) (fy : flatV y = true) (fx : flatV x = true) : SeqAt.EqAt A s u v (eqV y x) := by
  cases y with
  | non =>
    cases ry
    cases x with
    | non => cases rx; exact SeqAt.EqAt.same _
    | bl b => cases rx; exact SeqAt.EqAt.none_bool b
    | int b => obtain ⟨t, rfl⟩ := rx; exact SeqAt.EqAt.none_int b t
    | str b => obtain ⟨t, rfl⟩ := rx; exact SeqAt.EqAt.none_str b t
    | _ => exact absurd (show false = true from fx) Bool.false_ne_true
  | bl a =>
    cases ry
    cases x with
    | non => cases rx; exact SeqAt.EqAt.bool_none a
    | bl b => cases rx; exact SeqAt.EqAt.bool_bool a b
    | int b => obtain ⟨t, rfl⟩ := rx; exact SeqAt.EqAt.bool_int a b t
    | str b => obtain ⟨t, rfl⟩ := rx; exact SeqAt.EqAt.bool_str a b t
    | _ => exact absurd (show false = true from fx) Bool.false_ne_true
  | int a =>
    obtain ⟨t', rfl⟩ := ry
    cases x with
    | non => cases rx; exact SeqAt.EqAt.int_none a t'
    | bl b => cases rx; exact SeqAt.EqAt.int_bool a t' b
    | int b => obtain ⟨t, rfl⟩ := rx; exact SeqAt.EqAt.int_int a t' b t
    | str b => obtain ⟨t, rfl⟩ := rx; exact SeqAt.EqAt.int_str a t' b t
    | _ => exact absurd (show false = true from fx) Bool.false_ne_true
  | str a =>
    obtain ⟨t', rfl⟩ := ry
    cases x with
    | non => cases rx; exact SeqAt.EqAt.str_none a t'
    | bl b => cases rx; exact SeqAt.EqAt.str_bool a t' b
    | int b => obtain ⟨t, rfl⟩ := rx; exact SeqAt.EqAt.str_int a t' b t
    | str b => obtain ⟨t, rfl⟩ := rx; exact SeqAt.EqAt.str_str a t' b t
    | _ => exact absurd (show false = true from fx) Bool.false_ne_true
  | _ => exact absurd (show false = true from fy) Bool.false_ne_true
def eqU (x : V) (u : Value) : Bool := match u with
  | .none => eqV .non x
  | .bool b => eqV (.bl b) x
  | .int i _ => eqV (.int i) x
  | .str z _ => eqV (.str z) x
  | _ => false
theorem eqU_of {x y : V} {u : Value} (r : RelV y u) (f : flatV y = true) : eqU x u = eqV y x := by
  cases y with
  | non => cases r; rfl
  | bl b => cases r; rfl
  | int i => obtain ⟨t, rfl⟩ := r; rfl
  | str z => obtain ⟨t, rfl⟩ := r; rfl
  | _ => exact absurd (show false = true from f) Bool.false_ne_true
theorem any_eqU {x : V} : ∀ {xs : List V} {us : List Value}, Vals xs us → xs.all flatV = true → us.any (eqU x) = xs.any fun y => eqV y x
  | _, _, .nil, _ => rfl
  | y :: xs, u :: us, .cons r t, f => by
    rw [List.all_cons, Bool.and_eq_true] at f
    rw [List.any_cons, List.any_cons, eqU_of r f.1, any_eqU t f.2]
theorem mem_eqAt {A : Around} {s : Shared} {x : V} {v : Value} (rx : RelV x v) (fx : flatV x = true) : ∀ {xs : List V} {us : List Value}, Vals xs us → xs.all flatV = true → ∀ u ∈ us, SeqAt.EqAt A s u v (eqU x u)
  | _, _, .nil, _ => fun u hu => by cases hu
  | y :: xs, u :: us, .cons r t, f => fun u' hu => by
    rw [List.all_cons, Bool.and_eq_true] at f
    rcases List.mem_cons.mp hu with rfl | hu
    · rw [eqU_of r f.1]; exact eqAt_V r rx f.1 fx
    · exact mem_eqAt rx fx t f.2 u' hu
def inV (x : V) (xs : List V) : Bool := xs.any fun y => eqV y x
def rIn (K : PySem.W.Frag) (neg : Bool) : R2 := fun x y H Q => ∃ p xs, y = .ref p ∧ (SqL K H p xs ∨ SqT K H p xs) ∧ flatV x = true ∧ xs.all flatV = true ∧ Q (.bl (if neg then !inV x xs else inV x xs)) H
theorem op_in_seq : OpR X (compareOp .In) (rIn X.K false) := by
  intro pins s σ H x y v u Q I rx ry h
  obtain ⟨p, xs, rfl, hq, fx, fs, q⟩ := h
  cases ry
  rcases hq with hq | hq
  · obtain ⟨its, r, pl, hz⟩ := I.list hq
    refine SeqAt.in_listAt (eqU x) pl.isList (fun w hw => mem_eqAt rx fx r fs w (by simpa using hw)) ⟨.bl _, H, I, rfl, ?_⟩
    rw [show its.toArray.any (eqU x) = its.any (eqU x) by simp, any_eqU r fs]
    exact q
  · obtain ⟨its, r, pl, hz⟩ := I.tuple hq
    refine SeqAt.in_tupleAt (eqU x) pl (fun w hw => mem_eqAt rx fx r fs w (by simpa using hw)) ⟨.bl _, H, I, rfl, ?_⟩
    rw [show its.toArray.any (eqU x) = its.any (eqU x) by simp, any_eqU r fs]
    exact q
theorem op_notIn_seq : OpR X (compareOp .NotIn) (rIn X.K true) := by
  intro pins s σ H x y v u Q I rx ry h
  obtain ⟨p, xs, rfl, hq, fx, fs, q⟩ := h
  cases ry
  rcases hq with hq | hq
  · obtain ⟨its, r, pl, hz⟩ := I.list hq
    refine SeqAt.notIn_listAt (eqU x) pl.isList (fun w hw => mem_eqAt rx fx r fs w (by simpa using hw)) ⟨.bl _, H, I, rfl, ?_⟩
    rw [show its.toArray.any (eqU x) = its.any (eqU x) by simp, any_eqU r fs]
    exact q
  · obtain ⟨its, r, pl, hz⟩ := I.tuple hq
    refine SeqAt.notIn_tupleAt (eqU x) pl (fun w hw => mem_eqAt rx fx r fs w (by simpa using hw)) ⟨.bl _, H, I, rfl, ?_⟩
    rw [show its.toArray.any (eqU x) = its.any (eqU x) by simp, any_eqU r fs]
    exact q
theorem call_len_seq : CallR X (.builtin "len") (fun xs H Q => ∃ p ys, xs = [.ref p] ∧ (SqL X.K H p ys ∨ SqT X.K H p ys) ∧ Q (.int ys.length) H) := by
  intro pins s σ H xs us Q I r h
  obtain ⟨p, ys, rfl, hq, q⟩ := h
  obtain ⟨u, rfl, rx⟩ := vals1 r
  cases rx
  have hn := line63
  rcases hq with hq | hq
  · obtain ⟨its, r', pl, hz⟩ := I.list hq
    have hlen := r'.length
    exact Calls.call_len_list pl.isList (by simp only [List.size_toArray] <;> omega) ⟨.int ys.length, H, I.tok _, ⟨s.toks + 1, by rw [List.size_toArray, hlen]⟩, q⟩
  · obtain ⟨its, r', pl, hz⟩ := I.tuple hq
    have hlen := r'.length
    exact len_tuple pl (by simp only [List.size_toArray] <;> omega) ⟨.int ys.length, H, I.tok _, ⟨s.toks + 1, by rw [List.size_toArray, hlen]⟩, q⟩
def tyV (K : PySem.W.Frag) (T : String) (x : V) (H : Hp) : Prop := match x with
  | .str _ => T = "str"
  | .int _ => T = "int"
  | .ref p => (T = "list" ∧ ∃ xs, SqL K H p xs) ∨ (T = "tuple" ∧ ∃ o, K.lookup p = some o ∧ o.cls = .type "tuple" ∧ o.dict = none) ∨
      (T = "dict" ∧ ((∃ kvs, H p = some (.dK kvs)) ∨ ∃ kvs, H p = some (.dT kvs))) ∨ (T = "set" ∧ ∃ S n, H p = some (.set S n))
  | _ => False
theorem tyV_is {pins : List (Addr × Obj)} {σ : St} {H : Hp} {s : Shared} {T : String} {x : V} {v : Value} (I : Inv X pins σ H s) (r : RelV x v) (ty : tyV X.K T x H) :
    s.TypeIs v T ∧ ∀ a, v = .ref a → ∃ ob, s.heap.get? a = some ob ∧ ob.dict = none := by
  cases x with
  | str z =>
    obtain ⟨t, rfl⟩ := r
    cases (show T = "str" from ty)
    exact ⟨typeIs_str s z t, fun _ e => nomatch e⟩
  | int i =>
    obtain ⟨t, rfl⟩ := r
    cases (show T = "int" from ty)
    exact ⟨typeIs_int s i t, fun _ e => nomatch e⟩
  | ref p =>
    cases r
    rcases ty with ⟨rfl, xs, hq⟩ | ⟨rfl, o, hk, hc, hd⟩ | ⟨rfl, hk⟩ | ⟨rfl, S, n, hk⟩
    · obtain ⟨its, _, pl, _⟩ := I.list hq
      refine ⟨pl.isList.typeIs, fun a e => ?_⟩
      cases e
      obtain ⟨o, n, e, c, hd, _⟩ := pl
      exact ⟨o, e, hd⟩
    · refine ⟨⟨o, I.kIn p o hk, hc⟩, fun a e => ?_⟩
      cases e
      exact ⟨o, I.kIn _ o hk, hd⟩
    · have z : ∃ o, s.heap.get? p = some o ∧ o.ExactDict := by
        rcases hk with ⟨kvs, hk⟩ | ⟨kvs, hk⟩
        · obtain ⟨_, _, _, _, o, _, _, e, ex, _⟩ := I.hok p _ hk
          exact ⟨o, e, ex⟩
        · obtain ⟨_, _, _, _, o, _, _, e, ex, _⟩ := I.hok p _ hk
          exact ⟨o, e, ex⟩
      obtain ⟨o, e, ex⟩ := z
      refine ⟨⟨o, e, ex.1⟩, fun a e2 => ?_⟩
      cases e2
      exact ⟨o, e, ex.2.1⟩
    · obtain ⟨o, _, _, _, e, ex, _⟩ := I.hok p _ hk
      refine ⟨⟨o, e, ex.1⟩, fun a e2 => ?_⟩
      cases e2
      exact ⟨o, e, ex.2.1⟩
  | _ => exact False.elim ty
def tBM (K : PySem.W.Frag) (T : String) (r : V → List V → Hp → VK → Prop) (to : TE) (t : TA) : TE := fun σ H Q => to σ H fun x H1 => tyV K T x H1 ∧ t σ H1 fun xs H2 => r x xs H2 Q
variable {o e : Expr} {es : List Expr} {to : TE} {t : TA} {name : Str} {apos cpos : Pos} {T id : String} {r : V → List V → Hp → VK → Prop}
theorem pe_bm (pa : PlainAttrs T) (slot : Slot T name id) (hty : typeOf (.builtin id) = pure (.type "method_descriptor")) (hm : MtR X id r) (ho : PE X o to) (ha : PA X (e :: es) t)
    (hbase : attributeBase o name X.env (eval o X.env) = eval o X.env := by rfl)
    (hfew : ((backTo cpos (starEach (e :: es) X.env)).all (fun x => !x.1) && (backToKw cpos (keywordEach [] X.env)).all (fun x => x.1.isSome)
      && decide ((e :: es).length + ([] : List Keyword).length + (if ([] : List Keyword).isEmpty then 0 else 1) < 30)) = true := by rfl)
    (hline : (apos.endLine == cpos.line) = true := by rfl) (hs : starEach (e :: es) X.env = (false, eval e X.env) :: starEach es X.env := by rfl) (hplain : (backTo cpos (starEach es X.env)).any (·.1) = false := by rfl) :
    PE X (.Call (.Attribute o name apos) (e :: es) [] cpos) (tBM X.K T r to t) := by
  intro pins s σ H Q I h
  refine wpAny_Call_method_late hbase hfew hline rfl (thn (ho pins s σ H _ I h) fun v s1 ⟨x, H1, I1, r1, ty, q1⟩ => ?_)
  obtain ⟨h1, h2⟩ := tyV_is I1 r1 ty
  refine ⟨T, id, pa, slot, hty, h1, h2, ?_⟩
  have hA := ha cpos pins s1 σ H1 _ I1 q1
  rw [hs] at hA ⊢
  refine Calls.callWith_builtin (by show (false || (backTo cpos (starEach es X.env)).any (·.1)) = false; rw [hplain] <;> rfl) (Calls.evalArgs_plain ?_)
  exact thn hA fun us s2 ⟨vs, H2, I2, r2, q2⟩ => hm pins s2 σ H2 x vs v us Q I2 r1 r2 q2
/- xs.append(e), list.index on a module's tuple .. are MtR facts of 06m -/
end
end L2

namespace L2
open PySem PySem.Spec PyProof.Rows

def MtM (X : Cx) (id : String) (r : V → List V → Hp → VK → Prop) : Prop :=
  ∀ (pins : List (Addr × Obj)) (s : Shared) (σ : St) (H : Hp) (x : V) (xs : List V) (v : Value) (us : List Value) (Q : VK), Inv X pins σ H s → RelV x v → Vals xs us → r x xs H Q →
    wpAny (model X.prog X.w) X.A (call (.builtin id) (v :: us)) (EP X pins σ Q) X.xe s

theorem Vals.one : ∀ {x : V} {us : List Value}, Vals [x] us → ∃ u, us = [u] ∧ RelV x u
  | _, _, .cons r .nil => ⟨_, rfl, r⟩
theorem Vals.two : ∀ {x y : V} {us : List Value}, Vals [x, y] us → ∃ u v, us = [u, v] ∧ RelV x u ∧ RelV y v
  | _, _, _, .cons r (.cons q .nil) => ⟨_, _, rfl, r, q⟩
theorem Vals.eraseIdx : ∀ {xs : List V} {us : List Value} (i : Nat), Vals xs us → Vals (xs.eraseIdx i) (us.eraseIdx i)
  | _, _, _, .nil => .nil
  | _, _, 0, .cons _ t => t
  | _, _, i + 1, .cons r t => .cons r (Vals.eraseIdx i t)
theorem len_erase {α : Type} : ∀ (l : List α) (i : Nat), (l.eraseIdx i).length ≤ l.length
  | [], _ => Nat.le_refl _
  | _ :: _, 0 => Nat.le_succ _
  | _ :: r, i + 1 => Nat.succ_le_succ (len_erase r i)
section
variable {X : Cx} {pins : List (Addr × Obj)} {σ : St} {H : Hp} {s : Shared} {l b : Addr} {xs ys zs : List V}

theorem Inv.lset {its its' : List Value} {n : Nat} {f : Array Value → Array Value} {t' : Nat} (I : Inv X pins σ H s) (hH : H l = some (.lst xs))
    (e : s.heap.get? l = some { cls := .type "list", data := .seq its.toArray n }) (hf : f its.toArray = its'.toArray) (hv : Vals ys its') (hz : ys.length ≤ sizeLine) :
    Inv X pins σ (upd H l (.lst ys)) { s with heap := s.heap.update l (Obj.mapSeq f), toks := t' } := by
  have q := PySem.IsL.update e f
  rw [hf] at q
  refine I.write (x := l) (e := l) (by rw [hH]; exact trivial) (.inl rfl) (fun b' u hb hu => (Heap.get?_update_other s.heap (Obj.mapSeq f) (Ne.symm hb)).trans hu) ⟨_, q⟩ ?_
  exact ⟨hz, its', _, hv, q⟩
theorem Inv.lnew {its : List Value} {t' : Nat} (I : Inv X pins σ H s) (hv : Vals ys its) (hz : ys.length ≤ sizeLine) :
    Inv X pins σ (upd H s.heap.objs.size (.lst ys)) { s with heap := s.heap.push { cls := .type "list", data := .seq its.toArray }, toks := t' } :=
  I.laid (fun _ _ q => Heap.get?_push_of_some _ q) (Nat.le_refl _) ⟨hz, its, 0, hv, Heap.get?_push_size _ rfl⟩
theorem Inv.fresh (I : Inv X pins σ H s) : H s.heap.objs.size = none := I.hok.fresh (Nat.le_refl _)
theorem Inv.lstM (I : Inv X pins σ H s) (hH : H l = some (.lst xs)) : xs.length ≤ sizeLine ∧ ∃ (its : List Value) (n : Nat), Vals xs its ∧ xs.length = its.length ∧ s.heap.get? l = some { cls := .type "list", data := .seq its.toArray n } := by
  obtain ⟨z, its, n, r, e⟩ := I.hok l _ hH
  exact ⟨z, its, n, r, r.length, e⟩

theorem notLongL {n : Nat} (h : n ≤ sizeLine) : Builtin.List.listTooLong n = false := by
  unfold Builtin.List.listTooLong
  exact decide_eq_false (by omega)
end

section
variable {X : Cx}

def rAppend : V → List V → Hp → VK → Prop := fun x vs H Q => ∃ l xs y, x = .ref l ∧ vs = [y] ∧ H l = some (.lst xs) ∧ xs.length < sizeLine ∧ Q .non (upd H l (.lst (xs ++ [y])))
theorem mt_append : MtM X "list.append" rAppend := by
  intro pins s σ H x vs v us Q I rx rv h
  obtain ⟨l, xs, y, rfl, rfl, hH, hz, q⟩ := h
  cases rx
  obtain ⟨u, rfl, ru⟩ := rv.one
  obtain ⟨z, its, n, r, hl, e⟩ := I.lstM hH
  refine call_meets F.slot_list_append ⟨_, e, rfl⟩ F.entry_list_append (F.args_list_append_2 _ _) (PySem.list_append l its.toArray n u (by rw [List.size_toArray]; (clear e z hH; omega))) ⟨e, ?_⟩
  refine ⟨.non, _, I.lset (its' := its ++ [u]) hH e (by simp) (r.append (.cons ru .nil)) ?_, rfl, q⟩
  rw [List.length_append, List.length_singleton]
  (clear e hl z hH; omega)

def rExtend : V → List V → Hp → VK → Prop := fun x vs H Q => ∃ l b xs zs, x = .ref l ∧ vs = [.ref b] ∧ H l = some (.lst xs) ∧ H b = some (.lst zs) ∧ xs.length + zs.length ≤ sizeLine ∧ Q .non (upd H l (.lst (xs ++ zs)))
theorem mt_extend : MtM X "list.extend" rExtend := by
  intro pins s σ H x vs v us Q I rx rv h
  obtain ⟨l, b, xs, zs, rfl, rfl, hH, hB, hz, q⟩ := h
  cases rx
  obtain ⟨u, rfl, ru⟩ := rv.one
  cases ru
  obtain ⟨z, its, n, r, hl, e⟩ := I.lstM hH
  obtain ⟨z2, its2, n2, r2, hl2, e2⟩ := I.lstM hB
  have hsz : its.toArray.size + its2.toArray.size ≤ sizeLine := by rw [List.size_toArray, List.size_toArray]; (clear e2 z2 e z hB hH; omega)
  have hlong : ¬ (!its.toArray.isEmpty && Builtin.List.listTooLong (its.toArray.size + its2.toArray.size)) = true := by
    rw [notLongL hsz, Bool.and_false]
    exact Bool.false_ne_true
  refine call_meets F.slot_list_extend ⟨_, e, rfl⟩ F.entry_list_extend (F.args_list_extend_2 _ _)
    (AutoSeq1.list_extend_list_list_0 l its.toArray n b its2.toArray n2 hlong (by rw [List.size_toArray]; (clear hlong hsz e2 hl2 z2 e z hB hH; omega)) (by (clear hlong e2 hl2 z2 e hl z hz hB hH; omega))) ⟨e, e2, ?_⟩
  refine ⟨.non, _, I.lset (its' := its ++ its2) hH e (by simp) (r.append r2) ?_, rfl, q⟩
  rw [List.length_append]
  (clear hlong hsz e2 hl2 z2 e hl z hB hH; omega)

def rPopAt : V → List V → Hp → VK → Prop := fun x vs H Q => ∃ l xs i k y, x = .ref l ∧ vs = [.int i] ∧ H l = some (.lst xs) ∧ -(2 ^ 63) ≤ i ∧ i < 2 ^ 63 ∧ seqIndex? i xs.length = some k ∧ xs[k]? = some y ∧ Q y (upd H l (.lst (xs.eraseIdx k)))
theorem mt_popAt : MtM X "list.pop" rPopAt := by
  intro pins s σ H x vs v us Q I rx rv h
  obtain ⟨l, xs, i, k, y, rfl, rfl, hH, h1, h2, hk, hy, q⟩ := h
  cases rx
  obtain ⟨u, rfl, ru⟩ := rv.one
  obtain ⟨t, rfl⟩ := ru
  obtain ⟨z, its, n, r, hl, e⟩ := I.lstM hH
  obtain ⟨w, hw, rw'⟩ := r.get hy
  refine call_meets F.slot_list_pop ⟨_, e, rfl⟩ F.entry_list_pop (F.args_list_pop_2 _ _)
    (MeetsSeq.list_pop_at l its.toArray n i t k w (fitsIndex_both h1 h2) (by rw [List.size_toArray, ← hl]; exact hk) (by rw [← Array.getElem?_toList]; exact hw) (by rw [List.size_toArray]; (clear hw e hy hk h2 h1 hH; omega))) ⟨e, ?_⟩
  refine ⟨y, _, I.lset (its' := its.eraseIdx k) hH e ?_ (r.eraseIdx k) ?_, rw', q⟩
  · show its.toArray.eraseIdxIfInBounds k = (its.eraseIdx k).toArray
    rw [List.eraseIdxIfInBounds_toArray]
  · have := len_erase xs k
    (clear hw e hl hy hk h2 h1 hH; omega)

def rCat : R2 := fun x y H Q => ∃ l b xs zs, x = .ref l ∧ y = .ref b ∧ H l = some (.lst xs) ∧ H b = some (.lst zs) ∧ xs.length + zs.length ≤ sizeLine ∧ ∀ p, H p = none → Q (.ref p) (upd H p (.lst (xs ++ zs)))
theorem op_cat : OpR X (binaryOp .Add) rCat := by
  intro pins s σ H x y v u Q I rx ry h
  obtain ⟨l, b, xs, zs, rfl, rfl, hH, hB, hz, q⟩ := h
  cases rx
  cases ry
  obtain ⟨z, its, n, r, hl, e⟩ := I.lstM hH
  obtain ⟨z2, its2, n2, r2, hl2, e2⟩ := I.lstM hB
  refine PySem.P.add_list e e2 ?_ (by rw [List.size_toArray, List.size_toArray]; (clear e2 z2 e z hB hH; omega))
  have ea : its.toArray ++ its2.toArray = (its ++ its2).toArray := by simp
  rw [ea]
  exact ⟨.ref _, _, I.lnew (t' := s.toks) (r.append r2) (by rw [List.length_append]; (clear ea e2 hl2 z2 e hl z hB hH; omega)), rfl, q _ I.fresh⟩
end

section
variable {prog : Program} {w : World} {A : Around} {E : Value → Shared → Prop} {s : Shared}
end

section
variable {X : Cx}
end
end L2

namespace L2
open PySem PySem.Spec PyProof.Rows
section
variable {κ : Type} [DecidableEq κ]
def valV (kvs : List (κ × V)) (k : κ) : Option V := (kvs.find? fun kv => decide (kv.1 = k)).map (·.2)
def putK (kvs : List (κ × V)) (k : κ) (v : V) : List (κ × V) :=
  if (kvs.any fun kv => decide (kv.1 = k)) = true then kvs.map (fun kv => if kv.1 = k then (kv.1, v) else kv) else kvs ++ [(k, v)]
def dropK (kvs : List (κ × V)) (k : κ) : List (κ × V) := kvs.filter fun kv => decide (kv.1 ≠ k)

theorem valV_nil {k : κ} : valV ([] : List (κ × V)) k = none := rfl
theorem valV_pos {p : κ × V} {r : List (κ × V)} {k : κ} (e : p.1 = k) : valV (p :: r) k = some p.2 := by simp [valV, List.find?_cons, e]
theorem valV_neg {p : κ × V} {r : List (κ × V)} {k : κ} (e : ¬ p.1 = k) : valV (p :: r) k = valV r k := by simp [valV, List.find?_cons, e]
theorem valV_any (k : κ) : ∀ kvs : List (κ × V), (kvs.any fun kv => decide (kv.1 = k)) = (valV kvs k).isSome
  | [] => rfl
  | p :: r => by
    rw [List.any_cons]
    by_cases e : p.1 = k
    · simp only [valV_pos e, decide_eq_true e, Bool.true_or, Option.isSome_some]
    · rw [valV_neg e, decide_eq_false e, Bool.false_or]; exact valV_any k r
theorem length_putK (kvs : List (κ × V)) (k : κ) (v : V) : (putK kvs k v).length ≤ kvs.length + 1 := by
  unfold putK
  split
  · rw [List.length_map]; omega
  · rw [List.length_append, List.length_cons, List.length_nil]; omega
theorem putK_new {kvs : List (κ × V)} {k : κ} (v : V) (h : valV kvs k = none) : putK kvs k v = kvs ++ [(k, v)] := by
  unfold putK
  rw [valV_any, h]
  exact if_neg (by decide)

theorem RelO.isSome_eq {o : Option V} {u : Option Value} (r : RelO o u) : o.isSome = u.isSome := by
  cases o with
  | none => cases u with
    | none => rfl
    | some _ => exact (show False from r).elim
  | some _ => cases u with
    | none => exact (show False from r).elim
    | some _ => rfl
theorem KV.val {kvs : List (κ × V)} {vs : List (κ × Value)} (r : KV kvs vs) (k : κ) : RelO (valV kvs k) (valueAt vs k) := by
  unfold KV at r
  induction r with
  | nil => exact True.intro
  | @cons p q ps qs h t ih =>
    obtain ⟨h1, h2⟩ := h
    by_cases e : p.1 = k
    · have e' : q.1 = k := h1.symm.trans e
      have b : valueAt (q :: qs) k = some q.2 := by simp [valueAt, List.find?_cons, e']
      rw [valV_pos e, b]; exact h2
    · have e' : ¬ q.1 = k := fun z => e (h1.trans z)
      have b : valueAt (q :: qs) k = valueAt qs k := by simp [valueAt, List.find?_cons, e']
      rw [valV_neg e, b]; exact ih
theorem KV.any {kvs : List (κ × V)} {vs : List (κ × Value)} (r : KV kvs vs) (k : κ) : (kvs.any fun kv => decide (kv.1 = k)) = vs.any fun kv => decide (kv.1 = k) := by
  unfold KV at r
  induction r with
  | nil => rfl
  | cons h t ih => rw [List.any_cons, List.any_cons, ih, h.1]
theorem KV.repl {kvs : List (κ × V)} {vs : List (κ × Value)} (r : KV kvs vs) (k : κ) {y : V} {u : Value} (ry : RelV y u) :
    KV (kvs.map fun kv => if kv.1 = k then (kv.1, y) else kv) (vs.map fun kv => if kv.1 = k then (kv.1, u) else kv) := by
  unfold KV at r ⊢
  induction r with
  | nil => exact .nil
  | @cons p q ps qs h t ih =>
    rw [List.map_cons, List.map_cons]
    refine .cons ?_ ih
    obtain ⟨h1, h2⟩ := h
    by_cases e : p.1 = k
    · rw [if_pos e, if_pos (h1.symm.trans e)]; exact ⟨h1, ry⟩
    · rw [if_neg e, if_neg (fun z => e (h1.trans z))]; exact ⟨h1, h2⟩
theorem KV.put {kvs : List (κ × V)} {vs : List (κ × Value)} (r : KV kvs vs) (k : κ) {y : V} {u : Value} (ry : RelV y u) : KV (putK kvs k y) (stored vs k u) := by
  unfold putK stored
  rw [r.any k]
  by_cases e : (vs.any fun kv => decide (kv.1 = k)) = true
  · rw [if_pos e, if_pos e]; exact r.repl k ry
  · rw [if_neg e, if_neg e]; exact Paired.snoc r ⟨rfl, ry⟩
theorem KV.drop {kvs : List (κ × V)} {vs : List (κ × Value)} (r : KV kvs vs) (k : κ) : KV (dropK kvs k) (without vs k) := by
  unfold KV at r ⊢
  unfold dropK without
  induction r with
  | nil => exact .nil
  | @cons p q ps qs h t ih =>
    obtain ⟨h1, h2⟩ := h
    rw [List.filter_cons, List.filter_cons]
    by_cases e : p.1 = k
    · have a : ¬ decide (p.1 ≠ k) = true := by simp [e]
      have b : ¬ decide (q.1 ≠ k) = true := by simp [h1.symm.trans e]
      rw [if_neg a, if_neg b]; exact ih
    · have e' : ¬ q.1 = k := fun z => e (h1.trans z)
      have a : decide (p.1 ≠ k) = true := by simp [e]
      have b : decide (q.1 ≠ k) = true := by simp [e']
      rw [if_pos a, if_pos b]; exact .cons ⟨h1, h2⟩ ih
theorem KV.length {kvs : List (κ × V)} {vs : List (κ × Value)} (r : KV kvs vs) : kvs.length = vs.length := Paired.length r
theorem dropK_le (kvs : List (κ × V)) (k : κ) : (dropK kvs k).length ≤ kvs.length := List.length_filter_le _ _
end


theorem kV_is {P : Program} {w : World} {k : Key} {u : Value} (r : RelV (kV k) u) : (mixKind P w).is k u = true := by
  cases k with
  | inl i => obtain ⟨t, e⟩ := (show ∃ t, u = Value.int i t from r); subst e; exact mixKind_int P w i t
  | inr x => obtain ⟨t, e⟩ := (show ∃ t, u = Value.str x t from r); subst e; exact mixKind_str P w x t
theorem items_are {P : Program} {w : World} : ∀ {ks : List Key} {us : List Value}, Vals (ks.map kV) us → ItemsAre (mixKind P w) ks us
  | [], _, r => by rw [List.map_nil] at r; cases r; exact .nil
  | k :: ks, _, r => by
    rw [List.map_cons] at r
    cases r with
    | cons h t => exact .cons (kV_is h) (items_are t)

abbrev KT (H : Hp) : List (List Key × V) → List (List Key × Addr × Value) → Prop := Paired fun p q => p.1 = q.1 ∧ H q.2.1 = some (.tup (p.1.map kV)) ∧ RelV p.2 q.2.2
theorem KT.val {H : Hp} {kvs : List (List Key × V)} {xs : List (List Key × Addr × Value)} (r : KT H kvs xs) (k : List Key) : RelO (valV kvs k) ((atKey xs k).map (·.2)) := by
  induction r with
  | nil => exact True.intro
  | @cons p q ps qs h t ih =>
    obtain ⟨h1, _, h2⟩ := h
    by_cases e : p.1 = k
    · have e' : q.1 = k := h1.symm.trans e
      have b : atKey (q :: qs) k = some q.2 := by simp [atKey, List.find?_cons, e']
      rw [valV_pos e, b]; exact h2
    · have e' : ¬ q.1 = k := fun z => e (h1.trans z)
      have b : atKey (q :: qs) k = atKey qs k := by simp [atKey, List.find?_cons, e']
      rw [valV_neg e, b]; exact ih
theorem KT.repl {H : Hp} {kvs : List (List Key × V)} {xs : List (List Key × Addr × Value)} (r : KT H kvs xs) (k : List Key) {y : V} {u : Value} (ry : RelV y u) :
    KT H (kvs.map fun kv => if kv.1 = k then (kv.1, y) else kv) (xs.map (putAt k u)) := by
  induction r with
  | nil => exact .nil
  | @cons p q ps qs h t ih =>
    rw [List.map_cons, List.map_cons]
    refine .cons ?_ ih
    obtain ⟨h1, h2, h3⟩ := h
    unfold putAt
    by_cases e : p.1 = k
    · rw [if_pos e, if_pos (h1.symm.trans e)]; exact ⟨h1, h2, ry⟩
    · rw [if_neg e, if_neg (fun z => e (h1.trans z))]; exact ⟨h1, h2, h3⟩
theorem KT.put {H : Hp} {kvs : List (List Key × V)} {xs : List (List Key × Addr × Value)} (r : KT H kvs xs) (k : List Key) {b : Addr} {y : V} {u : Value} (hb : H b = some (.tup (k.map kV))) (ry : RelV y u) :
    KT H (putK kvs k y) (storedH xs k b u) := by
  have e : (kvs.any fun kv => decide (kv.1 = k)) = (atKey xs k).isSome := by
    rw [valV_any, (r.val k).isSome_eq, Option.isSome_map]
  unfold putK storedH
  rw [e]
  by_cases q : (atKey xs k).isSome = true
  · rw [if_pos q, if_pos q]; exact r.repl k ry
  · rw [if_neg q, if_neg q]; exact Paired.snoc r ⟨rfl, hb, ry⟩
theorem KT.keeps {H H' : Hp} {kvs : List (List Key × V)} {xs : List (List Key × Addr × Value)} (r : KT H kvs xs) (ht : ∀ b ys, H b = some (.tup ys) → H' b = some (.tup ys)) : KT H' kvs xs :=
  Paired.mapP r fun _ _ z => ⟨z.1, ht _ _ z.2.1, z.2.2⟩

section
variable {P : Program} {w : World} {H : Hp} {h : Heap} {a : Addr}
theorem rd_of {u : HO} (ok : HOk P w H h) (e : Rd H a u) : ObjOk P w H h a u := e.ok ok
theorem dk_rd {kvs : List (Key × V)} (ok : HOk P w H h) (e : Rd H a (.dK kvs)) : kvs.length ≤ sizeLine ∧ (a == sysModules) = false ∧ ∃ vs, KV kvs vs ∧ h.DictOf (mixKind P w) a vs :=
  show ObjOk P w H h a (.dK kvs) from rd_of ok e
theorem dk_of {kvs : List (Key × V)} (ok : HOk P w H h) (e : H a = some (.dK kvs)) : kvs.length ≤ sizeLine ∧ (a == sysModules) = false ∧ ∃ vs, KV kvs vs ∧ h.DictOf (mixKind P w) a vs := dk_rd ok (.inl e)
theorem key_of {ks : List Key} (ok : HOk P w H h) (e : H a = some (.tup (ks.map kV))) : (tupleKind (mixKind P w)).is h ks a := by
  obtain ⟨_, its, r, o, h1, h2, n, h3⟩ := (show ObjOk P w H h a (.tup (ks.map kV)) from ok a _ e)
  exact ⟨o, its.toArray, n, h1, h2, h3, by simpa using items_are r⟩
theorem dt_rd {kvs : List (List Key × V)} (ok : HOk P w H h) (e : Rd H a (.dT kvs)) : kvs.length ≤ sizeLine ∧ (a == sysModules) = false ∧
    ∃ xs, KT H kvs xs ∧ h.DictOfH (tupleKind (mixKind P w)) a xs := by
  obtain ⟨z, y, xs, r, o, es, ep, h1, h2, h3, h4, h5⟩ := (show ObjOk P w H h a (.dT kvs) from rd_of ok e)
  refine ⟨z, y, xs, r, o, es, ep, h1, h2, h3, h4, fun x hx => ?_, h5⟩
  have all : ∀ {l : List (List Key × V)} {m : List (List Key × Addr × Value)}, KT H l m → ∀ x ∈ m, (tupleKind (mixKind P w)).is h x.1 x.2.1 := by
    intro l m q
    induction q with
    | nil => intro x hx; exact nomatch hx
    | @cons p q ps qs hq t ih =>
      intro x hx
      rcases List.mem_cons.mp hx with e | hx
      · subst e
        exact key_of ok (by rw [← hq.1]; exact hq.2.1)
      · exact ih x hx
  exact all r x hx
theorem dt_of {kvs : List (List Key × V)} (ok : HOk P w H h) (e : H a = some (.dT kvs)) : kvs.length ≤ sizeLine ∧ (a == sysModules) = false ∧
    ∃ xs, KT H kvs xs ∧ h.DictOfH (tupleKind (mixKind P w)) a xs := dt_rd ok (.inl e)
end

def DGet (H : Hp) (a : Addr) (y : V) (r : Option V) : Prop :=
  (∃ kvs k, Rd H a (.dK kvs) ∧ y = kV k ∧ r = valV kvs k) ∨ ∃ kvs k b, Rd H a (.dT kvs) ∧ y = .ref b ∧ H b = some (.tup (k.map kV)) ∧ r = valV kvs k
def DPut (H : Hp) (a : Addr) (y v : V) (H' : Hp) : Prop :=
  (∃ kvs k, H a = some (.dK kvs) ∧ y = kV k ∧ kvs.length < sizeLine ∧ H' = upd H a (.dK (putK kvs k v))) ∨
  ∃ kvs k b, H a = some (.dT kvs) ∧ y = .ref b ∧ H b = some (.tup (k.map kV)) ∧ kvs.length < sizeLine ∧ H' = upd H a (.dT (putK kvs k v))
theorem DGet.k {H : Hp} {a : Addr} {kvs : List (Key × V)} {k : Key} (e : H a = some (.dK kvs)) : DGet H a (kV k) (valV kvs k) := .inl ⟨kvs, k, .inl e, rfl, rfl⟩
theorem DPut.k {H : Hp} {a : Addr} {kvs : List (Key × V)} {k : Key} {v : V} (e : H a = some (.dK kvs)) (hl : kvs.length < sizeLine) : DPut H a (kV k) v (upd H a (.dK (putK kvs k v))) := .inl ⟨kvs, k, e, rfl, hl, rfl⟩
section
variable {X : Cx} {pins : List (Addr × Obj)} {σ : St} {H : Hp} {s : Shared} {a : Addr} {y v : V} {u r : Value} {o : Option V} {A : Around} {E : Value → Shared → Prop}

theorem Inv.big (I : Inv X pins σ H s) : sysModules < s.heap.objs.size := by
  have h : mainGlobals < s.heap.objs.size := (I.mod.glob.keeps I.bk).lt
  exact Nat.lt_trans (by decide) h

theorem d_in {Q : Value → Shared → Prop} (hu : A.units + 1 < cLine) (I : Inv X pins σ H s) (g : DGet H a y o) (ry : RelV y u) (h : ∀ s', Inv X pins σ H s' → Q (.bool o.isSome) s') :
    wpAny (model X.prog X.w) A (compareOp .In u (.ref a)) Q E s := by
  rcases g with ⟨kvs, k, e, ey, l⟩ | ⟨kvs, k, b, e, ey, eb, l⟩
  · subst ey
    obtain ⟨z, hd, vs, rel, dd⟩ := dk_rd I.hok e
    refine wpAny_in_of (kV_is ry) hd dd.mapOf ?_
    rw [← (rel.val k).isSome_eq, ← l]
    exact h _ (I.tok _)
  · subst ey
    cases (show u = Value.ref b from ry)
    obtain ⟨z, hd, xs, rel, dd⟩ := dt_rd I.hok e
    refine wpAny_in_heap (tupleKind_room_in1 hu) (key_of I.hok eb) hd dd ?_
    have q := (rel.val k).isSome_eq
    rw [Option.isSome_map] at q
    rw [← q, ← l]
    exact h _ (I.tok _)
theorem d_notIn {Q : Value → Shared → Prop} (hu : A.units + 1 < cLine) (I : Inv X pins σ H s) (g : DGet H a y o) (ry : RelV y u) (h : ∀ s', Inv X pins σ H s' → Q (.bool (!o.isSome)) s') :
    wpAny (model X.prog X.w) A (compareOp .NotIn u (.ref a)) Q E s := by
  rcases g with ⟨kvs, k, e, ey, l⟩ | ⟨kvs, k, b, e, ey, eb, l⟩
  · subst ey
    obtain ⟨z, hd, vs, rel, dd⟩ := dk_rd I.hok e
    refine wpAny_notIn_of (kV_is ry) hd dd.mapOf ?_
    rw [← (rel.val k).isSome_eq, ← l]
    exact h _ (I.tok _)
  · subst ey
    cases (show u = Value.ref b from ry)
    obtain ⟨z, hd, xs, rel, dd⟩ := dt_rd I.hok e
    refine wpAny_notIn_heap (tupleKind_room_in1 hu) (key_of I.hok eb) hd dd ?_
    have q := (rel.val k).isSome_eq
    rw [Option.isSome_map] at q
    rw [← q, ← l]
    exact h _ (I.tok _)
theorem d_write {h' : Heap} {t' : Nat} {ob : HO} (I : Inv X pins σ H s) (mu : Mut (H a)) (hs : Heap.SameBut a s.heap h') (he : ∃ q, h'.get? a = some q) (new : ObjOk X.prog X.w (upd H a ob) h' a ob) :
    Inv X pins σ (upd H a ob) { s with heap := h', toks := t' } :=
  I.write (x := a) (e := a) mu (.inl rfl) (fun b q hb z => (hs.2 b hb).trans z) he new
theorem dk_new {P : Program} {w : World} {H' : Hp} {h' : Heap} {kvs : List (Key × V)} {vs : List (Key × Value)} (z : kvs.length ≤ sizeLine) (hd : (a == sysModules) = false) (rel : KV kvs vs) (dd : h'.DictOf (mixKind P w) a vs) :
    ObjOk P w H' h' a (.dK kvs) := ⟨z, hd, vs, rel, dd⟩
theorem d_setItem {H' : Hp} {Q : Unit → Shared → Prop} (hu : A.units + 1 < cLine) (I : Inv X pins σ H s) (g : DPut H a y v H') (ry : RelV y u) (rv : RelV v r) (h : ∀ s', Inv X pins σ H' s' → Q () s') :
    wpAny (model X.prog X.w) A (setItem (.ref a) u r) Q E s := by
  rcases g with ⟨kvs, k, e, ey, l, eH⟩ | ⟨kvs, k, b, e, ey, eb, l, eH⟩
  · subst ey eH
    obtain ⟨z, hd, vs, rel, dd⟩ := dk_of I.hok e
    have hz : vs.length ≤ sizeLine := by rw [← rel.length]; exact z
    have hl : (putK kvs k v).length ≤ sizeLine := by have := length_putK kvs k v; (clear hz hd z e hu; omega)
    refine wpAny_setItem_pairs (hsz := hz) (kV_is ry) dd fun h' dd' hs => h _ ?_
    have he : ∃ q, h'.get? a = some q := let ⟨q, _, _, hq, _⟩ := dd'; ⟨q, hq⟩
    exact d_write I (by rw [e]; exact True.intro) hs he (dk_new hl hd (rel.put k rv) dd')
  · subst ey eH
    cases (show u = Value.ref b from ry)
    obtain ⟨z, hd, xs, rel, dd⟩ := dt_of I.hok e
    have hz : xs.length ≤ sizeLine := by rw [← Paired.length rel]; exact z
    have hl : (putK kvs k v).length ≤ sizeLine := by have := length_putK kvs k v; (clear hz hd z eb e hu; omega)
    refine wpAny_setItem_heap (hsz := hz) (tupleKind_room_in1 hu) (key_of I.hok eb) dd fun h' dd' hs => h _ ?_
    obtain ⟨q, es, ep, hq, h2, h3, h4, _, h5⟩ := dd'
    refine d_write I (by rw [e]; exact True.intro) hs ⟨q, hq⟩ ⟨hl, hd, _, (rel.put k eb rv).keeps fun c ys ec => ?_, q, es, ep, hq, h2, h3, h4, h5⟩
    rw [upd_ne (ne_of ec e (fun z => nomatch z))]
    exact ec
end

section
variable {X : Cx} {pins : List (Addr × Obj)} {σ : St} {H : Hp} {s : Shared} {a : Addr} {kvs : List (Key × V)} {k : Key} {u : Value} {A : Around} {E : Value → Shared → Prop}
theorem d_pop {v : V} {more : List Value} {Q : Value → Shared → Prop} (I : Inv X pins σ H s) (e : H a = some (.dK kvs)) (ry : RelV (kV k) u) (l : valV kvs k = some v) (hm : more = [] ∨ ∃ x, more = [x])
    (h : ∀ w' s', Inv X pins σ (upd H a (.dK (dropK kvs k))) s' → RelV v w' → Q w' s') : wpAny (model X.prog X.w) A (call (.builtin "dict.pop") (.ref a :: u :: more)) Q E s := by
  obtain ⟨z, hd, vs, rel, dd⟩ := dk_of I.hok e
  obtain ⟨w', hw, rw'⟩ := RelO.some_of (v := v) (o := valueAt vs k) (by rw [← l]; exact rel.val k)
  have hp : (keyPart u).isSome = true := by
    cases k with
    | inl i => obtain ⟨t, q⟩ := (show ∃ t, u = Value.int i t from ry); subst q; rfl
    | inr x => obtain ⟨t, q⟩ := (show ∃ t, u = Value.str x t from ry); subst q; rfl
  have ha : argsOk "dict.pop" ⟨.ref a :: u :: more, []⟩ := by
    rcases hm with q | ⟨x, q⟩
    · subst q; exact PySem.F.args_dict_pop_2 _ _
    · subst q; exact PySem.F.args_dict_pop_3 _ _ _
  refine call_meetsIn PySem.F.slot_dict_pop dd.typeIs PySem.F.entry_dict_pop ha (meets_dict_pop_there (mixKind X.prog X.w) a (kV_is ry) more hm hp)
    ⟨vs, w', dd, by rw [← rel.length]; exact z, hw, fun h' dd' hs => h w' _ ?_ rw'⟩
  have he : ∃ q, h'.get? a = some q := let ⟨q, _, _, hq, _⟩ := dd'; ⟨q, hq⟩
  exact d_write I (by rw [e]; exact True.intro) hs he (dk_new (Nat.le_trans (dropK_le kvs k) z) hd (rel.drop k) dd')
theorem d_len {Q : Value → Shared → Prop} (I : Inv X pins σ H s) (e : Rd H a (.dK kvs)) (h : ∀ t s', Inv X pins σ H s' → Q (.int kvs.length t) s') : wpAny (model X.prog X.w) A (call (.builtin "len") [.ref a]) Q E s := by
  obtain ⟨z, hd, vs, rel, dd⟩ := dk_rd I.hok e
  refine call_len_dict hd dd (by rw [← rel.length]; rw [sizeLine_eq] at z; (clear hd; omega)) ?_
  rw [← rel.length]
  exact h _ _ (I.tok _)
end


def tDIn (ty td : TE) : TE := fun σ H Q => ty σ H fun y H1 => td σ H1 fun x H2 => ∃ a o, x = .ref a ∧ DGet H2 a y o ∧ Q (.bl o.isSome) H2
def tDNotIn (ty td : TE) : TE := fun σ H Q => ty σ H fun y H1 => td σ H1 fun x H2 => ∃ a o, x = .ref a ∧ DGet H2 a y o ∧ Q (.bl (!o.isSome)) H2
def sDPut (td ty tv : TE) : TS := fun D σ H => tv σ H fun v H1 => td σ H1 fun x H2 => ty σ H2 fun y H3 => ∃ a H4, x = .ref a ∧ DPut H3 a y v H4 ∧ D.nx σ H4
section
variable {X : Cx} {o i e value : Expr} {pos pos' tpos : Pos} {td ty tv : TE}
theorem pc_din (hu : X.A.units + 1 < cLine) (hi : PE X i ty) (ho : PE X o td) : PC X .In i o (tDIn ty td) := by
  intro pins s σ H Q I h
  refine thn (hi pins s σ H _ I h) fun iv s1 ⟨y, H1, I1, ry, q1⟩ => thn (ho pins s1 σ H1 _ I1 q1) fun u s2 ⟨x, H2, I2, rx, a, ov, ex, g, q2⟩ => ?_
  subst ex
  obtain rfl : u = Value.ref a := rx
  exact d_in hu I2 g ry fun s3 I3 => ⟨.bl ov.isSome, H2, I3, rfl, q2⟩
theorem pc_dnotin (hu : X.A.units + 1 < cLine) (hi : PE X i ty) (ho : PE X o td) : PC X .NotIn i o (tDNotIn ty td) := by
  intro pins s σ H Q I h
  refine thn (hi pins s σ H _ I h) fun iv s1 ⟨y, H1, I1, ry, q1⟩ => thn (ho pins s1 σ H1 _ I1 q1) fun u s2 ⟨x, H2, I2, rx, a, ov, ex, g, q2⟩ => ?_
  subst ex
  obtain rfl : u = Value.ref a := rx
  exact d_notIn hu I2 g ry fun s3 I3 => ⟨.bl (!ov.isSome), H2, I3, rfl, q2⟩
theorem ps_dput (hu : X.A.units + 1 < cLine) (ho : PE X o td) (hi : PE X i ty) (hv : PE X value tv) (hs : swapsWith value (some (.Subscript o i pos')) pos.line X.env = pure false) :
    PS X (.Assign [.Subscript o i pos'] value pos) (sDPut td ty tv) := by
  intro pins s σ H D I h
  refine wpAny_Assign_Subscript (thn (hv pins s σ H _ I h) fun r s1 ⟨v, H1, I1, rv, q1⟩ => thn (ho pins s1 σ H1 _ I1 q1) fun u s2 ⟨x, H2, I2, rx, q2⟩ => thn (hi pins s2 σ H2 _ I2 q2) fun iv s3 ⟨y, H3, I3, ry, a, H4, ex, g, q3⟩ => ?_) hs
  subst ex
  obtain rfl : u = Value.ref a := rx
  exact d_setItem hu I3 g ry rv fun s4 I4 => ⟨σ, H4, I4, q3⟩
end


theorem dk_empty {P : Program} {w : World} {H : Hp} (h : Heap) (hb : sysModules < h.objs.size) : ObjOk P w H (h.push { cls := .type "dict", data := .dict #[] }) h.objs.size (.dK []) :=
  ⟨Nat.zero_le _, beq_eq_false_iff_ne.mpr (Ne.symm (Nat.ne_of_lt hb)), [], .nil, Heap.DictOf.new h⟩
def tDNewK : TE := fun _ H Q => ∀ p, H p = none → Q (.ref p) (upd H p (.dK []))
section
variable {X : Cx} {pos : Pos}
theorem pe_dnewK : PE X (.Dict [] [] pos) tDNewK := fun pins s σ H Q I h =>
  wpAny_Dict_empty ⟨.ref s.heap.objs.size, _, I.laid (a := s.heap.objs.size) (o := .dK []) (t' := s.toks) (fun _ _ q => Heap.get?_push_of_some _ q) (Nat.le_refl _) (dk_empty s.heap I.big), rfl, h _ (I.hok.fresh (Nat.le_refl _))⟩
end

structure M1 (X : Cx) (o : Expr) (m : Str) (apos : Pos) (e : Expr) (cpos : Pos) : Prop where
  base : attributeBase o m X.env (eval o X.env) = eval o X.env
  few : ((backTo cpos (starEach [e] X.env)).all (fun x => !x.1) && (backToKw cpos (keywordEach [] X.env)).all (fun x => x.1.isSome)
    && decide (([e] : List Expr).length + ([] : List Keyword).length + (if ([] : List Keyword).isEmpty then 0 else 1) < 30)) = true
  line : (apos.endLine == cpos.line) = true
  trees : backTo cpos (starEach [e] X.env) = [(false, eval e X.env)]
structure M2 (X : Cx) (o : Expr) (m : Str) (apos : Pos) (e f : Expr) (cpos : Pos) : Prop where
  base : attributeBase o m X.env (eval o X.env) = eval o X.env
  few : ((backTo cpos (starEach [e, f] X.env)).all (fun x => !x.1) && (backToKw cpos (keywordEach [] X.env)).all (fun x => x.1.isSome)
    && decide (([e, f] : List Expr).length + ([] : List Keyword).length + (if ([] : List Keyword).isEmpty then 0 else 1) < 30)) = true
  line : (apos.endLine == cpos.line) = true
  trees : backTo cpos (starEach [e, f] X.env) = [(false, eval e X.env), (false, eval f X.env)]

section
variable {X : Cx} {pins : List (Addr × Obj)} {σ : St} {H : Hp} {s : Shared} {a : Addr} {y d : V} {u r : Value} {o : Option V} {A : Around} {E : Value → Shared → Prop}
end

section
variable {X : Cx} {o e f : Expr} {apos cpos : Pos} {td ty tx : TE}
end

section
variable {X : Cx} {pins : List (Addr × Obj)} {σ : St} {H : Hp} {s : Shared} {a : Addr} {kvs : List (Key × V)} {A : Around} {E : Value → Shared → Prop}
end


section
variable {X : Cx} {pins : List (Addr × Obj)} {σ : St} {H : Hp} {s : Shared} {a : Addr} {y : V} {u : Value} {A : Around} {E : Value → Shared → Prop}
end
end L2

namespace Att
open PySem PySem.W PySem.Calls PyProof.Rows

theorem ints_of_wellAll {P : Params} {h : Heap} : ∀ (ns : List Int) (vs : List Value), WellAll P h vs (ns.map WData.int) → IntsAre vs ns := by
  intro ns
  induction ns with
  | nil =>
    intro vs w
    rw [List.map_nil] at w
    cases w
    exact .nil
  | cons n ns ih =>
    intro vs w
    rw [List.map_cons] at w
    cases w with
    | cons a b =>
      cases a
      exact .cons _ _ (ih _ b)

theorem script_of {l : OpenLaw} {n : Nat} (hn : l.most = some n) {P : Params} {h : Heap} {args : List WData} {vals : List Value}
    (hpre : l.row.toRowW.claim.pre args = true) (hwl : WellAll P h vals args) :
    ∃ a vs ns, vals = [Value.ref a] ∧ args = [WData.list (ns.map WData.int)] ∧ h.get? a = some { cls := .type "list", data := .seq vs.toArray } ∧ IntsAre vs ns ∧ ns.length ≤ n := by
  have hsh : WShape.hasAll [] args [.list .int] = true := (pre_splitW hpre).1
  have hc : l.pre.holds [] { args := args } = true := (pre_splitW hpre).2
  obtain ⟨d, r, rfl, h1, h2⟩ := hasAllW_cons hsh
  obtain rfl := hasAllW_nil h2
  obtain ⟨xs, rfl, h3⟩ := hasW_list h1
  obtain ⟨ns, rfl⟩ := items_int h3
  have hlen : ns.length ≤ n := by
    unfold OpenLaw.pre at hc
    have h4 : (WTm.not (.lt (.lit (.int (n : Int))) (.len (.arg 0)))).holds [] { args := [.list (ns.map .int)] } = true := by
      have h4 := (holds_andW hc).1
      rw [hn] at h4
      exact h4
    have h5 := condW_of h4 (w_not (w_lt w_lit (w_len_list (w_arg rfl))))
    rw [List.length_map] at h5
    refine Nat.le_of_not_lt fun q => ?_
    have q' : (n : Int) < ((ns.length : Nat) : Int) := by (clear h5 h4 hc hsh hpre h1 h3 h2 hn; omega)
    first
      | (rw [decide_eq_true q'] at h5; exact absurd h5 (by decide))
      | (simp at h5; omega)
  cases hwl with
  | cons w1 w2 =>
    cases w2
    cases w1 with
    | list ho hall => exact ⟨_, _, ns, rfl, rfl, ho, ints_of_wellAll ns _ hall, hlen⟩

theorem post_true (l : OpenLaw) (args : List WData) : l.row.toRowW.claim.post args (.bool true) args = true :=
  postW_of (r := l.row.toRowW) (X := (true == true))
    (show WShape.has [] (.bool true) .bool = true by first | rfl | decide | simp [WShape.has, WShape.arms, WShape.armsAll])
    (show (WTm.eq .res (.lit (.bool true))).value [] { args := args, res := some (.bool true), after := args } = some (.bool (true == true)) from w_eq_bool (w_res rfl) w_lit) rfl

theorem attach_call {l : OpenLaw} {n : Nat} {q : Program} {loose : List Str} {XP : (Str → Option Value) → Heap → Prop} {YP : World → Heap → Prop} {d : DefRec}
    (hn : l.most = some n) (hdf : d.params.defaults = [])
    (call : ∀ (w : World) (s₀ s₁ : Shared) (mg mb : Str → Option Value) (fa : Addr) (o : Obj) (pm cd doc : Value) (a : Addr) (vs : List Value) (ns : List Int),
      Ground q loose [] XP w s₀ mg mb s₁.heap → YP w s₁.heap →
      s₁.heap.get? fa = some o → o.data = .func (docDef d.name d.params d.body d.scope pm cd doc) → s₁.heap.CodeRec cd d.name → mg d.name = some (.ref fa) →
      s₁.heap.get? a = some { cls := .type "list", data := .seq vs.toArray } → IntsAre vs ns → ns.length ≤ n → s₁.gens = #[] →
      codeAny (model l.prog w) callerA (.call (.ref fa) ⟨[.ref a], []⟩) (fun r s' => r = .ok (.ret (.bool true)) ∧ OldK s₁.heap s'.heap ∧ s'.os = s₁.os ∧ AllBare s'.gens) s₁) :
    WalkO q loose XP YP l.row.toRowW d [] (fun f vs => PySem.call f vs) := by
  intro w s₀ s₁ mg mb G Y fa o pm cd doc dV kV ho hd hcd hD hmg hg args vals as hpre hlay hrd hwl hlo
  obtain rfl : dV = .none := Dflts.none hD hdf
  obtain rfl : kV = .none := Dflts.noKw hD
  obtain ⟨a, vs, ns, rfl, rfl, hobj, hints, hlen⟩ := script_of hn hpre hwl
  refine enter_call (codeAny_mono (call w s₀ s₁ mg mb fa o pm cd doc a vs ns G Y ho (fd_plain hd) hcd hmg hobj hints hlen hg) fun r s' hq => ?_)
  obtain ⟨rfl, h2, h3, h4⟩ := hq
  exact ⟨.inl ⟨.bool true, .bool true, [], rfl, fun _ => rfl, .bool true, post_true l _, fun _ => ⟨List.Pairwise.nil, fun _ hm => (nomatch hm)⟩⟩, h2, h3, h4⟩

section
variable {prog : Program} {w : World} {A : Around} {E : Value → Shared → Prop} {s : Shared} {K : Frag}

end
end Att

namespace L2
open PySem PySem.Spec PyProof.Rows

theorem vals_ints : ∀ {vs : List Value} {ns : List Int}, IntsAre vs ns → Vals (ns.map V.int) vs
  | _, _, .nil => .nil
  | _, _, .cons n t h => .cons ⟨t, rfl⟩ (vals_ints h)

def Only (H : Hp) : Prop := ∀ b, H b = none ∨ ∃ o xs, H b = some (.frz o (.lst xs))

theorem law_call {P : Program} {w : World} {K : PySem.W.Frag} {mg mb : Str → Option Value} {CX : CXT} {k : Nat} {fa a : Addr} {fd : FuncData} {x : Str} {sp : Sp} {s₁ : Shared} {vs : List Value} {ns : List Int}
    (KX : K.In s₁.heap) (hns : s₁.heap.Ns mainGlobals mg) (hb : s₁.heap.Ns builtinsNs mb) (hbb : ∀ x : Str, x ≠ "__name__" → mb x = bootBuiltins x) (hlim : s₁.heap.NoLimit) (hg : s₁.gens = #[])
    (ha : s₁.heap.get? a = some { cls := .type "list", data := .seq vs.toArray }) (hi : IntsAre vs ns) (hl : ns.length ≤ sizeLine) (hr : Room k callerA)
    (F : ∀ base : Heap, K.In base → base.Ns mainGlobals mg → FnOk P w K mg base CX k fa fd [x] sp) (hbind : ∀ (s : Shared) (u : Value), BindsTo s fd ⟨[u], []⟩ [(x, u)])
    (hsp : ∀ H : Hp, Only H → SqL K H a (ns.map V.int) → sp [.ref a] H (fun v _ => v = .bl true) fun _ _ _ => False)
    (hCX : ∀ H e s', CX [] H s₁ (fun _ _ _ => False) e s' → False) :
    codeAny (model P w) callerA (.call (.ref fa) ⟨[.ref a], []⟩) (fun r s' => r = .ok (.ret (.bool true)) ∧ OldK s₁.heap s'.heap ∧ s'.os = s₁.os ∧ AllBare s'.gens) s₁ := by
  have rv := vals_ints hi
  have lenV := hi.length
  have core : ∀ H : Hp, Only H → SqL K H a (ns.map V.int) → HOk P w H s₁.heap → (∀ b, H b ≠ none → b = a) → (H a ≠ none → K.lookup a = none) →
      codeAny (model P w) callerA (.call (.ref fa) ⟨[.ref a], []⟩) (fun r s' => r = .ok (.ret (.bool true)) ∧ OldK s₁.heap s'.heap ∧ s'.os = s₁.os ∧ AllBare s'.gens) s₁ := by
    intro H hO hS hok hA hK
    have base_of : ∀ {b : Addr} {o : Obj}, s₁.heap.get? b = some o → H b = none → (hidT s₁.heap H).get? b = some o := fun e n => hidT_get e n
    have noA : ∀ {b : Addr} {o : Obj} {es : Array DictEntry} {ep : Nat}, s₁.heap.get? b = some o → o.data = .dict es ep → H b = none := fun {b o es ep} e d => by
      cases q : H b with
      | none => rfl
      | some u =>
        have e' : b = a := hA b (by rw [q]; simp)
        subst e'
        rw [ha] at e; cases e
        have d' : Data.seq vs.toArray _ = Data.dict es ep := d
        cases d'
    have nsK : ∀ {b : Addr} {m : Str → Option Value}, s₁.heap.Ns b m → (hidT s₁.heap H).Ns b m := fun {b m} ⟨o, es, ep, e, d, r⟩ => ⟨o, es, ep, base_of e (noA e d), d, r⟩
    have hKb : K.In (hidT s₁.heap H) := fun b o e => base_of (KX b o e) (by
      cases q : H b with
      | none => rfl
      | some u =>
        have e' : b = a := hA b (by rw [q]; simp)
        subst e'
        rw [hK (by rw [q]; simp)] at e; cases e)
    have hM : Mod K mg (hidT s₁.heap H) := ⟨hKb, nsK hns, ⟨mb, nsK hb, hbb⟩, let ⟨mc, h1, h2⟩ := hlim; ⟨mc, nsK h1, h2⟩⟩
    have e0 : Env0 P w K mg (hidT s₁.heap H) callerA [] s₁ H := ⟨rfl, hM, fun b o e => of_hidT e, Nat.le_of_eq (hidT_size _ _), trivial, fun b hb => absurd (show b ∈ ([] : List Addr) from hb) (by simp), hok, .of_eq hg⟩
    refine codeAny_mono ((F _ hKb (nsK hns)).run callerA [] s₁ H ⟨[.ref a], []⟩ [.ref a] [.ref a] _ _ hr e0 (hbind s₁ (.ref a)) (.cons rfl .nil) (hsp H hO hS)) fun r s' h => ?_
    cases r with
    | error e => exact (hCX H e s' h).elim
    | ok fl =>
      cases fl with
      | next => exact False.elim h
      | brk => exact False.elim h
      | cont => exact False.elim h
      | ret u =>
        obtain ⟨v, H', os, bare, un, hok', r', q⟩ := h
        have q' : v = .bl true := q
        subst q'
        obtain rfl : u = Value.bool true := r'
        refine ⟨rfl, OldK.of_keep fun b o e => ?_, os, bare⟩
        cases q : H b with
        | none => exact un.keep b o e q (by intro z; exact absurd (show b ∈ ([] : List Addr) from z) (by simp)) (by simp)
        | some u =>
          rcases hO b with z | ⟨ob, xs, z⟩
          · rw [q] at z; cases z
          · have z2 := un.frzs b ob _ z
            obtain ⟨e1, _⟩ := hok b _ z
            obtain ⟨e2, _⟩ := hok' b _ z2
            rw [e] at e1; cases e1
            exact e2
  cases hk : K.lookup a with
  | some o =>
    have e := KX a o hk
    rw [ha] at e
    cases e
    refine core (fun _ => none) (fun _ => .inl rfl) (.inr ⟨_, vs.toArray, _, hk, rfl, rfl, rfl, by rw [List.size_toArray, lenV]; exact hl, by simpa using rv⟩) (fun b u z => by have z' : (none : Option HO) = some u := z; cases z') (fun b z => absurd rfl z) fun z => absurd rfl z
  | none =>
    refine core (fun b => if b = a then some (.frz { cls := .type "list", data := .seq vs.toArray } (.lst (ns.map V.int))) else none) (fun b => ?_) (.inl (.inr ⟨{ cls := .type "list", data := .seq vs.toArray }, if_pos rfl⟩)) (fun b u z => ?_) (fun b z => ?_) fun _ => hk
    · by_cases hb : b = a
      · exact .inr ⟨_, _, if_pos hb⟩
      · exact .inl (if_neg hb)
    · by_cases hb : b = a
      · have z' := (if_pos hb).symm.trans z
        cases z'
        subst hb
        exact ⟨ha, by rw [List.length_map]; exact hl, vs, _, rv, ha⟩
      · have z' := (if_neg hb).symm.trans z
        cases z'
    · by_cases hb : b = a
      · exact hb
      · exact absurd (if_neg hb) z
end L2

namespace L2
open PySem PySem.Spec PyProof.Rows

theorem walk_of {l : PySem.W.OpenLaw} {n k : Nat} {q : Program} {loose : List Str} {XP : (Str → Option Value) → Heap → Prop} {YP : World → Heap → Prop} {d : DefRec} {K : Params → PySem.W.Frag} {CX : World → CXT} {sp : World → Sp} {x : Str}
    (hn : l.most = some n) (hn2 : n ≤ sizeLine) (hdf : d.params.defaults = []) (hr : Room k callerA)
    (hY : ∀ (w : World) (h : Heap), YP w h → (K w.params).In h)
    (F : ∀ (w : World) (mg : Str → Option Value) (fa : Addr) (h : Heap), (K w.params).In h → h.Ns mainGlobals mg → mg d.name = some (.ref fa) →
      ∃ fd : FuncData, (∀ (s : Shared) (u : Value), BindsTo s fd ⟨[u], []⟩ [(x, u)]) ∧
        ∀ base : Heap, (K w.params).In base → base.Ns mainGlobals mg → FnOk l.prog w (K w.params) mg base (CX w) k fa fd [x] (sp w))
    (hsp : ∀ (w : World) (H : Hp) (a : Addr) (ns : List Int), ns.length ≤ n → Only H → SqL (K w.params) H a (ns.map V.int) → sp w [.ref a] H (fun v _ => v = .bl true) fun _ _ _ => False)
    (hCX : ∀ (w : World) (H : Hp) (s : Shared) (e : Value) (s' : Shared), CX w [] H s (fun _ _ _ => False) e s' → False) :
    PySem.W.WalkO q loose XP YP l.row.toRowW d [] (fun f vs => PySem.call f vs) := by
  refine Att.attach_call hn hdf fun w s₀ s₁ mg mb fa o pm cd doc a vs ns G Y ho hd hcd hmg hobj hints hlen hg => ?_
  have KX := hY w _ Y
  obtain ⟨fd, hb, hF⟩ := F w mg fa _ KX G.T.g hmg
  exact law_call KX G.T.g G.T.b G.T.builtins G.T.nolimit hg hobj hints (Nat.le_trans hlen hn2) hr hF hb (fun H hO hS => hsp w H a ns hlen hO hS) fun H e s' => hCX w H s₁ e s'
end L2

namespace L2
open PySem PySem.Spec PyProof.Rows

def inClass (s : Stmt) (j : Nat) : Stmt := match s with
  | .ClassDef _ _ _ body _ _ _ _ _ _ _ => body.getD j (.Pass ⟨0, 0, 0, 0⟩)
  | _ => .Pass ⟨0, 0, 0, 0⟩
def defArgs (s : Stmt) : Arguments := match s with
  | .FunctionDef _ a _ _ _ _ _ _ _ _ => a
  | _ => { posonlyargs := [], args := [], vararg := none, kwonlyargs := [], kw_defaults := [], kwarg := none, defaults := [] }
def defBody (s : Stmt) : List Stmt := match s with
  | .FunctionDef _ _ b _ _ _ _ _ _ _ => b
  | _ => []
def defScope (s : Stmt) : Scope := match s with
  | .FunctionDef _ _ _ _ _ _ sc _ _ _ => sc
  | _ => { kind := .function, names := [], isGenerator := false, isCoroutine := false }

abbrev CX0 : CXT := fun _ _ _ _ _ _ => False
abbrev E0 : XK := fun _ _ _ => False
theorem pass0 {X : Cx} : Passes CX0 X E0 := fun _ _ _ _ _ _ _ h => h.elim

structure Fun (K : PySem.W.Frag) (x qual : Str) (st : Stmt) (f : Addr) (fd : FuncData) : Prop where
  ex : ∃ (oc : Value) (od : Option Addr) (kV doc pm : Value) (an : Option Addr) (cdv ct : Value) (osl : Array (Option Value)),
    fd = PySem.W.fnOf x qual (defArgs st) (defBody st) (defScope st) .none kV doc pm an cdv ct ∧ K.lookup f = some ⟨oc, od, .func fd, osl⟩ ∧ PySem.W.codeIn K cdv qual = true
  kp : PySem.W.keepIn K (.ref f) = true
section
variable {P : Program} {w : World} {K : PySem.W.Frag} {mg : Str → Option Value} {base : Heap}
theorem Fun.ok {x qual : Str} {st : Stmt} {f : Addr} {fd : FuncData} {N ps : List Str} {k : Nat} {sp : Sp} (F : Fun K x qual st f fd) (S : FnScope N ps (defScope st)) (len : ∀ vs H Q E, sp vs H Q E → vs.length = ps.length)
    (hbody : ∀ (cdv : Value) (A : Around) (outer : List Env) (s : Shared) (H : Hp) (vs : List V) (Q : VK) (E : XK), Room k (A.deeper (envOfC qual (defScope st) s.heap.objs.size f cdv)) → sp vs H Q E →
      ∃ t, PSs (cxOf CX0 P w K mg base N qual (defScope st) f cdv A outer s H E).nox (defBody st) t ∧ t { nx := fun _ H' => Q .non H', rt := Q } (start N vs) H) : FnOk P w K mg base CX0 (k + 1) f fd ps sp := by
  obtain ⟨oc, od, kV, doc, pm, an, cdv, ct, osl, rfl, lk, hcd⟩ := F.ex
  refine fn_of lk hcd S len fun A outer s H vs Q E hr hsp => ?_
  obtain ⟨t, h, q⟩ := hbody cdv A outer s H vs Q E hr hsp
  exact ⟨t, h.nox, q⟩
theorem Fun.binds {x qual : Str} {st : Stmt} {f : Addr} {fd : FuncData} {ps : List Str} (F : Fun K x qual st f fd)
    (h : ∀ (kV doc pm : Value) (an : Option Addr) (cdv ct : Value) (us : List Value), us.length = ps.length → bindArgs (PySem.W.fnOf x qual (defArgs st) (defBody st) (defScope st) .none kV doc pm an cdv ct) ⟨us, []⟩ = pure (ps.zip us)) : Binds K fd ps [] := by
  obtain ⟨oc, od, kV, doc, pm, an, cdv, ct, osl, rfl, lk, hcd⟩ := F.ex
  exact .all (h kV doc pm an cdv ct)
theorem fun_mk {x qual : Str} {st : Stmt} {f : Addr} {oc : Value} {od an : Option Addr} {osl : Array (Option Value)} {kV doc pm cdv ct : Value} (l : K.lookup f = some ⟨oc, od, .func (PySem.W.fnOf x qual (defArgs st) (defBody st) (defScope st) .none kV doc pm an cdv ct), osl⟩)
    (c : PySem.W.codeIn K cdv qual = true) (k : PySem.W.keepIn K (.ref f) = true) : Fun K x qual st f (PySem.W.fnOf x qual (defArgs st) (defBody st) (defScope st) .none kV doc pm an cdv ct) := ⟨⟨oc, od, kV, doc, pm, an, cdv, ct, osl, rfl, l, c⟩, k⟩
end
theorem hu_of {A : Around} {k : Nat} (hr : Room k A) : A.units + 1 < cLine := Nat.lt_of_le_of_lt (Nat.add_le_add_left (by decide : 1 ≤ 64) _) hr.units
theorem small1000 {n : Nat} (h : n ≤ 1000) : n < sizeLine := Nat.lt_of_le_of_lt h (by decide)

section
variable {X : Cx}
theorem pv (i : Nat) {x : Str} {pos : Pos} (hN : X.N[i]? = some x := by rfl) (hv : Vis X.env.scope x := by first | exact Or.inl rfl | exact Or.inr (Or.inl rfl) | exact Or.inr (Or.inr rfl)) (hd : (x == ("__debug__" : Str)) = false := by decide)
    (hcd : (x == ("__classdict__" : Str)) = false := by decide) : PE X (.Name x pos) (tVar i) := pe_var hN hv hd hcd
end

theorem iteF {A B : Prop} (h : B) : if false = true then A else B := by
  rw [if_neg Bool.false_ne_true]
  exact h
theorem iteT {A B : Prop} (h : A) : if true = true then A else B := by
  rw [if_pos rfl]
  exact h
theorem ite2 {c A B : Prop} [Decidable c] (h1 : c → A) (h2 : ¬ c → B) : if c then A else B := by
  by_cases h : c
  · rw [if_pos h]
    exact h1 h
  · rw [if_neg h]
    exact h2 h
def Same (H H' : Hp) : Prop := ∀ b o, H b = some o → H' b = some o
theorem Same.trans {H H1 H2 : Hp} (a : Same H H1) (b : Same H1 H2) : Same H H2 := fun c o h => b c o (a c o h)
end L2

namespace L2
open PySem PySem.Spec PyProof.Rows
section
variable {X : Cx}
theorem call_lenD : CallR X (.builtin "len") (fun xs H Q => ∃ a kvs, xs = [V.ref a] ∧ H a = some (.dK kvs) ∧ Q (.int kvs.length) H) := by
  intro pins s σ H xs us Q I r h
  obtain ⟨a, kvs, rfl, ha, q⟩ := h
  obtain ⟨u, rfl, ru⟩ := vals1 r
  cases ru
  exact d_len I (.inl ha) fun t s' I' => ⟨.int kvs.length, H, I', ⟨t, rfl⟩, q⟩
end
section
variable {κ : Type} [DecidableEq κ]
theorem valV_not {kvs : List (κ × V)} {k : κ} (h : valV kvs k = none) : ¬ k ∈ kvs.map (·.1) := by
  intro m
  obtain ⟨p, hp, e⟩ := List.mem_map.mp m
  have q : (kvs.any fun kv => decide (kv.1 = k)) = true := List.any_eq_true.mpr ⟨p, hp, decide_eq_true e⟩
  rw [valV_any, h] at q
  exact absurd q (by simp)
theorem nd_snoc : ∀ {l : List κ} {k : κ}, l.Nodup → ¬ k ∈ l → (l ++ [k]).Nodup
  | [], k, _, _ => by simp
  | a :: r, k, h, hk => by
    obtain ⟨h1, h2⟩ := List.nodup_cons.mp h
    show (a :: (r ++ [k])).Nodup
    refine List.nodup_cons.mpr ⟨fun m => ?_, nd_snoc h2 fun m => hk (List.mem_cons.mpr (Or.inr m))⟩
    rcases List.mem_append.mp m with q | q
    · exact h1 q
    · exact hk (List.mem_cons.mpr (Or.inl (List.mem_singleton.mp q).symm))
theorem nd_putK {kvs : List (κ × V)} {k : κ} (v : V) (hn : (kvs.map (·.1)).Nodup) (h : valV kvs k = none) : ((putK kvs k v).map (·.1)).Nodup := by
  rw [putK_new v h, List.map_append]
  exact nd_snoc hn (valV_not h)
theorem dropK_pos {p : κ × V} {r : List (κ × V)} {k : κ} (e : p.1 = k) : dropK (p :: r) k = dropK r k := by
  unfold dropK
  rw [List.filter_cons, if_neg (by simp [e])]
theorem dropK_neg {p : κ × V} {r : List (κ × V)} {k : κ} (e : ¬ p.1 = k) : dropK (p :: r) k = p :: dropK r k := by
  unfold dropK
  rw [List.filter_cons, if_pos (by simp [e])]
end
end L2


namespace L2
open PySem PySem.Spec PyProof.Rows

theorem bt_len : bootBuiltins "len" = some (.builtin "len") := by decide +kernel
theorem bt_isinstance : bootBuiltins "isinstance" = some (.builtin "isinstance") := by decide +kernel
theorem bt_min : bootBuiltins "min" = some (.builtin "min") := by decide +kernel
theorem bt_sorted : bootBuiltins "sorted" = some (.builtin "sorted") := by decide +kernel
theorem bt_max : bootBuiltins "max" = some (.builtin "max") := by decide +kernel
theorem bt_list : bootBuiltins "list" = some (.type "list") := by decide +kernel
theorem bt_dict : bootBuiltins "dict" = some (.type "dict") := by decide +kernel
theorem iteD {c A B : Prop} [Decidable c] (hc : c) (h : A) : if decide c = true then A else B := by
  rw [decide_eq_true hc]
  exact iteT h
theorem iteND {c A B : Prop} [Decidable c] (hc : ¬ c) (h : B) : if decide c = true then A else B := by
  rw [decide_eq_false hc]
  exact iteF h
theorem for_listE {K : PySem.W.Frag} {a : Addr} {xs : List V} {g : TG} {tb : TS} {nx : St → Hp → Prop} {rt : VK} {σ : St} {H : Hp} (Pv : Nat → St → Hp → Prop) (h0 : Pv 0 σ H) (hl : ∀ i σ H, i ≤ xs.length → Pv i σ H → SqL K H a xs)
    (hs : ∀ i x σ H, xs[i]? = some x → Pv i σ H → g x σ H fun σ2 H2 => tb ⟨Pv (i + 1), rt, nx, Pv (i + 1)⟩ σ2 H2) (hd : ∀ σ H, Pv xs.length σ H → nx σ H) :
    ∃ W : Nat → Nat → St → Hp → Prop, (∃ m, W 0 m σ H) ∧ ∀ i m σ H, W i m σ H →
      ((Itl K a).stop i H ∧ nx σ H) ∨ ((Itl K a).go i H ∧ ∃ N : St → Hp → Prop, (∀ σ' H', N σ' H' → ∃ m', m' < m ∧ W (i + 1) m' σ' H') ∧ ∀ x H', (Itl K a).yld i H x H' → g x σ H' fun σ2 H2 => tb ⟨N, rt, nx, N⟩ σ2 H2) :=
  for_list (D := ⟨nx, rt, fun _ _ => False, fun _ _ => False⟩) Pv h0 hl hs hd
theorem for_rangeE {lo : Int} {n : Nat} {g : TG} {tb : TS} {nx : St → Hp → Prop} {rt : VK} {σ : St} {H : Hp} (Pv : Nat → St → Hp → Prop) (h0 : Pv 0 σ H)
    (hs : ∀ i σ H, i < n → Pv i σ H → g (.int (lo + i)) σ H fun σ2 H2 => tb ⟨Pv (i + 1), rt, nx, Pv (i + 1)⟩ σ2 H2) (hd : ∀ σ H, Pv n σ H → nx σ H) :
    ∃ W : Nat → Nat → St → Hp → Prop, (∃ m, W 0 m σ H) ∧ ∀ i m σ H, W i m σ H →
      ((Itr lo n).stop i H ∧ nx σ H) ∨ ((Itr lo n).go i H ∧ ∃ N : St → Hp → Prop, (∀ σ' H', N σ' H' → ∃ m', m' < m ∧ W (i + 1) m' σ' H') ∧ ∀ x H', (Itr lo n).yld i H x H' → g x σ H' fun σ2 H2 => tb ⟨N, rt, nx, N⟩ σ2 H2) :=
  for_range (D := ⟨nx, rt, fun _ _ => False, fun _ _ => False⟩) Pv h0 hs hd

theorem cell_atI {ns : List Int} {k : Int} (h0 : 0 ≤ k) (h : k < (ns.length : Int)) : atI (ns.map V.int) k = some (.int (ns.getD k.toNat 0)) := by
  obtain ⟨j, rfl⟩ := Int.eq_ofNat_of_zero_le h0
  refine atI_nat ?_
  have hj : j < ns.length := by (clear h0; omega)
  rw [List.getElem?_map, List.getElem?_eq_getElem hj, Int.toNat_natCast, List.getD_eq_getElem?_getD, List.getElem?_eq_getElem hj]
  rfl
theorem cell_out {ns : List Int} {k : Int} (h : ¬ k < (ns.length : Int)) : ns.getD k.toNat 0 = 0 := by
  rw [List.getD_eq_getElem?_getD, List.getElem?_eq_none (by omega)]
  rfl

section
variable {X : Cx}
theorem call_isinst : CallR X (.builtin "isinstance") (fun xs H Q => ∃ x n t b, xs = [x, .ty n] ∧ TyOf X.K H x t ∧ PySem.W.kitOne X.K t (.type n) = some b ∧ Q (.bl b) H) := by
  intro pins s σ H xs us Q I r h
  obtain ⟨x, n, t, b, rfl, ty, e, q⟩ := h
  obtain ⟨u, w', rfl, ru, rw'⟩ := vals2 r
  cases (show w' = Value.type n from rw')
  exact isinst_ok I ru ty e fun tk => ⟨.bl b, H, I.tok _, rfl, q⟩
end
end L2

namespace SW
structure Row (S : Int) (a b : Nat) : Prop where
  ab : a + b = 16
  lo : 2 ≤ a
  hi : a ≤ 9
  eq : S = 2 ^ a
section
variable {S : Int} {a b : Nat} (R : Row S a b)
include R
end
end SW

namespace L2
open PySem PySem.Spec PyProof.Rows

abbrev excRec (C : Addr) (od : Option Addr) (vs : Array Value) : Obj := { cls := .ref C, dict := od, data := .fields vs }
def Trc (h : Heap) (e : Addr) (vs : Array Value) (T : Addr) (fl : Value) : Prop :=
  vs[1]? = some (.ref T) ∧ T ≠ e ∧ ∃ oT ts, h.get? T = some oT ∧ oT.data = .fields ts ∧ ts[3]? = some fl
structure Noted (l : List Addr) (e : Addr) (old : Addr → Prop) (h h' : Heap) : Prop where
  keep : ∀ b o, h.get? b = some o → b ∉ l → b ≠ e → ¬ old b → h'.get? b = some o
  slot : ∀ b o, h.get? b = some o → b ∈ l → b ≠ e → ¬ old b → ∃ sl, h'.get? b = some { o with slots := sl }
  there : ∀ b o, h.get? b = some o → ∃ o', h'.get? b = some o'
section
variable {M : Model} {A : Around} {E : Value → Shared → Prop} {s : Shared} {base : Heap} {env : Env} {outer : List Env} {L e C : Addr} {od : Option Addr} {vs : Array Value} {Q : Unit → Shared → Prop}

theorem frs_ne (hl : s.heap.FunFrames base (env :: outer)) (he : s.heap.get? e = some (excRec C od vs)) : e ∉ frs (env :: outer) := fun hm => by
  obtain ⟨_, o, ho, hn⟩ := hl.mem hm
  cases he.symm.trans ho
  exact hn vs rfl

theorem note_entry {head : Value} {had : Bool} (hfr : A.frames = some (env :: outer)) (hl : s.heap.FunFrames base (env :: outer)) (hf : env.frame = some L) (he : s.heap.get? e = some (excRec C od vs)) (hsz : 1 < vs.size)
    (q : ∀ h' T vs', Noted (frs (env :: outer)) e (fun _ => False) s.heap h' → h'.get? e = some (excRec C od vs') → vs'.size = vs.size → s.heap.objs.size ≤ T → Trc h' e vs' T (rawInt L) → Q () { s with heap := h' }) :
    wpAny M A (do let a ← frameOf env; let pl ← entryPlaceOf L had; let b ← EntryCells.newEntry head a .none (rawInt L) .none pl; setField (.ref e) 1 b) Q E s := by
  have nf : e ∉ (env :: outer).filterMap (·.frame) := frs_ne hl he
  refine wpAny_bind (wpAny_frameOf_fun hfr hl hf fun h1 so => ?_)
  refine wpAny_bind (wpAny_entryPlaceOf fun pl ip => ?_)
  unfold EntryCells.newEntry newFields
  refine wpAny_bind (wpAny_newObj_type ?_ (ip.sizeOk5 _ _ _ _ _))
  have e1 : h1.get? e = some (excRec C od vs) := (so.2.1 e nf).trans he
  have big : 3 < ([head, Value.ref L, .none, rawInt L, .none] ++ (if pl.isEmpty then List.replicate 6 Value.none else pl)).toArray.size := by
    simp only [List.size_toArray, List.length_append, List.length_cons, List.length_nil]
    (clear e1 nf hsz he hf hfr; omega)
  have at3 : ([head, Value.ref L, .none, rawInt L, .none] ++ (if pl.isEmpty then List.replicate 6 Value.none else pl)).toArray[3]? = some (rawInt L) := by simp
  generalize ([head, Value.ref L, .none, rawInt L, .none] ++ (if pl.isEmpty then List.replicate 6 Value.none else pl)).toArray = ts at big at3
  generalize eo : ({ cls := .type "traceback", dict := none, data := .fields ts } : Obj) = oT
  have e2 : (h1.push oT).get? e = some (excRec C od vs) := Heap.get?_push_of_some _ e1
  have ne : h1.objs.size ≠ e := Nat.ne_of_gt (Heap.lt_size e1)
  refine wpAny_setField e2 rfl hsz (q _ h1.objs.size (vs.setIfInBounds 1 (.ref h1.objs.size)) ⟨fun b o g1 g2 g3 _ => ?_, fun b o g1 _ g3 _ => ?_, fun b o g1 => ?_⟩ ?_ (Array.size_setIfInBounds) (Nat.le_of_eq so.1.symm) ⟨by simp [hsz], ne, oT, ts, ?_, by rw [← eo], at3⟩)
  · rw [Heap.get?_update_other _ _ (Ne.symm g3)]
    exact Heap.get?_push_of_some _ ((so.2.1 b g2).trans g1)
  · obtain ⟨sl, r⟩ := so.2.2 b o g1
    exact ⟨sl, (Heap.get?_update_other _ _ (Ne.symm g3)).trans (Heap.get?_push_of_some _ r)⟩
  · by_cases z : b = e
    · subst z
      exact ⟨_, Heap.get?_update_self _ e2 rfl⟩
    · obtain ⟨sl, r⟩ := so.2.2 b o g1
      exact ⟨_, (Heap.get?_update_other _ _ (Ne.symm z)).trans (Heap.get?_push_of_some _ r)⟩
  · exact Heap.get?_update_self _ e2 rfl
  · rw [Heap.get?_update_other _ _ (Ne.symm ne), ← eo]
    exact Heap.get?_push_size h1 rfl

theorem note_first (hfr : A.frames = some (env :: outer)) (hl : s.heap.FunFrames base (env :: outer)) (hf : env.frame = some L) (he : s.heap.get? e = some (excRec C od vs)) (h1 : vs[1]? = some .none)
    (q : ∀ h' T vs', Noted (frs (env :: outer)) e (fun _ => False) s.heap h' → h'.get? e = some (excRec C od vs') → vs'.size = vs.size → s.heap.objs.size ≤ T → Trc h' e vs' T (rawInt L) → Q () { s with heap := h' }) :
    wpAny M A (noteFrame (.ref e) env) Q E s := by
  unfold noteFrame
  simp only [hf]
  refine wpAny_bind (wpAny_field he rfl h1 ?_)
  rw [if_neg (by decide)]
  exact note_entry hfr hl hf he (Array.getElem?_eq_some_iff.mp h1).1 q

theorem note_next {T : Addr} (hfr : A.frames = some (env :: outer)) (hl : s.heap.FunFrames base (env :: outer)) (hf : env.frame = some L) (he : s.heap.get? e = some (excRec C od vs)) (tr : Trc s.heap e vs T .none)
    (q : ∀ h' T' vs', Noted (frs (env :: outer)) e (· = T) s.heap h' → h'.get? e = some (excRec C od vs') → vs'.size = vs.size → s.heap.objs.size ≤ T' → Trc h' e vs' T' (rawInt L) → Q () { s with heap := h' }) :
    wpAny M A (noteFrame (.ref e) env) Q E s := by
  obtain ⟨h1, ne, oT, ts, hT, hd, h3⟩ := tr
  unfold noteFrame
  simp only [hf]
  refine wpAny_bind (wpAny_field he rfl h1 ?_)
  rw [if_pos (show (Value.ref T != Value.none) = true by simp)]
  refine wpAny_bind (wpAny_field hT hd h3 ?_)
  rw [if_neg (show ¬ (Value.none == rawInt L) = true by simp [rawInt])]
  have oth : ∀ b, b ≠ T → (s.heap.update T (Obj.mapFields (·.setIfInBounds 3 Value.none))).get? b = s.heap.get? b := fun b z => Heap.get?_update_other _ _ (Ne.symm z)
  have nofr : ∀ b o, s.heap.get? b = some o → (∀ ws, o.data ≠ .fields ws) → b ≠ T := fun b o g1 g2 z => by
    subst z
    cases hT.symm.trans g1
    exact g2 ts hd
  refine wpAny_bind (wpAny_setField hT hd (Array.getElem?_eq_some_iff.mp h3).1 ?_)
  refine note_entry hfr (hl.of_keeps fun b o g1 g2 => ⟨o, (oth b (nofr b o g1 g2)).trans g1, rfl⟩) hf ((oth e (Ne.symm ne)).trans he) (Array.getElem?_eq_some_iff.mp h1).1 fun h' T' vs' n g1 g2 g3 g4 => ?_
  refine q h' T' vs' ⟨fun b o k1 k2 k3 k4 => n.keep b o ((oth b k4).trans k1) k2 k3 id, fun b o k1 k2 k3 k4 => n.slot b o ((oth b k4).trans k1) k2 k3 id, fun b o k1 => ?_⟩ g1 g2 (by rw [Heap.size_after_update] at g3; exact g3) g4
  by_cases z : b = T
  · subst z
    exact n.there b _ (Heap.get?_update_self _ hT (Obj.isFreed_of_fields (Obj.data_mapFields hd _)))
  · exact n.there b o ((oth b z).trans k1)

theorem flight_off {l : List Addr} {T : Addr} {fl : Value} (he : s.heap.get? e = some (excRec C od vs)) (tr : Trc s.heap e vs T fl)
    (q : ∀ h', (∀ b o, b ≠ T → s.heap.get? b = some o → h'.get? b = some o) → h'.get? e = some (excRec C od vs) → (∃ o, h'.get? T = some o) → h'.objs.size = s.heap.objs.size → Trc h' e vs T .none → Q () { s with heap := h' }) :
    wpAny M A (setFlight (.ref e) none) Q E s := by
  obtain ⟨h1, ne, oT, ts, hT, hd, h3⟩ := tr
  have big : 3 < ts.size := (Array.getElem?_eq_some_iff.mp h3).1
  unfold setFlight
  refine wpAny_bind (wpAny_field he rfl h1 ?_)
  rw [if_pos (show (Value.ref T != Value.none) = true by simp)]
  have oth : ∀ b, b ≠ T → (s.heap.update T (Obj.mapFields (·.setIfInBounds 3 ((none : Option Addr).elim Value.none fun f => rawInt f)))).get? b = s.heap.get? b := fun b z => Heap.get?_update_other _ _ (Ne.symm z)
  have new := Heap.get?_update_self (Obj.mapFields (·.setIfInBounds 3 ((none : Option Addr).elim Value.none fun f => rawInt f))) hT (Obj.isFreed_of_fields (Obj.data_mapFields hd _))
  exact wpAny_setField hT hd big (q _ (fun b o z g => (oth b z).trans g) ((oth e (Ne.symm ne)).trans he) ⟨_, new⟩ (Heap.size_after_update ..) ⟨h1, ne, _, _, new, Obj.data_mapFields hd _, by simp [big]⟩)
end
end L2
namespace L2
open PySem PySem.Spec PyProof.Rows

def XN (e C : Addr) (od : Option Addr) : HO := .ext fun h => ∃ t, h.get? e = some (excRec C od #[.ref t, .none, .none, .none, .bool false, .none])
def XO (e C : Addr) (od : Option Addr) : HO := .ext fun h => ∃ vs, h.get? e = some (excRec C od vs) ∧ 1 < vs.size

section
variable {P : Program} {w : World} {H : Hp} {h h' : Heap} {e C : Addr} {od : Option Addr} {vs : Array Value}
theorem xn_mk {t : Addr} (k : h.get? e = some (excRec C od #[.ref t, .none, .none, .none, .bool false, .none])) : ObjOk P w H h e (XN e C od) :=
  ⟨⟨t, k⟩, ⟨_, k⟩, fun _ _ ⟨t, k⟩ st => ⟨t, st _ k⟩⟩
theorem xo_mk (k : h.get? e = some (excRec C od vs)) (z : 1 < vs.size) : ObjOk P w H h e (XO e C od) :=
  ⟨⟨vs, k, z⟩, ⟨_, k⟩, fun _ _ ⟨vs, k, z⟩ st => ⟨vs, st _ k, z⟩⟩
theorem xn_at (ok : HOk P w H h) (q : H e = some (XN e C od)) : ∃ t, h.get? e = some (excRec C od #[.ref t, .none, .none, .none, .bool false, .none]) := (ok e _ q).1
theorem Noted.hok {l : List Addr} {old : Addr → Prop} {φ : Heap → Prop} (n : Noted l e old h h') (ok : HOk P w H h) (hl : ∀ b ∈ l, H b = none) (ho : ∀ b, old b → H b = none) (he : H e = some (.ext φ))
    (new : h'.get? e = some (excRec C od vs)) (z : 1 < vs.size) : HOk P w (upd H e (XO e C od)) h' := fun b u q => by
  by_cases hb : b = e
  · subst hb
    rw [upd_same] at q
    cases q
    exact xo_mk new z
  · rw [upd_ne hb] at q
    have oth : ∀ c v, H c = some v → c ≠ e → ∀ o, h.get? c = some o → h'.get? c = some o := fun c v r ne o g =>
      n.keep c o g (fun m => by rw [hl c m] at r; cases r) ne fun m => by rw [ho c m] at r; cases r
    refine (ok b u q).stay (fun c v hc r => ?_) (fun c r => ?_) fun c xs r => ?_
    · rcases hc with rfl | hc
      · exact oth _ _ q hb v r
      · exact oth _ _ hc (fun m => by rw [m, he] at hc; cases hc) v r
    · rw [upd_ne (fun m => by rw [m, he] at r; cases r)]
      exact r
    · rw [upd_ne (fun m => by rw [m, he] at r; cases r)]
      exact r
theorem Noted.un {l : List Addr} {old : Addr → Prop} {ch : List Addr} {φ : Heap → Prop} {o' : HO} (n : Noted l e old h h') (hc : ∀ b, old b → b ∈ ch) (he : H e = some (.ext φ)) : Un l ch H (upd H e o') h h' := by
  have ne : ∀ b, H b = none → b ≠ e := fun b r z => by rw [z, he] at r; cases r
  refine ⟨fun b o g r m k => n.keep b o g m (ne b r) fun z => k (hc b z), fun b o g r m k => n.slot b o g m (ne b r) fun z => k (hc b z), fun b o _ r _ => by rw [upd_ne (ne b r)]; exact r, fun b o g _ => n.there b o g, fun b xs r => ?_, fun b o u r => ?_, fun b ps r => ⟨#[], ?_⟩⟩
  · rw [upd_ne (fun m => by rw [m, he] at r; cases r)]
    exact r
  · rw [upd_ne (fun m => by rw [m, he] at r; cases r)]
    exact r
  · rw [upd_ne (fun m => by rw [m, he] at r; cases r), r]
    simp
end

def CX1 (P : Program) (w : World) : CXT := fun outer H s E e s' => ∃ (ea C : Addr) (od : Option Addr) (vs : Array Value) (T : Addr) (H' : Hp),
  e = .ref ea ∧ s'.os = s.os ∧ AllBare s'.gens ∧ Un (frs outer) [] H H' s.heap s'.heap ∧ HOk P w H' s'.heap ∧ H' ea = some (XO ea C od) ∧ s'.heap.get? ea = some (excRec C od vs) ∧ 1 < vs.size ∧
  Trc s'.heap ea vs T .none ∧ H' T = none ∧ s.heap.objs.size ≤ T ∧ E (.ref ea) od H'
end L2
namespace L2
open PySem PySem.Spec PyProof.Rows

theorem upd_self {H : Hp} {a : Addr} {o : HO} (h : H a = some o) : upd H a o = H := by
  funext b
  by_cases z : b = a
  · subst z; rw [upd_same, h]
  · rw [upd_ne z]

def Flies (X : Cx) (E : St → XK) (e : Value) (s : Shared) : Prop := ∃ (pins : List (Addr × Obj)) (σ : St) (H : Hp) (ea C : Addr) (od : Option Addr) (vs : Array Value) (φ : Heap → Prop),
  e = .ref ea ∧ Inv X pins σ H s ∧ H ea = some (.ext φ) ∧ s.heap.get? ea = some (excRec C od vs) ∧ 1 < vs.size ∧ (vs[1]? = some .none ∨ ∃ T, Trc s.heap ea vs T .none ∧ FpOk X pins H T) ∧ E σ (.ref ea) od (upd H ea (XO ea C od))

section
variable {X : Cx} {pins : List (Addr × Obj)} {σ : St} {H : Hp} {s : Shared} {M : Model} {A : Around} {W : Value → Shared → Prop}

theorem note_land {ea C : Addr} {od : Option Addr} {vs : Array Value} {φ : Heap → Prop} {Q : Unit → Shared → Prop} (I : Inv X pins σ H s) (hst : X.stack = X.env :: X.outer) (hf : X.env.frame = some X.env.locals) (hA : A.frames = some X.stack)
    (hx : H ea = some (.ext φ)) (hr : s.heap.get? ea = some (excRec C od vs)) (hz : 1 < vs.size) (ht : vs[1]? = some .none ∨ ∃ T, Trc s.heap ea vs T .none ∧ FpOk X pins H T)
    (q : ∀ s' vs' T, Inv X pins σ (upd H ea (XO ea C od)) s' → s'.heap.get? ea = some (excRec C od vs') → 1 < vs'.size → Trc s'.heap ea vs' T .none → FpOk X pins (upd H ea (XO ea C od)) T → Q () s') :
    wpAny M A (noteFrame (.ref ea) X.env) (fun _ s1 => wpAny M A (setFlight (.ref ea) none) Q W s1) W s := by
  rw [hst] at hA
  have hl : s.heap.FunFrames X.base (X.env :: X.outer) := hst ▸ I.stack
  have hfree : ∀ b ∈ frs (X.env :: X.outer), H b = none := hst ▸ I.stkFree
  have fin : ∀ (old : Addr → Prop) (ch : List Addr) (h1 : Heap) (T' : Addr) (vs' : Array Value), (∀ b, old b ↔ b ∈ ch) → (∀ b ∈ ch, FpOk X pins H b) → Noted (frs (X.env :: X.outer)) ea old s.heap h1 → h1.get? ea = some (excRec C od vs') → vs'.size = vs.size →
      s.heap.objs.size ≤ T' → Trc h1 ea vs' T' (rawInt X.env.locals) → wpAny M A (setFlight (.ref ea) none) Q W { s with heap := h1 } := by
    intro old ch h1 T' vs' hoc hch n g1 g2 g3 g4
    refine flight_off (l := []) (s := { s with heap := h1 }) g1 g4 fun h2 k1 k2 k3 k4 k5 => ?_
    have nT : ∀ b o, s.heap.get? b = some o → b ≠ T' := fun b o g z => absurd (Heap.lt_size g) (Nat.not_lt.mpr (z ▸ g3))
    have n2 : Noted (frs (X.env :: X.outer)) ea old s.heap h2 := ⟨fun b o r1 r2 r3 r4 => k1 b o (nT b o r1) (n.keep b o r1 r2 r3 r4), fun b o r1 r2 r3 r4 => by
        obtain ⟨sl, r⟩ := n.slot b o r1 r2 r3 r4
        exact ⟨sl, k1 b _ (nT b o r1) r⟩, fun b o r1 => by
        obtain ⟨o', r⟩ := n.there b o r1
        exact ⟨o', k1 b _ (nT b o r1) r⟩⟩
    have hok2 : HOk X.prog X.w (upd H ea (XO ea C od)) h2 := n2.hok I.hok hfree (fun b z => (hch b ((hoc b).mp z)).1) hx k2 (g2 ▸ hz)
    have un2 : Un (frs X.stack) ch H (upd H ea (XO ea C od)) s.heap h2 := by
      rw [hst]
      exact n2.un (fun b z => (hoc b).mp z) hx
    have I2 : Inv X pins σ (upd H ea (XO ea C od)) { s with heap := h2 } := I.call' (s' := { s with heap := h2 }) rfl un2 hok2 I.bare fun b hb => by
      obtain ⟨z1, z2, z3, z4, z5, z6⟩ := hch b hb
      exact ⟨z4, z2, z5, z6⟩
    refine q _ vs' T' I2 k2 (g2 ▸ hz) k5 (I.fpOk g3 ?_)
    have neT : T' ≠ ea := Ne.symm (nT ea _ hr)
    rw [upd_ne neT]
    exact I.hok.fresh g3
  rcases ht with h1 | ⟨T, tr, fp⟩
  · exact note_first hA hl hf hr h1 fun h1 T' vs' n g1 g2 g3 g4 => fin (fun _ => False) [] h1 T' vs' (fun b => by simp) (fun b z => nomatch z) n g1 g2 g3 g4
  · exact note_next hA hl hf hr tr fun h1 T' vs' n g1 g2 g3 g4 => fin (· = T) [T] h1 T' vs' (fun b => by simp) (fun b z => by rw [List.mem_singleton.mp z]; exact fp) n g1 g2 g3 g4

end

section
variable {P : Program} {w : World} {K : PySem.W.Frag} {mg : Str → Option Value} {base : Heap} {N : List Str} {qual : Str} {scope : Scope} {f : Addr} {cd : Value} {A : Around} {outer : List Env} {s : Shared} {H : Hp} {E : XK}
theorem leave_cx {e : Value} {s' : Shared} (h : Flies (cxOf (CX1 P w) P w K mg base N qual scope f cd A outer s H E) (fun _ => E) e s') : (cxOf (CX1 P w) P w K mg base N qual scope f cd A outer s H E).xe e s' := by
  obtain ⟨pins, σ, H1, ea, C, od, vs, φ, rfl, I, hx, hr, hz, ht, q⟩ := h
  show wpAny _ _ (leaving _ (.ref ea)) _ _ s'
  unfold leaving
  refine wpAny_bind (note_land I rfl rfl I.ok.frames hx hr hz ht fun s2 vs2 T I2 r2 z2 t2 f2 => ?_)
  refine ⟨ea, C, od, vs2, T, _, rfl, I2.os, I2.bare, I2.base, I2.hok, upd_same, r2, z2, t2, f2.1, ?_, q⟩
  rcases f2.2.2.2.1 with z | z
  · exact absurd (show T ∈ ([] : List Addr) from z) (by simp)
  · exact z
theorem Fun.okX {x qual : Str} {st : Stmt} {f : Addr} {fd : FuncData} {N ps : List Str} {k : Nat} {sp : Sp} (F : Fun K x qual st f fd) (S : FnScope N ps (defScope st)) (len : ∀ vs H Q E, sp vs H Q E → vs.length = ps.length)
    (hbody : ∀ (cdv : Value) (A : Around) (outer : List Env) (s : Shared) (H : Hp) (vs : List V) (Q : VK) (E : XK), Room k (A.deeper (envOfC qual (defScope st) s.heap.objs.size f cdv)) → sp vs H Q E →
      ∃ t, PSs (cxOf (CX1 P w) P w K mg base N qual (defScope st) f cdv A outer s H E) (defBody st) t ∧ t { nx := fun _ H' => Q .non H', rt := Q } (start N vs) H) : FnOk P w K mg base (CX1 P w) (k + 1) f fd ps sp := by
  obtain ⟨oc, od, kV, doc, pm, an, cdv, ct, osl, rfl, lk, hcd⟩ := F.ex
  exact fn_of lk hcd S len fun A outer s H vs Q E hr hsp => hbody cdv A outer s H vs Q E hr hsp
end
end L2
namespace L2
open PySem PySem.Spec PyProof.Rows

abbrev vBase : List Value := [.type "ValueError", .type "Exception", .type "BaseException", .type "object"]
def ExcMro (bm : List Value) : Prop := ∃ ups : List Addr, bm = ups.map Value.ref ++ vBase
theorem ExcMro.typ {bm : List Value} (B : ExcMro bm) (T : String) : bm.contains (.type T) = vBase.contains (.type T) := by
  obtain ⟨ups, rfl⟩ := B
  induction ups with
  | nil => rfl
  | cons a r ih => rw [List.map_cons, List.cons_append, List.contains_cons, ih]; rfl
theorem ExcMro.val {bm : List Value} (B : ExcMro bm) : bm.contains (.type "ValueError") = true := (B.typ _).trans (by decide +kernel)
theorem ExcMro.bas {bm : List Value} (B : ExcMro bm) : bm.contains (.type "BaseException") = true := (B.typ _).trans (by decide +kernel)
theorem ExcMro.att {bm : List Value} (B : ExcMro bm) : bm.contains (.type "AttributeError") = false := (B.typ _).trans (by decide +kernel)
theorem ExcMro.nam {bm : List Value} (B : ExcMro bm) : bm.contains (.type "NameError") = false := (B.typ _).trans (by decide +kernel)
theorem ExcMro.obj {bm : List Value} (B : ExcMro bm) : bm.contains (.type "object") = true := (B.typ _).trans (by decide +kernel)
theorem ExcMro.pass {bm : List Value} (B : ExcMro bm) (self : Value) : refuseLoop self "__setattr__" bm = pure () := by
  obtain ⟨ups, rfl⟩ := B
  induction ups with
  | nil => exact PySem.F.store_ValueError.passes self
  | cons a r ih => rw [List.map_cons, List.cons_append, refuseLoop_ref]; exact ih
structure XCls (K : PySem.W.Frag) (C : Addr) (bm : List Value) : Prop where
  ob : ∃ nm q N bs sn sub ab col dd k0 k1 k2 k3 k5, K.lookup C = some (excClassObj nm q C N bs bm true sn sub ab col dd k0 k1 k2 k3 k5 "ValueError.__new__")
  mro : ExcMro bm
  kp : PySem.W.keepIn K (.ref C) = true
  ga : PySem.W.findIn K (.ref C) "__getattribute__" = some (some (.builtin "BaseException.__getattribute__"))
  gn : PySem.W.findIn K (.ref C) "__getattr__" = some none
  sa : PySem.W.findIn K (.ref C) "__setattr__" = some (some (.builtin "object.__setattr__"))

section
variable {prog : Program} {w : World} {A : Around} {h : Heap} {g : Array GenState} {d : Drawn} {t : Nat} {os : OsState}
variable {nm q : Str} {C N : Addr} {bs bm : List Value} {sn : List Str} {sub : List Value} {ab : Bool} {col : Option Bool} {dd : Option Addr} {k0 k1 k2 k3 k5 : Option Value}

abbrev newExcRec (C t : Addr) : Obj := excRec C none #[.ref t, .none, .none, .none, .bool false, .none]
abbrev tupRec (us : List Value) : Obj := { cls := .type "tuple", data := .seq us.toArray }

theorem exc_new {rest : List Value} {R : Result → Shared → Prop} (B : ExcMro bm) (hC : h.get? C = some (excClassObj nm q C N bs bm true sn sub ab col dd k0 k1 k2 k3 k5 "ValueError.__new__")) (hz : rest.length ≤ sizeLine)
    (hq : R (.ok (.ret (.ref (h.objs.size + 1)))) ⟨(h.push (tupRec rest)).push (newExcRec C h.objs.size), g, d, t, os⟩) :
    codeAny (model prog w) A (.call (.builtin "ValueError.__new__") ⟨.ref C :: rest, []⟩) R ⟨h, g, d, t, os⟩ := by
  have F := PySem.F.excBase_ValueError
  have c1 : (Value.ref C :: bm).contains (.type "ValueError") = true := by rw [List.contains_cons, B.val, Bool.or_true]
  have c2 : (Value.ref C :: bm).contains (.type "AttributeError") = false := by rw [List.contains_cons, B.att]; rfl
  have c3 : (Value.ref C :: bm).contains (.type "NameError") = false := by rw [List.contains_cons, B.nam]; rfl
  have st := F.noStar
  have en := F.ends
  refine codeAny_call_builtin_code (Code.quiet_builtin _ F.quiet) ?_
  simp only [checkBuiltinCall, F.newKind, F.newSplit, F.newRow]
  repeat (first | refine wpAny_loadPart_at hC ?_ | (refine wpAny_isSubtype_exc hC ?_; rw [c1]) | refine wpAny_staticBase_exc hC ?_ | refine wpAny_madeBy_exc hC ?_ | simp only [bne_self_eq_false, Bool.false_eq_true, if_false] | wp_step)
  refine codeAny_builtinAt F.entry ?_
  unfold Builtin.«BaseException.__new__»
  refine PySem.wpAt_bind ?_
  show PySem.wpAt _ _ _ (stack >>= _) _ _ _
  refine PySem.wpAt_bind (PySem.wpAt_stack fun p below => PySem.wpAt_of_wpAny ?_)
  wp_walk
  refine PySem.wpAt_of_wpAny ?_
  rw [F.owner]
  repeat (first | with_reducible refine wpAny_madeHere_exc F.canon hC ?_ | with_reducible refine wpAny_loadPart_at hC ?_ | (with_reducible refine wpAny_isSubtype_exc hC ?_; first | rw [c1] | rw [c2] | rw [c3]) | wp_step)
  show R _ _
  rw [Heap.size_push]
  exact hq

open PySem.W in
theorem exc_make {K : PySem.W.Frag} {fi : Value} {us : List Value} {R : Result → Shared → Prop} (X : K.In h) (Y : XCls K C bm) (hz : us.length ≤ sizeLine) (hi : findIn K (.ref C) "__init__" = some (some fi)) (hf : ∀ self, Looks (model prog w) h (bindSpecial fi self) (fi, [self]))
    (hq : codeAny (model prog w) (A.under (.builtin "type.__call__" ⟨.ref C :: us, []⟩)) (.call fi ⟨.ref (h.objs.size + 1) :: us, []⟩) (InitBack (h.objs.size + 1) R) ⟨(h.push (tupRec us)).push (newExcRec C h.objs.size), g, d, t, os⟩) :
    codeAny (model prog w) A (.call (.ref C) ⟨us, []⟩) R ⟨h, g, d, t, os⟩ := by
  obtain ⟨nm, q, N, bs, sn, sub, ab, col, dd, k0, k1, k2, k3, k5, hK⟩ := Y.ob
  have hC := X _ _ hK
  have B := Y.mro
  have cC : (Value.ref C :: bm).contains (.ref C) = true := by simp
  have hl := looks_findIn (M := model prog w) X hi
  have f1 := tc_lookup
  have f2 := tc_bind (.ref C)
  have hT : (⟨h, g, d, t, os⟩ : Shared).TypeIs (.ref C) "type" := ⟨_, hC, rfl⟩
  refine codeAny_of_tree ?_
  show wpAny _ _ (callAny (.ref C) _) _ _ _
  repeat (any_goals (first | assumption | with_reducible refine wpAny_loadPart_at hC ?_ | wp_step))
  refine ⟨rfl, ?_⟩
  refine codeAny_call_builtin_at (Code.quiet_builtin _ (by decide +kernel)) entry_typeCall (wpAny_check_type_call_sub hC ?_)
  repeat (first | with_reducible refine wpAny_loadPart_at hC ?_ | with_reducible refine wpAny_madeBy_exc hC ?_ | wp_step)
  refine exc_new B hC hz ?_
  show wpAny _ (A.under (.builtin "type.__call__" ⟨.ref C :: us, []⟩)) _ _ _ ⟨(h.push (tupRec us)).push (newExcRec C h.objs.size), g, d, t, os⟩
  have k : ∀ b o, h.get? b = some o → ((h.push (tupRec us)).push (newExcRec C h.objs.size)).get? b = some o := fun b o e => Heap.get?_push_of_some _ (Heap.get?_push_of_some _ e)
  have he : ((h.push (tupRec us)).push (newExcRec C h.objs.size)).get? (h.objs.size + 1) = some (newExcRec C h.objs.size) := by heap_get
  have hC1 := k _ _ hC
  have hl1 := hl.keeps k
  have fb := (hf (.ref (h.objs.size + 1))).keeps k
  have t1 : Looks (model prog w) ((h.push (tupRec us)).push (newExcRec C h.objs.size)) (typeOf (.ref (h.objs.size + 1))) (.ref C) := (Looks.ld he).andThen .now
  have s1 : Looks (model prog w) ((h.push (tupRec us)).push (newExcRec C h.objs.size)) (isSubtype (.ref C) (.ref C)) true := fun A' Q' E' s' kk z => by
    obtain ⟨hp, g', d', t', os'⟩ := s'
    exact wpAny_isSubtype_exc (kk _ _ hC1) (by rw [cC]; exact z)
  unfold isInstance callSpecial? specialOf
  repeat (first | simp only [cC, Bool.not_true, Bool.false_eq_true, if_false] | with_reducible refine wpAny_call ?_ | lk)
  refine codeAny_mono hq fun r s' z => ?_
  rcases r with e | (v | _ | _ | _) <;> first | exact z | exact z.elim | skip
  obtain ⟨rfl, z⟩ := z
  exact wpAny_pure (wpAny_pure z)
end
end L2
namespace L2
open PySem PySem.Spec PyProof.Rows
section
variable {prog : Program} {w : World} {A : Around} {h : Heap} {g : Array GenState} {d : Drawn} {t : Nat} {os : OsState}
variable {nm q : Str} {C N : Addr} {bs bm : List Value} {sn : List Str} {sub : List Value} {ab : Bool} {col : Option Bool} {dd : Option Addr} {k0 k1 k2 k3 k5 : Option Value}

theorem exc_init {e : Addr} {od : Option Addr} {t0 : Addr} {us : List Value} {R : Result → Shared → Prop} (B : ExcMro bm) (hC : h.get? C = some (excClassObj nm q C N bs bm true sn sub ab col dd k0 k1 k2 k3 k5 "ValueError.__new__"))
    (he : h.get? e = some (excRec C od #[.ref t0, .none, .none, .none, .bool false, .none])) (hz : us.length ≤ sizeLine)
    (hq : ∀ h', (∀ b o, b ≠ e → h.get? b = some o → h'.get? b = some o) → h'.get? e = some (excRec C od #[.ref h.objs.size, .none, .none, .none, .bool false, .none]) → R (.ok (.ret .none)) ⟨h', g, d, t, os⟩) :
    codeAny (model prog w) A (.call (.builtin "ValueError.__init__") ⟨.ref e :: us, []⟩) R ⟨h, g, d, t, os⟩ := by
  have F := PySem.F.excBase_ValueError
  have c1 : (Value.ref C :: bm).contains (.type "ValueError") = true := by rw [List.contains_cons, B.val, Bool.or_true]
  have st := F.noStar
  refine codeAny_call_builtin F.init.plain F.initEntry ?_
  simp only [checkBuiltinCall, F.initKind, F.initSplit, F.initRow]
  repeat (first | with_reducible refine wpAny_loadPart_at he ?_ | with_reducible refine wpAny_loadPart_at hC ?_ | (with_reducible refine wpAny_isSubtype_exc hC ?_; rw [c1]) | wp_step)
  refine wpAny_onRaise ?_
  rw [show ∀ (a b : String) (n : Nat), Bind.check ⟨.positional, "*", "ValueError", .self, [⟨"args", .varPos, false⟩]⟩ a b n (List.map (fun x => x.fst) ({ pos := Value.ref e :: us } : Args).kw) = pure () from fun a b n => check_star_args _ _ _ _ _ _]
  refine wpAny_pure ?_
  wp_walk
  have he1 : (h.push (tupRec us)).get? e = some (excRec C od #[.ref t0, .none, .none, .none, .bool false, .none]) := Heap.get?_push_of_some _ he
  refine hq _ (fun b o z k => ?_) ?_
  · rw [Heap.get?_update_other _ _ (Ne.symm z)]
    exact Heap.get?_push_of_some _ k
  · exact Heap.get?_update_self _ he1 rfl
end
end L2
namespace L2
open PySem PySem.Spec PyProof.Rows PySem.W
section
variable {prog : Program} {w : World} {A : Around} {E : Value → Shared → Prop} {s : Shared} {K : PySem.W.Frag} {e C : Addr} {bm : List Value}

theorem XCls.cd (Y : XCls K C bm) : ∃ cd, clsIn K C = some cd ∧ cd.mro = .ref C :: bm ∧ cd.hasDict = true := by
  obtain ⟨nm, q, N, bs, sn, sub, ab, col, dd, k0, k1, k2, k3, k5, hK⟩ := Y.ob
  exact ⟨_, by unfold clsIn; rw [hK], rfl, rfl⟩
theorem XCls.inst (Y : XCls K C bm) (X : K.In s.heap) {od : Option Addr} {vs : Array Value} (he : s.heap.get? e = some (excRec C od vs)) (T : String) (hT : bm.contains (.type T) = true) : Looks (model prog w) s.heap (isInstance (.ref e) (.type T)) true := by
  obtain ⟨cd, hc, hm, _⟩ := Y.cd
  refine ((Looks.ld he).andThen .now : Looks (model prog w) s.heap (typeOf (.ref e)) (.ref C)).andThen (looks_mroIn X ?_)
  unfold mroIn
  rw [hc, Option.bind_some, if_neg (by rw [hm]; exact Bool.false_ne_true), hm, List.contains_cons, hT, Bool.or_true]

theorem exc_set {vs : Array Value} {name : Str} {v : Value} {Q : Unit → Shared → Prop} (X : K.In s.heap) (Y : XCls K C bm) (hn : findIn K (.ref C) name = some none) (he : s.heap.get? e = some (excRec C none vs))
    (hq : ∀ h' tk, (∀ b o, b ≠ e → s.heap.get? b = some o → h'.get? b = some o) → h'.get? e = some (excRec C (some s.heap.objs.size) vs) → h'.Ns1 s.heap.objs.size (fun y => if y = name then some v else none) → Q () { s with heap := h', toks := tk }) :
    wpAny (model prog w) A (setAttr (.ref e) name v) Q E s := by
  have SF := PySem.F.store_object
  obtain ⟨cd, hc, hm, hd⟩ := Y.cd
  have I : InstAt s.heap e (excRec C none vs) C none := ⟨he, rfl, rfl, True.intro⟩
  have ty : Looks (model prog w) s.heap (typeOf (.ref e)) (.ref C) := I.type
  have mo : Looks (model prog w) s.heap (mroOf (.ref C)) (.ref C :: bm) := hm ▸ (looks_clsIn X hc).andThen .now
  refine set_plain X I Y.sa (codeAny_call_builtin SF.slot.plain SF.entry (@check_slot (model prog w) _ _ { s with toks := s.toks + 1 } "object.__setattr__" "object" "__setattr__" (.ref e) [.str name s.toks, v] [] _ SF.kind SF.split (Y.inst X he "object" Y.mro.obj) (SF.args (.ref e) (.str name s.toks) v) ?_))
  obtain ⟨h, g, d, t, os⟩ := s
  rw [osa_eq, refuse_eq]
  refine wpAny_bind (wpAny_bind (ty.at (wpAny_bind (mo.at ?_))))
  rw [refuseLoop_ref, Y.mro.pass]
  have lk1 := looks_findIn (M := model prog w) (h := h) X hn
  refine wpAny_pure (wpAny_bind (ty.at (wpAny_bind (lk1.at (wpAny_bind (wpAny_pure ?_))))))
  have e1 : (h.push { cls := .type "dict", data := .dict #[] }).get? e = some (excRec C none vs) := Heap.get?_push_of_some _ he
  have ne : e ≠ h.objs.size := Nat.ne_of_lt (Heap.lt_size he)
  have C1 := looks_clsIn (M := model prog w) (h := h) X hc
  show wpAny _ _ (Builtin.ObjectAttr.storeInOwnDict _ _ _ _ _ _) _ _ _
  unfold Builtin.ObjectAttr.storeInOwnDict Builtin.ObjectAttr.ownDictForStores
  repeat (first | with_reducible refine wpAny_loadPart_at he ?_ | lk | wp_step)
  have eg : ((h.push { cls := .type "dict", data := .dict #[] }).update e fun o => { cls := o.cls, dict := some h.objs.size, data := o.data, slots := o.slots }).get? h.objs.size = some { cls := .type "dict", data := .dict #[] } :=
    (Heap.get?_update_ne _ _ _ _ ne.symm).trans (Heap.get?_push_at rfl rfl)
  have en : ((h.push { cls := .type "dict", data := .dict #[] }).update e fun o => { cls := o.cls, dict := some h.objs.size, data := o.data, slots := o.slots }).Ns h.objs.size (fun _ => none) :=
    ⟨_, #[], _, eg, rfl, fun x hx => absurd hx (by simp), fun _ => rfl⟩
  have ee : ((h.push { cls := .type "dict", data := .dict #[] }).update e fun o => { cls := o.cls, dict := some h.objs.size, data := o.data, slots := o.slots }).get? e = some (excRec C (some h.objs.size) vs) := Heap.get?_update_self _ e1 rfl
  refine wpAny_update' e1 ?_
  refine wpAny_pure ?_
  show wpAny _ _ (Builtin.ObjectAttr.storeInDict h.objs.size (.str name t) name v) _ _ _
  unfold Builtin.ObjectAttr.storeInDict Builtin.ObjectAttr.newKeyGuard
  refine wpAny_bind (wpAny_pure (wpAny_bind (wpAny_nsSet1 (Heap.Ns1.of_empty en) fun h2 n2 sb => ?_)))
  obtain ⟨oD, esD, epD, hoD, hdD, hcD⟩ := n2.count (Within.cons name v Within.nil)
  refine wpAny_bind (wpAny_lookBehind hoD (by rw [hdD]; exact pastItsLine_dict (Nat.le_trans hcD (by rw [List.length_cons, List.length_nil, sizeLine_eq]; (clear hcD hdD hoD ee eg ne e1 he hd hm hc hn; omega)))) (wpAny_pure ?_))
  exact hq h2 _ (fun b o z k => (sb.2 b (Nat.ne_of_lt (Heap.lt_size k))).trans ((Heap.get?_update_ne _ _ _ _ z).trans (Heap.get?_push_of_some _ k))) ((sb.2 e ne).trans ee) n2
end
end L2
namespace L2
open PySem PySem.Spec PyProof.Rows PySem.W
section
variable {prog : Program} {w : World} {A : Around} {E : Value → Shared → Prop} {s : Shared} {K : PySem.W.Frag} {e C : Addr} {bm : List Value}

structure XIs (K : PySem.W.Frag) (C : Addr) : Prop where
  ha : findIn K (.ref C) "__class__" = some (some (.builtin "object.__class__"))
  hn : specialIn K (.builtin "object.__class__") "__get__" = some (some (.builtin "getset_descriptor.__get__"))
  tk : takesIn K (.builtin "object.__class__") = some true
  hm : mroIn K C (.type "object") = some true
end
end L2
namespace L2
open PySem PySem.Spec PyProof.Rows PySem.W

def ExcAt (H : Hp) (e : Addr) (od : Option Addr) (C : Addr) (fs : List (Str × V)) : Prop := H e = some (XO e C od) ∧ ((fs = [] ∧ od = none) ∨ ∃ dx, od = some dx ∧ H dx = some (.xd fs))
section
variable {X : Cx} {pins : List (Addr × Obj)} {σ : St} {H : Hp} {s : Shared}
end
end L2
namespace L2
open PySem PySem.Spec PyProof.Rows PySem.W
section
variable {X : Cx} {pins : List (Addr × Obj)} {σ : St} {H : Hp} {s : Shared}
theorem Inv.madeX {C : Addr} {us : List Value} (I : Inv X pins σ H s) : Inv X pins σ (upd H (s.heap.objs.size + 1) (XN (s.heap.objs.size + 1) C none)) { s with heap := (s.heap.push (tupRec us)).push (newExcRec C s.heap.objs.size) } :=
  I.laid (t' := s.toks) (fun b o e => Heap.get?_push_of_some _ (Heap.get?_push_of_some _ e)) (Nat.le_succ _) (xn_mk (t := s.heap.objs.size) (by heap_get))
def tMakeX (C : Addr) (sp : Sp) (dvs : List V) (E : XK) (t : TA) : TE := fun σ H Q => t σ H fun vs H1 => vs.length ≤ 1000 ∧ ∀ e, H1 e = none → sp (.ref e :: (vs ++ dvs)) (upd H1 e (XN e C none)) (fun v H2 => v = .non ∧ Q (.ref e) H2) E
variable {CX : CXT} {k : Nat} {f C : Addr} {fd : FuncData} {ps : List Str} {sp : Sp} {dvs : List V} {ds : List Value} {E : XK} {x m : Str} {p pos apos : Pos} {e o : Expr} {es : List Expr} {ta : TE} {t : TA} {bm : List Value}
theorem run_makeX {Q : VK} {us : List Value} {vs : List V} (Y : XCls X.K C bm) (hi : findIn X.K (.ref C) "__init__" = some (some (.ref f))) (hf : isFn X.K (.ref f) = true) (F : FnOk X.prog X.w X.K X.mg X.base CX k f fd ps sp) (hr : Room (k + 1) X.A) (hb : Binds X.K fd ps ds) (hd : Vals dvs ds)
    (hx : Passes CX X E) (I : Inv X pins σ H s) (r : Vals vs us) (hz : vs.length ≤ 1000)
    (h : ∀ e, H e = none → sp (.ref e :: (vs ++ dvs)) (upd H e (XN e C none)) (fun v H2 => v = .non ∧ Q (.ref e) H2) E) : wpAny (model X.prog X.w) X.A (call (.ref C) us) (EP X pins σ Q) X.xe s := by
  have hq := h (s.heap.objs.size + 1) (I.hok.fresh (Nat.le_succ _))
  have I2 := Inv.madeX (C := C) (us := us) I
  have r2 : Vals (V.ref (s.heap.objs.size + 1) :: (vs ++ dvs)) (Value.ref (s.heap.objs.size + 1) :: (us ++ ds)) := .cons rfl (r.append hd)
  have hl : (Value.ref (s.heap.objs.size + 1) :: us ++ ds).length = ps.length := by
    have z := r2.length
    rw [F.len _ _ _ _ hq] at z
    exact z.symm
  have hz2 : us.length ≤ sizeLine := by rw [← r.length]; exact Nat.le_of_lt (small1000 hz)
  obtain ⟨h0, g0, d0, t0, o0⟩ := s
  refine wpAny_call (exc_make I.kIn Y hz2 hi (fun self => bind_fn I.kIn self (beq_iff_eq.mp hf)) (codeAny_mono (F.run _ X.stack _ _ ⟨Value.ref (h0.objs.size + 1) :: us, []⟩ (Value.ref (h0.objs.size + 1) :: (us ++ ds)) _ _ E (hr.make C us [])
    (I2.env0.make C us []) (hb _ (Value.ref (h0.objs.size + 1) :: us) I2.kIn hl) r2 hq) fun r s' hq' => ?_))
  cases r with
  | error e => exact hx pins σ _ _ e s' I2 hq'
  | ok fl =>
    cases fl with
    | ret u =>
      obtain ⟨v, H', I3, rv, ev, q3⟩ := I2.after hq'
      subst ev
      exact ⟨rv, ⟨V.ref (h0.objs.size + 1), H', I3, rfl, q3⟩⟩
    | next => exact False.elim hq'
    | brk => exact False.elim hq'
    | cont => exact False.elim hq'
theorem pe_makeX (Y : XCls X.K C bm) (hi : findIn X.K (.ref C) "__init__" = some (some (.ref f))) (hf : isFn X.K (.ref f) = true) (F : FnOk X.prog X.w X.K X.mg X.base CX k f fd ps sp) (hr : Room (k + 1) X.A) (hg : Gl X x) (hm : X.mg x = some (.ref C)) (hb : Binds X.K fd ps ds) (hd : Vals dvs ds) (hx : Passes CX X E)
    (ha : PA X (e :: es) t) (hdb : (x == ("__debug__" : Str)) = false := by decide) (he : starEach (e :: es) X.env = (false, eval e X.env) :: starEach es X.env := by rfl) (hpl : (backTo pos (starEach es X.env)).any (·.1) = false := by rfl) :
    PE X (.Call (.Name x p) (e :: es) [] pos) (tMakeX C sp dvs E t) := by
  intro pins s σ H Q I h
  refine wpAny_Call_Name_kw (ld_glob I hg hm ?_ hdb)
  refine PySem.W.callWith_K (h₀ := X.base) I.ok.mod.kin Y.kp (thn (ha pos pins s σ H _ I h) fun us s1 ⟨vs, H1, I1, r, hz, q⟩ => ⟨I1.kIn, ?_⟩) he hpl
  exact run_makeX Y hi hf F hr hb hd hx I1 r hz q
theorem Inv.rewrite {ea : Addr} {φ : Heap → Prop} {od : Option Addr} {t1 : Addr} {h' : Heap} {tk : Nat} (I : Inv X pins σ H s) (hx : H ea = some (.ext φ)) (k : ∀ b o, b ≠ ea → s.heap.get? b = some o → h'.get? b = some o)
    (new : h'.get? ea = some (excRec C od #[.ref t1, .none, .none, .none, .bool false, .none])) : Inv X pins σ (upd H ea (XN ea C od)) { s with heap := h', toks := tk } :=
  I.write (x := ea) (e := ea) (by rw [hx]; exact True.intro) (.inl rfl) k ⟨_, new⟩ (xn_mk new)
end
end L2
namespace L2
open PySem PySem.Spec PyProof.Rows PySem.W
structure OfCls (K : PySem.W.Frag) (C : Addr) (m : Str) (v : Value) : Prop where
  sp : specialIn K (.ref C) "__getattribute__" = some (some (.builtin "type.__getattribute__"))
  rd : readsIn K C (.type "type") = true
  at_ : findCls K (.ref C) (.type "type") m = some (.val v)
section
variable {X : Cx} {pins : List (Addr × Obj)} {σ : St} {H : Hp} {s : Shared}
variable {CX : CXT} {k : Nat} {f C : Addr} {fd : FuncData} {ps : List Str} {sp : Sp} {dvs : List V} {ds : List Value} {E : XK} {x m : Str} {p pos apos : Pos} {e o : Expr} {es : List Expr} {ta : TE} {t : TA} {bm : List Value}
def tBase (K : PySem.W.Frag) (t : TA) : TE := fun σ H Q => t σ H fun vs H1 => ∃ ea C od r bm, vs = .ref ea :: r ∧ r.length ≤ 1000 ∧ H1 ea = some (XN ea C od) ∧ XCls K C bm ∧ Q .non H1
theorem pe_base {pl : Sem Bool} (hg : Gl X x) (hm : X.mg x = some (.ref C)) (hc : OfCls X.K C m (.builtin "ValueError.__init__")) (ha : PA X (e :: es) t)
    (hdb : (x == ("__debug__" : Str)) = false := by decide)
    (hst : starEach (e :: es) X.env = (false, eval e X.env) :: starEach es X.env := by rfl) (hpl : (backTo pos (starEach es X.env)).any (·.1) = false := by rfl)
    (ht : eval (.Call (.Attribute (.Name x p) m apos) (e :: es) [] pos) X.env = (do
      let ov ← eval (.Name x p) X.env
      standAt apos.atName
      let (f, first) ← holding [ov] (getMethod ov m pl)
      callWith pos f first (backTo pos (starEach (e :: es) X.env)) (backToKw pos (keywordEach [] X.env))) := by rfl) :
    PE X (.Call (.Attribute (.Name x p) m apos) (e :: es) [] pos) (tBase X.K t) := by
  intro pins s σ H Q I h
  refine PySem.W.methodCall_KW (pl := pl) (ld_glob I hg hm ?_ hdb) ht
  refine method_cls I.kIn hc.sp (cls_value I.kIn hc.rd hc.at_ (by decide +kernel) ?_)
  have hA := ha pos pins _ σ H _ (I.tok (s.toks + 1)) h
  show wpAny _ _ (callWith pos (.builtin "ValueError.__init__") [] (backTo pos (starEach (e :: es) X.env)) []) _ _ _
  rw [hst] at hA ⊢
  refine Calls.callWith_builtin (by show (false || (backTo pos (starEach es X.env)).any (·.1)) = false; rw [hpl] <;> rfl) (Calls.evalArgs_plain ?_)
  refine thn hA fun us s2 ⟨vs, H2, I2, r2, ea, C', od, r, bm, ev, hz, hx, Y, q2⟩ => ?_
  subst ev
  obtain ⟨nm, q', N, bs, sn, sub, ab, col, dd, k0, k1, k2, k3, k5, hK⟩ := Y.ob
  have hC := I2.kIn _ _ hK
  cases r2 with
  | @cons _ u _ us' r0 r1 =>
    cases (show u = Value.ref ea from r0)
    obtain ⟨t0, he⟩ := xn_at I2.hok hx
    obtain ⟨h0, g0, d0, tk0, o0⟩ := s2
    refine wpAny_call (exc_init (us := us') Y.mro hC he (by rw [← r1.length]; exact Nat.le_of_lt (small1000 hz)) fun h' k' n' => ?_)
    have I3 := I2.rewrite (C := C') (od := od) (tk := tk0) hx k' n'
    rw [upd_self hx] at I3
    exact ⟨V.non, H2, I3, rfl, q2⟩
theorem Inv.newfld {ea : Addr} {t1 : Addr} {fn : Str} {y : V} {u : Value} {h' : Heap} {tk : Nat} (I : Inv X pins σ H s) (hx : H ea = some (XN ea C none)) (k : ∀ b o, b ≠ ea → s.heap.get? b = some o → h'.get? b = some o)
    (new : h'.get? ea = some (excRec C (some s.heap.objs.size) #[.ref t1, .none, .none, .none, .bool false, .none])) (hn : h'.Ns1 s.heap.objs.size (fun z => if z = fn then some u else none)) (ry : RelV y u) :
    Inv X pins σ (upd (upd H s.heap.objs.size (.xd [(fn, y)])) ea (XN ea C (some s.heap.objs.size))) { s with heap := h', toks := tk } := by
  have nd : H s.heap.objs.size = none := I.hok.fresh (Nat.le_refl _)
  have ne : ea ≠ s.heap.objs.size := fun z => by rw [z, nd] at hx; cases hx
  have ub : ∀ b v, H b = some v → b ≠ ea → upd (upd H s.heap.objs.size (.xd [(fn, y)])) ea (XN ea C (some s.heap.objs.size)) b = some v := fun b v q z => by
    rw [upd_ne z, upd_ne (ne_of_none q nd)]
    exact q
  have un : ∀ b, H b = none → b ≠ s.heap.objs.size → upd (upd H s.heap.objs.size (.xd [(fn, y)])) ea (XN ea C (some s.heap.objs.size)) b = none := fun b q z => by
    rw [upd_ne (fun w => by rw [w, hx] at q; cases q), upd_ne z]
    exact q
  have nea : ∀ b, H b = none → b ≠ ea := fun b q z => by rw [z, hx] at q; cases q
  have lt : ∀ b o, s.heap.get? b = some o → b ≠ s.heap.objs.size := fun b o q => Nat.ne_of_lt (Heap.lt_size q)
  refine I.un (t' := tk) ⟨fun b o g1 g2 _ _ => k b o (nea b g2) g1, fun b o g1 g2 _ _ => ⟨o.slots, k b o (nea b g2) g1⟩, fun b o g1 g2 _ => un b g2 (lt b o g1), fun b o g1 _ => ?_, fun b xs g1 => ub b _ g1 fun z => (by rw [z, hx] at g1; cases g1), fun b o v g1 => ub b _ g1 fun z => (by rw [z, hx] at g1; cases g1), fun b ps g1 => ⟨#[], ?_⟩⟩ fun b v q => ?_
  · by_cases z : b = ea
    · exact ⟨_, z ▸ new⟩
    · exact ⟨o, k b o z g1⟩
  · rw [ub b _ g1 fun z => (by rw [z, hx] at g1; cases g1)]
    simp
  · by_cases z : b = ea
    · subst z
      rw [upd_same] at q
      cases q
      exact xn_mk new
    · rw [upd_ne z] at q
      by_cases z2 : b = s.heap.objs.size
      · subst z2
        rw [upd_same] at q
        cases q
        refine ⟨_, hn, fun g => ?_⟩
        show RelO (List.lookup g [(fn, y)]) (if g = fn then some u else none)
        by_cases z3 : g = fn
        · subst z3
          rw [if_pos rfl]
          show RelO (match g == g with | true => some y | false => none) (some u)
          rw [beq_self_eq_true]
          exact ry
        · rw [if_neg z3]
          show RelO (match g == fn with | true => some y | false => none) none
          rw [beq_eq_false_iff_ne.mpr z3]
          exact True.intro
      · rw [upd_ne z2] at q
        refine (I.hok b v q).stay (fun c w hc r => k c w ?_ r) (fun c r => ub c _ r fun z => (by rw [z, hx] at r; cases r)) fun c xs r => ub c _ r fun z => (by rw [z, hx] at r; cases r)
        rcases hc with rfl | hc
        · exact z
        · exact fun z => by rw [z, hx] at hc; cases hc
def sFldX (K : PySem.W.Frag) (ta tv : TE) (f : Str) : TS := fun D σ H => tv σ H fun y H1 => ta σ H1 fun x H2 => ∃ ea C bm, x = .ref ea ∧ H2 ea = some (XN ea C none) ∧ XCls K C bm ∧ NoAttr K C f ∧ ∀ dx, H2 dx = none → D.nx σ (upd (upd H2 dx (.xd [(f, y)])) ea (XN ea C (some dx)))
theorem ps_fldX {o value : Expr} {ta tv : TE} {f : Str} {pos pos' : Pos} (ha : PE X o ta) (hv : PE X value tv) (hs : swapsWith value (some (.Attribute o f pos')) pos.line X.env = pure false) : PS X (.Assign [.Attribute o f pos'] value pos) (sFldX X.K ta tv f) := by
  intro pins s σ H D I h
  refine plainObj_wpAny_Assign_Attribute (thn (hv pins s σ H _ I h) fun u s1 ⟨y, H1, I1, ry, q⟩ => thn (ha pins s1 σ H1 _ I1 q) fun ov s2 ⟨x, H2, I2, rx, ea, C, bm, ex, hx, Y, n, q2⟩ => ?_) hs
  subst ex
  obtain rfl : ov = Value.ref ea := rx
  obtain ⟨t1, he⟩ := xn_at I2.hok hx
  refine exc_set I2.kIn Y n he fun h' tk k1 k2 k3 => ⟨σ, _, I2.newfld hx k1 k2 k3 ry, q2 _ (I2.hok.fresh (Nat.le_refl _))⟩
theorem raise_rec {env : Env} {y : Sem Value} {Q : Flow → Shared → Prop} {M : Model} {A : Around} {W : Value → Shared → Prop} (hh : A.handled = none)
    (h : wpAny M A y (fun v s1 => ∃ ea C od t nm q N bs bm sn sub ab col dd k0 k1 k2 k3 k5, v = .ref ea ∧ s1.heap.get? C = some (excClassObj nm q C N bs bm true sn sub ab col dd k0 k1 k2 k3 k5 "ValueError.__new__") ∧ ExcMro bm ∧
      s1.heap.get? ea = some (excRec C od #[.ref t, .none, .none, .none, .bool false, .none]) ∧ W (.ref ea) s1) W s) : wpAny M A (raiseStmt env (some y) none) Q W s := by
  unfold raiseStmt
  refine wpAny_bind (wpAny_mono h (fun v s1 z => ?_) fun _ _ z => z)
  obtain ⟨ea, C, od, t, nm, q, N, bs, bm, sn, sub, ab, col, dd, k0, k1, k2, k3, k5, rfl, hC, B, he, hE⟩ := z
  have cB : (Value.ref C :: bm).contains (.type "BaseException") = true := by rw [List.contains_cons, B.bas, Bool.or_true]
  obtain ⟨hp, g, d, tk, os⟩ := s1
  repeat (first | with_reducible refine wpAny_loadPart_at he ?_ | with_reducible refine wpAny_loadPart_at hC ?_ | (with_reducible refine wpAny_isSubtype_exc hC ?_; rw [cB]) | wp_step)
  exact wpAny_raiseNew_none hh hE
def Throws (X : Cx) (E : XK) : Prop := ∀ e s, Flies X (fun _ => E) e s → X.xe e s
def sRaise (K : PySem.W.Frag) (te : TE) (E : XK) : TS := fun _ σ H => te σ H fun v H1 => ∃ ea C od bm, v = .ref ea ∧ H1 ea = some (XN ea C od) ∧ XCls K C bm ∧ E (.ref ea) od (upd H1 ea (XO ea C od))
theorem ps_raise {ex : Expr} {te : TE} {pos : Pos} (hc : X.calm = true) (hx : Throws X E) (he : PE X ex te) : PS X (.Raise (some ex) none pos) (sRaise X.K te E) := by
  intro pins s σ H D I h
  rw [arm_exec_Raise]
  simp only [evalOpt, Option.map]
  refine wpAny_bind (wpAny_standAt (raise_rec (I.ok.hd hc) (wpAny_bind (thn (he pins s σ H _ I h) fun v s1 ⟨y, H1, I1, ry, ea, C, od, bm, ev, hn, Y, q⟩ => wpAny_bind (wpAny_standAt (wpAny_pure ?_))))))
  subst ev
  cases (show v = Value.ref ea from ry)
  obtain ⟨nm, q', N, bs, sn, sub, ab, col, dd, k0, k1, k2, k3, k5, hK⟩ := Y.ob
  obtain ⟨t, he'⟩ := xn_at I1.hok hn
  exact ⟨ea, C, od, t, nm, q', N, bs, bm, sn, sub, ab, col, dd, k0, k1, k2, k3, k5, rfl, I1.kIn _ _ hK, Y.mro, he', hx _ _ ⟨pins, σ, H1, ea, C, od, _, _, rfl, I1, hn, he', (by show 1 < 6; decide), .inl rfl, q⟩⟩
end
theorem throws1 {P : Program} {w : World} {K : PySem.W.Frag} {mg : Str → Option Value} {base : Heap} {N : List Str} {qual : Str} {scope : Scope} {f : Addr} {cd : Value} {A : Around} {outer : List Env} {s : Shared} {H : Hp} {E : XK} :
    Throws (cxOf (CX1 P w) P w K mg base N qual scope f cd A outer s H E) E := fun _ _ h => leave_cx h
end L2
namespace L2
open PySem PySem.Spec PyProof.Rows PySem.W
section
variable {M : Model} {A : Around} {W : Value → Shared → Prop} {s : Shared}
variable {nm q nm' q' : Str} {C N C' N' : Addr} {bs bm bs' bm' : List Value} {sn sn' : List Str} {sub sub' : List Value} {ab ab' : Bool} {col col' : Option Bool} {dd dd' : Option Addr} {k0 k1 k2 k3 k5 k0' k1' k2' k3' k5' : Option Value}
end

section
variable {X : Cx} {pins : List (Addr × Obj)} {σ : St} {H : Hp} {s : Shared}
end
end L2
namespace L2
open PySem PySem.Spec PyProof.Rows PySem.W
section
variable {X : Cx} {x n : Str} {np pos : Pos} {b0 : Stmt} {suite : List Stmt} {rest : List ExceptHandler} {i : Nat} {ts : TS} {tr : TH} {Dc : Addr} {bm' : List Value}
end
end L2
namespace L2
open PySem PySem.Spec PyProof.Rows PySem.W
section
variable {X : Cx} {CX : CXT} {k : Nat} {f C : Addr} {fd : FuncData} {ps : List Str} {sp : Sp} {dvs : List V} {ds : List Value} {E : St → XK} {x m : Str} {p pos apos : Pos} {e o : Expr} {es : List Expr} {ta : TE} {t : TA}
end
end L2
namespace L2
open PySem PySem.Spec PyProof.Rows PySem.W
theorem pass01 {X : Cx} {P : Program} {w : World} : Passes (CX1 P w) X E0 := fun _ _ _ _ _ _ _ ⟨_, _, _, _, _, _, _, _, _, _, _, _, _, _, _, _, _, z⟩ => z.elim
structure FunD (K : PySem.W.Frag) (x qual : Str) (st : Stmt) (f : Addr) (fd : FuncData) : Prop where
  ex : ∃ (oc : Value) (od : Option Addr) (dV kV doc pm : Value) (an : Option Addr) (cdv ct : Value) (osl : Array (Option Value)),
    fd = fnOf x qual (defArgs st) (defBody st) (defScope st) dV kV doc pm an cdv ct ∧ K.lookup f = some ⟨oc, od, .func fd, osl⟩ ∧ codeIn K cdv qual = true
  kp : keepIn K (.ref f) = true
section
variable {P : Program} {w : World} {K : PySem.W.Frag} {mg : Str → Option Value} {base : Heap} {x qual : Str} {st : Stmt} {f : Addr} {fd : FuncData} {N ps : List Str} {k : Nat} {sp : Sp}
structure FunT (K : PySem.W.Frag) (x qual : Str) (st : Stmt) (T f : Addr) (fd : FuncData) : Prop where
  toD : FunD K x qual st f fd
  ex : ∃ (kV doc pm : Value) (an : Option Addr) (cdv ct : Value), fd = fnOf x qual (defArgs st) (defBody st) (defScope st) (.ref T) kV doc pm an cdv ct
end
end L2

namespace L2
open PySem PySem.Spec PyProof.Rows
inductive DV where
  | non | bl (b : Bool) | int (i : Int) | str (x : Str) | lst (xs : List DV) | tup (xs : List DV)
mutual
def DV.dp : DV → Nat
  | .lst xs => DV.dps xs + 1
  | .tup xs => DV.dps xs + 1
  | _ => 0
def DV.dps : List DV → Nat
  | [] => 0
  | x :: xs => max (DV.dp x) (DV.dps xs)
end
mutual
def deq : DV → DV → Bool
  | .non, .non => true
  | .bl a, .bl b => a == b
  | .int a, .int b => a == b
  | .str a, .str b => a == b
  | .bl a, .int b => (if a then 1 else 0) == b
  | .int a, .bl b => a == (if b then 1 else 0)
  | .lst xs, .lst ys => deqs xs ys
  | .tup xs, .tup ys => deqs xs ys
  | _, _ => false
def deqs : List DV → List DV → Bool
  | [], [] => true
  | x :: xs, y :: ys => deq x y && deqs xs ys
  | _, _ => false
end
mutual
def DIs (K : PySem.W.Frag) (H : Hp) : DV → V → Prop
  | .non, v => v = .non
  | .bl b, v => v = .bl b
  | .int i, v => v = .int i
  | .str x, v => v = .str x
  | .lst ds, v => ∃ a xs, v = .ref a ∧ SqL K H a xs ∧ DIss K H ds xs
  | .tup ds, v => ∃ a xs, v = .ref a ∧ SqT K H a xs ∧ DIss K H ds xs
def DIss (K : PySem.W.Frag) (H : Hp) : List DV → List V → Prop
  | [], xs => xs = []
  | d :: ds, xs => ∃ y ys, xs = y :: ys ∧ DIs K H d y ∧ DIss K H ds ys
end
theorem dps_mem {x : DV} : ∀ {xs : List DV}, x ∈ xs → x.dp ≤ DV.dps xs
  | y :: ys, h => by
    rw [DV.dps]
    rcases List.mem_cons.mp h with rfl | h
    · exact Nat.le_max_left _ _
    · exact Nat.le_trans (dps_mem h) (Nat.le_max_right _ _)
theorem DIss.len {K : PySem.W.Frag} {H : Hp} : ∀ {ds : List DV} {xs : List V}, DIss K H ds xs → ds.length = xs.length
  | [], xs, h => by rw [DIss] at h; subst h; rfl
  | d :: ds, xs, h => by
    rw [DIss] at h
    obtain ⟨y, ys, rfl, _, h⟩ := h
    rw [List.length_cons, List.length_cons, h.len]
theorem DIss.get {K : PySem.W.Frag} {H : Hp} : ∀ {ds : List DV} {xs : List V} {j : Nat} {d : DV} {v : V}, DIss K H ds xs → ds[j]? = some d → xs[j]? = some v → DIs K H d v
  | [], _, _, _, _, _, e, _ => by simp at e
  | d :: ds, xs, j, d', v, h, e1, e2 => by
    rw [DIss] at h
    obtain ⟨y, ys, rfl, h1, h2⟩ := h
    cases j with
    | zero => simp at e1 e2; subst e1 e2; exact h1
    | succ j => exact h2.get (j := j) (by simpa using e1) (by simpa using e2)
theorem DIss.nil {K : PySem.W.Frag} {H : Hp} : DIss K H [] [] := by rw [DIss]
theorem DIss.cons {K : PySem.W.Frag} {H : Hp} {d : DV} {ds : List DV} {x : V} {xs : List V} (h : DIs K H d x) (t : DIss K H ds xs) : DIss K H (d :: ds) (x :: xs) := by
  rw [DIss]
  exact ⟨x, xs, rfl, h, t⟩
theorem DIs.ints {K : PySem.W.Frag} {H : Hp} : ∀ {ns : List Int}, DIss K H (ns.map DV.int) (ns.map V.int)
  | [] => DIss.nil
  | n :: ns => DIss.cons (by rw [DIs]) DIs.ints
theorem deqs_all : ∀ (xs ys : List DV), deqs xs ys = ((List.range (min xs.length ys.length)).all (fun j => deq (xs.getD j .non) (ys.getD j .non)) && xs.length == ys.length)
  | [], [] => by rw [deqs]; rfl
  | [], y :: ys => by simp [deqs]
  | x :: xs, [] => by simp [deqs]
  | x :: xs, y :: ys => by
    rw [deqs, deqs_all xs ys, List.length_cons, List.length_cons, Nat.succ_min_succ, List.range_succ_eq_map, List.all_cons, List.all_map]
    have e1 : (fun j => deq ((x :: xs).getD j .non) ((y :: ys).getD j .non)) ∘ Nat.succ = fun j => deq (xs.getD j .non) (ys.getD j .non) := by funext j; simp
    have e2 : (xs.length + 1 == ys.length + 1) = (xs.length == ys.length) := by rw [Bool.eq_iff_iff]; simp
    rw [e1, e2, Bool.and_assoc]
    rfl
mutual
theorem deq_self : ∀ d : DV, deq d d = true
  | .non => by rw [deq]
  | .bl b => by rw [deq]; simp
  | .int i => by rw [deq]; simp
  | .str x => by rw [deq]; simp
  | .lst xs => by rw [deq]; exact deqs_self xs
  | .tup xs => by rw [deq]; exact deqs_self xs
theorem deqs_self : ∀ ds : List DV, deqs ds ds = true
  | [] => by rw [deqs]
  | d :: ds => by rw [deqs, deq_self d, deqs_self ds]; rfl
end
section
variable {X : Cx} {pins : List (Addr × Obj)} {σ : St} {H : Hp} {s : Shared}
theorem PlainL.isList {h : Heap} {a : Addr} {its : Array Value} (p : PlainL h a its) : h.IsList a its := let ⟨o, n, e, c, _, d⟩ := p; ⟨o, e, c, n, d⟩
theorem IsTup.isTuple {h : Heap} {a : Addr} {its : Array Value} (p : IsTup h a its) : h.IsTuple a its := p
mutual
theorem DIs.inj (I : Inv X pins σ H s) : ∀ {d d' : DV} {v : V}, DIs X.K H d v → DIs X.K H d' v → d = d'
  | .non, d', v, h, h' => by
    rw [DIs] at h; subst h
    cases d' <;> rw [DIs] at h' <;> first | rfl | (cases h'; done) | (obtain ⟨_, _, z, _⟩ := h'; cases z)
  | .bl b, d', v, h, h' => by
    rw [DIs] at h; subst h
    cases d' <;> rw [DIs] at h' <;> first | (cases h'; rfl) | (cases h'; done) | (obtain ⟨_, _, z, _⟩ := h'; cases z)
  | .int b, d', v, h, h' => by
    rw [DIs] at h; subst h
    cases d' <;> rw [DIs] at h' <;> first | (cases h'; rfl) | (cases h'; done) | (obtain ⟨_, _, z, _⟩ := h'; cases z)
  | .str b, d', v, h, h' => by
    rw [DIs] at h; subst h
    cases d' <;> rw [DIs] at h' <;> first | (cases h'; rfl) | (cases h'; done) | (obtain ⟨_, _, z, _⟩ := h'; cases z)
  | .lst ds, d', v, h, h' => by
    rw [DIs] at h
    obtain ⟨a, xs, rfl, h1, h2⟩ := h
    cases d' with
    | lst es =>
      rw [DIs] at h'
      obtain ⟨b, ys, z, g1, g2⟩ := h'
      cases z
      rw [I.list_inj h1 g1] at h2
      rw [DIss.inj I h2 g2]
    | tup es =>
      rw [DIs] at h'
      obtain ⟨b, ys, z, g1, g2⟩ := h'
      cases z
      obtain ⟨_, _, p1, _⟩ := I.list h1
      obtain ⟨_, _, p2, _⟩ := I.tuple g1
      exact absurd rfl (SeqAt.ne_of_list_tuple (s := s) (PlainL.isList p1) (IsTup.isTuple p2))
    | _ => rw [DIs] at h'; cases h'
  | .tup ds, d', v, h, h' => by
    rw [DIs] at h
    obtain ⟨a, xs, rfl, h1, h2⟩ := h
    cases d' with
    | tup es =>
      rw [DIs] at h'
      obtain ⟨b, ys, z, g1, g2⟩ := h'
      cases z
      rw [I.tuple_inj h1 g1] at h2
      rw [DIss.inj I h2 g2]
    | lst es =>
      rw [DIs] at h'
      obtain ⟨b, ys, z, g1, g2⟩ := h'
      cases z
      obtain ⟨_, _, p1, _⟩ := I.list g1
      obtain ⟨_, _, p2, _⟩ := I.tuple h1
      exact absurd rfl (SeqAt.ne_of_list_tuple (s := s) (PlainL.isList p1) (IsTup.isTuple p2))
    | _ => rw [DIs] at h'; cases h'
theorem DIss.inj (I : Inv X pins σ H s) : ∀ {ds es : List DV} {xs : List V}, DIss X.K H ds xs → DIss X.K H es xs → ds = es
  | [], es, xs, h, h' => by
    rw [DIss] at h; subst h
    cases es with
    | nil => rfl
    | cons e es => rw [DIss] at h'; obtain ⟨_, _, z, _⟩ := h'; cases z
  | d :: ds, es, xs, h, h' => by
    rw [DIss] at h
    obtain ⟨y, ys, rfl, h1, h2⟩ := h
    cases es with
    | nil => rw [DIss] at h'; cases h'
    | cons e es =>
      rw [DIss] at h'
      obtain ⟨_, _, z, g1, g2⟩ := h'
      cases z
      rw [DIs.inj I h1 g1, DIss.inj I h2 g2]
end
theorem vals_at {xs : List V} {its : List Value} (r : Vals xs its) {j : Nat} {v : V} (e : xs[j]? = some v) (h : j < its.toArray.size) : RelV v its.toArray[j] := by
  obtain ⟨u, e2, q⟩ := r.get e
  have e3 : its[j]? = some its.toArray[j] := by simp
  rw [e3] at e2
  rw [Option.some.inj e2]
  exact q
theorem getD_at {ds : List DV} {j : Nat} (h : j < ds.length) : ds[j]? = some (ds.getD j .non) := by
  rw [List.getD_eq_getElem?_getD, List.getElem?_eq_getElem h]
  rfl
theorem items_eq {A : Around} {n : Nat} (ih : ∀ {d e : DV} {v y : V} {u z : Value} {B : Around}, d.dp ≤ n → B.units + n < cLine → RelV v u → RelV y z → DIs X.K H d v → DIs X.K H e y → SeqAt.EqAt B s u z (deq d e))
    {ds es : List DV} {xs ys : List V} {i1 i2 : List Value} (hn : DV.dps ds ≤ n) (hu : A.units + n + 1 < cLine) (r1 : Vals xs i1) (r2 : Vals ys i2) (h1 : DIss X.K H ds xs) (h2 : DIss X.K H es ys) (j : Nat) (k1 : j < i1.toArray.size) (k2 : j < i2.toArray.size) :
    SeqAt.EqAt A.in1 s i1.toArray[j] i2.toArray[j] (deq (ds.getD j .non) (es.getD j .non)) := by
  have l1 := h1.len
  have l2 := h2.len
  have m1 := r1.length
  have m2 := r2.length
  have j1 : j < ds.length := by simp at k1; (clear m2 l2 k2 hu hn; omega)
  have j2 : j < es.length := by simp at k2; (clear j1 m1 l1 k1 hu hn; omega)
  obtain ⟨v, ev⟩ : ∃ v, xs[j]? = some v := ⟨_, List.getElem?_eq_getElem (by (clear j2 m2 m1 l2 k2 k1 hu hn; omega))⟩
  obtain ⟨y, ey⟩ : ∃ v, ys[j]? = some v := ⟨_, List.getElem?_eq_getElem (by (clear ev j1 m2 m1 l1 k2 k1 hu hn; omega))⟩
  refine ih (Nat.le_trans (dps_mem (List.mem_of_getElem? (getD_at j1))) hn) ?_ (vals_at r1 ev k1) (vals_at r2 ey k2) (h1.get (getD_at j1) ev) (h2.get (getD_at j2) ey)
  show A.units + 1 + n < cLine
  (clear ey ev j2 j1 m2 m1 l2 l1 k2 k1 hn; omega)
theorem at_lst {ds : List DV} {v : V} {u : Value} (I : Inv X pins σ H s) (r : RelV v u) (h : DIs X.K H (.lst ds) v) : ∃ a xs its, u = .ref a ∧ Vals xs its ∧ s.heap.IsList a its.toArray ∧ DIss X.K H ds xs := by
  rw [DIs] at h
  obtain ⟨a, xs, rfl, h1, h2⟩ := h
  obtain ⟨its, q, p, _⟩ := I.list h1
  exact ⟨a, xs, its, r, q, PlainL.isList p, h2⟩
theorem at_tup {ds : List DV} {v : V} {u : Value} (I : Inv X pins σ H s) (r : RelV v u) (h : DIs X.K H (.tup ds) v) : ∃ a xs its, u = .ref a ∧ Vals xs its ∧ s.heap.IsTuple a its.toArray ∧ DIss X.K H ds xs := by
  rw [DIs] at h
  obtain ⟨a, xs, rfl, h1, h2⟩ := h
  obtain ⟨its, q, p, _⟩ := I.tuple h1
  exact ⟨a, xs, its, r, q, p, h2⟩
theorem at_non {v : V} {u : Value} (r : RelV v u) (h : DIs X.K H .non v) : u = .none := by
  rw [DIs] at h; subst h; exact r
theorem at_bl {b : Bool} {v : V} {u : Value} (r : RelV v u) (h : DIs X.K H (.bl b) v) : u = .bool b := by
  rw [DIs] at h; subst h; exact r
theorem at_int {b : Int} {v : V} {u : Value} (r : RelV v u) (h : DIs X.K H (.int b) v) : ∃ t, u = .int b t := by
  rw [DIs] at h; subst h; exact r
theorem at_str {b : Str} {v : V} {u : Value} (r : RelV v u) (h : DIs X.K H (.str b) v) : ∃ t, u = .str b t := by
  rw [DIs] at h; subst h; exact r
open SeqAt in
theorem eq_deep (I : Inv X pins σ H s) : ∀ (n : Nat) {d e : DV} {v y : V} {u z : Value} {B : Around}, d.dp ≤ n → B.units + n < cLine → RelV v u → RelV y z → DIs X.K H d v → DIs X.K H e y → EqAt B s u z (deq d e) := by
  intro n
  induction n with
  | zero =>
    intro d e v y u z B hd hu r1 r2 h1 h2
    have hu : B.units < cLine := by (clear hd; omega)
    cases d with
    | lst ds => rw [DV.dp] at hd; (clear hu; omega)
    | tup ds => rw [DV.dp] at hd; (clear hu; omega)
    | non =>
      cases at_non r1 h1
      cases e with
      | non => cases at_non r2 h2; rw [deq]; exact EqAt.same _
      | bl b => cases at_bl r2 h2; rw [deq]; exact EqAt.none_bool _; all_goals (intros; contradiction)
      | int b => obtain ⟨t, rfl⟩ := at_int r2 h2; rw [deq]; exact EqAt.none_int _ _; all_goals (intros; contradiction)
      | str b => obtain ⟨t, rfl⟩ := at_str r2 h2; rw [deq]; exact EqAt.none_str _ _; all_goals (intros; contradiction)
      | lst es => obtain ⟨a, xs, its, rfl, _, l, _⟩ := at_lst I r2 h2; rw [deq]; exact EqAt.none_list l hu; all_goals (intros; contradiction)
      | tup es => obtain ⟨a, xs, its, rfl, _, l, _⟩ := at_tup I r2 h2; rw [deq]; exact EqAt.none_tuple l hu; all_goals (intros; contradiction)
    | bl c =>
      cases at_bl r1 h1
      cases e with
      | non => cases at_non r2 h2; rw [deq]; exact EqAt.bool_none _; all_goals (intros; contradiction)
      | bl b => cases at_bl r2 h2; rw [deq]; exact EqAt.bool_bool _ _
      | int b => obtain ⟨t, rfl⟩ := at_int r2 h2; rw [deq]; exact EqAt.bool_int _ _ _
      | str b => obtain ⟨t, rfl⟩ := at_str r2 h2; rw [deq]; exact EqAt.bool_str _ _ _; all_goals (intros; contradiction)
      | lst es => obtain ⟨a, xs, its, rfl, _, l, _⟩ := at_lst I r2 h2; rw [deq]; exact EqAt.bool_list _ l hu; all_goals (intros; contradiction)
      | tup es => obtain ⟨a, xs, its, rfl, _, l, _⟩ := at_tup I r2 h2; rw [deq]; exact EqAt.bool_tuple _ l hu; all_goals (intros; contradiction)
    | int c =>
      obtain ⟨t, rfl⟩ := at_int r1 h1
      cases e with
      | non => cases at_non r2 h2; rw [deq]; exact EqAt.int_none _ _; all_goals (intros; contradiction)
      | bl b => cases at_bl r2 h2; rw [deq]; exact EqAt.int_bool _ _ _
      | int b => obtain ⟨t, rfl⟩ := at_int r2 h2; rw [deq]; exact EqAt.int_int _ _ _ _
      | str b => obtain ⟨t, rfl⟩ := at_str r2 h2; rw [deq]; exact EqAt.int_str _ _ _ _; all_goals (intros; contradiction)
      | lst es => obtain ⟨a, xs, its, rfl, _, l, _⟩ := at_lst I r2 h2; rw [deq]; exact EqAt.int_list _ _ l hu; all_goals (intros; contradiction)
      | tup es => obtain ⟨a, xs, its, rfl, _, l, _⟩ := at_tup I r2 h2; rw [deq]; exact EqAt.int_tuple _ _ l hu; all_goals (intros; contradiction)
    | str c =>
      obtain ⟨t, rfl⟩ := at_str r1 h1
      cases e with
      | non => cases at_non r2 h2; rw [deq]; exact EqAt.str_none _ _; all_goals (intros; contradiction)
      | bl b => cases at_bl r2 h2; rw [deq]; exact EqAt.str_bool _ _ _; all_goals (intros; contradiction)
      | int b => obtain ⟨t, rfl⟩ := at_int r2 h2; rw [deq]; exact EqAt.str_int _ _ _ _; all_goals (intros; contradiction)
      | str b => obtain ⟨t, rfl⟩ := at_str r2 h2; rw [deq]; exact EqAt.str_str _ _ _ _
      | lst es => obtain ⟨a, xs, its, rfl, _, l, _⟩ := at_lst I r2 h2; rw [deq]; exact EqAt.str_list _ _ l hu; all_goals (intros; contradiction)
      | tup es => obtain ⟨a, xs, its, rfl, _, l, _⟩ := at_tup I r2 h2; rw [deq]; exact EqAt.str_tuple _ _ l hu; all_goals (intros; contradiction)
  | succ n ih =>
    intro d e v y u z B hd hu r1 r2 h1 h2
    have hu0 : B.units < cLine := by (clear hd; omega)
    cases d with
    | lst ds =>
      have hd' : DV.dps ds ≤ n := by rw [DV.dp] at hd; (clear hu0 hu; omega)
      cases e with
      | non => cases at_non r2 h2; obtain ⟨a, xs, its, rfl, _, l, _⟩ := at_lst I r1 h1; rw [deq]; exact EqAt.list_none l hu0; all_goals (intros; contradiction)
      | bl b => cases at_bl r2 h2; obtain ⟨a, xs, its, rfl, _, l, _⟩ := at_lst I r1 h1; rw [deq]; exact EqAt.list_bool _ l hu0; all_goals (intros; contradiction)
      | int b => obtain ⟨t, rfl⟩ := at_int r2 h2; obtain ⟨a, xs, its, rfl, _, l, _⟩ := at_lst I r1 h1; rw [deq]; exact EqAt.list_int _ _ l hu0; all_goals (intros; contradiction)
      | str b => obtain ⟨t, rfl⟩ := at_str r2 h2; obtain ⟨a, xs, its, rfl, _, l, _⟩ := at_lst I r1 h1; rw [deq]; exact EqAt.list_str _ _ l hu0; all_goals (intros; contradiction)
      | tup es => obtain ⟨a, xs, its, rfl, _, l, _⟩ := at_lst I r1 h1; obtain ⟨b, ys, its', rfl, _, l', _⟩ := at_tup I r2 h2; rw [deq]; exact EqAt.list_tuple l l' hu0; all_goals (intros; contradiction)
      | lst es =>
        by_cases same : v = y
        · subst same
          cases h1.inj I h2
          rw [deq_self]
          have : u = z := by
            rw [DIs] at h1
            obtain ⟨a, xs, rfl, _⟩ := h1
            rw [show u = Value.ref a from r1, show z = Value.ref a from r2]
          rw [this]
          exact EqAt.same _
        · obtain ⟨a, xs, i1, rfl, q1, l1, g1⟩ := at_lst I r1 h1
          obtain ⟨b, ys, i2, rfl, q2, l2, g2⟩ := at_lst I r2 h2
          have hne : a ≠ b := by
            rintro rfl
            rw [DIs] at h1 h2
            obtain ⟨a', _, rfl, _⟩ := h1
            obtain ⟨b', _, rfl, _⟩ := h2
            cases (show Value.ref a = Value.ref a' from r1)
            cases (show Value.ref a = Value.ref b' from r2)
            exact same rfl
          have n1 := g1.len
          have n2 := g2.len
          have m1 := q1.length
          have m2 := q2.length
          refine EqAt.of_refs hne ?_
          rw [deq, deqs_all]
          by_cases hl : i1.length = i2.length
          · have e0 := RcAt.lists (A := B) l1 l2 (by simpa using hl) hu0 (items_eq (X := X) (H := H) (n := n) (fun {d e v y u z B} => ih) hd' (by (clear hl m2 m1 n2 n1 hne same hd' hd hu0; omega)) q1 q2 g1 g2)
            have e1 : min ds.length es.length = i1.toArray.size := by simp; (clear hne same hd' hd hu0 hu; omega)
            have e2 : (ds.length == es.length) = true := by simp; (clear e1 hne same hd' hd hu0 hu; omega)
            rw [e1, e2, Bool.and_true]
            exact e0
          · have e2 : (ds.length == es.length) = false := by simp; (clear hne same hd' hd hu0 hu; omega)
            rw [e2, Bool.and_false]
            exact RcAt.lists_lengths l1 l2 (by simpa using hl) hu0
    | tup ds =>
      have hd' : DV.dps ds ≤ n := by rw [DV.dp] at hd; (clear hu0 hu; omega)
      cases e with
      | non => cases at_non r2 h2; obtain ⟨a, xs, its, rfl, _, l, _⟩ := at_tup I r1 h1; rw [deq]; exact EqAt.tuple_none l hu0; all_goals (intros; contradiction)
      | bl b => cases at_bl r2 h2; obtain ⟨a, xs, its, rfl, _, l, _⟩ := at_tup I r1 h1; rw [deq]; exact EqAt.tuple_bool _ l hu0; all_goals (intros; contradiction)
      | int b => obtain ⟨t, rfl⟩ := at_int r2 h2; obtain ⟨a, xs, its, rfl, _, l, _⟩ := at_tup I r1 h1; rw [deq]; exact EqAt.tuple_int _ _ l hu0; all_goals (intros; contradiction)
      | str b => obtain ⟨t, rfl⟩ := at_str r2 h2; obtain ⟨a, xs, its, rfl, _, l, _⟩ := at_tup I r1 h1; rw [deq]; exact EqAt.tuple_str _ _ l hu0; all_goals (intros; contradiction)
      | lst es => obtain ⟨a, xs, its, rfl, _, l, _⟩ := at_tup I r1 h1; obtain ⟨b, ys, its', rfl, _, l', _⟩ := at_lst I r2 h2; rw [deq]; exact EqAt.tuple_list l l' hu0; all_goals (intros; contradiction)
      | tup es =>
        by_cases same : v = y
        · subst same
          cases h1.inj I h2
          rw [deq_self]
          have : u = z := by
            rw [DIs] at h1
            obtain ⟨a, xs, rfl, _⟩ := h1
            rw [show u = Value.ref a from r1, show z = Value.ref a from r2]
          rw [this]
          exact EqAt.same _
        · obtain ⟨a, xs, i1, rfl, q1, l1, g1⟩ := at_tup I r1 h1
          obtain ⟨b, ys, i2, rfl, q2, l2, g2⟩ := at_tup I r2 h2
          have hne : a ≠ b := by
            rintro rfl
            rw [DIs] at h1 h2
            obtain ⟨a', _, rfl, _⟩ := h1
            obtain ⟨b', _, rfl, _⟩ := h2
            cases (show Value.ref a = Value.ref a' from r1)
            cases (show Value.ref a = Value.ref b' from r2)
            exact same rfl
          have n1 := g1.len
          have n2 := g2.len
          have m1 := q1.length
          have m2 := q2.length
          refine EqAt.of_refs hne ?_
          rw [deq, deqs_all]
          have e0 := RcAt.tuples (A := B) l1 l2 hu0 (items_eq (X := X) (H := H) (n := n) (fun {d e v y u z B} => ih) hd' (by (clear m2 m1 n2 n1 hne same hd' hd hu0; omega)) q1 q2 g1 g2)
          rw [List.size_toArray, List.size_toArray, ← m1, ← m2, ← n1, ← n2] at e0
          exact e0
    | _ =>
      exact (ih (by first | exact Nat.zero_le _ | (rw [DV.dp]; exact Nat.zero_le _)) (by (clear hd hu0; omega)) r1 r2 h1 h2)
def DV.sq : DV → Prop
  | .lst _ => True
  | .tup _ => True
  | _ => False
def rEqD (K : PySem.W.Frag) : R2 := fun x y H Q => ∃ d e, DIs K H d x ∧ DIs K H e y ∧ d.sq ∧ e.sq ∧ d.dp ≤ 16 ∧ Q (.bl (deq d e)) H
def rNeD (K : PySem.W.Frag) : R2 := fun x y H Q => ∃ d e, DIs K H d x ∧ DIs K H e y ∧ d.sq ∧ e.sq ∧ d.dp ≤ 16 ∧ Q (.bl (!deq d e)) H
open SeqAt in
theorem op_eqD (K : PySem.W.Frag) (hK : X.K = K) (hu : X.A.units + 20 < cLine) : OpR X (compareOp .Eq) (rEqD K) := by
  subst hK
  intro pins s σ H x y v u Q I rx ry h
  obtain ⟨d, e, h1, h2, s1, s2, hd, q⟩ := h
  have hu0 : X.A.units < cLine := by (clear hd; omega)
  cases d with
  | lst ds =>
    have hd' : DV.dps ds ≤ 15 := by rw [DV.dp] at hd; (clear hu0 hu; omega)
    obtain ⟨a, xs, i1, rfl, q1, l1, g1⟩ := at_lst I rx h1
    have n1 := g1.len
    have m1 := q1.length
    cases e with
    | lst es =>
      obtain ⟨b, ys, i2, rfl, q2, l2, g2⟩ := at_lst I ry h2
      have n2 := g2.len
      have m2 := q2.length
      rw [deq, deqs_all] at q
      by_cases hl : i1.length = i2.length
      · have e1 : min ds.length es.length = i1.toArray.size := by simp; (clear hd' hd hu0 hu; omega)
        have e2 : (ds.length == es.length) = true := by simp; (clear e1 hd' hd hu0 hu; omega)
        rw [e1, e2, Bool.and_true] at q
        exact RcAt.lists (A := X.A) l1 l2 (by simpa using hl) hu0 (items_eq (X := X) (H := H) (n := 15) (fun {d e v y u z B} => eq_deep I 15) hd' (by (clear e2 e1 hl m2 n2 m1 n1 hd' hd hu0; omega)) q1 q2 g1 g2) _ _ _ _ ⟨.bl _, H, I, rfl, q⟩
      · have e2 : (ds.length == es.length) = false := by simp; (clear hd' hd hu0 hu; omega)
        rw [e2, Bool.and_false] at q
        exact RcAt.lists_lengths l1 l2 (by simpa using hl) hu0 _ _ _ _ ⟨.bl _, H, I, rfl, q⟩
    | tup es =>
      obtain ⟨b, ys, i2, rfl, q2, l2, g2⟩ := at_tup I ry h2
      rw [deq] at q
      · exact RcAt.list_tuple l1 l2 hu0 _ _ _ _ ⟨.bl _, H, I, rfl, q⟩
      all_goals (intros; contradiction)
    | _ => exact s2.elim
  | tup ds =>
    have hd' : DV.dps ds ≤ 15 := by rw [DV.dp] at hd; (clear hu0 hu; omega)
    obtain ⟨a, xs, i1, rfl, q1, l1, g1⟩ := at_tup I rx h1
    have n1 := g1.len
    have m1 := q1.length
    cases e with
    | tup es =>
      obtain ⟨b, ys, i2, rfl, q2, l2, g2⟩ := at_tup I ry h2
      have n2 := g2.len
      have m2 := q2.length
      rw [deq, deqs_all] at q
      have e0 := RcAt.tuples (A := X.A) l1 l2 hu0 (items_eq (X := X) (H := H) (n := 15) (fun {d e v y u z B} => eq_deep I 15) hd' (by (clear m2 n2 m1 n1 hd' hd hu0; omega)) q1 q2 g1 g2)
      rw [List.size_toArray, List.size_toArray, ← m1, ← m2, ← n1, ← n2] at e0
      exact e0 _ _ _ _ ⟨.bl _, H, I, rfl, q⟩
    | lst es =>
      obtain ⟨b, ys, i2, rfl, q2, l2, g2⟩ := at_lst I ry h2
      rw [deq] at q
      · exact RcAt.tuple_list l1 l2 hu0 _ _ _ _ ⟨.bl _, H, I, rfl, q⟩
      all_goals (intros; contradiction)
    | _ => exact s2.elim
  | _ => exact s1.elim
open SeqAt in
theorem op_neD (K : PySem.W.Frag) (hK : X.K = K) (hu : X.A.units + 20 < cLine) : OpR X (compareOp .NotEq) (rNeD K) := by
  subst hK
  intro pins s σ H x y v u Q I rx ry h
  obtain ⟨d, e, h1, h2, s1, s2, hd, q⟩ := h
  have hu0 : X.A.units < cLine := by (clear hd; omega)
  cases d with
  | lst ds =>
    have hd' : DV.dps ds ≤ 15 := by rw [DV.dp] at hd; (clear hu0 hu; omega)
    obtain ⟨a, xs, i1, rfl, q1, l1, g1⟩ := at_lst I rx h1
    have n1 := g1.len
    have m1 := q1.length
    cases e with
    | lst es =>
      obtain ⟨b, ys, i2, rfl, q2, l2, g2⟩ := at_lst I ry h2
      have n2 := g2.len
      have m2 := q2.length
      rw [deq, deqs_all] at q
      by_cases hl : i1.length = i2.length
      · have e1 : min ds.length es.length = i1.toArray.size := by simp; (clear hd' hd hu0 hu; omega)
        have e2 : (ds.length == es.length) = true := by simp; (clear e1 hd' hd hu0 hu; omega)
        rw [e1, e2, Bool.and_true] at q
        exact RcNeAt.lists (A := X.A) l1 l2 (by simpa using hl) hu0 (items_eq (X := X) (H := H) (n := 15) (fun {d e v y u z B} => eq_deep I 15) hd' (by (clear e2 e1 hl m2 n2 m1 n1 hd' hd hu0; omega)) q1 q2 g1 g2) _ _ _ _ ⟨.bl _, H, I, rfl, q⟩
      · have e2 : (ds.length == es.length) = false := by simp; (clear hd' hd hu0 hu; omega)
        rw [e2, Bool.and_false] at q
        exact RcNeAt.lists_lengths l1 l2 (by simpa using hl) hu0 _ _ _ _ ⟨.bl _, H, I, rfl, q⟩
    | tup es =>
      obtain ⟨b, ys, i2, rfl, q2, l2, g2⟩ := at_tup I ry h2
      rw [deq] at q
      · exact RcNeAt.list_tuple l1 l2 hu0 _ _ _ _ ⟨.bl _, H, I, rfl, q⟩
      all_goals (intros; contradiction)
    | _ => exact s2.elim
  | tup ds =>
    have hd' : DV.dps ds ≤ 15 := by rw [DV.dp] at hd; (clear hu0 hu; omega)
    obtain ⟨a, xs, i1, rfl, q1, l1, g1⟩ := at_tup I rx h1
    have n1 := g1.len
    have m1 := q1.length
    cases e with
    | tup es =>
      obtain ⟨b, ys, i2, rfl, q2, l2, g2⟩ := at_tup I ry h2
      have n2 := g2.len
      have m2 := q2.length
      rw [deq, deqs_all] at q
      have e0 := RcNeAt.tuples (A := X.A) l1 l2 hu0 (items_eq (X := X) (H := H) (n := 15) (fun {d e v y u z B} => eq_deep I 15) hd' (by (clear m2 n2 m1 n1 hd' hd hu0; omega)) q1 q2 g1 g2)
      rw [List.size_toArray, List.size_toArray, ← m1, ← m2, ← n1, ← n2] at e0
      exact e0 _ _ _ _ ⟨.bl _, H, I, rfl, q⟩
    | lst es =>
      obtain ⟨b, ys, i2, rfl, q2, l2, g2⟩ := at_lst I ry h2
      rw [deq] at q
      · exact RcNeAt.tuple_list l1 l2 hu0 _ _ _ _ ⟨.bl _, H, I, rfl, q⟩
      all_goals (intros; contradiction)
    | _ => exact s2.elim
  | _ => exact s1.elim
end
end L2
namespace L2
open PySem PySem.Spec PyProof.Rows
section
variable {K : PySem.W.Frag} {H : Hp} {x y : Addr} {ns ms : List Int} {Q : VK}
def dI (ns : List Int) : DV := .lst (ns.map DV.int)
theorem dI_is (h : SqL K H x (ns.map V.int)) : DIs K H (dI ns) (.ref x) := by
  unfold dI
  rw [DIs]
  exact ⟨x, _, rfl, h, DIs.ints⟩
theorem dps_ints : ∀ ns : List Int, DV.dps (ns.map DV.int) = 0
  | [] => by rw [List.map_nil, DV.dps]
  | n :: ns => by rw [List.map_cons, DV.dps, dps_ints ns, DV.dp] <;> simp
theorem dI_dp : (dI ns).dp ≤ 16 := by
  unfold dI
  rw [DV.dp, dps_ints]
  decide
theorem deqs_ints : ∀ ns ms : List Int, deqs (ns.map DV.int) (ms.map DV.int) = decide (ns = ms)
  | [], [] => by rw [List.map_nil, deqs]; rfl
  | [], m :: ms => by rw [List.map_nil, List.map_cons, deqs] <;> simp
  | n :: ns, [] => by rw [List.map_nil, List.map_cons, deqs] <;> simp
  | n :: ns, m :: ms => by
    rw [List.map_cons, List.map_cons, deqs, deq, deqs_ints ns ms]
    by_cases e : n = m
    · subst e; simp
    · simp [e]
theorem dI_eq : deq (dI ns) (dI ms) = decide (ns = ms) := by
  unfold dI
  rw [deq, deqs_ints]
theorem neD_ints (h1 : SqL K H x (ns.map V.int)) (h2 : SqL K H y (ms.map V.int)) (q : Q (.bl (!decide (ns = ms))) H) : rNeD K (.ref x) (.ref y) H Q :=
  ⟨dI ns, dI ms, dI_is h1, dI_is h2, True.intro, True.intro, dI_dp, by rw [dI_eq]; exact q⟩
theorem eqD_ints (h1 : SqL K H x (ns.map V.int)) (h2 : SqL K H y (ms.map V.int)) (q : Q (.bl (decide (ns = ms))) H) : rEqD K (.ref x) (.ref y) H Q :=
  ⟨dI ns, dI ms, dI_is h1, dI_is h2, True.intro, True.intro, dI_dp, by rw [dI_eq]; exact q⟩
end
end L2

namespace L2
open PySem PySem.Spec PyProof.Rows
theorem iteNE {x y : V} {A B : Prop} (e : x = y) (h : B) : if (!decide (x = y)) = true then A else B := by
  rw [decide_eq_true e]
  exact iteF h
theorem iteNT {x y : V} {A B : Prop} (e : ¬ x = y) (h : A) : if (!decide (x = y)) = true then A else B := by
  rw [decide_eq_false e]
  exact iteT h
theorem iteE {x y : V} {A B : Prop} (e : x = y) (h : A) : if decide (x = y) = true then A else B := by
  rw [decide_eq_true e]
  exact iteT h
theorem same_new {H : Hp} {p : Addr} {o : HO} (h : H p = none) : Same H (upd H p o) := fun b u e => by
  rw [upd_ne (ne_of_none e h)]
  exact e
def AllI (P : Int → Prop) : List V → Prop
  | [] => True
  | .int m :: r => P m ∧ AllI P r
  | _ :: _ => False
theorem AllI.ints {P : Int → Prop} : ∀ {L : List V}, AllI P L → ∃ ns : List Int, L = ns.map V.int ∧ ∀ m ∈ ns, P m
  | [], _ => ⟨[], rfl, fun _ z => nomatch z⟩
  | .int m :: r, h => by
    obtain ⟨ns, e, q⟩ := AllI.ints h.2
    refine ⟨m :: ns, by rw [e]; rfl, fun x hx => ?_⟩
    rcases List.mem_cons.mp hx with rfl | hx
    · exact h.1
    · exact q x hx
theorem pickI {P : Int → Prop} {L : List V} {c n : Int} (h : AllI P L) (hn : (L.length : Int) = n) (hp : 0 < n) : ∃ m, atI L (c % n) = some (.int m) ∧ P m := by
  obtain ⟨ns, e, q⟩ := h.ints
  subst e
  have a := Int.emod_nonneg c (Int.ne_of_gt hp)
  have b := Int.emod_lt_of_pos c hp
  rw [List.length_map] at hn
  have hlt : (c % n).toNat < ns.length := by (clear a; omega)
  refine ⟨_, cell_atI a (by (clear hlt a hp; omega)), q _ ?_⟩
  rw [List.getD_eq_getElem?_getD, List.getElem?_eq_getElem hlt]
  exact List.getElem_mem hlt
theorem pickV {L : List V} {c n : Int} (hn : (L.length : Int) = n) (hp : 0 < n) : ∃ v, atI L (c % n) = some v ∧ v ∈ L := by
  have a := Int.emod_nonneg c (Int.ne_of_gt hp)
  have b := Int.emod_lt_of_pos c hp
  have hlt : (c % n).toNat < L.length := by (clear a; omega)
  refine ⟨L[(c % n).toNat], ?_, List.getElem_mem hlt⟩
  unfold atI ixN
  rw [if_pos a, if_pos (by (clear hlt a hp; omega))]
  exact List.getElem?_eq_getElem hlt
theorem same_upd {H H' : Hp} {l : Addr} {o : HO} (s : Same H H') (n : H l = none) : Same H (upd H' l o) := fun b u e => by
  rw [upd_ne (ne_of_none e n)]
  exact s b u e
/-- // by a greater divisor -/
def CDivB (_ j : Int) : Prop := 0 < j ∧ j.natAbs.log2 < 9000
theorem op_fdivB {X : Cx} : OpR X (binaryOp .FloorDiv) (rI CDivB fun i j => .int (i / j)) := opI fun i j _ _ _ _ _ hc q => by
  have h1 : (0 : Int) < j := hc.1
  exact floordiv_int (by omega) (by rw [Int.fdiv_eq_ediv_of_nonneg i (by omega)]; exact q) (.inl (PyProof.noPylong_of_log2 hc.2))
structure RoomH (k : Nat) (A : Around) : Prop where
  dp : A.depth + 3 * k + 5 < recursionLimit
  un : A.units + 16 * k + 200 < cLine
theorem Room.u20 {k : Nat} {A : Around} (r : Room k A) : A.units + 20 < cLine := by have := r.un; omega
structure FnOkH (P : Program) (w : World) (K : PySem.W.Frag) (mg : Str → Option Value) (base : Heap) (k : Nat) (f : Addr) (fd : FuncData) (ps : List Str) (sp : Sp) : Prop where
  len : ∀ vs H Q E, sp vs H Q E → vs.length = ps.length
  run : ∀ (A : Around) (outer : List Env) (s : Shared) (H : Hp) (args : Args) (us : List Value) (vs : List V) (Q : VK) (E : XK), RoomH k A → Env0 P w K mg base A outer s H → BindsTo s fd args (ps.zip us) → Vals vs us → sp vs H Q E →
    codeAny (model P w) A (.call (.ref f) args) (CR CX0 outer P w H s Q E) s
section
variable {P : Program} {w : World} {K : PySem.W.Frag} {mg : Str → Option Value} {base : Heap} {k : Nat} {f : Addr} {fd : FuncData} {ps : List Str} {sp : Sp}
end
section
variable {X : Cx} {k : Nat} {f C : Addr} {fd : FuncData} {ps : List Str} {sp : Sp} {dvs : List V} {ds : List Value} {E : XK} {x m : Str} {p pos apos : Pos} {e o : Expr} {es : List Expr} {ta : TE} {t : TA}
end
end L2

namespace Srt
open PySem PyProof.Rows
abbrev dk : Keyed := (Value.none, Value.none)
def g (xs : Array Keyed) (i : Nat) : Keyed := xs[i]?.getD dk
theorem g_some {xs : Array Keyed} {i : Nat} (h : i < xs.size) : xs[i]? = some (g xs i) := by
  unfold g; rw [getElem?_pos xs i h]; rfl
theorem g_congr {xs ys : Array Keyed} {i j : Nat} (h : xs[i]? = ys[j]?) : g xs i = g ys j := by unfold g; rw [h]
theorem g_mem {xs : Array Keyed} {i : Nat} (h : i < xs.size) : g xs i ∈ xs := by
  have e := g_some h
  exact Array.mem_of_getElem? e
structure Cmp (blt : Keyed → Keyed → Bool) : Prop where
  asym : ∀ x y, blt x y = true → blt y x = false
  tr : ∀ x y z, blt y x = false → blt z y = false → blt z x = false
section
variable {blt : Keyed → Keyed → Bool} (C : Cmp blt)
abbrev le (blt : Keyed → Keyed → Bool) (x y : Keyed) : Prop := blt y x = false
include C
theorem Cmp.trans {x y z : Keyed} (h1 : le blt x y) (h2 : le blt y z) : le blt x z := C.tr x y z h1 h2
theorem Cmp.of_lt {x y : Keyed} (h : blt x y = true) : le blt x y := C.asym _ _ h
end
def On (blt : Keyed → Keyed → Bool) (xs : Array Keyed) (lo hi : Nat) : Prop := ∀ i j, lo ≤ i → i < j → j < hi → le blt (g xs i) (g xs j)
def Off (blt : Keyed → Keyed → Bool) (xs : Array Keyed) (lo hi : Nat) : Prop := ∀ i j, lo ≤ i → i < j → j < hi → le blt (g xs j) (g xs i)
theorem On.one {blt : Keyed → Keyed → Bool} {xs : Array Keyed} {lo : Nat} : On blt xs lo (lo + 1) := fun i j h1 h2 h3 => by omega
theorem Off.one {blt : Keyed → Keyed → Bool} {xs : Array Keyed} {lo : Nat} : Off blt xs lo (lo + 1) := fun i j h1 h2 h3 => by omega
theorem On.congr {blt : Keyed → Keyed → Bool} {xs ys : Array Keyed} {lo hi : Nat} (h : On blt xs lo hi) (e : ∀ k, lo ≤ k → k < hi → g ys k = g xs k) : On blt ys lo hi := fun i j h1 h2 h3 => by
  rw [e i h1 (by (clear h1; omega)), e j (by (clear h3; omega)) h3]; exact h i j h1 h2 h3
theorem On.sub {blt : Keyed → Keyed → Bool} {xs : Array Keyed} {lo hi lo' hi' : Nat} (h : On blt xs lo hi) (h1 : lo ≤ lo') (h2 : hi' ≤ hi) : On blt xs lo' hi' := fun i j a b c => h i j (by (clear c b h2; omega)) b (by (clear b a h1; omega))
section
variable {blt : Keyed → Keyed → Bool} (C : Cmp blt)
include C
theorem On.snoc {xs : Array Keyed} {lo n : Nat} (h : On blt xs lo (lo + n)) (hn : 1 ≤ n) (e : le blt (g xs (lo + n - 1)) (g xs (lo + n))) : On blt xs lo (lo + (n + 1)) := fun i j h1 h2 h3 => by
  by_cases z : j < lo + n
  · exact h i j h1 h2 z
  · have ej : j = lo + n := by (clear h2 h1 e hn; omega)
    subst ej
    by_cases y : i = lo + n - 1
    · subst y; exact e
    · exact C.trans (h i (lo + n - 1) h1 (by omega) (by (clear y z h3 h2 h1 e; omega))) e
theorem Off.snoc {xs : Array Keyed} {lo n : Nat} (h : Off blt xs lo (lo + n)) (hn : 1 ≤ n) (e : le blt (g xs (lo + n)) (g xs (lo + n - 1))) : Off blt xs lo (lo + (n + 1)) := fun i j h1 h2 h3 => by
  by_cases z : j < lo + n
  · exact h i j h1 h2 z
  · have ej : j = lo + n := by (clear h2 h1 e hn; omega)
    subst ej
    by_cases y : i = lo + n - 1
    · subst y; exact e
    · exact C.trans e (h i (lo + n - 1) h1 (by omega) (by (clear y z h3 h2 h1 e; omega)))
end
theorem g_mirror {xs : Array Keyed} {i j : Nat} (hj : j ≤ xs.size) (k : Nat) : g (mirror xs i j ((j - i) / 2)) k = if i ≤ k ∧ k < j then g xs (i + j - 1 - k) else g xs k := by
  have e := getElem?_mirror_all (i := i) hj k
  by_cases h1 : i ≤ k ∧ k < j
  · rw [if_pos h1] at e ⊢; exact g_congr e
  · rw [if_neg h1] at e ⊢; exact g_congr e
theorem g_bubble {xs : Array Keyed} {src d : Nat} (hs : src < xs.size) (hd : d ≤ src) (k : Nat) : g (bubble xs src d) k = if k = src - d then g xs src else if src - d < k ∧ k ≤ src then g xs (k - 1) else g xs k := by
  have e := getElem?_bubble hs d hd k
  by_cases h1 : k = src - d
  · rw [if_pos h1] at e ⊢; exact g_congr e
  · rw [if_neg h1] at e ⊢
    by_cases h2 : src - d < k ∧ k ≤ src
    · rw [if_pos h2] at e ⊢; exact g_congr e
    · rw [if_neg h2] at e ⊢; exact g_congr e

section
variable {prog : Program} {w : World} {A : Around} {E : Value → Shared → Prop} {s : Shared} {a₀ : Array Keyed} {κ : SortKind} {blt : Keyed → Keyed → Bool}
def Runs (prog : Program) (w : World) (A : Around) (E : Value → Shared → Prop) (s : Shared) (a₀ : Array Keyed) (κ : SortKind) (blt : Keyed → Keyed → Bool) : Prop :=
  ∀ (x y : Keyed) (st : SortSt) (Q : Option Bool → SortSt → Prop), x ∈ a₀ → y ∈ a₀ → kindOf st = κ → Q (some (blt x y)) st → wpS (model prog w) A E s (lt' x y) Q st
structure Base (a₀ : Array Keyed) (κ : SortKind) (st : SortSt) : Prop where
  kind : kindOf st = κ
  fine : failedOf st = none
  perm : (arrOf st).Perm a₀
theorem Base.size {st : SortSt} (B : Base a₀ κ st) : (arrOf st).size = a₀.size := B.perm.size_eq
theorem Base.mem {st : SortSt} (B : Base a₀ κ st) {i : Nat} (h : i < a₀.size) : g (arrOf st) i ∈ a₀ := (B.perm.mem_iff).mp (g_mem (by rw [B.size]; exact h))
variable (L : Runs prog w A E s a₀ κ blt)
include L
theorem wp_ltAt {st : SortSt} {i j : Nat} {Q : Option Bool → SortSt → Prop} (B : Base a₀ κ st) (hi : i < a₀.size) (hj : j < a₀.size) (h : Q (some (blt (g (arrOf st) i) (g (arrOf st) j))) st) :
    wpS (model prog w) A E s (ltAt' i j) Q st := by
  rw [ltAt'_eq]
  refine wpS_bind (wpS_get ?_)
  show wpS _ _ _ _ (do let x ← elem' (arrOf st) i; let y ← elem' (arrOf st) j; lt' x y) Q st
  rw [elem'_eq, elem'_eq, g_some (by rw [B.size]; exact hi), g_some (by rw [B.size]; exact hj)]
  refine wpS_bind (wpS_pure (wpS_bind (wpS_pure ?_)))
  exact L _ _ st Q (B.mem hi) (B.mem hj) B.kind h

omit L in
theorem wpS_eq {α : Type} {m m' : StateT SortSt Sem α} {Q : α → SortSt → Prop} {st : SortSt} (e : m = m') (h : wpS (model prog w) A E s m' Q st) : wpS (model prog w) A E s m Q st := by rw [e]; exact h
abbrev Keep (lo : Nat) (xs ys : Array Keyed) : Prop := ∀ k, k < lo → g ys k = g xs k
theorem wp_reverse {st : SortSt} {i j : Nat} {Q : Unit → SortSt → Prop} (B : Base a₀ κ st) (hj : j ≤ a₀.size)
    (h : ∀ st', Base a₀ κ st' → pendingOf st' = pendingOf st → (∀ k, g (arrOf st') k = if i ≤ k ∧ k < j then g (arrOf st) (i + j - 1 - k) else g (arrOf st) k) → Q () st') :
    wpS (model prog w) A E s (reverseSlice' i j) Q st := by
  rw [reverseSlice'_eq]
  refine wpS_modify (h _ ⟨B.kind, B.fine, (mirror_perm _ _ _ _).trans B.perm⟩ rfl fun k => ?_)
  exact g_mirror (by rw [B.size]; exact hj) k
theorem wp_asc {st : SortSt} {lo a nrem : Nat} {γ : Type} {f : Nat → Option γ × Nat → StateT SortSt Sem (ForInStep (Option γ × Nat))} {Q : Option γ × Nat → SortSt → Prop} (C : Cmp blt) (B : Base a₀ κ st) (ha : 1 ≤ a) (han : a ≤ nrem) (hz : lo + nrem ≤ a₀.size) (hs : On blt (arrOf st) lo (lo + a))
    (hf : ∀ (i n : Nat) (R : ForInStep (Option γ × Nat) → SortSt → Prop), n < nrem → 1 ≤ n → (blt (g (arrOf st) (lo + n)) (g (arrOf st) (lo + n - 1)) = true → R (.done (none, n)) st) → (blt (g (arrOf st) (lo + n)) (g (arrOf st) (lo + n - 1)) = false → R (.yield (none, n + 1)) st) → wpS (model prog w) A E s (f i (none, n)) R st)
    (h : ∀ n, a ≤ n → n ≤ nrem → On blt (arrOf st) lo (lo + n) → (n < nrem → blt (g (arrOf st) (lo + n)) (g (arrOf st) (lo + n - 1)) = true) → Q (none, n) st) :
    wpS (model prog w) A E s (forIn [a:nrem] (none, a) f) Q st := by
  refine wpS_forRange (I := fun i c st' => st' = st ∧ c = (none, i) ∧ a ≤ i ∧ i ≤ nrem ∧ On blt (arrOf st) lo (lo + i)) ?_ ?_ ⟨rfl, rfl, Nat.le_refl _, han, hs⟩
  · rintro i c st' h1 h2 ⟨rfl, rfl, h3, h4, h5⟩
    refine hf i i _ h2 (by (clear h4 h3 h2 hz han; omega)) (fun e => ?_) (fun e => ?_)
    · exact h i h3 h4 h5 fun _ => e
    · exact ⟨rfl, rfl, by omega, by omega, h5.snoc C (by (clear e h4 h3 h2 hz han; omega)) e⟩
  · rintro c st' ⟨rfl, rfl, h3, h4, h5⟩
    have e : max a nrem = nrem := Nat.max_eq_right han
    rw [e] at h5 ⊢
    exact h nrem han (Nat.le_refl _) h5 fun z => absurd z (Nat.lt_irrefl _)

omit L in
theorem off_block {xs ys : Array Keyed} {lo b e : Nat} (hb : lo ≤ b) (h : Off blt xs lo e) (o : On blt xs b e) (hy : ∀ k, g ys k = if b ≤ k ∧ k < e then g xs (b + e - 1 - k) else g xs k) : Off blt ys lo e := fun i j h1 h2 h3 => by
  rw [hy i, hy j]
  by_cases jb : b ≤ j
  · rw [if_pos ⟨jb, h3⟩]
    by_cases ib : b ≤ i
    · rw [if_pos ⟨ib, by (clear ib jb h1 hb; omega)⟩]
      exact o _ _ (by (clear ib jb h2 h1 hb; omega)) (by (clear ib jb h1 hb; omega)) (by (clear jb h2 h1 hb; omega))
    · rw [if_neg (by (clear jb h3 h2 h1 hb; omega))]
      exact h _ _ h1 (by (clear jb h2 h1 hb; omega)) (by (clear ib h2 h1 hb; omega))
  · rw [if_neg (by (clear h3 h2 h1 hb; omega)), if_neg (by (clear h3 h1 hb; omega))]
    exact h i j h1 h2 h3
omit L in
theorem on_all {xs ys : Array Keyed} {lo e : Nat} (h : Off blt xs lo e) (hy : ∀ k, g ys k = if lo ≤ k ∧ k < e then g xs (lo + e - 1 - k) else g xs k) : On blt ys lo e := fun i j h1 h2 h3 => by
  rw [hy i, hy j, if_pos ⟨h1, by (clear h1; omega)⟩, if_pos ⟨by (clear h3; omega), h3⟩]
  exact h _ _ (by (clear h2 h1; omega)) (by omega) (by (clear h2; omega))
omit L in
theorem off_all {xs ys : Array Keyed} {lo e : Nat} (h : On blt xs lo e) (hy : ∀ k, g ys k = if lo ≤ k ∧ k < e then g xs (lo + e - 1 - k) else g xs k) : Off blt ys lo e := fun i j h1 h2 h3 => by
  rw [hy i, hy j, if_pos (show lo ≤ j ∧ j < e by omega), if_pos (show lo ≤ i ∧ i < e by omega)]
  exact h _ _ (by (clear h2 h1; omega)) (by omega) (by (clear h2; omega))
def ascF (lo : Nat) : Nat → Option (Option Nat) × Nat → StateT SortSt Sem (ForInStep (Option (Option Nat) × Nat)) := fun _ __s => do
  let __x ← ltAt' (lo + __s.snd) (lo + __s.snd - 1)
  match __x with
  | some smaller => if smaller = true then pure (ForInStep.done (none, __s.snd)) else pure (ForInStep.yield (none, __s.snd + 1))
  | _ => pure (ForInStep.done (some none, __s.snd))
def tailA (lo n nrem : Nat) : StateT SortSt Sem (Option Nat) := do
  reverseSlice' lo (lo + n)
  let __s ← forIn [n:nrem] (none, n) (ascF lo)
  match __s.fst with
  | some r => pure r
  | none => pure (some __s.snd)
def descF (lo : Nat) : Nat → Option (Option Nat) × Nat × Nat → StateT SortSt Sem (ForInStep (Option (Option Nat) × Nat × Nat)) := fun _ __s => do
  let __x ← ltAt' (lo + __s.snd.fst) (lo + __s.snd.fst - 1)
  match __x with
  | some smaller =>
    if smaller = true then
      if __s.snd.snd > 0 then do
        reverseSlice' (lo + __s.snd.fst - (__s.snd.snd + 1)) (lo + __s.snd.fst)
        pure (ForInStep.yield (none, __s.snd.fst + 1, 0))
      else pure (ForInStep.yield (none, __s.snd.fst + 1, 0))
    else do
      let __x ← ltAt' (lo + __s.snd.fst - 1) (lo + __s.snd.fst)
      match __x with
      | some larger =>
        if larger = true then pure (ForInStep.done (none, __s.snd.fst, __s.snd.snd))
        else pure (ForInStep.yield (none, __s.snd.fst + 1, __s.snd.snd + 1))
      | _ => pure (ForInStep.done (some none, __s.snd.fst, __s.snd.snd))
  | _ => pure (ForInStep.done (some none, __s.snd.fst, __s.snd.snd))
def descP (lo n nrem : Nat) : StateT SortSt Sem (Option Nat) := do
  liftM (rule "list.sort.descending-run")
  let __s ← forIn [n + 1:nrem] (none, n + 1, 0) (descF lo)
  match __s.fst with
  | some r => pure r
  | none =>
    if __s.snd.snd > 0 then do
      reverseSlice' (lo + __s.snd.fst - (__s.snd.snd + 1)) (lo + __s.snd.fst)
      tailA lo __s.snd.fst nrem
    else tailA lo __s.snd.fst nrem
theorem wp_ascF {st : SortSt} {lo nrem i n : Nat} {R : ForInStep (Option (Option Nat) × Nat) → SortSt → Prop} (B : Base a₀ κ st) (hz : lo + nrem ≤ a₀.size) (hn : n < nrem) (h1 : 1 ≤ n)
    (ht : blt (g (arrOf st) (lo + n)) (g (arrOf st) (lo + n - 1)) = true → R (.done (none, n)) st) (hf : blt (g (arrOf st) (lo + n)) (g (arrOf st) (lo + n - 1)) = false → R (.yield (none, n + 1)) st) : wpS (model prog w) A E s (ascF lo i (none, n)) R st := by
  unfold ascF
  refine wpS_bind (wp_ltAt L B (by dsimp only; (clear h1; omega)) (by dsimp only; (clear h1; omega)) ?_)
  dsimp only
  cases e : blt (g (arrOf st) (lo + n)) (g (arrOf st) (lo + n - 1)) with
  | true => exact wpS_pure (ht e)
  | false => exact wpS_pure (hf e)
theorem wp_tailA {st : SortSt} {lo n nrem : Nat} {Q : Option Nat → SortSt → Prop} (C : Cmp blt) (B : Base a₀ κ st) (h1 : 1 ≤ n) (hn : n ≤ nrem) (hz : lo + nrem ≤ a₀.size) (ho : Off blt (arrOf st) lo (lo + n))
    (h : ∀ m st', Base a₀ κ st' → pendingOf st' = pendingOf st → 1 ≤ m → m ≤ nrem → On blt (arrOf st') lo (lo + m) → Keep lo (arrOf st) (arrOf st') → Q (some m) st') : wpS (model prog w) A E s (tailA lo n nrem) Q st := by
  unfold tailA
  refine wpS_bind (wp_reverse L B (by (clear h1; omega)) fun st' B' hp hy => ?_)
  refine wpS_bind (wp_asc L C B' h1 hn hz (on_all ho hy) (fun i n R hn h1 ht hf => wp_ascF L B' (i := i) hz hn h1 ht hf) (fun m ha hm hs _ => ?_))
  exact wpS_pure (h m st' B' hp (by (clear hm hp hz hn; omega)) hm hs fun k hk => by rw [hy k, if_neg (by (clear hm ha hp hz hn h1; omega))])
theorem wp_descP {st : SortSt} {lo n nrem : Nat} {Q : Option Nat → SortSt → Prop} (C : Cmp blt) (B : Base a₀ κ st) (h1 : 1 ≤ n) (hn : n + 1 ≤ nrem) (hz : lo + nrem ≤ a₀.size) (ho : Off blt (arrOf st) lo (lo + (n + 1)))
    (h : ∀ m st', Base a₀ κ st' → pendingOf st' = pendingOf st → 1 ≤ m → m ≤ nrem → On blt (arrOf st') lo (lo + m) → Keep lo (arrOf st) (arrOf st') → Q (some m) st') : wpS (model prog w) A E s (descP lo n nrem) Q st := by
  unfold descP
  refine wpS_bind (wpS_lift (wpAny_rule ⟨rfl, ?_⟩))
  refine wpS_bind (wpS_forRange (I := fun i c st' => ∃ q, c = (none, i, q) ∧ Base a₀ κ st' ∧ pendingOf st' = pendingOf st ∧ Keep lo (arrOf st) (arrOf st') ∧ n + 1 ≤ i ∧ i ≤ nrem ∧ q + 1 ≤ i ∧ Off blt (arrOf st') lo (lo + i) ∧ On blt (arrOf st') (lo + i - (q + 1)) (lo + i)) ?_ ?_
    ⟨0, rfl, B, rfl, fun _ _ => rfl, Nat.le_refl _, hn, by omega, ho, fun i j a b c => by (clear hz hn h1; omega)⟩)
  · rintro i c st' hi1 hi2 ⟨q, rfl, B', hp, hk, h2, h3, h4, off, on⟩
    unfold descF
    refine wpS_bind (wp_ltAt L B' (by dsimp only; (clear h4 h3 h2 hp hi1 hn h1; omega)) (by dsimp only; (clear h4 h3 h2 hp hi1 hn h1; omega)) ?_)
    dsimp only
    cases e : blt (g (arrOf st') (lo + i)) (g (arrOf st') (lo + i - 1)) with
    | true =>
      by_cases q0 : q > 0
      · rw [if_pos rfl, if_pos q0]
        refine wpS_bind (wp_reverse L B' (by (clear q0 e h4 h3 h2 hp hi1 hn h1; omega)) fun st2 B2 hp2 hy => ?_)
        refine wpS_pure ⟨0, rfl, B2, hp2.trans hp, fun k hk2 => by rw [hy k, if_neg (by (clear hp2 q0 e h3 h2 hp hi2 hi1 hz hn h1; omega))]; exact hk k hk2, by omega, by omega, by omega, ?_, fun i j a b c => by (clear hp2 q0 e h4 h3 h2 hp hi2 hi1 hz hn h1; omega)⟩
        refine (off_block (by (clear hp2 q0 e h3 h2 hp hi2 hi1 hz hn h1; omega)) off on hy).snoc C (by (clear hp2 q0 e h4 h3 h2 hp hi2 hz hn h1; omega)) ?_
        rw [hy, hy, if_neg (by omega), if_pos (by (clear hp2 q0 e h4 h3 h2 hp hi2 hz hn h1; omega))]
        have z : lo + i - (q + 1) + (lo + i) - 1 - (lo + i - 1) = lo + i - (q + 1) := by (clear hp2 q0 e h4 h3 h2 hp hi2 hi1 hz hn h1; omega)
        rw [z]
        exact C.trans (C.of_lt e) (off _ _ (by (clear z hp2 q0 e h3 h2 hp hi2 hi1 hz hn h1; omega)) (by (clear z hp2 e h4 h3 h2 hp hi2 hz hn; omega)) (by (clear z hp2 q0 e h4 h3 h2 hp hi2 hz hn h1; omega)))
      · rw [if_pos rfl, if_neg q0]
        exact wpS_pure ⟨0, rfl, B', hp, hk, by omega, by omega, by omega, off.snoc C (by (clear q0 e h4 h3 h2 hp hi2 hz hn h1; omega)) (C.of_lt e), fun i j a b c => by (clear q0 e h4 h3 h2 hp hi2 hi1 hz hn h1; omega)⟩
    | false =>
      simp only [Bool.false_eq_true, if_false]
      refine wpS_bind (wp_ltAt L B' (by (clear e h4 h3 h2 hp hi1 hn h1; omega)) (by (clear e h4 h3 h2 hp hi1 hn h1; omega)) ?_)
      dsimp only
      cases e2 : blt (g (arrOf st') (lo + i - 1)) (g (arrOf st') (lo + i)) with
      | true =>
        simp only [if_true]
        refine wpS_pure ?_
        dsimp only
        by_cases q0 : q > 0
        · rw [if_pos q0]
          refine wpS_bind (wp_reverse L B' (by (clear q0 e2 e h4 h3 h2 hp hi1 hn h1; omega)) fun st2 B2 hp2 hy => ?_)
          refine wp_tailA L C B2 (by (clear hp2 q0 e2 e h4 h3 h2 hp hi2 hz hn h1; omega)) h3 hz (off_block (by (clear hp2 q0 e2 e h3 h2 hp hi2 hi1 hz hn h1; omega)) off on hy) fun m st3 B3 hp3 a b c d => h m st3 B3 (hp3.trans (hp2.trans hp)) a b c fun k hk2 => ?_
          rw [d k hk2, hy k, if_neg (by (clear b a hp3 hp2 q0 e2 e h3 h2 hp hi2 hi1 hz hn h1; omega))]
          exact hk k hk2
        · rw [if_neg q0]
          exact wp_tailA L C B' (by (clear q0 e2 e h4 h3 h2 hp hi2 hz hn h1; omega)) h3 hz off fun m st3 B3 hp3 a b c d => h m st3 B3 (hp3.trans hp) a b c fun k hk2 => (d k hk2).trans (hk k hk2)
      | false =>
        simp only [Bool.false_eq_true, if_false]
        refine wpS_pure ⟨q + 1, rfl, B', hp, hk, by omega, by omega, by (clear e2 e h3 h2 hp hi2 hi1 hz hn h1; omega), off.snoc C (by (clear e2 e h4 h3 h2 hp hi2 hz hn h1; omega)) e2, ?_⟩
        have z : lo + (i + 1) - (q + 1 + 1) = lo + i - (q + 1) := by (clear e2 e h4 h3 h2 hp hi2 hi1 hz hn h1; omega)
        rw [z]
        intro x y hx hy hz'
        by_cases hyi : y < lo + i
        · exact on x y hx hy hyi
        · have ey : y = lo + i := by (clear hy hx z e2 e h4 h3 h2 hp hi2 hi1 hz hn h1; omega)
          subst ey
          by_cases hxi : x = lo + i - 1
          · subst hxi; exact e
          · exact C.trans (on x (lo + i - 1) hx (by (clear hyi hz' hx z e2 e h4 h3 h2 hp hi2 hi1 hz hn h1; omega)) (by (clear hxi hyi hz' hy hx z e2 e h4 h3 h2 hp hi2 hz hn h1; omega))) e
  · rintro c st' ⟨q, rfl, B', hp, hk, h2, h3, h4, off, on⟩
    have em : max (n + 1) nrem = nrem := Nat.max_eq_right hn
    rw [em] at h3 h4 off on ⊢
    dsimp only
    by_cases q0 : q > 0
    · rw [if_pos q0]
      refine wpS_bind (wp_reverse L B' (by (clear q0 em h4 h3 h2 hp hn h1; omega)) fun st2 B2 hp2 hy => ?_)
      refine wp_tailA L C B2 (by (clear hp2 q0 em h4 h3 h2 hp hz h1; omega)) h3 hz (off_block (by (clear hp2 q0 em h3 h2 hp hz hn h1; omega)) off on hy) fun m st3 B3 hp3 a b c d => h m st3 B3 (hp3.trans (hp2.trans hp)) a b c fun k hk2 => ?_
      rw [d k hk2, hy k, if_neg (by (clear b a hp3 hp2 q0 em h3 h2 hp hz hn h1; omega))]
      exact hk k hk2
    · rw [if_neg q0]
      exact wp_tailA L C B' (by (clear q0 em h4 h3 h2 hp hz h1; omega)) h3 hz off fun m st3 B3 hp3 a b c d => h m st3 B3 (hp3.trans hp) a b c fun k hk2 => (d k hk2).trans (hk k hk2)
theorem wp_count {st : SortSt} {lo nrem : Nat} {Q : Option Nat → SortSt → Prop} (C : Cmp blt) (B : Base a₀ κ st) (h1 : 1 ≤ nrem) (hz : lo + nrem ≤ a₀.size)
    (h : ∀ n st', Base a₀ κ st' → pendingOf st' = pendingOf st → 1 ≤ n → n ≤ nrem → On blt (arrOf st') lo (lo + n) → Keep lo (arrOf st) (arrOf st') → Q (some n) st') : wpS (model prog w) A E s (countRun' lo nrem) Q st := by
  rw [countRun'_eq]
  dsimp only
  refine wpS_bind (wp_asc L C B (Nat.le_refl 1) h1 hz On.one (fun i n R hn h1 ht hf => wp_ascF L B (i := i) hz hn h1 ht hf) (fun n ha hn hs hlt => ?_))
  dsimp only
  by_cases en : n = nrem
  · subst en
    simp only [beq_self_eq_true, if_true]
    exact wpS_pure (h n st B rfl ha hn hs fun _ _ => rfl)
  · have eb : (n == nrem) = false := beq_eq_false_iff_ne.mpr en
    simp only [eb, Bool.false_eq_true, if_false]
    have fall := hlt (by (clear eb ha hz h1; omega))
    by_cases n1 : n > 1
    · rw [if_pos n1]
      refine wpS_bind (wp_ltAt L B (by (clear n1 fall eb en hn ha; omega)) (by (clear n1 fall eb en ha; omega)) ?_)
      dsimp only
      cases e : blt (g (arrOf st) lo) (g (arrOf st) (lo + n - 1)) with
      | true =>
        simp only [if_true]
        exact wpS_pure (h n st B rfl ha hn hs fun _ _ => rfl)
      | false =>
        simp only [Bool.false_eq_true, if_false]
        refine wpS_bind (wp_reverse L B (by (clear e n1 fall eb en ha h1; omega)) fun st2 B2 hp2 hy => ?_)
        have off : Off blt (arrOf st2) lo (lo + (n + 1)) := by
          refine (off_all hs hy).snoc C ha ?_
          rw [hy, hy, if_neg (by (clear hp2 e n1 fall eb en hn ha hz h1; omega)), if_pos (by (clear hp2 e n1 fall eb en hn hz h1; omega))]
          have z : lo + (lo + n) - 1 - (lo + n - 1) = lo := by (clear hp2 e n1 fall eb en hn ha hz h1; omega)
          rw [z]
          exact C.trans (C.of_lt fall) e
        refine wpS_eq (m' := descP lo n nrem) (by
            unfold descP tailA ascF descF
            congr 1; funext _u; congr 1; funext s2; obtain ⟨r2, n2, q2⟩ := s2
            cases r2 with
            | some r2 => rfl
            | none =>
              dsimp only
              split
              · congr 1; funext _v; congr 1; funext _w; congr 1; funext s3; obtain ⟨r3, n3⟩ := s3; cases r3 <;> rfl
              · congr 1; funext _w; congr 1; funext s3; obtain ⟨r3, n3⟩ := s3; cases r3 <;> rfl) (wp_descP L C B2 ha (by (clear hp2 e n1 fall eb ha hz h1; omega)) hz off fun m st3 B3 hp3 a b c d => h m st3 B3 (hp3.trans hp2) a b c fun k hk => by rw [d k hk, hy k, if_neg (by (clear b a hp3 hp2 e n1 fall eb en hn ha hz h1; omega))])
    · rw [if_neg n1]
      have e1 : n = 1 := by (clear fall eb en hn hz h1; omega)
      subst e1
      refine wpS_eq (m' := descP lo 1 nrem) (by
            unfold descP tailA ascF descF
            congr 1; funext _u; congr 1; funext s2; obtain ⟨r2, n2, q2⟩ := s2
            cases r2 with
            | some r2 => rfl
            | none =>
              dsimp only
              split
              · congr 1; funext _v; congr 1; funext _w; congr 1; funext s3; obtain ⟨r3, n3⟩ := s3; cases r3 <;> rfl
              · congr 1; funext _w; congr 1; funext s3; obtain ⟨r3, n3⟩ := s3; cases r3 <;> rfl) (wp_descP L C B ha (by (clear n1 fall eb hn ha hz; omega)) hz (Off.one.snoc C (Nat.le_refl 1) (C.of_lt fall)) h)

omit L in
theorem wp_move {st : SortSt} {k l : Nat} {Q : Unit → SortSt → Prop} (B : Base a₀ κ st) (hk : k < a₀.size) (hl : l ≤ k)
    (h : ∀ st', Base a₀ κ st' → pendingOf st' = pendingOf st → (∀ j, g (arrOf st') j = if j = l then g (arrOf st) k else if l < j ∧ j ≤ k then g (arrOf st) (j - 1) else g (arrOf st) j) → Q () st') :
    wpS (model prog w) A E s (moveDown' k l) Q st := by
  rw [moveDown'_eq]
  refine wpS_modify (h _ ⟨B.kind, B.fine, (bubble_perm _ _ _).trans B.perm⟩ rfl fun j => ?_)
  have e := g_bubble (xs := arrOf st) (src := k) (d := k - l) (by rw [B.size]; exact hk) (by (clear hl hk; omega)) j
  have z : k - (k - l) = l := by (clear e hk; omega)
  rw [z] at e
  exact e
theorem wp_binary {st : SortSt} {lo n ok : Nat} {Q : Bool → SortSt → Prop} (C : Cmp blt) (B : Base a₀ κ st) (h1 : 1 ≤ ok) (hok : ok ≤ n) (hz : lo + n ≤ a₀.size) (hs : On blt (arrOf st) lo (lo + ok))
    (h : ∀ st', Base a₀ κ st' → pendingOf st' = pendingOf st → On blt (arrOf st') lo (lo + n) → Keep lo (arrOf st) (arrOf st') → Q true st') : wpS (model prog w) A E s (binarySort' lo n ok) Q st := by
  rw [binarySort'_eq]
  dsimp only
  have em : max ok 1 = ok := Nat.max_eq_left h1
  rw [em]
  refine wpS_bind (wpS_forRange (I := fun i c st' => c = (none, ()) ∧ Base a₀ κ st' ∧ pendingOf st' = pendingOf st ∧ Keep lo (arrOf st) (arrOf st') ∧ ok ≤ i ∧ i ≤ n ∧ On blt (arrOf st') lo (lo + i)) ?_ ?_
    ⟨rfl, B, rfl, fun _ _ => rfl, Nat.le_refl _, hok, hs⟩)
  · rintro k c st' hk1 hk2 ⟨rfl, B', hp, hk, h2, h3, on⟩
    refine wpS_bind (wpS_forRange (I := fun i c st2 => st2 = st' ∧ ∃ l r, c = (none, l, r) ∧ l ≤ r ∧ r ≤ k ∧ r - l ≤ k - i ∧ (∀ j, j < l → le blt (g (arrOf st') (lo + j)) (g (arrOf st') (lo + k))) ∧ (∀ j, r ≤ j → j < k → le blt (g (arrOf st') (lo + k)) (g (arrOf st') (lo + j)))) ?_ ?_
      ⟨rfl, 0, k, rfl, Nat.zero_le _, Nat.le_refl _, Nat.le_refl _, fun j hj => absurd hj (Nat.not_lt_zero _), fun j a b => by (clear h3 h2 hp hk2 hk1 em hz hok h1; omega)⟩)
    · rintro i c st2 hi1 hi2 ⟨rfl, l, r, rfl, hlr, hrk, hm, below, above⟩
      dsimp only
      by_cases hge : l ≥ r
      · rw [if_pos hge]
        refine wpS_pure ?_
        dsimp only
        have elr : l = r := by (clear hm hrk hp hi2 hi1 h3 h2 hk2 hk1 em hz hok h1; omega)
        refine wpS_bind (wp_move B' (by omega) (by (clear elr hge hm hp hi2 hi1 h3 h2 hk2 hk1 em hz hok h1; omega)) fun st3 B3 hp3 hy => wpS_pure ⟨rfl, B3, hp3.trans hp, fun q hq => ?_, by (clear hp3 elr hge hm hrk hlr hp hi2 hi1 h3 h2 hk2 em hz hok h1; omega), by omega, ?_⟩)
        · rw [hy q, if_neg (by (clear hp3 elr hge hm hrk hlr hp hi2 hi1 h3 h2 hk2 hk1 em hz hok h1; omega)), if_neg (by (clear hp3 elr hge hm hrk hlr hp hi2 hi1 h3 h2 hk2 hk1 em hz hok h1; omega))]; exact hk q hq
        · intro a b ha hab hb
          rw [hy a, hy b]
          by_cases b1 : b = lo + l
          · rw [if_pos b1, if_neg (by (clear hb ha hp3 elr hge hm hrk hlr hp hi2 hi1 h3 h2 hk2 hk1 em hz hok h1; omega)), if_neg (by (clear hb ha hp3 elr hge hm hrk hlr hp hi2 hi1 h3 h2 hk2 hk1 em hz hok h1; omega))]
            have := below (a - lo) (by (clear hb hp3 elr hge hm hrk hlr hp hi2 hi1 h3 h2 hk2 hk1 em hz hok h1; omega))
            rwa [show lo + (a - lo) = a by (clear this b1 hb hab hp3 elr hge hm hrk hlr hp hi2 hi1 h3 h2 hk2 hk1 em hz hok h1; omega)] at this
          · rw [if_neg b1]
            by_cases b2 : lo + l < b ∧ b ≤ lo + k
            · rw [if_pos b2]
              by_cases a1 : a = lo + l
              · rw [if_pos a1]
                have := above (b - 1 - lo) (by (clear a1 b1 hb hab ha hp3 elr hm hrk hlr hp hi2 hi1 h3 h2 hk2 hk1 em hz hok h1; omega)) (by (clear a1 b2 b1 hab ha hp3 elr hge hm hrk hlr hp hi2 hi1 h3 h2 hk2 em hz hok; omega))
                rwa [show lo + (b - 1 - lo) = b - 1 by (clear this a1 b2 b1 hb hp3 elr hge hm hrk hlr hp hi2 hi1 h3 h2 hk2 hk1 em hz hok h1; omega)] at this
              · rw [if_neg a1]
                by_cases a2 : lo + l < a ∧ a ≤ lo + k
                · rw [if_pos a2]; exact on _ _ (by (clear a1 b2 b1 hb hab ha hp3 elr hge hm hrk hlr hp hi2 hi1 h3 h2 hk2 hk1 em hz hok h1; omega)) (by (clear a2 b1 hb ha hp3 elr hge hm hrk hlr hp hi2 hi1 h3 h2 hk2 hk1 em hz hok h1; omega)) (by (clear a2 a1 b2 b1 hab ha hp3 elr hge hm hrk hlr hp hi2 hi1 h3 h2 hk2 em hz hok; omega))
                · rw [if_neg a2]; exact on _ _ (by omega) (by (clear b1 hb ha hp3 elr hge hm hrk hlr hp hi2 hi1 h3 h2 hk2 hk1 em hz hok h1; omega)) (by (clear a2 a1 b2 b1 hab ha hp3 elr hge hm hrk hlr hp hi2 hi1 h3 h2 hk2 em hz hok; omega))
            · rw [if_neg b2, if_neg (by (clear b1 ha hp3 elr hge hm hrk hlr hp hi2 hi1 h3 h2 hk2 hk1 em hz hok h1; omega)), if_neg (by (clear b1 ha hp3 elr hge hm hrk hlr hp hi2 hi1 h3 h2 hk2 hk1 em hz hok h1; omega))]
              exact on _ _ ha hab (by (clear hab ha hp3 elr hge hm hp hi2 hi1 h3 h2 hk2 hk1 em hz hok h1; omega))
      · rw [if_neg hge]
        refine wpS_bind (wp_ltAt L B' (by omega) (by (clear hge hm hp hi2 hi1 h3 h2 hk1 em hok h1; omega)) ?_)
        dsimp only
        cases e : blt (g (arrOf st2) (lo + k)) (g (arrOf st2) (lo + (l + r) / 2)) with
        | true =>
          rw [if_pos rfl]
          refine wpS_pure ⟨rfl, l, (l + r) / 2, rfl, by (clear e hge hm hrk hp hi2 hi1 h3 h2 hk2 hk1 em hz hok h1; omega), by (clear e hge hm hp hi2 hi1 h3 h2 hk2 hk1 em hz hok h1; omega), by omega, below, fun j a b => ?_⟩
          by_cases ej : j = (l + r) / 2
          · subst ej; exact C.of_lt e
          · exact C.trans (C.of_lt e) (on _ _ (by (clear ej b a e hge hm hrk hlr hp hi2 hi1 h3 h2 hk2 hk1 em hz hok h1; omega)) (by (clear b e hge hm hrk hlr hp hi2 hi1 h3 h2 hk2 hk1 em hz hok h1; omega)) (by (clear ej a e hge hm hrk hlr hp hi2 hi1 h3 h2 hk2 hk1 em hz hok h1; omega)))
        | false =>
          rw [if_neg (by decide)]
          refine wpS_pure ⟨rfl, (l + r) / 2 + 1, r, rfl, by (clear e hm hrk hlr hp hi2 hi1 h3 h2 hk2 hk1 em hz hok h1; omega), by omega, by omega, fun j a => ?_, above⟩
          by_cases ej : j = (l + r) / 2
          · subst ej; exact e
          · exact C.trans (on _ _ (by (clear ej a e hge hm hrk hlr hp hi2 hi1 h3 h2 hk2 hk1 em hz hok h1; omega)) (by (clear e hge hm hrk hlr hp hi2 hi1 h3 h2 hk2 hk1 em hz hok h1; omega)) (by (clear ej a e hm hlr hp hi2 hi1 h3 h2 hk2 hk1 em hz hok h1; omega))) e
    · rintro c st2 ⟨rfl, l, r, rfl, hlr, hrk, hm, below, above⟩
      have ek : max 0 k = k := Nat.max_eq_right (Nat.zero_le _)
      rw [ek] at hm
      have elr : l = r := by (clear ek hrk hp h3 h2 hk2 hk1 em hz hok h1; omega)
      dsimp only
      refine wpS_bind (wp_move B' (by (clear elr ek hm hrk hlr hp h3 h2 hk1 em hok h1; omega)) (by (clear elr ek hm hp h3 h2 hk2 hk1 em hz hok h1; omega)) fun st3 B3 hp3 hy => wpS_pure ⟨rfl, B3, hp3.trans hp, fun q hq => ?_, by (clear hp3 elr ek hm hrk hlr hp h3 h2 hk2 em hz hok h1; omega), by (clear hp3 elr ek hm hrk hlr hp h3 h2 hk1 em hz hok h1; omega), ?_⟩)
      · rw [hy q, if_neg (by (clear hp3 elr ek hm hrk hlr hp h3 h2 hk2 hk1 em hz hok h1; omega)), if_neg (by (clear hp3 elr ek hm hrk hlr hp h3 h2 hk2 hk1 em hz hok h1; omega))]; exact hk q hq
      · intro a b ha hab hb
        rw [hy a, hy b]
        by_cases b1 : b = lo + l
        · rw [if_pos b1, if_neg (by (clear hb ha hp3 elr ek hm hrk hlr hp h3 h2 hk2 hk1 em hz hok h1; omega)), if_neg (by (clear hb ha hp3 elr ek hm hrk hlr hp h3 h2 hk2 hk1 em hz hok h1; omega))]
          have := below (a - lo) (by (clear hb hp3 elr ek hm hrk hlr hp h3 h2 hk2 hk1 em hz hok h1; omega))
          rwa [show lo + (a - lo) = a by (clear this b1 hb hab hp3 elr ek hm hrk hlr hp h3 h2 hk2 hk1 em hz hok h1; omega)] at this
        · rw [if_neg b1]
          by_cases b2 : lo + l < b ∧ b ≤ lo + k
          · rw [if_pos b2]
            by_cases a1 : a = lo + l
            · rw [if_pos a1]
              have := above (b - 1 - lo) (by omega) (by (clear a1 b2 b1 hab ha hp3 elr ek hm hrk hlr hp h3 h2 hk2 em hz hok; omega))
              rwa [show lo + (b - 1 - lo) = b - 1 by (clear this a1 b2 b1 hb hp3 elr ek hm hrk hlr hp h3 h2 hk2 hk1 em hz hok h1; omega)] at this
            · rw [if_neg a1]
              by_cases a2 : lo + l < a ∧ a ≤ lo + k
              · rw [if_pos a2]; exact on _ _ (by (clear a1 b2 b1 hb hab ha hp3 elr ek hm hrk hlr hp h3 h2 hk2 hk1 em hz hok h1; omega)) (by (clear a2 b1 hb ha hp3 elr ek hm hrk hlr hp h3 h2 hk2 hk1 em hz hok h1; omega)) (by (clear a2 a1 b2 b1 hab ha hp3 elr ek hm hrk hlr hp h3 h2 hk2 em hz hok; omega))
              · rw [if_neg a2]; exact on _ _ (by omega) (by (clear b1 hb ha hp3 elr ek hm hrk hlr hp h3 h2 hk2 hk1 em hz hok h1; omega)) (by (clear a2 a1 b2 b1 hab ha hp3 elr ek hm hrk hlr hp h3 h2 hk2 em hz hok; omega))
          · rw [if_neg b2, if_neg (by (clear b1 ha hp3 elr ek hm hrk hlr hp h3 h2 hk2 hk1 em hz hok h1; omega)), if_neg (by (clear b1 ha hp3 elr ek hm hrk hlr hp h3 h2 hk2 hk1 em hz hok h1; omega))]
            exact on _ _ ha hab (by (clear hab ha hp3 elr ek hm hp h3 h2 hk2 hk1 em hz hok h1; omega))
  · rintro c st' ⟨rfl, B', hp, hk, h2, h3, on⟩
    have e : max ok n = n := Nat.max_eq_right hok
    rw [e] at on
    exact wpS_pure (h st' B' hp on hk)

def gallop' : Bool → Keyed → Array Keyed → Nat → Nat → Nat → StateT SortSt Sem (Option Nat) := sortPriv% PySem.Builtin.gallop
omit L in
theorem wp_search {γ : Type} {st : SortSt} {n lo hi : Nat} {f : Nat → Option γ × Nat × Nat → StateT SortSt Sem (ForInStep (Option γ × Nat × Nat))} {Q : Option γ × Nat × Nat → SortSt → Prop} (be : Nat → Bool) (mono : ∀ i j, i ≤ j → j < n → be j = true → be i = true)
    (hf : ∀ (i lo hi : Nat) (R : ForInStep (Option γ × Nat × Nat) → SortSt → Prop), hi ≤ n → (lo ≥ hi → R (.done (none, lo, hi)) st) → (lo < hi → be (lo + (hi - lo) / 2) = true → R (.yield (none, lo + (hi - lo) / 2 + 1, hi)) st) → (lo < hi → be (lo + (hi - lo) / 2) = false → R (.yield (none, lo, lo + (hi - lo) / 2)) st) → wpS (model prog w) A E s (f i (none, lo, hi)) R st)
    (h1 : lo ≤ hi) (h2 : hi ≤ n) (ht : ∀ i, i < lo → be i = true) (hF : ∀ i, hi ≤ i → i < n → be i = false)
    (h : ∀ k, k ≤ n → (∀ i, i < k → be i = true) → (∀ i, k ≤ i → i < n → be i = false) → Q (none, k, k) st) : wpS (model prog w) A E s (forIn [0:n] (none, lo, hi) f) Q st := by
  refine wpS_forRange (I := fun i c st' => st' = st ∧ ∃ lo hi, c = (none, lo, hi) ∧ lo ≤ hi ∧ hi ≤ n ∧ hi - lo ≤ n - i ∧ (∀ i, i < lo → be i = true) ∧ (∀ i, hi ≤ i → i < n → be i = false)) ?_ ?_
    ⟨rfl, lo, hi, rfl, h1, h2, by (clear h1; omega), ht, hF⟩
  · rintro i c st' hi1 hi2 ⟨rfl, lo, hi, rfl, g1, g2, g3, g4, g5⟩
    refine hf i lo hi _ g2 (fun z => ?_) (fun z e => ?_) (fun z e => ?_)
    · have e : lo = hi := by (clear g3 g2 hi2 hi1 h2 h1; omega)
      subst e
      exact h lo g2 g4 g5
    · exact ⟨rfl, _, _, rfl, by (clear e g3 g2 g1 hi2 hi1 h2 h1; omega), g2, by omega, fun j hj => mono j _ (by (clear e z g3 g2 g1 hi2 hi1 h2 h1; omega)) (by (clear hj e g3 g1 hi2 hi1 h2 h1; omega)) e, g5⟩
    · refine ⟨rfl, _, _, rfl, by (clear e z g3 g2 g1 hi2 hi1 h2 h1; omega), by (clear e z g3 hi2 hi1 h2 h1; omega), by omega, g4, fun j a b => ?_⟩
      cases q : be j with
      | false => rfl
      | true => rw [mono _ j a b q] at e; cases e
  · rintro c st' ⟨rfl, lo, hi, rfl, g1, g2, g3, g4, g5⟩
    have em : max 0 n = n := Nat.max_eq_right (Nat.zero_le _)
    rw [em] at g3
    have e : lo = hi := by (clear em g2 h2 h1; omega)
    subst e
    exact h lo g2 g4 g5
theorem wp_gallop {left : Bool} {key : Keyed} {arr : Array Keyed} {base n hint : Nat} {st : SortSt} {Q : Option Nat → SortSt → Prop} (hK : kindOf st = κ) (hk : key ∈ a₀) (ha : ∀ i, i < n → base + i < arr.size ∧ g arr (base + i) ∈ a₀) (hh : hint < n)
    (be : Nat → Bool) (hbe : ∀ i, i < n → be i = if left = true then blt (g arr (base + i)) key else !blt key (g arr (base + i))) (mono : ∀ i j, i ≤ j → j < n → be j = true → be i = true)
    (h : ∀ k, k ≤ n → (∀ i, i < k → be i = true) → (∀ i, k ≤ i → i < n → be i = false) → Q (some k) st) : wpS (model prog w) A E s (gallop' left key arr base n hint) Q st := by
  have bey : ∀ (i : Nat) (R : Option Bool → SortSt → Prop), i < n → R (some (be i)) st → wpS (model prog w) A E s (elem' arr (base + i) >>= fun x => if left = true then lt' x key else lt' key x >>= fun r => pure (r.map fun x => !x)) R st := by
    intro i R hi q
    obtain ⟨h1, h2⟩ := ha i hi
    rw [elem'_eq, g_some h1]
    refine wpS_bind (wpS_pure ?_)
    have e := hbe i hi
    cases left with
    | true =>
      rw [if_pos rfl] at e ⊢
      exact L _ _ st R h2 hk hK (by rw [← e]; exact q)
    | false =>
      rw [if_neg (by decide)] at e ⊢
      refine wpS_bind (L _ _ st _ hk h2 hK (wpS_pure ?_))
      show R (some (!blt key (g arr (base + i)))) st
      rw [← e]; exact q
  refine wpS_bind ?_
  dsimp only
  refine bey hint _ hh ?_
  dsimp only
  cases e0 : be hint with
  | true =>
    rw [if_pos rfl]
    refine wpS_bind (wpS_mono (wpS_forRange (I := fun i c st' => st' = st ∧ ∃ la ofs, c = (none, la, ofs) ∧ la < ofs ∧ i + 1 ≤ ofs ∧ hint + la < n ∧ be (hint + la) = true)
      (Q := fun c st' => st' = st ∧ ∃ la ofs, c = (none, la, ofs) ∧ la < ofs ∧ hint + la < n ∧ be (hint + la) = true ∧ (n - hint ≤ ofs ∨ (hint + ofs < n ∧ be (hint + ofs) = false))) ?_ ?_ ⟨rfl, 0, 1, rfl, by (clear e0 hh hK; omega), by (clear e0 hh hK; omega), by (clear e0 hK; omega), e0⟩) ?_)
    · rintro i c st' hi1 hi2 ⟨rfl, la, ofs, rfl, a1, a2, a3, a4⟩
      dsimp only
      by_cases z : ofs ≥ n - hint
      · rw [if_pos z]
        exact wpS_pure ⟨rfl, la, ofs, rfl, a1, a3, a4, .inl z⟩
      · rw [if_neg z]
        refine wpS_bind (bey (hint + ofs) _ (by (clear a4 a3 a2 a1 hK hi2 hi1 e0 hh; omega)) ?_)
        dsimp only
        cases e : be (hint + ofs) with
        | false =>
          rw [if_pos (by decide)]
          exact wpS_pure ⟨rfl, la, ofs, rfl, a1, a3, a4, .inr ⟨by (clear e a4 a3 a2 a1 hK hi2 hi1 e0 hh; omega), e⟩⟩
        | true =>
          rw [if_neg (by decide)]
          exact wpS_pure ⟨rfl, ofs, 2 * ofs + 1, rfl, by omega, by (clear e z a4 a3 a1 hK hi2 hi1 e0 hh; omega), by (clear e a4 a3 a2 a1 hK hi2 hi1 e0 hh; omega), e⟩
    · rintro c st' ⟨rfl, la, ofs, rfl, a1, a2, a3, a4⟩
      have em : max 0 n = n := Nat.max_eq_right (Nat.zero_le _)
      rw [em] at a2
      exact ⟨rfl, la, ofs, rfl, a1, a3, a4, .inl (by (clear em a4 a3 a1 hK e0 hh; omega))⟩
    · rintro c st' ⟨rfl, la, ofs, rfl, a1, a3, a4, a5⟩
      dsimp only
      refine wpS_bind (wp_search be mono (fun i lo hi R hn c1 c2 c3 => ?_) (by (clear a5 a4 hK e0 hh; omega)) (by (clear a5 a4 a3 a1 hK e0; omega)) (fun i hi => mono i (hint + la) (by (clear a5 a4 a3 a1 hK e0 hh; omega)) a3 a4) (fun i h1 h2 => ?_) fun k h1 h2 h3 => ?_)
      · dsimp only
        by_cases z : lo ≥ hi
        · rw [if_pos z]; exact wpS_pure (c1 z)
        · rw [if_neg z]
          refine wpS_bind (bey _ _ (by (clear a5 a4 a3 a1 hK e0 hh; omega)) ?_)
          dsimp only
          cases e : be (lo + (hi - lo) / 2) with
          | true => rw [if_pos rfl]; exact wpS_pure (c2 (by (clear e hn a5 a4 a3 a1 hK e0 hh; omega)) e)
          | false => rw [if_neg (by decide)]; exact wpS_pure (c3 (by (clear e hn a5 a4 a3 a1 hK e0 hh; omega)) e)
      · rcases a5 with z | ⟨z1, z2⟩
        · (clear a4 a3 a1 hK e0 hh; omega)
        · cases q : be i with
          | false => rfl
          | true => rw [mono (hint + ofs) i (by (clear q z2 z1 a4 a3 a1 hK e0 hh; omega)) h2 q] at z2; cases z2
      · exact wpS_pure (h k h1 h2 h3)
  | false =>
    rw [if_neg (by decide)]
    refine wpS_bind (wpS_mono (wpS_forRange (I := fun i c st' => st' = st ∧ ∃ la ofs, c = (none, la, ofs) ∧ la < ofs ∧ i + 1 ≤ ofs ∧ la ≤ hint ∧ be (hint - la) = false)
      (Q := fun c st' => st' = st ∧ ∃ la ofs, c = (none, la, ofs) ∧ la < ofs ∧ la ≤ hint ∧ be (hint - la) = false ∧ (hint + 1 ≤ ofs ∨ (ofs ≤ hint ∧ be (hint - ofs) = true))) ?_ ?_ ⟨rfl, 0, 1, rfl, by (clear e0 hh hK; omega), by (clear e0 hh hK; omega), by (clear e0 hh hK; omega), e0⟩) ?_)
    · rintro i c st' hi1 hi2 ⟨rfl, la, ofs, rfl, a1, a2, a3, a4⟩
      dsimp only
      by_cases z : ofs ≥ hint + 1
      · rw [if_pos z]
        exact wpS_pure ⟨rfl, la, ofs, rfl, a1, a3, a4, .inl z⟩
      · rw [if_neg z]
        refine wpS_bind (bey (hint - ofs) _ (by (clear z a4 a3 a2 a1 hK hi2 hi1 e0; omega)) ?_)
        dsimp only
        cases e : be (hint - ofs) with
        | true =>
          rw [if_pos rfl]
          exact wpS_pure ⟨rfl, la, ofs, rfl, a1, a3, a4, .inr ⟨by (clear e a4 a3 a2 a1 hK hi2 hi1 e0 hh; omega), e⟩⟩
        | false =>
          rw [if_neg (by decide)]
          exact wpS_pure ⟨rfl, ofs, 2 * ofs + 1, rfl, by omega, by (clear e z a4 a3 a1 hK hi2 hi1 e0 hh; omega), by omega, e⟩
    · rintro c st' ⟨rfl, la, ofs, rfl, a1, a2, a3, a4⟩
      have em : max 0 n = n := Nat.max_eq_right (Nat.zero_le _)
      rw [em] at a2
      exact ⟨rfl, la, ofs, rfl, a1, a3, a4, .inl (by (clear em a4 a3 a1 hK e0; omega))⟩
    · rintro c st' ⟨rfl, la, ofs, rfl, a1, a3, a4, a5⟩
      dsimp only
      refine wpS_bind (wp_search be mono (fun i lo hi R hn c1 c2 c3 => ?_) (by (clear a5 a4 a3 hK e0 hh; omega)) (by (clear a5 a4 a3 a1 hK e0; omega)) (fun i hi => ?_) (fun i h1 h2 => ?_) fun k h1 h2 h3 => ?_)
      · dsimp only
        by_cases z : lo ≥ hi
        · rw [if_pos z]; exact wpS_pure (c1 z)
        · rw [if_neg z]
          refine wpS_bind (bey _ _ (by (clear a5 a4 a3 a1 hK e0 hh; omega)) ?_)
          dsimp only
          cases e : be (lo + (hi - lo) / 2) with
          | true => rw [if_pos rfl]; exact wpS_pure (c2 (by (clear e hn a5 a4 a3 a1 hK e0 hh; omega)) e)
          | false => rw [if_neg (by decide)]; exact wpS_pure (c3 (by (clear e hn a5 a4 a3 a1 hK e0 hh; omega)) e)
      · rcases a5 with z | ⟨z1, z2⟩
        · (clear a4 a3 a1 hK e0 hh; omega)
        · exact mono i (hint - ofs) (by omega) (by (clear z2 z1 hi a4 a3 a1 hK e0; omega)) z2
      · cases q : be i with
        | false => rfl
        | true => rw [mono (hint - la) i (by (clear q h2 a5 a4 a3 a1 hK e0 hh; omega)) h2 q] at a4; cases a4
      · exact wpS_pure (h k h1 h2 h3)
end
end Srt
namespace Srt
open PySem PyProof.Rows
def mergeLo' : Array Keyed → Array Keyed → StateT SortSt Sem (Array Keyed) := sortPriv% PySem.Builtin.mergeLo
def mergeHi' : Array Keyed → Array Keyed → StateT SortSt Sem (Array Keyed) := sortPriv% PySem.Builtin.mergeHi
section
variable {blt : Keyed → Keyed → Bool}
abbrev PW (blt : Keyed → Keyed → Bool) (l : List Keyed) : Prop := l.Pairwise (le blt)
structure Lo (blt : Keyed → Keyed → Bool) (all o ra rb : List Keyed) : Prop where
  perm : (o ++ (ra ++ rb)).Perm all
  srt : PW blt o
  low : ∀ x ∈ o, ∀ y ∈ ra ++ rb, le blt x y
theorem Lo.a {all o ca ra rb : List Keyed} (h : Lo blt all o (ca ++ ra) rb) (hs : PW blt (ca ++ ra)) (hc : ∀ x ∈ ca, ∀ y ∈ rb, le blt x y) : Lo blt all (o ++ ca) ra rb where
  perm := by
    refine List.Perm.trans ?_ h.perm
    rw [List.append_assoc, List.append_assoc]
  srt := List.pairwise_append.mpr ⟨h.srt, (List.pairwise_append.mp hs).1, fun x hx y hy => h.low x hx y (by simp [hy])⟩
  low := fun x hx y hy => by
    rcases List.mem_append.mp hx with q | q
    · exact h.low x q y (by rcases List.mem_append.mp hy with z | z <;> simp [z])
    · rcases List.mem_append.mp hy with z | z
      · exact (List.pairwise_append.mp hs).2.2 x q y z
      · exact hc x q y z
theorem Lo.b {all o ra cb rb : List Keyed} (h : Lo blt all o ra (cb ++ rb)) (hs : PW blt (cb ++ rb)) (hc : ∀ x ∈ cb, ∀ y ∈ ra, le blt x y) : Lo blt all (o ++ cb) ra rb where
  perm := by
    refine List.Perm.trans ?_ h.perm
    rw [List.append_assoc]
    refine List.Perm.append_left o ?_
    rw [← List.append_assoc, ← List.append_assoc]
    exact List.Perm.append_right rb List.perm_append_comm
  srt := List.pairwise_append.mpr ⟨h.srt, (List.pairwise_append.mp hs).1, fun x hx y hy => h.low x hx y (by simp [hy])⟩
  low := fun x hx y hy => by
    rcases List.mem_append.mp hx with q | q
    · exact h.low x q y (by rcases List.mem_append.mp hy with z | z <;> simp [z])
    · rcases List.mem_append.mp hy with z | z
      · exact hc x q y z
      · exact (List.pairwise_append.mp hs).2.2 x q y z
theorem Lo.endA {all o ra : List Keyed} (h : Lo blt all o ra []) (hs : PW blt ra) : (o ++ ra).Perm all ∧ PW blt (o ++ ra) :=
  ⟨by simpa using h.perm, List.pairwise_append.mpr ⟨h.srt, hs, fun x hx y hy => h.low x hx y (by simp [hy])⟩⟩
theorem Lo.endB {all o rb : List Keyed} {z : Keyed} (h : Lo blt all o [z] rb) (hs : PW blt rb) (hz : ∀ x ∈ rb, le blt x z) : (o ++ (rb ++ [z])).Perm all ∧ PW blt (o ++ (rb ++ [z])) := by
  refine ⟨List.Perm.trans (List.Perm.append_left o List.perm_append_comm) h.perm, List.pairwise_append.mpr ⟨h.srt, List.pairwise_append.mpr ⟨hs, List.pairwise_singleton _ _, fun x hx y hy => ?_⟩, fun x hx y hy => h.low x hx y ?_⟩⟩
  · rw [List.mem_singleton.mp hy]; exact hz x hx
  · rcases List.mem_append.mp hy with q | q <;> simp_all
theorem drop_g {a : Array Keyed} {i : Nat} (h : i < a.size) : a.toList.drop i = g a i :: a.toList.drop (i + 1) := by
  have e := g_some h
  rw [← Array.getElem?_toList] at e
  obtain ⟨h1, h2⟩ := List.getElem?_eq_some_iff.mp e
  rw [List.drop_eq_getElem_cons h1, h2]
theorem mem_drop_g {a : Array Keyed} {i : Nat} {x : Keyed} (h : x ∈ a.toList.drop i) : ∃ j, i ≤ j ∧ j < a.size ∧ x = g a j := by
  obtain ⟨k, hk, e⟩ := List.mem_iff_getElem.mp h
  rw [List.length_drop] at hk
  have hs : i + k < a.size := by rw [← Array.length_toList]; (clear e; omega)
  refine ⟨i + k, by (clear hs e hk; omega), hs, ?_⟩
  have e2 := g_some hs
  rw [← Array.getElem?_toList] at e2
  rw [List.getElem_drop] at e
  rw [List.getElem?_eq_getElem (by rw [Array.length_toList]; exact hs)] at e2
  rw [← e]
  exact Option.some.inj e2
theorem pw_of_on {a : Array Keyed} (h : On blt a 0 a.size) (i : Nat) : PW blt (a.toList.drop i) := by
  refine List.pairwise_iff_getElem.mpr fun j k hj hk hjk => ?_
  rw [List.length_drop, Array.length_toList] at hj hk
  have e1 := g_some (xs := a) (i := i + j) (by (clear hjk hk; omega))
  have e2 := g_some (xs := a) (i := i + k) (by (clear e1 hjk hj; omega))
  rw [← Array.getElem?_toList, List.getElem?_eq_getElem (by rw [Array.length_toList]; (clear e2 e1 hjk; omega))] at e1 e2
  rw [List.getElem_drop, List.getElem_drop, Option.some.inj e1, Option.some.inj e2]
  exact h _ _ (Nat.zero_le _) (by (clear e2 e1 hk hj; omega)) (by (clear e2 e1 hjk hj; omega))
theorem on_of_pw {a : Array Keyed} (h : PW blt a.toList) : On blt a 0 a.size := fun i j _ hij hj => by
  have e1 := g_some (xs := a) (i := i) (by omega)
  have e2 := g_some (xs := a) (i := j) hj
  rw [← Array.getElem?_toList, List.getElem?_eq_getElem (by rw [Array.length_toList]; (clear e2 e1; omega))] at e1 e2
  rw [← Option.some.inj e1, ← Option.some.inj e2]
  exact List.pairwise_iff_getElem.mp h i j _ _ hij
theorem cut_list (a : Array Keyed) (i k : Nat) : (a.extract i (i + k)).toList = (a.toList.drop i).take k := by
  rw [Array.toList_extract, List.extract_eq_take_drop]
  congr 1
  omega
theorem rest_list (a : Array Keyed) (i : Nat) : (a.extract i).toList = a.toList.drop i := by
  rw [Array.toList_extract, List.extract_eq_take_drop, List.take_of_length_le]
  rw [List.length_drop, Array.length_toList]
  exact Nat.le_refl _
theorem drop_cut (l : List Keyed) (i k : Nat) : l.drop i = (l.drop i).take k ++ l.drop (i + k) := by
  rw [← List.drop_drop, List.take_append_drop]
end
structure Like (st st' : SortSt) : Prop where
  kind : kindOf st' = kindOf st
  arr : arrOf st' = arrOf st
  pend : pendingOf st' = pendingOf st
  fail : failedOf st' = failedOf st
theorem Like.refl (st : SortSt) : Like st st := ⟨rfl, rfl, rfl, rfl⟩
section
variable {prog : Program} {w : World} {A : Around} {E : Value → Shared → Prop} {s : Shared} {a₀ : Array Keyed} {κ : SortKind} {blt : Keyed → Keyed → Bool}
theorem wp_elem {arr : Array Keyed} {i : Nat} {st : SortSt} {R : Keyed → SortSt → Prop} (h : i < arr.size) (q : R (g arr i) st) : wpS (model prog w) A E s (elem' arr i) R st := by
  rw [elem'_eq, g_some h]
  exact wpS_pure q
def setGallop' : Nat → StateT SortSt Sem Unit := sortPriv% PySem.Builtin.setMinGallop
theorem wp_mod {m : Nat} {st : SortSt} {Q : Unit → SortSt → Prop} (h : ∀ st', Like st st' → Q () st') : wpS (model prog w) A E s (setGallop' m) Q st := wpS_modify (h _ ⟨rfl, rfl, rfl, rfl⟩)
variable (L : Runs prog w A E s a₀ κ blt)
include L
theorem wp_mergeLo {a b : Array Keyed} {st : SortSt} {Q : Array Keyed → SortSt → Prop} (C : Cmp blt) (hK : kindOf st = κ) (hm : ∀ x, x ∈ a.toList ++ b.toList → x ∈ a₀) (oa : On blt a 0 a.size) (ob : On blt b 0 b.size) (ha : 0 < a.size) (hb : 0 < b.size)
    (hfirst : blt (g b 0) (g a 0) = true) (hlast : ∀ j, j < b.size → blt (g b j) (g a (a.size - 1)) = true)
    (h : ∀ res st', Like st st' → res.toList.Perm (a.toList ++ b.toList) → PW blt res.toList → Q res st') : wpS (model prog w) A E s (mergeLo' a b) Q st := by
  have ma : ∀ i, i < a.size → g a i ∈ a₀ := fun i hi => hm _ (by have := g_mem hi; simp [this])
  have mb : ∀ i, i < b.size → g b i ∈ a₀ := fun i hi => hm _ (by have := g_mem hi; simp [this])
  have doneA : ∀ (o : List Keyed) (ia : Nat) (st' : SortSt) (res : Array Keyed), Like st st' → Lo blt (a.toList ++ b.toList) o (a.toList.drop ia) [] → res.toList = o ++ a.toList.drop ia → Q res st' := fun o ia st' res lk lo e => by
    obtain ⟨p1, p2⟩ := lo.endA (pw_of_on oa ia)
    exact h res st' lk (by rw [e]; exact p1) (by rw [e]; exact p2)
  have doneB : ∀ (o : List Keyed) (ib : Nat) (st' : SortSt) (res : Array Keyed), Like st st' → Lo blt (a.toList ++ b.toList) o (a.toList.drop (a.size - 1)) (b.toList.drop ib) → res.toList = o ++ (b.toList.drop ib ++ a.toList.drop (a.size - 1)) → Q res st' := fun o ib st' res lk lo e => by
    have ez : a.toList.drop (a.size - 1) = [g a (a.size - 1)] := by
      rw [drop_g (by (clear e hfirst hb hK; omega)), List.drop_eq_nil_of_le (by rw [Array.length_toList]; (clear e hfirst hb ha hK; omega))]
    rw [ez] at lo e
    obtain ⟨p1, p2⟩ := lo.endB (pw_of_on ob ib) (fun x hx => by
      obtain ⟨j, _, hj, rfl⟩ := mem_drop_g hx
      exact C.of_lt (hlast j hj))
    exact h res st' lk (by rw [e]; exact p1) (by rw [e]; exact p2)
  have chunkA : ∀ (out : Array Keyed) (ia ib k : Nat), ia + k ≤ a.size → ib < b.size → Lo blt (a.toList ++ b.toList) out.toList (a.toList.drop ia) (b.toList.drop ib) → (∀ i, i < k → blt (g b ib) (g a (ia + i)) = false) →
      Lo blt (a.toList ++ b.toList) (out ++ a.extract ia (ia + k)).toList (a.toList.drop (ia + k)) (b.toList.drop ib) := fun out ia ib k h1 h2 lo hk => by
    rw [Array.toList_append, cut_list]
    have pa := pw_of_on oa ia
    rw [drop_cut a.toList ia k] at lo pa
    refine lo.a pa fun x hx y hy => ?_
    obtain ⟨i, hi, e⟩ := List.mem_iff_getElem.mp hx
    rw [List.length_take, List.length_drop, Array.length_toList] at hi
    have ex : x = g a (ia + i) := by
      have e2 := g_some (xs := a) (i := ia + i) (by (clear e h2 h1 hfirst hb ha hK; omega))
      rw [← Array.getElem?_toList, List.getElem?_eq_getElem (by rw [Array.length_toList]; (clear e2 e h2 h1 hfirst hb ha hK; omega))] at e2
      rw [List.getElem_take, List.getElem_drop] at e
      rw [← e]; exact Option.some.inj e2
    obtain ⟨j, hj1, hj2, rfl⟩ := mem_drop_g hy
    have l1 : le blt x (g b ib) := by rw [ex]; exact hk i (by (clear hj2 hj1 ex e h2 h1 hfirst hb ha hK; omega))
    by_cases ej : j = ib
    · rw [ej]; exact l1
    · exact C.trans l1 (ob ib j (Nat.zero_le _) (by (clear l1 hj2 ex e hi h2 h1 hfirst hb ha hK; omega)) hj2)
  have chunkB : ∀ (out : Array Keyed) (ia ib k : Nat), ib + k ≤ b.size → ia < a.size → Lo blt (a.toList ++ b.toList) out.toList (a.toList.drop ia) (b.toList.drop ib) → (∀ i, i < k → blt (g b (ib + i)) (g a ia) = true) →
      Lo blt (a.toList ++ b.toList) (out ++ b.extract ib (ib + k)).toList (a.toList.drop ia) (b.toList.drop (ib + k)) := fun out ia ib k h1 h2 lo hk => by
    rw [Array.toList_append, cut_list]
    have pb := pw_of_on ob ib
    rw [drop_cut b.toList ib k] at lo pb
    refine lo.b pb fun x hx y hy => ?_
    obtain ⟨i, hi, e⟩ := List.mem_iff_getElem.mp hx
    rw [List.length_take, List.length_drop, Array.length_toList] at hi
    have ex : x = g b (ib + i) := by
      have e2 := g_some (xs := b) (i := ib + i) (by (clear e h2 h1 hfirst hb ha hK; omega))
      rw [← Array.getElem?_toList, List.getElem?_eq_getElem (by rw [Array.length_toList]; (clear e2 e h2 h1 hfirst hb ha hK; omega))] at e2
      rw [List.getElem_take, List.getElem_drop] at e
      rw [← e]; exact Option.some.inj e2
    obtain ⟨j, hj1, hj2, rfl⟩ := mem_drop_g hy
    have l1 : le blt x (g a ia) := by rw [ex]; exact C.of_lt (hk i (by (clear hj2 hj1 ex e h2 h1 hfirst hb ha hK; omega)))
    by_cases ej : j = ia
    · rw [ej]; exact l1
    · exact C.trans l1 (oa ia j (Nat.zero_le _) (by (clear l1 hj2 ex e hi h2 h1 hfirst hb ha hK; omega)) hj2)
  have one : ∀ (x : Array Keyed) (i : Nat), i < x.size → (x.extract i (i + 1)) = #[g x i] := fun x i hi => by
    apply Array.ext'
    rw [cut_list, drop_g hi]
    rfl
  have stepB : ∀ (out : Array Keyed) (ia ib : Nat), ia < a.size → ib < b.size → Lo blt (a.toList ++ b.toList) out.toList (a.toList.drop ia) (b.toList.drop ib) → blt (g b ib) (g a ia) = true →
      Lo blt (a.toList ++ b.toList) (out.push (g b ib)).toList (a.toList.drop ia) (b.toList.drop (ib + 1)) := fun out ia ib h1 h2 lo hk => by
    have := chunkB out ia ib 1 (by omega) h1 lo fun i hi => by rw [show ib + i = ib by (clear hk h2 h1 hfirst hb ha hK; omega)]; exact hk
    rwa [one b ib h2, ← Array.push_eq_append] at this
  have stepA : ∀ (out : Array Keyed) (ia ib : Nat), ia < a.size → ib < b.size → Lo blt (a.toList ++ b.toList) out.toList (a.toList.drop ia) (b.toList.drop ib) → blt (g b ib) (g a ia) = false →
      Lo blt (a.toList ++ b.toList) (out.push (g a ia)).toList (a.toList.drop (ia + 1)) (b.toList.drop ib) := fun out ia ib h1 h2 lo hk => by
    have := chunkA out ia ib 1 (by omega) h2 lo fun i hi => by rw [show ia + i = ia by (clear hk h2 h1 hfirst hb ha hK; omega)]; exact hk
    rwa [one a ia h1, ← Array.push_eq_append] at this
  have endA : ∀ (out : Array Keyed) (ia ib : Nat) (st' : SortSt), Like st st' → b.size ≤ ib → Lo blt (a.toList ++ b.toList) out.toList (a.toList.drop ia) (b.toList.drop ib) → Q (out ++ a.extract ia ++ b.extract ib) st' := fun out ia ib st' lk hb lo => by
    have en : b.toList.drop ib = [] := List.drop_eq_nil_of_le (by rw [Array.length_toList]; (clear hfirst ha hK; omega))
    rw [en] at lo
    refine doneA _ ia st' _ lk lo ?_
    rw [Array.toList_append, Array.toList_append, rest_list, rest_list, en, List.append_nil]
  have endB : ∀ (out : Array Keyed) (ia ib : Nat) (st' : SortSt), Like st st' → ia + 1 = a.size → Lo blt (a.toList ++ b.toList) out.toList (a.toList.drop ia) (b.toList.drop ib) → Q (out ++ b.extract ib ++ a.extract ia) st' := fun out ia ib st' lk ha lo => by
    have en : ia = a.size - 1 := by (clear hfirst hb hK; omega)
    refine doneB out.toList ib st' _ lk (by rw [← en]; exact lo) ?_
    rw [Array.toList_append, Array.toList_append, rest_list, rest_list, ← en, List.append_assoc]
  have monoA : ∀ (ka : Nat) (x : Keyed) (i j : Nat), i ≤ j → ka + j < a.size → (!blt x (g a (ka + j))) = true → (!blt x (g a (ka + i))) = true := fun ka x i j h1 h2 h3 => by
    have h3 : blt x (g a (ka + j)) = false := by simpa using h3
    by_cases e : i = j
    · subst e; simpa using h3
    · have := C.trans (oa (ka + i) (ka + j) (Nat.zero_le _) (by (clear h3 h2 hfirst hb ha hK; omega)) h2) h3
      simpa using this
  have monoB : ∀ (kb : Nat) (x : Keyed) (i j : Nat), i ≤ j → kb + j < b.size → blt (g b (kb + j)) x = true → blt (g b (kb + i)) x = true := fun kb x i j h1 h2 h3 => by
    by_cases e : i = j
    · subst e; exact h3
    · have q := ob (kb + i) (kb + j) (Nat.zero_le _) (by (clear h3 h2 hfirst hb ha hK; omega)) h2
      cases z : blt (g b (kb + i)) x with
      | true => rfl
      | false =>
        have f : blt (g b (kb + j)) x = false := C.trans z q
        rw [h3] at f
        cases f
  refine wpS_bind ?_
  dsimp only
  refine wpS_lift (wpAny_rule ⟨rfl, ?_⟩)
  refine wpS_bind (wp_elem hb ?_)
  have start : Lo blt (a.toList ++ b.toList) [g b 0] (a.toList.drop 0) (b.toList.drop 1) := by
    have l0 : Lo blt (a.toList ++ b.toList) [] (a.toList.drop 0) ([g b 0] ++ b.toList.drop 1) := by
      refine ⟨?_, List.Pairwise.nil, fun x hx => absurd hx List.not_mem_nil⟩
      have e := drop_g hb
      rw [List.drop_zero] at e
      rw [List.drop_zero, List.nil_append, List.singleton_append, ← e]
    have := l0.b (by have := pw_of_on ob 0; rw [drop_g hb] at this; exact this) (fun x hx y hy => by
      rw [List.mem_singleton.mp hx]
      obtain ⟨j, _, hj, rfl⟩ := mem_drop_g hy
      by_cases j0 : j = 0
      · rw [j0]; exact C.of_lt hfirst
      · exact C.trans (C.of_lt hfirst) (oa 0 j (Nat.le_refl _) (by (clear hj hfirst hb ha hK; omega)) hj))
    simpa using this
  by_cases b1 : 1 = b.size
  · have eb : (1 == b.size) = true := beq_iff_eq.mpr b1
    rw [if_pos eb]
    refine wpS_pure ?_
    have en : b.toList.drop 1 = [] := List.drop_eq_nil_of_le (by rw [Array.length_toList]; (clear eb hfirst hb ha hK; omega))
    rw [en] at start
    refine doneA _ 0 st _ (Like.refl _) start ?_
    simp [b1]
  · have eb : ¬ (1 == b.size) = true := by simpa using b1
    rw [if_neg eb]
    by_cases a1 : 0 + 1 = a.size
    · have ea : (0 + 1 == a.size) = true := beq_iff_eq.mpr a1
      rw [if_pos ea]
      refine wpS_pure ?_
      have e0 : a.size - 1 = 0 := by (clear ea eb b1 hfirst hb ha hK; omega)
      refine doneB [g b 0] 1 st _ (Like.refl _) (by rw [e0]; exact start) ?_
      rw [e0, Array.toList_append, Array.toList_append, rest_list, rest_list, List.append_assoc]
    · have ea : ¬ (0 + 1 == a.size) = true := by simpa using a1
      rw [if_neg ea]
      refine wpS_bind (wpS_get ?_)
      refine wpS_bind (wpS_mono (wpS_forRange (I := fun i c st' => Like st st' ∧ ∃ out ia ib mg, c = (none, out, ia, ib, mg) ∧ ia + 1 < a.size ∧ ib < b.size ∧ i ≤ ia + ib ∧ Lo blt (a.toList ++ b.toList) out.toList (a.toList.drop ia) (b.toList.drop ib))
        (Q := fun c st' => ∃ res, c.1 = some res ∧ Q res st') ?_ ?_ ⟨Like.refl _, #[g b 0], 0, 1, _, rfl, by omega, by (clear ea a1 eb hfirst ha hK; omega), by omega, start⟩) ?_)
      · rintro i c st' hi1 hi2 ⟨lk, out, ia, ib, mg, rfl, ha1, hb1, hi, lo⟩
        have hK' : kindOf st' = κ := lk.kind.trans hK
        refine wpS_bind (wpS_mono (wpS_forRange (I := fun j c st2 => st2 = st' ∧ ∃ out ja jb p q, c = (none, out, ja, jb, p, q) ∧ ja + 1 < a.size ∧ jb < b.size ∧ ia + ib ≤ ja + jb ∧ Lo blt (a.toList ++ b.toList) out.toList (a.toList.drop ja) (b.toList.drop jb))
          (Q := fun c st2 => st2 = st' ∧ ((∃ res, c.1 = some res ∧ Q res st') ∨ ∃ out ja jb p q, c = (none, out, ja, jb, p, q) ∧ ja + 1 < a.size ∧ jb < b.size ∧ ia + ib ≤ ja + jb ∧ Lo blt (a.toList ++ b.toList) out.toList (a.toList.drop ja) (b.toList.drop jb))) ?_ ?_
          ⟨rfl, out, ia, ib, 0, 0, rfl, ha1, hb1, Nat.le_refl _, lo⟩) ?_)
        · rintro j c st2 hj1 hj2 ⟨rfl, out, ja, jb, p, q, rfl, hja, hjb, hij, lo⟩
          dsimp only
          refine wpS_bind (wp_elem hjb (wpS_bind (wp_elem (by (clear hij hjb hK' hj2 hj1 hi hb1 ha1 hi2 hi1 ea a1 eb b1 hfirst hb ha hK; omega)) (wpS_bind (L _ _ _ _ (mb jb hjb) (ma ja (by (clear hij hjb hK' hj2 hj1 hi hb1 ha1 hi2 hi1 ea a1 eb b1 hfirst hb ha hK; omega))) hK' ?_)))))
          dsimp only
          cases e : blt (g b jb) (g a ja) with
          | true =>
            rw [if_pos rfl]
            have lo' := stepB out ja jb (by (clear e hij hjb hK' hj2 hj1 hi hb1 ha1 hi2 hi1 ea a1 eb b1 hfirst hb ha hK; omega)) hjb lo e
            refine wpS_bind (wp_elem hjb ?_)
            by_cases z : jb + 1 = b.size
            · rw [if_pos (beq_iff_eq.mpr z)]
              exact wpS_pure ⟨rfl, .inl ⟨_, rfl, endA _ ja (jb + 1) _ lk (by (clear e hij hjb hja hK' hj2 hj1 hi hb1 ha1 hi2 hi1 ea a1 eb b1 hfirst hb ha hK; omega)) lo'⟩⟩
            · rw [if_neg (by simpa using z)]
              by_cases y : q + 1 ≥ mg
              · rw [if_pos y]
                exact wpS_pure ⟨rfl, .inr ⟨_, _, _, _, _, rfl, hja, by (clear y e hij hja hK' hj2 hj1 hi hb1 ha1 hi2 hi1 ea a1 eb b1 hfirst hb ha hK; omega), by omega, lo'⟩⟩
              · rw [if_neg y]
                exact wpS_pure ⟨rfl, _, _, _, _, _, rfl, hja, by (clear y e hij hja hK' hj2 hj1 hi hb1 ha1 hi2 hi1 ea a1 eb b1 hfirst hb ha hK; omega), by omega, lo'⟩
          | false =>
            rw [if_neg (by decide)]
            have lo' := stepA out ja jb (by (clear e hij hjb hK' hj2 hj1 hi hb1 ha1 hi2 hi1 ea a1 eb b1 hfirst hb ha hK; omega)) hjb lo e
            refine wpS_bind (wp_elem (by (clear e hij hjb hK' hj2 hj1 hi hb1 ha1 hi2 hi1 ea a1 eb b1 hfirst hb ha hK; omega)) ?_)
            by_cases z : ja + 1 + 1 = a.size
            · rw [if_pos (beq_iff_eq.mpr z)]
              exact wpS_pure ⟨rfl, .inl ⟨_, rfl, endB _ (ja + 1) jb _ lk z lo'⟩⟩
            · rw [if_neg (by simpa using z)]
              by_cases y : p + 1 ≥ mg
              · rw [if_pos y]
                exact wpS_pure ⟨rfl, .inr ⟨_, _, _, _, _, rfl, by (clear y e hij hjb hK' hj2 hj1 hi hb1 ha1 hi2 hi1 ea a1 eb b1 hfirst hb ha hK; omega), hjb, by (clear y z e hjb hja hK' hj2 hj1 hi hb1 ha1 hi2 hi1 ea a1 eb b1 hfirst hb ha hK; omega), lo'⟩⟩
              · rw [if_neg y]
                exact wpS_pure ⟨rfl, _, _, _, _, _, rfl, by (clear y e hij hjb hK' hj2 hj1 hi hb1 ha1 hi2 hi1 ea a1 eb b1 hfirst hb ha hK; omega), hjb, by (clear y z e hjb hja hK' hj2 hj1 hi hb1 ha1 hi2 hi1 ea a1 eb b1 hfirst hb ha hK; omega), lo'⟩
        · rintro c st2 ⟨rfl, out, ja, jb, p, q, rfl, hja, hjb, hij, lo⟩
          exact ⟨rfl, .inr ⟨_, _, _, _, _, rfl, hja, hjb, hij, lo⟩⟩
        · rintro ⟨r, c⟩ st2 ⟨rfl, ⟨res, e, q⟩ | ⟨out, ja, jb, p, q, e, hja, hjb, hij, lo⟩⟩
          · dsimp only at e
            subst e
            exact wpS_pure ⟨res, rfl, q⟩
          · obtain ⟨rfl, rfl⟩ := Prod.mk.inj e
            dsimp only
            refine wpS_bind (wpS_lift (wpAny_rule ⟨rfl, ?_⟩))
            refine wpS_bind (wpS_mono (wpS_forRange (I := fun j c st3 => Like st st3 ∧ ∃ out ka kb m' p q, c = (none, out, ka, kb, m', p, q) ∧ ka + 1 < a.size ∧ kb < b.size ∧ ia + ib + j ≤ ka + kb ∧ Lo blt (a.toList ++ b.toList) out.toList (a.toList.drop ka) (b.toList.drop kb))
              (Q := fun c st3 => Like st st3 ∧ ((∃ res, c.1 = some res ∧ Q res st3) ∨ ∃ out ka kb m' p q, c = (none, out, ka, kb, m', p, q) ∧ ka + 1 < a.size ∧ kb < b.size ∧ ia + ib + 1 ≤ ka + kb ∧ Lo blt (a.toList ++ b.toList) out.toList (a.toList.drop ka) (b.toList.drop kb))) ?_ ?_
              ⟨lk, out, ja, jb, _, _, _, rfl, hja, hjb, by (clear e hjb hja hK' hi hb1 ha1 hi2 hi1 ea a1 eb b1 hfirst hb ha hK; omega), lo⟩) ?_)
            · rintro j c st3 hj1 hj2 ⟨lk3', out, ka, kb, m', p, q, rfl, hka, hkb, hij, lo⟩
              dsimp only
              by_cases m1 : m' > 1
              · rw [if_pos m1]
                refine wpS_bind (wp_mod fun st4 lk3 => ?_)
                have lk4 : Like st st4 := ⟨lk3.kind.trans lk3'.kind, lk3.arr.trans lk3'.arr, lk3.pend.trans lk3'.pend, lk3.fail.trans lk3'.fail⟩
                have hK4 : kindOf st4 = κ := lk4.kind.trans hK
                refine wpS_bind (wp_elem hkb ?_)
                refine wpS_bind (wp_gallop L hK4 (mb kb hkb) (fun i hi => ⟨by (clear hK4 m1 hij hkb hka hj2 hj1 e hjb hja hK' hb1 ha1 hi2 hi1 ea a1 eb b1 hfirst hb ha hK; omega), ma _ (by (clear hK4 m1 hij hkb hka hj2 hj1 e hjb hja hK' hb1 ha1 hi2 hi1 ea a1 eb b1 hfirst hb ha hK; omega))⟩) (by omega) (fun i => !blt (g b kb) (g a (ka + i))) (fun i hi => rfl) (fun i j h1 h2 h3 => monoA ka _ i j h1 (by (clear h3 h1 hK4 m1 hij hkb hka hj2 hj1 e hjb hja hK' hi hb1 ha1 hi2 hi1 ea a1 eb b1 hfirst hb ha hK; omega)) h3) fun k hk1 hk2 hk3 => ?_)
                dsimp only
                have klt : k < a.size - ka := by
                  rcases Nat.lt_or_ge k (a.size - ka) with z | z
                  · exact z
                  · have f := hk2 (a.size - 1 - ka) (by (clear hk1 hK4 m1 hij hkb hj2 hj1 e hjb hja hK' hi hb1 ha1 hi2 hi1 ea a1 eb b1 hfirst hb ha hK; omega))
                    rw [show ka + (a.size - 1 - ka) = a.size - 1 by (clear f z hk1 hK4 m1 hij hkb hj2 hj1 e hjb hja hK' hi hb1 ha1 hi2 hi1 ea a1 eb b1 hfirst hb ha hK; omega), hlast kb hkb] at f
                    cases f
                have hk2' : ∀ i, i < k → blt (g b kb) (g a (ka + i)) = false := fun i hi => by have := hk2 i hi; simpa using this
                have bw : blt (g b kb) (g a (ka + k)) = true := by have := hk3 k (Nat.le_refl _) klt; simpa using this
                by_cases k0 : k > 0
                · rw [if_pos k0]
                  have lo1 := chunkA out ka kb k (by (clear k0 bw klt hK4 m1 hij hkb hj2 hj1 e hjb hja hK' hi hb1 ha1 hi2 hi1 ea a1 eb b1 hfirst hb ha hK; omega)) hkb lo hk2'
                  by_cases z : ka + k + 1 = a.size
                  · rw [if_pos (beq_iff_eq.mpr z)]
                    exact wpS_pure ⟨lk4, .inl ⟨_, rfl, endB _ (ka + k) kb _ lk4 z lo1⟩⟩
                  · rw [if_neg (by simpa using z), if_neg (by have : ¬ ka + k = a.size := by (clear z k0 bw hk1 hK4 m1 hij hkb hka hj2 hj1 e hjb hja hK' hi hb1 ha1 hi2 hi1 ea a1 eb b1 hfirst hb ha hK; omega)
                                                              simpa using this)]
                    refine wpS_bind (wp_elem hkb ?_)
                    have lo2 := stepB _ (ka + k) kb (by (clear z k0 bw hk1 hK4 m1 hij hkb hka hj2 hj1 e hjb hja hK' hi hb1 ha1 hi2 hi1 ea a1 eb b1 hfirst hb ha hK; omega)) hkb lo1 bw
                    by_cases z2 : kb + 1 = b.size
                    · rw [if_pos (beq_iff_eq.mpr z2)]
                      exact wpS_pure ⟨lk4, .inl ⟨_, rfl, endA _ (ka + k) (kb + 1) _ lk4 (by (clear z k0 bw klt hk1 hK4 m1 hij hkb hka hj2 hj1 e hjb hja hK' hi hb1 ha1 hi2 hi1 ea a1 eb b1 hfirst hb ha hK; omega)) lo2⟩⟩
                    · rw [if_neg (by simpa using z2)]
                      refine wpS_bind (wp_elem (by (clear z2 z k0 bw hk1 hK4 m1 hij hkb hka hj2 hj1 e hjb hja hK' hi hb1 ha1 hi2 hi1 ea a1 eb b1 hfirst hb ha hK; omega)) ?_)
                      refine wpS_bind (wp_gallop L hK4 (ma _ (by (clear z2 z k0 bw hk1 hK4 m1 hij hkb hka hj2 hj1 e hjb hja hK' hi hb1 ha1 hi2 hi1 ea a1 eb b1 hfirst hb ha hK; omega))) (fun i hi => ⟨by omega, mb _ (by omega)⟩) (by (clear z k0 bw klt hk1 hK4 m1 hij hka hj2 hj1 e hjb hja hK' hi hb1 ha1 hi2 hi1 ea a1 eb b1 hfirst hb ha hK; omega)) (fun i => blt (g b (kb + 1 + i)) (g a (ka + k))) (fun i hi => rfl) (fun i j h1 h2 h3 => monoB (kb + 1) _ i j h1 (by (clear h3 h1 z2 z k0 bw klt hk1 hK4 m1 hij hkb hka hj2 hj1 e hjb hja hK' hi hb1 ha1 hi2 hi1 ea a1 eb b1 hfirst hb ha hK; omega)) h3) fun k2 h1 h2 h3 => ?_)
                      dsimp only
                      by_cases q0 : k2 > 0
                      · rw [if_pos q0]
                        have lo3 := chunkB _ (ka + k) (kb + 1) k2 (by omega) (by (clear q0 h1 z2 z k0 bw hk1 hK4 m1 hij hkb hka hj2 hj1 e hjb hja hK' hi hb1 ha1 hi2 hi1 ea a1 eb b1 hfirst hb ha hK; omega)) lo2 h2
                        by_cases z3 : kb + 1 + k2 = b.size
                        · rw [if_pos (beq_iff_eq.mpr z3)]
                          exact wpS_pure ⟨lk4, .inl ⟨_, rfl, endA _ (ka + k) (kb + 1 + k2) _ lk4 (by (clear q0 h1 z2 z k0 bw klt hk1 hK4 m1 hij hkb hka hj2 hj1 e hjb hja hK' hi hb1 ha1 hi2 hi1 ea a1 eb b1 hfirst hb ha hK; omega)) lo3⟩⟩
                        · rw [if_neg (by simpa using z3)]
                          refine wpS_bind (wp_elem (by (clear z3 q0 h1 z2 z k0 bw hk1 hK4 m1 hij hkb hka hj2 hj1 e hjb hja hK' hi hb1 ha1 hi2 hi1 ea a1 eb b1 hfirst hb ha hK; omega)) ?_)
                          have lo4 := stepA _ (ka + k) (kb + 1 + k2) (by (clear z3 q0 h1 z2 z k0 bw hk1 hK4 m1 hij hkb hka hj2 hj1 e hjb hja hK' hi hb1 ha1 hi2 hi1 ea a1 eb b1 hfirst hb ha hK; omega)) (by (clear q0 z2 z k0 bw klt hk1 hK4 m1 hij hka hj2 hj1 e hjb hja hK' hi hb1 ha1 hi2 hi1 ea a1 eb b1 hfirst hb ha hK; omega)) lo3 (h3 k2 (Nat.le_refl _) (by (clear q0 z2 z k0 bw klt hk1 hK4 m1 hij hka hj2 hj1 e hjb hja hK' hi hb1 ha1 hi2 hi1 ea a1 eb b1 hfirst hb ha hK; omega)))
                          by_cases z4 : ka + k + 1 + 1 = a.size
                          · rw [if_pos (beq_iff_eq.mpr z4)]
                            exact wpS_pure ⟨lk4, .inl ⟨_, rfl, endB _ (ka + k + 1) (kb + 1 + k2) _ lk4 z4 lo4⟩⟩
                          · rw [if_neg (by simpa using z4)]
                            by_cases z5 : (decide (k < 7) && decide (k2 < 7)) = true
                            · rw [if_pos z5]
                              exact wpS_pure ⟨lk4, .inr ⟨_, _, _, _, _, _, rfl, by (clear z5 z3 q0 h1 z2 k0 bw hk1 hK4 m1 hij hkb hka hj2 hj1 e hjb hja hK' hi hb1 ha1 hi2 hi1 ea a1 eb b1 hfirst hb ha hK; omega), by (clear z5 z4 q0 z2 z k0 bw klt hk1 hK4 m1 hij hka hj2 hj1 e hjb hja hK' hi hb1 ha1 hi2 hi1 ea a1 eb b1 hfirst hb ha hK; omega), by (clear z5 z4 z3 q0 h1 z2 z k0 bw klt hk1 hK4 m1 hkb hka hj2 hj1 e hjb hja hK' hi hb1 ha1 hi2 hi1 ea a1 eb b1 hfirst hb ha hK; omega), lo4⟩⟩
                            · rw [if_neg z5]
                              exact wpS_pure ⟨lk4, _, _, _, _, _, _, rfl, by (clear z5 z3 q0 h1 z2 k0 bw hk1 hK4 m1 hij hkb hka hj2 hj1 e hjb hja hK' hi hb1 ha1 hi2 hi1 ea a1 eb b1 hfirst hb ha hK; omega), by (clear z5 z4 q0 z2 z k0 bw klt hk1 hK4 m1 hij hka hj2 hj1 e hjb hja hK' hi hb1 ha1 hi2 hi1 ea a1 eb b1 hfirst hb ha hK; omega), by (clear z5 z4 z3 q0 h1 z2 z k0 bw klt hk1 hK4 m1 hkb hka hj2 hj1 e hjb hja hK' hi hb1 ha1 hi2 hi1 ea a1 eb b1 hfirst hb ha hK; omega), lo4⟩
                      · rw [if_neg q0]
                        have e2 : k2 = 0 := by (clear h1 z2 z k0 bw klt hk1 hK4 m1 hij hkb hka hj2 hj1 e hjb hja hK' hi hb1 ha1 hi2 hi1 ea a1 eb b1 hfirst hb ha hK; omega)
                        refine wpS_bind (wp_elem (by (clear e2 q0 h1 z2 z k0 bw hk1 hK4 m1 hij hkb hka hj2 hj1 e hjb hja hK' hi hb1 ha1 hi2 hi1 ea a1 eb b1 hfirst hb ha hK; omega)) ?_)
                        have lo4 := stepA _ (ka + k) (kb + 1) (by (clear e2 q0 h1 z2 z k0 bw hk1 hK4 m1 hij hkb hka hj2 hj1 e hjb hja hK' hi hb1 ha1 hi2 hi1 ea a1 eb b1 hfirst hb ha hK; omega)) (by (clear e2 q0 h1 z k0 bw klt hk1 hK4 m1 hij hka hj2 hj1 e hjb hja hK' hi hb1 ha1 hi2 hi1 ea a1 eb b1 hfirst hb ha hK; omega)) lo2 (h3 0 (by omega) (by omega))
                        by_cases z4 : ka + k + 1 + 1 = a.size
                        · rw [if_pos (beq_iff_eq.mpr z4)]
                          exact wpS_pure ⟨lk4, .inl ⟨_, rfl, endB _ (ka + k + 1) (kb + 1) _ lk4 z4 lo4⟩⟩
                        · rw [if_neg (by simpa using z4)]
                          by_cases z5 : (decide (k < 7) && decide (k2 < 7)) = true
                          · rw [if_pos z5]
                            exact wpS_pure ⟨lk4, .inr ⟨_, _, _, _, _, _, rfl, by (clear z5 e2 q0 h1 z2 k0 bw hk1 hK4 m1 hij hkb hka hj2 hj1 e hjb hja hK' hi hb1 ha1 hi2 hi1 ea a1 eb b1 hfirst hb ha hK; omega), by omega, by omega, lo4⟩⟩
                          · rw [if_neg z5]
                            exact wpS_pure ⟨lk4, _, _, _, _, _, _, rfl, by (clear z5 e2 q0 h1 z2 k0 bw hk1 hK4 m1 hij hkb hka hj2 hj1 e hjb hja hK' hi hb1 ha1 hi2 hi1 ea a1 eb b1 hfirst hb ha hK; omega), by omega, by (clear z5 z4 e2 q0 h1 z2 z k0 bw klt hk1 hK4 m1 hkb hka hj2 hj1 e hjb hja hK' hi hb1 ha1 hi2 hi1 ea a1 eb b1 hfirst hb ha hK; omega), lo4⟩
                · rw [if_neg k0]
                  have e0 : k = 0 := by omega
                  have bw0 : blt (g b kb) (g a ka) = true := by rw [e0] at bw; exact bw
                  refine wpS_bind (wp_elem hkb ?_)
                  have lo2 := stepB _ (ka) kb (by omega) hkb lo bw0
                  by_cases z2 : kb + 1 = b.size
                  · rw [if_pos (beq_iff_eq.mpr z2)]
                    exact wpS_pure ⟨lk4, .inl ⟨_, rfl, endA _ (ka) (kb + 1) _ lk4 (by omega) lo2⟩⟩
                  · rw [if_neg (by simpa using z2)]
                    refine wpS_bind (wp_elem (by omega) ?_)
                    refine wpS_bind (wp_gallop L hK4 (ma _ (by omega)) (fun i hi => ⟨by omega, mb _ (by omega)⟩) (by (clear bw0 e0 k0 bw klt hk1 hK4 m1 hij hka hj2 hj1 e hjb hja hK' hi hb1 ha1 hi2 hi1 ea a1 eb b1 hfirst hb ha hK; omega)) (fun i => blt (g b (kb + 1 + i)) (g a (ka))) (fun i hi => rfl) (fun i j h1 h2 h3 => monoB (kb + 1) _ i j h1 (by (clear h3 h1 z2 bw0 e0 k0 bw klt hk1 hK4 m1 hij hkb hka hj2 hj1 e hjb hja hK' hi hb1 ha1 hi2 hi1 ea a1 eb b1 hfirst hb ha hK; omega)) h3) fun k2 h1 h2 h3 => ?_)
                    dsimp only
                    by_cases q0 : k2 > 0
                    · rw [if_pos q0]
                      have lo3 := chunkB _ (ka) (kb + 1) k2 (by omega) (by omega) lo2 h2
                      by_cases z3 : kb + 1 + k2 = b.size
                      · rw [if_pos (beq_iff_eq.mpr z3)]
                        exact wpS_pure ⟨lk4, .inl ⟨_, rfl, endA _ (ka) (kb + 1 + k2) _ lk4 (by omega) lo3⟩⟩
                      · rw [if_neg (by simpa using z3)]
                        refine wpS_bind (wp_elem (by omega) ?_)
                        have lo4 := stepA _ (ka) (kb + 1 + k2) (by omega) (by (clear q0 z2 bw0 e0 k0 bw klt hk1 hK4 m1 hij hka hj2 hj1 e hjb hja hK' hi hb1 ha1 hi2 hi1 ea a1 eb b1 hfirst hb ha hK; omega)) lo3 (h3 k2 (Nat.le_refl _) (by (clear q0 z2 bw0 e0 k0 bw klt hk1 hK4 m1 hij hka hj2 hj1 e hjb hja hK' hi hb1 ha1 hi2 hi1 ea a1 eb b1 hfirst hb ha hK; omega)))
                        by_cases z4 : ka + 1 + 1 = a.size
                        · rw [if_pos (beq_iff_eq.mpr z4)]
                          exact wpS_pure ⟨lk4, .inl ⟨_, rfl, endB _ (ka + 1) (kb + 1 + k2) _ lk4 z4 lo4⟩⟩
                        · rw [if_neg (by simpa using z4)]
                          by_cases z5 : (decide (k < 7) && decide (k2 < 7)) = true
                          · rw [if_pos z5]
                            exact wpS_pure ⟨lk4, .inr ⟨_, _, _, _, _, _, rfl, by omega, by (clear z5 z4 q0 z2 bw0 e0 k0 bw klt hk1 hK4 m1 hij hka hj2 hj1 e hjb hja hK' hi hb1 ha1 hi2 hi1 ea a1 eb b1 hfirst hb ha hK; omega), by (clear z5 z4 z3 q0 h1 z2 bw0 e0 k0 bw klt hk1 hK4 m1 hkb hka hj2 hj1 e hjb hja hK' hi hb1 ha1 hi2 hi1 ea a1 eb b1 hfirst hb ha hK; omega), lo4⟩⟩
                          · rw [if_neg z5]
                            exact wpS_pure ⟨lk4, _, _, _, _, _, _, rfl, by omega, by (clear z5 z4 q0 z2 bw0 e0 k0 bw klt hk1 hK4 m1 hij hka hj2 hj1 e hjb hja hK' hi hb1 ha1 hi2 hi1 ea a1 eb b1 hfirst hb ha hK; omega), by (clear z5 z4 z3 q0 h1 z2 bw0 e0 k0 bw klt hk1 hK4 m1 hkb hka hj2 hj1 e hjb hja hK' hi hb1 ha1 hi2 hi1 ea a1 eb b1 hfirst hb ha hK; omega), lo4⟩
                    · rw [if_neg q0]
                      have e2 : k2 = 0 := by (clear h1 z2 bw0 e0 k0 bw klt hk1 hK4 m1 hij hkb hka hj2 hj1 e hjb hja hK' hi hb1 ha1 hi2 hi1 ea a1 eb b1 hfirst hb ha hK; omega)
                      refine wpS_bind (wp_elem (by omega) ?_)
                      have lo4 := stepA _ (ka) (kb + 1) (by omega) (by omega) lo2 (h3 0 (by omega) (by omega))
                      by_cases z4 : ka + 1 + 1 = a.size
                      · rw [if_pos (beq_iff_eq.mpr z4)]
                        exact wpS_pure ⟨lk4, .inl ⟨_, rfl, endB _ (ka + 1) (kb + 1) _ lk4 z4 lo4⟩⟩
                      · rw [if_neg (by simpa using z4)]
                        by_cases z5 : (decide (k < 7) && decide (k2 < 7)) = true
                        · rw [if_pos z5]
                          exact wpS_pure ⟨lk4, .inr ⟨_, _, _, _, _, _, rfl, by omega, by (clear z5 z4 e2 q0 h1 bw0 e0 k0 bw klt hk1 hK4 m1 hij hka hj2 hj1 e hjb hja hK' hi hb1 ha1 hi2 hi1 ea a1 eb b1 hfirst hb ha hK; omega), by omega, lo4⟩⟩
                        · rw [if_neg z5]
                          exact wpS_pure ⟨lk4, _, _, _, _, _, _, rfl, by omega, by (clear z5 z4 e2 q0 h1 bw0 e0 k0 bw klt hk1 hK4 m1 hij hka hj2 hj1 e hjb hja hK' hi hb1 ha1 hi2 hi1 ea a1 eb b1 hfirst hb ha hK; omega), by omega, lo4⟩
              · rw [if_neg m1]
                refine wpS_bind (wp_mod fun st4 lk3 => ?_)
                have lk4 : Like st st4 := ⟨lk3.kind.trans lk3'.kind, lk3.arr.trans lk3'.arr, lk3.pend.trans lk3'.pend, lk3.fail.trans lk3'.fail⟩
                have hK4 : kindOf st4 = κ := lk4.kind.trans hK
                refine wpS_bind (wp_elem hkb ?_)
                refine wpS_bind (wp_gallop L hK4 (mb kb hkb) (fun i hi => ⟨by (clear hK4 m1 hij hkb hka hj2 hj1 e hjb hja hK' hb1 ha1 hi2 hi1 ea a1 eb b1 hfirst hb ha hK; omega), ma _ (by (clear hK4 m1 hij hkb hka hj2 hj1 e hjb hja hK' hb1 ha1 hi2 hi1 ea a1 eb b1 hfirst hb ha hK; omega))⟩) (by omega) (fun i => !blt (g b kb) (g a (ka + i))) (fun i hi => rfl) (fun i j h1 h2 h3 => monoA ka _ i j h1 (by (clear h3 h1 hK4 m1 hij hkb hka hj2 hj1 e hjb hja hK' hi hb1 ha1 hi2 hi1 ea a1 eb b1 hfirst hb ha hK; omega)) h3) fun k hk1 hk2 hk3 => ?_)
                dsimp only
                have klt : k < a.size - ka := by
                  rcases Nat.lt_or_ge k (a.size - ka) with z | z
                  · exact z
                  · have f := hk2 (a.size - 1 - ka) (by (clear hk1 hK4 m1 hij hkb hj2 hj1 e hjb hja hK' hi hb1 ha1 hi2 hi1 ea a1 eb b1 hfirst hb ha hK; omega))
                    rw [show ka + (a.size - 1 - ka) = a.size - 1 by (clear f z hk1 hK4 m1 hij hkb hj2 hj1 e hjb hja hK' hi hb1 ha1 hi2 hi1 ea a1 eb b1 hfirst hb ha hK; omega), hlast kb hkb] at f
                    cases f
                have hk2' : ∀ i, i < k → blt (g b kb) (g a (ka + i)) = false := fun i hi => by have := hk2 i hi; simpa using this
                have bw : blt (g b kb) (g a (ka + k)) = true := by have := hk3 k (Nat.le_refl _) klt; simpa using this
                by_cases k0 : k > 0
                · rw [if_pos k0]
                  have lo1 := chunkA out ka kb k (by omega) hkb lo hk2'
                  by_cases z : ka + k + 1 = a.size
                  · rw [if_pos (beq_iff_eq.mpr z)]
                    exact wpS_pure ⟨lk4, .inl ⟨_, rfl, endB _ (ka + k) kb _ lk4 z lo1⟩⟩
                  · rw [if_neg (by simpa using z), if_neg (by have : ¬ ka + k = a.size := by (clear z k0 bw hk1 hK4 m1 hij hkb hka hj2 hj1 e hjb hja hK' hi hb1 ha1 hi2 hi1 ea a1 eb b1 hfirst hb ha hK; omega)
                                                              simpa using this)]
                    refine wpS_bind (wp_elem hkb ?_)
                    have lo2 := stepB _ (ka + k) kb (by (clear z k0 bw hk1 hK4 m1 hij hkb hka hj2 hj1 e hjb hja hK' hi hb1 ha1 hi2 hi1 ea a1 eb b1 hfirst hb ha hK; omega)) hkb lo1 bw
                    by_cases z2 : kb + 1 = b.size
                    · rw [if_pos (beq_iff_eq.mpr z2)]
                      exact wpS_pure ⟨lk4, .inl ⟨_, rfl, endA _ (ka + k) (kb + 1) _ lk4 (by omega) lo2⟩⟩
                    · rw [if_neg (by simpa using z2)]
                      refine wpS_bind (wp_elem (by (clear z2 z k0 bw hk1 hK4 m1 hij hkb hka hj2 hj1 e hjb hja hK' hi hb1 ha1 hi2 hi1 ea a1 eb b1 hfirst hb ha hK; omega)) ?_)
                      refine wpS_bind (wp_gallop L hK4 (ma _ (by (clear z2 z k0 bw hk1 hK4 m1 hij hkb hka hj2 hj1 e hjb hja hK' hi hb1 ha1 hi2 hi1 ea a1 eb b1 hfirst hb ha hK; omega))) (fun i hi => ⟨by omega, mb _ (by omega)⟩) (by (clear z k0 bw klt hk1 hK4 m1 hij hka hj2 hj1 e hjb hja hK' hi hb1 ha1 hi2 hi1 ea a1 eb b1 hfirst hb ha hK; omega)) (fun i => blt (g b (kb + 1 + i)) (g a (ka + k))) (fun i hi => rfl) (fun i j h1 h2 h3 => monoB (kb + 1) _ i j h1 (by (clear h3 h1 z2 z k0 bw klt hk1 hK4 m1 hij hkb hka hj2 hj1 e hjb hja hK' hi hb1 ha1 hi2 hi1 ea a1 eb b1 hfirst hb ha hK; omega)) h3) fun k2 h1 h2 h3 => ?_)
                      dsimp only
                      by_cases q0 : k2 > 0
                      · rw [if_pos q0]
                        have lo3 := chunkB _ (ka + k) (kb + 1) k2 (by omega) (by (clear q0 h1 z2 z k0 bw hk1 hK4 m1 hij hkb hka hj2 hj1 e hjb hja hK' hi hb1 ha1 hi2 hi1 ea a1 eb b1 hfirst hb ha hK; omega)) lo2 h2
                        by_cases z3 : kb + 1 + k2 = b.size
                        · rw [if_pos (beq_iff_eq.mpr z3)]
                          exact wpS_pure ⟨lk4, .inl ⟨_, rfl, endA _ (ka + k) (kb + 1 + k2) _ lk4 (by omega) lo3⟩⟩
                        · rw [if_neg (by simpa using z3)]
                          refine wpS_bind (wp_elem (by (clear z3 q0 h1 z2 z k0 bw hk1 hK4 m1 hij hkb hka hj2 hj1 e hjb hja hK' hi hb1 ha1 hi2 hi1 ea a1 eb b1 hfirst hb ha hK; omega)) ?_)
                          have lo4 := stepA _ (ka + k) (kb + 1 + k2) (by (clear z3 q0 h1 z2 z k0 bw hk1 hK4 m1 hij hkb hka hj2 hj1 e hjb hja hK' hi hb1 ha1 hi2 hi1 ea a1 eb b1 hfirst hb ha hK; omega)) (by (clear q0 z2 z k0 bw klt hk1 hK4 m1 hij hka hj2 hj1 e hjb hja hK' hi hb1 ha1 hi2 hi1 ea a1 eb b1 hfirst hb ha hK; omega)) lo3 (h3 k2 (Nat.le_refl _) (by (clear q0 z2 z k0 bw klt hk1 hK4 m1 hij hka hj2 hj1 e hjb hja hK' hi hb1 ha1 hi2 hi1 ea a1 eb b1 hfirst hb ha hK; omega)))
                          by_cases z4 : ka + k + 1 + 1 = a.size
                          · rw [if_pos (beq_iff_eq.mpr z4)]
                            exact wpS_pure ⟨lk4, .inl ⟨_, rfl, endB _ (ka + k + 1) (kb + 1 + k2) _ lk4 z4 lo4⟩⟩
                          · rw [if_neg (by simpa using z4)]
                            by_cases z5 : (decide (k < 7) && decide (k2 < 7)) = true
                            · rw [if_pos z5]
                              exact wpS_pure ⟨lk4, .inr ⟨_, _, _, _, _, _, rfl, by (clear z5 z3 q0 h1 z2 k0 bw hk1 hK4 m1 hij hkb hka hj2 hj1 e hjb hja hK' hi hb1 ha1 hi2 hi1 ea a1 eb b1 hfirst hb ha hK; omega), by (clear z5 z4 q0 z2 z k0 bw klt hk1 hK4 m1 hij hka hj2 hj1 e hjb hja hK' hi hb1 ha1 hi2 hi1 ea a1 eb b1 hfirst hb ha hK; omega), by (clear z5 z4 z3 q0 h1 z2 z k0 bw klt hk1 hK4 m1 hkb hka hj2 hj1 e hjb hja hK' hi hb1 ha1 hi2 hi1 ea a1 eb b1 hfirst hb ha hK; omega), lo4⟩⟩
                            · rw [if_neg z5]
                              exact wpS_pure ⟨lk4, _, _, _, _, _, _, rfl, by (clear z5 z3 q0 h1 z2 k0 bw hk1 hK4 m1 hij hkb hka hj2 hj1 e hjb hja hK' hi hb1 ha1 hi2 hi1 ea a1 eb b1 hfirst hb ha hK; omega), by (clear z5 z4 q0 z2 z k0 bw klt hk1 hK4 m1 hij hka hj2 hj1 e hjb hja hK' hi hb1 ha1 hi2 hi1 ea a1 eb b1 hfirst hb ha hK; omega), by (clear z5 z4 z3 q0 h1 z2 z k0 bw klt hk1 hK4 m1 hkb hka hj2 hj1 e hjb hja hK' hi hb1 ha1 hi2 hi1 ea a1 eb b1 hfirst hb ha hK; omega), lo4⟩
                      · rw [if_neg q0]
                        have e2 : k2 = 0 := by (clear h1 z2 z k0 bw klt hk1 hK4 m1 hij hkb hka hj2 hj1 e hjb hja hK' hi hb1 ha1 hi2 hi1 ea a1 eb b1 hfirst hb ha hK; omega)
                        refine wpS_bind (wp_elem (by (clear e2 q0 h1 z2 z k0 bw hk1 hK4 m1 hij hkb hka hj2 hj1 e hjb hja hK' hi hb1 ha1 hi2 hi1 ea a1 eb b1 hfirst hb ha hK; omega)) ?_)
                        have lo4 := stepA _ (ka + k) (kb + 1) (by (clear e2 q0 h1 z2 z k0 bw hk1 hK4 m1 hij hkb hka hj2 hj1 e hjb hja hK' hi hb1 ha1 hi2 hi1 ea a1 eb b1 hfirst hb ha hK; omega)) (by (clear e2 q0 h1 z k0 bw klt hk1 hK4 m1 hij hka hj2 hj1 e hjb hja hK' hi hb1 ha1 hi2 hi1 ea a1 eb b1 hfirst hb ha hK; omega)) lo2 (h3 0 (by omega) (by omega))
                        by_cases z4 : ka + k + 1 + 1 = a.size
                        · rw [if_pos (beq_iff_eq.mpr z4)]
                          exact wpS_pure ⟨lk4, .inl ⟨_, rfl, endB _ (ka + k + 1) (kb + 1) _ lk4 z4 lo4⟩⟩
                        · rw [if_neg (by simpa using z4)]
                          by_cases z5 : (decide (k < 7) && decide (k2 < 7)) = true
                          · rw [if_pos z5]
                            exact wpS_pure ⟨lk4, .inr ⟨_, _, _, _, _, _, rfl, by (clear z5 e2 q0 h1 z2 k0 bw hk1 hK4 m1 hij hkb hka hj2 hj1 e hjb hja hK' hi hb1 ha1 hi2 hi1 ea a1 eb b1 hfirst hb ha hK; omega), by omega, by omega, lo4⟩⟩
                          · rw [if_neg z5]
                            exact wpS_pure ⟨lk4, _, _, _, _, _, _, rfl, by (clear z5 e2 q0 h1 z2 k0 bw hk1 hK4 m1 hij hkb hka hj2 hj1 e hjb hja hK' hi hb1 ha1 hi2 hi1 ea a1 eb b1 hfirst hb ha hK; omega), by omega, by (clear z5 z4 e2 q0 h1 z2 z k0 bw klt hk1 hK4 m1 hkb hka hj2 hj1 e hjb hja hK' hi hb1 ha1 hi2 hi1 ea a1 eb b1 hfirst hb ha hK; omega), lo4⟩
                · rw [if_neg k0]
                  have e0 : k = 0 := by omega
                  have bw0 : blt (g b kb) (g a ka) = true := by rw [e0] at bw; exact bw
                  refine wpS_bind (wp_elem hkb ?_)
                  have lo2 := stepB _ (ka) kb (by omega) hkb lo bw0
                  by_cases z2 : kb + 1 = b.size
                  · rw [if_pos (beq_iff_eq.mpr z2)]
                    exact wpS_pure ⟨lk4, .inl ⟨_, rfl, endA _ (ka) (kb + 1) _ lk4 (by omega) lo2⟩⟩
                  · rw [if_neg (by simpa using z2)]
                    refine wpS_bind (wp_elem (by omega) ?_)
                    refine wpS_bind (wp_gallop L hK4 (ma _ (by omega)) (fun i hi => ⟨by omega, mb _ (by omega)⟩) (by (clear bw0 e0 k0 bw klt hk1 hK4 m1 hij hka hj2 hj1 e hjb hja hK' hi hb1 ha1 hi2 hi1 ea a1 eb b1 hfirst hb ha hK; omega)) (fun i => blt (g b (kb + 1 + i)) (g a (ka))) (fun i hi => rfl) (fun i j h1 h2 h3 => monoB (kb + 1) _ i j h1 (by (clear h3 h1 z2 bw0 e0 k0 bw klt hk1 hK4 m1 hij hkb hka hj2 hj1 e hjb hja hK' hi hb1 ha1 hi2 hi1 ea a1 eb b1 hfirst hb ha hK; omega)) h3) fun k2 h1 h2 h3 => ?_)
                    dsimp only
                    by_cases q0 : k2 > 0
                    · rw [if_pos q0]
                      have lo3 := chunkB _ (ka) (kb + 1) k2 (by omega) (by omega) lo2 h2
                      by_cases z3 : kb + 1 + k2 = b.size
                      · rw [if_pos (beq_iff_eq.mpr z3)]
                        exact wpS_pure ⟨lk4, .inl ⟨_, rfl, endA _ (ka) (kb + 1 + k2) _ lk4 (by omega) lo3⟩⟩
                      · rw [if_neg (by simpa using z3)]
                        refine wpS_bind (wp_elem (by omega) ?_)
                        have lo4 := stepA _ (ka) (kb + 1 + k2) (by omega) (by (clear q0 z2 bw0 e0 k0 bw klt hk1 hK4 m1 hij hka hj2 hj1 e hjb hja hK' hi hb1 ha1 hi2 hi1 ea a1 eb b1 hfirst hb ha hK; omega)) lo3 (h3 k2 (Nat.le_refl _) (by (clear q0 z2 bw0 e0 k0 bw klt hk1 hK4 m1 hij hka hj2 hj1 e hjb hja hK' hi hb1 ha1 hi2 hi1 ea a1 eb b1 hfirst hb ha hK; omega)))
                        by_cases z4 : ka + 1 + 1 = a.size
                        · rw [if_pos (beq_iff_eq.mpr z4)]
                          exact wpS_pure ⟨lk4, .inl ⟨_, rfl, endB _ (ka + 1) (kb + 1 + k2) _ lk4 z4 lo4⟩⟩
                        · rw [if_neg (by simpa using z4)]
                          by_cases z5 : (decide (k < 7) && decide (k2 < 7)) = true
                          · rw [if_pos z5]
                            exact wpS_pure ⟨lk4, .inr ⟨_, _, _, _, _, _, rfl, by omega, by (clear z5 z4 q0 z2 bw0 e0 k0 bw klt hk1 hK4 m1 hij hka hj2 hj1 e hjb hja hK' hi hb1 ha1 hi2 hi1 ea a1 eb b1 hfirst hb ha hK; omega), by (clear z5 z4 z3 q0 h1 z2 bw0 e0 k0 bw klt hk1 hK4 m1 hkb hka hj2 hj1 e hjb hja hK' hi hb1 ha1 hi2 hi1 ea a1 eb b1 hfirst hb ha hK; omega), lo4⟩⟩
                          · rw [if_neg z5]
                            exact wpS_pure ⟨lk4, _, _, _, _, _, _, rfl, by omega, by (clear z5 z4 q0 z2 bw0 e0 k0 bw klt hk1 hK4 m1 hij hka hj2 hj1 e hjb hja hK' hi hb1 ha1 hi2 hi1 ea a1 eb b1 hfirst hb ha hK; omega), by (clear z5 z4 z3 q0 h1 z2 bw0 e0 k0 bw klt hk1 hK4 m1 hkb hka hj2 hj1 e hjb hja hK' hi hb1 ha1 hi2 hi1 ea a1 eb b1 hfirst hb ha hK; omega), lo4⟩
                    · rw [if_neg q0]
                      have e2 : k2 = 0 := by (clear h1 z2 bw0 e0 k0 bw klt hk1 hK4 m1 hij hkb hka hj2 hj1 e hjb hja hK' hi hb1 ha1 hi2 hi1 ea a1 eb b1 hfirst hb ha hK; omega)
                      refine wpS_bind (wp_elem (by omega) ?_)
                      have lo4 := stepA _ (ka) (kb + 1) (by omega) (by omega) lo2 (h3 0 (by omega) (by omega))
                      by_cases z4 : ka + 1 + 1 = a.size
                      · rw [if_pos (beq_iff_eq.mpr z4)]
                        exact wpS_pure ⟨lk4, .inl ⟨_, rfl, endB _ (ka + 1) (kb + 1) _ lk4 z4 lo4⟩⟩
                      · rw [if_neg (by simpa using z4)]
                        by_cases z5 : (decide (k < 7) && decide (k2 < 7)) = true
                        · rw [if_pos z5]
                          exact wpS_pure ⟨lk4, .inr ⟨_, _, _, _, _, _, rfl, by omega, by (clear z5 z4 e2 q0 h1 bw0 e0 k0 bw klt hk1 hK4 m1 hij hka hj2 hj1 e hjb hja hK' hi hb1 ha1 hi2 hi1 ea a1 eb b1 hfirst hb ha hK; omega), by omega, lo4⟩⟩
                        · rw [if_neg z5]
                          exact wpS_pure ⟨lk4, _, _, _, _, _, _, rfl, by omega, by (clear z5 z4 e2 q0 h1 bw0 e0 k0 bw klt hk1 hK4 m1 hij hka hj2 hj1 e hjb hja hK' hi hb1 ha1 hi2 hi1 ea a1 eb b1 hfirst hb ha hK; omega), by omega, lo4⟩
            · rintro c st3 ⟨lk3, out, ka, kb, m', p, q, rfl, hka, hkb, hij, lo⟩
              have em : max 0 (a.size + b.size) = a.size + b.size := Nat.max_eq_right (Nat.zero_le _)
              rw [em] at hij
              (clear em e hjb hja hK' hi hb1 ha1 hi2 hi1 ea a1 eb b1 hfirst hb ha hK; omega)
            · rintro ⟨r, c⟩ st3 ⟨lk3, ⟨res, e, q⟩ | ⟨out, ka, kb, m', p, q, e, hka, hkb, hij, lo⟩⟩
              · dsimp only at e
                subst e
                exact wpS_pure ⟨res, rfl, q⟩
              · obtain ⟨rfl, rfl⟩ := Prod.mk.inj e
                dsimp only
                refine wpS_bind (wpS_modify (wpS_pure ⟨⟨lk3.kind, lk3.arr, lk3.pend, lk3.fail⟩, _, _, _, _, rfl, hka, hkb, by omega, lo⟩))
      · rintro c st' ⟨lk, out, ia, ib, mg, rfl, ha1, hb1, hi, lo⟩
        have em : max 0 (a.size + b.size) = a.size + b.size := Nat.max_eq_right (Nat.zero_le _)
        rw [em] at hi
        (clear em ea a1 eb b1 hfirst hb ha hK; omega)
      · rintro ⟨r, c⟩ st' ⟨res, e, q⟩
        dsimp only at e
        subst e
        exact wpS_pure q
end

section
variable {blt : Keyed → Keyed → Bool}
structure Hi (blt : Keyed → Keyed → Bool) (all o ra rb : List Keyed) : Prop where
  perm : ((ra ++ rb) ++ o).Perm all
  srt : PW blt o
  high : ∀ x ∈ ra ++ rb, ∀ y ∈ o, le blt x y
theorem Hi.a {all o ca ra rb : List Keyed} (h : Hi blt all o (ra ++ ca) rb) (hs : PW blt (ra ++ ca)) (hc : ∀ x ∈ rb, ∀ y ∈ ca, le blt x y) : Hi blt all (ca ++ o) ra rb where
  perm := by
    refine List.Perm.trans ?_ h.perm
    rw [← List.append_assoc]
    refine List.Perm.append_right o ?_
    rw [List.append_assoc, List.append_assoc]
    exact List.Perm.append_left ra List.perm_append_comm
  srt := List.pairwise_append.mpr ⟨(List.pairwise_append.mp hs).2.1, h.srt, fun x hx y hy => h.high x (by simp [hx]) y hy⟩
  high := fun x hx y hy => by
    rcases List.mem_append.mp hy with q | q
    · rcases List.mem_append.mp hx with z | z
      · exact (List.pairwise_append.mp hs).2.2 x z y q
      · exact hc x z y q
    · exact h.high x (by rcases List.mem_append.mp hx with z | z <;> simp [z]) y q
theorem Hi.b {all o ra cb rb : List Keyed} (h : Hi blt all o ra (rb ++ cb)) (hs : PW blt (rb ++ cb)) (hc : ∀ x ∈ ra, ∀ y ∈ cb, le blt x y) : Hi blt all (cb ++ o) ra rb where
  perm := by
    refine List.Perm.trans ?_ h.perm
    rw [← List.append_assoc]
    refine List.Perm.append_right o ?_
    rw [List.append_assoc]
  srt := List.pairwise_append.mpr ⟨(List.pairwise_append.mp hs).2.1, h.srt, fun x hx y hy => h.high x (by simp [hx]) y hy⟩
  high := fun x hx y hy => by
    rcases List.mem_append.mp hy with q | q
    · rcases List.mem_append.mp hx with z | z
      · exact hc x z y q
      · exact (List.pairwise_append.mp hs).2.2 x z y q
    · exact h.high x (by rcases List.mem_append.mp hx with z | z <;> simp [z]) y q
theorem take_g {a : Array Keyed} {i : Nat} (h : i < a.size) : a.toList.take (i + 1) = a.toList.take i ++ [g a i] := by
  have e := g_some h
  rw [← Array.getElem?_toList] at e
  rw [List.take_add_one, e]
  rfl
theorem mem_take_g {a : Array Keyed} {n : Nat} {x : Keyed} (h : x ∈ a.toList.take n) : ∃ j, j < n ∧ j < a.size ∧ x = g a j := by
  obtain ⟨k, hk, e⟩ := List.mem_iff_getElem.mp h
  rw [List.length_take, Array.length_toList] at hk
  refine ⟨k, by (clear e; omega), by (clear e; omega), ?_⟩
  have e2 := g_some (xs := a) (i := k) (by (clear e; omega))
  rw [← Array.getElem?_toList, List.getElem?_eq_getElem (by rw [Array.length_toList]; (clear e2 e; omega))] at e2
  rw [List.getElem_take] at e
  rw [← e]
  exact Option.some.inj e2
theorem mem_cut_g {a : Array Keyed} {i n : Nat} {x : Keyed} (h : x ∈ (a.extract i n).toList) : ∃ j, i ≤ j ∧ j < n ∧ j < a.size ∧ x = g a j := by
  rw [Array.toList_extract, List.extract_eq_take_drop] at h
  obtain ⟨k, hk, e⟩ := List.mem_iff_getElem.mp h
  rw [List.length_take, List.length_drop, Array.length_toList] at hk
  refine ⟨i + k, by (clear e hk; omega), by (clear e; omega), by (clear e; omega), ?_⟩
  have e2 := g_some (xs := a) (i := i + k) (by (clear e; omega))
  rw [← Array.getElem?_toList, List.getElem?_eq_getElem (by rw [Array.length_toList]; (clear e2 e; omega))] at e2
  rw [List.getElem_take, List.getElem_drop] at e
  rw [← e]
  exact Option.some.inj e2
theorem pw_take {a : Array Keyed} (h : On blt a 0 a.size) (n : Nat) : PW blt (a.toList.take n) := by
  have := pw_of_on h 0
  rw [List.drop_zero] at this
  exact List.Pairwise.sublist (List.take_sublist _ _) this
theorem take_cut {a : Array Keyed} {i n : Nat} (h : i ≤ n) : a.toList.take n = a.toList.take i ++ (a.extract i n).toList := by
  rw [Array.toList_extract, List.extract_eq_take_drop]
  obtain ⟨k, rfl⟩ : ∃ k, n = i + k := ⟨n - i, by omega⟩
  rw [List.take_add, show i + k - i = k by (clear h; omega)]
theorem cut0 (a : Array Keyed) (n : Nat) : (a.extract 0 n).toList = a.toList.take n := by
  rw [Array.toList_extract, List.extract_eq_take_drop, List.drop_zero, Nat.sub_zero]
end
section
variable {prog : Program} {w : World} {A : Around} {E : Value → Shared → Prop} {s : Shared} {a₀ : Array Keyed} {κ : SortKind} {blt : Keyed → Keyed → Bool}
variable (L : Runs prog w A E s a₀ κ blt)
include L
theorem wp_mergeHi {a b : Array Keyed} {st : SortSt} {Q : Array Keyed → SortSt → Prop} (C : Cmp blt) (hK : kindOf st = κ) (hm : ∀ x, x ∈ a.toList ++ b.toList → x ∈ a₀) (oa : On blt a 0 a.size) (ob : On blt b 0 b.size) (ha : 0 < a.size) (hb : 0 < b.size)
    (hfirst : blt (g b 0) (g a 0) = true) (hlast : ∀ j, j < b.size → blt (g b j) (g a (a.size - 1)) = true)
    (h : ∀ res st', Like st st' → res.toList.Perm (a.toList ++ b.toList) → PW blt res.toList → Q res st') : wpS (model prog w) A E s (mergeHi' a b) Q st := by
  have ma : ∀ i, i < a.size → g a i ∈ a₀ := fun i hi => hm _ (by have := g_mem hi; simp [this])
  have mb : ∀ i, i < b.size → g b i ∈ a₀ := fun i hi => hm _ (by have := g_mem hi; simp [this])
  have bfirst : ∀ i, i < a.size → blt (g b 0) (g a i) = true := fun i hi => by
    by_cases i0 : i = 0
    · rw [i0]; exact hfirst
    · cases z : blt (g b 0) (g a i) with
      | true => rfl
      | false =>
        have f : blt (g b 0) (g a 0) = false := C.trans (oa 0 i (Nat.le_refl _) (by (clear z hi hfirst hb ha hK; omega)) hi) z
        rw [hfirst] at f
        cases f
  have chunkA : ∀ (out : Array Keyed) (na nb k : Nat), k ≤ na → na ≤ a.size → 1 ≤ nb → nb ≤ b.size → Hi blt (a.toList ++ b.toList) out.reverse.toList (a.toList.take na) (b.toList.take nb) → (∀ i, k ≤ i → i < na → blt (g b (nb - 1)) (g a i) = true) →
      Hi blt (a.toList ++ b.toList) (out ++ (a.extract k na).reverse).reverse.toList (a.toList.take k) (b.toList.take nb) := fun out na nb k h1 h2 h3 h4 lo hk => by
    have er : (out ++ (a.extract k na).reverse).reverse.toList = (a.extract k na).toList ++ out.reverse.toList := by simp
    have pa := pw_take oa na
    rw [take_cut h1] at lo pa
    rw [er]
    refine lo.a pa fun x hx y hy => ?_
    obtain ⟨i, hi1, hi2, hi3, rfl⟩ := mem_cut_g hy
    obtain ⟨j, hj1, hj2, rfl⟩ := mem_take_g hx
    have l1 := C.of_lt (hk i hi1 hi2)
    by_cases ej : j = nb - 1
    · rw [ej]; exact l1
    · exact C.trans (ob j (nb - 1) (Nat.zero_le _) (by (clear l1 hj2 hi3 hi2 hi1 er h4 h3 h2 h1 hfirst hb ha hK; omega)) (by (clear ej l1 hj2 hj1 hi3 hi2 hi1 er h3 h2 h1 hfirst ha hK; omega))) l1
  have chunkB : ∀ (out : Array Keyed) (na nb k : Nat), k ≤ nb → nb ≤ b.size → 1 ≤ na → na ≤ a.size → Hi blt (a.toList ++ b.toList) out.reverse.toList (a.toList.take na) (b.toList.take nb) → (∀ i, k ≤ i → i < nb → blt (g b i) (g a (na - 1)) = false) →
      Hi blt (a.toList ++ b.toList) (out ++ (b.extract k nb).reverse).reverse.toList (a.toList.take na) (b.toList.take k) := fun out na nb k h1 h2 h3 h4 lo hk => by
    have er : (out ++ (b.extract k nb).reverse).reverse.toList = (b.extract k nb).toList ++ out.reverse.toList := by simp
    have pb := pw_take ob nb
    rw [take_cut h1] at lo pb
    rw [er]
    refine lo.b pb fun x hx y hy => ?_
    obtain ⟨i, hi1, hi2, hi3, rfl⟩ := mem_cut_g hy
    obtain ⟨j, hj1, hj2, rfl⟩ := mem_take_g hx
    have l1 : le blt (g a (na - 1)) (g b i) := hk i hi1 hi2
    by_cases ej : j = na - 1
    · rw [ej]; exact l1
    · exact C.trans (oa j (na - 1) (Nat.zero_le _) (by (clear l1 hj2 hi3 hi2 hi1 er h4 h3 h2 h1 hfirst hb ha hK; omega)) (by (clear ej l1 hj2 hj1 hi3 hi2 hi1 er h3 h2 h1 hfirst hb hK; omega))) l1
  have one : ∀ (x : Array Keyed) (i : Nat), i < x.size → (x.extract i (i + 1)).reverse = #[g x i] := fun x i hi => by
    have : x.extract i (i + 1) = #[g x i] := by
      apply Array.ext'
      rw [cut_list, drop_g hi]
      rfl
    rw [this]
    rfl
  have stepA : ∀ (out : Array Keyed) (na nb : Nat), 1 ≤ na → na ≤ a.size → 1 ≤ nb → nb ≤ b.size → Hi blt (a.toList ++ b.toList) out.reverse.toList (a.toList.take na) (b.toList.take nb) → blt (g b (nb - 1)) (g a (na - 1)) = true →
      Hi blt (a.toList ++ b.toList) (out.push (g a (na - 1))).reverse.toList (a.toList.take (na - 1)) (b.toList.take nb) := fun out na nb h1 h2 h3 h4 lo hk => by
    have := chunkA out na nb (na - 1) (by omega) h2 h3 h4 lo fun i hi hj => by rw [show i = na - 1 by (clear hk h4 h3 h2 h1 hfirst hb ha hK; omega)]; exact hk
    rwa [show a.extract (na - 1) na = a.extract (na - 1) (na - 1 + 1) by rw [show na - 1 + 1 = na by (clear hk h4 h3 h2 hfirst hb ha hK; omega)], one a (na - 1) (by omega), ← Array.push_eq_append] at this
  have stepB : ∀ (out : Array Keyed) (na nb : Nat), 1 ≤ na → na ≤ a.size → 1 ≤ nb → nb ≤ b.size → Hi blt (a.toList ++ b.toList) out.reverse.toList (a.toList.take na) (b.toList.take nb) → blt (g b (nb - 1)) (g a (na - 1)) = false →
      Hi blt (a.toList ++ b.toList) (out.push (g b (nb - 1))).reverse.toList (a.toList.take na) (b.toList.take (nb - 1)) := fun out na nb h1 h2 h3 h4 lo hk => by
    have := chunkB out na nb (nb - 1) (by omega) h4 h1 h2 lo fun i hi hj => by rw [show i = nb - 1 by (clear hk h4 h3 h2 h1 hfirst hb ha hK; omega)]; exact hk
    rwa [show b.extract (nb - 1) nb = b.extract (nb - 1) (nb - 1 + 1) by rw [show nb - 1 + 1 = nb by (clear hk h4 h2 h1 hfirst hb ha hK; omega)], one b (nb - 1) (by omega), ← Array.push_eq_append] at this
  have endA : ∀ (out : Array Keyed) (na nb : Nat) (st' : SortSt), Like st st' → na = 0 → nb ≤ b.size → Hi blt (a.toList ++ b.toList) out.reverse.toList (a.toList.take na) (b.toList.take nb) → Q (a.extract 0 na ++ b.extract 0 nb ++ out.reverse) st' := fun out na nb st' lk hn hb2 lo => by
    subst hn
    have e : (a.extract 0 0 ++ b.extract 0 nb ++ out.reverse).toList = b.toList.take nb ++ out.reverse.toList := by
      rw [Array.toList_append, Array.toList_append, cut0, cut0]
      rfl
    refine h _ st' lk ?_ ?_
    · rw [e]; exact lo.perm
    · rw [e]; exact List.pairwise_append.mpr ⟨pw_take ob nb, lo.srt, fun x hx y hy => lo.high x (by simp [hx]) y hy⟩
  have endB : ∀ (out : Array Keyed) (na nb : Nat) (st' : SortSt), Like st st' → nb = 1 → na ≤ a.size → Hi blt (a.toList ++ b.toList) out.reverse.toList (a.toList.take na) (b.toList.take nb) → Q (b.extract 0 nb ++ a.extract 0 na ++ out.reverse) st' := fun out na nb st' lk hn ha2 lo => by
    subst hn
    have e : (b.extract 0 1 ++ a.extract 0 na ++ out.reverse).toList = (b.toList.take 1 ++ a.toList.take na) ++ out.reverse.toList := by
      rw [Array.toList_append, Array.toList_append, cut0, cut0]
    refine h _ st' lk ?_ ?_
    · rw [e]; exact List.Perm.trans (List.Perm.append_right _ List.perm_append_comm) lo.perm
    · rw [e]
      refine List.pairwise_append.mpr ⟨List.pairwise_append.mpr ⟨pw_take ob 1, pw_take oa na, fun x hx y hy => ?_⟩, lo.srt, fun x hx y hy => lo.high x ?_ y hy⟩
      · obtain ⟨i, hi1, hi2, rfl⟩ := mem_take_g hx
        obtain ⟨j, hj1, hj2, rfl⟩ := mem_take_g hy
        rw [show i = 0 by (clear hj2 hj1 hi2 e ha2 hfirst hb ha hK; omega)]
        exact C.of_lt (bfirst j hj2)
      · rcases List.mem_append.mp hx with z | z
        · exact List.mem_append.mpr (.inr z)
        · exact List.mem_append.mpr (.inl z)
  have monoA : ∀ (ka : Nat) (x : Keyed) (i j : Nat), i ≤ j → ka + j < a.size → (!blt x (g a (ka + j))) = true → (!blt x (g a (ka + i))) = true := fun ka x i j h1 h2 h3 => by
    have h3 : blt x (g a (ka + j)) = false := by simpa using h3
    by_cases e : i = j
    · subst e; simpa using h3
    · have := C.trans (oa (ka + i) (ka + j) (Nat.zero_le _) (by (clear h3 h2 hfirst hb ha hK; omega)) h2) h3
      simpa using this
  have monoB : ∀ (kb : Nat) (x : Keyed) (i j : Nat), i ≤ j → kb + j < b.size → blt (g b (kb + j)) x = true → blt (g b (kb + i)) x = true := fun kb x i j h1 h2 h3 => by
    by_cases e : i = j
    · subst e; exact h3
    · have q := ob (kb + i) (kb + j) (Nat.zero_le _) (by (clear h3 h2 hfirst hb ha hK; omega)) h2
      cases z : blt (g b (kb + i)) x with
      | true => rfl
      | false =>
        have f : blt (g b (kb + j)) x = false := C.trans z q
        rw [h3] at f
        cases f
  refine wpS_bind ?_
  dsimp only
  refine wpS_lift (wpAny_rule ⟨rfl, ?_⟩)
  refine wpS_bind (wp_elem (by (clear hfirst hb hK; omega)) ?_)
  have start : Hi blt (a.toList ++ b.toList) (#[g a (a.size - 1)] : Array Keyed).reverse.toList (a.toList.take (a.size - 1)) (b.toList.take b.size) := by
    have l0 : Hi blt (a.toList ++ b.toList) [] (a.toList.take (a.size - 1) ++ [g a (a.size - 1)]) (b.toList.take b.size) := by
      refine ⟨?_, List.Pairwise.nil, fun x _ y hy => absurd hy List.not_mem_nil⟩
      rw [← take_g (by (clear hfirst hb hK; omega)), show a.size - 1 + 1 = a.size by (clear hfirst hb hK; omega), List.append_nil]
      have e1 : a.toList.take a.size = a.toList := List.take_of_length_le (by rw [Array.length_toList]; exact Nat.le_refl _)
      have e2 : b.toList.take b.size = b.toList := List.take_of_length_le (by rw [Array.length_toList]; exact Nat.le_refl _)
      rw [e1, e2]
    have := l0.a (by rw [← take_g (by (clear hfirst hb hK; omega))]; exact pw_take oa _) (fun x hx y hy => by
      rw [List.mem_singleton.mp hy]
      obtain ⟨j, _, hj, rfl⟩ := mem_take_g hx
      exact C.of_lt (hlast j hj))
    exact this
  by_cases a1 : a.size - 1 = 0
  · rw [if_pos (beq_iff_eq.mpr a1)]
    exact wpS_pure (endA _ (a.size - 1) b.size st (Like.refl _) a1 (Nat.le_refl _) start)
  · rw [if_neg (by simpa using a1)]
    by_cases b1 : b.size = 1
    · rw [if_pos (beq_iff_eq.mpr b1)]
      exact wpS_pure (endB _ (a.size - 1) b.size st (Like.refl _) b1 (by (clear b1 a1 hfirst hb ha hK; omega)) start)
    · rw [if_neg (by simpa using b1)]
      refine wpS_bind (wpS_get ?_)
      refine wpS_bind (wpS_mono (wpS_forRange (I := fun i c st' => Like st st' ∧ ∃ na nb out mg, c = (none, na, nb, out, mg) ∧ 1 ≤ na ∧ na ≤ a.size ∧ 2 ≤ nb ∧ nb ≤ b.size ∧ na + nb + i ≤ a.size + b.size ∧ Hi blt (a.toList ++ b.toList) out.reverse.toList (a.toList.take na) (b.toList.take nb))
        (Q := fun c st' => ∃ res, c.1 = some res ∧ Q res st') ?_ ?_ ⟨Like.refl _, _, _, #[g a (a.size - 1)], _, rfl, by (clear b1 hfirst hb ha hK; omega), by omega, by omega, Nat.le_refl _, by omega, start⟩) ?_)
      · rintro i c st' hi1 hi2 ⟨lk, na, nb, out, mg, rfl, ha1, ha2, hb1, hb2, hi, lo⟩
        have hK' : kindOf st' = κ := lk.kind.trans hK
        refine wpS_bind (wpS_mono (wpS_forRange (I := fun j c st2 => st2 = st' ∧ ∃ ja jb out p q, c = (none, ja, jb, out, p, q) ∧ 1 ≤ ja ∧ ja ≤ a.size ∧ 2 ≤ jb ∧ jb ≤ b.size ∧ ja + jb ≤ na + nb ∧ Hi blt (a.toList ++ b.toList) out.reverse.toList (a.toList.take ja) (b.toList.take jb))
          (Q := fun c st2 => st2 = st' ∧ ((∃ res, c.1 = some res ∧ Q res st') ∨ ∃ ja jb out p q, c = (none, ja, jb, out, p, q) ∧ 1 ≤ ja ∧ ja ≤ a.size ∧ 2 ≤ jb ∧ jb ≤ b.size ∧ ja + jb ≤ na + nb ∧ Hi blt (a.toList ++ b.toList) out.reverse.toList (a.toList.take ja) (b.toList.take jb))) ?_ ?_
          ⟨rfl, na, nb, out, 0, 0, rfl, ha1, ha2, hb1, hb2, Nat.le_refl _, lo⟩) ?_)
        · rintro j c st2 hj1 hj2 ⟨rfl, ja, jb, out, p, q, rfl, hja, hja2, hjb, hjb2, hij, lo⟩
          dsimp only
          refine wpS_bind (wp_elem (by (clear hij hjb hja2 hja hK' hj2 hj1 hi hb2 hb1 ha2 ha1 hi2 hi1 b1 a1 hfirst ha hK; omega)) (wpS_bind (wp_elem (by (clear hij hjb2 hjb hja hK' hj2 hj1 hi hb2 hb1 ha2 ha1 hi2 hi1 b1 a1 hfirst hb hK; omega)) (wpS_bind (L _ _ _ _ (mb (jb - 1) (by (clear hij hjb hja2 hja hK' hj2 hj1 hi hb2 hb1 ha2 ha1 hi2 hi1 b1 a1 hfirst ha hK; omega))) (ma (ja - 1) (by omega)) hK' ?_)))))
          dsimp only
          cases e : blt (g b (jb - 1)) (g a (ja - 1)) with
          | true =>
            rw [if_pos rfl]
            have lo' := stepA out ja jb (by (clear e hij hjb2 hjb hja2 hK' hj2 hj1 hi hb2 hb1 ha2 ha1 hi2 hi1 b1 a1 hfirst hb ha hK; omega)) hja2 (by (clear e hij hjb2 hja2 hja hK' hj2 hj1 hi hb2 hb1 ha2 ha1 hi2 hi1 b1 a1 hfirst hb ha hK; omega)) hjb2 lo e
            refine wpS_bind (wp_elem (by (clear e hij hjb2 hjb hja hK' hj2 hj1 hi hb2 hb1 ha2 ha1 hi2 hi1 b1 a1 hfirst hb hK; omega)) ?_)
            by_cases z : ja - 1 = 0
            · rw [if_pos (beq_iff_eq.mpr z)]
              exact wpS_pure ⟨rfl, .inl ⟨_, rfl, endA _ (ja - 1) jb _ lk z hjb2 lo'⟩⟩
            · rw [if_neg (by simpa using z)]
              by_cases y : p + 1 ≥ mg
              · rw [if_pos y]
                exact wpS_pure ⟨rfl, .inr ⟨_, _, _, _, _, rfl, by (clear y e hij hjb2 hjb hja2 hja hK' hj2 hj1 hi hb2 hb1 ha2 ha1 hi2 hi1 b1 a1 hfirst hb ha hK; omega), by omega, hjb, hjb2, by omega, lo'⟩⟩
              · rw [if_neg y]
                exact wpS_pure ⟨rfl, _, _, _, _, _, rfl, by (clear y e hij hjb2 hjb hja2 hja hK' hj2 hj1 hi hb2 hb1 ha2 ha1 hi2 hi1 b1 a1 hfirst hb ha hK; omega), by omega, hjb, hjb2, by omega, lo'⟩
          | false =>
            rw [if_neg (by decide)]
            have lo' := stepB out ja jb (by (clear e hij hjb2 hjb hja2 hK' hj2 hj1 hi hb2 hb1 ha2 ha1 hi2 hi1 b1 a1 hfirst hb ha hK; omega)) hja2 (by (clear e hij hjb2 hja2 hja hK' hj2 hj1 hi hb2 hb1 ha2 ha1 hi2 hi1 b1 a1 hfirst hb ha hK; omega)) hjb2 lo e
            refine wpS_bind (wp_elem (by (clear e hij hjb hja2 hja hK' hj2 hj1 hi hb2 hb1 ha2 ha1 hi2 hi1 b1 a1 hfirst ha hK; omega)) ?_)
            by_cases z : jb - 1 = 1
            · rw [if_pos (beq_iff_eq.mpr z)]
              exact wpS_pure ⟨rfl, .inl ⟨_, rfl, endB _ ja (jb - 1) _ lk z hja2 lo'⟩⟩
            · rw [if_neg (by simpa using z)]
              by_cases y : q + 1 ≥ mg
              · rw [if_pos y]
                exact wpS_pure ⟨rfl, .inr ⟨_, _, _, _, _, rfl, hja, hja2, by (clear y e hij hjb2 hja2 hja hK' hj2 hj1 hi hb2 hb1 ha2 ha1 hi2 hi1 b1 a1 hfirst hb ha hK; omega), by (clear y z e hij hjb hja2 hja hK' hj2 hj1 hi hb2 hb1 ha2 ha1 hi2 hi1 b1 a1 hfirst hb ha hK; omega), by omega, lo'⟩⟩
              · rw [if_neg y]
                exact wpS_pure ⟨rfl, _, _, _, _, _, rfl, hja, hja2, by (clear y e hij hjb2 hja2 hja hK' hj2 hj1 hi hb2 hb1 ha2 ha1 hi2 hi1 b1 a1 hfirst hb ha hK; omega), by (clear y z e hij hjb hja2 hja hK' hj2 hj1 hi hb2 hb1 ha2 ha1 hi2 hi1 b1 a1 hfirst hb ha hK; omega), by omega, lo'⟩
        · rintro c st2 ⟨rfl, ja, jb, out, p, q, rfl, hja, hja2, hjb, hjb2, hij, lo⟩
          exact ⟨rfl, .inr ⟨_, _, _, _, _, rfl, hja, hja2, hjb, hjb2, hij, lo⟩⟩
        · rintro ⟨r, c⟩ st2 ⟨rfl, ⟨res, e, q⟩ | ⟨ja, jb, out, p, q, e, hja, hja2, hjb, hjb2, hij, lo⟩⟩
          · dsimp only at e
            subst e
            exact wpS_pure ⟨res, rfl, q⟩
          · obtain ⟨rfl, rfl⟩ := Prod.mk.inj e
            dsimp only
            refine wpS_bind (wpS_lift (wpAny_rule ⟨rfl, ?_⟩))
            refine wpS_bind (wpS_mono (wpS_forRange (I := fun j c st3 => Like st st3 ∧ ∃ ka kb out m' p q, c = (none, ka, kb, out, m', p, q) ∧ 1 ≤ ka ∧ ka ≤ a.size ∧ 2 ≤ kb ∧ kb ≤ b.size ∧ ka + kb + j ≤ na + nb ∧ Hi blt (a.toList ++ b.toList) out.reverse.toList (a.toList.take ka) (b.toList.take kb))
              (Q := fun c st3 => Like st st3 ∧ ((∃ res, c.1 = some res ∧ Q res st3) ∨ ∃ ka kb out m' p q, c = (none, ka, kb, out, m', p, q) ∧ 1 ≤ ka ∧ ka ≤ a.size ∧ 2 ≤ kb ∧ kb ≤ b.size ∧ ka + kb + 1 ≤ na + nb ∧ Hi blt (a.toList ++ b.toList) out.reverse.toList (a.toList.take ka) (b.toList.take kb))) ?_ ?_
              ⟨lk, ja, jb, out, _, _, _, rfl, hja, hja2, hjb, hjb2, by (clear e hjb2 hjb hja2 hja hK' hi hb2 hb1 ha2 ha1 hi2 hi1 b1 a1 hfirst hb ha hK; omega), lo⟩) ?_)
            · rintro j c st3 hj1 hj2 ⟨lk3', ka, kb, out, m', p, q, rfl, hka, hka2, hkb, hkb2, hij, lo⟩
              dsimp only
              by_cases m1 : m' > 1
              · rw [if_pos m1]
                refine wpS_bind (wp_mod fun st4 lk3 => ?_)
                have lk4 : Like st st4 := ⟨lk3.kind.trans lk3'.kind, lk3.arr.trans lk3'.arr, lk3.pend.trans lk3'.pend, lk3.fail.trans lk3'.fail⟩
                have hK4 : kindOf st4 = κ := lk4.kind.trans hK
                refine wpS_bind (wp_elem (by (clear hK4 m1 hij hkb hka2 hka hj2 hj1 e hjb2 hjb hja2 hja hK' hi hb2 hb1 ha2 ha1 hi2 hi1 b1 a1 hfirst ha hK; omega)) ?_)
                refine wpS_bind (wp_gallop L hK4 (mb (kb - 1) (by (clear hK4 m1 hij hkb hka2 hka hj2 hj1 e hjb2 hjb hja2 hja hK' hi hb2 hb1 ha2 ha1 hi2 hi1 b1 a1 hfirst ha hK; omega))) (fun i hi => ⟨by (clear hK4 m1 hij hkb2 hkb hka hj2 hj1 e hjb2 hjb hja2 hja hK' hb2 hb1 ha2 ha1 hi2 hi1 b1 a1 hfirst hb ha hK; omega), ma _ (by (clear hK4 m1 hij hkb2 hkb hka hj2 hj1 e hjb2 hjb hja2 hja hK' hb2 hb1 ha2 ha1 hi2 hi1 b1 a1 hfirst hb ha hK; omega))⟩) (by (clear hK4 m1 hij hkb2 hkb hka2 hj2 hj1 e hjb2 hjb hja2 hja hK' hi hb2 hb1 ha2 ha1 hi2 hi1 b1 a1 hfirst hb ha hK; omega)) (fun i => !blt (g b (kb - 1)) (g a (0 + i))) (fun i hi => rfl) (fun i j h1 h2 h3 => monoA 0 _ i j h1 (by (clear h3 h1 hK4 m1 hij hkb2 hkb hka hj2 hj1 e hjb2 hjb hja2 hja hK' hi hb2 hb1 ha2 ha1 hi2 hi1 b1 a1 hfirst hb ha hK; omega)) h3) fun k hk1 hk2 hk3 => ?_)
                dsimp only
                have hk2' : ∀ i, i < k → blt (g b (kb - 1)) (g a i) = false := fun i hi => by have f := hk2 i hi; rw [Nat.zero_add] at f; simpa using f
                have hk3' : ∀ i, k ≤ i → i < ka → blt (g b (kb - 1)) (g a i) = true := fun i hi hj => by have f := hk3 i hi hj; rw [Nat.zero_add] at f; simpa using f
                by_cases k0 : ka - k > 0
                · rw [if_pos k0]
                  have lo1 := chunkA out ka kb k (by (clear k0 hK4 m1 hij hkb2 hkb hka2 hka hj2 hj1 e hjb2 hjb hja2 hja hK' hi hb2 hb1 ha2 ha1 hi2 hi1 b1 a1 hfirst hb ha hK; omega)) (by (clear k0 hk1 hK4 m1 hij hkb2 hkb hka hj2 hj1 e hjb2 hjb hja2 hja hK' hi hb2 hb1 ha2 ha1 hi2 hi1 b1 a1 hfirst hb ha hK; omega)) (by (clear k0 hk1 hK4 m1 hij hkb2 hka2 hka hj2 hj1 e hjb2 hjb hja2 hja hK' hi hb2 hb1 ha2 ha1 hi2 hi1 b1 a1 hfirst hb ha hK; omega)) (by (clear k0 hk1 hK4 m1 hij hkb hka2 hka hj2 hj1 e hjb2 hjb hja2 hja hK' hi hb2 hb1 ha2 ha1 hi2 hi1 b1 a1 hfirst hb ha hK; omega)) lo hk3'
                  by_cases z : k = 0
                  · rw [if_pos (beq_iff_eq.mpr z)]
                    exact wpS_pure ⟨lk4, .inl ⟨_, rfl, endA _ k kb _ lk4 z (by (clear z k0 hk1 hK4 m1 hij hkb hka2 hka hj2 hj1 e hjb2 hjb hja2 hja hK' hi hb2 hb1 ha2 ha1 hi2 hi1 b1 a1 hfirst hb ha hK; omega)) lo1⟩⟩
                  · rw [if_neg (by simpa using z)]
                    refine wpS_bind (wp_elem (by (clear z k0 hk1 hK4 m1 hij hkb hka2 hka hj2 hj1 e hjb2 hjb hja2 hja hK' hi hb2 hb1 ha2 ha1 hi2 hi1 b1 a1 hfirst ha hK; omega)) ?_)
                    have lo2 := stepB _ (k) kb (by omega) (by omega) (by omega) (by omega) lo1 (hk2' (k - 1) (by (clear k0 hk1 hK4 m1 hij hkb2 hkb hka2 hka hj2 hj1 e hjb2 hjb hja2 hja hK' hi hb2 hb1 ha2 ha1 hi2 hi1 b1 a1 hfirst hb ha hK; omega)))
                    by_cases z2 : kb - 1 = 1
                    · rw [if_pos (beq_iff_eq.mpr z2)]
                      exact wpS_pure ⟨lk4, .inl ⟨_, rfl, endB _ (k) (kb - 1) _ lk4 z2 (by (clear z2 z k0 hK4 m1 hij hkb2 hkb hka hj2 hj1 e hjb2 hjb hja2 hja hK' hi hb2 hb1 ha2 ha1 hi2 hi1 b1 a1 hfirst hb ha hK; omega)) lo2⟩⟩
                    · rw [if_neg (by simpa using z2)]
                      refine wpS_bind (wp_elem (by (clear z2 z k0 hK4 m1 hij hkb2 hkb hka hj2 hj1 e hjb2 hjb hja2 hja hK' hi hb2 hb1 ha2 ha1 hi2 hi1 b1 a1 hfirst hb hK; omega)) ?_)
                      refine wpS_bind (wp_gallop L hK4 (ma _ (by omega)) (fun i hi => ⟨by omega, mb _ (by omega)⟩) (by (clear z2 z k0 hk1 hK4 m1 hij hkb2 hka2 hka hj2 hj1 e hjb2 hjb hja2 hja hK' hi hb2 hb1 ha2 ha1 hi2 hi1 b1 a1 hfirst hb ha hK; omega)) (fun i => blt (g b (0 + i)) (g a (k - 1))) (fun i hi => rfl) (fun i j h1 h2 h3 => monoB 0 _ i j h1 (by (clear h3 h1 z2 z k0 hk1 hK4 m1 hij hkb hka2 hka hj2 hj1 e hjb2 hjb hja2 hja hK' hi hb2 hb1 ha2 ha1 hi2 hi1 b1 a1 hfirst hb ha hK; omega)) h3) fun k2 h1 h2 h3 => ?_)
                      dsimp only
                      have k2p : 0 < k2 := by
                        rcases Nat.eq_zero_or_pos k2 with z | z
                        · have f : blt (g b (0 + 0)) (g a (k - 1)) = false := h3 0 (by (clear h1 z2 k0 hk1 hK4 m1 hij hkb2 hkb hka2 hka hj2 hj1 e hjb2 hjb hja2 hja hK' hi hb2 hb1 ha2 ha1 hi2 hi1 b1 a1 hfirst hb ha hK; omega)) (by (clear z h1 z2 k0 hk1 hK4 m1 hij hkb2 hka2 hka hj2 hj1 e hjb2 hjb hja2 hja hK' hi hb2 hb1 ha2 ha1 hi2 hi1 b1 a1 hfirst hb ha hK; omega))
                          rw [Nat.add_zero, bfirst (k - 1) (by omega)] at f
                          cases f
                        · exact z
                      have h2' : ∀ i, i < k2 → blt (g b i) (g a (k - 1)) = true := fun i hi => by have f := h2 i hi; rwa [Nat.zero_add] at f
                      have h3' : ∀ i, k2 ≤ i → i < kb - 1 → blt (g b i) (g a (k - 1)) = false := fun i hi hj => by have f := h3 i hi hj; rwa [Nat.zero_add] at f
                      by_cases q0 : kb - 1 - k2 > 0
                      · rw [if_pos q0]
                        have lo3 := chunkB _ (k) (kb - 1) k2 (by omega) (by (clear q0 k2p h1 z2 z k0 hk1 hK4 m1 hij hkb hka2 hka hj2 hj1 e hjb2 hjb hja2 hja hK' hi hb2 hb1 ha2 ha1 hi2 hi1 b1 a1 hfirst hb ha hK; omega)) (by (clear q0 k2p h1 z2 k0 hk1 hK4 m1 hij hkb2 hkb hka2 hka hj2 hj1 e hjb2 hjb hja2 hja hK' hi hb2 hb1 ha2 ha1 hi2 hi1 b1 a1 hfirst hb ha hK; omega)) (by omega) lo2 h3'
                        by_cases z3 : k2 = 1
                        · rw [if_pos (beq_iff_eq.mpr z3)]
                          exact wpS_pure ⟨lk4, .inl ⟨_, rfl, endB _ (k) k2 _ lk4 z3 (by omega) lo3⟩⟩
                        · rw [if_neg (by simpa using z3), if_neg (by have : ¬ k2 = 0 := by omega
                                                                     simpa using this)]
                          refine wpS_bind (wp_elem (by (clear z3 q0 k2p h1 z2 z k0 hK4 m1 hij hkb2 hkb hka hj2 hj1 e hjb2 hjb hja2 hja hK' hi hb2 hb1 ha2 ha1 hi2 hi1 b1 a1 hfirst hb hK; omega)) ?_)
                          have lo4 := stepA _ (k) (k2) (by (clear z3 q0 k2p h1 z2 k0 hk1 hK4 m1 hij hkb2 hkb hka2 hka hj2 hj1 e hjb2 hjb hja2 hja hK' hi hb2 hb1 ha2 ha1 hi2 hi1 b1 a1 hfirst hb ha hK; omega)) (by omega) (by omega) (by (clear z3 q0 k2p z2 z k0 hk1 hK4 m1 hij hkb hka2 hka hj2 hj1 e hjb2 hjb hja2 hja hK' hi hb2 hb1 ha2 ha1 hi2 hi1 b1 a1 hfirst hb ha hK; omega)) lo3 (h2' (k2 - 1) (by (clear z3 q0 h1 z2 z k0 hk1 hK4 m1 hij hkb2 hkb hka2 hka hj2 hj1 e hjb2 hjb hja2 hja hK' hi hb2 hb1 ha2 ha1 hi2 hi1 b1 a1 hfirst hb ha hK; omega)))
                          by_cases z4 : k - 1 = 0
                          · rw [if_pos (beq_iff_eq.mpr z4)]
                            exact wpS_pure ⟨lk4, .inl ⟨_, rfl, endA _ (k - 1) (k2) _ lk4 z4 (by (clear z4 z3 q0 k2p z2 z k0 hk1 hK4 m1 hij hkb hka2 hka hj2 hj1 e hjb2 hjb hja2 hja hK' hi hb2 hb1 ha2 ha1 hi2 hi1 b1 a1 hfirst hb ha hK; omega)) lo4⟩⟩
                          · rw [if_neg (by simpa using z4)]
                            by_cases z5 : (decide (ka - k < 7) && decide (kb - 1 - k2 < 7)) = true
                            · rw [if_pos z5]
                              exact wpS_pure ⟨lk4, .inr ⟨_, _, _, _, _, _, rfl, by (clear z5 z3 q0 k2p h1 z2 z k0 hk1 hK4 m1 hij hkb2 hkb hka2 hka hj2 hj1 e hjb2 hjb hja2 hja hK' hi hb2 hb1 ha2 ha1 hi2 hi1 b1 a1 hfirst hb ha hK; omega), by (clear z5 z4 z3 q0 k2p h1 z2 z k0 hK4 m1 hij hkb2 hkb hka hj2 hj1 e hjb2 hjb hja2 hja hK' hi hb2 hb1 ha2 ha1 hi2 hi1 b1 a1 hfirst hb ha hK; omega), by (clear z5 z4 q0 h1 z2 z k0 hk1 hK4 m1 hij hkb2 hkb hka2 hka hj2 hj1 e hjb2 hjb hja2 hja hK' hi hb2 hb1 ha2 ha1 hi2 hi1 b1 a1 hfirst hb ha hK; omega), by (clear z5 z4 z3 q0 k2p z2 z k0 hk1 hK4 m1 hij hkb hka2 hka hj2 hj1 e hjb2 hjb hja2 hja hK' hi hb2 hb1 ha2 ha1 hi2 hi1 b1 a1 hfirst hb ha hK; omega), by (clear z5 z4 z3 q0 k2p z2 z k0 hK4 m1 hkb2 hkb hka2 hka hj2 hj1 e hjb2 hjb hja2 hja hK' hi hb2 hb1 ha2 hi2 hi1 b1 a1 hfirst hb ha hK; omega), lo4⟩⟩
                            · rw [if_neg z5]
                              exact wpS_pure ⟨lk4, _, _, _, _, _, _, rfl, by (clear z5 z3 q0 k2p h1 z2 z k0 hk1 hK4 m1 hij hkb2 hkb hka2 hka hj2 hj1 e hjb2 hjb hja2 hja hK' hi hb2 hb1 ha2 ha1 hi2 hi1 b1 a1 hfirst hb ha hK; omega), by (clear z5 z4 z3 q0 k2p h1 z2 z k0 hK4 m1 hij hkb2 hkb hka hj2 hj1 e hjb2 hjb hja2 hja hK' hi hb2 hb1 ha2 ha1 hi2 hi1 b1 a1 hfirst hb ha hK; omega), by (clear z5 z4 q0 h1 z2 z k0 hk1 hK4 m1 hij hkb2 hkb hka2 hka hj2 hj1 e hjb2 hjb hja2 hja hK' hi hb2 hb1 ha2 ha1 hi2 hi1 b1 a1 hfirst hb ha hK; omega), by (clear z5 z4 z3 q0 k2p z2 z k0 hk1 hK4 m1 hij hkb hka2 hka hj2 hj1 e hjb2 hjb hja2 hja hK' hi hb2 hb1 ha2 ha1 hi2 hi1 b1 a1 hfirst hb ha hK; omega), by (clear z5 z4 z3 q0 k2p z2 z k0 hK4 m1 hkb2 hkb hka2 hj2 hj1 e hjb2 hjb hja2 hja hK' hi hb2 hb1 ha2 ha1 hi2 hi1 b1 a1 hfirst hb ha hK; omega), lo4⟩
                      · rw [if_neg q0]
                        have e2 : k2 = kb - 1 := by (clear k2p z2 z k0 hk1 hK4 m1 hij hkb2 hkb hka2 hka hj2 hj1 e hjb2 hjb hja2 hja hK' hi hb2 hb1 ha2 ha1 hi2 hi1 b1 a1 hfirst hb ha hK; omega)
                        refine wpS_bind (wp_elem (by (clear e2 q0 k2p h1 z2 z k0 hK4 m1 hij hkb2 hkb hka hj2 hj1 e hjb2 hjb hja2 hja hK' hi hb2 hb1 ha2 ha1 hi2 hi1 b1 a1 hfirst hb hK; omega)) ?_)
                        have lo4 := stepA _ (k) (kb - 1) (by (clear e2 q0 k2p h1 z2 k0 hk1 hK4 m1 hij hkb2 hkb hka2 hka hj2 hj1 e hjb2 hjb hja2 hja hK' hi hb2 hb1 ha2 ha1 hi2 hi1 b1 a1 hfirst hb ha hK; omega)) (by omega) (by omega) (by (clear e2 q0 k2p h1 z2 z k0 hk1 hK4 m1 hij hkb hka2 hka hj2 hj1 e hjb2 hjb hja2 hja hK' hi hb2 hb1 ha2 ha1 hi2 hi1 b1 a1 hfirst hb ha hK; omega)) lo2 (h2' (kb - 1 - 1) (by (clear e2 k2p h1 z2 z k0 hk1 hK4 m1 hij hkb2 hka2 hka hj2 hj1 e hjb2 hjb hja2 hja hK' hi hb2 hb1 ha2 ha1 hi2 hi1 b1 a1 hfirst hb ha hK; omega)))
                        by_cases z4 : k - 1 = 0
                        · rw [if_pos (beq_iff_eq.mpr z4)]
                          exact wpS_pure ⟨lk4, .inl ⟨_, rfl, endA _ (k - 1) (kb - 1) _ lk4 z4 (by (clear z4 e2 q0 k2p h1 z2 z k0 hk1 hK4 m1 hij hkb hka2 hka hj2 hj1 e hjb2 hjb hja2 hja hK' hi hb2 hb1 ha2 ha1 hi2 hi1 b1 a1 hfirst hb ha hK; omega)) lo4⟩⟩
                        · rw [if_neg (by simpa using z4)]
                          by_cases z5 : (decide (ka - k < 7) && decide (kb - 1 - k2 < 7)) = true
                          · rw [if_pos z5]
                            exact wpS_pure ⟨lk4, .inr ⟨_, _, _, _, _, _, rfl, by (clear z5 e2 q0 k2p h1 z2 z k0 hk1 hK4 m1 hij hkb2 hkb hka2 hka hj2 hj1 e hjb2 hjb hja2 hja hK' hi hb2 hb1 ha2 ha1 hi2 hi1 b1 a1 hfirst hb ha hK; omega), by (clear z5 z4 e2 q0 k2p h1 z2 z k0 hK4 m1 hij hkb2 hkb hka hj2 hj1 e hjb2 hjb hja2 hja hK' hi hb2 hb1 ha2 ha1 hi2 hi1 b1 a1 hfirst hb ha hK; omega), by (clear z5 z4 e2 q0 k2p h1 z k0 hk1 hK4 m1 hij hkb2 hka2 hka hj2 hj1 e hjb2 hjb hja2 hja hK' hi hb2 hb1 ha2 ha1 hi2 hi1 b1 a1 hfirst hb ha hK; omega), by (clear z5 z4 e2 q0 k2p h1 z2 z k0 hk1 hK4 m1 hij hkb hka2 hka hj2 hj1 e hjb2 hjb hja2 hja hK' hi hb2 hb1 ha2 ha1 hi2 hi1 b1 a1 hfirst hb ha hK; omega), by (clear z5 z4 e2 q0 k2p h1 z2 z k0 hK4 m1 hkb2 hkb hka2 hka hj2 hj1 e hjb2 hjb hja2 hja hK' hi hb2 hb1 ha2 hi2 hi1 b1 a1 hfirst hb ha hK; omega), lo4⟩⟩
                          · rw [if_neg z5]
                            exact wpS_pure ⟨lk4, _, _, _, _, _, _, rfl, by (clear z5 e2 q0 k2p h1 z2 z k0 hk1 hK4 m1 hij hkb2 hkb hka2 hka hj2 hj1 e hjb2 hjb hja2 hja hK' hi hb2 hb1 ha2 ha1 hi2 hi1 b1 a1 hfirst hb ha hK; omega), by (clear z5 z4 e2 q0 k2p h1 z2 z k0 hK4 m1 hij hkb2 hkb hka hj2 hj1 e hjb2 hjb hja2 hja hK' hi hb2 hb1 ha2 ha1 hi2 hi1 b1 a1 hfirst hb ha hK; omega), by (clear z5 z4 e2 q0 k2p h1 z k0 hk1 hK4 m1 hij hkb2 hka2 hka hj2 hj1 e hjb2 hjb hja2 hja hK' hi hb2 hb1 ha2 ha1 hi2 hi1 b1 a1 hfirst hb ha hK; omega), by (clear z5 z4 e2 q0 k2p h1 z2 z k0 hk1 hK4 m1 hij hkb hka2 hka hj2 hj1 e hjb2 hjb hja2 hja hK' hi hb2 hb1 ha2 ha1 hi2 hi1 b1 a1 hfirst hb ha hK; omega), by (clear z5 z4 e2 q0 k2p h1 z2 z k0 hK4 m1 hkb2 hkb hka2 hj2 hj1 e hjb2 hjb hja2 hja hK' hi hb2 hb1 ha2 ha1 hi2 hi1 b1 a1 hfirst hb ha hK; omega), lo4⟩
                · rw [if_neg k0]
                  have e0 : k = ka := by (clear hK4 m1 hij hkb2 hkb hka2 hka hj2 hj1 e hjb2 hjb hja2 hja hK' hi hb2 hb1 ha2 ha1 hi2 hi1 b1 a1 hfirst hb ha hK; omega)
                  refine wpS_bind (wp_elem (by omega) ?_)
                  have lo2 := stepB _ (ka) kb (by omega) (by omega) (by omega) (by omega) lo (hk2' (ka - 1) (by omega))
                  by_cases z2 : kb - 1 = 1
                  · rw [if_pos (beq_iff_eq.mpr z2)]
                    exact wpS_pure ⟨lk4, .inl ⟨_, rfl, endB _ (ka) (kb - 1) _ lk4 z2 (by omega) lo2⟩⟩
                  · rw [if_neg (by simpa using z2)]
                    refine wpS_bind (wp_elem (by (clear z2 e0 k0 hk1 hK4 m1 hij hkb2 hkb hka hj2 hj1 e hjb2 hjb hja2 hja hK' hi hb2 hb1 ha2 ha1 hi2 hi1 b1 a1 hfirst hb hK; omega)) ?_)
                    refine wpS_bind (wp_gallop L hK4 (ma _ (by (clear z2 e0 k0 hk1 hK4 m1 hij hkb2 hkb hka hj2 hj1 e hjb2 hjb hja2 hja hK' hi hb2 hb1 ha2 ha1 hi2 hi1 b1 a1 hfirst hb hK; omega))) (fun i hi => ⟨by omega, mb _ (by omega)⟩) (by (clear z2 e0 k0 hk1 hK4 m1 hij hkb2 hka2 hka hj2 hj1 e hjb2 hjb hja2 hja hK' hi hb2 hb1 ha2 ha1 hi2 hi1 b1 a1 hfirst hb ha hK; omega)) (fun i => blt (g b (0 + i)) (g a (ka - 1))) (fun i hi => rfl) (fun i j h1 h2 h3 => monoB 0 _ i j h1 (by (clear h3 h1 z2 e0 k0 hk1 hK4 m1 hij hkb hka2 hka hj2 hj1 e hjb2 hjb hja2 hja hK' hi hb2 hb1 ha2 ha1 hi2 hi1 b1 a1 hfirst hb ha hK; omega)) h3) fun k2 h1 h2 h3 => ?_)
                    dsimp only
                    have k2p : 0 < k2 := by
                      rcases Nat.eq_zero_or_pos k2 with z | z
                      · have f : blt (g b (0 + 0)) (g a (ka - 1)) = false := h3 0 (by omega) (by omega)
                        rw [Nat.add_zero, bfirst (ka - 1) (by (clear f z h1 z2 e0 k0 hk1 hK4 m1 hij hkb2 hkb hka hj2 hj1 e hjb2 hjb hja2 hja hK' hi hb2 hb1 ha2 ha1 hi2 hi1 b1 a1 hfirst hb hK; omega))] at f
                        cases f
                      · exact z
                    have h2' : ∀ i, i < k2 → blt (g b i) (g a (ka - 1)) = true := fun i hi => by have f := h2 i hi; rwa [Nat.zero_add] at f
                    have h3' : ∀ i, k2 ≤ i → i < kb - 1 → blt (g b i) (g a (ka - 1)) = false := fun i hi hj => by have f := h3 i hi hj; rwa [Nat.zero_add] at f
                    by_cases q0 : kb - 1 - k2 > 0
                    · rw [if_pos q0]
                      have lo3 := chunkB _ (ka) (kb - 1) k2 (by omega) (by (clear q0 k2p h1 z2 e0 k0 hk1 hK4 m1 hij hkb hka2 hka hj2 hj1 e hjb2 hjb hja2 hja hK' hi hb2 hb1 ha2 ha1 hi2 hi1 b1 a1 hfirst hb ha hK; omega)) (by omega) (by omega) lo2 h3'
                      by_cases z3 : k2 = 1
                      · rw [if_pos (beq_iff_eq.mpr z3)]
                        exact wpS_pure ⟨lk4, .inl ⟨_, rfl, endB _ (ka) k2 _ lk4 z3 (by omega) lo3⟩⟩
                      · rw [if_neg (by simpa using z3), if_neg (by have : ¬ k2 = 0 := by omega
                                                                   simpa using this)]
                        refine wpS_bind (wp_elem (by (clear z3 q0 k2p h1 z2 e0 k0 hk1 hK4 m1 hij hkb2 hkb hka hj2 hj1 e hjb2 hjb hja2 hja hK' hi hb2 hb1 ha2 ha1 hi2 hi1 b1 a1 hfirst hb hK; omega)) ?_)
                        have lo4 := stepA _ (ka) (k2) (by omega) (by omega) (by omega) (by (clear z3 q0 k2p z2 e0 k0 hk1 hK4 m1 hij hkb hka2 hka hj2 hj1 e hjb2 hjb hja2 hja hK' hi hb2 hb1 ha2 ha1 hi2 hi1 b1 a1 hfirst hb ha hK; omega)) lo3 (h2' (k2 - 1) (by (clear z3 q0 h1 z2 e0 k0 hk1 hK4 m1 hij hkb2 hkb hka2 hka hj2 hj1 e hjb2 hjb hja2 hja hK' hi hb2 hb1 ha2 ha1 hi2 hi1 b1 a1 hfirst hb ha hK; omega)))
                        by_cases z4 : ka - 1 = 0
                        · rw [if_pos (beq_iff_eq.mpr z4)]
                          exact wpS_pure ⟨lk4, .inl ⟨_, rfl, endA _ (ka - 1) (k2) _ lk4 z4 (by (clear z4 z3 q0 k2p z2 e0 k0 hk1 hK4 m1 hij hkb hka2 hka hj2 hj1 e hjb2 hjb hja2 hja hK' hi hb2 hb1 ha2 ha1 hi2 hi1 b1 a1 hfirst hb ha hK; omega)) lo4⟩⟩
                        · rw [if_neg (by simpa using z4)]
                          by_cases z5 : (decide (ka - k < 7) && decide (kb - 1 - k2 < 7)) = true
                          · rw [if_pos z5]
                            exact wpS_pure ⟨lk4, .inr ⟨_, _, _, _, _, _, rfl, by (clear z5 z3 q0 k2p h1 z2 e0 k0 hk1 hK4 m1 hij hkb2 hkb hka2 hka hj2 hj1 e hjb2 hjb hja2 hja hK' hi hb2 hb1 ha2 ha1 hi2 hi1 b1 a1 hfirst hb ha hK; omega), by (clear z5 z4 z3 q0 k2p h1 z2 e0 k0 hk1 hK4 m1 hij hkb2 hkb hka hj2 hj1 e hjb2 hjb hja2 hja hK' hi hb2 hb1 ha2 ha1 hi2 hi1 b1 a1 hfirst hb ha hK; omega), by (clear z5 z4 q0 h1 z2 e0 k0 hk1 hK4 m1 hij hkb2 hkb hka2 hka hj2 hj1 e hjb2 hjb hja2 hja hK' hi hb2 hb1 ha2 ha1 hi2 hi1 b1 a1 hfirst hb ha hK; omega), by (clear z5 z4 z3 q0 k2p z2 e0 k0 hk1 hK4 m1 hij hkb hka2 hka hj2 hj1 e hjb2 hjb hja2 hja hK' hi hb2 hb1 ha2 ha1 hi2 hi1 b1 a1 hfirst hb ha hK; omega), by (clear z5 z4 z3 q0 k2p z2 e0 k0 hk1 hK4 m1 hkb2 hkb hka2 hka hj2 hj1 e hjb2 hjb hja2 hja hK' hi hb2 hb1 ha2 hi2 hi1 b1 a1 hfirst hb ha hK; omega), lo4⟩⟩
                          · rw [if_neg z5]
                            exact wpS_pure ⟨lk4, _, _, _, _, _, _, rfl, by (clear z5 z3 q0 k2p h1 z2 e0 k0 hk1 hK4 m1 hij hkb2 hkb hka2 hka hj2 hj1 e hjb2 hjb hja2 hja hK' hi hb2 hb1 ha2 ha1 hi2 hi1 b1 a1 hfirst hb ha hK; omega), by (clear z5 z4 z3 q0 k2p h1 z2 e0 k0 hk1 hK4 m1 hij hkb2 hkb hka hj2 hj1 e hjb2 hjb hja2 hja hK' hi hb2 hb1 ha2 ha1 hi2 hi1 b1 a1 hfirst hb ha hK; omega), by (clear z5 z4 q0 h1 z2 e0 k0 hk1 hK4 m1 hij hkb2 hkb hka2 hka hj2 hj1 e hjb2 hjb hja2 hja hK' hi hb2 hb1 ha2 ha1 hi2 hi1 b1 a1 hfirst hb ha hK; omega), by (clear z5 z4 z3 q0 k2p z2 e0 k0 hk1 hK4 m1 hij hkb hka2 hka hj2 hj1 e hjb2 hjb hja2 hja hK' hi hb2 hb1 ha2 ha1 hi2 hi1 b1 a1 hfirst hb ha hK; omega), by (clear z5 z4 z3 q0 k2p z2 e0 k0 hk1 hK4 m1 hkb2 hkb hka2 hj2 hj1 e hjb2 hjb hja2 hja hK' hi hb2 hb1 ha2 ha1 hi2 hi1 b1 a1 hfirst hb ha hK; omega), lo4⟩
                    · rw [if_neg q0]
                      have e2 : k2 = kb - 1 := by (clear k2p z2 e0 k0 hk1 hK4 m1 hij hkb2 hkb hka2 hka hj2 hj1 e hjb2 hjb hja2 hja hK' hi hb2 hb1 ha2 ha1 hi2 hi1 b1 a1 hfirst hb ha hK; omega)
                      refine wpS_bind (wp_elem (by (clear e2 q0 k2p h1 z2 e0 k0 hk1 hK4 m1 hij hkb2 hkb hka hj2 hj1 e hjb2 hjb hja2 hja hK' hi hb2 hb1 ha2 ha1 hi2 hi1 b1 a1 hfirst hb hK; omega)) ?_)
                      have lo4 := stepA _ (ka) (kb - 1) (by omega) (by omega) (by omega) (by (clear e2 q0 k2p h1 z2 e0 k0 hk1 hK4 m1 hij hkb hka2 hka hj2 hj1 e hjb2 hjb hja2 hja hK' hi hb2 hb1 ha2 ha1 hi2 hi1 b1 a1 hfirst hb ha hK; omega)) lo2 (h2' (kb - 1 - 1) (by (clear e2 k2p h1 z2 e0 k0 hk1 hK4 m1 hij hkb2 hka2 hka hj2 hj1 e hjb2 hjb hja2 hja hK' hi hb2 hb1 ha2 ha1 hi2 hi1 b1 a1 hfirst hb ha hK; omega)))
                      by_cases z4 : ka - 1 = 0
                      · rw [if_pos (beq_iff_eq.mpr z4)]
                        exact wpS_pure ⟨lk4, .inl ⟨_, rfl, endA _ (ka - 1) (kb - 1) _ lk4 z4 (by (clear z4 e2 q0 k2p h1 z2 e0 k0 hk1 hK4 m1 hij hkb hka2 hka hj2 hj1 e hjb2 hjb hja2 hja hK' hi hb2 hb1 ha2 ha1 hi2 hi1 b1 a1 hfirst hb ha hK; omega)) lo4⟩⟩
                      · rw [if_neg (by simpa using z4)]
                        by_cases z5 : (decide (ka - k < 7) && decide (kb - 1 - k2 < 7)) = true
                        · rw [if_pos z5]
                          exact wpS_pure ⟨lk4, .inr ⟨_, _, _, _, _, _, rfl, by (clear z5 e2 q0 k2p h1 z2 e0 k0 hk1 hK4 m1 hij hkb2 hkb hka2 hka hj2 hj1 e hjb2 hjb hja2 hja hK' hi hb2 hb1 ha2 ha1 hi2 hi1 b1 a1 hfirst hb ha hK; omega), by (clear z5 z4 e2 q0 k2p h1 z2 e0 k0 hk1 hK4 m1 hij hkb2 hkb hka hj2 hj1 e hjb2 hjb hja2 hja hK' hi hb2 hb1 ha2 ha1 hi2 hi1 b1 a1 hfirst hb ha hK; omega), by (clear z5 z4 e2 q0 k2p h1 e0 k0 hk1 hK4 m1 hij hkb2 hka2 hka hj2 hj1 e hjb2 hjb hja2 hja hK' hi hb2 hb1 ha2 ha1 hi2 hi1 b1 a1 hfirst hb ha hK; omega), by (clear z5 z4 e2 q0 k2p h1 z2 e0 k0 hk1 hK4 m1 hij hkb hka2 hka hj2 hj1 e hjb2 hjb hja2 hja hK' hi hb2 hb1 ha2 ha1 hi2 hi1 b1 a1 hfirst hb ha hK; omega), by (clear z5 z4 e2 q0 k2p h1 z2 e0 k0 hk1 hK4 m1 hkb2 hkb hka2 hka hj2 hj1 e hjb2 hjb hja2 hja hK' hi hb2 hb1 ha2 hi2 hi1 b1 a1 hfirst hb ha hK; omega), lo4⟩⟩
                        · rw [if_neg z5]
                          exact wpS_pure ⟨lk4, _, _, _, _, _, _, rfl, by (clear z5 e2 q0 k2p h1 z2 e0 k0 hk1 hK4 m1 hij hkb2 hkb hka2 hka hj2 hj1 e hjb2 hjb hja2 hja hK' hi hb2 hb1 ha2 ha1 hi2 hi1 b1 a1 hfirst hb ha hK; omega), by (clear z5 z4 e2 q0 k2p h1 z2 e0 k0 hk1 hK4 m1 hij hkb2 hkb hka hj2 hj1 e hjb2 hjb hja2 hja hK' hi hb2 hb1 ha2 ha1 hi2 hi1 b1 a1 hfirst hb ha hK; omega), by (clear z5 z4 e2 q0 k2p h1 e0 k0 hk1 hK4 m1 hij hkb2 hka2 hka hj2 hj1 e hjb2 hjb hja2 hja hK' hi hb2 hb1 ha2 ha1 hi2 hi1 b1 a1 hfirst hb ha hK; omega), by (clear z5 z4 e2 q0 k2p h1 z2 e0 k0 hk1 hK4 m1 hij hkb hka2 hka hj2 hj1 e hjb2 hjb hja2 hja hK' hi hb2 hb1 ha2 ha1 hi2 hi1 b1 a1 hfirst hb ha hK; omega), by (clear z5 z4 e2 q0 k2p h1 z2 e0 k0 hk1 hK4 m1 hkb2 hkb hka2 hj2 hj1 e hjb2 hjb hja2 hja hK' hi hb2 hb1 ha2 ha1 hi2 hi1 b1 a1 hfirst hb ha hK; omega), lo4⟩
              · rw [if_neg m1]
                refine wpS_bind (wp_mod fun st4 lk3 => ?_)
                have lk4 : Like st st4 := ⟨lk3.kind.trans lk3'.kind, lk3.arr.trans lk3'.arr, lk3.pend.trans lk3'.pend, lk3.fail.trans lk3'.fail⟩
                have hK4 : kindOf st4 = κ := lk4.kind.trans hK
                refine wpS_bind (wp_elem (by omega) ?_)
                refine wpS_bind (wp_gallop L hK4 (mb (kb - 1) (by omega)) (fun i hi => ⟨by omega, ma _ (by omega)⟩) (by omega) (fun i => !blt (g b (kb - 1)) (g a (0 + i))) (fun i hi => rfl) (fun i j h1 h2 h3 => monoA 0 _ i j h1 (by omega) h3) fun k hk1 hk2 hk3 => ?_)
                dsimp only
                have hk2' : ∀ i, i < k → blt (g b (kb - 1)) (g a i) = false := fun i hi => by have f := hk2 i hi; rw [Nat.zero_add] at f; simpa using f
                have hk3' : ∀ i, k ≤ i → i < ka → blt (g b (kb - 1)) (g a i) = true := fun i hi hj => by have f := hk3 i hi hj; rw [Nat.zero_add] at f; simpa using f
                by_cases k0 : ka - k > 0
                · rw [if_pos k0]
                  have lo1 := chunkA out ka kb k (by omega) (by omega) (by omega) (by omega) lo hk3'
                  by_cases z : k = 0
                  · rw [if_pos (beq_iff_eq.mpr z)]
                    exact wpS_pure ⟨lk4, .inl ⟨_, rfl, endA _ k kb _ lk4 z (by omega) lo1⟩⟩
                  · rw [if_neg (by simpa using z)]
                    refine wpS_bind (wp_elem (by omega) ?_)
                    have lo2 := stepB _ (k) kb (by omega) (by omega) (by omega) (by omega) lo1 (hk2' (k - 1) (by (clear k0 hk1 hK4 m1 hij hkb2 hkb hka2 hka hj2 hj1 e hjb2 hjb hja2 hja hK' hi hb2 hb1 ha2 ha1 hi2 hi1 b1 a1 hfirst hb ha hK; omega)))
                    by_cases z2 : kb - 1 = 1
                    · rw [if_pos (beq_iff_eq.mpr z2)]
                      exact wpS_pure ⟨lk4, .inl ⟨_, rfl, endB _ (k) (kb - 1) _ lk4 z2 (by omega) lo2⟩⟩
                    · rw [if_neg (by simpa using z2)]
                      refine wpS_bind (wp_elem (by omega) ?_)
                      refine wpS_bind (wp_gallop L hK4 (ma _ (by omega)) (fun i hi => ⟨by omega, mb _ (by omega)⟩) (by (clear z2 z k0 hk1 hK4 m1 hij hkb2 hka2 hka hj2 hj1 e hjb2 hjb hja2 hja hK' hi hb2 hb1 ha2 ha1 hi2 hi1 b1 a1 hfirst hb ha hK; omega)) (fun i => blt (g b (0 + i)) (g a (k - 1))) (fun i hi => rfl) (fun i j h1 h2 h3 => monoB 0 _ i j h1 (by (clear h3 h1 z2 z k0 hk1 hK4 m1 hij hkb hka2 hka hj2 hj1 e hjb2 hjb hja2 hja hK' hi hb2 hb1 ha2 ha1 hi2 hi1 b1 a1 hfirst hb ha hK; omega)) h3) fun k2 h1 h2 h3 => ?_)
                      dsimp only
                      have k2p : 0 < k2 := by
                        rcases Nat.eq_zero_or_pos k2 with z | z
                        · have f : blt (g b (0 + 0)) (g a (k - 1)) = false := h3 0 (by omega) (by omega)
                          rw [Nat.add_zero, bfirst (k - 1) (by omega)] at f
                          cases f
                        · exact z
                      have h2' : ∀ i, i < k2 → blt (g b i) (g a (k - 1)) = true := fun i hi => by have f := h2 i hi; rwa [Nat.zero_add] at f
                      have h3' : ∀ i, k2 ≤ i → i < kb - 1 → blt (g b i) (g a (k - 1)) = false := fun i hi hj => by have f := h3 i hi hj; rwa [Nat.zero_add] at f
                      by_cases q0 : kb - 1 - k2 > 0
                      · rw [if_pos q0]
                        have lo3 := chunkB _ (k) (kb - 1) k2 (by omega) (by (clear q0 k2p h1 z2 z k0 hk1 hK4 m1 hij hkb hka2 hka hj2 hj1 e hjb2 hjb hja2 hja hK' hi hb2 hb1 ha2 ha1 hi2 hi1 b1 a1 hfirst hb ha hK; omega)) (by (clear q0 k2p h1 z2 k0 hk1 hK4 m1 hij hkb2 hkb hka2 hka hj2 hj1 e hjb2 hjb hja2 hja hK' hi hb2 hb1 ha2 ha1 hi2 hi1 b1 a1 hfirst hb ha hK; omega)) (by omega) lo2 h3'
                        by_cases z3 : k2 = 1
                        · rw [if_pos (beq_iff_eq.mpr z3)]
                          exact wpS_pure ⟨lk4, .inl ⟨_, rfl, endB _ (k) k2 _ lk4 z3 (by omega) lo3⟩⟩
                        · rw [if_neg (by simpa using z3), if_neg (by have : ¬ k2 = 0 := by omega
                                                                     simpa using this)]
                          refine wpS_bind (wp_elem (by (clear z3 q0 k2p h1 z2 z k0 hK4 m1 hij hkb2 hkb hka hj2 hj1 e hjb2 hjb hja2 hja hK' hi hb2 hb1 ha2 ha1 hi2 hi1 b1 a1 hfirst hb hK; omega)) ?_)
                          have lo4 := stepA _ (k) (k2) (by (clear z3 q0 k2p h1 z2 k0 hk1 hK4 m1 hij hkb2 hkb hka2 hka hj2 hj1 e hjb2 hjb hja2 hja hK' hi hb2 hb1 ha2 ha1 hi2 hi1 b1 a1 hfirst hb ha hK; omega)) (by omega) (by omega) (by (clear z3 q0 k2p z2 z k0 hk1 hK4 m1 hij hkb hka2 hka hj2 hj1 e hjb2 hjb hja2 hja hK' hi hb2 hb1 ha2 ha1 hi2 hi1 b1 a1 hfirst hb ha hK; omega)) lo3 (h2' (k2 - 1) (by (clear z3 q0 h1 z2 z k0 hk1 hK4 m1 hij hkb2 hkb hka2 hka hj2 hj1 e hjb2 hjb hja2 hja hK' hi hb2 hb1 ha2 ha1 hi2 hi1 b1 a1 hfirst hb ha hK; omega)))
                          by_cases z4 : k - 1 = 0
                          · rw [if_pos (beq_iff_eq.mpr z4)]
                            exact wpS_pure ⟨lk4, .inl ⟨_, rfl, endA _ (k - 1) (k2) _ lk4 z4 (by (clear z4 z3 q0 k2p z2 z k0 hk1 hK4 m1 hij hkb hka2 hka hj2 hj1 e hjb2 hjb hja2 hja hK' hi hb2 hb1 ha2 ha1 hi2 hi1 b1 a1 hfirst hb ha hK; omega)) lo4⟩⟩
                          · rw [if_neg (by simpa using z4)]
                            by_cases z5 : (decide (ka - k < 7) && decide (kb - 1 - k2 < 7)) = true
                            · rw [if_pos z5]
                              exact wpS_pure ⟨lk4, .inr ⟨_, _, _, _, _, _, rfl, by (clear z5 z3 q0 k2p h1 z2 z k0 hk1 hK4 m1 hij hkb2 hkb hka2 hka hj2 hj1 e hjb2 hjb hja2 hja hK' hi hb2 hb1 ha2 ha1 hi2 hi1 b1 a1 hfirst hb ha hK; omega), by (clear z5 z4 z3 q0 k2p h1 z2 z k0 hK4 m1 hij hkb2 hkb hka hj2 hj1 e hjb2 hjb hja2 hja hK' hi hb2 hb1 ha2 ha1 hi2 hi1 b1 a1 hfirst hb ha hK; omega), by (clear z5 z4 q0 h1 z2 z k0 hk1 hK4 m1 hij hkb2 hkb hka2 hka hj2 hj1 e hjb2 hjb hja2 hja hK' hi hb2 hb1 ha2 ha1 hi2 hi1 b1 a1 hfirst hb ha hK; omega), by (clear z5 z4 z3 q0 k2p z2 z k0 hk1 hK4 m1 hij hkb hka2 hka hj2 hj1 e hjb2 hjb hja2 hja hK' hi hb2 hb1 ha2 ha1 hi2 hi1 b1 a1 hfirst hb ha hK; omega), by (clear z5 z4 z3 q0 k2p z2 z k0 hK4 m1 hkb2 hkb hka2 hka hj2 hj1 e hjb2 hjb hja2 hja hK' hi hb2 hb1 ha2 hi2 hi1 b1 a1 hfirst hb ha hK; omega), lo4⟩⟩
                            · rw [if_neg z5]
                              exact wpS_pure ⟨lk4, _, _, _, _, _, _, rfl, by (clear z5 z3 q0 k2p h1 z2 z k0 hk1 hK4 m1 hij hkb2 hkb hka2 hka hj2 hj1 e hjb2 hjb hja2 hja hK' hi hb2 hb1 ha2 ha1 hi2 hi1 b1 a1 hfirst hb ha hK; omega), by (clear z5 z4 z3 q0 k2p h1 z2 z k0 hK4 m1 hij hkb2 hkb hka hj2 hj1 e hjb2 hjb hja2 hja hK' hi hb2 hb1 ha2 ha1 hi2 hi1 b1 a1 hfirst hb ha hK; omega), by (clear z5 z4 q0 h1 z2 z k0 hk1 hK4 m1 hij hkb2 hkb hka2 hka hj2 hj1 e hjb2 hjb hja2 hja hK' hi hb2 hb1 ha2 ha1 hi2 hi1 b1 a1 hfirst hb ha hK; omega), by (clear z5 z4 z3 q0 k2p z2 z k0 hk1 hK4 m1 hij hkb hka2 hka hj2 hj1 e hjb2 hjb hja2 hja hK' hi hb2 hb1 ha2 ha1 hi2 hi1 b1 a1 hfirst hb ha hK; omega), by (clear z5 z4 z3 q0 k2p z2 z k0 hK4 m1 hkb2 hkb hka2 hj2 hj1 e hjb2 hjb hja2 hja hK' hi hb2 hb1 ha2 ha1 hi2 hi1 b1 a1 hfirst hb ha hK; omega), lo4⟩
                      · rw [if_neg q0]
                        have e2 : k2 = kb - 1 := by (clear k2p z2 z k0 hk1 hK4 m1 hij hkb2 hkb hka2 hka hj2 hj1 e hjb2 hjb hja2 hja hK' hi hb2 hb1 ha2 ha1 hi2 hi1 b1 a1 hfirst hb ha hK; omega)
                        refine wpS_bind (wp_elem (by (clear e2 q0 k2p h1 z2 z k0 hK4 m1 hij hkb2 hkb hka hj2 hj1 e hjb2 hjb hja2 hja hK' hi hb2 hb1 ha2 ha1 hi2 hi1 b1 a1 hfirst hb hK; omega)) ?_)
                        have lo4 := stepA _ (k) (kb - 1) (by (clear e2 q0 k2p h1 z2 k0 hk1 hK4 m1 hij hkb2 hkb hka2 hka hj2 hj1 e hjb2 hjb hja2 hja hK' hi hb2 hb1 ha2 ha1 hi2 hi1 b1 a1 hfirst hb ha hK; omega)) (by omega) (by omega) (by (clear e2 q0 k2p h1 z2 z k0 hk1 hK4 m1 hij hkb hka2 hka hj2 hj1 e hjb2 hjb hja2 hja hK' hi hb2 hb1 ha2 ha1 hi2 hi1 b1 a1 hfirst hb ha hK; omega)) lo2 (h2' (kb - 1 - 1) (by (clear e2 k2p h1 z2 z k0 hk1 hK4 m1 hij hkb2 hka2 hka hj2 hj1 e hjb2 hjb hja2 hja hK' hi hb2 hb1 ha2 ha1 hi2 hi1 b1 a1 hfirst hb ha hK; omega)))
                        by_cases z4 : k - 1 = 0
                        · rw [if_pos (beq_iff_eq.mpr z4)]
                          exact wpS_pure ⟨lk4, .inl ⟨_, rfl, endA _ (k - 1) (kb - 1) _ lk4 z4 (by (clear z4 e2 q0 k2p h1 z2 z k0 hk1 hK4 m1 hij hkb hka2 hka hj2 hj1 e hjb2 hjb hja2 hja hK' hi hb2 hb1 ha2 ha1 hi2 hi1 b1 a1 hfirst hb ha hK; omega)) lo4⟩⟩
                        · rw [if_neg (by simpa using z4)]
                          by_cases z5 : (decide (ka - k < 7) && decide (kb - 1 - k2 < 7)) = true
                          · rw [if_pos z5]
                            exact wpS_pure ⟨lk4, .inr ⟨_, _, _, _, _, _, rfl, by (clear z5 e2 q0 k2p h1 z2 z k0 hk1 hK4 m1 hij hkb2 hkb hka2 hka hj2 hj1 e hjb2 hjb hja2 hja hK' hi hb2 hb1 ha2 ha1 hi2 hi1 b1 a1 hfirst hb ha hK; omega), by (clear z5 z4 e2 q0 k2p h1 z2 z k0 hK4 m1 hij hkb2 hkb hka hj2 hj1 e hjb2 hjb hja2 hja hK' hi hb2 hb1 ha2 ha1 hi2 hi1 b1 a1 hfirst hb ha hK; omega), by (clear z5 z4 e2 q0 k2p h1 z k0 hk1 hK4 m1 hij hkb2 hka2 hka hj2 hj1 e hjb2 hjb hja2 hja hK' hi hb2 hb1 ha2 ha1 hi2 hi1 b1 a1 hfirst hb ha hK; omega), by (clear z5 z4 e2 q0 k2p h1 z2 z k0 hk1 hK4 m1 hij hkb hka2 hka hj2 hj1 e hjb2 hjb hja2 hja hK' hi hb2 hb1 ha2 ha1 hi2 hi1 b1 a1 hfirst hb ha hK; omega), by (clear z5 z4 e2 q0 k2p h1 z2 z k0 hK4 m1 hkb2 hkb hka2 hka hj2 hj1 e hjb2 hjb hja2 hja hK' hi hb2 hb1 ha2 hi2 hi1 b1 a1 hfirst hb ha hK; omega), lo4⟩⟩
                          · rw [if_neg z5]
                            exact wpS_pure ⟨lk4, _, _, _, _, _, _, rfl, by (clear z5 e2 q0 k2p h1 z2 z k0 hk1 hK4 m1 hij hkb2 hkb hka2 hka hj2 hj1 e hjb2 hjb hja2 hja hK' hi hb2 hb1 ha2 ha1 hi2 hi1 b1 a1 hfirst hb ha hK; omega), by (clear z5 z4 e2 q0 k2p h1 z2 z k0 hK4 m1 hij hkb2 hkb hka hj2 hj1 e hjb2 hjb hja2 hja hK' hi hb2 hb1 ha2 ha1 hi2 hi1 b1 a1 hfirst hb ha hK; omega), by (clear z5 z4 e2 q0 k2p h1 z k0 hk1 hK4 m1 hij hkb2 hka2 hka hj2 hj1 e hjb2 hjb hja2 hja hK' hi hb2 hb1 ha2 ha1 hi2 hi1 b1 a1 hfirst hb ha hK; omega), by (clear z5 z4 e2 q0 k2p h1 z2 z k0 hk1 hK4 m1 hij hkb hka2 hka hj2 hj1 e hjb2 hjb hja2 hja hK' hi hb2 hb1 ha2 ha1 hi2 hi1 b1 a1 hfirst hb ha hK; omega), by (clear z5 z4 e2 q0 k2p h1 z2 z k0 hK4 m1 hkb2 hkb hka2 hj2 hj1 e hjb2 hjb hja2 hja hK' hi hb2 hb1 ha2 ha1 hi2 hi1 b1 a1 hfirst hb ha hK; omega), lo4⟩
                · rw [if_neg k0]
                  have e0 : k = ka := by (clear hK4 m1 hij hkb2 hkb hka2 hka hj2 hj1 e hjb2 hjb hja2 hja hK' hi hb2 hb1 ha2 ha1 hi2 hi1 b1 a1 hfirst hb ha hK; omega)
                  refine wpS_bind (wp_elem (by omega) ?_)
                  have lo2 := stepB _ (ka) kb (by omega) (by omega) (by omega) (by omega) lo (hk2' (ka - 1) (by omega))
                  by_cases z2 : kb - 1 = 1
                  · rw [if_pos (beq_iff_eq.mpr z2)]
                    exact wpS_pure ⟨lk4, .inl ⟨_, rfl, endB _ (ka) (kb - 1) _ lk4 z2 (by omega) lo2⟩⟩
                  · rw [if_neg (by simpa using z2)]
                    refine wpS_bind (wp_elem (by (clear z2 e0 k0 hk1 hK4 m1 hij hkb2 hkb hka hj2 hj1 e hjb2 hjb hja2 hja hK' hi hb2 hb1 ha2 ha1 hi2 hi1 b1 a1 hfirst hb hK; omega)) ?_)
                    refine wpS_bind (wp_gallop L hK4 (ma _ (by (clear z2 e0 k0 hk1 hK4 m1 hij hkb2 hkb hka hj2 hj1 e hjb2 hjb hja2 hja hK' hi hb2 hb1 ha2 ha1 hi2 hi1 b1 a1 hfirst hb hK; omega))) (fun i hi => ⟨by omega, mb _ (by omega)⟩) (by (clear z2 e0 k0 hk1 hK4 m1 hij hkb2 hka2 hka hj2 hj1 e hjb2 hjb hja2 hja hK' hi hb2 hb1 ha2 ha1 hi2 hi1 b1 a1 hfirst hb ha hK; omega)) (fun i => blt (g b (0 + i)) (g a (ka - 1))) (fun i hi => rfl) (fun i j h1 h2 h3 => monoB 0 _ i j h1 (by (clear h3 h1 z2 e0 k0 hk1 hK4 m1 hij hkb hka2 hka hj2 hj1 e hjb2 hjb hja2 hja hK' hi hb2 hb1 ha2 ha1 hi2 hi1 b1 a1 hfirst hb ha hK; omega)) h3) fun k2 h1 h2 h3 => ?_)
                    dsimp only
                    have k2p : 0 < k2 := by
                      rcases Nat.eq_zero_or_pos k2 with z | z
                      · have f : blt (g b (0 + 0)) (g a (ka - 1)) = false := h3 0 (by omega) (by omega)
                        rw [Nat.add_zero, bfirst (ka - 1) (by (clear f z h1 z2 e0 k0 hk1 hK4 m1 hij hkb2 hkb hka hj2 hj1 e hjb2 hjb hja2 hja hK' hi hb2 hb1 ha2 ha1 hi2 hi1 b1 a1 hfirst hb hK; omega))] at f
                        cases f
                      · exact z
                    have h2' : ∀ i, i < k2 → blt (g b i) (g a (ka - 1)) = true := fun i hi => by have f := h2 i hi; rwa [Nat.zero_add] at f
                    have h3' : ∀ i, k2 ≤ i → i < kb - 1 → blt (g b i) (g a (ka - 1)) = false := fun i hi hj => by have f := h3 i hi hj; rwa [Nat.zero_add] at f
                    by_cases q0 : kb - 1 - k2 > 0
                    · rw [if_pos q0]
                      have lo3 := chunkB _ (ka) (kb - 1) k2 (by omega) (by (clear q0 k2p h1 z2 e0 k0 hk1 hK4 m1 hij hkb hka2 hka hj2 hj1 e hjb2 hjb hja2 hja hK' hi hb2 hb1 ha2 ha1 hi2 hi1 b1 a1 hfirst hb ha hK; omega)) (by omega) (by omega) lo2 h3'
                      by_cases z3 : k2 = 1
                      · rw [if_pos (beq_iff_eq.mpr z3)]
                        exact wpS_pure ⟨lk4, .inl ⟨_, rfl, endB _ (ka) k2 _ lk4 z3 (by omega) lo3⟩⟩
                      · rw [if_neg (by simpa using z3), if_neg (by have : ¬ k2 = 0 := by omega
                                                                   simpa using this)]
                        refine wpS_bind (wp_elem (by (clear z3 q0 k2p h1 z2 e0 k0 hk1 hK4 m1 hij hkb2 hkb hka hj2 hj1 e hjb2 hjb hja2 hja hK' hi hb2 hb1 ha2 ha1 hi2 hi1 b1 a1 hfirst hb hK; omega)) ?_)
                        have lo4 := stepA _ (ka) (k2) (by omega) (by omega) (by omega) (by (clear z3 q0 k2p z2 e0 k0 hk1 hK4 m1 hij hkb hka2 hka hj2 hj1 e hjb2 hjb hja2 hja hK' hi hb2 hb1 ha2 ha1 hi2 hi1 b1 a1 hfirst hb ha hK; omega)) lo3 (h2' (k2 - 1) (by (clear z3 q0 h1 z2 e0 k0 hk1 hK4 m1 hij hkb2 hkb hka2 hka hj2 hj1 e hjb2 hjb hja2 hja hK' hi hb2 hb1 ha2 ha1 hi2 hi1 b1 a1 hfirst hb ha hK; omega)))
                        by_cases z4 : ka - 1 = 0
                        · rw [if_pos (beq_iff_eq.mpr z4)]
                          exact wpS_pure ⟨lk4, .inl ⟨_, rfl, endA _ (ka - 1) (k2) _ lk4 z4 (by (clear z4 z3 q0 k2p z2 e0 k0 hk1 hK4 m1 hij hkb hka2 hka hj2 hj1 e hjb2 hjb hja2 hja hK' hi hb2 hb1 ha2 ha1 hi2 hi1 b1 a1 hfirst hb ha hK; omega)) lo4⟩⟩
                        · rw [if_neg (by simpa using z4)]
                          by_cases z5 : (decide (ka - k < 7) && decide (kb - 1 - k2 < 7)) = true
                          · rw [if_pos z5]
                            exact wpS_pure ⟨lk4, .inr ⟨_, _, _, _, _, _, rfl, by (clear z5 z3 q0 k2p h1 z2 e0 k0 hk1 hK4 m1 hij hkb2 hkb hka2 hka hj2 hj1 e hjb2 hjb hja2 hja hK' hi hb2 hb1 ha2 ha1 hi2 hi1 b1 a1 hfirst hb ha hK; omega), by (clear z5 z4 z3 q0 k2p h1 z2 e0 k0 hk1 hK4 m1 hij hkb2 hkb hka hj2 hj1 e hjb2 hjb hja2 hja hK' hi hb2 hb1 ha2 ha1 hi2 hi1 b1 a1 hfirst hb ha hK; omega), by (clear z5 z4 q0 h1 z2 e0 k0 hk1 hK4 m1 hij hkb2 hkb hka2 hka hj2 hj1 e hjb2 hjb hja2 hja hK' hi hb2 hb1 ha2 ha1 hi2 hi1 b1 a1 hfirst hb ha hK; omega), by (clear z5 z4 z3 q0 k2p z2 e0 k0 hk1 hK4 m1 hij hkb hka2 hka hj2 hj1 e hjb2 hjb hja2 hja hK' hi hb2 hb1 ha2 ha1 hi2 hi1 b1 a1 hfirst hb ha hK; omega), by (clear z5 z4 z3 q0 k2p z2 e0 k0 hk1 hK4 m1 hkb2 hkb hka2 hka hj2 hj1 e hjb2 hjb hja2 hja hK' hi hb2 hb1 ha2 hi2 hi1 b1 a1 hfirst hb ha hK; omega), lo4⟩⟩
                          · rw [if_neg z5]
                            exact wpS_pure ⟨lk4, _, _, _, _, _, _, rfl, by (clear z5 z3 q0 k2p h1 z2 e0 k0 hk1 hK4 m1 hij hkb2 hkb hka2 hka hj2 hj1 e hjb2 hjb hja2 hja hK' hi hb2 hb1 ha2 ha1 hi2 hi1 b1 a1 hfirst hb ha hK; omega), by (clear z5 z4 z3 q0 k2p h1 z2 e0 k0 hk1 hK4 m1 hij hkb2 hkb hka hj2 hj1 e hjb2 hjb hja2 hja hK' hi hb2 hb1 ha2 ha1 hi2 hi1 b1 a1 hfirst hb ha hK; omega), by (clear z5 z4 q0 h1 z2 e0 k0 hk1 hK4 m1 hij hkb2 hkb hka2 hka hj2 hj1 e hjb2 hjb hja2 hja hK' hi hb2 hb1 ha2 ha1 hi2 hi1 b1 a1 hfirst hb ha hK; omega), by (clear z5 z4 z3 q0 k2p z2 e0 k0 hk1 hK4 m1 hij hkb hka2 hka hj2 hj1 e hjb2 hjb hja2 hja hK' hi hb2 hb1 ha2 ha1 hi2 hi1 b1 a1 hfirst hb ha hK; omega), by (clear z5 z4 z3 q0 k2p z2 e0 k0 hk1 hK4 m1 hkb2 hkb hka2 hj2 hj1 e hjb2 hjb hja2 hja hK' hi hb2 hb1 ha2 ha1 hi2 hi1 b1 a1 hfirst hb ha hK; omega), lo4⟩
                    · rw [if_neg q0]
                      have e2 : k2 = kb - 1 := by (clear k2p z2 e0 k0 hk1 hK4 m1 hij hkb2 hkb hka2 hka hj2 hj1 e hjb2 hjb hja2 hja hK' hi hb2 hb1 ha2 ha1 hi2 hi1 b1 a1 hfirst hb ha hK; omega)
                      refine wpS_bind (wp_elem (by (clear e2 q0 k2p h1 z2 e0 k0 hk1 hK4 m1 hij hkb2 hkb hka hj2 hj1 e hjb2 hjb hja2 hja hK' hi hb2 hb1 ha2 ha1 hi2 hi1 b1 a1 hfirst hb hK; omega)) ?_)
                      have lo4 := stepA _ (ka) (kb - 1) (by omega) (by omega) (by omega) (by (clear e2 q0 k2p h1 z2 e0 k0 hk1 hK4 m1 hij hkb hka2 hka hj2 hj1 e hjb2 hjb hja2 hja hK' hi hb2 hb1 ha2 ha1 hi2 hi1 b1 a1 hfirst hb ha hK; omega)) lo2 (h2' (kb - 1 - 1) (by (clear e2 k2p h1 z2 e0 k0 hk1 hK4 m1 hij hkb2 hka2 hka hj2 hj1 e hjb2 hjb hja2 hja hK' hi hb2 hb1 ha2 ha1 hi2 hi1 b1 a1 hfirst hb ha hK; omega)))
                      by_cases z4 : ka - 1 = 0
                      · rw [if_pos (beq_iff_eq.mpr z4)]
                        exact wpS_pure ⟨lk4, .inl ⟨_, rfl, endA _ (ka - 1) (kb - 1) _ lk4 z4 (by (clear z4 e2 q0 k2p h1 z2 e0 k0 hk1 hK4 m1 hij hkb hka2 hka hj2 hj1 e hjb2 hjb hja2 hja hK' hi hb2 hb1 ha2 ha1 hi2 hi1 b1 a1 hfirst hb ha hK; omega)) lo4⟩⟩
                      · rw [if_neg (by simpa using z4)]
                        by_cases z5 : (decide (ka - k < 7) && decide (kb - 1 - k2 < 7)) = true
                        · rw [if_pos z5]
                          exact wpS_pure ⟨lk4, .inr ⟨_, _, _, _, _, _, rfl, by (clear z5 e2 q0 k2p h1 z2 e0 k0 hk1 hK4 m1 hij hkb2 hkb hka2 hka hj2 hj1 e hjb2 hjb hja2 hja hK' hi hb2 hb1 ha2 ha1 hi2 hi1 b1 a1 hfirst hb ha hK; omega), by (clear z5 z4 e2 q0 k2p h1 z2 e0 k0 hk1 hK4 m1 hij hkb2 hkb hka hj2 hj1 e hjb2 hjb hja2 hja hK' hi hb2 hb1 ha2 ha1 hi2 hi1 b1 a1 hfirst hb ha hK; omega), by (clear z5 z4 e2 q0 k2p h1 e0 k0 hk1 hK4 m1 hij hkb2 hka2 hka hj2 hj1 e hjb2 hjb hja2 hja hK' hi hb2 hb1 ha2 ha1 hi2 hi1 b1 a1 hfirst hb ha hK; omega), by (clear z5 z4 e2 q0 k2p h1 z2 e0 k0 hk1 hK4 m1 hij hkb hka2 hka hj2 hj1 e hjb2 hjb hja2 hja hK' hi hb2 hb1 ha2 ha1 hi2 hi1 b1 a1 hfirst hb ha hK; omega), by (clear z5 z4 e2 q0 k2p h1 z2 e0 k0 hk1 hK4 m1 hkb2 hkb hka2 hka hj2 hj1 e hjb2 hjb hja2 hja hK' hi hb2 hb1 ha2 hi2 hi1 b1 a1 hfirst hb ha hK; omega), lo4⟩⟩
                        · rw [if_neg z5]
                          exact wpS_pure ⟨lk4, _, _, _, _, _, _, rfl, by (clear z5 e2 q0 k2p h1 z2 e0 k0 hk1 hK4 m1 hij hkb2 hkb hka2 hka hj2 hj1 e hjb2 hjb hja2 hja hK' hi hb2 hb1 ha2 ha1 hi2 hi1 b1 a1 hfirst hb ha hK; omega), by (clear z5 z4 e2 q0 k2p h1 z2 e0 k0 hk1 hK4 m1 hij hkb2 hkb hka hj2 hj1 e hjb2 hjb hja2 hja hK' hi hb2 hb1 ha2 ha1 hi2 hi1 b1 a1 hfirst hb ha hK; omega), by (clear z5 z4 e2 q0 k2p h1 e0 k0 hk1 hK4 m1 hij hkb2 hka2 hka hj2 hj1 e hjb2 hjb hja2 hja hK' hi hb2 hb1 ha2 ha1 hi2 hi1 b1 a1 hfirst hb ha hK; omega), by (clear z5 z4 e2 q0 k2p h1 z2 e0 k0 hk1 hK4 m1 hij hkb hka2 hka hj2 hj1 e hjb2 hjb hja2 hja hK' hi hb2 hb1 ha2 ha1 hi2 hi1 b1 a1 hfirst hb ha hK; omega), by (clear z5 z4 e2 q0 k2p h1 z2 e0 k0 hk1 hK4 m1 hkb2 hkb hka2 hj2 hj1 e hjb2 hjb hja2 hja hK' hi hb2 hb1 ha2 ha1 hi2 hi1 b1 a1 hfirst hb ha hK; omega), lo4⟩
            · rintro c st3 ⟨lk3, ka, kb, out, m', p, q, rfl, hka, hka2, hkb, hkb2, hij, lo⟩
              have em : max 0 (a.size + b.size) = a.size + b.size := Nat.max_eq_right (Nat.zero_le _)
              rw [em] at hij
              (clear em hkb2 hkb hka2 e hjb2 hjb hja2 hja hK' hi hb1 ha1 hi2 hi1 b1 a1 hfirst hb ha hK; omega)
            · rintro ⟨r, c⟩ st3 ⟨lk3, ⟨res, e, q⟩ | ⟨ka, kb, out, m', p, q, e, hka, hka2, hkb, hkb2, hij, lo⟩⟩
              · dsimp only at e
                subst e
                exact wpS_pure ⟨res, rfl, q⟩
              · obtain ⟨rfl, rfl⟩ := Prod.mk.inj e
                dsimp only
                refine wpS_bind (wpS_modify (wpS_pure ⟨⟨lk3.kind, lk3.arr, lk3.pend, lk3.fail⟩, _, _, _, _, rfl, hka, hka2, hkb, hkb2, by omega, lo⟩))
      · rintro c st' ⟨lk, na, nb, out, mg, rfl, ha1, ha2, hb1, hb2, hi, lo⟩
        have em : max 0 (a.size + b.size) = a.size + b.size := Nat.max_eq_right (Nat.zero_le _)
        rw [em] at hi
        omega
      · rintro ⟨r, c⟩ st' ⟨res, e, q⟩
        dsimp only at e
        subst e
        exact wpS_pure q
end
end Srt
namespace Srt
open PySem PyProof.Rows
section
variable {blt : Keyed → Keyed → Bool}
def lay (arr : Array Keyed) (at_ : Nat) (m : Array Keyed) : Array Keyed := m.toList.zipIdx.foldl (fun a p => a.setIfInBounds (at_ + p.2) p.1) arr
theorem lay_go : ∀ (l : List Keyed) (j : Nat) (arr : Array Keyed) (at_ : Nat), at_ + j + l.length ≤ arr.size →
    ((l.zipIdx j).foldl (fun a p => a.setIfInBounds (at_ + p.2) p.1) arr).toList = arr.toList.take (at_ + j) ++ l ++ arr.toList.drop (at_ + j + l.length)
  | [], j, arr, at_, h => by simp
  | x :: l, j, arr, at_, h => by
    rw [List.zipIdx_cons, List.foldl_cons]
    have hl : at_ + j < arr.size := by simp at h; omega
    have ih := lay_go l (j + 1) (arr.setIfInBounds (at_ + j) x) at_ (by simp at h ⊢; (clear hl; omega))
    rw [ih, Array.toList_setIfInBounds]
    have e1 : (arr.toList.set (at_ + j) x).take (at_ + (j + 1)) = arr.toList.take (at_ + j) ++ [x] := by
      rw [show at_ + (j + 1) = at_ + j + 1 by (clear ih hl h; omega), List.take_add_one, List.take_set_of_le (Nat.le_refl _), List.getElem?_set_self (by rw [Array.length_toList]; exact hl)]
      rfl
    have e2 : (arr.toList.set (at_ + j) x).drop (at_ + (j + 1) + l.length) = arr.toList.drop (at_ + j + (x :: l).length) := by
      rw [List.drop_set_of_lt (by (clear e1 ih hl h; omega))]
      congr 1
      simp
      (clear e1 ih hl h; omega)
    rw [e1, e2, List.append_assoc, List.append_assoc, List.append_assoc]
    rfl
theorem lay_list {arr m : Array Keyed} {at_ : Nat} (h : at_ + m.size ≤ arr.size) : (lay arr at_ m).toList = arr.toList.take at_ ++ m.toList ++ arr.toList.drop (at_ + m.size) := by
  have := lay_go m.toList 0 arr at_ (by simpa using h)
  simpa [lay] using this
theorem g_list (xs : Array Keyed) (k : Nat) : g xs k = (xs.toList[k]?).getD dk := by unfold g; rw [Array.getElem?_toList]
theorem g_lay {arr m : Array Keyed} {at_ : Nat} (h : at_ + m.size ≤ arr.size) (k : Nat) : g (lay arr at_ m) k = if at_ ≤ k ∧ k < at_ + m.size then g m (k - at_) else g arr k := by
  rw [g_list, lay_list h]
  have l1 : (arr.toList.take at_).length = at_ := by rw [List.length_take, Array.length_toList]; omega
  by_cases a : k < at_
  · rw [if_neg (by (clear l1 h; omega)), List.append_assoc, List.getElem?_append_left (by (clear h; omega)), List.getElem?_take_of_lt a, ← g_list]
  · by_cases b : k < at_ + m.size
    · rw [if_pos ⟨by (clear b l1 h; omega), b⟩, List.append_assoc, List.getElem?_append_right (by (clear b h; omega)), l1, List.getElem?_append_left (by rw [Array.length_toList]; (clear l1 h; omega)), ← g_list]
    · rw [if_neg (by (clear a l1 h; omega)), List.getElem?_append_right (by rw [List.length_append, l1, Array.length_toList]; (clear a l1 h; omega)), List.length_append, l1, Array.length_toList, List.getElem?_drop, show at_ + m.size + (k - (at_ + m.size)) = k by (clear a l1 h; omega), ← g_list]
theorem lay_perm {arr m : Array Keyed} {at_ : Nat} (h : at_ + m.size ≤ arr.size) (p : m.toList.Perm ((arr.toList.drop at_).take m.size)) : (lay arr at_ m).Perm arr := by
  rw [Array.perm_iff_toList_perm, lay_list h]
  have e : arr.toList = arr.toList.take at_ ++ ((arr.toList.drop at_).take m.size ++ arr.toList.drop (at_ + m.size)) := by
    rw [← List.drop_drop, List.take_append_drop, List.take_append_drop]
  refine List.Perm.trans ?_ (List.Perm.of_eq e.symm)
  rw [List.append_assoc]
  exact List.Perm.append_left _ (List.Perm.append_right _ p)
theorem g_cut {arr : Array Keyed} {i n : Nat} (h : n ≤ arr.size) {k : Nat} (hk : k < n - i) : g (arr.extract i n) k = g arr (i + k) := by
  unfold g
  rw [Array.getElem?_extract, if_pos (by omega)]
theorem size_cut {arr : Array Keyed} {i n : Nat} (h : n ≤ arr.size) : (arr.extract i n).size = n - i := by rw [Array.size_extract]; omega
theorem on_cut {arr : Array Keyed} {i n : Nat} (h : n ≤ arr.size) (o : On blt arr i n) : On blt (arr.extract i n) 0 (arr.extract i n).size := fun a b _ hab hb => by
  rw [size_cut h] at hb
  rw [g_cut h (by (clear h; omega)), g_cut h hb]
  exact o _ _ (by (clear hb hab h; omega)) (by (clear hb h; omega)) (by (clear hab h; omega))
end
section
variable {prog : Program} {w : World} {A : Around} {E : Value → Shared → Prop} {s : Shared} {a₀ : Array Keyed} {κ : SortKind} {blt : Keyed → Keyed → Bool}
theorem wpS_set {x st : SortSt} {Q : PUnit → SortSt → Prop} (h : Q ⟨⟩ x) : wpS (model prog w) A E s (set x : StateT SortSt Sem PUnit) Q st := by
  unfold wpS; rw [StateT.run_set]; exact wpAny_pure ⟨rfl, h⟩
variable (L : Runs prog w A E s a₀ κ blt)
include L
theorem wp_mergeAt {st : SortSt} {i sa na pa sb nb pb : Nat} {Q : Bool → SortSt → Prop} (C : Cmp blt) (B : Base a₀ κ st) (hi : (pendingOf st)[i]? = some (sa, na, pa)) (hj : (pendingOf st)[i + 1]? = some (sb, nb, pb)) (hb : sb = sa + na) (h1 : 1 ≤ na) (h2 : 1 ≤ nb) (hz : sb + nb ≤ a₀.size)
    (oa : On blt (arrOf st) sa (sa + na)) (ob : On blt (arrOf st) sb (sb + nb))
    (h : ∀ st', Base a₀ κ st' → pendingOf st' = ((pendingOf st).setIfInBounds i (sa, na + nb, pa)).eraseIdxIfInBounds (i + 1) → On blt (arrOf st') sa (sa + (na + nb)) → (∀ k, k < sa ∨ sa + (na + nb) ≤ k → g (arrOf st') k = g (arrOf st) k) → Q true st') :
    wpS (model prog w) A E s (mergeAt' i) Q st := by
  subst hb
  have hsz := B.size
  have hsz' : ((sortPriv% PySem.Builtin.SortState.a) st).size = a₀.size := B.size
  refine wpS_bind (wpS_get ?_)
  dsimp only
  rw [hi, hj]
  dsimp only
  refine wpS_bind (wpS_set ?_)
  have B1 : Base a₀ κ (SortSt.mk' (kindOf st) (arrOf st) (((pendingOf st).setIfInBounds i (sa, na + nb, pa)).eraseIdxIfInBounds (i + 1)) (gallopOf st) (failedOf st)) := ⟨B.kind, B.fine, B.perm⟩
  refine wpS_bind (wp_elem (by (clear hsz hj h1 hi; omega)) ?_)
  refine wpS_bind (wp_gallop L B1.kind (B.mem (by (clear hsz' hsz hj h1 hi; omega))) (fun j hj => ⟨by (clear hsz h2 h1 hi; omega), B.mem (by (clear hsz' hsz h2 h1 hi; omega))⟩) (by omega) (fun j => !blt (g (arrOf st) (sa + na)) (g (arrOf st) (sa + j))) (fun j hj => rfl) (fun x y h3 h4 h5 => ?_) fun k hk1 hk2 hk3 => ?_)
  · have h5 : blt (g (arrOf st) (sa + na)) (g (arrOf st) (sa + y)) = false := by simpa using h5
    by_cases e : x = y
    · subst e; simpa using h5
    · have := C.trans (oa (sa + x) (sa + y) (by (clear e h5 h4 h3 hsz' hsz hz hj h2 h1 hi; omega)) (by (clear h5 h4 hsz' hsz hz hj h2 h1 hi; omega)) (by omega)) h5
      simpa using this
  · dsimp only
    have low : ∀ j, j < k → le blt (g (arrOf st) (sa + j)) (g (arrOf st) (sa + na)) := fun j hj => by have := hk2 j hj; simpa using this
    have up : ∀ j, k ≤ j → j < na → blt (g (arrOf st) (sa + na)) (g (arrOf st) (sa + j)) = true := fun j hj hj2 => by have := hk3 j hj hj2; simpa using this
    have lowB : ∀ j x, j < k → sa + na ≤ x → x < sa + na + nb → le blt (g (arrOf st) (sa + j)) (g (arrOf st) x) := fun j x hj hx hx2 => by
      by_cases e : x = sa + na
      · rw [e]; exact low j hj
      · exact C.trans (low j hj) (ob (sa + na) x (Nat.le_refl _) (by (clear hx2 hj hk1 hsz' hsz hz h2 h1 hi; omega)) hx2)
    by_cases n0 : na - k = 0
    · rw [if_pos (beq_iff_eq.mpr n0)]
      refine wpS_pure (h _ B1 rfl (fun x y hx hxy hy => ?_) fun _ _ => rfl)
      by_cases c : y < sa + na
      · exact oa x y hx hxy c
      · by_cases d : x < sa + na
        · have := lowB (x - sa) y (by omega) (by (clear d hy hxy hx n0 hk1 hsz' hsz hz hj h2 h1 hi; omega)) (by omega)
          rwa [show sa + (x - sa) = x by (clear this d c hy hxy n0 hk1 hsz' hsz hz hj h2 h1 hi; omega)] at this
        · exact ob x y (by (clear c hy hxy hx n0 hk1 hsz' hsz hz hj h2 h1 hi; omega)) hxy (by (clear d c hxy hx n0 hk1 hsz' hsz hz hj h2 h1 hi; omega))
    · rw [if_neg (by simpa using n0)]
      refine wpS_bind (wp_elem (by (clear n0 hsz hj h2 hi; omega)) ?_)
      rw [show sa + k + (na - k) - 1 = sa + na - 1 by (clear n0 hsz' hsz hz hj h2 h1 hi; omega)]
      refine wpS_bind (wp_gallop L B1.kind (B.mem (by (clear n0 hk1 hsz' hsz hj h2 hi; omega))) (fun j hj => ⟨by (clear n0 hk1 hsz h2 h1 hi; omega), B.mem (by (clear n0 hk1 hsz' hsz h2 h1 hi; omega))⟩) (by (clear n0 hk1 hsz' hsz hz hj h1 hi; omega)) (fun j => blt (g (arrOf st) (sa + na + j)) (g (arrOf st) (sa + na - 1))) (fun j hj => rfl) (fun x y h3 h4 h5 => ?_) fun m hm1 hm2 hm3 => ?_)
      · by_cases e : x = y
        · subst e; exact h5
        · cases z : blt (g (arrOf st) (sa + na + x)) (g (arrOf st) (sa + na - 1)) with
          | true => rfl
          | false =>
            have f : blt (g (arrOf st) (sa + na + y)) (g (arrOf st) (sa + na - 1)) = false := C.trans z (ob (sa + na + x) (sa + na + y) (by omega) (by (clear z h5 h4 n0 hk1 hsz' hsz hz hj h2 h1 hi; omega)) (by omega))
            rw [h5] at f
            cases f
      · dsimp only
        have hk2' : ∀ j, j < m → blt (g (arrOf st) (sa + na + j)) (g (arrOf st) (sa + na - 1)) = true := hm2
        have first : blt (g (arrOf st) (sa + na + 0)) (g (arrOf st) (sa + k + 0)) = true := by
          rw [Nat.add_zero, Nat.add_zero]; exact up k (Nat.le_refl _) (by (clear hm1 hk1 hsz' hsz hz hj h2 h1 hi; omega))
        have mp : 0 < m := by
          rcases Nat.eq_zero_or_pos m with z | z
          · have f : blt (g (arrOf st) (sa + na + 0)) (g (arrOf st) (sa + na - 1)) = false := hm3 0 (by (clear first hm1 n0 hk1 hsz' hsz hz hj h2 h1 hi; omega)) (by (clear z first hm1 n0 hk1 hsz' hsz hz hj h1 hi; omega))
            have q := up (na - 1) (by (clear f z first hm1 hk1 hsz' hsz hz hj h2 h1 hi; omega)) (by omega)
            rw [show sa + (na - 1) = sa + na - 1 by (clear q f z first hm1 n0 hk1 hsz' hsz hz hj h2 hi; omega)] at q
            rw [Nat.add_zero, q] at f
            cases f
          · exact z
        have high : ∀ x, sa + na + m ≤ x → x < sa + na + nb → le blt (g (arrOf st) (sa + na - 1)) (g (arrOf st) x) := fun x hx hx2 => by
          have f : blt (g (arrOf st) (sa + na + (x - (sa + na)))) (g (arrOf st) (sa + na - 1)) = false := hm3 (x - (sa + na)) (by (clear hx2 mp first hm1 n0 hk1 hsz' hsz hz hj h2 h1 hi; omega)) (by (clear hx mp first hm1 n0 hk1 hsz' hsz hz hj h1 hi; omega))
          rwa [show sa + na + (x - (sa + na)) = x by (clear f hx2 mp first hm1 n0 hk1 hsz' hsz hz hj h2 h1 hi; omega)] at f
        have highA : ∀ y x, sa ≤ y → y < sa + na → sa + na + m ≤ x → x < sa + na + nb → le blt (g (arrOf st) y) (g (arrOf st) x) := fun y x hy hy2 hx hx2 => by
          by_cases e : y = sa + na - 1
          · rw [e]; exact high x hx hx2
          · exact C.trans (oa y (sa + na - 1) hy (by (clear hx2 hx hy mp first hm1 n0 hk1 hsz' hsz hz hj h2 h1 hi; omega)) (by (clear e hx2 hx hy2 hy mp first hm1 n0 hk1 hsz' hsz hz hj h2 hi; omega))) (high x hx hx2)
        rw [if_neg (by have : ¬ m = 0 := by (clear first hm1 n0 hk1 hsz' hsz hz hj h2 h1 hi; omega)
                       simpa using this)]
        have sx : ((arrOf st).extract (sa + k) (sa + na)).size = sa + na - (sa + k) := size_cut (by (clear mp first hm1 n0 hk1 hsz' hj h2 h1 hi; omega))
        have sy : ((arrOf st).extract (sa + na) (sa + na + m)).size = sa + na + m - (sa + na) := size_cut (by (clear sx mp first n0 hk1 hsz' hj h2 h1 hi; omega))
        have oa' : On blt (arrOf st) (sa + k) (sa + na) := oa.sub (by (clear sy sx mp first hm1 n0 hk1 hsz' hsz hz hj h2 h1 hi; omega)) (by (clear sy sx mp first hm1 n0 hk1 hsz' hsz hz hj h2 h1 hi; omega))
        have ob' : On blt (arrOf st) (sa + na) (sa + na + m) := ob.sub (by (clear sy sx mp first hm1 n0 hk1 hsz' hsz hz hj h2 h1 hi; omega)) (by (clear sy sx mp first n0 hk1 hsz' hsz hz hj h2 h1 hi; omega))
        have tail : ∀ (res : Array Keyed) (st2 : SortSt), Like (SortSt.mk' (kindOf st) (arrOf st) (((pendingOf st).setIfInBounds i (sa, na + nb, pa)).eraseIdxIfInBounds (i + 1)) (gallopOf st) (failedOf st)) st2 → res.toList.Perm (((arrOf st).extract (sa + k) (sa + na)).toList ++ ((arrOf st).extract (sa + na) (sa + na + m)).toList) → PW blt res.toList →
            wpS (model prog w) A E s (modify (fun s => SortSt.mk' (kindOf s) (lay (arrOf s) (sa + k) res) (pendingOf s) (gallopOf s) (failedOf s)) >>= fun _ => get >>= fun x => pure (failedOf x).isNone) Q st2 := fun res st2 lk pm pw => by
          have rs : res.size = na - k + m := by
            have := pm.length_eq
            rw [List.length_append, Array.length_toList, Array.length_toList, Array.length_toList, sx, sy] at this
            (clear sy sx mp first hm1 n0 hk1 hsz' hsz hz hj h2 h1 hi; omega)
          have rm : ∀ j, j < res.size → ∃ x, sa + k ≤ x ∧ x < sa + na + m ∧ g res j = g (arrOf st) x := fun j hj => by
            have mem : g res j ∈ res.toList := by have := g_mem hj; simpa using this
            rcases List.mem_append.mp (pm.mem_iff.mp mem) with q | q
            · obtain ⟨x, x1, x2, _, x4⟩ := mem_cut_g q
              exact ⟨x, by omega, by (clear x4 x1 hj rs sy sx mp first hm1 n0 hk1 hsz' hsz hz h2 h1 hi; omega), x4⟩
            · obtain ⟨x, x1, x2, _, x4⟩ := mem_cut_g q
              exact ⟨x, by (clear x4 x2 hj rs sy sx mp first hm1 n0 hsz' hsz hz h2 h1 hi; omega), by omega, x4⟩
          have fit : sa + k + res.size ≤ (arrOf st2).size := by rw [lk.arr]; show sa + k + res.size ≤ (arrOf st).size; (clear sy sx mp first n0 hsz' hj h2 h1 hi; omega)
          refine wpS_bind (wpS_modify ?_)
          refine wpS_bind (wpS_get (wpS_pure ?_))
          have hg : ∀ x, g (lay (arrOf st2) (sa + k) res) x = if sa + k ≤ x ∧ x < sa + k + res.size then g res (x - (sa + k)) else g (arrOf st) x := fun x => by
            rw [g_lay fit, lk.arr]
          have ef : (failedOf st2).isNone = true := by
            rw [lk.fail]; show (failedOf st).isNone = true; rw [B.fine]; rfl
          show Q (failedOf st2).isNone _
          rw [ef]
          have on := on_of_pw pw
          refine h _ ⟨lk.kind.trans B.kind, lk.fail.trans B.fine, ?_⟩ lk.pend ?_ ?_
          · refine (lay_perm fit ?_).trans (by rw [lk.arr]; exact B.perm)
            rw [lk.arr]
            show res.toList.Perm (((arrOf st).toList.drop (sa + k)).take res.size)
            refine pm.trans (List.Perm.of_eq ?_)
            rw [Array.toList_extract, Array.toList_extract, List.extract_eq_take_drop, List.extract_eq_take_drop, rs, show sa + na - (sa + k) = na - k by (clear ef fit rs sy sx mp first hm1 n0 hk1 hsz' hsz hz hj h2 h1 hi; omega), show sa + na + m - (sa + na) = m by (clear ef fit rs sy sx mp first hm1 n0 hk1 hsz' hsz hz hj h2 h1 hi; omega), List.take_add, List.drop_drop, show sa + k + (na - k) = sa + na by (clear ef fit rs sy sx mp first hm1 n0 hsz' hsz hz hj h2 h1 hi; omega)]
          · intro x y hx hxy hy
            show le blt (g (lay (arrOf st2) (sa + k) res) x) (g (lay (arrOf st2) (sa + k) res) y)
            rw [hg x, hg y]
            by_cases y1 : sa + k ≤ y ∧ y < sa + k + res.size
            · rw [if_pos y1]
              by_cases x1 : sa + k ≤ x ∧ x < sa + k + res.size
              · rw [if_pos x1]
                exact on _ _ (Nat.zero_le _) (by (clear y1 hy hx ef fit rs sy sx mp first hm1 n0 hk1 hsz' hsz hz hj h2 h1 hi; omega)) (by (clear x1 hy hxy hx ef fit rs sy sx mp first hm1 n0 hk1 hsz' hsz hz hj h2 h1 hi; omega))
              · rw [if_neg x1]
                obtain ⟨z, z1, z2, z3⟩ := rm (y - (sa + k)) (by (clear x1 hy hxy hx ef fit rs sy sx mp first hm1 n0 hk1 hsz' hsz hz hj h2 h1 hi; omega))
                rw [z3]
                by_cases zz : z < sa + na
                · exact oa x z hx (by (clear zz z3 z2 hy hx ef fit rs sy sx mp first hm1 n0 hk1 hsz' hsz hz hj h2 h1 hi; omega)) zz
                · have := lowB (x - sa) z (by (clear zz z3 z2 z1 hy ef fit rs sy sx mp first hm1 n0 hk1 hsz' hsz hz hj h2 h1 hi; omega)) (by (clear z3 z2 z1 x1 y1 hy hxy hx ef fit rs sy sx mp first hm1 n0 hk1 hsz' hsz hz hj h2 h1 hi; omega)) (by (clear zz z3 z1 x1 y1 hy hxy hx ef fit rs sy sx mp first n0 hk1 hsz' hsz hz hj h2 h1 hi; omega))
                  rwa [show sa + (x - sa) = x by (clear this zz z3 z2 z1 x1 y1 hy hxy ef fit rs sy sx mp first hm1 n0 hk1 hsz' hsz hz hj h2 h1 hi; omega)] at this
            · rw [if_neg y1]
              by_cases x1 : sa + k ≤ x ∧ x < sa + k + res.size
              · rw [if_pos x1]
                obtain ⟨z, z1, z2, z3⟩ := rm (x - (sa + k)) (by (clear y1 hy hxy hx ef fit rs sy sx mp first hm1 n0 hk1 hsz' hsz hz hj h2 h1 hi; omega))
                rw [z3]
                by_cases zz : z < sa + na
                · exact highA z y (by (clear zz z3 z2 x1 y1 hy hxy hx ef fit rs sy sx mp first hm1 n0 hk1 hsz' hsz hz hj h2 h1 hi; omega)) zz (by (clear zz z3 z2 z1 hy hx ef fit sy sx mp first hm1 n0 hk1 hsz' hsz hz hj h2 h1 hi; omega)) (by omega)
                · exact ob z y (by (clear z3 z2 z1 x1 y1 hy hxy hx ef fit rs sy sx mp first hm1 n0 hk1 hsz' hsz hz hj h2 h1 hi; omega)) (by (clear zz z3 z1 hy hx ef fit sy sx mp first hm1 n0 hk1 hsz' hsz hz hj h2 h1 hi; omega)) (by omega)
              · rw [if_neg x1]
                by_cases yy : y < sa + na
                · exact oa x y hx hxy yy
                · by_cases xx : x < sa + na
                  · exact highA x y hx xx (by (clear xx x1 hy hxy hx ef fit sy sx mp first hm1 n0 hsz' hsz hz hj h2 h1 hi; omega)) (by (clear xx yy x1 y1 hxy hx ef fit rs sy sx mp first hm1 n0 hk1 hsz' hsz hz hj h2 h1 hi; omega))
                  · exact ob x y (by (clear yy x1 y1 hy hxy hx ef fit rs sy sx mp first hm1 n0 hk1 hsz' hsz hz hj h2 h1 hi; omega)) hxy (by (clear xx yy x1 y1 hxy hx ef fit rs sy sx mp first hm1 n0 hk1 hsz' hsz hz hj h2 h1 hi; omega))
          · intro x hx
            show g (lay (arrOf st2) (sa + k) res) x = g (arrOf st) x
            rw [hg x, if_neg (by (clear ef fit sy sx mp first n0 hsz' hsz hz hj h2 h1 hi; omega))]
        by_cases c : na - k ≤ m
        · rw [if_pos c]
          refine wpS_bind (wp_mergeLo L C B1.kind (fun x hx => ?_) (on_cut (by (clear c sy sx mp first hm1 n0 hk1 hsz hj h2 h1 hi; omega)) oa') (on_cut (by (clear c sy sx mp first n0 hk1 hsz hj h2 h1 hi; omega)) ob') (by rw [sx]; (clear c sy sx mp first hm1 hk1 hsz' hsz hz hj h2 h1 hi; omega)) (by rw [sy]; (clear c sy sx first hm1 n0 hk1 hsz' hsz hz hj h2 h1 hi; omega)) ?_ ?_ fun res st2 lk pm pw => ?_)
          · rcases List.mem_append.mp hx with q | q
            · obtain ⟨j, _, _, hj3, rfl⟩ := mem_cut_g q
              exact B.mem (by (clear hj3 c sy sx mp first hm1 n0 hk1 hsz' hsz hj h2 h1 hi; omega))
            · obtain ⟨j, _, _, hj3, rfl⟩ := mem_cut_g q
              exact B.mem (by omega)
          · rw [g_cut (by (clear c sy sx mp first n0 hk1 hsz hj h2 h1 hi; omega)) (by (clear c sy sx first hm1 n0 hk1 hsz' hsz hz hj h2 h1 hi; omega)), g_cut (by (clear c sy sx mp first hm1 n0 hk1 hsz hj h2 h1 hi; omega)) (by (clear c sy sx mp first hm1 hk1 hsz' hsz hz hj h2 h1 hi; omega))]
            exact first
          · intro j hj
            rw [sy] at hj
            rw [sx, g_cut (by (clear hj c sy sx mp first n0 hk1 hsz h2 h1 hi; omega)) (by omega), g_cut (by (clear hj c sy sx mp first hm1 n0 hk1 hsz h2 h1 hi; omega)) (by (clear hj c sy sx mp first hm1 hk1 hsz' hsz hz h2 h1 hi; omega)), show sa + k + (sa + na - (sa + k) - 1) = sa + na - 1 by (clear hj c sy sx mp first hm1 hk1 hsz' hsz hz h2 h1 hi; omega)]
            exact hk2' j (by (clear c sy sx mp first hm1 n0 hk1 hsz' hsz hz h2 h1 hi; omega))
          · exact tail res st2 lk pm pw
        · rw [if_neg c]
          refine wpS_bind (wp_mergeHi L C B1.kind (fun x hx => ?_) (on_cut (by (clear c sy sx mp first hm1 n0 hk1 hsz hj h2 h1 hi; omega)) oa') (on_cut (by (clear c sy sx mp first n0 hk1 hsz hj h2 h1 hi; omega)) ob') (by rw [sx]; (clear c sy sx mp first hm1 hk1 hsz' hsz hz hj h2 h1 hi; omega)) (by rw [sy]; (clear c sy sx first hm1 n0 hk1 hsz' hsz hz hj h2 h1 hi; omega)) ?_ ?_ fun res st2 lk pm pw => ?_)
          · rcases List.mem_append.mp hx with q | q
            · obtain ⟨j, _, _, hj3, rfl⟩ := mem_cut_g q
              exact B.mem (by (clear hj3 c sy sx mp first hm1 n0 hk1 hsz' hsz hj h2 h1 hi; omega))
            · obtain ⟨j, _, _, hj3, rfl⟩ := mem_cut_g q
              exact B.mem (by omega)
          · rw [g_cut (by (clear c sy sx mp first n0 hk1 hsz hj h2 h1 hi; omega)) (by (clear c sy sx first hm1 n0 hk1 hsz' hsz hz hj h2 h1 hi; omega)), g_cut (by (clear c sy sx mp first hm1 n0 hk1 hsz hj h2 h1 hi; omega)) (by (clear c sy sx mp first hm1 hk1 hsz' hsz hz hj h2 h1 hi; omega))]
            exact first
          · intro j hj
            rw [sy] at hj
            rw [sx, g_cut (by (clear hj c sy sx mp first n0 hk1 hsz h2 h1 hi; omega)) (by omega), g_cut (by (clear hj c sy sx mp first hm1 n0 hk1 hsz h2 h1 hi; omega)) (by (clear hj c sy sx mp first hm1 hk1 hsz' hsz hz h2 h1 hi; omega)), show sa + k + (sa + na - (sa + k) - 1) = sa + na - 1 by (clear hj c sy sx mp first hm1 hk1 hsz' hsz hz h2 h1 hi; omega)]
            exact hk2' j (by (clear c sy sx mp first hm1 n0 hk1 hsz' hsz hz h2 h1 hi; omega))
          · exact tail res st2 lk pm pw
end
section
variable {blt : Keyed → Keyed → Bool}
def Stack (blt : Keyed → Keyed → Bool) (xs : Array Keyed) : List (Nat × Nat × Nat) → Nat → Nat → Prop
  | [], f, t => f = t
  | (st, len, _) :: r, f, t => st = f ∧ 1 ≤ len ∧ On blt xs st (st + len) ∧ Stack blt xs r (st + len) t
theorem Stack.le {xs : Array Keyed} : ∀ {l : List (Nat × Nat × Nat)} {f t : Nat}, Stack blt xs l f t → f + l.length ≤ t
  | [], f, t, h => by cases h; simp
  | (st, len, p) :: r, f, t, h => by
    obtain ⟨rfl, h1, _, h3⟩ := h
    have := Stack.le h3
    simp
    omega
theorem Stack.app {xs : Array Keyed} : ∀ {l r : List (Nat × Nat × Nat)} {f t : Nat}, Stack blt xs (l ++ r) f t ↔ ∃ m, Stack blt xs l f m ∧ Stack blt xs r m t
  | [], r, f, t => ⟨fun h => ⟨f, rfl, h⟩, fun ⟨m, e, h⟩ => by cases e; exact h⟩
  | (st, len, p) :: l, r, f, t => by
    constructor
    · rintro ⟨h1, h2, h3, h4⟩
      obtain ⟨m, a, b⟩ := Stack.app.mp h4
      exact ⟨m, ⟨h1, h2, h3, a⟩, b⟩
    · rintro ⟨m, ⟨h1, h2, h3, a⟩, b⟩
      exact ⟨h1, h2, h3, Stack.app.mpr ⟨m, a, b⟩⟩
theorem Stack.congr {xs ys : Array Keyed} : ∀ {l : List (Nat × Nat × Nat)} {f t : Nat}, Stack blt xs l f t → (∀ k, f ≤ k → k < t → g ys k = g xs k) → Stack blt ys l f t
  | [], f, t, h, _ => h
  | (st, len, p) :: r, f, t, h, e => by
    obtain ⟨rfl, h1, h2, h3⟩ := h
    have := h3.le
    exact ⟨rfl, h1, h2.congr fun k a b => e k a (by omega), h3.congr fun k a b => e k (by (clear b this h1; omega)) b⟩
theorem Stack.pw {xs : Array Keyed} {l : List (Nat × Nat × Nat)} {a b p q : Nat} {f t : Nat} (h : Stack blt xs (l ++ [(a, b, p)]) f t) : Stack blt xs (l ++ [(a, b, q)]) f t := by
  obtain ⟨m, h1, h2⟩ := Stack.app.mp h
  exact Stack.app.mpr ⟨m, h1, h2⟩
theorem push_stack {xs : Array Keyed} {p : Array (Nat × Nat × Nat)} {lo n q : Nat} (S : Stack blt xs p.toList 0 lo) (h : 1 ≤ n) (o : On blt xs lo (lo + n)) : Stack blt xs (p.push (lo, n, q)).toList 0 (lo + n) := by
  rw [Array.toList_push]
  exact Stack.app.mpr ⟨lo, S, rfl, h, o, rfl⟩
theorem modify_last {α : Type} (q : Array α) (x : α) (f : α → α) : (q.push x).modify ((q.push x).size - 1) f = q.push (f x) := by
  have e : (q.push x).size - 1 = q.size := by simp
  rw [e]
  apply Array.ext
  · simp
  · intro i h1 h2
    rw [Array.getElem_modify]
    by_cases hi : q.size = i
    · subst hi; simp
    · rw [if_neg hi]
      have : i < q.size := by simp at h2; (clear h1 e; omega)
      rw [Array.getElem_push_lt this, Array.getElem_push_lt this]
theorem modify_stack {xs : Array Keyed} {p : Array (Nat × Nat × Nat)} {lo pw : Nat} (z : 1 ≤ p.size) (S : Stack blt xs p.toList 0 lo) : Stack blt xs (p.modify (p.size - 1) fun x => (x.1, x.2.1, pw)).toList 0 lo := by
  obtain ⟨q, x, rfl⟩ : ∃ q x, p = q.push x := ⟨p.pop, p[p.size - 1], by
    apply Array.ext
    · simp; omega
    · intro i h1 h2
      by_cases hi : i < p.pop.size
      · rw [Array.getElem_push_lt hi]; simp
      · have : i = p.size - 1 := by simp at h2 hi; (clear h2 z; omega)
        subst this
        rw [Array.getElem_push]
        rw [dif_neg (by simp)]⟩
  rw [modify_last, Array.toList_push]
  rw [Array.toList_push] at S
  obtain ⟨a, b, c⟩ := x
  exact S.pw
theorem split_at {α : Type} {l : List α} {i : Nat} {x y : α} (h1 : l[i]? = some x) (h2 : l[i + 1]? = some y) : ∃ p r, l = p ++ x :: y :: r ∧ p.length = i := by
  obtain ⟨a1, e1⟩ := List.getElem?_eq_some_iff.mp h1
  obtain ⟨a2, e2⟩ := List.getElem?_eq_some_iff.mp h2
  refine ⟨l.take i, l.drop (i + 2), ?_, by rw [List.length_take]; (clear e2 a2 e1 h2 h1; omega)⟩
  have d1 := List.drop_eq_getElem_cons a1
  have d2 := List.drop_eq_getElem_cons a2
  rw [e1] at d1
  rw [e2] at d2
  calc l = l.take i ++ l.drop i := (List.take_append_drop _ _).symm
    _ = _ := by rw [d1, d2]
theorem erase_at {α : Type} {p r : List α} {x y v : α} : ((p ++ x :: y :: r).set p.length v).eraseIdx (p.length + 1) = p ++ v :: r := by
  rw [List.set_append_right _ _ (Nat.le_refl _), Nat.sub_self]
  rw [List.eraseIdx_append_of_length_le (by omega), show p.length + 1 - p.length = 1 by omega]
  rfl
end
section
variable {prog : Program} {w : World} {A : Around} {E : Value → Shared → Prop} {s : Shared} {a₀ : Array Keyed} {κ : SortKind} {blt : Keyed → Keyed → Bool}
variable (L : Runs prog w A E s a₀ κ blt)
include L
theorem wp_mergeS {st : SortSt} {i lo : Nat} {Q : Bool → SortSt → Prop} (C : Cmp blt) (B : Base a₀ κ st) (S : Stack blt (arrOf st) (pendingOf st).toList 0 lo) (hlo : lo ≤ a₀.size) (hi : i + 1 < (pendingOf st).size)
    (h : ∀ st', Base a₀ κ st' → Stack blt (arrOf st') (pendingOf st').toList 0 lo → (pendingOf st').size + 1 = (pendingOf st).size → (∀ k, lo ≤ k → g (arrOf st') k = g (arrOf st) k) → Q true st') :
    wpS (model prog w) A E s (mergeAt' i) Q st := by
  have q1 : (pendingOf st)[i]? = some ((pendingOf st)[i]'(by (clear hlo; omega))) := getElem?_pos _ _ _
  have q2 : (pendingOf st)[i + 1]? = some ((pendingOf st)[i + 1]'hi) := getElem?_pos _ _ _
  obtain ⟨⟨sa, na, pa⟩, e1⟩ : ∃ x, x = (pendingOf st)[i]'(by (clear q2 q1 hlo; omega)) := ⟨_, rfl⟩
  obtain ⟨⟨sb, nb, pb⟩, e2⟩ : ∃ x, x = (pendingOf st)[i + 1]'hi := ⟨_, rfl⟩
  rw [← e1] at q1
  rw [← e2] at q2
  have t1 := q1
  have t2 := q2
  rw [← Array.getElem?_toList] at t1 t2
  obtain ⟨p, r, el, pl⟩ := split_at t1 t2
  rw [el] at S
  obtain ⟨m, S1, S2⟩ := Stack.app.mp S
  obtain ⟨rfl, n1, o1, rfl, n2, o2, S3⟩ := S2
  have l3 := S3.le
  have l1 := S1.le
  refine wp_mergeAt L C B q1 q2 rfl n1 n2 (by (clear l1 n2 el t2 e2 q2 n1 pl t1 e1 q1 hi; omega)) o1 o2 fun st' B' hp on keep => ?_
  have ep : (pendingOf st').toList = p ++ (sa, na + nb, pa) :: r := by
    rw [hp, Array.toList_eraseIdxIfInBounds, Array.toList_setIfInBounds, el, ← pl, erase_at]
  have kz : ∀ k, k < sa ∨ sa + na + nb ≤ k → g (arrOf st') k = g (arrOf st) k := fun k hk => keep k (by (clear ep hp l1 l3 n2 el t2 e2 q2 n1 pl t1 e1 q1 hi hlo; omega))
  refine h st' B' ?_ ?_ fun k hk => kz k (by (clear ep hp l1 n2 el t2 e2 q2 n1 pl t1 e1 q1 hi hlo; omega))
  · rw [ep]
    refine Stack.app.mpr ⟨sa, S1.congr fun k a b => kz k (.inl b), rfl, by (clear ep hp l1 l3 n2 el t2 e2 q2 pl t1 e1 q1 hi hlo; omega), on, ?_⟩
    rw [show sa + (na + nb) = sa + na + nb by (clear ep hp l1 l3 n2 el t2 e2 q2 n1 pl t1 e1 q1 hi hlo; omega)]
    exact S3.congr fun k a b => kz k (.inr a)
  · have a := congrArg List.length ep
    have b := congrArg List.length el
    simp at a b
    (clear ep hp l1 l3 n2 el t2 e2 q2 n1 pl t1 e1 q1 hi hlo; omega)
theorem wp_sortRuns {st : SortSt} {Q : Unit → SortSt → Prop} (C : Cmp blt) (B : Base a₀ κ st) (hp : pendingOf st = #[]) (h2 : 1 ≤ a₀.size)
    (h : ∀ st', Base a₀ κ st' → On blt (arrOf st') 0 a₀.size → Q () st') : wpS (model prog w) A E s sortRuns' Q st := by
  rw [sortRuns'_eq]
  refine wpS_bind (wpS_get ?_)
  dsimp only
  have hsz := B.size
  rw [hsz]
  refine wpS_bind (wpS_mono (wpS_forRange
    (I := fun i c st' => ∃ lo, c = (none, lo) ∧ i ≤ lo ∧ lo ≤ a₀.size ∧ Base a₀ κ st' ∧ Stack blt (arrOf st') (pendingOf st').toList 0 lo)
    (Q := fun c st' => c = (none, a₀.size) ∧ Base a₀ κ st' ∧ Stack blt (arrOf st') (pendingOf st').toList 0 a₀.size) ?step ?fin ⟨0, rfl, Nat.le_refl _, Nat.zero_le _, B, by rw [hp]; exact rfl⟩) ?post)
  case fin =>
    rintro c st' ⟨lo, rfl, h1, h3, B', S⟩
    have em : max 0 a₀.size = a₀.size := Nat.max_eq_right (Nat.zero_le _)
    rw [em] at h1
    have e : lo = a₀.size := by (clear em hsz h2 hp; omega)
    subst e
    exact ⟨rfl, B', S⟩
  case step =>
    rintro i c st' _ hi ⟨lo, rfl, h1, h3, B', S⟩
    dsimp only
    by_cases z : lo ≥ a₀.size
    · rw [if_pos z]
      have e : lo = a₀.size := by (clear h1 hi hsz h2 hp; omega)
      subst e
      exact wpS_pure ⟨rfl, B', S⟩
    · rw [if_neg z]
      refine wpS_bind (wp_count L C B' (by (clear h3 h1 hi hsz h2 hp; omega)) (by (clear z h1 hi hsz h2 hp; omega)) fun n st2 B2 p2 m1 m2 O2 k2 => ?_)
      dsimp only
      have S2 : Stack blt (arrOf st2) (pendingOf st2).toList 0 lo := by
        rw [p2]
        exact S.congr fun k _ b => k2 k b
      by_cases small : n < minRun' a₀.size a₀.size 0
      · rw [if_pos small]
        refine wpS_bind (wpS_lift (wpAny_rule ⟨rfl, ?_⟩))
        refine wpS_bind (wp_binary L C B2 m1 (by (clear m1 p2 z h3 h1 hi hsz h2 hp; omega)) (by (clear small m2 m1 p2 z h1 hi hsz h2 hp; omega)) O2 fun st3 B3 p3 O3 k3 => ?_)
        rw [if_neg (by decide)]
        have S3 : Stack blt (arrOf st3) (pendingOf st3).toList 0 lo := by
          rw [p3]
          exact S2.congr fun k _ b => k3 k b
        generalize hn : min (a₀.size - lo) (minRun' a₀.size a₀.size 0) = n' at O3
        have n1' : 1 ≤ n' := by omega
        have n2' : lo + n' ≤ a₀.size := by omega
        refine wpS_bind (wpS_get ?_)
        cases eb : (pendingOf st3).back? with
        | none =>
          dsimp only
          exact wpS_bind (wpS_modify (wpS_pure ⟨lo + n', rfl, by omega, by omega, ⟨B3.kind, B3.fine, B3.perm⟩, push_stack S3 (by omega) O3⟩))
        | some tt =>
          obtain ⟨s1, n1, p1⟩ := tt
          dsimp only
          have hsz3 : 1 ≤ (pendingOf st3).size := by
            rcases Nat.eq_zero_or_pos (pendingOf st3).size with q | q
            · rw [Array.size_eq_zero_iff.mp q] at eb
              cases eb
            · exact q
          refine wpS_bind (wpS_mono (wpS_forRange (I := fun _ c st4 => c = (none, ()) ∧ Base a₀ κ st4 ∧ Stack blt (arrOf st4) (pendingOf st4).toList 0 lo ∧ On blt (arrOf st4) lo (lo + n') ∧ 1 ≤ (pendingOf st4).size)
            (Q := fun c st4 => c = (none, ()) ∧ Base a₀ κ st4 ∧ Stack blt (arrOf st4) (pendingOf st4).toList 0 lo ∧ On blt (arrOf st4) lo (lo + n') ∧ 1 ≤ (pendingOf st4).size) ?_ (fun _ _ q => q) ⟨rfl, B3, S3, O3, hsz3⟩) ?_)
          · rintro j c st4 _ _ ⟨rfl, B4, S4, O4, z4⟩
            refine wpS_bind (wpS_get ?_)
            by_cases big : (pendingOf st4).size > 1
            · rw [if_pos big, getElem?_pos (pendingOf st4) ((pendingOf st4).size - 2) (by (clear big hsz3 eb n2' n1' hn p3 small m2 m1 p2 z h3 h1 hi hsz h2 hp; omega))]
              obtain ⟨⟨u1, u2, older⟩, eu⟩ : ∃ x, x = (pendingOf st4)[(pendingOf st4).size - 2]'(by (clear big hsz3 eb n2' n1' hn p3 small m2 m1 p2 z h3 h1 hi hsz h2 hp; omega)) := ⟨_, rfl⟩
              rw [← eu]
              dsimp only
              split
              · exact wpS_pure ⟨rfl, B4, S4, O4, z4⟩
              · refine wpS_bind (wp_mergeS L C B4 S4 (by omega) (by (clear eu z4 hsz3 eb n2' n1' hn p3 small m2 m1 p2 z h3 h1 hi hsz h2 hp; omega)) fun st5 B5 S5 z5 k5 => ?_)
                rw [if_neg (by decide)]
                exact wpS_pure ⟨rfl, B5, S5, O4.congr fun k a b => k5 k a, by (clear eu z4 hsz3 eb n2' n1' hn p3 small m2 m1 p2 z h3 h1 hi hsz h2 hp; omega)⟩
            · rw [if_neg big]
              exact wpS_pure ⟨rfl, B4, S4, O4, z4⟩
          · rintro c st4 ⟨rfl, B4, S4, O4, z4⟩
            dsimp only
            refine wpS_bind (wpS_modify (wpS_bind (wpS_modify (wpS_pure ⟨lo + n', rfl, by omega, by omega, ⟨B4.kind, B4.fine, B4.perm⟩, ?_⟩))))
            exact push_stack (modify_stack z4 S4) (by omega) O4
      · rw [if_neg small]
        have B3 := B2
        have S3 := S2
        have O3 := O2
        obtain ⟨st3, e3⟩ : ∃ x, x = st2 := ⟨_, rfl⟩
        rw [← e3] at B3 S3 O3 ⊢
        refine wpS_bind (wpS_get ?_)
        cases eb : (pendingOf st3).back? with
        | none =>
          dsimp only
          exact wpS_bind (wpS_modify (wpS_pure ⟨lo + n, rfl, by omega, by (clear eb e3 small m1 p2 z h1 hi hsz h2 hp; omega), ⟨B3.kind, B3.fine, B3.perm⟩, push_stack S3 (by omega) O3⟩))
        | some tt =>
          obtain ⟨s1, n1, p1⟩ := tt
          dsimp only
          have hsz3 : 1 ≤ (pendingOf st3).size := by
            rcases Nat.eq_zero_or_pos (pendingOf st3).size with q | q
            · rw [Array.size_eq_zero_iff.mp q] at eb
              cases eb
            · exact q
          refine wpS_bind (wpS_mono (wpS_forRange (I := fun _ c st4 => c = (none, ()) ∧ Base a₀ κ st4 ∧ Stack blt (arrOf st4) (pendingOf st4).toList 0 lo ∧ On blt (arrOf st4) lo (lo + n) ∧ 1 ≤ (pendingOf st4).size)
            (Q := fun c st4 => c = (none, ()) ∧ Base a₀ κ st4 ∧ Stack blt (arrOf st4) (pendingOf st4).toList 0 lo ∧ On blt (arrOf st4) lo (lo + n) ∧ 1 ≤ (pendingOf st4).size) ?_ (fun _ _ q => q) ⟨rfl, B3, S3, O3, hsz3⟩) ?_)
          · rintro j c st4 _ _ ⟨rfl, B4, S4, O4, z4⟩
            refine wpS_bind (wpS_get ?_)
            by_cases big : (pendingOf st4).size > 1
            · rw [if_pos big, getElem?_pos (pendingOf st4) ((pendingOf st4).size - 2) (by (clear big hsz3 eb e3 small m2 m1 p2 z h3 h1 hi hsz h2 hp; omega))]
              obtain ⟨⟨u1, u2, older⟩, eu⟩ : ∃ x, x = (pendingOf st4)[(pendingOf st4).size - 2]'(by (clear big hsz3 eb e3 small m2 m1 p2 z h3 h1 hi hsz h2 hp; omega)) := ⟨_, rfl⟩
              rw [← eu]
              dsimp only
              split
              · exact wpS_pure ⟨rfl, B4, S4, O4, z4⟩
              · refine wpS_bind (wp_mergeS L C B4 S4 (by omega) (by (clear eu z4 hsz3 eb e3 small m2 m1 p2 z h3 h1 hi hsz h2 hp; omega)) fun st5 B5 S5 z5 k5 => ?_)
                rw [if_neg (by decide)]
                exact wpS_pure ⟨rfl, B5, S5, O4.congr fun k a b => k5 k a, by (clear eu z4 hsz3 eb e3 small m2 m1 p2 z h3 h1 hi hsz h2 hp; omega)⟩
            · rw [if_neg big]
              exact wpS_pure ⟨rfl, B4, S4, O4, z4⟩
          · rintro c st4 ⟨rfl, B4, S4, O4, z4⟩
            dsimp only
            refine wpS_bind (wpS_modify (wpS_bind (wpS_modify (wpS_pure ⟨lo + n, rfl, by omega, by (clear z4 hsz3 eb e3 small m1 p2 z h1 hi hsz h2 hp; omega), ⟨B4.kind, B4.fine, B4.perm⟩, ?_⟩))))
            exact push_stack (modify_stack z4 S4) (by (clear z4 hsz3 eb e3 small m2 p2 z h3 h1 hi hsz h2 hp; omega)) O4
  case post =>
    rintro c st' ⟨rfl, B', S⟩
    dsimp only
    have lenS := S.le
    refine wpS_bind (wpS_mono (wpS_forRange (I := fun i c st2 => c = (none, ()) ∧ Base a₀ κ st2 ∧ Stack blt (arrOf st2) (pendingOf st2).toList 0 a₀.size ∧ (pendingOf st2).size + i ≤ a₀.size + 1)
      (Q := fun c st2 => c = (none, ()) ∧ Base a₀ κ st2 ∧ Stack blt (arrOf st2) (pendingOf st2).toList 0 a₀.size ∧ (pendingOf st2).size ≤ 1) ?_ ?_ ⟨rfl, B', S, by rw [Array.length_toList] at lenS; (clear hsz h2 hp; omega)⟩) ?_)
    · rintro i c st2 _ hi ⟨rfl, B2, S2, z2⟩
      refine wpS_bind (wpS_get ?_)
      by_cases one : (pendingOf st2).size ≤ 1
      · rw [if_pos one]
        exact wpS_pure ⟨rfl, B2, S2, one⟩
      · rw [if_neg one]
        generalize hix : (if Option.any _ _ = true then (pendingOf st2).size - 2 - 1 else (pendingOf st2).size - 2) = ix
        have gen : ∀ bb : Bool, (if bb = true then (pendingOf st2).size - 2 - 1 else (pendingOf st2).size - 2) + 1 < (pendingOf st2).size := fun bb => by
          cases bb with
          | true => rw [if_pos rfl]; (clear hix z2 hi lenS hsz h2 hp; omega)
          | false => rw [if_neg (by decide)]; (clear hix z2 hi lenS hsz h2 hp; omega)
        have hx : ix + 1 < (pendingOf st2).size := by
          rw [← hix]
          exact gen _
        refine wpS_bind (wp_mergeS L C B2 S2 (Nat.le_refl _) hx fun st3 B3 S3 z3 k3 => ?_)
        rw [if_neg (by decide)]
        exact wpS_pure ⟨rfl, B3, S3, by (clear hx hix one hi lenS hsz h2 hp; omega)⟩
    · rintro c st2 ⟨rfl, B2, S2, z2⟩
      have em : max 0 a₀.size = a₀.size := Nat.max_eq_right (Nat.zero_le _)
      rw [em] at z2
      exact ⟨rfl, B2, S2, by (clear em lenS hsz h2 hp; omega)⟩
    · rintro c st2 ⟨rfl, B2, S2, z2⟩
      dsimp only
      refine wpS_pure (h st2 B2 ?_)
      match hl : (pendingOf st2).toList, S2 with
      | [], S2 =>
        have e : 0 = a₀.size := S2
        (clear hl z2 lenS hsz hp; omega)
      | [(a, b, p)], S2 =>
        obtain ⟨rfl, _, o, e⟩ := S2
        have e : 0 + b = a₀.size := e
        rw [e] at o
        exact o
      | _ :: _ :: _, _ =>
        have := congrArg List.length hl
        simp at this
        (clear hl lenS hsz h2 hp; omega)
end
end Srt

namespace Srt
open PySem PyProof.Rows
section
variable {prog : Program} {w : World} {A : Around} {E : Value → Shared → Prop} {s : Shared} {κ : SortKind} {blt : Keyed → Keyed → Bool}
abbrev But (a : Addr) (s s' : Shared) : Prop := ∀ b o, b ≠ a → s.heap.get? b = some o → s'.heap.get? b = some o
theorem sort_tree {a : Addr} {vs : List Value} {n : Nat} {P : PySem.Fin → Shared → Prop} (ho : s.heap.get? a = some (seqObj "list" vs.toArray n)) (hz : vs.length ≤ sizeLine) (C : Cmp blt)
    (hkk : ∀ h' : Heap, But a s { s with heap := h' } → 2 ≤ vs.length → ∀ Q' : SortKind → Shared → Prop, Q' κ { s with heap := h' } → wpAny (model prog w) A (keyKind' vs.toArray) Q' E { s with heap := h' })
    (L : ∀ h' : Heap, But a s { s with heap := h' } → Runs prog w A E { s with heap := h' } (pairsOf vs) κ blt)
    (h : ∀ out : Array Keyed, out.Perm (pairsOf vs) → PW blt out.toList → P (.done (.ret .none)) { s with heap := sortedHeap s.heap a vs (out.map (·.2)) }) : wpAny (model prog w) A (Builtin.«list.sort» ⟨[.ref a], []⟩) P E s := by
  have hv : vs.toArray.size = vs.length := List.size_toArray
  have ha := Heap.lt_size ho
  rw [list_sort_plain]
  refine wpAny_bind (listItems_at ho rfl (wpAny_bind (listUpdate_at ho rfl ?_ (hsz := by rw [hv]; exact hz))))
  obtain ⟨e1, ho1⟩ : ∃ k, (s.heap.update a (Obj.mapSeq fun _ => #[])).get? a = some (seqObj "list" #[] k) := ⟨_, get?_update_seq ho (fun _ => #[])⟩
  refine wpAny_bind (seqEpoch_at ho1 rfl (wpAny_bind (wpAny_newTuple ?_ (hsz := hz))))
  refine wpAny_bind (wpAny_newList (wpAny_holding ?_))
  generalize hh : ((s.heap.update a (Obj.mapSeq fun _ => #[])).push (seqObj "tuple" vs.toArray 0)).push (seqObj "list" #[] 0) = h6
  have up : ∀ b o, (s.heap.update a (Obj.mapSeq fun _ => #[])).get? b = some o → h6.get? b = some o := fun b o e => by
    rw [← hh]
    exact Heap.get?_push_of_some _ (Heap.get?_push_of_some _ e)
  have ho6 := up a _ ho1
  have but : But a s { s with heap := h6 } := fun b o hb e => up b o (by exact (Heap.get?_update_other _ _ (Ne.symm hb)).trans e)
  have fin : ∀ out : Array Keyed, out.Perm (pairsOf vs) → PW blt out.toList → P (.done (.ret .none)) { s with heap := h6.update a (Obj.mapSeq fun _ => out.map (·.2)) } := fun out p q => by
    have := h out p q
    unfold sortedHeap at this
    rw [hh] at this
    exact this
  have hsz2 : ∀ out : Array Keyed, out.Perm (pairsOf vs) → (out.map (·.2)).size ≤ sizeLine + 1 := fun out p => by
    have := p.size_eq
    rw [pairsOf_size] at this
    rw [Array.size_map]
    (clear ho6 hh ho1 ha hv ho; omega)
  dsimp only
  by_cases h2 : vs.toArray.size < 2
  · rw [if_pos h2, if_pos h2]
    refine wpAny_bind (wpAny_pure ?_)
    rw [StateT.run_pure]
    refine wpAny_bind (wpAny_pure ?_)
    dsimp only
    have pr : (SortSt.mk' general' (vs.toArray.zip vs.toArray) #[] 7 none |> arrOf).Perm (pairsOf vs) := Array.Perm.refl _
    refine wpAny_bind (seqEpoch_at ho6 rfl (wpAny_bind (listUpdate_at ho6 rfl ?_ (hsz := Nat.zero_le _) (hsz2 := hsz2 _ pr))))
    simp only [bne_self_eq_false, Bool.false_eq_true, if_false]
    refine wpAny_pure (fin _ pr ?_)
    have l1 : (vs.toArray.zip vs.toArray).toList.length ≤ 1 := by simp at h2 ⊢; (clear ho6 hh ho1 ha hv hz ho; omega)
    show PW blt (vs.toArray.zip vs.toArray).toList; revert l1
    generalize (vs.toArray.zip vs.toArray).toList = l
    rcases l with _ | ⟨x, _ | ⟨y, t⟩⟩ <;> intro l1 <;> first | exact List.Pairwise.nil | exact List.pairwise_singleton _ _ | exact absurd l1 (Nat.not_le_of_lt (Nat.succ_lt_succ (Nat.succ_pos _)))
  · rw [if_neg h2, if_neg h2]
    refine wpAny_bind (hkk h6 but (by (clear ho6 hh ho1 ha hz ho; omega)) _ ?_)
    refine wpAny_bind (wpAny_mono (wp_sortRuns (L h6 but) (st := SortSt.mk' κ (vs.toArray.zip vs.toArray) #[] 7 none) (Q := fun _ st' => Base (pairsOf vs) κ st' ∧ On blt (arrOf st') 0 (pairsOf vs).size) C
      ⟨rfl, rfl, Array.Perm.refl _⟩ rfl (by rw [pairsOf_size]; (clear ho6 hh ho1 ha hz ho; omega)) fun st' B O => ⟨B, O⟩) ?_ fun _ _ e => e)
    rintro ⟨⟨⟩, st'⟩ s' ⟨rfl, B, O⟩
    dsimp only
    refine wpAny_bind (seqEpoch_at ho6 rfl (wpAny_bind (listUpdate_at ho6 rfl ?_ (hsz := Nat.zero_le _) (hsz2 := hsz2 _ B.perm))))
    rw [B.fine]
    simp only [bne_self_eq_false, Bool.false_eq_true, if_false]
    refine wpAny_pure (fin _ B.perm ?_)
    have := pw_of_on (a := arrOf st') (blt := blt) (by rw [B.size]; exact O) 0
    rwa [List.drop_zero] at this
end
end Srt

namespace Srt
open PySem PyProof.Rows
theorem lex_asym : ∀ (a b : List Int), HT.lexLt a b = true → HT.lexLt b a = false
  | [], [], h => rfl
  | [], _ :: _, _ => rfl
  | _ :: _, [], h => by rw [HT.lexLt_cons_nil] at h; cases h
  | x :: xs, y :: ys, h => by
    rw [HT.lexLt_cons] at h ⊢
    by_cases e : x = y
    · rw [if_pos e] at h
      rw [if_pos e.symm]
      exact lex_asym xs ys h
    · rw [if_neg e] at h
      rw [if_neg (Ne.symm e)]
      have := of_decide_eq_true h
      exact decide_eq_false (by (clear e h; omega))
theorem lex_tr : ∀ (a b c : List Int), HT.lexLt b a = false → HT.lexLt c b = false → HT.lexLt c a = false
  | [], b, [], _, _ => rfl
  | x :: xs, [], c, h, _ => by rw [HT.lexLt_nil_cons] at h; cases h
  | a, y :: ys, [], _, h => by rw [HT.lexLt_nil_cons] at h; cases h
  | [], _, _ :: _, _, _ => HT.lexLt_cons_nil _ _
  | x :: xs, y :: ys, z :: zs, h1, h2 => by
    rw [HT.lexLt_cons] at h1 h2 ⊢
    by_cases e1 : y = x
    · rw [if_pos e1] at h1
      by_cases e2 : z = y
      · rw [if_pos e2] at h2
        rw [if_pos (e2.trans e1)]
        exact lex_tr xs ys zs h1 h2
      · rw [if_neg e2] at h2
        rw [if_neg (by rw [← e1]; exact e2)]
        have := of_decide_eq_false h2
        exact decide_eq_false (by (clear e2 h2 h1; omega))
    · rw [if_neg e1] at h1
      have g1 := of_decide_eq_false h1
      by_cases e2 : z = y
      · rw [if_pos e2] at h2
        rw [if_neg (by (clear g1 h2 h1; omega))]
        exact decide_eq_false (by (clear e1 h2 h1; omega))
      · rw [if_neg e2] at h2
        have g2 := of_decide_eq_false h2
        by_cases e3 : z = x
        · (clear e2 h2 h1; omega)
        · rw [if_neg e3]
          exact decide_eq_false (by (clear e3 e2 e1 h2 h1; omega))
theorem cmp_of (k : Keyed → List Int) : Cmp fun p q => HT.lexLt (k p) (k q) := ⟨fun x y h => lex_asym _ _ h, fun x y z h1 h2 => lex_tr _ _ _ h1 h2⟩
theorem runs_of {prog : Program} {w : World} {A : Around} {E : Value → Shared → Prop} {s : Shared} {a₀ : Array Keyed} {κ : SortKind} {blt : Keyed → Keyed → Bool}
    (h : ∀ (x y : Keyed) (E' : Value → Shared → Prop) (Q : Bool → Shared → Prop), x ∈ a₀ → y ∈ a₀ → Q (blt x y) s → wpAny (model prog w) A (keyLt' κ x.1 y.1) Q E' s) : Runs prog w A E s a₀ κ blt := by
  intro x y st Q hx hy hk q
  rw [lt'_eq]
  refine wpS_bind (wpS_get ?_)
  rw [hk]
  refine wpS_bind (wpS_lift (wpAny_attempt (h x y _ _ hx hy ⟨rfl, ?_⟩)))
  exact wpS_pure q
end Srt
namespace L2
open PySem PySem.Spec PyProof.Rows
def unV (u : Value) : V := (absV u).getD .non
theorem unV_of {x : V} {u : Value} (r : RelV x u) : unV u = x := by unfold unV; rw [r.abs]; rfl
theorem vals_un : ∀ {xs : List V} {us : List Value}, Vals xs us → us.map unV = xs
  | _, _, .nil => rfl
  | _, _, .cons r t => by rw [List.map_cons, unV_of r, vals_un t]
theorem vals_mem {xs : List V} {us : List Value} (h : Vals xs us) {u : Value} (hu : u ∈ us) : ∃ x ∈ xs, RelV x u := by
  induction h with
  | nil => exact absurd hu List.not_mem_nil
  | cons r t ih =>
    rcases List.mem_cons.mp hu with e | e
    · subst e; exact ⟨_, List.mem_cons_self, r⟩
    · obtain ⟨x, h1, h2⟩ := ih e
      exact ⟨x, List.mem_cons_of_mem _ h1, h2⟩
theorem vals_of : ∀ {us : List Value}, (∀ u ∈ us, RelV (unV u) u) → Vals (us.map unV) us
  | [], _ => .nil
  | u :: r, h => .cons (h u List.mem_cons_self) (vals_of fun v hv => h v (List.mem_cons_of_mem _ hv))
section
variable {X : Cx}
def kInt : V → List Int
  | .int i => [i]
  | _ => []
theorem perm_ints {ns : List Int} {ys : List V} (h : ys.Perm (ns.map V.int)) : ∃ ms : List Int, ys = ms.map V.int ∧ ms.Perm ns := by
  have e : ys = (ys.map fun y => match y with | .int i => i | _ => 0).map V.int := by
    rw [List.map_map]
    refine (List.map_id' ys).symm.trans (List.map_congr_left fun y hy => ?_)
    obtain ⟨i, _, rfl⟩ := List.mem_map.mp (h.mem_iff.mp hy)
    rfl
  refine ⟨_, e, ?_⟩
  refine (h.map fun y => match y with | .int i => i | _ => 0).trans (List.Perm.of_eq ?_)
  rw [List.map_map]
  exact List.map_id' ns
end
end L2

namespace Srt
open PySem PyProof.Rows
section
variable {prog : Program} {w : World} {A : Around} {E : Value → Shared → Prop} {s : Shared} {κ : SortKind} {blt : Keyed → Keyed → Bool}
theorem sorted_src {r : Value} {G : List Value → Prop} {Q : Value → Shared → Prop}
    (hc : ∀ (R : List Value → Shared → Prop) (E' : Value → Shared → Prop), (∀ (h1 : Heap) (tk : Nat) (vs : List Value), (∀ b o, s.heap.get? b = some o → h1.get? b = some o) → G vs → R vs { s with heap := h1, toks := tk }) → wpAny (model prog w) A.in1 (collect r) R E' s)
    (hz : ∀ vs, G vs → vs.length ≤ sizeLine) (C : Cmp blt)
    (hkk : ∀ (vs : List Value) (h' : Heap) (tk : Nat), G vs → (∀ b o, s.heap.get? b = some o → h'.get? b = some o) → 2 ≤ vs.length → ∀ Q' : SortKind → Shared → Prop, Q' κ { s with heap := h', toks := tk } → wpAny (model prog w) A.in1.in1 (keyKind' vs.toArray) Q' (fun _ _ => False) { s with heap := h', toks := tk })
    (L : ∀ (vs : List Value) (h' : Heap) (tk : Nat), G vs → (∀ b o, s.heap.get? b = some o → h'.get? b = some o) → Runs prog w A.in1.in1 (fun _ _ => False) { s with heap := h', toks := tk } (pairsOf vs) κ blt)
    (h : ∀ (vs : List Value) (h1 h2 : Heap) (tk e : Nat) (out : Array Keyed), G vs → (∀ b o, s.heap.get? b = some o → h1.get? b = some o) → (∀ b o, h1.get? b = some o → h2.get? b = some o) → h2.get? h1.objs.size = some (seqObj "list" (out.map (·.2)) e) → out.Perm (pairsOf vs) → PW blt out.toList → Q (.ref h1.objs.size) { s with heap := h2, toks := tk }) :
    wpAny (model prog w) A (call (.builtin "sorted") [r]) Q E s := by
  refine Calls.call_function_entry kind_sorted plain_sorted entry_sorted (args_sorted1 _) ?_
  unfold Builtin.«sorted»
  refine wpAny_bind (m := checkCount "sorted" 1 1 _) (wpAny_pure (wpAny_bind (hc _ _ fun h1 tk vs k1 g => ?_)))
  refine wpAny_bind (wpAny_newList ?_ (hsz := hz vs g))
  have new : (h1.push (seqObj "list" vs.toArray 0)).get? h1.objs.size = some (seqObj "list" vs.toArray 0) := Heap.get?_push_size _ rfl
  have keep : ∀ h' : Heap, But h1.objs.size { s with heap := h1.push (seqObj "list" vs.toArray 0), toks := tk } { s with heap := h', toks := tk } → ∀ b o, s.heap.get? b = some o → h'.get? b = some o := fun h' k b o e =>
    k b o (Nat.ne_of_lt (Heap.lt_size (k1 b o e))) (Heap.get?_push_of_some _ (k1 b o e))
  show wpAny _ _ _ _ _ { s with heap := h1.push (seqObj "list" vs.toArray 0), toks := tk }
  refine wpAny_bind (wpAny_holding (wpAny_mono (wpAny_call_entry (E := fun _ _ => False) slot_list_sort ⟨_, new, rfl⟩ entry_list_sort (sort_tree (s := { s with heap := h1.push (seqObj "list" vs.toArray 0), toks := tk }) (κ := κ) (blt := blt) new (hz vs g) C (fun h' k => hkk vs h' tk g (keep h' k)) (fun h' k => L vs h' tk g (keep h' k)) fun out p q => ⟨_, rfl, ?_⟩) (args_list_sort _)) (fun _ _ q => q) fun _ _ f => f.elim))
  refine wpAny_pure ⟨_, rfl, ?_⟩
  obtain ⟨e, at_⟩ := sortedHeap_at (out := out.map (·.2)) new
  refine h vs h1 _ tk e out g k1 (fun b o q => ?_) at_ p q
  have lt := Heap.lt_size q
  rw [sortedHeap_old (Nat.ne_of_lt lt) (by rw [size_push']; exact Nat.lt_succ_of_lt lt)]
  exact Heap.get?_push_of_some _ q
end
end Srt
namespace L2
open PySem PySem.Spec PyProof.Rows
section
variable {X : Cx}
theorem keyV_of {P : Program} {w : World} {k : Key} {v : Value} (h : (mixKind P w).is k v = true) : RelV (kV k) v := by
  rw [mixKind_is] at h
  cases k with
  | inl i => 
    cases v with
    | int j t => exact ⟨t, by simp [keyIs, Value.isInt] at h; rw [h]⟩
    | _ => simp [keyIs, Value.isInt] at h
  | inr x =>
    cases v with
    | str y t => exact ⟨t, by simp [keyIs, Value.isStrOf] at h; rw [h]⟩
    | _ => simp [keyIs, Value.isStrOf] at h
def keysV (kvs : List (Key × V)) : List V := kvs.map fun p => kV p.1
theorem vals_items {kvs : List (Key × V)} {vs : List (Key × Value)} {acc : List Value} {P : Program} {w : World} (rel : KV kvs vs) (hl : acc.length = vs.length)
    (hv : ∀ (j : Nat) (v : Value), acc[j]? = some v → ∃ k x, vs[j]? = some (k, x) ∧ (mixKind P w).is k v = true) : Vals (keysV kvs) acc := by
  induction rel generalizing acc with
  | nil => cases acc with
    | nil => exact .nil
    | cons a b => simp at hl
  | cons r t ih =>
    rename_i p q ps qs
    cases acc with
    | nil => simp at hl
    | cons a b =>
      refine .cons ?_ (ih (by simpa using hl) fun j v e => ?_)
      · obtain ⟨k, x, e1, e2⟩ := hv 0 a rfl
        simp at e1
        subst e1
        show RelV (kV p.1) a
        rw [r.1]
        exact keyV_of e2
      · exact hv (j + 1) v (by simpa using e)
theorem call_sortedD (hh : X.A.handled = none) : CallR X (.builtin "sorted") (fun xs H Q => ∃ (a : Addr) (kvs : List (Key × V)) (ns : List Int), xs = [.ref a] ∧ Rd H a (.dK kvs) ∧ keysV kvs = ns.map V.int ∧
    ∀ (l : Addr) (ms : List Int), H l = none → ms.Perm ns → ms.Pairwise (· ≤ ·) → Q (.ref l) (upd H l (.lst (ms.map V.int)))) := by
  intro pins s σ H xs us Q I r h
  obtain ⟨a, kvs, ns, rfl, hd, hns, q⟩ := h
  obtain ⟨u, rfl, ru⟩ := vals1 r
  cases ru
  obtain ⟨z, lo, vs, rel, dd⟩ := dk_rd I.hok hd
  obtain ⟨ep, hat⟩ := dd.dictAt
  have hlen : kvs.length = vs.length := rel.length
  have hlk : (keysV kvs).length = kvs.length := List.length_map _
  have allI : ∀ its : List Value, Vals (keysV kvs) its → ∀ v ∈ its, ∃ i t, v = Value.int i t := fun its rv v hv => by
    obtain ⟨x, hx, rx⟩ := vals_mem rv hv
    rw [hns] at hx
    obtain ⟨i, _, rfl⟩ := List.mem_map.mp hx
    obtain ⟨t, e⟩ := rx
    exact ⟨i, t, e⟩
  have mem : ∀ (its : List Value) (z : Keyed), z ∈ pairsOf its → z.1 = z.2 ∧ z.1 ∈ its := fun its z hz => by
    have : z ∈ (pairsOf its).toList := by simpa using hz
    rw [pairsOf_toList] at this
    exact mem_zip_self this
  refine Srt.sorted_src (G := fun its => Vals (keysV kvs) its) (κ := oneType') (blt := fun a b => HT.lexLt (kInt (unV a.1)) (kInt (unV b.1))) (fun R E' k => ?_) (fun its rv => by rw [← rv.length, hlk]; exact z) (Srt.cmp_of fun a => kInt (unV a.1))
    (fun its h' tk rv k h2 Q' hQ => ?_) (fun its h' tk rv k => Srt.runs_of fun x y E' Q' hx hy hQ => ?_) (fun its h1 h2 tk e out rv k1 k2 at_ pm pw => ?_)
  · refine PySem.W.kdu_collect (PySem.W.kdl_dict (knd := mixKind X.prog X.w) (kvs := vs) (ep := ep) lo) hh hat (by (clear hlk lo hns hh; omega)) fun h' tk acc hk hacc => k h' tk acc.toList hk ?_
    exact vals_items rel (by rw [Array.length_toList]; exact hacc.1) fun j v e => hacc.2 j v (by rw [← Array.getElem?_toList]; exact e)
  · refine PySem.W.kas_kind (T := .type "int") h2 (fun v hv => ?_) (by decide +kernel) (by decide +kernel) hQ
    obtain ⟨i, t, rfl⟩ := allI its rv v hv
    exact PySem.W.Looks.of_pure rfl
  · obtain ⟨i, t, e1⟩ := allI its rv _ (mem its x hx).2
    obtain ⟨j, t', e2⟩ := allI its rv _ (mem its y hy).2
    rw [e1, e2] at hQ ⊢
    refine PySem.W.kat_lt_int ?_
    have e : HT.lexLt (kInt (unV (.int i t))) (kInt (unV (.int j t'))) = decide (i < j) := by
      show HT.lexLt [i] [j] = _
      rw [HT.lexLt_cons]
      by_cases z : i = j
      · rw [if_pos z, HT.lexLt_nil_nil, decide_eq_false (by (clear e2 e1 hlk hlen lo hns hh; omega))]
      · rw [if_neg z]
    rw [e] at hQ
    exact hQ
  · have pml : out.toList.Perm (its.zip its) := by
      have := Array.perm_iff_toList_perm.mp pm
      rwa [pairsOf_toList] at this
    have eqs : ∀ z ∈ out.toList, z.1 = z.2 ∧ z.1 ∈ its := fun z hz => mem_zip_self (pml.mem_iff.mp hz)
    have e2 : (out.map (·.2)).toList = out.toList.map (·.2) := Array.toList_map
    have pv : ((out.map (·.2)).toList).Perm its := by
      rw [e2]
      refine (pml.map _).trans (List.Perm.of_eq ?_)
      exact List.map_snd_zip (Nat.le_refl _)
    have hu : ∀ u ∈ (out.map (·.2)).toList, RelV (unV u) u := fun u hu => by
      obtain ⟨x, _, r⟩ := vals_mem rv (pv.mem_iff.mp hu)
      rw [unV_of r]
      exact r
    have vy := vals_of hu
    have I1 : Inv X pins σ H { s with heap := h1, toks := tk } := I.kept k1
    have py : ((out.map (·.2)).toList.map unV).Perm (ns.map V.int) := by
      rw [← hns, ← vals_un rv]
      exact pv.map _
    have pw2 : ((out.map (·.2)).toList.map unV).Pairwise (fun a b => HT.lexLt (kInt b) (kInt a) = false) := by
      rw [e2, List.map_map]
      refine List.pairwise_map.mpr (pw.imp_of_mem fun {a b} ha hb h => ?_)
      show HT.lexLt (kInt (unV b.2)) (kInt (unV a.2)) = false
      rw [← (eqs a ha).1, ← (eqs b hb).1]
      exact h
    have lz : ((out.map (·.2)).toList.map unV).length ≤ sizeLine := by
      rw [py.length_eq, ← hns, hlk]; exact z
    obtain ⟨ms, em, pm'⟩ := perm_ints py
    rw [em] at vy pw2 lz
    refine ⟨.ref h1.objs.size, upd H h1.objs.size (.lst (ms.map V.int)), I1.laid (t' := tk) k2 (Nat.le_refl _) ⟨lz, _, e, vy, ?_⟩, rfl, q _ _ (I1.hok.fresh (Nat.le_refl _)) pm' ?_⟩
    · rw [at_, Array.toArray_toList]
    · refine (List.pairwise_map.mp pw2).imp fun {a b} h => ?_
      have h : HT.lexLt [b] [a] = false := h
      rw [HT.lexLt_cons] at h
      by_cases z : b = a
      · (clear h em lz e2 at_ hlk hlen lo hns hh; omega)
      · rw [if_neg z] at h
        have := of_decide_eq_false h
        (clear z h em lz e2 at_ hlk hlen lo hns hh; omega)
def rDPop : V → List V → Hp → VK → Prop := fun x vs H Q => ∃ a kvs k v, x = .ref a ∧ vs = [kV k] ∧ H a = some (.dK kvs) ∧ valV kvs k = some v ∧ Q v (upd H a (.dK (dropK kvs k)))
theorem mt_dpop : MtR X "dict.pop" rDPop := by
  intro pins s σ H x vs v us Q I rx rv h
  obtain ⟨a, kvs, k, y, rfl, rfl, hH, hl, q⟩ := h
  cases rx
  obtain ⟨u, rfl, ru⟩ := rv.one
  exact d_pop I hH ru hl (.inl rfl) fun w' s' I' r' => ⟨y, _, I', r', q⟩
end
end L2

namespace L2
open PySem PySem.Spec PyProof.Rows
theorem closure_go {env : Env} : ∀ (l : List (Str × NameKind)) (cs : List (Str × Addr)), (∀ p ∈ l, p.2 = .free → ∃ c, env.cells.lookup p.1 = some c) →
    ∃ cl, (forIn l cs (fun p cs => if (p.2 == NameKind.free) = true then cellOf env p.1 >>= fun a => pure (ForInStep.yield ((p.1, a) :: cs)) else pure (ForInStep.yield cs)) : Sem _) = pure cl ∧
      (∀ y c, cl.lookup y = some c → cs.lookup y = some c ∨ env.cells.lookup y = some c) ∧ (∀ y c, cs.lookup y = some c → ∃ c', cl.lookup y = some c') ∧ (∀ y, (y, NameKind.free) ∈ l → ∃ c, cl.lookup y = some c)
  | [], cs, _ => ⟨cs, by rw [List.forIn_nil], fun y c h => .inl h, fun y c h => ⟨c, h⟩, fun y h => nomatch h⟩
  | (n, k) :: r, cs, h => by
    rw [List.forIn_cons]
    by_cases hk : k = .free
    · subst hk
      obtain ⟨c, hc⟩ := h (n, .free) List.mem_cons_self rfl
      have hc : env.cells.lookup n = some c := hc
      have e : cellOf env n = pure c := by unfold cellOf; rw [hc]
      obtain ⟨cl, h1, h2, h3, h4⟩ := closure_go r ((n, c) :: cs) fun p hp => h p (List.mem_cons_of_mem _ hp)
      refine ⟨cl, ?_, fun y c' hy => ?_, fun y c' hy => ?_, fun y hy => ?_⟩
      · simp only [beq_self_eq_true, if_true, e, pure_bind]
        exact h1
      · rcases h2 y c' hy with q | q
        · rw [List.lookup_cons] at q
          split at q
          · rename_i z
            cases q
            rw [beq_iff_eq] at z
            subst z
            exact .inr hc
          · exact .inl q
        · exact .inr q
      · by_cases z : y = n
        · exact h3 y c (by rw [List.lookup_cons, z]; simp)
        · exact h3 y c' (by rw [List.lookup_cons, beq_eq_false_iff_ne.mpr z]; exact hy)
      · rcases List.mem_cons.mp hy with q | q
        · have e1 : y = n := (Prod.mk.inj q).1
          exact h3 y c (by rw [List.lookup_cons, e1]; simp)
        · exact h4 y q
    · have hb : (k == NameKind.free) = false := by simpa using hk
      obtain ⟨cl, h1, h2, h3, h4⟩ := closure_go r cs fun p hp => h p (List.mem_cons_of_mem _ hp)
      refine ⟨cl, ?_, h2, h3, fun y hy => ?_⟩
      · simp only [hb, Bool.false_eq_true, if_false, pure_bind]
        exact h1
      · rcases List.mem_cons.mp hy with q | q
        · exact absurd (Prod.mk.inj q).2.symm hk
        · exact h4 y q
theorem closure_of {env : Env} {scope : Scope} (h : ∀ p ∈ scope.names, p.2 = .free → ∃ c, env.cells.lookup p.1 = some c) :
    ∃ cl, closureFor scope env = pure cl ∧ (∀ y c, cl.lookup y = some c → env.cells.lookup y = some c) ∧ (∀ y, (y, NameKind.free) ∈ scope.names → ∃ c, cl.lookup y = some c) := by
  obtain ⟨cl, h1, h2, _, h4⟩ := closure_go scope.names [] h
  refine ⟨cl, ?_, fun y c hy => (h2 y c hy).resolve_left fun z => by simp at z, h4⟩
  unfold closureFor
  simp only [bind_pure]
  exact h1
def cCx (X : Cx) (x : Str) (N' : List Str) (scope : Scope) (cl : List (Str × Addr)) (C : Addr) (s₂ : Shared) (H₂ : Hp) (fp : List Addr) : Cx :=
  { X with N := x :: N', s₀ := s₂, H₀ := H₂, env := compEnvC scope cl C X.env, outer := X.stack, stack := X.stack, ex := fp, fn := fun _ => false, pn := [], xe := fun _ _ => False }
structure CScope (X : Cx) (x : Str) (N' : List Str) (scope : Scope) : Prop where
  kind : scope.kind = .function
  nd : (x :: N').Nodup
  ln : N'.length = X.N.length
  own : scope.names.lookup x = some .local
  nocell : ∀ y ∈ scope.names, y.2 ≠ .cell
  names : ∀ y ∈ scope.names, y.2 = .local → scope.names.lookup y.1 = some .local
  free : ∀ y ∈ scope.names, y.2 = .free → X.env.kindOf y.1 = some .cell
  vis : ∀ (j : Nat) (y : Str), N'[j]? = some y → Vis (relabel scope X.env) y → X.N[j]? = some y ∧ (y, NameKind.free) ∈ scope.names ∧ (relabel scope X.env).names.lookup y = some .cell
  cells : ∀ y, ((relabel scope X.env).names.lookup y = some .cell ∨ (relabel scope X.env).names.lookup y = some .free) → (y, NameKind.free) ∈ scope.names
def tComp (wi : TI) (te : TE) : TE := fun σ H Q => wi σ H fun J H1 => ∀ D, H1 D = none → ∃ W : Nat → Nat → List V → Hp → Prop, (∃ m, W 0 m [] (upd H1 D (.lst []))) ∧ ∀ i m ys H2, W i m ys H2 → H2 D = some (.lst ys) →
  (J.stop i H2 ∧ Q (.ref D) H2) ∨ (J.go i H2 ∧ ∀ x H3, J.yld i H2 x H3 → te (some x :: σ) H3 fun y H4 => H4 D = some (.lst ys) ∧ ys.length < sizeLine ∧ ∃ m', m' < m ∧ W (i + 1) m' (ys ++ [y]) (upd H4 D (.lst (ys ++ [y]))))
section
variable {X : Cx}
structure Loose (X : Cx) (pins : List (Addr × Obj)) (H : Hp) (C : Addr) : Prop where
  no : H C = none
  fr : C ≠ X.env.locals
  ab : X.s₀.heap.objs.size ≤ C
  ce : ∀ x c, X.env.cells.lookup x = some c → c ≠ C
  pi : ∀ p ∈ X.pn ++ pins, p.1 ≠ C
theorem comp_core {elt iter : Expr} {N' : List Str} {x : Str} {px pos : Pos} {scope : Scope} {wi : TI} {te : TE} {cl : List (Str × Addr)} {pins : List (Addr × Obj)} {s : Shared} {σ : St} {H : Hp} {Q : VK} {RR : Value → Addr → Result → Shared → Prop} (hc : X.calm = true) (S : CScope X x N' scope) (hi : PI X (.Name x px) iter wi) (he : ∀ cl C s₂ H₂ fp, PE (cCx X x N' scope cl C s₂ H₂ fp) elt te)
    (cl1 : ∀ y c, cl.lookup y = some c → X.env.cells.lookup y = some c) (cl2 : ∀ y, (y, NameKind.free) ∈ scope.names → ∃ c, cl.lookup y = some c) (I : Inv X pins σ H s) (h : tComp wi te σ H Q)
    (hR : ∀ D C s4 H', Inv X pins σ H' s4 → (∃ m, s4.heap.Ns C m) → Loose X pins H' C → Q (.ref D) H' → RR (.ref D) C (.ok .next) s4) :
    wpAny (model X.prog X.w) X.A (eval iter X.env) (fun v s1 => wpAny (model X.prog X.w) X.A (pyIter v) (fun itv s2 => wpAny (model X.prog X.w) X.A (newList []) (fun acc s3 =>
      wpAny (model X.prog X.w) X.A (newFunctionEnv scope X.env.globals cl [] X.env.qual none .none (some X.env)) (fun cenv s4 =>
        codeAny (model X.prog X.w) X.A (.compStart (.ListComp elt [⟨.Name x px, iter, [], 0⟩] scope pos) 0 itv acc { cenv with scope := relabel scope X.env }) (RR acc cenv.locals) s4) X.xe s3) X.xe s2) X.xe s1) X.xe s := by
  refine thn (hi pins s σ H _ I h) fun v s1 h1 => thn h1 fun itv s2 h2 => ?_
  obtain ⟨it, fp, tn, J, H2, e, I2, T, st2, f2, h⟩ := h2
  subst e
  refine wpAny_newObj_type (wpAny_newFunctionEnv S.nocell (by intro y hy; simp at hy) (fun h₁ hns₁ hsb₁ => ?_) S.kind)
  dsimp only at hns₁ hsb₁ ⊢
  generalize hD : s2.heap.objs.size = D at *
  generalize hH3 : s2.heap.push { cls := .type "list", dict := none, data := .seq ([] : List Value).toArray } = h3 at hns₁ hsb₁ ⊢
  have hCs : h3.objs.size = D + 1 := by rw [← hH3, Heap.size_push, hD]
  have fD : H2 D = none := I2.hok.fresh (Nat.le_of_eq hD)
  obtain ⟨W, ⟨m0, w0⟩, turn⟩ := h D fD
  generalize hC : h3.objs.size = C at *
  have gD : s2.heap.get? D = none := Heap.get?_none_of_le (Nat.le_of_eq hD)
  have gC : s2.heap.get? C = none := Heap.get?_none_of_le (by rw [hD, hCs]; exact Nat.le_succ _)
  have DC : D ≠ C := by rw [hCs]; exact Nat.ne_of_lt (Nat.lt_succ_self _)
  have up3 : ∀ b o, s2.heap.get? b = some o → h3.get? b = some o := fun b o e => by rw [← hH3]; exact Heap.get?_push_of_some _ e
  have hold : ∀ b o, h3.get? b = some o → h₁.get? b = some o := fun b o e => hsb₁.extBut b o (by intro z; have := Heap.lt_size e; rw [z, hC] at this; exact absurd this (Nat.lt_irrefl _)) (Heap.get?_push_of_some _ e)
  have up : ∀ b o, s2.heap.get? b = some o → h₁.get? b = some o := fun b o e => hold b o (up3 b o e)
  have oD : h₁.get? D = some { cls := .type "list", dict := none, data := .seq ([] : List Value).toArray } := hold _ _ (by rw [← hH3, ← hD]; exact Heap.get?_push_size _ rfl)
  have fpo : ∀ b ∈ fp, b ≠ C ∧ b ∉ frs X.stack := fun b hb => by
    obtain ⟨o, e, _⟩ := T.obj _ _ st2 b hb
    refine ⟨fun z => (by rw [z, gC] at e; cases e), fun z => ?_⟩
    rcases List.mem_cons.mp (I2.stkSub b z) with q | q
    · exact (f2 b hb).2.1 q
    · exact (f2 b hb).2.2.1 q
  have fC : H2 C = none := I2.hok.fresh (by rw [hD, hCs]; exact Nat.le_succ _)
  have ok : (cCx X x N' scope cl C s2 H2 fp).Ok :=
    { mod := I2.ok.mod, kind := S.kind, glob := I2.ok.glob, blt := I2.ok.blt, above := by show s2.heap.objs.size ≤ C; rw [hD, hCs]; exact Nat.le_succ _
      inj := fun y z c h1 h2 => I2.ok.inj y z c (cl1 _ _ h1) (cl1 _ _ h2), has := fun y hy => cl2 y (S.cells y hy), cab := fun y c z => by cases z
      hd := I2.ok.hd, frames := I2.ok.frames, stk := .inl rfl, exf := fun b hb => ⟨(fpo b hb).1, fun y c e => (f2 b hb).2.2.2.2.1 y c (cl1 y c e)⟩
      bs := I2.bs, bsz := Nat.le_trans I2.ok.bsz I2.sz
      noex := fun b o e hb => by
        rcases (f2 b hb).2.2.2.1 with q | q
        · exact I2.ok.noex b o e q
        · exact absurd (Nat.lt_of_lt_of_le (Heap.lt_size e) (Nat.le_trans I2.ok.bsz q)) (Nat.lt_irrefl _)
      exfs := fun b hb => (fpo b hb).2, funs := I2.stack, frf := I2.stkFree }
  have ne2 : ∀ b u, H2 b = some u → b ≠ D := fun b u e => ne_of_none e fD
  have I3 : Inv (cCx X x N' scope cl C s2 H2 fp) [] (none :: σ) (upd H2 D (.lst [])) { s2 with heap := h₁, toks := s2.toks + ([] : List (Str × Value)).length } :=
    { ok := ok, os := rfl, bare := I2.bare, base := Un.laid up (Nat.le_of_eq hD) fD
      loc := ⟨_, hns₁, fun i y v e1 e2 e3 => by
        cases i with
        | zero => cases e2
        | succ j =>
          have e1 : N'[j]? = some y := e1
          have e2 : σ[j]? = some (some v) := e2
          obtain ⟨e1, q1, q2⟩ := S.vis j y e1 e3
          have kc := S.free _ q1 rfl
          obtain ⟨m, hn, hl⟩ := I2.loc
          obtain ⟨u, r, l⟩ := hl j y v e1 e2 (.inr (.inl kc))
          refine ⟨u, r, ?_⟩
          rcases l with ⟨k, _⟩ | ⟨_, c, e, z⟩
          · rw [kc] at k; cases k
          · obtain ⟨c', e'⟩ := cl2 y q1
            have ee := cl1 _ _ e'
            rw [e] at ee
            cases ee
            obtain ⟨o, ho, hd⟩ := z
            exact .inr ⟨.inl q2, c, e', o, up _ _ ho, hd⟩⟩
      cell := fun y c e => by
        obtain ⟨v, o, ho, hd⟩ := I2.cell y c (cl1 _ _ e)
        exact ⟨v, o, up _ _ ho, hd⟩
      free := by show upd H2 D (.lst []) C = none; rw [upd_ne DC.symm]; exact fC
      freeC := fun y c e => by
        have q := I2.freeC y c (cl1 _ _ e)
        obtain ⟨v, o, ho, hd⟩ := I2.cell y c (cl1 _ _ e)
        rw [upd_ne (fun z => by rw [z, gD] at ho; cases ho)]
        exact q
      pin := fun p hp => absurd (show p ∈ ([] : List (Addr × Obj)) from hp) (by simp)
      hok := I2.hok.laid up (Nat.le_of_eq hD) ⟨Nat.zero_le _, [], 0, .nil, oD⟩
      len := by show (none :: σ).length = (x :: N').length; rw [List.length_cons, List.length_cons, I2.len, S.ln] }
  have stat : ∀ {H' : Hp}, (∀ b ∈ fp, H' b = none) → ∀ b ∈ fp, FpOk (cCx X x N' scope cl C s2 H2 fp) [] H' b := fun hn b hb =>
    ⟨hn b hb, (fpo b hb).1, (fpo b hb).2, .inl hb, fun y c e => (f2 b hb).2.2.2.2.1 y c (cl1 _ _ e), fun p hp => absurd (show p ∈ ([] : List (Addr × Obj)) from hp) (by simp)⟩
  have st3 : tn 0 h₁ := T.keep _ _ _ st2 fun b hb o e => up b o e
  have loop : ∀ s3 : Shared, s3 = { s2 with heap := h₁, toks := s2.toks + ([] : List (Str × Value)).length } →
      codeAny (model X.prog X.w) X.A (.compLoop (.ListComp elt [⟨.Name x px, iter, [], 0⟩] scope pos) 0 (.ref it) (.ref D) (compEnvC scope cl C X.env)) (RR (.ref D) C) s3 := by
    rintro s3 rfl
    refine codeAny_loop rfl (fun n s' => ∃ i v0 ys H', Inv (cCx X x N' scope cl C s2 H2 fp) [] (v0 :: σ) H' s' ∧ tn i s'.heap ∧ (∀ b ∈ fp, H' b = none) ∧ H' D = some (.lst ys) ∧ W i n ys H') ?_ m0
      ⟨0, none, [], _, I3, st3, fun b hb => by rw [upd_ne (fun z => by obtain ⟨o, e, _⟩ := T.obj _ _ st2 b hb; rw [z, gD] at e; cases e)]; exact (f2 b hb).1, upd_same, w0⟩
    rintro n s' ⟨i, v0, ys, H', I', st', fr', hD', w'⟩
    show wpAny _ X.A ((compTurn (.ListComp elt [⟨.Name x px, iter, [], 0⟩] scope pos) 0 (.ref it) (.ref D) (compEnvC scope cl C X.env)).onRaise (fun x => do noteFrame x (compEnvC scope cl C X.env); theTreesLotGoes x)) _ _ s'
    refine wpAny_noted ?_
    rw [compTurn_list1]
    refine wpAny_bind (wpAny_standAt (wpAny_bind ?_))
    rcases turn i n ys H' w' hD' with ⟨stop, qn⟩ | ⟨go, step⟩
    · refine thn (T.done (cCx X x N' scope cl C s2 H2 fp) rfl rfl rfl hc i [] s' _ H' _ I' (stat fr') st' stop) fun r s4 ⟨hr, I4⟩ => ?_
      subst hr
      refine wpAny_pure ?_
      obtain ⟨m, hn, _⟩ := I4.loc
      have IX : Inv X pins σ H' s4 := I2.call' (s' := s4) I4.os (show Un (frs X.stack) fp H2 H' s2.heap s4.heap from I4.base) I4.hok I4.bare fun b hb => ⟨(f2 b hb).2.2.2.1, (f2 b hb).2.1, (f2 b hb).2.2.2.2.1, (f2 b hb).2.2.2.2.2⟩
      refine hR D C s4 H' IX ⟨m, hn⟩ ⟨I4.free, fun z => ?_, ?_, fun y c e z => ?_, fun p hp z => ?_⟩ qn
      · have := I2.lt
        rw [← z, hCs, hD] at this
        exact absurd this (Nat.not_lt.mpr (Nat.le_succ _))
      · refine Nat.le_trans I2.sz ?_
        rw [hD, hCs]
        exact Nat.le_succ _
      · obtain ⟨v, o, ho, _⟩ := I2.cell y c e
        rw [z, gC] at ho
        cases ho
      · have ho := (I2.pin p hp).1
        rw [z, gC] at ho
        cases ho
    · refine thn (T.item (cCx X x N' scope cl C s2 H2 fp) rfl rfl rfl hc i [] s' _ H' _ I' (stat fr') st' go) fun r s4 ⟨u, hr, h4⟩ => ?_
      subst hr
      refine wpAny_bind (thn h4 fun _ s5 ⟨y, H5, I5, r5, y5, st5, fr5⟩ => ?_)
      have I5' := I5.pinned (stat fr5) (T.obj _ _ st5)
      have stp := step y H5 y5
      refine wpAny_bind (wpAny_assign_Name (store_ok (i := 0) I5' S.nd rfl (.inl (lookup_relabel_local S.own)) r5 (fun s6 I6 => ?_) (.inr (lookup_relabel_local S.own))))
      refine wpAny_bind (wpAny_bind (wpAny_mono (he cl C s2 H2 fp _ s6 _ H5 _ I6 stp) (fun z s7 ⟨y', H7, I7, r7, q7⟩ => ?_) fun _ _ f => f.elim))
      obtain ⟨hD7, hl7, m', hm', w7⟩ := q7
      refine wpAny_bind (wpAny_mono (mt_append (X := cCx X x N' scope cl C s2 H2 fp) _ s7 _ H7 (.ref D) [y'] (.ref D) [z] (fun _ H8 => H8 = upd H7 D (.lst (ys ++ [y']))) I7 rfl (.cons r7 .nil) ⟨D, ys, y', rfl, rfl, hD7, hl7, rfl⟩) (fun z8 s8 ⟨_, H8, I8, _, e8⟩ => ?_) fun _ _ f => f.elim)
      subst e8
      refine wpAny_pure (wpAny_pure ⟨rfl, m', hm', i + 1, some y, ys ++ [y'], _, I8.unpinned, T.keep _ _ _ st5 fun b hb o e => (I8.pin (b, o) (List.mem_append_right _ (List.mem_append_right _ (mem_pinsAt hb e)))).1, fun b hb => ?_, upd_same, w7⟩)
      obtain ⟨o, e, d⟩ := T.obj _ _ st5 b hb
      exact (I8.pin (b, o) (List.mem_append_right _ (List.mem_append_right _ (mem_pinsAt hb e)))).2.1
  exact codeAny_compStart_list (loop _ rfl) (T.self _ 0 _ _ _ st3 (loop _ rfl))
theorem Inv.loose {pins : List (Addr × Obj)} {s : Shared} {σ : St} {H : Hp} {C : Addr} {h' : Heap} (I : Inv X pins σ H s) (l : Loose X pins H C) (sb : Heap.SameBut C s.heap h') : Inv X pins σ H { s with heap := h' } :=
  I.turned (t' := s.toks) (fun b o hb e => (sb.2 b hb).trans e) l.no l.fr (.inr l.ab) l.ce l.pi
theorem pe_comp {elt iter : Expr} {N' : List Str} {x : Str} {px pos : Pos} {scope : Scope} {wi : TI} {te : TE} (hc : X.calm = true) (S : CScope X x N' scope) (hi : PI X (.Name x px) iter wi) (he : ∀ cl C s₂ H₂ fp, PE (cCx X x N' scope cl C s₂ H₂ fp) elt te)
    (hs : ∀ x, foldedSetIterable iter X.env x = pure x := by intro _; rfl) : PE X (.ListComp elt [⟨.Name x px, iter, [], 0⟩] scope pos) (tComp wi te) := by
  intro pins s σ H Q I h
  obtain ⟨cl, hclos, cl1, cl2⟩ := closure_of (env := X.env) (scope := scope) fun p hp hf => I.ok.has p.1 (.inl (S.free p hp hf))
  rw [eval_ListComp]
  refine wpAny_comprehension_free (use := none) rfl hs hclos S.kind S.names (comp_core hc S hi he cl1 cl2 I h fun D C s4 H' I4 hn l q => ?_)
  obtain ⟨m, hn⟩ := hn
  exact ⟨m, hn, fun h' sb => ⟨.ref D, H', I4.loose l sb, rfl, q⟩⟩
end
def relN (scope dsc : Scope) : List (Str × NameKind) := scope.names.map fun p => if (p.2 == NameKind.free && dsc.kind == ScopeKind.function && dsc.names.lookup p.1 == some NameKind.cell) = true then (p.1, NameKind.cell) else (p.1, p.2)
def cLook (N N' : List Str) (dsc : Scope) (x : Str) (scope : Scope) : Bool :=
  (scope.kind == ScopeKind.function) && decide (x :: N').Nodup && (scope.names.lookup x == some NameKind.local) && (scope.names.all fun y => y.2 != NameKind.cell) && (scope.names.all fun y => y.2 != NameKind.local || scope.names.lookup y.1 == some NameKind.local)
  && (scope.names.all fun y => y.2 != NameKind.free || dsc.names.lookup y.1 == some NameKind.cell) && (N'.all fun y => (relN scope dsc).lookup y != some NameKind.local && (relN scope dsc).lookup y != some NameKind.free) && decide (N'.length = N.length) && (N'.zip N).all fun p => p.1 == p.2 || (relN scope dsc).lookup p.1 == none
theorem rel_mem {dsc : Scope} : ∀ {l : List (Str × NameKind)} {y : Str} {k : NameKind}, (∀ p ∈ l, p.2 ≠ NameKind.cell) → (l.map fun p => if (p.2 == NameKind.free && dsc.kind == ScopeKind.function && dsc.names.lookup p.1 == some NameKind.cell) = true then (p.1, NameKind.cell) else (p.1, p.2)).lookup y = some k → (k = .cell ∨ k = .free) → (y, NameKind.free) ∈ l
  | [], y, k, _, h, _ => by simp at h
  | (n, kk) :: r, y, k, hn, h, hk => by
    rw [List.map_cons] at h
    by_cases c : (kk == NameKind.free && dsc.kind == ScopeKind.function && dsc.names.lookup n == some NameKind.cell) = true
    · dsimp only at h
      rw [if_pos c, List.lookup_cons] at h
      split at h
      · rename_i z
        rw [beq_iff_eq] at z
        subst z
        have : kk = .free := by
          rw [Bool.and_eq_true, Bool.and_eq_true] at c
          simpa using c.1.1
        rw [this]
        exact List.mem_cons_self
      · exact List.mem_cons_of_mem _ (rel_mem (fun p hp => hn p (List.mem_cons_of_mem _ hp)) h hk)
    · dsimp only at h
      rw [if_neg c, List.lookup_cons] at h
      split at h
      · rename_i z
        rw [beq_iff_eq] at z
        subst z
        cases h
        rcases hk with e | e
        · exact absurd e (hn _ List.mem_cons_self)
        · rw [e]; exact List.mem_cons_self
      · exact List.mem_cons_of_mem _ (rel_mem (fun p hp => hn p (List.mem_cons_of_mem _ hp)) h hk)
theorem CScope.of {X : Cx} {x : Str} {scope dsc : Scope} {N N' : List Str} (eN : X.N = N) (ed : X.env.scope = dsc) (h : cLook N N' dsc x scope = true) : CScope X x N' scope := by
  unfold cLook at h
  simp only [Bool.and_eq_true] at h
  obtain ⟨⟨⟨⟨⟨⟨⟨⟨h1, h2⟩, h3⟩, h4⟩, h5⟩, h6⟩, h7⟩, h8⟩, h9⟩ := h
  have hrel : (relabel scope X.env).names = relN scope dsc := by rw [← ed]; rfl
  have nocell : ∀ y ∈ scope.names, y.2 ≠ NameKind.cell := fun y hy => by have := List.all_eq_true.mp h4 y hy; simpa using this
  refine ⟨by simpa using h1, of_decide_eq_true h2, by rw [eN]; exact of_decide_eq_true h8, by simpa using h3, nocell, fun y hy e => ?_, fun y hy e => ?_, fun j y hj v => ?_, fun y e => ?_⟩
  · have := List.all_eq_true.mp h5 y hy
    rw [e] at this
    simpa using this
  · have := List.all_eq_true.mp h6 y hy
    rw [e] at this
    show X.env.scope.names.lookup y.1 = _
    rw [ed]
    simpa using this
  · have nl := List.all_eq_true.mp h7 y (List.mem_of_getElem? hj)
    have hz : ∃ z, N[j]? = some z ∧ (y, z) ∈ N'.zip N := by
      have lj := (List.getElem?_eq_some_iff.mp hj).1
      have l8 : N'.length = N.length := of_decide_eq_true h8
      refine ⟨N[j]'(by (clear nl hj hrel h2 h1 h3 h4 h5 h6 h7 h8 h9 ed eN; omega)), List.getElem?_eq_getElem _, ?_⟩
      refine List.mem_of_getElem? (i := j) ?_
      rw [List.getElem?_zip_eq_some]
      exact ⟨hj, List.getElem?_eq_getElem _⟩
    obtain ⟨z, hz, mz⟩ := hz
    have e9 := List.all_eq_true.mp h9 _ mz
    unfold Vis at v
    rw [hrel] at v ⊢
    have nl : ¬ (relN scope dsc).lookup y = some NameKind.local ∧ ¬ (relN scope dsc).lookup y = some NameKind.free := by simpa using nl
    rcases v with v | v | v
    · exact absurd v nl.1
    · refine ⟨?_, rel_mem nocell v (.inl rfl), v⟩
      rw [eN, hz]
      dsimp only at e9
      rw [v, Bool.or_eq_true] at e9
      rcases e9 with e9 | e9
      · rw [beq_iff_eq] at e9; rw [e9]
      · cases e9
    · exact absurd v nl.2
  · have e : (relN scope dsc).lookup y = some .cell ∨ (relN scope dsc).lookup y = some .free := by rw [← hrel]; exact e
    rcases e with e | e
    · exact rel_mem nocell e (.inl rfl)
    · exact rel_mem nocell e (.inr rfl)
def CNext (n i : Nat) (ys : List V) (D : Addr) (Pv : Nat → List V → Hp → Prop) : VK := fun y H4 => H4 D = some (.lst ys) ∧ ys.length < sizeLine ∧ ∃ m', m' < n - i ∧ m' = n - (i + 1) ∧ i + 1 ≤ n ∧ Pv (i + 1) (ys ++ [y]) (upd H4 D (.lst (ys ++ [y])))
theorem CNext.mk {n i : Nat} {ys : List V} {D : Addr} {Pv : Nat → List V → Hp → Prop} {y : V} {H4 : Hp} (hi : i < n) (h1 : H4 D = some (.lst ys)) (h2 : ys.length < sizeLine) (h3 : Pv (i + 1) (ys ++ [y]) (upd H4 D (.lst (ys ++ [y])))) : CNext n i ys D Pv y H4 :=
  ⟨h1, h2, n - (i + 1), by (clear h2 h1; omega), rfl, hi, h3⟩
theorem comp_list {K : PySem.W.Frag} {a D : Addr} {xs : List V} {te : TE} {σ : St} {H1 : Hp} {Fin : Hp → Prop} (Pv : Nat → List V → Hp → Prop) (h0 : Pv 0 [] (upd H1 D (.lst []))) (hl : ∀ i ys H, i ≤ xs.length → Pv i ys H → SqL K H a xs)
    (hs : ∀ i x ys H2, xs[i]? = some x → Pv i ys H2 → H2 D = some (.lst ys) → te (some x :: σ) H2 (CNext xs.length i ys D Pv))
    (hd : ∀ ys H2, Pv xs.length ys H2 → H2 D = some (.lst ys) → Fin H2) :
    ∃ W : Nat → Nat → List V → Hp → Prop, (∃ m, W 0 m [] (upd H1 D (.lst []))) ∧ ∀ i m ys H2, W i m ys H2 → H2 D = some (.lst ys) →
      ((Itl K a).stop i H2 ∧ Fin H2) ∨ ((Itl K a).go i H2 ∧ ∀ x H3, (Itl K a).yld i H2 x H3 → te (some x :: σ) H3 fun y H4 => H4 D = some (.lst ys) ∧ ys.length < sizeLine ∧ ∃ m', m' < m ∧ W (i + 1) m' (ys ++ [y]) (upd H4 D (.lst (ys ++ [y])))) := by
  refine ⟨fun i m ys H => m = xs.length - i ∧ i ≤ xs.length ∧ Pv i ys H, ⟨xs.length, by simp, Nat.zero_le _, h0⟩, ?_⟩
  rintro i m ys H ⟨rfl, hi, p⟩ hD
  have q := hl i ys H hi p
  by_cases lt : i < xs.length
  · refine .inr ⟨⟨xs, xs[i], q, by simp [lt]⟩, fun x H' y => ?_⟩
    obtain ⟨e, y⟩ := y
    subst e
    exact hs i x ys _ (y xs q) p hD
  · have e : i = xs.length := by (clear hD; omega)
    subst e
    exact .inl ⟨⟨xs, q, Nat.le_refl _⟩, hd ys H p hD⟩
theorem comp_range {lo : Int} {n : Nat} {D : Addr} {te : TE} {σ : St} {H1 : Hp} {Fin : Hp → Prop} (Pv : Nat → List V → Hp → Prop) (h0 : Pv 0 [] (upd H1 D (.lst [])))
    (hs : ∀ i ys H2, i < n → Pv i ys H2 → H2 D = some (.lst ys) → te (some (.int (lo + i)) :: σ) H2 (CNext n i ys D Pv))
    (hd : ∀ ys H2, Pv n ys H2 → H2 D = some (.lst ys) → Fin H2) :
    ∃ W : Nat → Nat → List V → Hp → Prop, (∃ m, W 0 m [] (upd H1 D (.lst []))) ∧ ∀ i m ys H2, W i m ys H2 → H2 D = some (.lst ys) →
      ((Itr lo n).stop i H2 ∧ Fin H2) ∨ ((Itr lo n).go i H2 ∧ ∀ x H3, (Itr lo n).yld i H2 x H3 → te (some x :: σ) H3 fun y H4 => H4 D = some (.lst ys) ∧ ys.length < sizeLine ∧ ∃ m', m' < m ∧ W (i + 1) m' (ys ++ [y]) (upd H4 D (.lst (ys ++ [y])))) := by
  refine ⟨fun i m ys H => m = n - i ∧ i ≤ n ∧ Pv i ys H, ⟨n, by simp, Nat.zero_le _, h0⟩, ?_⟩
  rintro i m ys H ⟨rfl, hi, p⟩ hD
  by_cases lt : i < n
  · refine .inr ⟨lt, fun x H' y => ?_⟩
    obtain ⟨e, y⟩ := y
    subst e y
    exact hs i ys _ lt p hD
  · have e : i = n := by (clear hD; omega)
    subst e
    exact .inl ⟨Nat.le_refl _, hd ys H p hD⟩
end L2

namespace L2
open PySem PySem.Spec PyProof.Rows
def tCompI (wi : TI) (tc : TT) (te : TE) : TE := fun σ H Q => wi σ H fun J H1 => ∀ D, H1 D = none → ∃ W : Nat → Nat → List V → Hp → Prop, (∃ m, W 0 m [] (upd H1 D (.lst []))) ∧ ∀ i m ys H2, W i m ys H2 → H2 D = some (.lst ys) →
  (J.stop i H2 ∧ Q (.ref D) H2) ∨ (J.go i H2 ∧ ∀ x H3, J.yld i H2 x H3 → tc (some x :: σ) H3 fun b H4 => if b = true then te (some x :: σ) H4 fun y H5 => H5 D = some (.lst ys) ∧ ys.length < sizeLine ∧ ∃ m', m' < m ∧ W (i + 1) m' (ys ++ [y]) (upd H5 D (.lst (ys ++ [y]))) else H4 D = some (.lst ys) ∧ ∃ m', m' < m ∧ W (i + 1) m' ys H4)
section
variable {X : Cx}
theorem comp_coreI {elt iter cnd : Expr} {N' : List Str} {x : Str} {px pos : Pos} {scope : Scope} {wi : TI} {te : TE} {tc : TT} {cl : List (Str × Addr)} {pins : List (Addr × Obj)} {s : Shared} {σ : St} {H : Hp} {Q : VK} {RR : Value → Addr → Result → Shared → Prop} (hc : X.calm = true) (S : CScope X x N' scope) (hi : PI X (.Name x px) iter wi) (hcn : ∀ cl C s₂ H₂ fp, PT (cCx X x N' scope cl C s₂ H₂ fp) cnd tc) (he : ∀ cl C s₂ H₂ fp, PE (cCx X x N' scope cl C s₂ H₂ fp) elt te)
    (cl1 : ∀ y c, cl.lookup y = some c → X.env.cells.lookup y = some c) (cl2 : ∀ y, (y, NameKind.free) ∈ scope.names → ∃ c, cl.lookup y = some c) (I : Inv X pins σ H s) (h : tCompI wi tc te σ H Q)
    (hR : ∀ D C s4 H', Inv X pins σ H' s4 → (∃ m, s4.heap.Ns C m) → Loose X pins H' C → Q (.ref D) H' → RR (.ref D) C (.ok .next) s4) :
    wpAny (model X.prog X.w) X.A (eval iter X.env) (fun v s1 => wpAny (model X.prog X.w) X.A (pyIter v) (fun itv s2 => wpAny (model X.prog X.w) X.A (newList []) (fun acc s3 =>
      wpAny (model X.prog X.w) X.A (newFunctionEnv scope X.env.globals cl [] X.env.qual none .none (some X.env)) (fun cenv s4 =>
        codeAny (model X.prog X.w) X.A (.compStart (.ListComp elt [⟨.Name x px, iter, [cnd], 0⟩] scope pos) 0 itv acc { cenv with scope := relabel scope X.env }) (RR acc cenv.locals) s4) X.xe s3) X.xe s2) X.xe s1) X.xe s := by
  refine thn (hi pins s σ H _ I h) fun v s1 h1 => thn h1 fun itv s2 h2 => ?_
  obtain ⟨it, fp, tn, J, H2, e, I2, T, st2, f2, h⟩ := h2
  subst e
  refine wpAny_newObj_type (wpAny_newFunctionEnv S.nocell (by intro y hy; simp at hy) (fun h₁ hns₁ hsb₁ => ?_) S.kind)
  dsimp only at hns₁ hsb₁ ⊢
  generalize hD : s2.heap.objs.size = D at *
  generalize hH3 : s2.heap.push { cls := .type "list", dict := none, data := .seq ([] : List Value).toArray } = h3 at hns₁ hsb₁ ⊢
  have hCs : h3.objs.size = D + 1 := by rw [← hH3, Heap.size_push, hD]
  have fD : H2 D = none := I2.hok.fresh (Nat.le_of_eq hD)
  obtain ⟨W, ⟨m0, w0⟩, turn⟩ := h D fD
  generalize hC : h3.objs.size = C at *
  have gD : s2.heap.get? D = none := Heap.get?_none_of_le (Nat.le_of_eq hD)
  have gC : s2.heap.get? C = none := Heap.get?_none_of_le (by rw [hD, hCs]; exact Nat.le_succ _)
  have DC : D ≠ C := by rw [hCs]; exact Nat.ne_of_lt (Nat.lt_succ_self _)
  have up3 : ∀ b o, s2.heap.get? b = some o → h3.get? b = some o := fun b o e => by rw [← hH3]; exact Heap.get?_push_of_some _ e
  have hold : ∀ b o, h3.get? b = some o → h₁.get? b = some o := fun b o e => hsb₁.extBut b o (by intro z; have := Heap.lt_size e; rw [z, hC] at this; exact absurd this (Nat.lt_irrefl _)) (Heap.get?_push_of_some _ e)
  have up : ∀ b o, s2.heap.get? b = some o → h₁.get? b = some o := fun b o e => hold b o (up3 b o e)
  have oD : h₁.get? D = some { cls := .type "list", dict := none, data := .seq ([] : List Value).toArray } := hold _ _ (by rw [← hH3, ← hD]; exact Heap.get?_push_size _ rfl)
  have fpo : ∀ b ∈ fp, b ≠ C ∧ b ∉ frs X.stack := fun b hb => by
    obtain ⟨o, e, _⟩ := T.obj _ _ st2 b hb
    refine ⟨fun z => (by rw [z, gC] at e; cases e), fun z => ?_⟩
    rcases List.mem_cons.mp (I2.stkSub b z) with q | q
    · exact (f2 b hb).2.1 q
    · exact (f2 b hb).2.2.1 q
  have fC : H2 C = none := I2.hok.fresh (by rw [hD, hCs]; exact Nat.le_succ _)
  have ok : (cCx X x N' scope cl C s2 H2 fp).Ok :=
    { mod := I2.ok.mod, kind := S.kind, glob := I2.ok.glob, blt := I2.ok.blt, above := by show s2.heap.objs.size ≤ C; rw [hD, hCs]; exact Nat.le_succ _
      inj := fun y z c h1 h2 => I2.ok.inj y z c (cl1 _ _ h1) (cl1 _ _ h2), has := fun y hy => cl2 y (S.cells y hy), cab := fun y c z => by cases z
      hd := I2.ok.hd, frames := I2.ok.frames, stk := .inl rfl, exf := fun b hb => ⟨(fpo b hb).1, fun y c e => (f2 b hb).2.2.2.2.1 y c (cl1 y c e)⟩
      bs := I2.bs, bsz := Nat.le_trans I2.ok.bsz I2.sz
      noex := fun b o e hb => by
        rcases (f2 b hb).2.2.2.1 with q | q
        · exact I2.ok.noex b o e q
        · exact absurd (Nat.lt_of_lt_of_le (Heap.lt_size e) (Nat.le_trans I2.ok.bsz q)) (Nat.lt_irrefl _)
      exfs := fun b hb => (fpo b hb).2, funs := I2.stack, frf := I2.stkFree }
  have ne2 : ∀ b u, H2 b = some u → b ≠ D := fun b u e => ne_of_none e fD
  have I3 : Inv (cCx X x N' scope cl C s2 H2 fp) [] (none :: σ) (upd H2 D (.lst [])) { s2 with heap := h₁, toks := s2.toks + ([] : List (Str × Value)).length } :=
    { ok := ok, os := rfl, bare := I2.bare, base := Un.laid up (Nat.le_of_eq hD) fD
      loc := ⟨_, hns₁, fun i y v e1 e2 e3 => by
        cases i with
        | zero => cases e2
        | succ j =>
          have e1 : N'[j]? = some y := e1
          have e2 : σ[j]? = some (some v) := e2
          obtain ⟨e1, q1, q2⟩ := S.vis j y e1 e3
          have kc := S.free _ q1 rfl
          obtain ⟨m, hn, hl⟩ := I2.loc
          obtain ⟨u, r, l⟩ := hl j y v e1 e2 (.inr (.inl kc))
          refine ⟨u, r, ?_⟩
          rcases l with ⟨k, _⟩ | ⟨_, c, e, z⟩
          · rw [kc] at k; cases k
          · obtain ⟨c', e'⟩ := cl2 y q1
            have ee := cl1 _ _ e'
            rw [e] at ee
            cases ee
            obtain ⟨o, ho, hd⟩ := z
            exact .inr ⟨.inl q2, c, e', o, up _ _ ho, hd⟩⟩
      cell := fun y c e => by
        obtain ⟨v, o, ho, hd⟩ := I2.cell y c (cl1 _ _ e)
        exact ⟨v, o, up _ _ ho, hd⟩
      free := by show upd H2 D (.lst []) C = none; rw [upd_ne DC.symm]; exact fC
      freeC := fun y c e => by
        have q := I2.freeC y c (cl1 _ _ e)
        obtain ⟨v, o, ho, hd⟩ := I2.cell y c (cl1 _ _ e)
        rw [upd_ne (fun z => by rw [z, gD] at ho; cases ho)]
        exact q
      pin := fun p hp => absurd (show p ∈ ([] : List (Addr × Obj)) from hp) (by simp)
      hok := I2.hok.laid up (Nat.le_of_eq hD) ⟨Nat.zero_le _, [], 0, .nil, oD⟩
      len := by show (none :: σ).length = (x :: N').length; rw [List.length_cons, List.length_cons, I2.len, S.ln] }
  have stat : ∀ {H' : Hp}, (∀ b ∈ fp, H' b = none) → ∀ b ∈ fp, FpOk (cCx X x N' scope cl C s2 H2 fp) [] H' b := fun hn b hb =>
    ⟨hn b hb, (fpo b hb).1, (fpo b hb).2, .inl hb, fun y c e => (f2 b hb).2.2.2.2.1 y c (cl1 _ _ e), fun p hp => absurd (show p ∈ ([] : List (Addr × Obj)) from hp) (by simp)⟩
  have st3 : tn 0 h₁ := T.keep _ _ _ st2 fun b hb o e => up b o e
  have loop : ∀ s3 : Shared, s3 = { s2 with heap := h₁, toks := s2.toks + ([] : List (Str × Value)).length } →
      codeAny (model X.prog X.w) X.A (.compLoop (.ListComp elt [⟨.Name x px, iter, [cnd], 0⟩] scope pos) 0 (.ref it) (.ref D) (compEnvC scope cl C X.env)) (RR (.ref D) C) s3 := by
    rintro s3 rfl
    refine codeAny_loop rfl (fun n s' => ∃ i v0 ys H', Inv (cCx X x N' scope cl C s2 H2 fp) [] (v0 :: σ) H' s' ∧ tn i s'.heap ∧ (∀ b ∈ fp, H' b = none) ∧ H' D = some (.lst ys) ∧ W i n ys H') ?_ m0
      ⟨0, none, [], _, I3, st3, fun b hb => by rw [upd_ne (fun z => by obtain ⟨o, e, _⟩ := T.obj _ _ st2 b hb; rw [z, gD] at e; cases e)]; exact (f2 b hb).1, upd_same, w0⟩
    rintro n s' ⟨i, v0, ys, H', I', st', fr', hD', w'⟩
    show wpAny _ X.A ((compTurn (.ListComp elt [⟨.Name x px, iter, [cnd], 0⟩] scope pos) 0 (.ref it) (.ref D) (compEnvC scope cl C X.env)).onRaise (fun x => do noteFrame x (compEnvC scope cl C X.env); theTreesLotGoes x)) _ _ s'
    refine wpAny_noted ?_
    rw [compTurn_list]
    refine wpAny_bind (wpAny_standAt (wpAny_bind ?_))
    rcases turn i n ys H' w' hD' with ⟨stop, qn⟩ | ⟨go, step⟩
    · refine thn (T.done (cCx X x N' scope cl C s2 H2 fp) rfl rfl rfl hc i [] s' _ H' _ I' (stat fr') st' stop) fun r s4 ⟨hr, I4⟩ => ?_
      subst hr
      refine wpAny_pure ?_
      obtain ⟨m, hn, _⟩ := I4.loc
      have IX : Inv X pins σ H' s4 := I2.call' (s' := s4) I4.os (show Un (frs X.stack) fp H2 H' s2.heap s4.heap from I4.base) I4.hok I4.bare fun b hb => ⟨(f2 b hb).2.2.2.1, (f2 b hb).2.1, (f2 b hb).2.2.2.2.1, (f2 b hb).2.2.2.2.2⟩
      refine hR D C s4 H' IX ⟨m, hn⟩ ⟨I4.free, fun z => ?_, ?_, fun y c e z => ?_, fun p hp z => ?_⟩ qn
      · have := I2.lt
        rw [← z, hCs, hD] at this
        exact absurd this (Nat.not_lt.mpr (Nat.le_succ _))
      · refine Nat.le_trans I2.sz ?_
        rw [hD, hCs]
        exact Nat.le_succ _
      · obtain ⟨v, o, ho, _⟩ := I2.cell y c e
        rw [z, gC] at ho
        cases ho
      · have ho := (I2.pin p hp).1
        rw [z, gC] at ho
        cases ho
    · refine thn (T.item (cCx X x N' scope cl C s2 H2 fp) rfl rfl rfl hc i [] s' _ H' _ I' (stat fr') st' go) fun r s4 ⟨u, hr, h4⟩ => ?_
      subst hr
      refine wpAny_bind (thn h4 fun _ s5 ⟨y, H5, I5, r5, y5, st5, fr5⟩ => ?_)
      have I5' := I5.pinned (stat fr5) (T.obj _ _ st5)
      have stp := step y H5 y5
      refine wpAny_bind (wpAny_assign_Name (store_ok (i := 0) I5' S.nd rfl (.inl (lookup_relabel_local S.own)) r5 (fun s6 I6 => ?_) (.inr (lookup_relabel_local S.own))))
      refine wpAny_bind (wpAny_tests_one (wpAny_mono (hcn cl C s2 H2 fp _ s6 _ H5 _ I6 stp) (fun b s6b ⟨H6, I6b, q6⟩ => ?_) fun _ _ f => f.elim))
      cases b with
      | false =>
        rw [if_neg Bool.false_ne_true] at q6
        obtain ⟨hD6, m', hm', w6⟩ := q6
        refine wpAny_pure (show _ ∧ _ from ⟨rfl, m', hm', i + 1, some y, ys, _, I6b.unpinned, T.keep _ _ _ st5 fun b hb o e => (I6b.pin (b, o) (List.mem_append_right _ (List.mem_append_right _ (mem_pinsAt hb e)))).1, fun b hb => ?_, hD6, w6⟩)
        obtain ⟨o, e, d⟩ := T.obj _ _ st5 b hb
        exact (I6b.pin (b, o) (List.mem_append_right _ (List.mem_append_right _ (mem_pinsAt hb e)))).2.1
      | true =>
        rw [if_pos rfl] at q6
        refine wpAny_bind (wpAny_bind (wpAny_mono (he cl C s2 H2 fp _ s6b _ H6 _ I6b q6) (fun z s7 ⟨y', H7, I7, r7, q7⟩ => ?_) fun _ _ f => f.elim))
        obtain ⟨hD7, hl7, m', hm', w7⟩ := q7
        refine wpAny_bind (wpAny_mono (mt_append (X := cCx X x N' scope cl C s2 H2 fp) _ s7 _ H7 (.ref D) [y'] (.ref D) [z] (fun _ H8 => H8 = upd H7 D (.lst (ys ++ [y']))) I7 rfl (.cons r7 .nil) ⟨D, ys, y', rfl, rfl, hD7, hl7, rfl⟩) (fun z8 s8 ⟨_, H8, I8, _, e8⟩ => ?_) fun _ _ f => f.elim)
        subst e8
        refine wpAny_pure (wpAny_pure ⟨rfl, m', hm', i + 1, some y, ys ++ [y'], _, I8.unpinned, T.keep _ _ _ st5 fun b hb o e => (I8.pin (b, o) (List.mem_append_right _ (List.mem_append_right _ (mem_pinsAt hb e)))).1, fun b hb => ?_, upd_same, w7⟩)
        obtain ⟨o, e, d⟩ := T.obj _ _ st5 b hb
        exact (I8.pin (b, o) (List.mem_append_right _ (List.mem_append_right _ (mem_pinsAt hb e)))).2.1
  exact codeAny_compStart_list (loop _ rfl) (T.self _ 0 _ _ _ st3 (loop _ rfl))
theorem pe_compI {elt iter cnd : Expr} {N' : List Str} {x : Str} {px pos : Pos} {scope : Scope} {wi : TI} {te : TE} {tc : TT} (hc : X.calm = true) (S : CScope X x N' scope) (hi : PI X (.Name x px) iter wi) (hcn : ∀ cl C s₂ H₂ fp, PT (cCx X x N' scope cl C s₂ H₂ fp) cnd tc) (he : ∀ cl C s₂ H₂ fp, PE (cCx X x N' scope cl C s₂ H₂ fp) elt te)
    (hs : ∀ x, foldedSetIterable iter X.env x = pure x := by intro _; rfl) : PE X (.ListComp elt [⟨.Name x px, iter, [cnd], 0⟩] scope pos) (tCompI wi tc te) := by
  intro pins s σ H Q I h
  obtain ⟨cl, hclos, cl1, cl2⟩ := closure_of (env := X.env) (scope := scope) fun p hp hf => I.ok.has p.1 (.inl (S.free p hp hf))
  rw [eval_ListComp]
  refine wpAny_comprehension_free (use := none) rfl hs hclos S.kind S.names (comp_coreI hc S hi hcn he cl1 cl2 I h fun D C s4 H' I4 hn l q => ?_)
  obtain ⟨m, hn⟩ := hn
  exact ⟨m, hn, fun h' sb => ⟨.ref D, H', I4.loose l sb, rfl, q⟩⟩
theorem ps_compI {elt iter cnd : Expr} {N' : List Str} {x y : Str} {px py pos spos : Pos} {scope : Scope} {wi : TI} {te : TE} {tc : TT} {i : Nat} (hc : X.calm = true) (S : CScope X x N' scope) (hi : PI X (.Name x px) iter wi) (hcn : ∀ cl C s₂ H₂ fp, PT (cCx X x N' scope cl C s₂ H₂ fp) cnd tc) (he : ∀ cl C s₂ H₂ fp, PE (cCx X x N' scope cl C s₂ H₂ fp) elt te)
    (hN : X.N.Nodup) (hy : X.N[i]? = some y) (hk : X.env.scope.names.lookup y = some .local) (hsw : swapsWith (.ListComp elt [⟨.Name x px, iter, [cnd], 0⟩] scope pos) (some (.Name y py)) spos.line X.env = pure true := by rfl)
    (hs : ∀ x, foldedSetIterable iter X.env x = pure x := by intro _; rfl) : PS X (.Assign [.Name y py] (.ListComp elt [⟨.Name x px, iter, [cnd], 0⟩] scope pos) spos) (tAsg (tCompI wi tc te) (gName i)) := by
  intro pins s σ H D I h
  obtain ⟨cl, hclos, cl1, cl2⟩ := closure_of (env := X.env) (scope := scope) fun p hp hf => I.ok.has p.1 (.inl (S.free p hp hf))
  rw [exec_Assign_Name_used _ _ _ _ hsw]
  refine wpAny_bind (wpAny_standAt (wpAny_bind ?_))
  show wpAny _ X.A (do let _ ← comprehension (.ListComp elt [⟨.Name x px, iter, [cnd], 0⟩] scope pos) scope X.env _ (newList []) false (eval iter X.env) (some (assign (.Name y py) X.env))) _ _ s
  refine wpAny_bind (thn (wpAny_comprehension_free (use := some (assign (.Name y py) X.env)) (Q := fun _ s' => SP X pins D .next s') rfl hs hclos S.kind S.names
    (comp_coreI (Q := fun v H' => D.nx (σ.set i (some v)) H') hc S hi hcn he cl1 cl2 I h fun D' C s4 H' I4 hn l q => ?_)) fun _ s' hq => wpAny_pure (wpAny_pure hq))
  obtain ⟨m, hn⟩ := hn
  show wpAny _ X.A (assign (.Name y py) X.env (.ref D')) _ _ _
  refine wpAny_assign_Name (store_ok2 (v := .ref D') I4 hN hy (.inl hk) rfl (fun s5 I5 ⟨a, sb, ha⟩ => ?_) (.inr hk))
  have ne : C ≠ a := by
    rcases ha with z | z
    · rw [z]; exact l.fr
    · exact Ne.symm (l.ce _ _ z)
  exact ⟨m, hn.sameBut sb ne, fun h' sb' => ⟨_, H', I5.loose l sb', q⟩⟩
end
def CSkip (n i : Nat) (ys : List V) (D : Addr) (Pv : Nat → List V → Hp → Prop) (H4 : Hp) : Prop := H4 D = some (.lst ys) ∧ ∃ m', m' < n - i ∧ m' = n - (i + 1) ∧ i + 1 ≤ n ∧ Pv (i + 1) ys H4
theorem CSkip.mk {n i : Nat} {ys : List V} {D : Addr} {Pv : Nat → List V → Hp → Prop} {H4 : Hp} (hi : i < n) (h1 : H4 D = some (.lst ys)) (h3 : Pv (i + 1) ys H4) : CSkip n i ys D Pv H4 := ⟨h1, n - (i + 1), by (clear h1; omega), rfl, hi, h3⟩
theorem comp_listI {K : PySem.W.Frag} {a D : Addr} {xs : List V} {te : TE} {tc : TT} {σ : St} {H1 : Hp} {Fin : Hp → Prop} (Pv : Nat → List V → Hp → Prop) (h0 : Pv 0 [] (upd H1 D (.lst []))) (hl : ∀ i ys H, i ≤ xs.length → Pv i ys H → SqL K H a xs)
    (hs : ∀ i x ys H2, xs[i]? = some x → Pv i ys H2 → H2 D = some (.lst ys) → tc (some x :: σ) H2 fun b H4 => if b = true then te (some x :: σ) H4 (CNext xs.length i ys D Pv) else CSkip xs.length i ys D Pv H4)
    (hd : ∀ ys H2, Pv xs.length ys H2 → H2 D = some (.lst ys) → Fin H2) :
    ∃ W : Nat → Nat → List V → Hp → Prop, (∃ m, W 0 m [] (upd H1 D (.lst []))) ∧ ∀ i m ys H2, W i m ys H2 → H2 D = some (.lst ys) →
      ((Itl K a).stop i H2 ∧ Fin H2) ∨ ((Itl K a).go i H2 ∧ ∀ x H3, (Itl K a).yld i H2 x H3 → tc (some x :: σ) H3 fun b H4 => if b = true then te (some x :: σ) H4 fun y H5 => H5 D = some (.lst ys) ∧ ys.length < sizeLine ∧ ∃ m', m' < m ∧ W (i + 1) m' (ys ++ [y]) (upd H5 D (.lst (ys ++ [y]))) else H4 D = some (.lst ys) ∧ ∃ m', m' < m ∧ W (i + 1) m' ys H4) := by
  refine ⟨fun i m ys H => m = xs.length - i ∧ i ≤ xs.length ∧ Pv i ys H, ⟨xs.length, by simp, Nat.zero_le _, h0⟩, ?_⟩
  rintro i m ys H ⟨rfl, hi, p⟩ hD
  have q := hl i ys H hi p
  by_cases lt : i < xs.length
  · refine .inr ⟨⟨xs, xs[i], q, by simp [lt]⟩, fun x H' y => ?_⟩
    obtain ⟨e, y⟩ := y
    subst e
    exact hs i x ys _ (y xs q) p hD
  · have e : i = xs.length := by (clear hD; omega)
    subst e
    exact .inl ⟨⟨xs, q, Nat.le_refl _⟩, hd ys H p hD⟩
end L2

namespace L2
open PySem PySem.Spec PyProof.Rows
section
variable {X : Cx}
end
end L2

namespace L2
open PySem PySem.Spec PyProof.Rows
def DObj (P : Program) (w : World) (ob : Obj) (d : Addr) (kvs : List (Key × V)) (vs : List (Key × Value)) (ep : Nat) : Prop :=
  KV kvs vs ∧ ∀ h : Heap, h.get? d = some ob → h.DictAt (mixKind P w) d vs ep
theorem KV.getI {kvs : List (Key × V)} {vs : List (Key × Value)} (h : KV kvs vs) : ∀ {i : Nat} {k : Key} {v : V}, kvs[i]? = some (k, v) → ∃ u, vs[i]? = some (k, u) ∧ RelV v u := by
  induction h with
  | nil => intro i k v e; simp at e
  | cons r t ih =>
    rename_i p q ps qs
    intro i k v e
    cases i with
    | zero =>
      simp at e
      subst e
      exact ⟨q.2, by simp [show k = q.1 from r.1], r.2⟩
    | succ j =>
      obtain ⟨u, h1, h2⟩ := ih (i := j) (by simpa using e)
      exact ⟨u, by simpa using h1, h2⟩
section
variable {X : Cx}
theorem Inv.freeze {pins : List (Addr × Obj)} {σ : St} {H : Hp} {s : Shared} {d : Addr} {kvs : List (Key × V)} {ob : Obj} (I : Inv X pins σ H s) (hd : H d = some (.dK kvs)) (ho : s.heap.get? d = some ob) : Inv X pins σ (upd H d (.frz ob (.dK kvs))) s := by
  have own : ∀ b y, H b = some (.own y) → upd H d (.frz ob (.dK kvs)) b = some (.own y) := fun b y q => by rw [upd_ne (fun z => by rw [z, hd] at q; cases q)]; exact q
  have tup : ∀ b xs, H b = some (.tup xs) → upd H d (.frz ob (.dK kvs)) b = some (.tup xs) := fun b xs q => by rw [upd_ne (fun z => by rw [z, hd] at q; cases q)]; exact q
  have non : ∀ b, H b = none → upd H d (.frz ob (.dK kvs)) b = none := fun b q => by rw [upd_ne (fun z => by rw [z, hd] at q; cases q)]; exact q
  refine ⟨I.ok, I.os, I.bare, ⟨I.base.keep, I.base.slot, fun b o e n hx => non b (I.base.free b o e n hx), I.base.there, fun b xs e => tup b xs (I.base.tups b xs e), fun b o u e => ?_, fun b ps e => ?_⟩, I.loc, I.cell, non _ I.free, fun x c e => non c (I.freeC x c e), fun p hp => ?_, fun b o e => ?_, I.len⟩
  · have := I.base.frzs b o u e
    rw [upd_ne (fun z => by rw [z, hd] at this; cases this)]; exact this
  · obtain ⟨m, q⟩ := I.base.tbls b ps e
    exact ⟨m, by rw [upd_ne (fun z => by rw [z, hd] at q; cases q)]; exact q⟩
  · obtain ⟨h1, h2, h3⟩ := I.pin p hp
    exact ⟨h1, non _ h2, h3⟩
  · by_cases z : b = d
    · subst z
      rw [upd_same] at e
      cases e
      exact ⟨ho, (I.hok b _ hd).stay (fun _ _ _ q => q) (fun c q => own c b q) tup⟩
    · rw [upd_ne z] at e
      exact (I.hok b o e).stay (fun _ _ _ q => q) (fun c q => own c b q) tup
theorem Inv.thaw {pins : List (Addr × Obj)} {σ : St} {H : Hp} {s : Shared} {d : Addr} {kvs : List (Key × V)} {ob : Obj} (I : Inv X pins σ H s) (hd : H d = some (.frz ob (.dK kvs))) (h0 : ∀ o u, X.H₀ d ≠ some (.frz o u)) : Inv X pins σ (upd H d (.dK kvs)) s := by
  have own : ∀ b y, H b = some (.own y) → upd H d (.dK kvs) b = some (.own y) := fun b y q => by rw [upd_ne (fun z => by rw [z, hd] at q; cases q)]; exact q
  have tup : ∀ b xs, H b = some (.tup xs) → upd H d (.dK kvs) b = some (.tup xs) := fun b xs q => by rw [upd_ne (fun z => by rw [z, hd] at q; cases q)]; exact q
  have non : ∀ b, H b = none → upd H d (.dK kvs) b = none := fun b q => by rw [upd_ne (fun z => by rw [z, hd] at q; cases q)]; exact q
  refine ⟨I.ok, I.os, I.bare, ⟨I.base.keep, I.base.slot, fun b o e n hx => non b (I.base.free b o e n hx), I.base.there, fun b xs e => tup b xs (I.base.tups b xs e), fun b o u e => ?_, fun b ps e => ?_⟩, I.loc, I.cell, non _ I.free, fun x c e => non c (I.freeC x c e), fun p hp => ?_, fun b o e => ?_, I.len⟩
  · have := I.base.frzs b o u e
    rw [upd_ne (fun z => by rw [z] at e; exact h0 _ _ e)]; exact this
  · obtain ⟨m, q⟩ := I.base.tbls b ps e
    exact ⟨m, by rw [upd_ne (fun z => by rw [z, hd] at q; cases q)]; exact q⟩
  · obtain ⟨h1, h2, h3⟩ := I.pin p hp
    exact ⟨h1, non _ h2, h3⟩
  · by_cases z : b = d
    · subst z
      rw [upd_same] at e
      cases e
      obtain ⟨_, q⟩ := I.hok b _ hd
      exact ObjOk.stay (show ObjOk X.prog X.w H s.heap b (.dK kvs) from q) (fun _ _ _ q => q) (fun c q => own c b q) tup
    · rw [upd_ne z] at e
      exact (I.hok b o e).stay (fun _ _ _ q => q) (fun c q => own c b q) tup
theorem Inv.noFrz {pins : List (Addr × Obj)} {σ : St} {H : Hp} {s : Shared} {d : Addr} {kvs : List (Key × V)} (I : Inv X pins σ H s) (hd : H d = some (.dK kvs)) : ∀ o u, X.H₀ d ≠ some (.frz o u) := fun o u e => by
  have := I.base.frzs d o u e
  rw [hd] at this
  cases this
def tThaw (t : TS) : TS := fun D σ H => ∃ d kvs, H d = some (.dK kvs) ∧ t ⟨fun σ' H' => ∃ ob, H' d = some (.frz ob (.dK kvs)) ∧ D.nx σ' (upd H' d (.dK kvs)), fun v H' => ∃ ob, H' d = some (.frz ob (.dK kvs)) ∧ D.rt v (upd H' d (.dK kvs)),
  fun σ' H' => ∃ ob, H' d = some (.frz ob (.dK kvs)) ∧ D.bk σ' (upd H' d (.dK kvs)), fun σ' H' => ∃ ob, H' d = some (.frz ob (.dK kvs)) ∧ D.ct σ' (upd H' d (.dK kvs))⟩ σ H
theorem ps_thaw {st : Stmt} {t : TS} (h : PS X st t) : PS X st (tThaw t) := by
  intro pins s σ H D I ⟨d, kvs, hd, q⟩
  have h0 := I.noFrz hd
  refine thn (h pins s σ H _ I q) fun f s1 q1 => ?_
  cases f with
  | next => obtain ⟨σ7, H7, I7, ob, e, q7⟩ := q1; exact ⟨σ7, _, I7.thaw e h0, q7⟩
  | cont => obtain ⟨σ7, H7, I7, ob, e, q7⟩ := q1; exact ⟨σ7, _, I7.thaw e h0, q7⟩
  | brk => obtain ⟨σ7, H7, I7, ob, e, q7⟩ := q1; exact ⟨σ7, _, I7.thaw e h0, q7⟩
  | ret v => obtain ⟨x7, σ7, H7, I7, r7, ob, e, q7⟩ := q1; exact ⟨x7, σ7, _, I7.thaw e h0, r7, q7⟩
end
end L2

namespace L2
open PySem PySem.Spec PyProof.Rows
theorem kit_ll {K : PySem.W.Frag} : PySem.W.kitOne K (.type "list") (.type "list") = some true := by kernel_rfl
section
variable {X : Cx} (K : PySem.W.Frag) (hK : X.K = K)
include hK
theorem ix_listK : IxR X (rIxL K) := by subst hK; exact ix_list
end
section
variable {X : Cx}
end
end L2

namespace L2
open PySem PySem.Spec PyProof.Rows
theorem not_idxOf {y : Int} : ∀ {ns : List Int} {m : Nat}, m < ns.idxOf y → (h : m < ns.length) → ns[m] ≠ y
  | [], m, _, h => by simp at h
  | a :: r, m, lt, h => by
    rw [List.idxOf_cons] at lt
    by_cases c : a = y
    · rw [c] at lt; simp at lt
    · have : (a == y) = false := beq_eq_false_iff_ne.mpr c
      rw [this] at lt
      cases m with
      | zero => exact c
      | succ j => exact not_idxOf (ns := r) (m := j) (by simpa using lt) (by simpa using h)
theorem erase_map : ∀ (ns : List Int) (i : Nat), (ns.eraseIdx i).map V.int = (ns.map V.int).eraseIdx i
  | [], _ => rfl
  | _ :: _, 0 => rfl
  | a :: r, i + 1 => by
    show V.int a :: (r.eraseIdx i).map V.int = V.int a :: (r.map V.int).eraseIdx i
    rw [erase_map r i]
section
variable {X : Cx}
def rInsert : V → List V → Hp → VK → Prop := fun x vs H Q => ∃ (l : Addr) (xs : List V) (k : Int) (y : V), x = .ref l ∧ vs = [.int k, y] ∧ H l = some (.lst xs) ∧ 0 ≤ k ∧ k ≤ (xs.length : Int) ∧ xs.length < sizeLine ∧ Q .non (upd H l (.lst (xs.take k.toNat ++ y :: xs.drop k.toNat)))
theorem mt_insert : MtM X "list.insert" rInsert := by
  intro pins s σ H x vs v us Q I rx rv h
  obtain ⟨l, xs, k, y, rfl, rfl, hH, h0, hk, hz, q⟩ := h
  cases rx
  obtain ⟨u1, u, rfl, ⟨t, rfl⟩, ru⟩ := rv.two
  obtain ⟨z, its, n, r, hl, e⟩ := I.lstM hH
  have fits : ¬ (!Builtin.List.listFitsIndex k) = true := by
    have line := line63
    rw [fitsIndex_both (by (clear line e hl z hz hk hH; omega)) (by (clear e hl z h0 hH; omega))]
    exact Bool.false_ne_true
  have hsz : its.toArray.size ≤ sizeLine := by rw [List.size_toArray]; (clear fits e z hk h0 hH; omega)
  refine call_meets F.slot_list_insert ⟨_, e, rfl⟩ F.entry_list_insert (F.args_list_insert_3 _ _ _) (AutoListH.list_insert_list_int_val_1 l its.toArray n k t u fits hsz) ⟨e, ?_⟩
  refine ⟨.non, _, I.lset (its' := its.take k.toNat ++ u :: its.drop k.toNat) hH e ?_ ((r.take k.toNat).append (.cons ru (r.drop k.toNat))) ?_, rfl, q⟩
  · have e0 : (if k < 0 then (k + ((its.toArray.size : Nat) : Int)).toNat else min k.toNat its.toArray.size) = k.toNat := by
      rw [if_neg (by (clear hsz fits e hl z hz hk hH; omega)), List.size_toArray]
      (clear hsz fits e z hz h0 hH; omega)
    show (its.toArray.extract 0 _).push u ++ its.toArray.extract _ = _
    rw [e0]
    simp
    exact List.take_of_length_le (by rw [List.length_drop]; (clear e0 hsz fits e hl z hz hk h0 hH; omega))
  · rw [List.length_append, List.length_cons, List.length_take, List.length_drop]
    (clear hsz fits e hl z hk h0 hH; omega)
def rRemove : V → List V → Hp → VK → Prop := fun x vs H Q => ∃ (l : Addr) (ns : List Int) (y : Int), x = .ref l ∧ vs = [.int y] ∧ H l = some (.lst (ns.map V.int)) ∧ y ∈ ns ∧ Q .non (upd H l (.lst ((ns.erase y).map V.int)))
theorem mt_remove : MtM X "list.remove" rRemove := by
  intro pins s σ H x vs v us Q I rx rv h
  obtain ⟨l, ns, y, rfl, rfl, hH, hy, q⟩ := h
  cases rx
  obtain ⟨u, rfl, ru⟩ := rv.one
  obtain ⟨t, rfl⟩ := ru
  obtain ⟨z, its, n, r, hl, e⟩ := I.lstM hH
  have hi : IntsAre its ns := intsAre_of r
  have at_ : ∀ (m : Nat) (hm : m < its.toArray.size), ∃ t', its.toArray[m] = Value.int (ns.getD m 0) t' := fun m hm => by
    have hm' : m < ns.length := by rw [List.size_toArray, ← hl, List.length_map] at hm; exact hm
    obtain ⟨w, hw, rw'⟩ := r.get (i := m) (x := .int (ns.getD m 0)) (by rw [List.getElem?_map, List.getElem?_eq_getElem hm', List.getD_eq_getElem?_getD, List.getElem?_eq_getElem hm']; rfl)
    obtain ⟨t', rfl⟩ := rw'
    refine ⟨t', ?_⟩
    have := (List.getElem?_eq_some_iff.mp hw).2
    simpa using this
  have hx : ns.idxOf y < ns.length := List.idxOf_lt_length_of_mem hy
  have ga : ∀ m, m < ns.length → ns.getD m 0 = ns[m]! := fun m hm => by simp [hm]
  refine call_meets F.slot_list_remove ⟨_, e, rfl⟩ F.entry_list_remove (F.args_list_remove_2 _ _) (MeetsSeq.list_remove l its.toArray n (.int y t) (fun v => match v with | .int i _ => i == y | _ => false) (fun v hv => ?_) (ns.idxOf y) (by rw [List.size_toArray, ← hl, List.length_map]; exact hx) ?_ (fun m hm lt => ?_) (by rw [List.size_toArray]; (clear hx e hH; omega))) ⟨e, ?_⟩
  · obtain ⟨m, hm, em⟩ := Array.getElem_of_mem hv
    obtain ⟨t', et⟩ := at_ m hm
    rw [← em, et]
    exact MeetsSeq.EqGives.int _ _ _ _
  · obtain ⟨t', et⟩ := at_ (ns.idxOf y) (by rw [List.size_toArray, ← hl, List.length_map]; exact hx)
    rw [et]
    show (ns.getD (ns.idxOf y) 0 == y) = true
    rw [List.getD_eq_getElem?_getD, List.getElem?_eq_getElem hx, Option.getD_some, List.getElem_idxOf hx]
    exact beq_self_eq_true y
  · obtain ⟨t', et⟩ := at_ m hm
    rw [et]
    show (ns.getD m 0 == y) = false
    have hm' : m < ns.length := by (clear et hm e hl z hH; omega)
    rw [List.getD_eq_getElem?_getD, List.getElem?_eq_getElem hm', Option.getD_some]
    exact beq_eq_false_iff_ne.mpr (fun w => not_idxOf lt hm' w)
  · have ee : ns.erase y = ns.eraseIdx (ns.idxOf y) := (List.erase_eq_eraseIdx_of_idxOf rfl)
    have em : (ns.eraseIdx (ns.idxOf y)).map V.int = (ns.map V.int).eraseIdx (ns.idxOf y) := erase_map _ _
    rw [ee, em] at q
    refine ⟨.non, _, I.lset (its' := its.eraseIdx (ns.idxOf y)) hH e ?_ (r.eraseIdx (ns.idxOf y)) ?_, rfl, q⟩
    · show its.toArray.eraseIdxIfInBounds (ns.idxOf y) = (its.eraseIdx (ns.idxOf y)).toArray
      rw [List.eraseIdxIfInBounds_toArray]
    · have := len_erase (ns.map V.int) (ns.idxOf y)
      (clear em ee hx e hl hH; omega)
end
end L2

namespace L2
open PySem PySem.Spec PyProof.Rows
def Itv (K : PySem.W.Frag) (a : Addr) (n : Nat) : It :=
  ⟨fun i H => i < n ∧ ∃ xs x, SqL K H a xs ∧ xs[n - 1 - i]? = some x, fun i H x H' => H' = H ∧ ∀ xs, SqL K H a xs → xs[n - 1 - i]? = some x, fun i _ => n ≤ i⟩
theorem turn_rev {P : Program} {w : World} {K : PySem.W.Frag} {tg : Expr} (a it : Addr) (n : Nat) : Turn P w K tg (Itv K a n) [it] it (fun i h => i ≤ n ∧ h.IsRevIter it a ((n : Int) - 1 - (i : Int))) where
  mem := by simp
  obj := fun i h st b hb => by
    have e : b = it := by simpa using hb
    subst e
    obtain ⟨_, o, e, c, d⟩ := st
    exact ⟨o, e, fun v z => by rw [d] at z; cases z⟩
  keep := fun i h h' st k => ⟨st.1, st.2.at fun o e => k it (by simp) o e⟩
  item := by
    intro X hP hw hK hc i pins s σ H E I hf st hg
    subst hP hw hK
    obtain ⟨hi, xs, x, hq, hx⟩ := hg
    obtain ⟨its, rv, p, hz⟩ := I.list hq
    obtain ⟨u, hu, ru⟩ := rv.get hx
    obtain ⟨f0, f1, f2, f3, f4, f5⟩ := hf it (by simp)
    have e1 : (n : Int) - 1 - (i : Int) = ((n - 1 - i : Nat) : Int) := by (clear f3 f2 f1 f0 hu hz hx st hc; omega)
    have hit := st.2
    rw [e1] at hit
    refine wpAny_pyNext_rev_item hit p.isList (x := u) (by simpa using hu) fun h' st' sb => ?_
    have e2 : ((n - 1 - i : Nat) : Int) - 1 = (n : Int) - 1 - ((i + 1 : Nat) : Int) := by (clear e1 f3 f2 f1 f0 hu hz hx st hc; omega)
    rw [e2] at st'
    have I1 : Inv X pins σ H { s with heap := h' } := I.turned (t' := s.toks) (fun b o hb e => (sb.2 b hb).trans e) f0 f1 f3 f4 f5
    obtain ⟨o, e, c, d⟩ := id st'
    exact ⟨u, rfl, go_of (s := { s with heap := h' }) e c d (by decide) ⟨x, H, I1, ru, ⟨rfl, fun ys hy => by rw [I.list_inj hy hq]; exact hx⟩, ⟨hi, st'⟩, fun b hb => (hf b hb).1⟩⟩
  done := by
    intro X hP hw hK hc i pins s σ H E I hf st hg
    subst hP hw hK
    obtain ⟨f0, f1, f2, f3, f4, f5⟩ := hf it (by simp)
    have hit := st.2
    have hn : n ≤ i := hg
    have e : (n : Int) - 1 - (i : Int) = -1 := by have := st.1; (clear this f3 f2 f1 f0 hc; omega)
    rw [e] at hit
    exact wpAny_pyNext_rev_end (I.ok.hd hc) hit fun h' eb => ⟨rfl, I.turned (t' := s.toks) (fun b o hb e => eb b o hb e) f0 f1 f3 f4 f5⟩
  self := fun _ _ _ _ _ st h => wpAny_pyIter_revIter st.2 h
section
variable {X : Cx} {tg : Expr}
def iRev (K : PySem.W.Frag) (ta : TA) : TI := fun σ H R => ta σ H fun vs H1 => ∃ a xs, vs = [.ref a] ∧ SqL K H1 a xs ∧ R (Itv K a xs.length) H1
theorem pi_rev {a : Expr} {ta : TA} {p pos : Pos} (hg : Gl X "reversed") (hm : X.mg "reversed" = none) (ha : PA X [a] ta) (hs : starEach [a] X.env = [(false, eval a X.env)] := by rfl) : PI X tg (.Call (.Name "reversed" p) [a] [] pos) (iRev X.K ta) := by
  intro pins s σ H R I h
  refine Call_ (ld_blt I hg hm Boot.«reversed» (PyProof.Rows.callWith_type1 (thn (ha pos pins s σ H _ I h) fun us s1 ⟨vs, H1, I1, r1, q1⟩ => ?_) hs rfl))
  obtain ⟨b, xs, e, hq, q⟩ := q1
  subst e
  cases r1 with
  | cons r rr =>
    cases rr
    cases r
    obtain ⟨its, rv, p, hz⟩ := I1.list hq
    have hl := rv.length
    refine call_reversed_list p.isList ?_
    refine wpAny_pyIter_revIter (l := b) (i := (its.toArray.size : Int) - 1) ⟨_, Heap.get?_push_size _ rfl, rfl, rfl⟩ ?_
    refine ⟨s1.heap.objs.size, [s1.heap.objs.size], _, _, H1, rfl, I1.kept (t' := s1.toks) fun b o e => Heap.get?_push_of_some _ e, turn_rev b _ xs.length, ⟨Nat.zero_le _, ?_⟩, fun b hb => ?_, q⟩
    · have e : (xs.length : Int) - 1 - ((0 : Nat) : Int) = (its.toArray.size : Int) - 1 := by simp; (clear hz hs hm; omega)
      rw [e]
      exact ⟨_, Heap.get?_push_size _ rfl, rfl, rfl⟩
    · have e : b = s1.heap.objs.size := by simpa using hb
      subst e
      exact I1.fpOk (Nat.le_refl _) (I1.hok.fresh (Nat.le_refl _))
end
theorem comp_revI {K : PySem.W.Frag} {a D : Addr} {xs : List V} {te : TE} {tc : TT} {σ : St} {H1 : Hp} {Fin : Hp → Prop} (Pv : Nat → List V → Hp → Prop) (h0 : Pv 0 [] (upd H1 D (.lst []))) (hl : ∀ i ys H, i ≤ xs.length → Pv i ys H → SqL K H a xs)
    (hs : ∀ i x ys H2, xs.reverse[i]? = some x → Pv i ys H2 → H2 D = some (.lst ys) → tc (some x :: σ) H2 fun b H4 => if b = true then te (some x :: σ) H4 (CNext xs.length i ys D Pv) else CSkip xs.length i ys D Pv H4)
    (hd : ∀ ys H2, Pv xs.length ys H2 → H2 D = some (.lst ys) → Fin H2) :
    ∃ W : Nat → Nat → List V → Hp → Prop, (∃ m, W 0 m [] (upd H1 D (.lst []))) ∧ ∀ i m ys H2, W i m ys H2 → H2 D = some (.lst ys) →
      ((Itv K a xs.length).stop i H2 ∧ Fin H2) ∨ ((Itv K a xs.length).go i H2 ∧ ∀ x H3, (Itv K a xs.length).yld i H2 x H3 → tc (some x :: σ) H3 fun b H4 => if b = true then te (some x :: σ) H4 fun y H5 => H5 D = some (.lst ys) ∧ ys.length < sizeLine ∧ ∃ m', m' < m ∧ W (i + 1) m' (ys ++ [y]) (upd H5 D (.lst (ys ++ [y]))) else H4 D = some (.lst ys) ∧ ∃ m', m' < m ∧ W (i + 1) m' ys H4) := by
  refine ⟨fun i m ys H => m = xs.length - i ∧ i ≤ xs.length ∧ Pv i ys H, ⟨xs.length, by simp, Nat.zero_le _, h0⟩, ?_⟩
  rintro i m ys H ⟨rfl, hi, p⟩ hD
  have q := hl i ys H hi p
  by_cases lt : i < xs.length
  · refine .inr ⟨⟨lt, xs, xs[xs.length - 1 - i]'(by (clear hD hi; omega)), q, List.getElem?_eq_getElem _⟩, fun x H' y => ?_⟩
    obtain ⟨e, y⟩ := y
    subst e
    exact hs i x ys _ (by rw [List.getElem?_reverse lt]; exact y xs q) p hD
  · have e : i = xs.length := by (clear hD; omega)
    subst e
    exact .inl ⟨Nat.le_refl _, hd ys H p hD⟩
end L2

namespace L2
open PySem PySem.Spec PyProof.Rows
def Itk (ob : Obj) (d : Addr) (kvs : List (Key × V)) : It :=
  ⟨fun i H => H d = some (.frz ob (.dK kvs)) ∧ i < kvs.length, fun i H x H' => H' = H ∧ ∃ k v, kvs[i]? = some (k, v) ∧ x = kV k, fun i H => H d = some (.frz ob (.dK kvs)) ∧ kvs.length ≤ i⟩
theorem turn_keys {P : Program} {w : World} {K : PySem.W.Frag} {tg : Expr} {ob : Obj} {d : Addr} {kvs : List (Key × V)} {vs : List (Key × Value)} {ep : Nat} (it : Addr) (D : DObj P w ob d kvs vs ep) :
    Turn P w K tg (Itk ob d kvs) [it] it (fun i h => h.IsKeyIter it d i vs.length ep) where
  mem := by simp
  obj := fun i h st b hb => by
    have z : b = it := by simpa using hb
    subst z
    obtain ⟨o, e, c, dd⟩ := st
    exact ⟨o, e, fun v z => by rw [dd] at z; cases z⟩
  keep := fun i h h' st k => by
    obtain ⟨o, e, r⟩ := st
    exact ⟨o, k it (by simp) _ e, r⟩
  item := by
    intro X hP hw hK hc i pins s σ H E I hf st hg
    subst hP hw hK
    obtain ⟨hq, hi⟩ := hg
    obtain ⟨f0, f1, f2, f3, f4, f5⟩ := hf it (by simp)
    obtain ⟨hob, _⟩ := I.hok d _ hq
    have hat := D.2 s.heap hob
    obtain ⟨⟨k, v⟩, hx⟩ : ∃ kv, kvs[i]? = some kv := ⟨kvs[i], by simp [hi]⟩
    obtain ⟨u, hu, ru⟩ := KV.getI D.1 hx
    refine wpAny_pyNext_dict_item st hat hu fun key h' hkey st' sb => ?_
    have I1 : Inv X pins σ H { s with heap := h' } := I.turned (t' := s.toks) (fun b o hb e => (sb.2 b hb).trans e) f0 f1 f3 f4 f5
    obtain ⟨o, e, c, dd⟩ := id st'
    exact ⟨key, rfl, go_of (s := { s with heap := h' }) e c dd (by decide) ⟨kV k, H, I1, keyV_of hkey, ⟨rfl, k, v, hx, rfl⟩, st', fun b hb => (hf b hb).1⟩⟩
  done := by
    intro X hP hw hK hc i pins s σ H E I hf st hg
    subst hP hw hK
    obtain ⟨hq, hi⟩ := hg
    obtain ⟨hob, _⟩ := I.hok d _ hq
    have hat := D.2 s.heap hob
    obtain ⟨f0, f1, f2, f3, f4, f5⟩ := hf it (by simp)
    have hl : kvs.length = vs.length := D.1.length
    exact wpAny_pyNext_dict_end (I.ok.hd hc) st hat (by simp; (clear f3 f2 f1 f0 hob hq hc; omega)) fun h' eb => ⟨rfl, I.turned (t' := s.toks) (fun b o hb e => eb b o hb e) f0 f1 f3 f4 f5⟩
  self := fun _ _ _ _ _ st h => wpAny_pyIter_keyiter st h
section
variable {X : Cx} {tg : Expr}
def iDict (te : TE) : TI := fun σ H R => te σ H fun x H1 => ∃ d kvs, x = .ref d ∧ H1 d = some (.dK kvs) ∧ ∀ ob, R (Itk ob d kvs) (upd H1 d (.frz ob (.dK kvs)))
theorem pi_dict {l : Expr} {te : TE} (hl : PE X l te) : PI X tg l (iDict te) := by
  intro pins s σ H R I h
  refine thn (hl pins s σ H _ I h) fun v s1 ⟨x, H1, I1, r1, q1⟩ => ?_
  obtain ⟨d, kvs, e, hd, q⟩ := q1
  subst e
  cases r1
  obtain ⟨z, lo, vs, rel, dd⟩ := dk_of I1.hok hd
  obtain ⟨ep, hat⟩ := dd.dictAt
  obtain ⟨ob, es, hob, rest⟩ := id hat
  refine wpAny_pyIter_dict lo hat ?_
  have If := I1.freeze hd hob
  refine ⟨s1.heap.objs.size, [s1.heap.objs.size], _, _, _, rfl, If.kept (t' := s1.toks) fun b o e => Heap.get?_push_of_some _ e, turn_keys _ ⟨rel, fun h e => ⟨ob, es, e, rest⟩⟩, ⟨_, Heap.get?_push_size _ rfl, rfl, rfl⟩, fun b hb => ?_, q ob⟩
  have e : b = s1.heap.objs.size := by simpa using hb
  subst e
  exact If.fpOk (Nat.le_refl _) (If.hok.fresh (Nat.le_refl _))
def tThawE (te : TE) : TE := fun σ H Q => ∃ d kvs, H d = some (.dK kvs) ∧ te σ H fun v H' => ∃ ob, H' d = some (.frz ob (.dK kvs)) ∧ Q v (upd H' d (.dK kvs))
theorem pe_thaw {e : Expr} {te : TE} (h : PE X e te) : PE X e (tThawE te) := by
  intro pins s σ H Q I ⟨d, kvs, hd, q⟩
  have h0 := I.noFrz hd
  exact thn (h pins s σ H _ I q) fun u s1 ⟨x, H1, I1, r1, ob, e, q1⟩ => ⟨x, _, I1.thaw e h0, r1, q1⟩
theorem call_dict1 : CallR X (.type "dict") (fun xs H Q => ∃ d kvs, xs = [.ref d] ∧ H d = some (.dK kvs) ∧ ∀ p, H p = none → Q (.ref p) (upd H p (.dK kvs))) := by
  intro pins s σ H xs us Q I r h
  obtain ⟨d, kvs, rfl, hd, q⟩ := h
  obtain ⟨u, rfl, ru⟩ := vals1 r
  cases ru
  obtain ⟨z, lo, vs, rel, dd⟩ := dk_of I.hok hd
  refine kt_call_dict lo dd (by rw [← rel.length]; exact z) fun h' hm hs => ?_
  obtain ⟨_, nm, _⟩ := dk_empty (P := X.prog) (w := X.w) (H := H) s.heap I.big
  refine ⟨.ref s.heap.objs.size, _, I.laid (a := s.heap.objs.size) (o := .dK kvs) (t' := s.toks) (fun b o e => (hs.2 b (Nat.ne_of_lt (Heap.lt_size e))).trans (Heap.get?_push_of_some _ e)) (Nat.le_refl _) ⟨z, nm, vs, rel, hm⟩, rfl, q _ (I.hok.fresh (Nat.le_refl _))⟩
end
theorem op_notIn_seqK {X : Cx} (K : PySem.W.Frag) (hK : X.K = K) : OpR X (compareOp .NotIn) (rIn K true) := by subst hK; exact op_notIn_seq
theorem comp_dictI {ob : Obj} {d D : Addr} {kvs : List (Key × V)} {te : TE} {tc : TT} {σ : St} {H1 : Hp} {Fin : Hp → Prop} (Pv : Nat → List V → Hp → Prop) (h0 : Pv 0 [] (upd H1 D (.lst []))) (hl : ∀ i ys H, i ≤ kvs.length → Pv i ys H → H d = some (.frz ob (.dK kvs)))
    (hs : ∀ i k v ys H2, kvs[i]? = some (k, v) → Pv i ys H2 → H2 D = some (.lst ys) → tc (some (kV k) :: σ) H2 fun b H4 => if b = true then te (some (kV k) :: σ) H4 (CNext kvs.length i ys D Pv) else CSkip kvs.length i ys D Pv H4)
    (hd : ∀ ys H2, Pv kvs.length ys H2 → H2 D = some (.lst ys) → Fin H2) :
    ∃ W : Nat → Nat → List V → Hp → Prop, (∃ m, W 0 m [] (upd H1 D (.lst []))) ∧ ∀ i m ys H2, W i m ys H2 → H2 D = some (.lst ys) →
      ((Itk ob d kvs).stop i H2 ∧ Fin H2) ∨ ((Itk ob d kvs).go i H2 ∧ ∀ x H3, (Itk ob d kvs).yld i H2 x H3 → tc (some x :: σ) H3 fun b H4 => if b = true then te (some x :: σ) H4 fun y H5 => H5 D = some (.lst ys) ∧ ys.length < sizeLine ∧ ∃ m', m' < m ∧ W (i + 1) m' (ys ++ [y]) (upd H5 D (.lst (ys ++ [y]))) else H4 D = some (.lst ys) ∧ ∃ m', m' < m ∧ W (i + 1) m' ys H4) := by
  refine ⟨fun i m ys H => m = kvs.length - i ∧ i ≤ kvs.length ∧ Pv i ys H, ⟨kvs.length, by simp, Nat.zero_le _, h0⟩, ?_⟩
  rintro i m ys H ⟨rfl, hi, p⟩ hD
  have q := hl i ys H hi p
  by_cases lt : i < kvs.length
  · refine .inr ⟨⟨q, lt⟩, fun x H' y => ?_⟩
    obtain ⟨rfl, k, v, e, rfl⟩ := y
    exact hs i k v ys _ e p hD
  · have e : i = kvs.length := by (clear q hD; omega)
    subst e
    exact .inl ⟨⟨q, Nat.le_refl _⟩, hd ys H p hD⟩
end L2

namespace SW
open PySem L2
set_option maxHeartbeats 0
def top (i : Nat) : Stmt := PySem.Challenge.pw_staywalk_k24_whole_walked_by_leaves.main.body.getD i (.Pass ⟨0, 0, 0, 0⟩)
abbrev s_NoKey__init : Stmt := inClass (top 3) 0
abbrev s_Twice__init : Stmt := inClass (top 4) 0
abbrev s_Leaves__init : Stmt := inClass (top 8) 0
abbrev s_Leaves__add : Stmt := inClass (top 8) 1
abbrev s_Leaves__discard : Stmt := inClass (top 8) 2
abbrev s_Leaves__has : Stmt := inClass (top 8) 3
abbrev s_Leaves__many : Stmt := inClass (top 8) 4
abbrev s_Leaves__from_on : Stmt := inClass (top 8) 6
abbrev s_Leaves__down_from : Stmt := inClass (top 8) 7
abbrev s_Leaves__leaf_of : Stmt := inClass (top 8) 8
abbrev s_Leaves__part_leaf : Stmt := inClass (top 8) 9
abbrev s_Leaves__join_small : Stmt := inClass (top 8) 10
abbrev s__law_cell_at : Stmt := top 10
abbrev s__law_drawn : Stmt := top 11
abbrev s__law_draws : Stmt := top 12
abbrev s__law_begun : Stmt := top 13
abbrev s__law_added : Stmt := top 14
abbrev s__law_discarded : Stmt := top 15
abbrev s__law_deed : Stmt := top 16
abbrev s__law_up_right : Stmt := top 17
abbrev s__law_down_right : Stmt := top 18
abbrev s__law_walked : Stmt := top 19
abbrev s__law_fallen : Stmt := top 20
abbrev s_law : Stmt := top 21
structure Adr where
  a_NoKey__init : Addr
  d_NoKey__init : FuncData
  a_Twice__init : Addr
  d_Twice__init : FuncData
  a_Leaves__init : Addr
  d_Leaves__init : FuncData
  a_Leaves__add : Addr
  d_Leaves__add : FuncData
  a_Leaves__discard : Addr
  d_Leaves__discard : FuncData
  a_Leaves__has : Addr
  d_Leaves__has : FuncData
  a_Leaves__many : Addr
  d_Leaves__many : FuncData
  a_Leaves__from_on : Addr
  d_Leaves__from_on : FuncData
  a_Leaves__down_from : Addr
  d_Leaves__down_from : FuncData
  a_Leaves__leaf_of : Addr
  d_Leaves__leaf_of : FuncData
  a_Leaves__part_leaf : Addr
  d_Leaves__part_leaf : FuncData
  a_Leaves__join_small : Addr
  d_Leaves__join_small : FuncData
  a__law_cell_at : Addr
  d__law_cell_at : FuncData
  a__law_drawn : Addr
  d__law_drawn : FuncData
  a__law_draws : Addr
  d__law_draws : FuncData
  a__law_begun : Addr
  d__law_begun : FuncData
  a__law_added : Addr
  d__law_added : FuncData
  a__law_discarded : Addr
  d__law_discarded : FuncData
  a__law_deed : Addr
  d__law_deed : FuncData
  a__law_up_right : Addr
  d__law_up_right : FuncData
  a__law_down_right : Addr
  d__law_down_right : FuncData
  a__law_walked : Addr
  d__law_walked : FuncData
  a__law_fallen : Addr
  d__law_fallen : FuncData
  a_law : Addr
  d_law : FuncData
  c_WalkError : Addr
  c_NoKey : Addr
  c_Twice : Addr
  c_Leaves : Addr
structure Txt (K : PySem.W.Frag) (mg : Str → Option Value) (t : Adr) : Prop where
  mg_WalkError : mg "WalkError" = some (.ref t.c_WalkError)
  mg_NoKey : mg "NoKey" = some (.ref t.c_NoKey)
  mg_Twice : mg "Twice" = some (.ref t.c_Twice)
  mg_Leaves : mg "Leaves" = some (.ref t.c_Leaves)
  F_NoKey__init : Fun K "__init__" "NoKey.__init__" s_NoKey__init t.a_NoKey__init t.d_NoKey__init
  b_NoKey__init : Binds K t.d_NoKey__init ["self", "key"] []
  F_Twice__init : Fun K "__init__" "Twice.__init__" s_Twice__init t.a_Twice__init t.d_Twice__init
  b_Twice__init : Binds K t.d_Twice__init ["self", "key"] []
  F_Leaves__init : Fun K "__init__" "Leaves.__init__" s_Leaves__init t.a_Leaves__init t.d_Leaves__init
  b_Leaves__init : Binds K t.d_Leaves__init ["self"] []
  F_Leaves__add : Fun K "add" "Leaves.add" s_Leaves__add t.a_Leaves__add t.d_Leaves__add
  b_Leaves__add : Binds K t.d_Leaves__add ["self", "key"] []
  F_Leaves__discard : Fun K "discard" "Leaves.discard" s_Leaves__discard t.a_Leaves__discard t.d_Leaves__discard
  b_Leaves__discard : Binds K t.d_Leaves__discard ["self", "key"] []
  F_Leaves__has : Fun K "has" "Leaves.has" s_Leaves__has t.a_Leaves__has t.d_Leaves__has
  b_Leaves__has : Binds K t.d_Leaves__has ["self", "key"] []
  F_Leaves__many : Fun K "many" "Leaves.many" s_Leaves__many t.a_Leaves__many t.d_Leaves__many
  b_Leaves__many : Binds K t.d_Leaves__many ["self"] []
  F_Leaves__from_on : Fun K "from_on" "Leaves.from_on" s_Leaves__from_on t.a_Leaves__from_on t.d_Leaves__from_on
  b_Leaves__from_on : Binds K t.d_Leaves__from_on ["self", "key", "most"] []
  F_Leaves__down_from : Fun K "down_from" "Leaves.down_from" s_Leaves__down_from t.a_Leaves__down_from t.d_Leaves__down_from
  b_Leaves__down_from : Binds K t.d_Leaves__down_from ["self", "key", "most"] []
  F_Leaves__leaf_of : Fun K "leaf_of" "Leaves.leaf_of" s_Leaves__leaf_of t.a_Leaves__leaf_of t.d_Leaves__leaf_of
  b_Leaves__leaf_of : Binds K t.d_Leaves__leaf_of ["self", "key"] []
  F_Leaves__part_leaf : Fun K "part_leaf" "Leaves.part_leaf" s_Leaves__part_leaf t.a_Leaves__part_leaf t.d_Leaves__part_leaf
  b_Leaves__part_leaf : Binds K t.d_Leaves__part_leaf ["self", "at"] []
  F_Leaves__join_small : Fun K "join_small" "Leaves.join_small" s_Leaves__join_small t.a_Leaves__join_small t.d_Leaves__join_small
  b_Leaves__join_small : Binds K t.d_Leaves__join_small ["self", "at"] []
  m__law_cell_at : mg "_law_cell_at" = some (.ref t.a__law_cell_at)
  F__law_cell_at : Fun K "_law_cell_at" "_law_cell_at" s__law_cell_at t.a__law_cell_at t.d__law_cell_at
  b__law_cell_at : Binds K t.d__law_cell_at ["_law_script", "_law_k"] []
  m__law_drawn : mg "_law_drawn" = some (.ref t.a__law_drawn)
  F__law_drawn : Fun K "_law_drawn" "_law_drawn" s__law_drawn t.a__law_drawn t.d__law_drawn
  b__law_drawn : Binds K t.d__law_drawn ["_law_cell", "_law_k"] []
  m__law_draws : mg "_law_draws" = some (.ref t.a__law_draws)
  F__law_draws : Fun K "_law_draws" "_law_draws" s__law_draws t.a__law_draws t.d__law_draws
  b__law_draws : Binds K t.d__law_draws ["_law_cell", "_law_many", "_law_way"] []
  m__law_begun : mg "_law_begun" = some (.ref t.a__law_begun)
  F__law_begun : Fun K "_law_begun" "_law_begun" s__law_begun t.a__law_begun t.d__law_begun
  b__law_begun : Binds K t.d__law_begun ["_law_script", "_law_way"] []
  m__law_added : mg "_law_added" = some (.ref t.a__law_added)
  F__law_added : Fun K "_law_added" "_law_added" s__law_added t.a__law_added t.d__law_added
  b__law_added : Binds K t.d__law_added ["_law_told", "_law_kept", "_law_key"] []
  m__law_discarded : mg "_law_discarded" = some (.ref t.a__law_discarded)
  F__law_discarded : Fun K "_law_discarded" "_law_discarded" s__law_discarded t.a__law_discarded t.d__law_discarded
  b__law_discarded : Binds K t.d__law_discarded ["_law_told", "_law_kept", "_law_stayed", "_law_some"] []
  m__law_deed : mg "_law_deed" = some (.ref t.a__law_deed)
  F__law_deed : Fun K "_law_deed" "_law_deed" s__law_deed t.a__law_deed t.d__law_deed
  b__law_deed : Binds K t.d__law_deed ["_law_told", "_law_kept", "_law_stayed", "_law_draws_here", "_law_last"] []
  m__law_up_right : mg "_law_up_right" = some (.ref t.a__law_up_right)
  F__law_up_right : Fun K "_law_up_right" "_law_up_right" s__law_up_right t.a__law_up_right t.d__law_up_right
  b__law_up_right : Binds K t.d__law_up_right ["_law_found", "_law_kept", "_law_last", "_law_most"] []
  m__law_down_right : mg "_law_down_right" = some (.ref t.a__law_down_right)
  F__law_down_right : Fun K "_law_down_right" "_law_down_right" s__law_down_right t.a__law_down_right t.d__law_down_right
  b__law_down_right : Binds K t.d__law_down_right ["_law_found", "_law_kept", "_law_last", "_law_most"] []
  m__law_walked : mg "_law_walked" = some (.ref t.a__law_walked)
  F__law_walked : Fun K "_law_walked" "_law_walked" s__law_walked t.a__law_walked t.d__law_walked
  b__law_walked : Binds K t.d__law_walked ["_law_told", "_law_kept", "_law_up", "_law_most"] []
  m__law_fallen : mg "_law_fallen" = some (.ref t.a__law_fallen)
  F__law_fallen : Fun K "_law_fallen" "_law_fallen" s__law_fallen t.a__law_fallen t.d__law_fallen
  b__law_fallen : Binds K t.d__law_fallen ["_law_told", "_law_kept", "_law_down", "_law_most"] []
  m_law : mg "law" = some (.ref t.a_law)
  F_law : Fun K "law" "law" s_law t.a_law t.d_law
  b_law : Binds K t.d_law ["_law_script"] []
  xc_WalkError : XCls K t.c_WalkError (([] : List Addr).map Value.ref ++ vBase)
  na_NoKey_key : NoAttr K t.c_NoKey "key"
  xc_NoKey : XCls K t.c_NoKey (([t.c_WalkError] : List Addr).map Value.ref ++ vBase)
  xi_NoKey : XIs K t.c_NoKey
  ini_NoKey : PySem.W.findIn K (.ref t.c_NoKey) "__init__" = some (some (.ref t.a_NoKey__init))
  inf_NoKey : PySem.W.isFn K (.ref t.a_NoKey__init) = true
  na_Twice_key : NoAttr K t.c_Twice "key"
  xc_Twice : XCls K t.c_Twice (([t.c_WalkError] : List Addr).map Value.ref ++ vBase)
  xi_Twice : XIs K t.c_Twice
  ini_Twice : PySem.W.findIn K (.ref t.c_Twice) "__init__" = some (some (.ref t.a_Twice__init))
  inf_Twice : PySem.W.isFn K (.ref t.a_Twice__init) = true
  na_Leaves_leaves : NoAttr K t.c_Leaves "leaves"
  cl_Leaves : Cls K t.c_Leaves
  mk_Leaves : Mk K t.c_Leaves t.a_Leaves__init
  me_Leaves_add : Meth K t.c_Leaves "add" t.a_Leaves__add
  me_Leaves_discard : Meth K t.c_Leaves "discard" t.a_Leaves__discard
  me_Leaves_has : Meth K t.c_Leaves "has" t.a_Leaves__has
  me_Leaves_many : Meth K t.c_Leaves "many" t.a_Leaves__many
  me_Leaves_from_on : Meth K t.c_Leaves "from_on" t.a_Leaves__from_on
  me_Leaves_down_from : Meth K t.c_Leaves "down_from" t.a_Leaves__down_from
  me_Leaves_leaf_of : Meth K t.c_Leaves "leaf_of" t.a_Leaves__leaf_of
  me_Leaves_part_leaf : Meth K t.c_Leaves "part_leaf" t.a_Leaves__part_leaf
  me_Leaves_join_small : Meth K t.c_Leaves "join_small" t.a_Leaves__join_small
  of_WalkError_init : OfCls K t.c_WalkError "__init__" (.builtin "ValueError.__init__")
  g_MOST_IN_LEAF : ∃ tk, mg "MOST_IN_LEAF" = some (.int 8 tk)
  g_LEAST_IN_TWO : ∃ tk, mg "LEAST_IN_TWO" = some (.int 5 tk)
  z_dict : mg "dict" = none
  z_isinstance : mg "isinstance" = none
  z_len : mg "len" = none
  z_list : mg "list" = none
  z_max : mg "max" = none
  z_min : mg "min" = none
  z_range : mg "range" = none
  z_reversed : mg "reversed" = none
  z_sorted : mg "sorted" = none
  z_sum : mg "sum" = none
theorem sc_NoKey__init : FnScope ["self", "key"] ["self", "key"] (defScope s_NoKey__init) := ⟨rfl, rfl, rfl, by decide +kernel, rfl, by decide +kernel, by decide +kernel⟩
theorem sc_Twice__init : FnScope ["self", "key"] ["self", "key"] (defScope s_Twice__init) := ⟨rfl, rfl, rfl, by decide +kernel, rfl, by decide +kernel, by decide +kernel⟩
theorem sc_Leaves__init : FnScope ["self"] ["self"] (defScope s_Leaves__init) := ⟨rfl, rfl, rfl, by decide +kernel, rfl, by decide +kernel, by decide +kernel⟩
theorem sc_Leaves__add : FnScope ["self", "key", "at", "leaf"] ["self", "key"] (defScope s_Leaves__add) := ⟨rfl, rfl, rfl, by decide +kernel, rfl, by decide +kernel, by decide +kernel⟩
theorem sc_Leaves__discard : FnScope ["self", "key", "at"] ["self", "key"] (defScope s_Leaves__discard) := ⟨rfl, rfl, rfl, by decide +kernel, rfl, by decide +kernel, by decide +kernel⟩
theorem sc_Leaves__has : FnScope ["self", "key", "at"] ["self", "key"] (defScope s_Leaves__has) := ⟨rfl, rfl, rfl, by decide +kernel, rfl, by decide +kernel, by decide +kernel⟩
theorem sc_Leaves__from_on : FnScope ["self", "key", "most", "told", "at"] ["self", "key", "most"] (defScope s_Leaves__from_on) := ⟨rfl, rfl, rfl, by decide +kernel, rfl, by decide +kernel, by decide +kernel⟩
theorem sc_Leaves__down_from : FnScope ["self", "key", "most", "told", "at"] ["self", "key", "most"] (defScope s_Leaves__down_from) := ⟨rfl, rfl, rfl, by decide +kernel, rfl, by decide +kernel, by decide +kernel⟩
theorem sc_Leaves__leaf_of : FnScope ["self", "key", "low", "high", "middle"] ["self", "key"] (defScope s_Leaves__leaf_of) := ⟨rfl, rfl, rfl, by decide +kernel, rfl, by decide +kernel, by decide +kernel⟩
theorem sc_Leaves__part_leaf : FnScope ["self", "at", "leaf", "middle"] ["self", "at"] (defScope s_Leaves__part_leaf) := ⟨rfl, rfl, rfl, by decide +kernel, rfl, by decide +kernel, by decide +kernel⟩
theorem sc_Leaves__join_small : FnScope ["self", "at", "both"] ["self", "at"] (defScope s_Leaves__join_small) := ⟨rfl, rfl, rfl, by decide +kernel, rfl, by decide +kernel, by decide +kernel⟩
theorem sc__law_cell_at : FnScope ["_law_script", "_law_k"] ["_law_script", "_law_k"] (defScope s__law_cell_at) := ⟨rfl, rfl, rfl, by decide +kernel, rfl, by decide +kernel, by decide +kernel⟩
theorem sc__law_drawn : FnScope ["_law_cell", "_law_k", "_law_number"] ["_law_cell", "_law_k"] (defScope s__law_drawn) := ⟨rfl, rfl, rfl, by decide +kernel, rfl, by decide +kernel, by decide +kernel⟩
theorem sc__law_draws : FnScope ["_law_cell", "_law_many", "_law_way", "_law_found", "_law_k"] ["_law_cell", "_law_many", "_law_way"] (defScope s__law_draws) := ⟨rfl, rfl, rfl, by decide +kernel, rfl, by decide +kernel, by decide +kernel⟩
theorem sc__law_begun : FnScope ["_law_script", "_law_way", "_law_cell", "_law_other", "_law_first"] ["_law_script", "_law_way"] (defScope s__law_begun) := ⟨rfl, rfl, rfl, by decide +kernel, rfl, by decide +kernel, by decide +kernel⟩
theorem sc__law_added : FnScope ["_law_told", "_law_kept", "_law_key"] ["_law_told", "_law_kept", "_law_key"] (defScope s__law_added) := ⟨rfl, rfl, rfl, by decide +kernel, rfl, by decide +kernel, by decide +kernel⟩
theorem sc__law_discarded : FnScope ["_law_told", "_law_kept", "_law_stayed", "_law_some", "_law_key"] ["_law_told", "_law_kept", "_law_stayed", "_law_some"] (defScope s__law_discarded) := ⟨rfl, rfl, rfl, by decide +kernel, rfl, by decide +kernel, by decide +kernel⟩
theorem sc__law_deed : FnScope ["_law_told", "_law_kept", "_law_stayed", "_law_draws_here", "_law_last", "_law_keys", "_law_way", "_law_near", "_law_key", "_law_j", "_law_at"] ["_law_told", "_law_kept", "_law_stayed", "_law_draws_here", "_law_last"] (defScope s__law_deed) := ⟨rfl, rfl, rfl, by decide +kernel, rfl, by decide +kernel, by decide +kernel⟩
theorem sc__law_up_right : FnScope ["_law_found", "_law_kept", "_law_last", "_law_most", "_law_end", "_law_key", "_law_between"] ["_law_found", "_law_kept", "_law_last", "_law_most"] (defScope s__law_up_right) := ⟨rfl, rfl, rfl, by decide +kernel, rfl, by decide +kernel, by decide +kernel⟩
theorem sc__law_down_right : FnScope ["_law_found", "_law_kept", "_law_last", "_law_most", "_law_end", "_law_key", "_law_below"] ["_law_found", "_law_kept", "_law_last", "_law_most"] (defScope s__law_down_right) := ⟨rfl, rfl, rfl, by decide +kernel, rfl, by decide +kernel, by decide +kernel⟩
theorem sc__law_walked : FnScope ["_law_told", "_law_kept", "_law_up", "_law_most", "_law_last", "_law_found"] ["_law_told", "_law_kept", "_law_up", "_law_most"] (defScope s__law_walked) := ⟨rfl, rfl, rfl, by decide +kernel, rfl, by decide +kernel, by decide +kernel⟩
theorem sc__law_fallen : FnScope ["_law_told", "_law_kept", "_law_down", "_law_most", "_law_last", "_law_found"] ["_law_told", "_law_kept", "_law_down", "_law_most"] (defScope s__law_fallen) := ⟨rfl, rfl, rfl, by decide +kernel, rfl, by decide +kernel, by decide +kernel⟩
theorem sc_law : FnScope ["_law_script", "_law_told", "_law_kept", "_law_way", "_law_key", "_law_stayed", "_law_up", "_law_down", "_law_cells", "_law_k", "_law_most", "_law_draws_here"] ["_law_script"] (defScope s_law) := ⟨rfl, rfl, rfl, by decide +kernel, rfl, by decide +kernel, by decide +kernel⟩
def Fr (F F' : Addr → Prop) (H H' : Hp) : Prop := ∀ b o, ¬ F b → H b = some o → H' b = some o ∧ ¬ F' b
theorem Fr.refl {F : Addr → Prop} {H : Hp} : Fr F F H H := fun _ _ n e => ⟨e, n⟩
theorem Fr.trans {F F' F'' : Addr → Prop} {H H' H'' : Hp} (x : Fr F F' H H') (y : Fr F' F'' H' H'') : Fr F F'' H H'' := fun b o n e => y b o (x b o n e).2 (x b o n e).1
theorem Fr.of_same {F : Addr → Prop} {H H' : Hp} (s : Same H H') : Fr F F H H' := fun b o n e => ⟨s b o e, n⟩
def liftK (kv : List (Int × V)) : List (Key × V) := kv.map fun p => (Sum.inl p.1, p.2)
theorem liftK_val {kv : List (Int × V)} {k : Int} : valV (liftK kv) (Sum.inl k : Key) = valV kv k := by
  induction kv with
  | nil => rfl
  | cons p r ih =>
    show valV ((Sum.inl p.1, p.2) :: liftK r) (Sum.inl k : Key) = _
    by_cases e : p.1 = k
    · rw [valV_pos e, valV_pos (by show (Sum.inl p.1 : Key) = _; rw [e])]
    · rw [valV_neg e, valV_neg (by show ¬ (Sum.inl p.1 : Key) = _; exact fun z => e (Sum.inl.inj z)), ih]
theorem liftK_any {kv : List (Int × V)} {k : Int} : ((liftK kv).any fun x => decide (x.1 = (Sum.inl k : Key))) = kv.any fun x => decide (x.1 = k) := by
  rw [valV_any, valV_any, liftK_val]
theorem liftK_put {kv : List (Int × V)} {k : Int} {v : V} : putK (liftK kv) (Sum.inl k : Key) v = liftK (putK kv k v) := by
  unfold putK
  rw [liftK_any]
  by_cases c : (kv.any fun x => decide (x.1 = k)) = true
  · rw [if_pos c, if_pos c]
    unfold liftK
    rw [List.map_map, List.map_map]
    refine List.map_congr_left fun p _ => ?_
    show (if (Sum.inl p.1 : Key) = Sum.inl k then _ else _) = _
    by_cases e : p.1 = k
    · rw [if_pos (by rw [e])]; simp [e]
    · rw [if_neg fun z => e (Sum.inl.inj z)]; simp [e]
  · rw [if_neg c, if_neg c]
    unfold liftK
    rw [List.map_append]
    rfl
theorem liftK_drop {kv : List (Int × V)} {k : Int} : dropK (liftK kv) (Sum.inl k : Key) = liftK (dropK kv k) := by
  unfold dropK liftK
  rw [List.filter_map]
  congr 1
  refine List.filter_congr fun p _ => ?_
  show decide ((Sum.inl p.1 : Key) ≠ Sum.inl k) = _
  by_cases e : p.1 = k
  · rw [e]; simp
  · have : ¬ (Sum.inl p.1 : Key) = Sum.inl k := fun z => e (Sum.inl.inj z)
    simp [e, this]
theorem liftK_len {kv : List (Int × V)} : (liftK kv).length = kv.length := List.length_map _
section
variable {κ : Type} [DecidableEq κ] {kv : List (κ × V)} {k j : κ} {v : V}
theorem valV_drop : ∀ {kv : List (κ × V)}, valV (dropK kv k) j = if j = k then none else valV kv j
  | [] => by
    show valV ([] : List (κ × V)) j = _
    rw [valV_nil]
    split <;> rfl
  | p :: r => by
    by_cases e : p.1 = k
    · rw [dropK_pos e, valV_drop]
      by_cases z : j = k
      · rw [if_pos z, if_pos z]
      · rw [if_neg z, if_neg z, valV_neg fun y => z (y.symm.trans e)]
    · rw [dropK_neg e]
      by_cases y : p.1 = j
      · rw [valV_pos y, valV_pos y, if_neg fun z => e (y.trans z)]
      · rw [valV_neg y, valV_neg y, valV_drop]
theorem mem_keys : ∀ {kv : List (κ × V)}, k ∈ kv.map (·.1) ↔ (valV kv k).isSome = true
  | [] => by simp [valV_nil]
  | p :: r => by
    by_cases e : p.1 = k
    · rw [valV_pos e]; simp [e]
    · rw [valV_neg e, ← mem_keys]
      simp [Ne.symm e]
theorem keys_put : (putK kv k v).map (·.1) = if (valV kv k).isSome = true then kv.map (·.1) else kv.map (·.1) ++ [k] := by
  unfold putK
  rw [valV_any]
  by_cases c : (valV kv k).isSome = true
  · rw [if_pos c, if_pos c, List.map_map]
    refine List.map_congr_left fun p _ => ?_
    show (if p.1 = k then (p.1, v) else p).1 = p.1
    split <;> rfl
  · rw [if_neg c, if_neg c, List.map_append]
    rfl
theorem nd_put (h : (kv.map (·.1)).Nodup) : ((putK kv k v).map (·.1)).Nodup := by
  cases e : valV kv k with
  | none => exact nd_putK v h e
  | some x => rw [keys_put, e]; exact h
theorem nodup_le : ∀ {l S : List κ}, l.Nodup → (∀ x ∈ l, x ∈ S) → l.length ≤ S.length
  | [], _, _, _ => Nat.zero_le _
  | x :: xs, S, hn, hs => by
    obtain ⟨h1, h2⟩ := List.nodup_cons.mp hn
    have hx : x ∈ S := hs x List.mem_cons_self
    have := nodup_le (S := S.erase x) h2 fun y hy => (List.mem_erase_of_ne fun z => h1 (by rw [← z]; exact hy)).mpr (hs y (List.mem_cons_of_mem _ hy))
    rw [List.length_erase_of_mem hx] at this
    have := List.length_pos_of_mem hx
    rw [List.length_cons]
    (clear h1; omega)
end
def SqF (K : PySem.W.Frag) (F : Addr → Prop) (H : Hp) (a : Addr) (xs : List V) : Prop := (Rd H a (.lst xs) ∧ ¬ F a) ∨ ∀ H', SqL K H' a xs
theorem SqF.sq {K : PySem.W.Frag} {F : Addr → Prop} {H : Hp} {a : Addr} {xs : List V} (h : SqF K F H a xs) : SqL K H a xs := by
  rcases h with h | h
  · exact .inl h.1
  · exact h H
theorem SqF.of {K : PySem.W.Frag} {F : Addr → Prop} {H : Hp} {a : Addr} {xs : List V} (h : SqL K H a xs) (n : ∀ o, H a = some o → ¬ F a) : SqF K F H a xs := by
  rcases h with h | h
  · rcases h with h | ⟨o, h⟩
    · exact .inl ⟨.inl h, n _ h⟩
    · exact .inl ⟨.inr ⟨o, h⟩, n _ h⟩
  · exact .inr fun _ => .inr h
theorem SqF.fr {K : PySem.W.Frag} {F F' : Addr → Prop} {H H' : Hp} {a : Addr} {xs : List V} (h : SqF K F H a xs) (f : Fr F F' H H') : SqF K F' H' a xs := by
  rcases h with ⟨h, n⟩ | h
  · rcases h with h | ⟨o, h⟩
    · exact .inl ⟨.inl (f _ _ n h).1, (f _ _ n h).2⟩
    · exact .inl ⟨.inr ⟨o, (f _ _ n h).1⟩, (f _ _ n h).2⟩
  · exact .inr h
theorem SqF.new {K : PySem.W.Frag} {F : Addr → Prop} {H : Hp} {a p : Addr} {o : HO} {xs : List V} (h : SqF K F H a xs) (n : H p = none) : SqF K F (upd H p o) a xs := h.fr (Fr.of_same (same_new n))
def Rise (l : List Int) : Prop := l.Pairwise (· < ·)
structure LvOk (ls : List (List Int)) : Prop where
  ne : ∀ l ∈ ls, l ≠ []
  le : ∀ l ∈ ls, l.length ≤ 8
  nb : ∀ (i : Nat) (x y : List Int), ls[i]? = some x → ls[i + 1]? = some y → 5 ≤ x.length + y.length
  up : Rise ls.flatten
theorem LvOk.nil : LvOk [] := ⟨(fun _ h => by cases h), (fun _ h => by cases h), (fun i x y e => by simp at e), List.Pairwise.nil⟩
theorem cut_at {ls : List (List Int)} {i : Nat} {x : List Int} (e : ls[i]? = some x) : ls = ls.take i ++ x :: ls.drop (i + 1) := by
  obtain ⟨h, e⟩ := List.getElem?_eq_some_iff.mp e
  rw [← e, ← List.drop_eq_getElem_cons h, List.take_append_drop]
theorem flat_at {ls : List (List Int)} {i : Nat} {x : List Int} (e : ls[i]? = some x) : ls.flatten = (ls.take i).flatten ++ (x ++ (ls.drop (i + 1)).flatten) := by
  conv => lhs; rw [cut_at e]
  rw [List.flatten_append, List.flatten_cons]
theorem rise3 {a b c : List Int} : Rise (a ++ (b ++ c)) ↔ Rise a ∧ Rise b ∧ Rise c ∧ (∀ x ∈ a, ∀ y ∈ b, x < y) ∧ (∀ x ∈ a, ∀ y ∈ c, x < y) ∧ ∀ x ∈ b, ∀ y ∈ c, x < y := by
  unfold Rise
  rw [List.pairwise_append, List.pairwise_append]
  constructor
  · rintro ⟨h1, ⟨h2, h3, h4⟩, h5⟩
    exact ⟨h1, h2, h3, fun x hx y hy => h5 x hx y (List.mem_append_left _ hy), fun x hx y hy => h5 x hx y (List.mem_append_right _ hy), h4⟩
  · rintro ⟨h1, h2, h3, h4, h5, h6⟩
    refine ⟨h1, ⟨h2, h3, h6⟩, fun x hx y hy => ?_⟩
    rcases List.mem_append.mp hy with z | z
    · exact h4 x hx y z
    · exact h5 x hx y z
structure LeafOf (ls : List (List Int)) (k : Int) (i : Nat) : Prop where
  le : i ≤ ls.length
  lo : ∀ (j : Nat) (x : List Int), j < i → ls[j]? = some x → ∀ y ∈ x, y < k
  hi : ∀ x, ls[i]? = some x → ∃ y ∈ x, k ≤ y
theorem take_mem {ls : List (List Int)} {i : Nat} {y : Int} (h : y ∈ (ls.take i).flatten) : ∃ (j : Nat) (x : List Int), j < i ∧ ls[j]? = some x ∧ y ∈ x := by
  obtain ⟨x, hx, hy⟩ := List.mem_flatten.mp h
  obtain ⟨j, hj, e⟩ := List.getElem_of_mem hx
  rw [List.length_take] at hj
  rw [List.getElem_take] at e
  exact ⟨j, x, by (clear e; omega), List.getElem?_eq_some_iff.mpr ⟨by (clear e; omega), e⟩, hy⟩
theorem LeafOf.ahead {ls : List (List Int)} {k : Int} {i : Nat} (h : LeafOf ls k i) : ∀ y ∈ (ls.take i).flatten, y < k := fun y hy => by
  obtain ⟨j, x, hj, e, hx⟩ := take_mem hy
  exact h.lo j x hj e y hx
theorem LeafOf.behind {ls : List (List Int)} {k : Int} {i : Nat} (o : LvOk ls) (h : LeafOf ls k i) : ∀ y ∈ (ls.drop (i + 1)).flatten, k < y := fun y hy => by
  cases e : ls[i]? with
  | none =>
    have : ls.length ≤ i := List.getElem?_eq_none_iff.mp e
    rw [List.drop_eq_nil_of_le (by (clear e; omega))] at hy
    cases hy
  | some x =>
    obtain ⟨z, hz, le⟩ := h.hi x e
    have up := o.up
    rw [flat_at e] at up
    have := (rise3.mp up).2.2.2.2.2 z hz y hy
    (clear e; omega)
theorem LeafOf.mem {ls : List (List Int)} {k : Int} {i : Nat} (o : LvOk ls) (h : LeafOf ls k i) : k ∈ ls.flatten ↔ ∃ x, ls[i]? = some x ∧ k ∈ x := by
  constructor
  · intro hk
    cases e : ls[i]? with
    | none =>
      have l : ls.length ≤ i := List.getElem?_eq_none_iff.mp e
      have : ls.take i = ls := List.take_of_length_le l
      have := h.ahead k (by rw [this]; exact hk)
      (clear l e; omega)
    | some x =>
      rw [flat_at e] at hk
      rcases List.mem_append.mp hk with z | z
      · have := h.ahead k z; (clear e; omega)
      · rcases List.mem_append.mp z with z | z
        · exact ⟨x, rfl, z⟩
        · have := h.behind o k z; (clear e; omega)
  · rintro ⟨x, e, hk⟩
    exact List.mem_flatten.mpr ⟨x, List.mem_of_getElem? e, hk⟩
theorem cut_rise : ∀ {l : List Int} {k : Int}, Rise l → k ∉ l → (∀ x ∈ l.take (l.filter (fun z => decide (z < k))).length, x < k) ∧ ∀ x ∈ l.drop (l.filter (fun z => decide (z < k))).length, k < x
  | [], k, _, _ => ⟨fun x h => by simp at h, fun x h => by simp at h⟩
  | a :: r, k, up, nk => by
    obtain ⟨h1, h2⟩ := List.pairwise_cons.mp up
    have nr : k ∉ r := fun z => nk (List.mem_cons_of_mem _ z)
    have na : a ≠ k := fun z => nk (by rw [z]; exact List.mem_cons_self)
    by_cases c : a < k
    · obtain ⟨i1, i2⟩ := cut_rise h2 nr
      rw [List.filter_cons, if_pos (by simpa using c), List.length_cons, List.take_succ_cons, List.drop_succ_cons]
      refine ⟨fun x hx => ?_, i2⟩
      rcases List.mem_cons.mp hx with rfl | hx
      · exact c
      · exact i1 x hx
    · have : (a :: r).filter (fun z => decide (z < k)) = [] := by
        rw [List.filter_eq_nil_iff]
        intro x hx
        rcases List.mem_cons.mp hx with rfl | hx
        · simpa using c
        · have := h1 x hx
          simp
          (clear na nr nk; omega)
      rw [this]
      refine ⟨fun x hx => by simp at hx, fun x hx => ?_⟩
      have hx : x ∈ a :: r := by simpa using hx
      rcases List.mem_cons.mp hx with rfl | hx
      · (clear this nk nr; omega)
      · have := h1 x hx; (clear na nr nk; omega)
def insL (l : List Int) (k : Int) : List Int := l.take (l.filter (fun z => decide (z < k))).length ++ k :: l.drop (l.filter (fun z => decide (z < k))).length
theorem insL_len {l : List Int} {k : Int} : (insL l k).length = l.length + 1 := by
  have h := List.length_filter_le (fun z => decide (z < k)) l
  unfold insL
  rw [List.length_append, List.length_cons, List.length_take, List.length_drop]
  (clear h; omega)
theorem insL_mem {l : List Int} {k x : Int} : x ∈ insL l k ↔ x = k ∨ x ∈ l := by
  unfold insL
  rw [List.mem_append, List.mem_cons]
  have : x ∈ l ↔ x ∈ l.take (l.filter (fun z => decide (z < k))).length ∨ x ∈ l.drop (l.filter (fun z => decide (z < k))).length := by
    rw [← List.mem_append, List.take_append_drop]
  rw [this]
  constructor
  · rintro (h | h | h)
    · exact .inr (.inl h)
    · exact .inl h
    · exact .inr (.inr h)
  · rintro (h | h | h)
    · exact .inr (.inl h)
    · exact .inl h
    · exact .inr (.inr h)
theorem insL_rise {l : List Int} {k : Int} (up : Rise l) (nk : k ∉ l) : Rise (insL l k) := by
  obtain ⟨h1, h2⟩ := cut_rise up nk
  have up' : Rise (l.take (l.filter (fun z => decide (z < k))).length ++ l.drop (l.filter (fun z => decide (z < k))).length) := by rw [List.take_append_drop]; exact up
  obtain ⟨u1, u2, u3⟩ := List.pairwise_append.mp up'
  unfold insL
  refine List.pairwise_append.mpr ⟨u1, List.pairwise_cons.mpr ⟨h2, u2⟩, fun x hx y hy => ?_⟩
  rcases List.mem_cons.mp hy with rfl | hy
  · exact h1 x hx
  · exact u3 x hx y hy
structure AddAt (ls : List (List Int)) (k : Int) (i : Nat) (x : List Int) : Prop where
  at_ : ls[i]? = some x
  lo : ∀ y ∈ (ls.take i).flatten, y < k
  hi : ∀ y ∈ (ls.drop (i + 1)).flatten, k < y
theorem LeafOf.add {ls : List (List Int)} {k : Int} {i : Nat} (o : LvOk ls) (h : LeafOf ls k i) (ne : ls ≠ []) : ∃ x, AddAt ls k (min i (ls.length - 1)) x := by
  have hl : 0 < ls.length := List.length_pos_iff.mpr ne
  by_cases c : i < ls.length
  · have : min i (ls.length - 1) = i := by (clear hl ne; omega)
    rw [this]
    exact ⟨ls[i], List.getElem?_eq_getElem c, h.ahead, h.behind o⟩
  · have le := h.le
    have : min i (ls.length - 1) = ls.length - 1 := by (clear le hl ne; omega)
    rw [this]
    have hlt : ls.length - 1 < ls.length := by (clear this le c ne; omega)
    refine ⟨ls[ls.length - 1], List.getElem?_eq_getElem hlt, fun y hy => ?_, fun y hy => ?_⟩
    · obtain ⟨j, x, hj, e, hx⟩ := take_mem hy
      exact h.lo j x (by (clear e hlt this le hl ne; omega)) e y hx
    · rw [List.drop_eq_nil_of_le (by (clear hlt this le c hl ne; omega))] at hy
      cases hy
theorem set_cut {ls : List (List Int)} {i : Nat} {x y : List Int} (e : ls[i]? = some x) : ls.set i y = ls.take i ++ y :: ls.drop (i + 1) := by
  have hi := (List.getElem?_eq_some_iff.mp e).1
  rw [List.set_eq_take_append_cons_drop, if_pos hi]
theorem set_flat {ls : List (List Int)} {i : Nat} {x y : List Int} (e : ls[i]? = some x) : (ls.set i y).flatten = (ls.take i).flatten ++ (y ++ (ls.drop (i + 1)).flatten) := by
  rw [set_cut e, List.flatten_append, List.flatten_cons]
theorem AddAt.set {ls : List (List Int)} {k : Int} {i : Nat} {x : List Int} (o : LvOk ls) (h : AddAt ls k i x) (nk : k ∉ ls.flatten) : Rise (ls.set i (insL x k)).flatten ∧ ∀ z, z ∈ (ls.set i (insL x k)).flatten ↔ z = k ∨ z ∈ ls.flatten := by
  have up := o.up
  rw [flat_at h.at_] at up nk
  obtain ⟨u1, u2, u3, u4, u5, u6⟩ := rise3.mp up
  have nx : k ∉ x := fun z => nk (List.mem_append_right _ (List.mem_append_left _ z))
  rw [set_flat h.at_, flat_at h.at_]
  refine ⟨rise3.mpr ⟨u1, insL_rise u2 nx, u3, fun a ha b hb => ?_, u5, fun a ha b hb => ?_⟩, fun z => ?_⟩
  · rcases insL_mem.mp hb with rfl | hb
    · exact h.lo a ha
    · exact u4 a ha b hb
  · rcases insL_mem.mp ha with rfl | ha
    · exact h.hi b hb
    · exact u6 a ha b hb
  · rw [List.mem_append, List.mem_append, List.mem_append, List.mem_append, insL_mem]
    constructor
    · rintro (h | (h | h) | h)
      · exact .inr (.inl h)
      · exact .inl h
      · exact .inr (.inr (.inl h))
      · exact .inr (.inr (.inr h))
    · rintro (h | h | h | h)
      · exact .inr (.inl (.inl h))
      · exact .inl h
      · exact .inr (.inl (.inr h))
      · exact .inr (.inr h)
theorem get_set {ls : List (List Int)} {i j : Nat} {x y z : List Int} (e : ls[i]? = some x) (f : (ls.set i y)[j]? = some z) : (i = j ∧ z = y) ∨ (i ≠ j ∧ ls[j]? = some z) := by
  rw [List.getElem?_set] at f
  by_cases c : i = j
  · rw [if_pos c] at f
    split at f
    · cases f; exact .inl ⟨c, rfl⟩
    · cases f
  · rw [if_neg c] at f
    exact .inr ⟨c, f⟩
theorem mem_set {ls : List (List Int)} {i : Nat} {x y z : List Int} (e : ls[i]? = some x) (h : z ∈ ls.set i y) : z = y ∨ z ∈ ls := by
  obtain ⟨j, hj, ez⟩ := List.getElem_of_mem h
  rcases get_set e (List.getElem?_eq_some_iff.mpr ⟨hj, ez⟩) with ⟨_, q⟩ | ⟨_, q⟩
  · exact .inl q
  · exact .inr (List.mem_of_getElem? q)
theorem LvOk.grown {ls : List (List Int)} {i : Nat} {x y : List Int} (o : LvOk ls) (e : ls[i]? = some x) (l1 : x.length ≤ y.length) (l2 : y.length ≤ 8) (up : Rise (ls.set i y).flatten) : LvOk (ls.set i y) := by
  have hx := o.ne x (List.mem_of_getElem? e)
  have px : 0 < x.length := List.length_pos_iff.mpr hx
  refine ⟨fun l hl => ?_, fun l hl => ?_, fun j a b f g => ?_, up⟩
  · rcases mem_set e hl with rfl | hl
    · exact List.ne_nil_of_length_pos (by (clear l2 hx e; omega))
    · exact o.ne l hl
  · rcases mem_set e hl with rfl | hl
    · exact l2
    · exact o.le l hl
  · rcases get_set e f with ⟨c, h1⟩ | ⟨c, f1⟩ <;> rcases get_set e g with ⟨c', h2⟩ | ⟨c', g1⟩
    · (clear h2 h1 g f px hx l2 l1 e; omega)
    · subst c
      have := o.nb i x b e g1
      rw [h1]
      (clear g1 c' g f h1 px hx l2 e; omega)
    · rw [c'] at e
      have := o.nb j a x f1 e
      rw [h2]
      (clear h2 c' f1 c g f e px hx l2; omega)
    · exact o.nb j a b f1 g1
theorem LvOk.parted {ls : List (List Int)} {i : Nat} {x a b : List Int} (o : LvOk ls) (e : ls[i]? = some x) (la : a.length = 4) (lb : b.length = 5) (up : Rise (ls.set i (a ++ b)).flatten) :
    LvOk ((ls.set i a).take (i + 1) ++ b :: (ls.set i a).drop (i + 1)) ∧ ((ls.set i a).take (i + 1) ++ b :: (ls.set i a).drop (i + 1)).flatten = (ls.set i (a ++ b)).flatten := by
  have hi := (List.getElem?_eq_some_iff.mp e).1
  have lt : (ls.take i).length = i := by rw [List.length_take]; (clear lb la e; omega)
  have e1 : (ls.set i a).take (i + 1) ++ b :: (ls.set i a).drop (i + 1) = ls.take i ++ a :: b :: ls.drop (i + 1) := by
    rw [set_cut (y := a) e]
    have h1 : (ls.take i ++ a :: ls.drop (i + 1)).take (i + 1) = ls.take i ++ [a] := by
      rw [List.take_append, lt, List.take_of_length_le (by (clear hi lb la e; omega))]
      have : i + 1 - i = 1 := by (clear lt hi lb la e; omega)
      rw [this]
      rfl
    have h2 : (ls.take i ++ a :: ls.drop (i + 1)).drop (i + 1) = ls.drop (i + 1) := by
      rw [List.drop_append, lt, List.drop_eq_nil_of_le (by (clear h1 hi lb la e; omega))]
      have : i + 1 - i = 1 := by (clear h1 lt hi lb la e; omega)
      rw [this]
      rfl
    rw [h1, h2, List.append_assoc]
    rfl
  have e2 : (ls.take i ++ a :: b :: ls.drop (i + 1)).flatten = (ls.set i (a ++ b)).flatten := by
    rw [set_flat e, List.flatten_append, List.flatten_cons, List.flatten_cons, List.append_assoc]
  rw [e1]
  refine ⟨⟨fun l hl => ?_, fun l hl => ?_, fun j p q f g => ?_, by rw [e2]; exact up⟩, e2⟩
  · rcases List.mem_append.mp hl with h | h
    · exact o.ne l (List.mem_of_mem_take h)
    · rcases List.mem_cons.mp h with rfl | h
      · exact List.ne_nil_of_length_pos (by (clear e2 e1 lt hi lb e; omega))
      · rcases List.mem_cons.mp h with rfl | h
        · exact List.ne_nil_of_length_pos (by (clear e2 e1 lt hi la e; omega))
        · exact o.ne l (List.mem_of_mem_drop h)
  · rcases List.mem_append.mp hl with h | h
    · exact o.le l (List.mem_of_mem_take h)
    · rcases List.mem_cons.mp h with rfl | h
      · (clear e2 e1 lt hi lb e; omega)
      · rcases List.mem_cons.mp h with rfl | h
        · (clear e2 e1 lt hi la e; omega)
        · exact o.le l (List.mem_of_mem_drop h)
  · have look : ∀ (j : Nat) (p : List Int), (ls.take i ++ a :: b :: ls.drop (i + 1))[j]? = some p → (j < i ∧ ls[j]? = some p) ∨ (j = i ∧ p = a) ∨ (j = i + 1 ∧ p = b) ∨ (i + 2 ≤ j ∧ ls[j - 1]? = some p) := fun j p f => by
      rw [List.getElem?_append, lt] at f
      split at f
      · rename_i c
        rw [List.getElem?_take, if_pos c] at f
        exact .inl ⟨c, f⟩
      · rename_i c
        rcases (show j = i ∨ j = i + 1 ∨ i + 2 ≤ j by (clear f g e2 e1 lt hi lb la e; omega)) with rfl | rfl | h
        · have : j - j = 0 := by (clear f c g e2 e1 lt hi e lb la; omega)
          rw [this] at f
          cases f
          exact .inr (.inl ⟨rfl, rfl⟩)
        · have : i + 1 - i = 1 := by (clear f c g e2 e1 lt hi lb la e; omega)
          rw [this] at f
          cases f
          exact .inr (.inr (.inl ⟨rfl, rfl⟩))
        · obtain ⟨n, rfl⟩ : ∃ n, j = i + 2 + n := ⟨j - (i + 2), by (clear f c g e2 e1 lt hi lb la e; omega)⟩
          have : i + 2 + n - i = n + 1 + 1 := by (clear h f c g e2 e1 lt hi lb la e; omega)
          rw [this, List.getElem?_cons_succ, List.getElem?_cons_succ, List.getElem?_drop] at f
          refine .inr (.inr (.inr ⟨h, ?_⟩))
          have : i + 2 + n - 1 = i + 1 + n := by (clear this h f c g e2 e1 lt hi lb la e; omega)
          rw [this]
          exact f
    have pos : ∀ (j : Nat) (p : List Int), ls[j]? = some p → 1 ≤ p.length := fun j p f => List.length_pos_iff.mpr (o.ne p (List.mem_of_getElem? f))
    rcases look j p f with ⟨c, f1⟩ | ⟨c, h1⟩ | ⟨c, h1⟩ | ⟨c, f1⟩ <;> rcases look (j + 1) q g with ⟨c', g1⟩ | ⟨c', h2⟩ | ⟨c', h2⟩ | ⟨c', g1⟩ <;> (try rw [h1]) <;> (try rw [h2]) <;> (try (clear g f e2 e1 lt hi e; omega))
    · exact o.nb j p q f1 g1
    · have := pos j p f1; (clear h2 c' f1 c g f e2 e1 lt hi lb e; omega)
    · have : j + 1 - 1 = j - 1 + 1 := by (clear g1 c' f1 g f e2 e1 lt hi lb la e; omega)
      rw [this] at g1
      exact o.nb (j - 1) p q f1 g1
def lvF (L : Addr) : List (Str × V) := [("leaves", .ref L)]
theorem lv_lk {L : Addr} : (lvF L).lookup ("leaves" : Str) = some (.ref L) := by
  have hb : (("leaves" : Str) == ("leaves" : Str)) = true := beq_iff_eq.mpr rfl
  unfold lvF
  simp only [List.lookup, hb]
theorem lv_no {L : Addr} {m : Str} (h : m ≠ ("leaves" : Str)) : (lvF L).lookup m = none := by
  have hb : (m == ("leaves" : Str)) = false := beq_eq_false_iff_ne.mpr h
  unfold lvF
  simp only [List.lookup, hb]
structure LvB (t : Adr) (H : Hp) (a L : Addr) (A : List Addr) (ls : List (List Int)) : Prop where
  obj : ∃ dx, H a = some (.ins t.c_Leaves dx (lvF L))
  lst : H L = some (.lst (A.map V.ref))
  len : A.length = ls.length
  leaf : ∀ (j : Nat) (b : Addr) (l : List Int), A[j]? = some b → ls[j]? = some l → H b = some (.lst (l.map V.int))
  inj : ∀ (i j : Nat) (b : Addr), A[i]? = some b → A[j]? = some b → i = j
  nL : L ∉ A
def LvF (a L : Addr) (A : List Addr) : Addr → Prop := fun b => b = a ∨ b = L ∨ b ∈ A
section
variable {t : Adr} {H H' : Hp} {a L b : Addr} {A : List Addr} {ls : List (List Int)}
theorem LvB.at (h : LvB t H a L A ls) {i : Nat} {x : List Int} (e : ls[i]? = some x) : ∃ c, A[i]? = some c ∧ H c = some (.lst (x.map V.int)) := by
  have hi : i < A.length := by rw [h.len]; exact (List.getElem?_eq_some_iff.mp e).1
  exact ⟨A[i], List.getElem?_eq_getElem hi, h.leaf i _ x (List.getElem?_eq_getElem hi) e⟩
theorem LvB.has (h : LvB t H a L A ls) (hb : b ∈ A) : ∃ (j : Nat) (l : List Int), A[j]? = some b ∧ ls[j]? = some l ∧ H b = some (.lst (l.map V.int)) := by
  obtain ⟨j, hj, e⟩ := List.getElem_of_mem hb
  have hc : j < ls.length := by rw [← h.len]; exact hj
  have e1 : A[j]? = some b := by rw [List.getElem?_eq_getElem hj, e]
  exact ⟨j, ls[j], e1, List.getElem?_eq_getElem hc, h.leaf j b _ e1 (List.getElem?_eq_getElem hc)⟩
theorem LvB.frame (h : LvB t H a L A ls) (f : ∀ b, LvF a L A b → H' b = H b) : LvB t H' a L A ls := by
  obtain ⟨dx, ho⟩ := h.obj
  exact ⟨⟨dx, by rw [f a (.inl rfl)]; exact ho⟩, by rw [f L (.inr (.inl rfl))]; exact h.lst, h.len, fun j b l e1 e2 => by rw [f b (.inr (.inr (List.mem_of_getElem? e1)))]; exact h.leaf j b l e1 e2, h.inj, h.nL⟩
theorem LvB.dom (h : LvB t H a L A ls) (hb : LvF a L A b) : ∃ o, H b = some o := by
  obtain ⟨dx, ho⟩ := h.obj
  rcases hb with rfl | rfl | hb
  · exact ⟨_, ho⟩
  · exact ⟨_, h.lst⟩
  · obtain ⟨_, _, _, _, q⟩ := h.has hb
    exact ⟨_, q⟩
theorem LvB.same (h : LvB t H a L A ls) (s : Same H H') : LvB t H' a L A ls := h.frame fun b hb => by
  obtain ⟨o, e⟩ := h.dom hb
  rw [e, s b o e]
theorem LvB.out (h : LvB t H a L A ls) {p : Addr} (n : H p = none) : ¬ LvF a L A p := fun z => by
  obtain ⟨o, e⟩ := h.dom z
  rw [n] at e
  cases e
theorem LvB.write (h : LvB t H a L A ls) {i : Nat} {c : Addr} {x y : List Int} (ec : A[i]? = some c) (ex : ls[i]? = some x) : LvB t (upd H c (.lst (y.map V.int))) a L A (ls.set i y) := by
  obtain ⟨dx, ho⟩ := h.obj
  have hc := h.leaf i c x ec ex
  have cA := List.mem_of_getElem? ec
  refine ⟨⟨dx, by rw [upd_ne (ne_of ho hc (by intro z; cases z))]; exact ho⟩, by rw [upd_ne (fun z => h.nL (by rw [z]; exact cA))]; exact h.lst, by rw [List.length_set]; exact h.len, fun j b l e1 e2 => ?_, h.inj, h.nL⟩
  rw [List.getElem?_set] at e2
  by_cases z : i = j
  · subst z
    rw [ec] at e1
    cases e1
    rw [if_pos rfl] at e2
    split at e2
    · cases e2; exact upd_same
    · cases e2
  · rw [if_neg z] at e2
    rw [upd_ne (fun y => z (h.inj i j c ec (by rw [← y]; exact e1)))]
    exact h.leaf j b l e1 e2
theorem LvB.swap (h : LvB t H a L A ls) {i : Nat} {c n : Addr} {x y : List Int} (ec : A[i]? = some c) (ex : ls[i]? = some x) (hn : H n = some (.lst (y.map V.int))) (nF : ¬ LvF a L A n) : LvB t (upd H L (.lst ((A.set i n).map V.ref))) a L (A.set i n) (ls.set i y) := by
  obtain ⟨dx, ho⟩ := h.obj
  have nA : n ∉ A := fun z => nF (.inr (.inr z))
  have nL : n ≠ L := fun z => nF (.inr (.inl z))
  refine ⟨⟨dx, by rw [upd_ne (ne_of ho h.lst (by intro z; cases z))]; exact ho⟩, upd_same, by rw [List.length_set, List.length_set]; exact h.len, fun j b l e1 e2 => ?_, fun j k b e1 e2 => ?_, fun z => ?_⟩
  · rw [List.getElem?_set] at e1 e2
    by_cases z : i = j
    · rw [if_pos z] at e1 e2
      split at e1
      · cases e1
        split at e2
        · cases e2
          rw [upd_ne nL]; exact hn
        · cases e2
      · cases e1
    · rw [if_neg z] at e1 e2
      rw [upd_ne (fun y => h.nL (by rw [← y]; exact List.mem_of_getElem? e1))]
      exact h.leaf j b l e1 e2
  · rw [List.getElem?_set] at e1 e2
    by_cases z : i = j
    · rw [if_pos z] at e1
      split at e1
      · cases e1
        by_cases w : i = k
        · exact z.symm.trans w
        · rw [if_neg w] at e2
          exact absurd (List.mem_of_getElem? e2) nA
      · cases e1
    · rw [if_neg z] at e1
      by_cases w : i = k
      · rw [if_pos w] at e2
        split at e2
        · cases e2
          exact absurd (List.mem_of_getElem? e1) nA
        · cases e2
      · rw [if_neg w] at e2
        exact h.inj j k b e1 e2
  · obtain ⟨j, hj, e⟩ := List.getElem_of_mem z
    have e1 := List.getElem?_eq_some_iff.mpr ⟨hj, e⟩
    rw [List.getElem?_set] at e1
    by_cases w : i = j
    · rw [if_pos w] at e1
      split at e1
      · cases e1; exact nL rfl
      · cases e1
    · rw [if_neg w] at e1
      exact h.nL (List.mem_of_getElem? e1)
theorem ins_get {α : Type} {l : List α} {i j : Nat} {x y : α} (hi : i ≤ l.length) (e : (l.take i ++ x :: l.drop i)[j]? = some y) : (j < i ∧ l[j]? = some y) ∨ (j = i ∧ y = x) ∨ (i < j ∧ l[j - 1]? = some y) := by
  have lt : (l.take i).length = i := by rw [List.length_take]; (clear e; omega)
  rw [List.getElem?_append, lt] at e
  split at e
  · rename_i c
    rw [List.getElem?_take, if_pos c] at e
    exact .inl ⟨c, e⟩
  · rename_i c
    rcases (show j = i ∨ i < j by (clear e lt hi; omega)) with rfl | h
    · have : j - j = 0 := by (clear e c lt hi; omega)
      rw [this] at e
      cases e
      exact .inr (.inl ⟨rfl, rfl⟩)
    · obtain ⟨n, rfl⟩ : ∃ n, j = i + 1 + n := ⟨j - (i + 1), by (clear e c lt hi; omega)⟩
      have : i + 1 + n - i = n + 1 := by (clear h e c lt hi; omega)
      rw [this, List.getElem?_cons_succ, List.getElem?_drop] at e
      have : i + 1 + n - 1 = i + n := by (clear this h e c lt hi; omega)
      exact .inr (.inr ⟨h, by rw [this]; exact e⟩)
theorem LvB.insert (h : LvB t H a L A ls) {i : Nat} {n : Addr} {y : List Int} (hi : i ≤ A.length) (hn : H n = some (.lst (y.map V.int))) (nF : ¬ LvF a L A n) :
    LvB t (upd H L (.lst ((A.take i ++ n :: A.drop i).map V.ref))) a L (A.take i ++ n :: A.drop i) (ls.take i ++ y :: ls.drop i) := by
  obtain ⟨dx, ho⟩ := h.obj
  have nA : n ∉ A := fun z => nF (.inr (.inr z))
  have nL : n ≠ L := fun z => nF (.inr (.inl z))
  have hi2 : i ≤ ls.length := by rw [← h.len]; exact hi
  refine ⟨⟨dx, by rw [upd_ne (ne_of ho h.lst (by intro z; cases z))]; exact ho⟩, upd_same, ?_, fun j b l e1 e2 => ?_, fun j k b e1 e2 => ?_, fun z => ?_⟩
  · have := h.len
    rw [List.length_append, List.length_append, List.length_cons, List.length_cons, List.length_take, List.length_take, List.length_drop, List.length_drop]
    (clear hi2 nL nA ho nF hn hi; omega)
  · rcases ins_get hi e1 with ⟨c1, f1⟩ | ⟨c1, f1⟩ | ⟨c1, f1⟩ <;> rcases ins_get hi2 e2 with ⟨c2, f2⟩ | ⟨c2, f2⟩ | ⟨c2, f2⟩ <;> (try (clear f2 f1 e2 e1 hi2 nL nA ho nF hn hi; omega))
    · rw [upd_ne (fun y => h.nL (by rw [← y]; exact List.mem_of_getElem? f1))]
      exact h.leaf j b l f1 f2
    · rw [f1, f2, upd_ne nL]; exact hn
    · rw [upd_ne (fun y => h.nL (by rw [← y]; exact List.mem_of_getElem? f1))]
      exact h.leaf (j - 1) b l f1 f2
  · rcases ins_get hi e1 with ⟨c1, f1⟩ | ⟨c1, f1⟩ | ⟨c1, f1⟩ <;> rcases ins_get hi e2 with ⟨c2, f2⟩ | ⟨c2, f2⟩ | ⟨c2, f2⟩
    · exact h.inj j k b f1 f2
    · rw [f2] at f1; exact absurd (List.mem_of_getElem? f1) nA
    · have := h.inj _ _ b f1 f2; (clear f2 f1 e2 e1 hi2 nL nA ho nF hn hi; omega)
    · rw [f1] at f2; exact absurd (List.mem_of_getElem? f2) nA
    · (clear f2 f1 e2 e1 hi2 nL nA ho nF hn hi; omega)
    · rw [f1] at f2; exact absurd (List.mem_of_getElem? f2) nA
    · have := h.inj _ _ b f1 f2; (clear f2 f1 e2 e1 hi2 nL nA ho nF hn hi; omega)
    · rw [f2] at f1; exact absurd (List.mem_of_getElem? f1) nA
    · have := h.inj _ _ b f1 f2; (clear f2 f1 e2 e1 hi2 nL nA ho nF hn hi; omega)
  · rcases List.mem_append.mp z with z | z
    · exact h.nL (List.mem_of_mem_take z)
    · rcases List.mem_cons.mp z with z | z
      · exact nL z.symm
      · exact h.nL (List.mem_of_mem_drop z)
theorem era_get {α : Type} {l : List α} {i j : Nat} {y : α} (e : (l.eraseIdx i)[j]? = some y) : (j < i ∧ l[j]? = some y) ∨ (i ≤ j ∧ l[j + 1]? = some y) := by
  rw [List.getElem?_eraseIdx] at e
  split at e
  · rename_i c; exact .inl ⟨c, e⟩
  · rename_i c; exact .inr ⟨by (clear e; omega), e⟩
theorem LvB.erase (h : LvB t H a L A ls) {i : Nat} : LvB t (upd H L (.lst ((A.eraseIdx i).map V.ref))) a L (A.eraseIdx i) (ls.eraseIdx i) := by
  obtain ⟨dx, ho⟩ := h.obj
  refine ⟨⟨dx, by rw [upd_ne (ne_of ho h.lst (by intro z; cases z))]; exact ho⟩, upd_same, ?_, fun j b l e1 e2 => ?_, fun j k b e1 e2 => ?_, fun z => h.nL (List.mem_of_mem_eraseIdx z)⟩
  · rw [List.length_eraseIdx, List.length_eraseIdx, h.len]
  · have bA : b ∈ A := List.mem_of_mem_eraseIdx (List.mem_of_getElem? e1)
    rw [upd_ne (fun y => h.nL (by rw [← y]; exact bA))]
    rcases era_get e1 with ⟨c1, f1⟩ | ⟨c1, f1⟩ <;> rcases era_get e2 with ⟨c2, f2⟩ | ⟨c2, f2⟩ <;> (try (clear f2 f1 e2 e1 ho; omega))
    · exact h.leaf j b l f1 f2
    · exact h.leaf (j + 1) b l f1 f2
  · rcases era_get e1 with ⟨c1, f1⟩ | ⟨c1, f1⟩ <;> rcases era_get e2 with ⟨c2, f2⟩ | ⟨c2, f2⟩
    · exact h.inj j k b f1 f2
    · have := h.inj _ _ b f1 f2; (clear f2 f1 e2 e1 ho; omega)
    · have := h.inj _ _ b f1 f2; (clear f2 f1 e2 e1 ho; omega)
    · have := h.inj _ _ b f1 f2; (clear f2 c2 f1 c1 e2 e1 ho; omega)
end
theorem rise_leaf {ls : List (List Int)} (up : Rise ls.flatten) {i j : Nat} {x y : List Int} (ex : ls[i]? = some x) (ey : ls[j]? = some y) (h : i < j) : ∀ p ∈ x, ∀ q ∈ y, p < q := fun p hp q hq => by
  rw [flat_at ex] at up
  refine (rise3.mp up).2.2.2.2.2 p hp q (List.mem_flatten.mpr ⟨y, ?_, hq⟩)
  refine List.mem_of_getElem? (i := j - (i + 1)) ?_
  rw [List.getElem?_drop]
  have : i + 1 + (j - (i + 1)) = j := by (clear ey ex; omega)
  rw [this]
  exact ey
theorem rise_in {ls : List (List Int)} (up : Rise ls.flatten) {i : Nat} {x : List Int} (ex : ls[i]? = some x) : Rise x := by
  rw [flat_at ex] at up
  exact (rise3.mp up).2.1
theorem last_max {x : List Int} (up : Rise x) (ne : x ≠ []) : ∃ m, x[x.length - 1]? = some m ∧ m ∈ x ∧ ∀ y ∈ x, y ≤ m := by
  have hl := List.length_pos_iff.mpr ne
  have hlt : x.length - 1 < x.length := by (clear ne; omega)
  refine ⟨x[x.length - 1], List.getElem?_eq_getElem hlt, List.getElem_mem hlt, fun y hy => ?_⟩
  obtain ⟨j, hj, e⟩ := List.getElem_of_mem hy
  rcases (show j = x.length - 1 ∨ j < x.length - 1 by (clear e hlt hl ne; omega)) with h | h
  · subst h; rw [e]; exact Int.le_refl _
  · have := List.pairwise_iff_getElem.mp up j (x.length - 1) hj hlt h
    rw [e] at this
    (clear h e hj hl ne; omega)
structure LvN (ls : List (List Int)) (E : Nat → Prop) : Prop where
  ne : ∀ l ∈ ls, l ≠ []
  le : ∀ l ∈ ls, l.length ≤ 8
  nb : ∀ (i : Nat) (x y : List Int), ls[i]? = some x → ls[i + 1]? = some y → E i ∨ 5 ≤ x.length + y.length
  up : Rise ls.flatten
theorem LvN.ok {ls : List (List Int)} {E : Nat → Prop} (h : LvN ls E) (no : ∀ i, ¬ E i) : LvOk ls := ⟨h.ne, h.le, fun i x y e1 e2 => (h.nb i x y e1 e2).resolve_left (no i), h.up⟩
def joinL (ls : List (List Int)) (i : Nat) : List (List Int) := match ls[i]?, ls[i + 1]? with
  | some x, some y => if x.length + y.length < 5 then (ls.set i (x ++ y)).eraseIdx (i + 1) else ls
  | _, _ => ls
theorem joinL_no {ls : List (List Int)} {i : Nat} (h : ls.length ≤ i + 1) : joinL ls i = ls := by
  unfold joinL
  have : ls[i + 1]? = none := List.getElem?_eq_none_iff.mpr h
  rw [this]
  split
  · rename_i h2; cases h2
  · rfl
theorem joinL_at {ls : List (List Int)} {i : Nat} {x y : List Int} (ex : ls[i]? = some x) (ey : ls[i + 1]? = some y) : joinL ls i = if x.length + y.length < 5 then (ls.set i (x ++ y)).eraseIdx (i + 1) else ls := by
  unfold joinL
  rw [ex, ey]
theorem joinL_len {ls : List (List Int)} {i : Nat} : (joinL ls i).length ≤ ls.length ∧ ls.length ≤ (joinL ls i).length + 1 := by
  unfold joinL
  split
  · split
    · rw [List.length_eraseIdx, List.length_set]
      split <;> omega
    · omega
  · omega
theorem join_get {ls : List (List Int)} {i j : Nat} {z v : List Int} (e : ((ls.set i z).eraseIdx (i + 1))[j]? = some v) : (j < i ∧ ls[j]? = some v) ∨ (j = i ∧ v = z) ∨ (i < j ∧ ls[j + 1]? = some v) := by
  rw [List.getElem?_eraseIdx] at e
  split at e
  · rename_i c
    rw [List.getElem?_set] at e
    by_cases h : i = j
    · rw [if_pos h] at e
      split at e
      · cases e; exact .inr (.inl ⟨h.symm, rfl⟩)
      · cases e
    · rw [if_neg h] at e
      exact .inl ⟨by (clear e; omega), e⟩
  · rename_i c
    rw [List.getElem?_set, if_neg (by (clear e; omega))] at e
    exact .inr (.inr ⟨by (clear e; omega), e⟩)
theorem join_flat {ls : List (List Int)} {i : Nat} {x y : List Int} (ex : ls[i]? = some x) (ey : ls[i + 1]? = some y) : ((ls.set i (x ++ y)).eraseIdx (i + 1)).flatten = ls.flatten := by
  have hi := (List.getElem?_eq_some_iff.mp ex).1
  have lt : (ls.take i).length = i := by rw [List.length_take]; (clear ey ex; omega)
  have hy : ls.drop (i + 1) = y :: ls.drop (i + 2) := by
    obtain ⟨h, e⟩ := List.getElem?_eq_some_iff.mp ey
    rw [← e, ← List.drop_eq_getElem_cons h]
  have e1 : (ls.set i (x ++ y)).eraseIdx (i + 1) = ls.take i ++ (x ++ y) :: ls.drop (i + 2) := by
    rw [set_cut ex, hy, List.eraseIdx_append_of_length_le (by (clear hy hi ey ex; omega)), lt]
    have : i + 1 - i = 1 := by (clear hy lt hi ey ex; omega)
    rw [this]
    rfl
  rw [e1, flat_at ex, hy, List.flatten_append, List.flatten_cons, List.flatten_cons, List.append_assoc]
theorem LvN.join {ls : List (List Int)} {E : Nat → Prop} {i : Nat} (h : LvN ls E) (hE : ∀ j, E j → j = i ∨ j + 1 = i) : LvN (joinL ls i) (fun j => j + 1 = i ∧ E j) ∧ (joinL ls i).flatten = ls.flatten := by
  cases ex : ls[i]? with
  | none =>
    have hl : ls.length ≤ i := List.getElem?_eq_none_iff.mp ex
    rw [joinL_no (by (clear ex; omega))]
    refine ⟨⟨h.ne, h.le, fun j x y e1 e2 => ?_, h.up⟩, rfl⟩
    rcases h.nb j x y e1 e2 with z | z
    · rcases hE j z with rfl | w
      · rw [ex] at e1; cases e1
      · exact .inl ⟨w, z⟩
    · exact .inr z
  | some x =>
    cases ey : ls[i + 1]? with
    | none =>
      have hl : ls.length ≤ i + 1 := List.getElem?_eq_none_iff.mp ey
      rw [joinL_no hl]
      refine ⟨⟨h.ne, h.le, fun j x' y e1 e2 => ?_, h.up⟩, rfl⟩
      rcases h.nb j x' y e1 e2 with z | z
      · rcases hE j z with rfl | w
        · rw [ey] at e2; cases e2
        · exact .inl ⟨w, z⟩
      · exact .inr z
    | some y =>
      rw [joinL_at ex ey]
      by_cases c : x.length + y.length < 5
      · rw [if_pos c]
        have fl := join_flat ex ey
        have mem : ∀ v ∈ (ls.set i (x ++ y)).eraseIdx (i + 1), v = x ++ y ∨ v ∈ ls := fun v hv => by
          obtain ⟨j, hj, e⟩ := List.getElem_of_mem hv
          rcases join_get (List.getElem?_eq_some_iff.mpr ⟨hj, e⟩) with ⟨_, q⟩ | ⟨_, q⟩ | ⟨_, q⟩
          · exact .inr (List.mem_of_getElem? q)
          · exact .inl q
          · exact .inr (List.mem_of_getElem? q)
        have px := List.length_pos_iff.mpr (h.ne x (List.mem_of_getElem? ex))
        have lxy : (x ++ y).length = x.length + y.length := List.length_append
        refine ⟨⟨fun v hv => ?_, fun v hv => ?_, fun j u v e1 e2 => ?_, by rw [fl]; exact h.up⟩, fl⟩
        · rcases mem v hv with rfl | q
          · exact List.ne_nil_of_length_pos (by (clear fl c ey ex; omega))
          · exact h.ne v q
        · rcases mem v hv with rfl | q
          · (clear px fl ey ex; omega)
          · exact h.le v q
        · rcases join_get e1 with ⟨c1, f1⟩ | ⟨c1, f1⟩ | ⟨c1, f1⟩ <;> rcases join_get e2 with ⟨c2, f2⟩ | ⟨c2, f2⟩ | ⟨c2, f2⟩ <;> (try (clear f2 f1 e2 e1 lxy px fl c ey ex; omega))
          · rcases h.nb j u v f1 f2 with z | z
            · rcases hE j z with w | w
              · (clear f2 c2 f1 e2 e1 lxy px fl c ey ex; omega)
              · (clear f2 f1 c1 e2 e1 lxy px fl c ey ex; omega)
            · exact .inr z
          · rcases h.nb j u x f1 (by rw [c2]; exact ex) with z | z
            · exact .inl ⟨c2, z⟩
            · rw [f2]; exact .inr (by (clear f2 c2 f1 c1 e2 e1 px fl c ey ex; omega))
          · have e3 : ls[i + 1 + 1]? = some v := by rw [← c1]; exact f2
            rcases h.nb (i + 1) y v ey e3 with z | z
            · rcases hE (i + 1) z with w | w <;> (clear e3 f2 c2 f1 c1 e2 e1 lxy px fl c ey ex; omega)
            · rw [f1]; exact .inr (by (clear e3 f2 c2 f1 c1 e2 e1 px fl c ey ex; omega))
          · rcases h.nb (j + 1) u v f1 f2 with z | z
            · rcases hE (j + 1) z with w | w <;> (clear f2 c2 f1 e2 e1 lxy px fl c ey ex; omega)
            · exact .inr z
      · rw [if_neg c]
        refine ⟨⟨h.ne, h.le, fun j u v e1 e2 => ?_, h.up⟩, rfl⟩
        rcases h.nb j u v e1 e2 with z | z
        · rcases hE j z with w | w
          · subst w
            rw [ex] at e1
            rw [ey] at e2
            cases e1; cases e2
            exact .inr (by (clear ey ex; omega))
          · exact .inl ⟨w, z⟩
        · exact .inr z
theorem nodup_rise {l : List Int} (h : Rise l) : l.Nodup := h.imp fun h => Int.ne_of_lt h
theorem LvOk.gone {ls : List (List Int)} {i : Nat} {x : List Int} {k : Int} (o : LvOk ls) (ex : ls[i]? = some x) (hk : k ∈ x) : Rise (ls.set i (x.erase k)).flatten ∧ ∀ z, z ∈ (ls.set i (x.erase k)).flatten ↔ z ≠ k ∧ z ∈ ls.flatten := by
  have up := o.up
  rw [flat_at ex] at up
  obtain ⟨u1, u2, u3, u4, u5, u6⟩ := rise3.mp up
  have sub : (x.erase k).Sublist x := List.erase_sublist
  have nx := nodup_rise u2
  rw [set_flat ex, flat_at ex]
  refine ⟨rise3.mpr ⟨u1, u2.sublist sub, u3, fun a ha b hb => u4 a ha b (sub.subset hb), u5, fun a ha b hb => u6 a (sub.subset ha) b hb⟩, fun z => ?_⟩
  rw [List.mem_append, List.mem_append, List.mem_append, List.mem_append, nx.mem_erase_iff]
  constructor
  · rintro (h | ⟨h1, h2⟩ | h)
    · have := u4 z h k hk
      exact ⟨by (clear ex; omega), .inl h⟩
    · exact ⟨h1, .inr (.inl h2)⟩
    · have := u6 k hk z h
      exact ⟨by (clear ex; omega), .inr (.inr h)⟩
  · rintro ⟨h0, h | h | h⟩
    · exact .inl h
    · exact .inr (.inl ⟨h0, h⟩)
    · exact .inr (.inr h)
theorem LvOk.shrunk {ls : List (List Int)} {i : Nat} {x y : List Int} (o : LvOk ls) (ex : ls[i]? = some x) (ny : y ≠ []) (ly : y.length ≤ x.length) (up : Rise (ls.set i y).flatten) : LvN (ls.set i y) (fun j => j = i ∨ j + 1 = i) := by
  have hx := o.le x (List.mem_of_getElem? ex)
  refine ⟨fun l hl => ?_, fun l hl => ?_, fun j a b f g => ?_, up⟩
  · rcases mem_set ex hl with rfl | hl
    · exact ny
    · exact o.ne l hl
  · rcases mem_set ex hl with rfl | hl
    · (clear ny ex; omega)
    · exact o.le l hl
  · rcases get_set ex f with ⟨c, _⟩ | ⟨c, f1⟩
    · exact .inl (.inl c.symm)
    · rcases get_set ex g with ⟨c', _⟩ | ⟨c', g1⟩
      · exact .inl (.inr c'.symm)
      · exact .inr (o.nb j a b f1 g1)
theorem LvOk.out {ls : List (List Int)} {i : Nat} {x : List Int} (o : LvOk ls) (ex : ls[i]? = some x) (lx : x.length = 1) (up : Rise (ls.set i []).flatten) : LvOk (ls.eraseIdx i) ∧ (ls.eraseIdx i).flatten = (ls.set i []).flatten := by
  have hi := (List.getElem?_eq_some_iff.mp ex).1
  have lt : (ls.take i).length = i := by rw [List.length_take]; (clear lx ex; omega)
  have e1 : ls.eraseIdx i = ls.take i ++ ls.drop (i + 1) := List.eraseIdx_eq_take_drop_succ _ _
  have fl : (ls.eraseIdx i).flatten = (ls.set i []).flatten := by
    rw [e1, set_flat ex, List.flatten_append]
    rfl
  refine ⟨⟨fun l hl => o.ne l (List.mem_of_mem_eraseIdx hl), fun l hl => o.le l (List.mem_of_mem_eraseIdx hl), fun j a b f g => ?_, by rw [fl]; exact up⟩, fl⟩
  rcases era_get f with ⟨c1, f1⟩ | ⟨c1, f1⟩ <;> rcases era_get g with ⟨c2, g1⟩ | ⟨c2, g1⟩
  · exact o.nb j a b f1 g1
  · have e2 : j + 1 = i := by (clear g1 f1 g f fl e1 lt hi lx ex; omega)
    subst e2
    have h1 := o.nb j a x f1 ex
    have h2 := o.nb (j + 1) x b ex g1
    (clear c2 c1 g f fl e1 lt hi ex g1 f1; omega)
  · (clear g1 f1 g f fl e1 lt hi lx ex; omega)
  · exact o.nb (j + 1) a b f1 g1
def LvA (_K : PySem.W.Frag) (t : Adr) (H : Hp) (a : Addr) (F : Addr → Prop) (ks : List Int) : Prop := ∃ L A ls, LvB t H a L A ls ∧ LvOk ls ∧ ls.flatten = ks ∧ ∀ b, F b ↔ LvF a L A b
section
variable {K : PySem.W.Frag} {t : Adr} {H H' : Hp} {a b p : Addr} {F : Addr → Prop} {ks : List Int} {o : HO}
theorem LvA.ins (h : LvA K t H a F ks) : ∃ dx fs, H a = some (.ins t.c_Leaves dx fs) ∧ ∀ m, m ≠ ("leaves" : Str) → fs.lookup m = none := by
  obtain ⟨L, A, ls, hb, _⟩ := h
  obtain ⟨dx, ho⟩ := hb.obj
  exact ⟨dx, _, ho, fun m hm => lv_no hm⟩
theorem LvA.dom (h : LvA K t H a F ks) (hb : F b) : ∃ o, H b = some o := by
  obtain ⟨L, A, ls, h1, _, _, h2⟩ := h
  exact h1.dom ((h2 b).mp hb)
theorem LvA.frame (h : LvA K t H a F ks) (f : ∀ b, F b → H' b = H b) : LvA K t H' a F ks := by
  obtain ⟨L, A, ls, h1, h3, h4, h2⟩ := h
  exact ⟨L, A, ls, h1.frame fun b hb => f b ((h2 b).mpr hb), h3, h4, h2⟩
theorem LvA.same (h : LvA K t H a F ks) (s : Same H H') : LvA K t H' a F ks := h.frame fun b hb => by
  obtain ⟨o, e⟩ := h.dom hb
  rw [e]
  exact s b o e
theorem LvA.out (h : LvA K t H a F ks) (e : H p = none) : ¬ F p := fun z => by
  obtain ⟨o, q⟩ := h.dom z
  rw [q] at e
  cases e
theorem LvA.upd (h : LvA K t H a F ks) (e : ¬ F p) : LvA K t (L2.upd H p o) a F ks := h.frame fun b hb => upd_ne fun z => e (z ▸ hb)
theorem LvA.new (h : LvA K t H a F ks) (e : H p = none) : LvA K t (L2.upd H p o) a F ks := h.upd (h.out e)
end
def RsL (K : PySem.W.Frag) (t : Adr) (a : Addr) (F : Addr → Prop) (ks : List Int) (H : Hp) (C : Addr) (fs : List (Str × V)) (E : XK) : Prop :=
  ∀ (ea : Addr) (od : Option Addr) (H' : Hp) (F' : Addr → Prop), ExcAt H' ea od C fs → LvA K t H' a F' ks → Fr F F' H H' → E (.ref ea) od H'
def sp_Leaves__init (K : PySem.W.Frag) (t : Adr) : Sp := fun vs H Q _ => ∃ (a dx : Addr), vs = [.ref a] ∧ H a = some (.ins t.c_Leaves dx []) ∧ H dx = some (.own a) ∧ ∀ H' F, LvA K t H' a F [] → Fr (fun b => b = a ∨ b = dx) F H H' → Q .non H'
def sp_Leaves__has (K : PySem.W.Frag) (t : Adr) : Sp := fun vs H Q _ => ∃ (a : Addr) (k : Int) (F : Addr → Prop) (ks : List Int), vs = [.ref a, .int k] ∧ LvA K t H a F ks ∧ ∀ H' F', LvA K t H' a F' ks → Fr F F' H H' → Q (.bl (decide (k ∈ ks))) H'
def sp_Leaves__add (K : PySem.W.Frag) (t : Adr) : Sp := fun vs H Q E => ∃ (a : Addr) (k : Int) (F : Addr → Prop) (ks : List Int), vs = [.ref a, .int k] ∧ LvA K t H a F ks ∧ ks.length < 4096 ∧
  (k ∉ ks → ∀ H' F' ks', LvA K t H' a F' ks' → (∀ z, z ∈ ks' ↔ z = k ∨ z ∈ ks) → Fr F F' H H' → Q .non H') ∧ (k ∈ ks → RsL K t a F ks H t.c_Twice [("key", .int k)] E)
def sp_Leaves__discard (K : PySem.W.Frag) (t : Adr) : Sp := fun vs H Q E => ∃ (a : Addr) (k : Int) (F : Addr → Prop) (ks : List Int), vs = [.ref a, .int k] ∧ LvA K t H a F ks ∧ ks.length < 4096 ∧
  (k ∈ ks → ∀ H' F' ks', LvA K t H' a F' ks' → (∀ z, z ∈ ks' ↔ z ≠ k ∧ z ∈ ks) → Fr F F' H H' → Q .non H') ∧ (k ∉ ks → RsL K t a F ks H t.c_NoKey [("key", .int k)] E)
theorem LvOk.short {ls : List (List Int)} (o : LvOk ls) : ls.length ≤ ls.flatten.length := by
  have h := o.ne
  clear o
  induction ls with
  | nil => exact Nat.le_refl _
  | cons x r ih =>
    have := List.length_pos_iff.mpr (h x List.mem_cons_self)
    have := ih fun l hl => h l (List.mem_cons_of_mem _ hl)
    rw [List.flatten_cons, List.length_append, List.length_cons]
    omega
def sp_Leaves__from_on (K : PySem.W.Frag) (t : Adr) : Sp := fun vs H Q _ => ∃ (a : Addr) (k n : Int) (F : Addr → Prop) (ks : List Int), vs = [.ref a, .int k, .int n] ∧ LvA K t H a F ks ∧ ks.length < 4096 ∧ 0 ≤ n ∧
  ∀ (H' : Hp) (l : Addr), Same H H' → H l = none → H' l = some (.lst (((ks.filter fun z => decide (k ≤ z)).take n.toNat).map V.int)) → Q (.ref l) H'
theorem cut_take {xs : List V} {n : Int} (h : 0 ≤ n) : cutV xs none (some n) = xs.take n.toNat := by
  unfold cutV HT.sIx
  simp only [List.drop_zero, Nat.sub_zero]
  rw [if_neg (by omega)]
  rcases Nat.le_total n.toNat xs.length with c | c
  · rw [Nat.min_eq_left c]
  · rw [Nat.min_eq_right c, List.take_length, List.take_of_length_le c]
theorem from_flat {ls : List (List Int)} {k : Int} {i0 : Nat} (o : LvOk ls) (h : LeafOf ls k i0) : ∀ z ∈ (ls.take i0).flatten, ¬ k ≤ z := fun z hz => by
  have := h.ahead z hz
  omega
def okDn (k : Option Int) (z : Int) : Bool := match k with | none => true | some k => decide (z ≤ k)
def vDn : Option Int → V | none => .non | some k => .int k
def sp_Leaves__down_from (K : PySem.W.Frag) (t : Adr) : Sp := fun vs H Q _ => ∃ (a : Addr) (k : Option Int) (n : Int) (F : Addr → Prop) (ks : List Int), vs = [.ref a, vDn k, .int n] ∧ LvA K t H a F ks ∧ ks.length < 4096 ∧ 0 ≤ n ∧
  ∀ (H' : Hp) (l : Addr), Same H H' → H l = none → H' l = some (.lst (((ks.reverse.filter (okDn k)).take n.toNat).map V.int)) → Q (.ref l) H'
theorem small1e5 {n : Nat} (h : n ≤ 100000) : n < sizeLine := Nat.lt_of_le_of_lt h (by decide)
section
variable {P : Program} {w : World} {K : PySem.W.Frag} {mg : Str → Option Value} {base : Heap} {t : Adr}
def spKeyX (K : PySem.W.Frag) : Sp := fun vs H Q _ => ∃ (e C : Addr) (bm : List Value) (x : V), vs = [.ref e, x] ∧ H e = some (XN e C none) ∧ XCls K C bm ∧ NoAttr K C "key" ∧ ∀ dx, H dx = none → Q .non (upd (upd H dx (.xd [("key", x)])) e (XN e C (some dx)))
def sp_NoKey__init (K : PySem.W.Frag) : Sp := spKeyX K
def sp_Twice__init (K : PySem.W.Frag) : Sp := spKeyX K
theorem ok_NoKey__init (T : Txt K mg t) : FnOk P w K mg base CX0 1 t.a_NoKey__init t.d_NoKey__init ["self", "key"] (sp_NoKey__init K) := by
  refine T.F_NoKey__init.ok sc_NoKey__init (fun vs H Q E h => ?_) (fun cdv A outer s H vs Q E hr h => ?_)
  · obtain ⟨e, C, bm, x, rfl, _⟩ := h
    rfl
  · obtain ⟨e, C, bm, x, rfl, he, Y, na, k⟩ := h
    refine ⟨_, (pss_cons (ps_expr (pe_base (by rfl) T.mg_WalkError T.of_WalkError_init (pa_cons (pv 0) (pa_cons pe_str pa_nil))))
          (pss_one (ps_fldX (pv 0) (pv 1) rfl)))
      , ?_⟩
    exact ⟨_, rfl, e, C, none, _, bm, rfl, (by show 1 ≤ 1000; decide), he, Y, _, rfl, _, rfl, e, C, bm, rfl, he, Y, na, fun dx nd => k dx nd⟩
theorem ok_Twice__init (T : Txt K mg t) : FnOk P w K mg base CX0 1 t.a_Twice__init t.d_Twice__init ["self", "key"] (sp_Twice__init K) := by
  refine T.F_Twice__init.ok sc_Twice__init (fun vs H Q E h => ?_) (fun cdv A outer s H vs Q E hr h => ?_)
  · obtain ⟨e, C, bm, x, rfl, _⟩ := h
    rfl
  · obtain ⟨e, C, bm, x, rfl, he, Y, na, k⟩ := h
    refine ⟨_, (pss_cons (ps_expr (pe_base (by rfl) T.mg_WalkError T.of_WalkError_init (pa_cons (pv 0) (pa_cons pe_str pa_nil))))
          (pss_one (ps_fldX (pv 0) (pv 1) rfl)))
      , ?_⟩
    exact ⟨_, rfl, e, C, none, _, bm, rfl, (by show 1 ≤ 1000; decide), he, Y, _, rfl, _, rfl, e, C, bm, rfl, he, Y, na, fun dx nd => k dx nd⟩
theorem raise_key {E E' : XK} {H : Hp} {C : Addr} {bm : List Value} {x : V} {i : Nat} (Y : XCls K C bm) (na : NoAttr K C "key") (r : ∀ (ea : Addr) (od : Option Addr) (H' : Hp), ExcAt H' ea od C [("key", x)] → Same H H' → E (.ref ea) od H') {σ : St} {D : Ends} (hi : σ[i]? = some (some x)) :
    sRaise K (tMakeX C (spKeyX K) [] E' (tCons (tVar i) tNil)) E D σ H := by
  refine ⟨x, hi, (by show 1 ≤ 1000; decide), fun ea nea => ⟨ea, C, bm, x, rfl, upd_same, Y, na, fun dx nd => ⟨rfl, ea, C, some dx, bm, rfl, upd_same, Y, ?_⟩⟩⟩
  rw [upd_upd]
  have ne : dx ≠ ea := (ne_of_none upd_same nd).symm
  have nH : H dx = none := by rw [upd_ne ne] at nd; exact nd
  refine r ea (some dx) _ ⟨upd_same, .inr ⟨dx, rfl, by rw [upd_ne ne, upd_same]⟩⟩ fun b o q => ?_
  rw [upd_ne (ne_of_none q nea), upd_ne (ne_of_none q nH), upd_ne (ne_of_none q nea)]
  exact q
theorem mapR_at {A : List Addr} {j : Nat} {c : Addr} (e : A[j]? = some c) : atI (A.map V.ref) (j : Int) = some (.ref c) := by
  refine atI_nat ?_
  rw [List.getElem?_map, e]
  rfl
theorem at_last {x : List Int} {m : Int} (ne : x ≠ []) (e : x[x.length - 1]? = some m) : atI (x.map V.int) (-1) = some (.int m) := by
  have hl := List.length_pos_iff.mpr ne
  unfold atI ixN
  rw [List.length_map, if_neg (by decide), if_pos (by (clear e ne; omega))]
  show (x.map V.int)[((-1 : Int) + (x.length : Int)).toNat]? = _
  have : ((-1 : Int) + (x.length : Int)).toNat = x.length - 1 := by (clear hl e ne; omega)
  rw [this, List.getElem?_map, e]
  rfl
theorem ix_natL {A : List Addr} {i : Nat} (h : i < A.length) : ixN (A.map V.ref).length (i : Int) = some i := by
  unfold ixN
  rw [if_pos (by (clear h; omega)), if_pos (by rw [List.length_map]; omega)]
  rfl
theorem erase_mapR : ∀ (A : List Addr) (i : Nat), (A.map V.ref).eraseIdx i = (A.eraseIdx i).map V.ref
  | [], _ => rfl
  | _ :: _, 0 => rfl
  | a :: r, i + 1 => by
    show V.ref a :: (r.map V.ref).eraseIdx i = V.ref a :: (r.eraseIdx i).map V.ref
    rw [erase_mapR r i]
theorem erase_set : ∀ (ls : List (List Int)) (i : Nat) (y : List Int), (ls.set i y).eraseIdx i = ls.eraseIdx i
  | [], _, _ => rfl
  | _ :: _, 0, _ => rfl
  | x :: r, i + 1, y => by
    show x :: (r.set i y).eraseIdx i = x :: r.eraseIdx i
    rw [erase_set r i y]
def WLeaf (a : Addr) (k : Int) (ls : List (List Int)) (H : Hp) : Nat → St → Hp → Prop := fun m σ H' => ∃ (lo hi : Nat) (v4 : Option V), m = hi - lo ∧ H' = H ∧ σ = [some (.ref a), some (.int k), some (.int (lo : Int)), some (.int (hi : Int)), v4] ∧ lo ≤ hi ∧ hi ≤ ls.length ∧
  (∀ (j : Nat) (x : List Int), j < lo → ls[j]? = some x → ∀ y ∈ x, y < k) ∧ ∀ (j : Nat) (x : List Int), hi ≤ j → ls[j]? = some x → ∃ y ∈ x, k ≤ y
def sp_Leaves__leaf_of (t : Adr) : Sp := fun vs H Q _ => ∃ (a : Addr) (k : Int) (L : Addr) (A : List Addr) (ls : List (List Int)), vs = [.ref a, .int k] ∧ LvB t H a L A ls ∧ (∀ l ∈ ls, l ≠ []) ∧ Rise ls.flatten ∧ ∀ i : Nat, LeafOf ls k i → Q (.int (i : Int)) H
theorem ok_Leaves__leaf_of (T : Txt K mg t) : FnOk P w K mg base CX0 1 t.a_Leaves__leaf_of t.d_Leaves__leaf_of ["self", "key"] (sp_Leaves__leaf_of t) := by
  refine T.F_Leaves__leaf_of.ok sc_Leaves__leaf_of (fun vs H Q E h => ?_) (fun cdv A outer s H vs Q E hr h => ?_)
  · obtain ⟨a, k, L, A, ls, rfl, _⟩ := h
    rfl
  · obtain ⟨a, k, L, A, ls, rfl, hb, ne, up, q⟩ := h
    refine ⟨_, (pss_cons (ps_set (i := 2) sc_Leaves__leaf_of.nd rfl (Or.inl rfl) pe_int)
          (pss_cons (ps_set (i := 3) sc_Leaves__leaf_of.nd rfl (Or.inl rfl) (pe_callB call_len_seq (by rfl) T.z_len bt_len (pa_cons (pe_fld (pv 0) rfl) pa_nil)))
          (pss_cons (ps_while PassesOwn.never (pt_cmpR op_lt (pv 2) (pv 3) (nomark _))
          (pss_cons (ps_set (i := 4) sc_Leaves__leaf_of.nd rfl (Or.inl rfl) (pe_op op_fdiv (pe_op op_add (pv 2) (pv 3)) pe_int))
          (pss_one (ps_if (pt_cmpR op_lt (pe_ix ix_list (pe_ix ix_list (pe_fld (pv 0) rfl) (pv 4) (fun _ _ => rfl)) (pe_un un_neg pe_int) (fun _ _ => rfl)) (pv 1) (nomark _))
          (pss_one (ps_set (i := 2) sc_Leaves__leaf_of.nd rfl (Or.inl rfl) (pe_op op_add (pv 4) pe_int)))
          (pss_one (ps_set (i := 3) sc_Leaves__leaf_of.nd rfl (Or.inl rfl) (pv 4)))))))
          (pss_one (ps_ret (pv 2))))))
      , ?_⟩
    obtain ⟨dx, ho⟩ := hb.obj
    have lA : ((A.map V.ref).length : Int) = (ls.length : Int) := by rw [List.length_map, hb.len]
    refine ⟨_, rfl, a, _, dx, _, _, rfl, ho, T.cl_Leaves, T.na_Leaves_leaves, lv_lk, L, _, rfl, .inl (SqL.of hb.lst), ?_⟩
    dsimp only
    rw [lA]
    refine ⟨WLeaf a k ls H, ⟨_, 0, ls.length, none, rfl, rfl, rfl, Nat.zero_le _, Nat.le_refl _, fun j x h => absurd h (by (clear h lA ho; omega)), fun j x h e => ?_⟩, ?_⟩
    · have := (List.getElem?_eq_some_iff.mp e).1
      (clear e lA ho; omega)
    rintro m σ H' ⟨lo, hi, v4, rfl, rfl, rfl, h1, h2, h3, h4⟩
    refine ⟨_, rfl, _, rfl, _, _, rfl, rfl, _, rfl, ite2 (fun c => ?_) (fun c => ?_)⟩
    · have c : lo < hi := by have := of_decide_eq_true c; (clear c h2 h1 ho lA; omega)
      refine ⟨fun σ' H'' => ∃ m', m' < hi - lo ∧ WLeaf a k ls H' m' σ' H'', fun _ _ h => h, ?_⟩
      refine ⟨_, rfl, _, rfl, _, _, rfl, rfl, _, _, rfl, rfl, ⟨by decide, by decide⟩, ?_⟩
      obtain ⟨mid, em, m1, m2⟩ : ∃ mid : Nat, ((lo : Int) + (hi : Int)) / 2 = (mid : Int) ∧ lo ≤ mid ∧ mid < hi := ⟨(lo + hi) / 2, by (clear c h2 h1 ho lA; omega), by (clear c h2 ho lA; omega), by (clear h2 h1 ho lA; omega)⟩
      dsimp only
      rw [em]
      have hm : mid < ls.length := by (clear m2 m1 h1 ho lA; omega)
      have ex : ls[mid]? = some ls[mid] := List.getElem?_eq_getElem hm
      obtain ⟨b, eb, hbb⟩ := hb.at ex
      have nex := ne _ (List.getElem_mem hm)
      obtain ⟨g, eg, gm, gmax⟩ := last_max (rise_in up ex) nex
      refine ⟨_, rfl, a, _, dx, _, _, rfl, ho, T.cl_Leaves, T.na_Leaves_leaves, lv_lk, _, rfl, L, _, _, _, rfl, rfl, SqL.of hb.lst, mapR_at eb, _, rfl, b, _, _, _, rfl, rfl, SqL.of hbb, at_last nex eg, _, rfl, _, _, rfl, rfl, _, rfl, ite2 (fun c2 => ?_) (fun c2 => ?_)⟩
      · have c2 := of_decide_eq_true c2
        refine ⟨_, rfl, _, _, rfl, rfl, hi - (mid + 1), by (clear c2 eg nex hbb eb ex m2 m1 h2 h1 ho lA; omega), mid + 1, hi, _, rfl, rfl, rfl, by (clear c2 eg nex hbb eb ex m2 m1 h2 h1 ho lA; omega), h2, fun j x hj e y hy => ?_, h4⟩
        rcases (show j < mid ∨ j = mid by (clear e c2 eg nex hbb eb ex m2 m1 em c h2 h1 ho lA; omega)) with h | h
        · have := rise_leaf up e ex h y hy g gm
          (clear h e hj eg nex hbb eb ex m2 m1 em c h2 h1 ho lA; omega)
        · subst h
          rw [ex] at e
          cases e
          have := gmax y hy
          (clear hj eg nex hbb eb ex m2 m1 em c h2 h1 ho lA; omega)
      · have c2 : ¬ g < k := fun z => c2 (decide_eq_true z)
        refine ⟨_, rfl, mid - lo, by (clear c2 eg nex hbb eb ex m2 m1 h2 h1 ho lA; omega), lo, mid, _, rfl, rfl, rfl, by (clear c2 eg nex hbb eb ex m2 m1 c h2 ho lA; omega), by (clear c2 eg nex hbb eb ex m2 m1 em c h2 h1 ho lA; omega), h3, fun j x hj e => ?_⟩
        rcases (show j = mid ∨ mid < j by (clear e c2 eg nex hbb eb ex m2 m1 em c h2 h1 ho lA; omega)) with h | h
        · subst h
          rw [ex] at e
          cases e
          exact ⟨g, gm, by (clear hj eg nex hbb eb ex m2 m1 em c h2 h1 ho lA; omega)⟩
        · obtain ⟨y, hy⟩ := List.exists_mem_of_ne_nil x (ne x (List.mem_of_getElem? e))
          have := rise_leaf up ex e h g gm y hy
          exact ⟨y, hy, by (clear h e hj eg nex hbb eb ex m2 m1 em c h2 h1 ho lA; omega)⟩
    · have c : ¬ lo < hi := fun z => c (decide_eq_true (by (clear c h2 h1 ho lA; omega)))
      have : lo = hi := by (clear h2 ho lA; omega)
      subst this
      exact ⟨_, rfl, q lo ⟨h2, h3, fun x e => h4 lo x (Nat.le_refl _) e⟩⟩
theorem inV_ints {k : Int} : ∀ {x : List Int}, inV (.int k) (x.map V.int) = decide (k ∈ x)
  | [] => rfl
  | a :: r => by
    have ih := inV_ints (k := k) (x := r)
    unfold inV at ih ⊢
    rw [List.map_cons, List.any_cons, ih]
    have : eqV (.int a) (.int k) = decide (k = a) := by
      show (_ : Bool) = _
      by_cases c : a = k
      · subst c; simp [eqV]
      · have c' : ¬ k = a := fun z => c z.symm
        simp [eqV, c, c']
    rw [this]
    by_cases c : k = a
    · simp [c]
    · simp [c]
theorem flat_ints {x : List Int} : (x.map V.int).all flatV = true := by
  rw [List.all_map]
  exact List.all_eq_true.mpr fun _ _ => rfl
theorem ok_Leaves__has (T : Txt K mg t) : FnOk P w K mg base CX0 2 t.a_Leaves__has t.d_Leaves__has ["self", "key"] (sp_Leaves__has K t) := by
  have G_Leaves__leaf_of : FnOk P w K mg base CX0 1 t.a_Leaves__leaf_of t.d_Leaves__leaf_of ["self", "key"] (sp_Leaves__leaf_of t) := ok_Leaves__leaf_of T
  refine T.F_Leaves__has.ok sc_Leaves__has (fun vs H Q E h => ?_) (fun cdv A outer s H vs Q E hr h => ?_)
  · obtain ⟨a, k, F, ks, rfl, _⟩ := h
    rfl
  · obtain ⟨a, k, F, ks, rfl, hA, q⟩ := h
    refine ⟨_, (pss_cons (ps_set (i := 2) sc_Leaves__has.nd rfl (Or.inl rfl) (pe_meth (pv 0) T.cl_Leaves T.me_Leaves_leaf_of G_Leaves__leaf_of (hr.mono (by decide)) T.b_Leaves__leaf_of .nil pass0 (pa_cons (pv 1) pa_nil)))
          (pss_one (ps_ret (pe_and (pe_cmpR op_lt (pv 2) (pe_callB call_len_seq (by rfl) T.z_len bt_len (pa_cons (pe_fld (pv 0) rfl) pa_nil)) (nomark _)) (pe_one (pe_cmpR op_in_seq (pv 1) (pe_ix ix_list (pe_fld (pv 0) rfl) (pv 2) (fun _ _ => rfl)) rfl))))))
      , ?_⟩
    obtain ⟨dx, fs, hi, hm⟩ := hA.ins
    have q := q H F hA Fr.refl
    obtain ⟨L, A, ls, hb, ok, ef, hF⟩ := hA
    obtain ⟨dx', ho⟩ := hb.obj
    have lA : ((A.map V.ref).length : Int) = (ls.length : Int) := by rw [List.length_map, hb.len]
    refine ⟨_, rfl, a, dx, fs, rfl, hi, hm _ (by decide +kernel), _, rfl, a, k, L, A, ls, rfl, hb, ok.ne, ok.up, fun i li => ?_⟩
    refine ⟨_, rfl, _, rfl, a, _, dx', _, _, rfl, ho, T.cl_Leaves, T.na_Leaves_leaves, lv_lk, L, _, rfl, .inl (SqL.of hb.lst), _, _, rfl, rfl, _, rfl, ite2 (fun c => ?_) (fun c => ?_)⟩
    · have c := of_decide_eq_true c
      have hi : i < ls.length := by (clear ho ef hi; omega)
      have ex : ls[i]? = some ls[i] := List.getElem?_eq_getElem hi
      obtain ⟨b, eb, hbb⟩ := hb.at ex
      refine ⟨_, rfl, _, rfl, a, _, dx', _, _, rfl, ho, T.cl_Leaves, T.na_Leaves_leaves, lv_lk, _, rfl, L, _, _, _, rfl, rfl, SqL.of hb.lst, mapR_at eb, b, _, rfl, .inl (SqL.of hbb), rfl, flat_ints, ?_⟩
      show Q (.bl (inV (.int k) (ls[i].map V.int))) H
      rw [inV_ints]
      have : k ∈ ls[i] ↔ k ∈ ks := by
        rw [← ef, li.mem ok]
        constructor
        · exact fun z => ⟨_, ex, z⟩
        · rintro ⟨x, e, z⟩
          rw [ex] at e
          cases e
          exact z
      rw [decide_eq_decide.mpr this]
      exact q
    · have c : ¬ (i : Int) < ((A.map V.ref).length : Int) := fun z => c (decide_eq_true z)
      have : k ∉ ks := fun z => by
        rw [← ef, li.mem ok] at z
        obtain ⟨x, e, _⟩ := z
        have := (List.getElem?_eq_some_iff.mp e).1
        (clear e ho ef hi; omega)
      rw [decide_eq_false this] at q
      exact q
theorem ok_Leaves__init (T : Txt K mg t) : FnOk P w K mg base CX0 1 t.a_Leaves__init t.d_Leaves__init ["self"] (sp_Leaves__init K t) := by
  refine T.F_Leaves__init.ok sc_Leaves__init (fun vs H Q E h => ?_) (fun cdv A outer s H vs Q E hr h => ?_)
  · obtain ⟨a, dx, rfl, _⟩ := h
    rfl
  · obtain ⟨a, dx, rfl, ha, hd, q⟩ := h
    refine ⟨_, (pss_one (ps_fld (pv 0) (pe_lst pa_nil) rfl))
      , ?_⟩
    refine ⟨Nat.zero_le _, fun L nL => ⟨_, rfl, a, _, dx, [], rfl, (by rw [upd_ne (ne_of_none ha nL)]; exact ha), T.cl_Leaves, T.na_Leaves_leaves, (by show 0 < 1000; decide), ?_⟩⟩
    have na := ne_of_none ha nL
    refine q _ (LvF a L []) ⟨L, [], [], ⟨⟨dx, upd_same⟩, by rw [upd_ne na.symm]; exact upd_same, rfl, (fun j b l e => by simp at e), (fun i j b e => by simp at e), (fun z => by cases z)⟩, LvOk.nil, rfl, fun b => Iff.rfl⟩ fun b o n w => ?_
    have n1 : b ≠ a := fun y => n (.inl y)
    have n2 : b ≠ L := ne_of_none w nL
    refine ⟨by rw [upd_ne n1, upd_ne n2]; exact w, fun y => ?_⟩
    rcases y with y | y | y
    · exact n1 y
    · exact n2 y
    · cases y
def sp_Leaves__part_leaf (t : Adr) : Sp := fun vs H Q _ => ∃ (a L : Addr) (A : List Addr) (ls : List (List Int)) (i : Nat) (x : List Int), vs = [.ref a, .int (i : Int)] ∧ LvB t H a L A ls ∧ ls[i]? = some x ∧ x.length = 9 ∧ ls.length < 5000 ∧
  ∀ H' A', LvB t H' a L A' ((ls.set i (x.take 4)).take (i + 1) ++ x.drop 4 :: (ls.set i (x.take 4)).drop (i + 1)) → Fr (LvF a L A) (LvF a L A') H H' → Q .non H'
theorem ok_Leaves__part_leaf (T : Txt K mg t) : FnOk P w K mg base CX0 1 t.a_Leaves__part_leaf t.d_Leaves__part_leaf ["self", "at"] (sp_Leaves__part_leaf t) := by
  refine T.F_Leaves__part_leaf.ok sc_Leaves__part_leaf (fun vs H Q E h => ?_) (fun cdv A outer s H vs Q E hr h => ?_)
  · obtain ⟨a, L, A, ls, i, x, rfl, _⟩ := h
    rfl
  · obtain ⟨a, L, A, ls, i, x, rfl, hb, ex, lx, ll, q⟩ := h
    refine ⟨_, (pss_cons (ps_set (i := 2) sc_Leaves__part_leaf.nd rfl (Or.inl rfl) (pe_ix ix_list (pe_fld (pv 0) rfl) (pv 1) (fun _ _ => rfl)))
          (pss_cons (ps_set (i := 3) sc_Leaves__part_leaf.nd rfl (Or.inl rfl) (pe_op op_fdiv (pe_callB call_len_seq (by rfl) T.z_len bt_len (pa_cons (pv 2) pa_nil)) pe_int))
          (pss_cons (ps_asg (pe_slice sl_list (pv 2) po_none (po_some (pv 3))) (pg_sub (pe_fld (pv 0) rfl) (pv 1) set_list))
          (pss_one (ps_expr (pe_bm PySem.F.plainAttrs_list PySem.F.slot_list_insert PySem.F.type_list_insert mt_insert (pe_fld (pv 0) rfl) (pa_cons (pe_op op_add (pv 1) pe_int) (pa_cons (pe_slice sl_list (pv 2) (po_some (pv 3)) po_none) pa_nil))))))))
      , ?_⟩
    obtain ⟨dx, ho⟩ := hb.obj
    obtain ⟨c, ec, hc⟩ := hb.at ex
    have hil : i < A.length := (List.getElem?_eq_some_iff.mp ec).1
    have len9 : ((x.map V.int).length : Int) = 9 := by rw [List.length_map, lx]; rfl
    refine ⟨_, rfl, a, _, dx, _, _, rfl, ho, T.cl_Leaves, T.na_Leaves_leaves, lv_lk, _, rfl, L, _, _, _, rfl, rfl, SqL.of hb.lst, mapR_at ec, ?_⟩
    refine ⟨_, rfl, c, _, rfl, .inl (SqL.of hc), _, _, rfl, rfl, ⟨by decide, by decide⟩, ?_⟩
    dsimp only
    rw [len9]
    have cut1 : cutV (x.map V.int) none (some (9 / 2)) = (x.take 4).map V.int := by
      unfold cutV
      rw [List.length_map, lx]
      show ((x.map V.int).drop 0).take (4 - 0) = _
      rw [List.drop_zero, List.map_take]
    have cut2 : cutV (x.map V.int) (some (9 / 2)) none = (x.drop 4).map V.int := by
      unfold cutV
      rw [List.length_map, lx]
      show ((x.map V.int).drop 4).take (9 - 4) = _
      rw [List.map_drop, List.take_of_length_le (by rw [List.length_drop, List.length_map, lx]; exact Nat.le_refl _)]
    refine ⟨_, rfl, _, rfl, _, rfl, c, _, rfl, SqL.of hc, fun n1 nn1 => ?_⟩
    rw [cut1]
    have s1 : Same H (upd H n1 (.lst ((x.take 4).map V.int))) := same_new nn1
    have hb1 := hb.same s1
    have hn1 : upd H n1 (.lst ((x.take 4).map V.int)) n1 = some (.lst ((x.take 4).map V.int)) := upd_same
    have nF1 := hb.out nn1
    have ho1 := s1 _ _ ho
    have hc1 := s1 _ _ hc
    have hL1 := s1 _ _ hb.lst
    generalize upd H n1 (.lst ((x.take 4).map V.int)) = H1 at s1 hb1 hn1 ho1 hc1 hL1 ⊢
    refine ⟨_, rfl, a, _, dx, _, _, rfl, ho1, T.cl_Leaves, T.na_Leaves_leaves, lv_lk, _, rfl, L, _, _, _, rfl, rfl, hL1, ix_natL hil, ?_⟩
    have es : (A.map V.ref).set i (V.ref n1) = (A.set i n1).map V.ref := by rw [List.map_set]
    rw [es]
    have hb2 := hb1.swap ec ex hn1 nF1
    have cL : c ≠ L := fun z => hb.nL (z ▸ List.mem_of_getElem? ec)
    have hc2 : upd H1 L (.lst ((A.set i n1).map V.ref)) c = some (.lst (x.map V.int)) := by rw [upd_ne cL]; exact hc1
    obtain ⟨dx2, ho2⟩ := hb2.obj
    have hL2 := hb2.lst
    have f2 : Fr (LvF a L A) (LvF a L (A.set i n1)) H (upd H1 L (.lst ((A.set i n1).map V.ref))) := fun b o n w => by
      have w1 := s1 _ _ w
      refine ⟨by rw [upd_ne (fun y => n (.inr (.inl y)))]; exact w1, fun y => ?_⟩
      rcases y with y | y | y
      · exact n (.inl y)
      · exact n (.inr (.inl y))
      · rcases List.mem_or_eq_of_mem_set y with y | y
        · exact n (.inr (.inr y))
        · rw [y, nn1] at w; cases w
    generalize upd H1 L (.lst ((A.set i n1).map V.ref)) = H2 at hb2 hc2 ho2 hL2 f2 ⊢
    refine ⟨_, rfl, a, _, dx2, _, _, rfl, ho2, T.cl_Leaves, T.na_Leaves_leaves, lv_lk, .inl ⟨rfl, _, SqL.of hL2⟩, _, rfl, _, _, rfl, rfl, _, rfl, _, rfl, _, rfl, c, _, rfl, SqL.of hc2, fun n2 nn2 => ?_⟩
    rw [cut2]
    have s3 : Same H2 (upd H2 n2 (.lst ((x.drop 4).map V.int))) := same_new nn2
    have hb3 := hb2.same s3
    have hn3 : upd H2 n2 (.lst ((x.drop 4).map V.int)) n2 = some (.lst ((x.drop 4).map V.int)) := upd_same
    have nF3 := hb2.out nn2
    have hL3 := s3 _ _ hL2
    generalize upd H2 n2 (.lst ((x.drop 4).map V.int)) = H3 at s3 hb3 hn3 hL3 ⊢
    have lS : (A.set i n1).length = A.length := List.length_set
    refine ⟨L, _, _, _, rfl, rfl, hL3, (by (clear lS hL3 hn3 nF3 nn2 hL2 ho2 hc2 cL es hL1 hc1 ho1 hn1 nF1 nn1 cut2 cut1 len9 hil hc ec ho ll lx ex; omega)), (by rw [List.length_map, lS]; (clear lS hL3 hn3 nF3 nn2 hL2 ho2 hc2 cL es hL1 hc1 ho1 hn1 nF1 nn1 cut2 cut1 len9 hc ec ho ll lx ex; omega)), (by rw [List.length_map, lS, hb.len]; exact small1e5 (by (clear lS hL3 hn3 nF3 nn2 hL2 ho2 hc2 cL es hL1 hc1 ho1 hn1 nF1 nn1 cut2 cut1 len9 hil hc ec ho lx ex; omega))), ?_⟩
    have ei : ((i : Int) + 1).toNat = i + 1 := by (clear lS hL3 hn3 nF3 nn2 hL2 ho2 hc2 cL es hL1 hc1 ho1 hn1 nF1 nn1 cut2 cut1 len9 hil hc ec ho ll lx ex; omega)
    have hb4 := hb3.insert (i := i + 1) (by rw [lS]; (clear ei lS hL3 hn3 nF3 nn2 hL2 ho2 hc2 cL es hL1 hc1 ho1 hn1 nF1 nn1 cut2 cut1 len9 hc ec ho ll lx ex; omega)) hn3 nF3
    rw [ei]
    have em : ((A.set i n1).map V.ref).take (i + 1) ++ V.ref n2 :: ((A.set i n1).map V.ref).drop (i + 1) = ((A.set i n1).take (i + 1) ++ n2 :: (A.set i n1).drop (i + 1)).map V.ref := by
      rw [List.map_append, List.map_cons, List.map_take, List.map_drop]
    rw [em]
    refine q _ _ hb4 (f2.trans (fun b o n w => ?_))
    have w3 := s3 _ _ w
    refine ⟨by rw [upd_ne (fun y => n (.inr (.inl y)))]; exact w3, fun y => ?_⟩
    rcases y with y | y | y
    · exact n (.inl y)
    · exact n (.inr (.inl y))
    · rcases List.mem_append.mp y with y | y
      · exact n (.inr (.inr (List.mem_of_mem_take y)))
      · rcases List.mem_cons.mp y with y | y
        · rw [y, nn2] at w; cases w
        · exact n (.inr (.inr (List.mem_of_mem_drop y)))
theorem LvB.insM {H : Hp} {a L : Addr} {A : List Addr} {ls : List (List Int)} (h : LvB t H a L A ls) : ∃ dx fs, H a = some (.ins t.c_Leaves dx fs) ∧ ∀ m, m ≠ ("leaves" : Str) → fs.lookup m = none := by
  obtain ⟨dx, ho⟩ := h.obj
  exact ⟨dx, _, ho, fun m hm => lv_no hm⟩
theorem ok_Leaves__add (T : Txt K mg t) : FnOk P w K mg base (CX1 P w) 3 t.a_Leaves__add t.d_Leaves__add ["self", "key"] (sp_Leaves__add K t) := by
  obtain ⟨tk_MOST_IN_LEAF, hMOST_IN_LEAF⟩ := T.g_MOST_IN_LEAF
  have G_Leaves__has : FnOk P w K mg base CX0 2 t.a_Leaves__has t.d_Leaves__has ["self", "key"] (sp_Leaves__has K t) := ok_Leaves__has T
  have G_Leaves__leaf_of : FnOk P w K mg base CX0 1 t.a_Leaves__leaf_of t.d_Leaves__leaf_of ["self", "key"] (sp_Leaves__leaf_of t) := ok_Leaves__leaf_of T
  have G_Leaves__part_leaf : FnOk P w K mg base CX0 1 t.a_Leaves__part_leaf t.d_Leaves__part_leaf ["self", "at"] (sp_Leaves__part_leaf t) := ok_Leaves__part_leaf T
  have G_Twice__init : FnOk P w K mg base CX0 1 t.a_Twice__init t.d_Twice__init ["self", "key"] (sp_Twice__init K) := ok_Twice__init T
  refine T.F_Leaves__add.okX sc_Leaves__add (fun vs H Q E h => ?_) (fun cdv A outer s H vs Q E hr h => ?_)
  · obtain ⟨a, k, F, ks, rfl, _⟩ := h
    rfl
  · obtain ⟨a, k, F, ks, rfl, hA, hl, q1, q2⟩ := h
    refine ⟨_, (pss_cons (ps_if (pt_val (pe_meth (pv 0) T.cl_Leaves T.me_Leaves_has G_Leaves__has (hr.mono (by decide)) T.b_Leaves__has .nil pass0 (pa_cons (pv 1) pa_nil)))
          (pss_one (ps_raise rfl throws1 (pe_makeX T.xc_Twice T.ini_Twice T.inf_Twice G_Twice__init (hr.mono (by decide)) (by rfl) T.mg_Twice T.b_Twice__init .nil pass0 (pa_cons (pv 1) pa_nil))))
          pss_nil)
          (pss_cons (ps_if (pt_cmpR op_eq (pe_callB call_len_seq (by rfl) T.z_len bt_len (pa_cons (pe_fld (pv 0) rfl) pa_nil)) pe_int (nomark _))
          (pss_cons (ps_expr (pe_bm PySem.F.plainAttrs_list PySem.F.slot_list_append PySem.F.type_list_append mt_append (pe_fld (pv 0) rfl) (pa_cons (pe_lst (pa_cons (pv 1) pa_nil)) pa_nil)))
          (pss_one ps_retN))
          pss_nil)
          (pss_cons (ps_set (i := 2) sc_Leaves__add.nd rfl (Or.inl rfl) (pe_callB (call_min2 rfl) (by rfl) T.z_min bt_min (pa_cons (pe_meth (pv 0) T.cl_Leaves T.me_Leaves_leaf_of G_Leaves__leaf_of (hr.mono (by decide)) T.b_Leaves__leaf_of .nil pass0 (pa_cons (pv 1) pa_nil)) (pa_cons (pe_op op_sub (pe_callB call_len_seq (by rfl) T.z_len bt_len (pa_cons (pe_fld (pv 0) rfl) pa_nil)) pe_int) pa_nil))))
          (pss_cons (ps_set (i := 3) sc_Leaves__add.nd rfl (Or.inl rfl) (pe_ix ix_list (pe_fld (pv 0) rfl) (pv 2) (fun _ _ => rfl)))
          (pss_cons (ps_expr (pe_bm PySem.F.plainAttrs_list PySem.F.slot_list_insert PySem.F.type_list_insert mt_insert (pv 3) (pa_cons (pe_callB call_len_seq (by rfl) T.z_len bt_len (pa_cons (pe_compI rfl (CScope.of (N := ["self", "key", "at", "leaf"]) (N' := ["self", "key", "at", "leaf"]) (dsc := defScope s_Leaves__add) rfl rfl (by decide +kernel)) (pi_list (pv 3)) (fun _ _ _ _ _ => (pt_cmpR op_lt (pv 0) (pv 2) (nomark _))) (fun _ _ _ _ _ => (pv 0))) pa_nil)) (pa_cons (pv 1) pa_nil))))
          (pss_one (ps_if (pt_cmpR op_gt (pe_callB call_len_seq (by rfl) T.z_len bt_len (pa_cons (pv 3) pa_nil)) (pe_glob (v := .int 8) (by rfl) hMOST_IN_LEAF ⟨_, rfl⟩) (nomark _))
          (pss_one (ps_expr (pe_meth (pv 0) T.cl_Leaves T.me_Leaves_part_leaf G_Leaves__part_leaf (hr.mono (by decide)) T.b_Leaves__part_leaf .nil pass0 (pa_cons (pv 2) pa_nil))))
          pss_nil)))))))
      , ?_⟩
    obtain ⟨dx, fs, hi, hm⟩ := hA.ins
    refine ⟨_, rfl, a, dx, fs, rfl, hi, hm _ (by decide +kernel), _, rfl, a, k, F, ks, rfl, hA, fun H0 F0 hA0 fr0 => ?_⟩
    by_cases ck : k ∈ ks
    · rw [decide_eq_true ck]
      refine ⟨_, rfl, iteT ?_⟩
      exact raise_key T.xc_Twice T.na_Twice_key (fun ea od H' hx hs => q2 ck ea od H' F0 hx (hA0.same hs) (fr0.trans (Fr.of_same hs))) rfl
    rw [decide_eq_false ck]
    refine ⟨_, rfl, iteF ?_⟩
    have q := q1 ck
    obtain ⟨L, A, ls, hb, ok, ef, hF⟩ := hA0
    obtain ⟨dx', ho⟩ := hb.obj
    have lA : ((A.map V.ref).length : Int) = (ls.length : Int) := by rw [List.length_map, hb.len]
    have sh := ok.short
    rw [ef] at sh
    have fr : Fr F (LvF a L A) H H0 := fun b o n e => ⟨(fr0 b o n e).1, fun y => (fr0 b o n e).2 ((hF b).mpr y)⟩
    have nk : k ∉ ls.flatten := by rw [ef]; exact ck
    by_cases ce : ls = []
    · subst ce
      have eA : A = [] := List.length_eq_zero_iff.mp hb.len
      subst eA
      refine ⟨_, rfl, a, _, dx', _, _, rfl, ho, T.cl_Leaves, T.na_Leaves_leaves, lv_lk, L, _, rfl, .inl (SqL.of hb.lst), rfl, _, rfl, iteE rfl ?_⟩
      refine ⟨_, rfl, a, _, dx', _, _, rfl, ho, T.cl_Leaves, T.na_Leaves_leaves, lv_lk, .inl ⟨rfl, _, SqL.of hb.lst⟩, _, rfl, (by show 1 ≤ sizeLine; decide), fun n nn => ?_⟩
      have s1 : Same H0 (upd H0 n (.lst [.int k])) := same_new nn
      have hb1 := hb.same s1
      have hn1 : upd H0 n (.lst [.int k]) n = some (.lst (([k] : List Int).map V.int)) := upd_same
      have nF := hb.out nn
      have hL1 := s1 _ _ hb.lst
      refine ⟨L, _, _, rfl, rfl, hL1, small1000 (by show 0 ≤ 1000; decide), ?_⟩
      have hb2 := hb1.insert (i := 0) (Nat.zero_le _) hn1 nF
      have ok1 : LvOk [[k]] := ⟨(fun l hl => by rw [List.mem_singleton.mp hl]; simp), (fun l hl => by rw [List.mem_singleton.mp hl]; simp), (fun i x y e1 e2 => by simp at e2), by show Rise [k]; exact List.pairwise_singleton _ _⟩
      refine q _ (LvF a L [n]) [k] ⟨L, [n], [[k]], hb2, ok1, rfl, fun b => Iff.rfl⟩ (fun z => ?_) (fr.trans fun b o n' w => ?_)
      · rw [← ef]
        simp
      · have w1 := s1 _ _ w
        refine ⟨by rw [upd_ne (fun y => n' (.inr (.inl y)))]; exact w1, fun y => ?_⟩
        rcases y with y | y | y
        · exact n' (.inl y)
        · exact n' (.inr (.inl y))
        · rw [List.mem_singleton.mp y, nn] at w; cases w
    · have hpos := List.length_pos_iff.mpr ce
      refine ⟨_, rfl, a, _, dx', _, _, rfl, ho, T.cl_Leaves, T.na_Leaves_leaves, lv_lk, L, _, rfl, .inl (SqL.of hb.lst), rfl, _, rfl, iteND (fun w => ?_) ?_⟩
      · have := V.int.inj w
        (clear w ce nk sh ho ef ck hi hl hMOST_IN_LEAF; omega)
      obtain ⟨dx2, fs2, hi2, hm2⟩ := hb.insM
      refine ⟨_, rfl, a, dx2, fs2, rfl, hi2, hm2 _ (by decide +kernel), _, rfl, a, k, L, A, ls, rfl, hb, ok.ne, ok.up, fun i li => ?_⟩
      refine ⟨_, rfl, a, _, dx', _, _, rfl, ho, T.cl_Leaves, T.na_Leaves_leaves, lv_lk, L, _, rfl, .inl (SqL.of hb.lst), _, _, rfl, rfl, _, _, rfl, ?_⟩
      obtain ⟨x, ad⟩ := li.add ok ce
      have em : (if ((A.map V.ref).length : Int) - 1 < (i : Int) then ((A.map V.ref).length : Int) - 1 else (i : Int)) = ((min i (ls.length - 1) : Nat) : Int) := by
        rw [lA]
        split <;> (clear hi2 ce nk sh lA ho ef ck hi hl hMOST_IN_LEAF; omega)
      dsimp only
      rw [em]
      generalize min i (ls.length - 1) = j at ad ⊢
      obtain ⟨c, ec, hc⟩ := hb.at ad.at_
      have jl : j < ls.length := (List.getElem?_eq_some_iff.mp ad.at_).1
      have x8 := ok.le x (List.mem_of_getElem? ad.at_)
      refine ⟨_, rfl, a, _, dx', _, _, rfl, ho, T.cl_Leaves, T.na_Leaves_leaves, lv_lk, _, rfl, L, _, _, _, rfl, rfl, SqL.of hb.lst, mapR_at ec, ?_⟩
      refine ⟨_, rfl, .inl ⟨rfl, _, SqL.of hc⟩, _, rfl, c, rfl, ⟨_, SqL.of hc⟩, fun D hD => ?_⟩
      refine comp_listI (K := K) (a := c) (xs := x.map V.int) (fun n ys H3 => H3 = upd H0 D (.lst ys) ∧ ys = ((x.take n).filter (fun z => decide (z < k))).map V.int) ⟨rfl, rfl⟩ (fun n ys H3 _ w => SqL.of (by rw [w.1, upd_ne (ne_of_none hc hD)]; exact hc)) (fun n v ys H3 hv w hDD => ?_) (fun ys H3 w hDD => ?_)
      · obtain ⟨e1, e2⟩ := w
        obtain ⟨g, rfl, eg⟩ : ∃ g : Int, v = .int g ∧ x[n]? = some g := by
          rw [List.getElem?_map] at hv
          cases e : x[n]? with
          | none => rw [e] at hv; cases hv
          | some g => rw [e] at hv; cases hv; exact ⟨g, rfl, rfl⟩
        have hn : n < (x.map V.int).length := (List.getElem?_eq_some_iff.mp hv).1
        refine ⟨_, rfl, _, rfl, _, _, rfl, rfl, _, rfl, ?_⟩
        have fl : ys.length ≤ 8 := by
          rw [e2, List.length_map]
          have h1 := List.length_filter_le (fun z => decide (z < k)) (x.take n)
          have h2 : (x.take n).length ≤ x.length := by rw [List.length_take]; (clear h1 hn hv eg e2 e1 hDD hD x8 jl hc ec em hi2 hpos ce nk sh lA ho ef ck hi hl hMOST_IN_LEAF; omega)
          (clear hn hv eg e2 e1 hDD hD jl hc ec em hi2 hpos ce nk sh lA ho ef ck hi hl hMOST_IN_LEAF; omega)
        by_cases cg : g < k
        · refine iteD cg ⟨_, rfl, CNext.mk hn hDD (small1000 (by (clear cg hn hv eg e2 e1 hDD hD x8 jl hc ec em hi2 hpos ce nk sh lA ho ef ck hi hl hMOST_IN_LEAF; omega))) ⟨by rw [e1, upd_upd], ?_⟩⟩
          rw [e2, List.take_add_one, eg, List.filter_append, List.map_append]
          simp [cg]
        · refine iteND cg (CSkip.mk hn hDD ⟨e1, ?_⟩)
          rw [e2, List.take_add_one, eg, List.filter_append]
          simp [cg]
      · obtain ⟨e1, e2⟩ := w
        rw [List.length_map, List.take_length] at e2
        have s3 : Same H0 H3 := by rw [e1]; exact same_new hD
        have hb3 := hb.same s3
        have hc3 := s3 _ _ hc
        have yl : (ys.length : Int) = ((x.filter (fun z => decide (z < k))).length : Int) := by rw [e2, List.length_map]
        have fle := List.length_filter_le (fun z => decide (z < k)) x
        refine ⟨D, _, rfl, .inl (SqL.of hDD), _, rfl, c, _, _, _, rfl, rfl, hc3, (by (clear fle yl hc3 e2 e1 hDD hD x8 jl hc ec em hi2 hpos ce nk sh lA ho ef ck hi hl hMOST_IN_LEAF; omega)), (by rw [List.length_map]; (clear hc3 e2 e1 hDD hD x8 jl hc ec em hi2 hpos ce nk sh lA ho ef ck hi hl hMOST_IN_LEAF; omega)), (by rw [List.length_map]; exact small1000 (by (clear fle yl hc3 e2 e1 hDD hD jl hc ec em hi2 hpos ce nk sh lA ho ef ck hi hl hMOST_IN_LEAF; omega))), ?_⟩
        have ei : (x.map V.int).take (ys.length : Int).toNat ++ V.int k :: (x.map V.int).drop (ys.length : Int).toNat = (insL x k).map V.int := by
          rw [yl, Int.toNat_natCast]
          unfold insL
          rw [List.map_append, List.map_cons, List.map_take, List.map_drop]
        dsimp only
        rw [ei]
        have hb4 := hb3.write (y := insL x k) ec ad.at_
        have il := insL_len (l := x) (k := k)
        obtain ⟨up4, mem4⟩ := ad.set ok nk
        have cF : LvF a L A c := .inr (.inr (List.mem_of_getElem? ec))
        have f4 : Fr (LvF a L A) (LvF a L A) H0 (upd H3 c (.lst ((insL x k).map V.int))) := fun b o n w => ⟨by rw [upd_ne (fun y => n (by rw [y]; exact cF))]; exact s3 _ _ w, n⟩
        have hc4 : upd H3 c (.lst ((insL x k).map V.int)) c = some (.lst ((insL x k).map V.int)) := upd_same
        generalize upd H3 c (.lst ((insL x k).map V.int)) = H4 at hb4 f4 hc4 ⊢
        refine ⟨_, rfl, c, _, rfl, .inl (SqL.of hc4), _, _, rfl, rfl, _, rfl, ?_⟩
        have ll : ((insL x k).map V.int).length = x.length + 1 := by rw [List.length_map, il]
        by_cases c9 : x.length = 8
        · refine iteD (by rw [ll]; (clear ll hc4 il ei fle yl hc3 e2 e1 hDD hD x8 jl hc ec em hi2 hpos ce nk sh lA ho ef ck hi hl hMOST_IN_LEAF; omega)) ?_
          obtain ⟨dx5, fs5, hi5, hm5⟩ := hb4.insM
          have e5 : (ls.set j (insL x k))[j]? = some (insL x k) := by rw [List.getElem?_set, if_pos rfl, if_pos jl]
          refine ⟨_, rfl, a, dx5, fs5, rfl, hi5, hm5 _ (by decide +kernel), _, rfl, a, L, A, _, j, _, rfl, hb4, e5, by (clear e5 hi5 ll hc4 ei fle yl hc3 e2 e1 hDD hD x8 jl hc ec em hi2 hpos ce nk sh lA ho ef ck hi hl hMOST_IN_LEAF; omega), by rw [List.length_set]; (clear e5 hi5 c9 ll hc4 il ei fle yl hc3 e2 e1 hDD hD x8 jl hc ec em hi2 hpos ce nk lA ho ef ck hi hMOST_IN_LEAF; omega), fun H6 A6 hb6 f6 => ?_⟩
          have er : (ls.set j (insL x k)).set j ((insL x k).take 4) = ls.set j ((insL x k).take 4) := List.set_set _
          rw [er] at hb6
          have up5 : Rise (ls.set j ((insL x k).take 4 ++ (insL x k).drop 4)).flatten := by rw [List.take_append_drop]; exact up4
          obtain ⟨ok6, ef6⟩ := ok.parted ad.at_ (a := (insL x k).take 4) (b := (insL x k).drop 4) (by rw [List.length_take]; (clear er e5 hi5 ll hc4 ei fle yl hc3 e2 e1 hDD hD x8 jl hc ec em hi2 hpos ce nk sh lA ho ef ck hi hl hMOST_IN_LEAF; omega)) (by rw [List.length_drop]; (clear er e5 hi5 ll hc4 ei fle yl hc3 e2 e1 hDD hD x8 jl hc ec em hi2 hpos ce nk sh lA ho ef ck hi hl hMOST_IN_LEAF; omega)) up5
          rw [List.take_append_drop] at ef6
          refine q H6 _ _ ⟨L, A6, _, hb6, ok6, rfl, fun b => Iff.rfl⟩ (fun z => ?_) (fr.trans (f4.trans f6))
          rw [ef6, mem4, ef]
        · refine iteND (by rw [ll]; (clear ll hc4 il ei fle yl hc3 e2 e1 hDD hD jl hc ec em hi2 hpos ce nk sh lA ho ef ck hi hl hMOST_IN_LEAF; omega)) ?_
          have ok4 := ok.grown ad.at_ (y := insL x k) (by (clear c9 ll hc4 ei fle yl hc3 e2 e1 hDD hD x8 jl hc ec em hi2 hpos ce nk sh lA ho ef ck hi hl hMOST_IN_LEAF; omega)) (by (clear ll hc4 ei fle yl hc3 e2 e1 hDD hD jl hc ec em hi2 hpos ce nk sh lA ho ef ck hi hl hMOST_IN_LEAF; omega)) up4
          exact q H4 _ _ ⟨L, A, _, hb4, ok4, rfl, fun b => Iff.rfl⟩ (fun z => by rw [mem4, ef]) (fr.trans f4)
def sp_Leaves__join_small (t : Adr) : Sp := fun vs H Q _ => ∃ (a L : Addr) (A : List Addr) (ls : List (List Int)) (i : Int), vs = [.ref a, .int i] ∧ LvB t H a L A ls ∧ -1 ≤ i ∧ i < (ls.length : Int) ∧ (∀ l ∈ ls, l.length ≤ 8) ∧ ls.length < 5000 ∧
  ∀ H' A' ls', LvB t H' a L A' ls' → ls' = (if 0 ≤ i then joinL ls i.toNat else ls) → Fr (LvF a L A) (LvF a L A') H H' → Q .non H'
theorem mem_set2 {A : List Addr} {i : Nat} {n b : Addr} (h : b ∈ A.set i n) : b ∈ A ∨ b = n := List.mem_or_eq_of_mem_set h
theorem ok_Leaves__join_small (T : Txt K mg t) : FnOk P w K mg base CX0 1 t.a_Leaves__join_small t.d_Leaves__join_small ["self", "at"] (sp_Leaves__join_small t) := by
  obtain ⟨tk_LEAST_IN_TWO, hLEAST_IN_TWO⟩ := T.g_LEAST_IN_TWO
  refine T.F_Leaves__join_small.ok sc_Leaves__join_small (fun vs H Q E h => ?_) (fun cdv A outer s H vs Q E hr h => ?_)
  · obtain ⟨a, L, A, ls, i, rfl, _⟩ := h
    rfl
  · obtain ⟨a, L, A, ls, i, rfl, hb, i0, i1, l8, ll, q⟩ := h
    refine ⟨_, (pss_cons (ps_if (PW.pt (pw_or (pt_cmpR op_lt (pv 1) pe_int (nomark _)) (pw_or1 (pt_cmpR op_eq (pe_op op_add (pv 1) pe_int) (pe_callB call_len_seq (by rfl) T.z_len bt_len (pa_cons (pe_fld (pv 0) rfl) pa_nil)) (nomark _)))))
          (pss_one ps_retN)
          pss_nil)
          (pss_cons (ps_set (i := 2) sc_Leaves__join_small.nd rfl (Or.inl rfl) (pe_op op_cat (pe_ix ix_list (pe_fld (pv 0) rfl) (pv 1) (fun _ _ => rfl)) (pe_ix ix_list (pe_fld (pv 0) rfl) (pe_op op_add (pv 1) pe_int) (fun _ _ => rfl))))
          (pss_one (ps_if (pt_cmpR op_lt (pe_callB call_len_seq (by rfl) T.z_len bt_len (pa_cons (pv 2) pa_nil)) (pe_glob (v := .int 5) (by rfl) hLEAST_IN_TWO ⟨_, rfl⟩) (nomark _))
          (pss_cons (ps_asg (pv 2) (pg_sub (pe_fld (pv 0) rfl) (pv 1) set_list))
          (pss_one (ps_expr (pe_bm PySem.F.plainAttrs_list PySem.F.slot_list_pop PySem.F.type_list_pop mt_popAt (pe_fld (pv 0) rfl) (pa_cons (pe_op op_add (pv 1) pe_int) pa_nil)))))
          pss_nil))))
      , ?_⟩
    obtain ⟨dx, ho⟩ := hb.obj
    have lA : ((A.map V.ref).length : Int) = (ls.length : Int) := by rw [List.length_map, hb.len]
    by_cases c0 : i < 0
    · refine ⟨_, rfl, _, _, rfl, rfl, _, rfl, iteD c0 ?_⟩
      exact iteT (q H A ls hb (by rw [if_neg (by (clear lA ho ll i1 i0 hLEAST_IN_TWO; omega))]) Fr.refl)
    refine ⟨_, rfl, _, _, rfl, rfl, _, rfl, iteND c0 ?_⟩
    obtain ⟨n, rfl⟩ := Int.eq_ofNat_of_zero_le (show 0 ≤ i by (clear lA ho ll i1 i0 hLEAST_IN_TWO; omega))
    have en : ((n : Int)).toNat = n := Int.toNat_natCast n
    rw [if_pos (by (clear en c0 i1 i0 lA ho ll hLEAST_IN_TWO; omega)), en] at q
    refine ⟨_, rfl, _, _, rfl, rfl, _, rfl, a, _, dx, _, _, rfl, ho, T.cl_Leaves, T.na_Leaves_leaves, lv_lk, L, _, rfl, .inl (SqL.of hb.lst), rfl, _, rfl, ?_⟩
    by_cases c1 : n + 1 = ls.length
    · refine iteE (congrArg V.int (by rw [lA]; (clear en c0 i1 i0 lA ho ll hLEAST_IN_TWO; omega))) ?_
      exact q H A ls hb (joinL_no (by (clear en c0 i1 i0 lA ho ll hLEAST_IN_TWO; omega))).symm Fr.refl
    refine iteND (fun w => c1 (by have := V.int.inj w; rw [lA] at this; (clear w c1 en c0 i1 i0 lA ho ll hLEAST_IN_TWO; omega))) ?_
    have hn : n < ls.length := by (clear c1 en c0 i0 lA ho ll hLEAST_IN_TWO; omega)
    have hn1 : n + 1 < ls.length := by (clear hn en c0 i0 lA ho ll hLEAST_IN_TWO; omega)
    have ex : ls[n]? = some ls[n] := List.getElem?_eq_getElem hn
    have ey : ls[n + 1]? = some ls[n + 1] := List.getElem?_eq_getElem hn1
    have x8 := l8 _ (List.getElem_mem hn)
    have y8 := l8 _ (List.getElem_mem hn1)
    generalize ls[n] = x at ex x8
    generalize ls[n + 1] = y at ey y8
    obtain ⟨c, ec, hc⟩ := hb.at ex
    obtain ⟨d, ed, hd⟩ := hb.at ey
    have ec1 : (n : Int) + 1 = ((n + 1 : Nat) : Int) := rfl
    refine ⟨_, rfl, a, _, dx, _, _, rfl, ho, T.cl_Leaves, T.na_Leaves_leaves, lv_lk, _, rfl, L, _, _, _, rfl, rfl, SqL.of hb.lst, mapR_at ec, _, rfl, a, _, dx, _, _, rfl, ho, T.cl_Leaves, T.na_Leaves_leaves, lv_lk, _, rfl, _, _, rfl, rfl, L, _, _, _, rfl, rfl, SqL.of hb.lst, mapR_at ed, c, d, _, _, rfl, rfl, hc, hd, Nat.le_of_lt (small1000 (by rw [List.length_map, List.length_map]; (clear ec1 hd ed hc ec ey ex hn1 hn c1 en c0 i1 i0 lA ho ll hLEAST_IN_TWO; omega))), fun bo nbo => ?_⟩
    rw [← List.map_append]
    have s1 : Same H (upd H bo (.lst ((x ++ y).map V.int))) := same_new nbo
    have hb1 := hb.same s1
    have hbo : upd H bo (.lst ((x ++ y).map V.int)) bo = some (.lst ((x ++ y).map V.int)) := upd_same
    have nF := hb.out nbo
    have ho1 := s1 _ _ ho
    have hL1 := s1 _ _ hb.lst
    generalize upd H bo (.lst ((x ++ y).map V.int)) = H1 at s1 hb1 hbo ho1 hL1 ⊢
    refine ⟨_, rfl, bo, _, rfl, .inl (SqL.of hbo), _, _, rfl, rfl, _, rfl, ?_⟩
    have lxy : (((x ++ y).map V.int).length : Int) = (x.length : Int) + (y.length : Int) := by rw [List.length_map, List.length_append]; rfl
    rw [joinL_at ex ey] at q
    by_cases c5 : x.length + y.length < 5
    · refine iteD (by rw [lxy]; (clear lxy hL1 ho1 hbo nF nbo ec1 hd ed hc ec y8 ey x8 ex hn1 hn c1 en c0 i1 i0 lA ho ll hLEAST_IN_TWO; omega)) ?_
      rw [if_pos c5] at q
      have nA : n < A.length := by rw [hb.len]; exact hn
      refine ⟨_, rfl, _, rfl, a, _, dx, _, _, rfl, ho1, T.cl_Leaves, T.na_Leaves_leaves, lv_lk, _, rfl, L, _, _, _, rfl, rfl, hL1, ix_natL nA, ?_⟩
      have es : (A.map V.ref).set n (V.ref bo) = (A.set n bo).map V.ref := by rw [List.map_set]
      rw [es]
      have hb2 := hb1.swap ec ex hbo nF
      obtain ⟨dx2, ho2⟩ := hb2.obj
      have hL2 := hb2.lst
      have f2 : Fr (LvF a L A) (LvF a L (A.set n bo)) H (upd H1 L (.lst ((A.set n bo).map V.ref))) := fun b o n' w => by
        have w1 := s1 _ _ w
        refine ⟨by rw [upd_ne (fun y => n' (.inr (.inl y)))]; exact w1, fun y => ?_⟩
        rcases y with y | y | y
        · exact n' (.inl y)
        · exact n' (.inr (.inl y))
        · rcases mem_set2 y with y | y
          · exact n' (.inr (.inr y))
          · rw [y, nbo] at w; cases w
      generalize upd H1 L (.lst ((A.set n bo).map V.ref)) = H2 at hb2 ho2 hL2 f2 ⊢
      have lS : ((A.set n bo).map V.ref).length = ls.length := by rw [List.length_map, List.length_set, hb.len]
      have hn2 : n + 1 < (A.set n bo).length := by rw [List.length_set, hb.len]; exact hn1
      have sx : seqIndex? ((n : Int) + 1) ((A.set n bo).map V.ref).length = some (n + 1) := by
        have := seqIndex_of (k := (n : Int) + 1) (n := ((A.set n bo).map V.ref).length) (by (clear hn2 lS hL2 ho2 es nA c5 lxy hL1 ho1 hbo nF nbo ec1 hd ed hc ec y8 ey x8 ex hn1 hn c1 en c0 i1 i0 lA ho ll hLEAST_IN_TWO; omega)) (by rw [lS]; (clear hn2 lS hL2 ho2 es nA c5 lxy hL1 ho1 hbo nF nbo ec1 hd ed hc ec y8 ey x8 ex hn1 hn en c0 i0 lA ho ll hLEAST_IN_TWO; omega))
        rw [this]
        congr 1
      refine ⟨_, rfl, a, _, dx2, _, _, rfl, ho2, T.cl_Leaves, T.na_Leaves_leaves, lv_lk, .inl ⟨rfl, _, SqL.of hL2⟩, _, rfl, _, _, rfl, rfl, L, _, _, n + 1, _, rfl, rfl, hL2, (by (clear sx hn2 lS hL2 ho2 es nA c5 lxy hL1 ho1 hbo nF nbo ec1 hd ed hc ec y8 ey x8 ex hn1 hn c1 en c0 i1 i0 lA ho ll hLEAST_IN_TWO; omega)), (by (clear sx hn2 lS hL2 ho2 es nA c5 lxy hL1 ho1 hbo nF nbo ec1 hd ed hc ec y8 ey x8 ex hn1 hn c1 en c0 i0 lA ho hLEAST_IN_TWO; omega)), sx, (by rw [List.getElem?_map, List.getElem?_eq_getElem hn2]; rfl), ?_⟩
      have hb3 := hb2.erase (i := n + 1)
      have em : ((A.set n bo).map V.ref).eraseIdx (n + 1) = ((A.set n bo).eraseIdx (n + 1)).map V.ref := erase_mapR _ _
      rw [em]
      refine q _ _ _ hb3 rfl (f2.trans fun b o n' w => ?_)
      refine ⟨by rw [upd_ne (fun y => n' (.inr (.inl y)))]; exact w, fun y => ?_⟩
      rcases y with y | y | y
      · exact n' (.inl y)
      · exact n' (.inr (.inl y))
      · exact n' (.inr (.inr (List.mem_of_mem_eraseIdx y)))
    · refine iteND (by rw [lxy]; (clear lxy hL1 ho1 hbo nF nbo ec1 hd ed hc ec y8 ey x8 ex hn1 hn c1 en c0 i1 i0 lA ho ll hLEAST_IN_TWO; omega)) ?_
      rw [if_neg c5] at q
      exact q H1 A ls hb1 rfl (Fr.of_same s1)
theorem ok_Leaves__discard (T : Txt K mg t) : FnOk P w K mg base (CX1 P w) 3 t.a_Leaves__discard t.d_Leaves__discard ["self", "key"] (sp_Leaves__discard K t) := by
  have G_Leaves__has : FnOk P w K mg base CX0 2 t.a_Leaves__has t.d_Leaves__has ["self", "key"] (sp_Leaves__has K t) := ok_Leaves__has T
  have G_Leaves__join_small : FnOk P w K mg base CX0 1 t.a_Leaves__join_small t.d_Leaves__join_small ["self", "at"] (sp_Leaves__join_small t) := ok_Leaves__join_small T
  have G_Leaves__leaf_of : FnOk P w K mg base CX0 1 t.a_Leaves__leaf_of t.d_Leaves__leaf_of ["self", "key"] (sp_Leaves__leaf_of t) := ok_Leaves__leaf_of T
  have G_NoKey__init : FnOk P w K mg base CX0 1 t.a_NoKey__init t.d_NoKey__init ["self", "key"] (sp_NoKey__init K) := ok_NoKey__init T
  refine T.F_Leaves__discard.okX sc_Leaves__discard (fun vs H Q E h => ?_) (fun cdv A outer s H vs Q E hr h => ?_)
  · obtain ⟨a, k, F, ks, rfl, _⟩ := h
    rfl
  · obtain ⟨a, k, F, ks, rfl, hA, hl, q1, q2⟩ := h
    refine ⟨_, (pss_cons (ps_if (pt_not (pt_val (pe_meth (pv 0) T.cl_Leaves T.me_Leaves_has G_Leaves__has (hr.mono (by decide)) T.b_Leaves__has .nil pass0 (pa_cons (pv 1) pa_nil))))
          (pss_one (ps_raise rfl throws1 (pe_makeX T.xc_NoKey T.ini_NoKey T.inf_NoKey G_NoKey__init (hr.mono (by decide)) (by rfl) T.mg_NoKey T.b_NoKey__init .nil pass0 (pa_cons (pv 1) pa_nil))))
          pss_nil)
          (pss_cons (ps_set (i := 2) sc_Leaves__discard.nd rfl (Or.inl rfl) (pe_meth (pv 0) T.cl_Leaves T.me_Leaves_leaf_of G_Leaves__leaf_of (hr.mono (by decide)) T.b_Leaves__leaf_of .nil pass0 (pa_cons (pv 1) pa_nil)))
          (pss_cons (ps_expr (pe_bm PySem.F.plainAttrs_list PySem.F.slot_list_remove PySem.F.type_list_remove mt_remove (pe_ix ix_list (pe_fld (pv 0) rfl) (pv 2) (fun _ _ => rfl)) (pa_cons (pv 1) pa_nil)))
          (pss_cons (ps_if (pt_cmpR op_eq (pe_callB call_len_seq (by rfl) T.z_len bt_len (pa_cons (pe_ix ix_list (pe_fld (pv 0) rfl) (pv 2) (fun _ _ => rfl)) pa_nil)) pe_int (nomark _))
          (pss_cons (ps_expr (pe_bm PySem.F.plainAttrs_list PySem.F.slot_list_pop PySem.F.type_list_pop mt_popAt (pe_fld (pv 0) rfl) (pa_cons (pv 2) pa_nil)))
          (pss_one ps_retN))
          pss_nil)
          (pss_cons (ps_expr (pe_meth (pv 0) T.cl_Leaves T.me_Leaves_join_small G_Leaves__join_small (hr.mono (by decide)) T.b_Leaves__join_small .nil pass0 (pa_cons (pv 2) pa_nil)))
          (pss_one (ps_expr (pe_meth (pv 0) T.cl_Leaves T.me_Leaves_join_small G_Leaves__join_small (hr.mono (by decide)) T.b_Leaves__join_small .nil pass0 (pa_cons (pe_op op_sub (pv 2) pe_int) pa_nil)))))))))
      , ?_⟩
    obtain ⟨dx, fs, hi, hm⟩ := hA.ins
    refine ⟨_, rfl, a, dx, fs, rfl, hi, hm _ (by decide +kernel), _, rfl, a, k, F, ks, rfl, hA, fun H0 F0 hA0 fr0 => ?_⟩
    by_cases ck : k ∈ ks
    case neg =>
      rw [decide_eq_false ck]
      refine ⟨_, rfl, iteT ?_⟩
      exact raise_key T.xc_NoKey T.na_NoKey_key (fun ea od H' hx hs => q2 ck ea od H' F0 hx (hA0.same hs) (fr0.trans (Fr.of_same hs))) rfl
    rw [decide_eq_true ck]
    refine ⟨_, rfl, iteF ?_⟩
    have q := q1 ck
    obtain ⟨L, A, ls, hb, ok, ef, hF⟩ := hA0
    obtain ⟨dx', ho⟩ := hb.obj
    have sh := ok.short
    rw [ef] at sh
    have fr : Fr F (LvF a L A) H H0 := fun b o n e => ⟨(fr0 b o n e).1, fun y => (fr0 b o n e).2 ((hF b).mpr y)⟩
    obtain ⟨dx2, fs2, hi2, hm2⟩ := hb.insM
    refine ⟨_, rfl, a, dx2, fs2, rfl, hi2, hm2 _ (by decide +kernel), _, rfl, a, k, L, A, ls, rfl, hb, ok.ne, ok.up, fun i li => ?_⟩
    obtain ⟨x, ex, hx⟩ := (li.mem ok).mp (by rw [ef]; exact ck)
    obtain ⟨c, ec, hc⟩ := hb.at ex
    have il : i < ls.length := (List.getElem?_eq_some_iff.mp ex).1
    have ilA : i < A.length := by rw [hb.len]; exact il
    refine ⟨_, rfl, a, _, dx', _, _, rfl, ho, T.cl_Leaves, T.na_Leaves_leaves, lv_lk, _, rfl, L, _, _, _, rfl, rfl, SqL.of hb.lst, mapR_at ec, .inl ⟨rfl, _, SqL.of hc⟩, _, rfl, c, x, k, rfl, rfl, hc, hx, ?_⟩
    have hb1 := hb.write (y := x.erase k) ec ex
    obtain ⟨up1, mem1⟩ := ok.gone ex hx
    have cF : LvF a L A c := .inr (.inr (List.mem_of_getElem? ec))
    have f1 : Fr (LvF a L A) (LvF a L A) H0 (upd H0 c (.lst ((x.erase k).map V.int))) := fun b o n w => ⟨by rw [upd_ne (fun y => n (by rw [y]; exact cF))]; exact w, n⟩
    have hc1 : upd H0 c (.lst ((x.erase k).map V.int)) c = some (.lst ((x.erase k).map V.int)) := upd_same
    obtain ⟨dx1, ho1⟩ := hb1.obj
    have hL1 := hb1.lst
    generalize upd H0 c (.lst ((x.erase k).map V.int)) = H1 at hb1 f1 hc1 ho1 hL1 ⊢
    have le := List.length_erase_of_mem hx
    refine ⟨_, rfl, a, _, dx1, _, _, rfl, ho1, T.cl_Leaves, T.na_Leaves_leaves, lv_lk, _, rfl, L, _, _, _, rfl, rfl, SqL.of hL1, mapR_at ec, c, _, rfl, .inl (SqL.of hc1), rfl, _, rfl, ?_⟩
    have px := List.length_pos_of_mem hx
    by_cases c0 : x.length = 1
    · refine iteE (congrArg V.int (by rw [List.length_map, le, c0]; rfl)) ?_
      have en : x.erase k = [] := List.length_eq_zero_iff.mp (by (clear px hL1 ho1 hc1 ilA il hc ec ex hi2 sh ho ef hi hl; omega))
      rw [en] at up1 mem1 hb1
      have sx : seqIndex? (i : Int) (A.map V.ref).length = some i := by
        have := seqIndex_of (k := (i : Int)) (n := (A.map V.ref).length) (by (clear en c0 px le hL1 ho1 hc1 ilA il hc ec ex hi2 sh ho ef hi hl; omega)) (by rw [List.length_map]; (clear en c0 px le hL1 ho1 hc1 il hc ec ex hi2 sh ho ef hi hl; omega))
        rw [this, Int.toNat_natCast]
      refine ⟨_, rfl, a, _, dx1, _, _, rfl, ho1, T.cl_Leaves, T.na_Leaves_leaves, lv_lk, .inl ⟨rfl, _, SqL.of hL1⟩, _, rfl, L, _, _, i, _, rfl, rfl, hL1, (by (clear sx en c0 px le hL1 ho1 hc1 ilA il hc ec ex hi2 sh ho ef hi hl; omega)), (by (clear sx en c0 px le hL1 ho1 hc1 ilA hc ec ex hi2 ho ef hi; omega)), sx, (by rw [List.getElem?_map, ec]; rfl), ?_⟩
      have hb2 := hb1.erase (i := i)
      have e2 : (ls.set i ([] : List Int)).eraseIdx i = ls.eraseIdx i := erase_set _ _ _
      rw [e2] at hb2
      rw [erase_mapR]
      obtain ⟨ok2, ef2⟩ := ok.out ex c0 up1
      refine q _ _ _ ⟨L, _, _, hb2, ok2, rfl, fun b => Iff.rfl⟩ (fun z => by rw [ef2, mem1, ef]) ((fr.trans f1).trans fun b o n w => ?_)
      refine ⟨by rw [upd_ne (fun y => n (.inr (.inl y)))]; exact w, fun y => ?_⟩
      rcases y with y | y | y
      · exact n (.inl y)
      · exact n (.inr (.inl y))
      · exact n (.inr (.inr (List.mem_of_mem_eraseIdx y)))
    · refine iteND (fun w => c0 (by have := V.int.inj w; rw [List.length_map, le] at this; (clear w c0 le hL1 ho1 hc1 ilA il hc ec ex hi2 sh ho ef hi hl; omega))) ?_
      have ny : x.erase k ≠ [] := List.ne_nil_of_length_pos (by (clear hL1 ho1 hc1 ilA il hc ec ex hi2 sh ho ef hi hl; omega))
      have w1 := ok.shrunk ex ny (by (clear ny c0 px hL1 ho1 hc1 ilA il hc ec ex hi2 sh ho ef hi hl; omega)) up1
      obtain ⟨dx3, fs3, hi3, hm3⟩ := hb1.insM
      have ls1 : (ls.set i (x.erase k)).length = ls.length := List.length_set
      refine ⟨_, rfl, a, dx3, fs3, rfl, hi3, hm3 _ (by decide +kernel), _, rfl, a, L, A, _, (i : Int), rfl, hb1, by (clear ls1 hi3 ny c0 px le hL1 ho1 hc1 ilA il hc ec ex hi2 sh ho ef hi hl; omega), by rw [ls1]; (clear ls1 hi3 ny c0 px le hL1 ho1 hc1 ilA hc ec ex hi2 sh ho ef hi hl; omega), w1.le, by rw [ls1]; (clear ls1 hi3 ny c0 px le hL1 ho1 hc1 ilA il hc ec ex hi2 ho ef hi; omega), fun H2 A2 ls2 hb2 e2 f2 => ?_⟩
      rw [if_pos (by (clear e2 ls1 hi3 ny c0 px le hL1 ho1 hc1 ilA il hc ec ex hi2 sh ho ef hi hl; omega)), Int.toNat_natCast] at e2
      obtain ⟨w2, fl2⟩ := w1.join (i := i) (fun j h => h)
      rw [← e2] at w2 fl2
      have l2 : i ≤ ls2.length ∧ ls2.length ≤ ls.length := by
        have := joinL_len (ls := ls.set i (x.erase k)) (i := i)
        rw [← e2, ls1] at this
        (clear fl2 e2 ls1 hi3 ny c0 px le hL1 ho1 hc1 ilA hc ec ex hi2 sh ho ef hi hl; omega)
      obtain ⟨dx4, fs4, hi4, hm4⟩ := hb2.insM
      refine ⟨_, rfl, a, dx4, fs4, rfl, hi4, hm4 _ (by decide +kernel), _, rfl, _, _, rfl, rfl, a, L, A2, ls2, (i : Int) - 1, rfl, hb2, by (clear hi4 l2 fl2 e2 ls1 hi3 ny c0 px le hL1 ho1 hc1 ilA il hc ec ex hi2 sh ho ef hi hl; omega), by (clear hi4 fl2 e2 ls1 hi3 ny c0 px le hL1 ho1 hc1 ilA il hc ec ex hi2 sh ho ef hi hl; omega), w2.le, by (clear hi4 fl2 e2 ls1 hi3 ny c0 px le hL1 ho1 hc1 ilA il hc ec ex hi2 ho ef hi; omega), fun H3 A3 ls3 hb3 e3 f3 => ?_⟩
      have fin : LvOk ls3 ∧ ls3.flatten = ls2.flatten := by
        by_cases ci : i = 0
        · subst ci
          rw [if_neg (by (clear e3 l2 fl2 e2 ls1 ilA il ec ex hi4 hi3 ny c0 px le hL1 ho1 hc1 hc hi2 sh ho ef hi hl; omega))] at e3
          subst e3
          exact ⟨w2.ok fun j h => by (clear l2 fl2 e2 ls1 ilA il ec ex hi4 hi3 ny c0 px le hL1 ho1 hc1 hc hi2 sh ho ef hi hl; omega), rfl⟩
        · have ei : ((i : Int) - 1).toNat = i - 1 := by (clear ci e3 hi4 l2 fl2 e2 ls1 hi3 ny c0 px le hL1 ho1 hc1 ilA il hc ec ex hi2 sh ho ef hi hl; omega)
          rw [if_pos (by (clear ei e3 hi4 l2 fl2 e2 ls1 hi3 ny c0 px le hL1 ho1 hc1 ilA il hc ec ex hi2 sh ho ef hi hl; omega)), ei] at e3
          obtain ⟨w3, fl3⟩ := w2.join (i := i - 1) (fun j h => by (clear ei ci e3 hi4 l2 fl2 e2 ls1 hi3 ny c0 px le hL1 ho1 hc1 ilA il hc ec ex hi2 sh ho ef hi hl; omega))
          rw [← e3] at w3 fl3
          exact ⟨w3.ok fun j h => by (clear fl3 ei ci e3 hi4 l2 fl2 e2 ls1 hi3 ny c0 px le hL1 ho1 hc1 ilA il hc ec ex hi2 sh ho ef hi hl; omega), fl3⟩
      obtain ⟨ok3, ef3⟩ := fin
      refine q H3 _ _ ⟨L, A3, ls3, hb3, ok3, rfl, fun b => Iff.rfl⟩ (fun z => by rw [ef3, fl2, mem1, ef]) (((fr.trans f1).trans f2).trans f3)
def WFrom (a l : Addr) (k n : Int) (ls : List (List Int)) (H : Hp) : Nat → St → Hp → Prop := fun m σ H' => ∃ (i : Nat), m = ls.length - i ∧ Same H H' ∧ H l = none ∧ σ = [some (.ref a), some (.int k), some (.int n), some (.ref l), some (.int (i : Int))] ∧ i ≤ ls.length ∧ H' l = some (.lst ((((ls.take i).flatten).filter fun z => decide (k ≤ z)).map V.int))
theorem flat_take {ls : List (List Int)} {i : Nat} {x : List Int} (e : ls[i]? = some x) : (ls.take (i + 1)).flatten = (ls.take i).flatten ++ x := by
  rw [List.take_add_one, e, List.flatten_append]
  simp
theorem flat_cut (ls : List (List Int)) (i : Nat) : ls.flatten = (ls.take i).flatten ++ (ls.drop i).flatten := by rw [← List.flatten_append, List.take_append_drop]
theorem ok_Leaves__from_on (T : Txt K mg t) : FnOk P w K mg base CX0 2 t.a_Leaves__from_on t.d_Leaves__from_on ["self", "key", "most"] (sp_Leaves__from_on K t) := by
  have G_Leaves__leaf_of : FnOk P w K mg base CX0 1 t.a_Leaves__leaf_of t.d_Leaves__leaf_of ["self", "key"] (sp_Leaves__leaf_of t) := ok_Leaves__leaf_of T
  refine T.F_Leaves__from_on.ok sc_Leaves__from_on (fun vs H Q E h => ?_) (fun cdv A outer s H vs Q E hr h => ?_)
  · obtain ⟨a, k, n, F, ks, rfl, _⟩ := h
    rfl
  · obtain ⟨a, k, n, F, ks, rfl, hA, hl, n0, q⟩ := h
    refine ⟨_, (pss_cons (ps_set (i := 3) sc_Leaves__from_on.nd rfl (Or.inl rfl) (pe_lst pa_nil))
          (pss_cons (ps_set (i := 4) sc_Leaves__from_on.nd rfl (Or.inl rfl) (pe_meth (pv 0) T.cl_Leaves T.me_Leaves_leaf_of G_Leaves__leaf_of (hr.mono (by decide)) T.b_Leaves__leaf_of .nil pass0 (pa_cons (pv 1) pa_nil)))
          (pss_cons (ps_while PassesOwn.never (PW.pt (pw_and (pt_cmpR op_lt (pv 4) (pe_callB call_len_seq (by rfl) T.z_len bt_len (pa_cons (pe_fld (pv 0) rfl) pa_nil)) (nomark _)) (pw_and1 (pt_cmpR op_lt (pe_callB call_len_seq (by rfl) T.z_len bt_len (pa_cons (pv 3) pa_nil)) (pv 2) (nomark _)))))
          (pss_cons (ps_expr (pe_bm PySem.F.plainAttrs_list PySem.F.slot_list_extend PySem.F.type_list_extend mt_extend (pv 3) (pa_cons (pe_compI rfl (CScope.of (N := ["self", "key", "most", "told", "at"]) (N' := ["self", "key", "most", "told", "at"]) (dsc := defScope s_Leaves__from_on) rfl rfl (by decide +kernel)) (pi_list (pe_ix ix_list (pe_fld (pv 0) rfl) (pv 4) (fun _ _ => rfl))) (fun _ _ _ _ _ => (pt_cmpR op_ge (pv 0) (pv 2) (nomark _))) (fun _ _ _ _ _ => (pv 0))) pa_nil)))
          (pss_one (ps_aug (i := 4) sc_Leaves__from_on.nd rfl (Or.inl rfl) pe_int ip_add))))
          (pss_one (ps_ret (pe_slice sl_list (pv 3) po_none (po_some (pv 2))))))))
      , ?_⟩
    obtain ⟨L, A, ls, hb, ok, ef, hF⟩ := hA
    refine ⟨Nat.zero_le _, fun l nl => ?_⟩
    have s0 : Same H (upd H l (.lst [])) := same_new nl
    have e0 : upd H l (.lst []) l = some (.lst (([] : List Int).map V.int)) := upd_same
    have hb0 := hb.same s0
    generalize upd H l (.lst []) = H0 at s0 e0 hb0 ⊢
    obtain ⟨dx2, fs2, hi2, hm2⟩ := hb0.insM
    refine ⟨_, rfl, a, dx2, fs2, rfl, hi2, hm2 _ (by decide +kernel), _, rfl, a, k, L, A, ls, rfl, hb0, ok.ne, ok.up, fun i0 li => ?_⟩
    have f0 : ((ls.take i0).flatten).filter (fun z => decide (k ≤ z)) = [] := List.filter_eq_nil_iff.mpr fun z hz => by
      have := from_flat ok li z hz
      simpa using this
    have lA : ((A.map V.ref).length : Int) = (ls.length : Int) := by rw [List.length_map, hb.len]
    refine ⟨WFrom a l k n ls H, ⟨_, i0, rfl, s0, nl, rfl, li.le, by rw [f0]; exact e0⟩, ?_⟩
    rintro m σ H' ⟨i, rfl, s1, _, rfl, il, e1⟩
    have hb1 := hb.same s1
    obtain ⟨dx1, ho1⟩ := hb1.obj
    have fin : ∀ (done : ((((ls.take i).flatten).filter fun z => decide (k ≤ z)).take n.toNat) = (ks.filter fun z => decide (k ≤ z)).take n.toNat), ∀ p, H' p = none → Q (.ref p) (upd H' p (.lst (cutV ((((ls.take i).flatten).filter fun z => decide (k ≤ z)).map V.int) none (some n)))) := fun done p np => by
      refine q _ p (s1.trans (same_new np)) ?_ ?_
      · cases e : H p with
        | none => rfl
        | some o => rw [s1 _ _ e] at np; cases np
      · rw [upd_same, cut_take n0, ← List.map_take, done]
    refine ⟨_, rfl, _, rfl, a, _, dx1, _, _, rfl, ho1, T.cl_Leaves, T.na_Leaves_leaves, lv_lk, L, _, rfl, .inl (SqL.of hb1.lst), _, _, rfl, rfl, _, rfl, ?_⟩
    by_cases c : i < ls.length
    · refine iteD (by rw [lA]; (clear ho1 e1 il lA f0 hi2 e0 nl ef n0 hl; omega)) ?_
      refine ⟨_, rfl, l, _, rfl, .inl (SqL.of e1), _, rfl, _, _, rfl, rfl, _, rfl, ?_⟩
      by_cases c2 : ((((((ls.take i).flatten).filter fun z => decide (k ≤ z)).map V.int).length : Nat) : Int) < n
      · refine iteD c2 ?_
        refine ⟨fun σ' H'' => ∃ m', m' < ls.length - i ∧ WFrom a l k n ls H m' σ' H'', fun _ _ h => h, ?_⟩
        have ex : ls[i]? = some ls[i] := List.getElem?_eq_getElem c
        obtain ⟨b, eb, hbb⟩ := hb1.at ex
        have lb : l ≠ b := fun z => by
          obtain ⟨b', eb', h'⟩ := hb.at ex
          rw [eb] at eb'
          cases eb'
          rw [← z, nl] at h'
          cases h'
        have fl1 := List.length_filter_le (fun z => decide (k ≤ z)) (ls.take i).flatten
        have fl2 : (ls.take i).flatten.length + ls[i].length ≤ ks.length := by
          rw [← ef, flat_cut ls (i + 1), flat_take ex, List.length_append, List.length_append]
          (clear fl1 lb hbb eb ex c2 ho1 e1 il lA f0 hi2 e0 nl ef n0 hl; omega)
        refine ⟨_, rfl, .inl ⟨rfl, _, SqL.of e1⟩, _, rfl, a, _, dx1, _, _, rfl, ho1, T.cl_Leaves, T.na_Leaves_leaves, lv_lk, _, rfl, L, _, _, _, rfl, rfl, SqL.of hb1.lst, mapR_at eb, b, rfl, ⟨_, SqL.of hbb⟩, fun D hD => ?_⟩
        generalize ls[i] = x at ex hbb fl2 ⊢
        refine comp_listI (K := K) (a := b) (xs := x.map V.int) (fun m ys H3 => H3 = upd H' D (.lst ys) ∧ ys = ((x.take m).filter (fun z => decide (k ≤ z))).map V.int) ⟨rfl, rfl⟩ (fun m ys H3 _ w => SqL.of (by rw [w.1, upd_ne (ne_of_none hbb hD)]; exact hbb)) (fun m v ys H3 hv w hDD => ?_) (fun ys H3 w hDD => ?_)
        · obtain ⟨w1, w2⟩ := w
          obtain ⟨g, rfl, eg⟩ : ∃ g : Int, v = .int g ∧ x[m]? = some g := by
            rw [List.getElem?_map] at hv
            cases e : x[m]? with
            | none => rw [e] at hv; cases hv
            | some g => rw [e] at hv; cases hv; exact ⟨g, rfl, rfl⟩
          have hn : m < (x.map V.int).length := (List.getElem?_eq_some_iff.mp hv).1
          refine ⟨_, rfl, _, rfl, _, _, rfl, rfl, _, rfl, ?_⟩
          have fl : ys.length ≤ 100000 := by
            rw [w2, List.length_map]
            have h1 := List.length_filter_le (fun z => decide (k ≤ z)) (x.take m)
            have h2 : (x.take m).length ≤ x.length := by rw [List.length_take]; (clear h1 hn hv eg w2 w1 hDD fl2 hbb ex hD fl1 lb eb c2 c ho1 e1 il lA f0 hi2 e0 nl ef n0 hl; omega)
            (clear hn hv eg w2 w1 hDD hbb ex hD fl1 lb eb c2 c ho1 e1 il lA f0 hi2 e0 nl ef n0; omega)
          by_cases cg : k ≤ g
          · refine iteD cg ⟨_, rfl, CNext.mk hn hDD (small1e5 fl) ⟨by rw [w1, upd_upd], ?_⟩⟩
            rw [w2, List.take_add_one, eg, List.filter_append, List.map_append]
            simp [cg]
          · refine iteND cg (CSkip.mk hn hDD ⟨w1, ?_⟩)
            rw [w2, List.take_add_one, eg, List.filter_append]
            simp [cg]
        · obtain ⟨w1, w2⟩ := w
          rw [List.length_map, List.take_length] at w2
          have s3 : Same H' H3 := by rw [w1]; exact same_new hD
          have e3 := s3 _ _ e1
          have fle := List.length_filter_le (fun z => decide (k ≤ z)) x
          have hsz : ((((ls.take i).flatten).filter fun z => decide (k ≤ z)).map V.int).length + ys.length ≤ sizeLine := by
            rw [w2, List.length_map, List.length_map]
            exact Nat.le_of_lt (small1e5 (by (clear e3 w2 w1 hDD hbb ex hD lb eb c2 c ho1 e1 il lA f0 hi2 e0 nl ef n0; omega)))
          refine ⟨l, D, _, _, rfl, rfl, e3, hDD, hsz, ?_⟩
          have hE : (((ls.take i).flatten).filter fun z => decide (k ≤ z)).map V.int ++ ys = (((ls.take (i + 1)).flatten).filter fun z => decide (k ≤ z)).map V.int := by
            rw [w2, flat_take ex, List.filter_append, List.map_append]
          rw [hE]
          refine ⟨_, rfl, _, _, rfl, rfl, _, ?_, i + 1, rfl, ?_, nl, rfl, c, upd_same⟩
          · (clear hE hsz fle e3 w2 w1 hDD fl2 hbb ex hD fl1 lb eb c2 ho1 e1 il lA f0 hi2 e0 nl ef n0 hl; omega)
          · exact same_upd (s1.trans s3) nl
      · refine iteND c2 ?_
        refine ⟨_, rfl, _, rfl, _, rfl, l, _, rfl, SqL.of e1, fin ?_⟩
        have : ks.filter (fun z => decide (k ≤ z)) = ((ls.take i).flatten).filter (fun z => decide (k ≤ z)) ++ ((ls.drop i).flatten).filter (fun z => decide (k ≤ z)) := by rw [← ef, flat_cut ls i, List.filter_append]
        rw [this, List.take_append_of_le_length]
        rw [List.length_map] at c2
        (clear this c ho1 e1 il lA f0 hi2 e0 nl ef n0 hl; omega)
    · refine iteND (by rw [lA]; (clear ho1 e1 il lA f0 hi2 e0 nl ef n0 hl; omega)) ?_
      have ei : i = ls.length := by (clear ho1 e1 lA f0 hi2 e0 nl ef n0 hl; omega)
      subst ei
      refine ⟨_, rfl, _, rfl, _, rfl, l, _, rfl, SqL.of e1, fin ?_⟩
      rw [List.take_length, ef]
def WDn (a l : Addr) (k : Option Int) (n : Int) (ls : List (List Int)) (H : Hp) : Nat → St → Hp → Prop := fun m σ H' => Same H H' ∧ H l = none ∧ m ≤ ls.length ∧ σ = [some (.ref a), some (vDn k), some (.int n), some (.ref l), some (.int ((m : Int) - 1))] ∧ H' l = some (.lst ((((ls.drop m).flatten).reverse.filter (okDn k)).map V.int))
theorem if_main {c : Prop} [Decidable c] {D : Ends} {A : Prop} {σ : St} {H : Hp} (Pv : St → Hp → Prop) (main : ∀ σ' H', Pv σ' H' → D.nx σ' H') (hA : c → (∀ σ' H', Pv σ' H' → D.nx σ' H') → A) (hB : Pv σ H) : if c then A else tNext D σ H := ite2 (fun h => hA h main) (fun _ => main _ _ hB)
theorem flat_drop {ls : List (List Int)} {i : Nat} {x : List Int} (e : ls[i]? = some x) : ((ls.drop i).flatten).reverse = ((ls.drop (i + 1)).flatten).reverse ++ x.reverse := by
  obtain ⟨h, e⟩ := List.getElem?_eq_some_iff.mp e
  rw [List.drop_eq_getElem_cons h, e, List.flatten_cons, List.reverse_append]
theorem down_none {k : Int} {ls : List (List Int)} {i0 : Nat} (ok : LvOk ls) (li : LeafOf ls k i0) : ((ls.drop (i0 + 1)).flatten).reverse.filter (okDn (some k)) = [] := List.filter_eq_nil_iff.mpr fun z hz => by
  have := li.behind ok z (List.mem_reverse.mp hz)
  simp only [okDn, decide_eq_true_eq]
  omega
theorem down_min {i0 len : Nat} : (if ((len : Int) - 1 < (i0 : Int)) then ((len : Int) - 1) else (i0 : Int)) = ((min (i0 + 1) len : Nat) : Int) - 1 := by
  split <;> omega
theorem down_min0 {k : Int} {ls : List (List Int)} {i0 : Nat} (ok : LvOk ls) (li : LeafOf ls k i0) : ((ls.drop (min (i0 + 1) ls.length)).flatten).reverse.filter (okDn (some k)) = [] := by
  rcases Nat.le_total (i0 + 1) ls.length with c | c
  · rw [Nat.min_eq_left c]; exact down_none ok li
  · rw [Nat.min_eq_right c, List.drop_length]; rfl
theorem ok_Leaves__down_from (T : Txt K mg t) : FnOk P w K mg base CX0 2 t.a_Leaves__down_from t.d_Leaves__down_from ["self", "key", "most"] (sp_Leaves__down_from K t) := by
  have G_Leaves__leaf_of : FnOk P w K mg base CX0 1 t.a_Leaves__leaf_of t.d_Leaves__leaf_of ["self", "key"] (sp_Leaves__leaf_of t) := ok_Leaves__leaf_of T
  refine T.F_Leaves__down_from.ok sc_Leaves__down_from (fun vs H Q E h => ?_) (fun cdv A outer s H vs Q E hr h => ?_)
  · obtain ⟨a, k, n, F, ks, rfl, _⟩ := h
    rfl
  · obtain ⟨a, k, n, F, ks, rfl, hA, hl, n0, q⟩ := h
    refine ⟨_, (pss_cons (ps_set (i := 3) sc_Leaves__down_from.nd rfl (Or.inl rfl) (pe_lst pa_nil))
          (pss_cons (ps_set (i := 4) sc_Leaves__down_from.nd rfl (Or.inl rfl) (pe_op op_sub (pe_callB call_len_seq (by rfl) T.z_len bt_len (pa_cons (pe_fld (pv 0) rfl) pa_nil)) pe_int))
          (pss_cons (ps_if (pt_cmpR op_notN (pv 1) pe_non (nomark _))
          (pss_one (ps_set (i := 4) sc_Leaves__down_from.nd rfl (Or.inl rfl) (pe_callB (call_min2 rfl) (by rfl) T.z_min bt_min (pa_cons (pe_meth (pv 0) T.cl_Leaves T.me_Leaves_leaf_of G_Leaves__leaf_of (hr.mono (by decide)) T.b_Leaves__leaf_of .nil pass0 (pa_cons (pv 1) pa_nil)) (pa_cons (pv 4) pa_nil)))))
          pss_nil)
          (pss_cons (ps_while PassesOwn.never (PW.pt (pw_and (pt_cmpR op_ge (pv 4) pe_int (nomark _)) (pw_and1 (pt_cmpR op_lt (pe_callB call_len_seq (by rfl) T.z_len bt_len (pa_cons (pv 3) pa_nil)) (pv 2) (nomark _)))))
          (pss_cons (ps_expr (pe_bm PySem.F.plainAttrs_list PySem.F.slot_list_extend PySem.F.type_list_extend mt_extend (pv 3) (pa_cons (pe_compI rfl (CScope.of (N := ["self", "key", "most", "told", "at"]) (N' := ["self", "key", "most", "told", "at"]) (dsc := defScope s_Leaves__down_from) rfl rfl (by decide +kernel)) (pi_rev (by rfl) T.z_reversed (pa_cons (pe_ix ix_list (pe_fld (pv 0) rfl) (pv 4) (fun _ _ => rfl)) pa_nil)) (fun _ _ _ _ _ => (PW.pt (pw_or (pt_cmpR op_isN (pv 2) pe_non (nomark _)) (pw_or1 (pt_cmpR op_le (pv 0) (pv 2) (nomark _)))))) (fun _ _ _ _ _ => (pv 0))) pa_nil)))
          (pss_one (ps_aug (i := 4) sc_Leaves__down_from.nd rfl (Or.inl rfl) pe_int ip_sub))))
          (pss_one (ps_ret (pe_slice sl_list (pv 3) po_none (po_some (pv 2)))))))))
      , ?_⟩
    obtain ⟨L, A, ls, hb, ok, ef, hF⟩ := hA
    refine ⟨Nat.zero_le _, fun l nl => ?_⟩
    have s0 : Same H (upd H l (.lst [])) := same_new nl
    have e0 : upd H l (.lst []) l = some (.lst (([] : List Int).map V.int)) := upd_same
    have hb0 := hb.same s0
    generalize upd H l (.lst []) = H0 at s0 e0 hb0 ⊢
    obtain ⟨dx0, ho0⟩ := hb0.obj
    have lA : ((A.map V.ref).length : Int) = (ls.length : Int) := by rw [List.length_map, hb.len]
    refine ⟨_, rfl, a, _, dx0, _, _, rfl, ho0, T.cl_Leaves, T.na_Leaves_leaves, lv_lk, L, _, rfl, .inl (SqL.of hb0.lst), _, _, rfl, rfl, ?_⟩
    rw [lA]
    refine ⟨_, rfl, rfl, _, rfl, if_main (fun σ' H' => ∃ m, WDn a l k n ls H m σ' H') (fun σ' H' wW => ?main) (fun c key => ?A) ⟨ls.length, s0, nl, Nat.le_refl _, rfl, by rw [List.drop_length]; exact e0⟩⟩
    case A =>
      cases k with
      | none => exact absurd c (by decide)
      | some k =>
        obtain ⟨dx2, fs2, hi2, hm2⟩ := hb0.insM
        refine ⟨_, rfl, a, dx2, fs2, rfl, hi2, hm2 _ (by decide +kernel), _, rfl, a, k, L, A, ls, rfl, hb0, ok.ne, ok.up, fun i0 li => ?_⟩
        refine ⟨_, rfl, _, _, rfl, ?_⟩
        dsimp only
        rw [down_min]
        exact key _ _ ⟨min (i0 + 1) ls.length, s0, nl, Nat.min_le_right _ _, rfl, by rw [down_min0 ok li]; exact e0⟩
    case main =>
      obtain ⟨m0, w0⟩ := wW
      refine ⟨WDn a l k n ls H, ⟨m0, w0⟩, ?_⟩
      rintro m σ H' ⟨s1, _, ml, rfl, e1⟩
      have hb1 := hb.same s1
      obtain ⟨dx1, ho1⟩ := hb1.obj
      have fin : ∀ (done : ((((ls.drop m).flatten).reverse.filter (okDn k)).take n.toNat) = (ks.reverse.filter (okDn k)).take n.toNat), ∀ p, H' p = none → Q (.ref p) (upd H' p (.lst (cutV ((((ls.drop m).flatten).reverse.filter (okDn k)).map V.int) none (some n)))) := fun done p np => by
        refine q _ p (s1.trans (same_new np)) ?_ ?_
        · cases e : H p with
          | none => rfl
          | some o => rw [s1 _ _ e] at np; cases np
        · rw [upd_same, cut_take n0, ← List.map_take, done]
      refine ⟨_, rfl, _, _, rfl, rfl, _, rfl, ?_⟩
      cases m with
      | zero =>
        refine iteND (by decide) ?_
        refine ⟨_, rfl, _, rfl, _, rfl, l, _, rfl, SqL.of e1, fin ?_⟩
        rw [List.drop_zero, ef]
      | succ i =>
        have im : ((i + 1 : Nat) : Int) - 1 = (i : Int) := by (clear e1 ml ho1 lA ho0 e0 nl ef n0 hl; omega)
        rw [im]
        refine iteD (by (clear im e1 ml ho1 lA ho0 e0 nl ef n0 hl; omega)) ?_
        refine ⟨_, rfl, l, _, rfl, .inl (SqL.of e1), _, rfl, _, _, rfl, rfl, _, rfl, ?_⟩
        by_cases c2 : ((((((ls.drop (i + 1)).flatten).reverse.filter (okDn k)).map V.int).length : Nat) : Int) < n
        · refine iteD c2 ?_
          refine ⟨fun σ' H'' => ∃ m', m' < i + 1 ∧ WDn a l k n ls H m' σ' H'', fun _ _ h => h, ?_⟩
          have ex : ls[i]? = some ls[i] := List.getElem?_eq_getElem ml
          obtain ⟨b, eb, hbb⟩ := hb1.at ex
          have fl1 := List.length_filter_le (okDn k) ((ls.drop (i + 1)).flatten).reverse
          have fl2 : ((ls.drop (i + 1)).flatten).reverse.length + ls[i].length ≤ ks.length := by
            rw [← ef, flat_cut ls (i + 1), flat_take ex, List.length_append, List.length_append, List.length_reverse]
            (clear fl1 hbb eb ex c2 im e1 ho1 lA ho0 e0 nl ef n0 hl; omega)
          refine ⟨_, rfl, .inl ⟨rfl, _, SqL.of e1⟩, _, rfl, a, _, dx1, _, _, rfl, ho1, T.cl_Leaves, T.na_Leaves_leaves, lv_lk, _, rfl, L, _, _, _, rfl, rfl, SqL.of hb1.lst, mapR_at eb, b, _, rfl, SqL.of hbb, fun D hD => ?_⟩
          generalize ls[i] = x at ex hbb fl2 ⊢
          refine comp_revI (K := K) (a := b) (xs := x.map V.int) (fun m ys H3 => H3 = upd H' D (.lst ys) ∧ ys = ((x.reverse.take m).filter (okDn k)).map V.int) ⟨rfl, rfl⟩ (fun m ys H3 _ w => SqL.of (by rw [w.1, upd_ne (ne_of_none hbb hD)]; exact hbb)) (fun m v ys H3 hv w hDD => ?_) (fun ys H3 w hDD => ?_)
          · obtain ⟨w1, w2⟩ := w
            obtain ⟨g, rfl, eg⟩ : ∃ g : Int, v = .int g ∧ x.reverse[m]? = some g := by
              rw [← List.map_reverse, List.getElem?_map] at hv
              cases e : x.reverse[m]? with
              | none => rw [e] at hv; cases hv
              | some g => rw [e] at hv; cases hv; exact ⟨g, rfl, rfl⟩
            have hn : m < (x.map V.int).length := by
              have := (List.getElem?_eq_some_iff.mp hv).1
              rwa [List.length_reverse] at this
            have fl : ys.length ≤ 100000 := by
              rw [w2, List.length_map]
              have h1 := List.length_filter_le (okDn k) (x.reverse.take m)
              have h2 : (x.reverse.take m).length ≤ x.reverse.length := by rw [List.length_take]; (clear h1 hn hv eg w2 w1 hDD fl2 hbb ex hD fl1 eb c2 im e1 ml ho1 lA ho0 e0 nl ef n0 hl; omega)
              rw [List.length_reverse] at h2
              (clear hn hv eg w2 w1 hDD hbb ex hD fl1 eb c2 im e1 ml ho1 lA ho0 e0 nl ef n0; omega)
            have yes : okDn k g = true → CNext (x.map V.int).length m ys D (fun m ys H3 => H3 = upd H' D (.lst ys) ∧ ys = ((x.reverse.take m).filter (okDn k)).map V.int) (.int g) H3 := fun cg => by
              refine CNext.mk hn hDD (small1e5 fl) ⟨by rw [w1, upd_upd], ?_⟩
              rw [w2, List.take_add_one, eg, List.filter_append, List.map_append]
              simp [cg]
            have no : okDn k g = false → CSkip (x.map V.int).length m ys D (fun m ys H3 => H3 = upd H' D (.lst ys) ∧ ys = ((x.reverse.take m).filter (okDn k)).map V.int) H3 := fun cg => by
              refine CSkip.mk hn hDD ⟨w1, ?_⟩
              rw [w2, List.take_add_one, eg, List.filter_append]
              simp [cg]
            refine ⟨_, rfl, rfl, _, rfl, ?_⟩
            cases k with
            | none => exact iteT (iteT ⟨_, rfl, yes rfl⟩)
            | some k =>
              refine iteF ⟨_, rfl, _, rfl, _, _, rfl, rfl, _, rfl, ?_⟩
              by_cases cg : g ≤ k
              · exact iteD cg ⟨_, rfl, yes (decide_eq_true cg)⟩
              · exact iteND cg (no (decide_eq_false cg))
          · obtain ⟨w1, w2⟩ := w
            rw [List.length_map, show x.length = x.reverse.length from List.length_reverse.symm, List.take_length] at w2
            have s3 : Same H' H3 := by rw [w1]; exact same_new hD
            have e3 := s3 _ _ e1
            have fle := List.length_filter_le (okDn k) x.reverse
            have hsz : ((((ls.drop (i + 1)).flatten).reverse.filter (okDn k)).map V.int).length + ys.length ≤ sizeLine := by
              rw [w2, List.length_map, List.length_map]
              rw [List.length_reverse] at fle
              exact Nat.le_of_lt (small1e5 (by (clear e3 w2 w1 hDD hbb ex hD eb c2 im e1 ml ho1 lA ho0 e0 nl ef n0; omega)))
            refine ⟨l, D, _, _, rfl, rfl, e3, hDD, hsz, ?_⟩
            have hE : (((ls.drop (i + 1)).flatten).reverse.filter (okDn k)).map V.int ++ ys = (((ls.drop i).flatten).reverse.filter (okDn k)).map V.int := by
              rw [w2, flat_drop ex, List.filter_append, List.map_append]
            rw [hE]
            refine ⟨_, rfl, _, _, rfl, rfl, i, Nat.lt_succ_self _, same_upd (s1.trans s3) nl, nl, Nat.le_of_lt ml, rfl, upd_same⟩
        · refine iteND c2 ?_
          refine ⟨_, rfl, _, rfl, _, rfl, l, _, rfl, SqL.of e1, fin ?_⟩
          have : ks.reverse.filter (okDn k) = ((ls.drop (i + 1)).flatten).reverse.filter (okDn k) ++ ((ls.take (i + 1)).flatten).reverse.filter (okDn k) := by rw [← ef, flat_cut ls (i + 1), List.reverse_append, List.filter_append]
          rw [this, List.take_append_of_le_length]
          rw [List.length_map] at c2
          (clear this im e1 ml ho1 lA ho0 e0 nl ef n0 hl; omega)
def sp__law_cell_at (K : PySem.W.Frag) : Sp := fun vs H Q _ => ∃ (a : Addr) (ns : List Int) (k : Int), vs = [.ref a, .int k] ∧ SqL K H a (ns.map V.int) ∧ 0 ≤ k ∧ Q (.int (ns.getD k.toNat 0)) H
theorem ok__law_cell_at (T : Txt K mg t) : FnOk P w K mg base CX0 1 t.a__law_cell_at t.d__law_cell_at ["_law_script", "_law_k"] (sp__law_cell_at K) := by
  refine T.F__law_cell_at.ok sc__law_cell_at (fun vs H Q E h => ?_) (fun cdv A outer s H vs Q E hr h => ?_)
  · obtain ⟨a, ns, i, rfl, _⟩ := h
    rfl
  · obtain ⟨a, ns, i, rfl, hS, h0, k⟩ := h
    refine ⟨_, (pss_cons (ps_if (pt_cmpR op_lt (pv 1) (pe_callB call_len_seq (by rfl) T.z_len bt_len (pa_cons (pv 0) pa_nil)) (nomark _))
          (pss_one (ps_ret (pe_ix ix_list (pv 0) (pv 1) (fun _ _ => rfl))))
          pss_nil)
          (pss_one (ps_ret pe_int)))
      , ?_⟩
    refine ⟨_, rfl, _, rfl, a, _, rfl, .inl hS, _, _, rfl, rfl, _, rfl, ?_⟩
    refine ite2 (fun c => ?_) (fun c => ?_)
    · have c := of_decide_eq_true c
      rw [List.length_map] at c
      exact ⟨_, rfl, _, rfl, a, _, _, _, rfl, rfl, hS, cell_atI h0 c, k⟩
    · have c : ¬ i < ((ns.map V.int).length : Int) := fun z => c (decide_eq_true z)
      rw [List.length_map] at c
      rw [cell_out c] at k
      exact k
theorem LvA.rise {H : Hp} {a : Addr} {F : Addr → Prop} {ks : List Int} (h : LvA K t H a F ks) : Rise ks := by
  obtain ⟨_, _, ls, _, ok, ef, _⟩ := h
  rw [← ef]
  exact ok.up
theorem SqF.wide {F : Addr → Prop} {H : Hp} {a l : Addr} {xs : List V} (h : SqF K F H a xs) (n : H l = none) : SqF K (fun b => F b ∨ b = l) H a xs := by
  rcases h with ⟨h, nF⟩ | h
  · refine .inl ⟨h, fun y => ?_⟩
    rcases y with y | y
    · exact nF y
    · rcases h with h | ⟨_, h⟩
      · rw [y, n] at h; cases h
      · rw [y, n] at h; cases h
  · exact .inr h
theorem cut_ints (ms : List Int) (lo hi : Option Int) : ∃ cs : List Int, cutV (ms.map V.int) lo hi = cs.map V.int ∧ cs.Sublist ms := by
  refine ⟨(ms.drop (HT.sIx (ms.map V.int).length 0 lo)).take (HT.sIx (ms.map V.int).length (ms.map V.int).length hi - HT.sIx (ms.map V.int).length 0 lo), ?_, ?_⟩
  · unfold cutV
    rw [List.map_take, List.map_drop]
  · exact (List.take_sublist _ _).trans (List.drop_sublist _ _)
theorem keysV_lift {kvs : List (Int × V)} : keysV (liftK kvs) = (kvs.map (·.1)).map V.int := by
  unfold keysV liftK
  rw [List.map_map, List.map_map]
  rfl
theorem fresh_of {H H2 : Hp} {p : Addr} (s : Same H H2) (n : H2 p = none) : H p = none := by
  cases e : H p with
  | none => rfl
  | some o => rw [s _ _ e] at n; cases n
theorem rest_in {α : Type} {C : α → Hp → Prop} {G : α → Hp → Prop} {g : Prop} (body : (∀ k H1, C k H1 → G k H1) → g) (last : ∀ k H1, C k H1 → G k H1) : g := body last
theorem ints_at {xs : List Int} {i : Nat} {x : V} (h : (xs.map V.int)[i]? = some x) : ∃ k : Int, x = .int k ∧ xs[i]? = some k := by
  rw [List.getElem?_map] at h
  cases e : xs[i]? with
  | none => rw [e] at h; cases h
  | some k => rw [e] at h; cases h; exact ⟨k, rfl, rfl⟩
theorem lift_at {kvs : List (Int × V)} {i : Nat} {k : Key} {v : V} (h : (liftK kvs)[i]? = some (k, v)) : ∃ g : Int, k = Sum.inl g ∧ (kvs.map (·.1))[i]? = some g := by
  unfold liftK at h
  rw [List.getElem?_map] at h
  rw [List.getElem?_map]
  cases e : kvs[i]? with
  | none => rw [e] at h; cases h
  | some p => rw [e] at h; cases h; exact ⟨p.1, rfl, rfl⟩
theorem take_snoc {xs : List Int} {i : Nat} {k : Int} (e : xs[i]? = some k) : xs.take (i + 1) = xs.take i ++ [k] := by
  rw [List.take_add_one, e]
  rfl
theorem filt_step {P : Int → Bool} {xs : List Int} {i : Nat} {k : Int} (e : xs[i]? = some k) : (xs.take (i + 1)).filter P = (xs.take i).filter P ++ (if P k = true then [k] else []) := by
  rw [take_snoc e, List.filter_append]
  congr 1
  by_cases c : P k = true
  · rw [if_pos c, List.filter_cons_of_pos c]; rfl
  · rw [if_neg c, List.filter_cons_of_neg c]; rfl
theorem filt_len (P : Int → Bool) (xs : List Int) (i : Nat) : ((xs.take i).filter P).length ≤ xs.length := by
  have h1 := List.length_filter_le P (xs.take i)
  have h2 : (xs.take i).length ≤ xs.length := by rw [List.length_take]; (clear h1; omega)
  omega
def sp__law_drawn : Sp := fun vs H Q _ => ∃ c k : Int, vs = [.int c, .int k] ∧ ∀ z : Int, 0 ≤ z → Q (.int z) H
theorem ok__law_drawn (T : Txt K mg t) : FnOk P w K mg base CX0 1 t.a__law_drawn t.d__law_drawn ["_law_cell", "_law_k"] sp__law_drawn := by
  refine T.F__law_drawn.ok sc__law_drawn (fun vs H Q E h => ?_) (fun cdv A outer s H vs Q E hr h => ?_)
  · obtain ⟨c, k, rfl, _⟩ := h
    rfl
  · obtain ⟨c, k, rfl, q⟩ := h
    refine ⟨_, (pss_cons (ps_set (i := 2) sc__law_drawn.nd rfl (Or.inl rfl) (pe_op op_mod (pe_op op_mul (pe_op op_add (pe_op op_add (pv 0) (pe_op op_mul pe_int (pv 1))) pe_int) pe_int) pe_int))
          (pss_cons (ps_set (i := 2) sc__law_drawn.nd rfl (Or.inl rfl) (pe_op op_mod (pe_op op_mul (pv 2) (pe_op op_add (pe_op op_fdiv (pv 2) pe_int) pe_int)) pe_int))
          (pss_one (ps_ret (pe_op op_mod (pe_op op_mul (pv 2) (pe_op op_add (pe_op op_fdiv (pv 2) pe_int) pe_int)) pe_int)))))
      , ?_⟩
    have pM : (0 : Int) < 2147483647 := by decide
    have m0 : ∀ z : Int, 0 ≤ z % 2147483647 ∧ z % 2147483647 < 2147483647 := fun z => ⟨Int.emod_nonneg _ (by decide), Int.emod_lt_of_pos _ (by decide)⟩
    refine ⟨_, rfl, _, rfl, _, _, rfl, rfl, .inl ⟨by decide, by decide⟩, _, _, rfl, rfl, _, _, rfl, rfl, _, _, rfl, rfl, .inr ⟨by decide, by decide⟩, _, _, rfl, rfl, pM, ?_⟩
    dsimp only
    generalize ((c + 7873 * k + 1) * 48271) = z0
    obtain ⟨a0, a1⟩ := m0 z0
    generalize z0 % 2147483647 = z1 at a0 a1 ⊢
    refine ⟨_, rfl, _, rfl, _, _, rfl, rfl, ⟨by decide, by decide⟩, _, _, rfl, rfl, _, _, rfl, rfl, .inl ⟨by (clear a1 pM; omega), by (clear a0 pM; omega)⟩, _, _, rfl, rfl, pM, ?_⟩
    dsimp only
    generalize z1 * (z1 / 1009 + 69621) = z2
    obtain ⟨b0, b1⟩ := m0 z2
    generalize z2 % 2147483647 = z3 at b0 b1 ⊢
    exact ⟨_, rfl, _, rfl, _, _, rfl, rfl, ⟨by decide, by decide⟩, _, _, rfl, rfl, _, _, rfl, rfl, .inl ⟨by (clear b1 a1 a0 pM; omega), by (clear b0 a1 a0 pM; omega)⟩, _, _, rfl, rfl, pM, q _ (m0 _).1⟩
def sp__law_draws : Sp := fun vs H Q _ => ∃ c mn way : Int, vs = [.int c, .int mn, .int way] ∧ 0 ≤ mn ∧ mn ≤ 100 ∧
  ∀ (H' : Hp) (l : Addr) (xs : List Int), Same H H' → H l = none → H' l = some (.lst (xs.map V.int)) → xs.length = mn.toNat → (∀ x ∈ xs, 0 ≤ x) → Q (.ref l) H'
theorem ok__law_draws (T : Txt K mg t) : FnOk P w K mg base CX0 2 t.a__law_draws t.d__law_draws ["_law_cell", "_law_many", "_law_way"] sp__law_draws := by
  have G__law_drawn : FnOk P w K mg base CX0 1 t.a__law_drawn t.d__law_drawn ["_law_cell", "_law_k"] sp__law_drawn := ok__law_drawn T
  refine T.F__law_draws.ok sc__law_draws (fun vs H Q E h => ?_) (fun cdv A outer s H vs Q E hr h => ?_)
  · obtain ⟨c, mn, way, rfl, _⟩ := h
    rfl
  · obtain ⟨c, mn, way, rfl, m0, m1, q⟩ := h
    refine ⟨_, (pss_cons (ps_set (i := 3) sc__law_draws.nd rfl (Or.inl rfl) (pe_lst pa_nil))
          (pss_cons (ps_for PassesOwn.never rfl (pi_range1 (by rfl) T.z_range (pa_cons (pv 1) pa_nil)) (pg_name (i := 4) sc__law_draws.nd rfl (Or.inl rfl))
          (pss_one (ps_if (pt_cmpR op_eq (pe_op op_mod (pv 2) pe_int) pe_int (nomark _))
          (pss_cons (ps_expr (pe_bm PySem.F.plainAttrs_list PySem.F.slot_list_append PySem.F.type_list_append mt_append (pv 3) (pa_cons (pe_op op_mod (pv 0) (pe_op op_pow pe_int pe_int)) pa_nil)))
          (pss_one (ps_set (i := 0) sc__law_draws.nd rfl (Or.inl rfl) (pe_op op_fdivB (pv 0) (pe_op op_pow pe_int pe_int)))))
          (pss_one (ps_expr (pe_bm PySem.F.plainAttrs_list PySem.F.slot_list_append PySem.F.type_list_append mt_append (pv 3) (pa_cons (pe_call G__law_drawn (hr.mono (by decide)) (by rfl) T.m__law_drawn T.F__law_drawn.kp T.b__law_drawn .nil pass0 (pa_cons (pv 0) (pa_cons (pv 4) pa_nil))) pa_nil)))))))
          (pss_one (ps_ret (pv 3)))))
      , ?_⟩
    have t12 : (0 : Int) < 10 ^ (12 : Int).toNat := by decide
    refine ⟨Nat.zero_le _, fun l nl => ?_⟩
    refine ⟨_, rfl, mn, rfl, by (clear nl t12 m1; omega), by (clear nl t12 m0; omega), for_rangeE (n := mn.toNat) (fun i σ H' => ∃ (c : Int) (v4 : Option V) (xs : List Int), σ = [some (.int c), some (.int mn), some (.int way), some (.ref l), v4] ∧ Same H H' ∧ H' l = some (.lst (xs.map V.int)) ∧ xs.length = i ∧ ∀ x ∈ xs, (0 : Int) ≤ x)
      ⟨c, _, [], rfl, same_new nl, upd_same, rfl, fun x hx => by cases hx⟩ (fun i σ H' hi w => ?_) (fun σ H' w => ?_)⟩
    · obtain ⟨c, v4, xs, eσ, s, e, lx, x0⟩ := w
      subst eσ
      have add : ∀ {z : Int}, 0 ≤ z → Same H (upd H' l (.lst (xs.map V.int ++ [.int z]))) ∧ upd H' l (.lst (xs.map V.int ++ [.int z])) l = some (.lst ((xs ++ [z]).map V.int)) ∧ (xs ++ [z]).length = i + 1 ∧ ∀ x ∈ xs ++ [z], (0 : Int) ≤ x := fun {z} z0 => by
        refine ⟨same_upd s nl, by rw [upd_same, List.map_append]; rfl, by rw [List.length_append, lx]; rfl, fun x hx => ?_⟩
        rcases List.mem_append.mp hx with y | y
        · exact x0 x y
        · rw [List.mem_singleton.mp y]; exact z0
      refine ⟨_, rfl, _, _, rfl, rfl, (by show (0 : Int) < 2; decide), rfl, _, rfl, ite2 (fun _ => ?_) (fun _ => ?_)⟩
      · refine ⟨_, rfl, .inl ⟨rfl, _, SqL.of e⟩, _, rfl, _, _, rfl, rfl, ⟨by decide, by decide, by decide⟩, _, _, rfl, rfl, t12, l, _, _, rfl, rfl, e, small1e5 (by rw [List.length_map]; (clear e nl t12 m0; omega)), ?_⟩
        refine ⟨_, rfl, _, _, rfl, rfl, ⟨by decide, by decide, by decide⟩, _, _, rfl, rfl, ⟨by decide, by decide⟩, ?_⟩
        obtain ⟨g1, g2, g3, g4⟩ := add (z := c % 10 ^ (12 : Int).toNat) (Int.emod_nonneg _ (Int.ne_of_gt t12))
        exact ⟨_, _, _, rfl, g1, g2, g3, g4⟩
      · refine ⟨_, rfl, .inl ⟨rfl, _, SqL.of e⟩, _, rfl, _, rfl, c, _, rfl, fun z z0 => ⟨l, _, _, rfl, rfl, e, small1e5 (by rw [List.length_map]; (clear z0 e nl t12 m0; omega)), ?_⟩⟩
        obtain ⟨g1, g2, g3, g4⟩ := add z0
        exact ⟨_, _, _, rfl, g1, g2, g3, g4⟩
    · obtain ⟨c, v4, xs, eσ, s, e, lx, x0⟩ := w
      subst eσ
      exact ⟨_, rfl, q H' l xs s nl e lx x0⟩
def sp__law_begun (K : PySem.W.Frag) : Sp := fun vs H Q _ => ∃ (sc : Addr) (ns : List Int) (way : Int), vs = [.ref sc, .int way] ∧ SqL K H sc (ns.map V.int) ∧
  ∀ (H' : Hp) (l : Addr) (xs : List Int), Same H H' → H l = none → H' l = some (.lst (xs.map V.int)) → (∀ x ∈ xs, 0 ≤ x) → Q (.ref l) H'
theorem ok__law_begun (T : Txt K mg t) : FnOk P w K mg base CX0 3 t.a__law_begun t.d__law_begun ["_law_script", "_law_way"] (sp__law_begun K) := by
  have G__law_cell_at : FnOk P w K mg base CX0 1 t.a__law_cell_at t.d__law_cell_at ["_law_script", "_law_k"] (sp__law_cell_at K) := ok__law_cell_at T
  have G__law_draws : FnOk P w K mg base CX0 2 t.a__law_draws t.d__law_draws ["_law_cell", "_law_many", "_law_way"] sp__law_draws := ok__law_draws T
  refine T.F__law_begun.ok sc__law_begun (fun vs H Q E h => ?_) (fun cdv A outer s H vs Q E hr h => ?_)
  · obtain ⟨sc, ns, way, rfl, _⟩ := h
    rfl
  · obtain ⟨sc, ns, way, rfl, hS, q⟩ := h
    refine ⟨_, (pss_cons (ps_set (i := 2) sc__law_begun.nd rfl (Or.inl rfl) (pe_op op_fdiv (pe_call G__law_cell_at (hr.mono (by decide)) (by rfl) T.m__law_cell_at T.F__law_cell_at.kp T.b__law_cell_at .nil pass0 (pa_cons (pv 0) (pa_cons pe_int pa_nil))) pe_int))
          (pss_cons (ps_set (i := 3) sc__law_begun.nd rfl (Or.inr rfl) (pe_call G__law_cell_at (hr.mono (by decide)) (by rfl) T.m__law_cell_at T.F__law_cell_at.kp T.b__law_cell_at .nil pass0 (pa_cons (pv 0) (pa_cons pe_int pa_nil))))
          (pss_cons (ps_if (pt_cmpR op_eq (pe_op op_mod (pv 2) pe_int) pe_int (nomark _))
          (pss_cons (ps_set (i := 4) sc__law_begun.nd rfl (Or.inr rfl) (pe_op op_mod (pe_op op_fdiv (pv 3) pe_int) (pe_op op_pow pe_int pe_int)))
          (pss_one (ps_ret (pe_comp rfl (CScope.of (N := ["_law_script", "_law_way", "_law_cell", "_law_other", "_law_first"]) (N' := ["_law_script", "_law_way", "_law_cell", "_law_other", "_law_first"]) (dsc := defScope s__law_begun) rfl rfl (by decide +kernel)) (pi_range1 (by rfl) T.z_range (pa_cons (pe_op op_add pe_int (pe_op op_mod (pe_op op_fdiv (pv 2) pe_int) pe_int)) pa_nil)) (fun _ _ _ _ _ => (pe_op op_add (pv 5) (pe_op op_mul (pe_ix (ix_listK K rfl) (pe_lst (pa_cons pe_int (pa_cons pe_int (pa_cons (pe_op op_pow pe_int pe_int) pa_nil)))) (pe_op op_mod (pv 4) pe_int) (fun _ _ => rfl)) (pv 0))))))))
          pss_nil)
          (pss_one (ps_ret (pe_comp rfl (CScope.of (N := ["_law_script", "_law_way", "_law_cell", "_law_other", "_law_first"]) (N' := ["_law_script", "_law_way", "_law_cell", "_law_other", "_law_first"]) (dsc := defScope s__law_begun) rfl rfl (by decide +kernel)) (pi_list (pe_call G__law_draws (hr.mono (by decide)) (by rfl) T.m__law_draws T.F__law_draws.kp T.b__law_draws .nil pass0 (pa_cons (pv 3) (pa_cons (pe_op op_mod (pe_op op_fdiv (pv 2) pe_int) pe_int) (pa_cons (pv 1) pa_nil))))) (fun _ _ _ _ _ => (pe_op op_mod (pe_op op_fdiv (pv 0) pe_int) (pe_ix (ix_listK K rfl) (pe_lst (pa_cons pe_int (pa_cons (pe_op op_pow pe_int pe_int) pa_nil))) (pe_op op_mod (pv 0) pe_int) (fun _ _ => rfl))))))))))
      , ?_⟩
    refine ⟨_, rfl, sc, ns, _, rfl, hS, by decide, _, _, rfl, rfl, ⟨by decide, by decide⟩, _, rfl, sc, ns, _, rfl, hS, by decide, ?_⟩
    (try dsimp only)
    generalize ns.getD (0 : Int).toNat 0 / 2 = c
    generalize ns.getD (1 : Int).toNat 0 = o
    refine ⟨_, rfl, _, _, rfl, rfl, (by show (0 : Int) < 4; decide), rfl, _, rfl, ite2 (fun _ => ?_) (fun _ => ?_)⟩
    · have t38 : (0 : Int) < 10 ^ (38 : Int).toNat := by decide
      refine ⟨_, rfl, _, _, rfl, rfl, ⟨by decide, by decide⟩, _, _, rfl, rfl, ⟨by decide, by decide, by decide⟩, _, _, rfl, rfl, t38, ?_⟩
      have f0 : 0 ≤ o / 3 % 10 ^ (38 : Int).toNat := Int.emod_nonneg _ (Int.ne_of_gt t38)
      have c0 : 0 ≤ c / 4 % 81 := Int.emod_nonneg _ (by decide)
      have c1 : c / 4 % 81 < 81 := Int.emod_lt_of_pos _ (by decide)
      (try dsimp only)
      generalize o / 3 % 10 ^ (38 : Int).toNat = fi at f0 ⊢
      refine ⟨_, rfl, _, _, rfl, rfl, ⟨by decide, by decide⟩, _, _, rfl, rfl, (by show (0 : Int) < 81; decide), _, _, rfl, rfl, _, rfl, (by (clear f0 c1 c0 t38; omega)), (by (clear f0 c1 c0 t38; omega)), fun D hD => ?_⟩
      generalize c / 4 % 81 = cn at c0 c1 ⊢
      refine comp_range (n := (20 + cn).toNat) (lo := 0) (fun i ys H4 => Same H H4 ∧ ∃ ks : List Int, ys = ks.map V.int ∧ ks.length = i ∧ ∀ k ∈ ks, 0 ≤ k) ⟨same_new hD, [], rfl, rfl, fun k hk => by cases hk⟩ (fun i ys H4 hi w hDD => ?_) (fun ys H4 w hDD => ?_)
      · obtain ⟨s4, ks, ey, lk, hk⟩ := w
        obtain ⟨st, hst, s0, s1⟩ := pickI (c := o) (n := 3) (L := [.int 1, .int 4, .int (10 ^ (6 : Int).toNat)]) (P := fun m => 0 < m ∧ m ≤ 1000000) ⟨⟨by decide, by decide⟩, ⟨by decide, by decide⟩, ⟨by decide, by decide⟩, trivial⟩ rfl (by decide)
        refine ⟨_, rfl, _, _, rfl, rfl, ⟨by decide, by decide, by decide⟩, (by show 3 ≤ sizeLine; decide), fun p np => ⟨_, rfl, _, _, rfl, rfl, (by show (0 : Int) < 3; decide), p, _, _, _, rfl, rfl, SqL.of upd_same, hst, _, rfl, _, _, rfl, rfl, .inl ⟨by (clear np s1 hst lk ey hDD hi c1 c0 hD f0 t38; omega), by (clear np s0 hst lk ey hDD hi c1 c0 hD f0 t38; omega)⟩, _, _, rfl, rfl, ?_⟩⟩
        refine CNext.mk hi (by rw [upd_ne (ne_of_none hDD np)]; exact hDD) (by rw [ey, List.length_map]; exact small1e5 (by (clear np s1 s0 hst ey hDD c0 hD f0 t38; omega))) ⟨same_upd (s4.trans (same_new np)) hD, ks ++ [_], by rw [ey, List.map_append]; rfl, by rw [List.length_append, lk]; rfl, fun k hk' => ?_⟩
        rcases List.mem_append.mp hk' with y | y
        · exact hk k y
        · rw [List.mem_singleton.mp y]
          exact Int.add_nonneg f0 (Int.mul_nonneg (by (clear np s1 hst lk ey hDD hi c1 c0 hD f0 t38; omega)) (by (clear np s1 s0 hst lk ey hDD hi c1 c0 hD f0 t38; omega)))
      · obtain ⟨s4, ks, ey, lk, hk⟩ := w
        subst ey
        exact q H4 D ks s4 hD hDD hk
    · have c0 : 0 ≤ c / 4 % 61 := Int.emod_nonneg _ (by decide)
      have c1 : c / 4 % 61 < 61 := Int.emod_lt_of_pos _ (by decide)
      refine ⟨_, rfl, _, rfl, _, _, rfl, rfl, ⟨by decide, by decide⟩, _, _, rfl, rfl, (by show (0 : Int) < 61; decide), _, rfl, o, _, way, rfl, c0, by (clear c1 c0; omega), fun H1 l xs s1 nl e1 lx x0 => ?_⟩
      have lx : xs.length ≤ 100 := by rw [lx]; (clear lx e1 nl c1 c0; omega)
      refine ⟨l, rfl, ⟨_, SqL.of e1⟩, fun D hD => ?_⟩
      refine comp_list (K := K) (a := l) (xs := xs.map V.int) (fun i ys H4 => Same H1 H4 ∧ ∃ ks : List Int, ys = ks.map V.int ∧ ks.length = i ∧ ∀ k ∈ ks, 0 ≤ k) ⟨same_new hD, [], rfl, rfl, fun k hk => by cases hk⟩ (fun i ys H4 _ w => SqL.of (w.1 _ _ e1)) (fun i x ys H4 hx w hDD => ?_) (fun ys H4 w hDD => ?_)
      · obtain ⟨s4, ks, ey, lk, hk⟩ := w
        have hi : i < (xs.map V.int).length := (List.getElem?_eq_some_iff.mp hx).1
        have hi' : i < xs.length := by rw [List.length_map] at hi; exact hi
        obtain ⟨g, rfl, _⟩ := ints_at hx
        obtain ⟨md, hmd, d0⟩ := pickI (c := g) (n := 2) (L := [.int 200, .int (10 ^ (10 : Int).toNat)]) (P := fun m => 0 < m) ⟨by decide, by decide, trivial⟩ rfl (by decide)
        refine ⟨_, rfl, _, _, rfl, rfl, ⟨by decide, by decide⟩, _, _, rfl, rfl, ⟨by decide, by decide, by decide⟩, (by show 2 ≤ sizeLine; decide), fun p np => ⟨_, rfl, _, _, rfl, rfl, (by show (0 : Int) < 2; decide), p, _, _, _, rfl, rfl, SqL.of upd_same, hmd, _, _, rfl, rfl, d0, ?_⟩⟩
        refine CNext.mk hi (by rw [upd_ne (ne_of_none hDD np)]; exact hDD) (by rw [ey, List.length_map]; exact small1e5 (by (clear np d0 hmd hx hi ey hDD hD lx e1 nl c1 c0; omega))) ⟨same_upd (s4.trans (same_new np)) hD, ks ++ [_], by rw [ey, List.map_append]; rfl, by rw [List.length_append, lk]; rfl, fun k hk' => ?_⟩
        rcases List.mem_append.mp hk' with y | y
        · exact hk k y
        · rw [List.mem_singleton.mp y]
          exact Int.emod_nonneg _ (by (clear np hmd hx hi' hi lk ey hDD hD lx e1 nl c1 c0; omega))
      · obtain ⟨s4, ks, ey, lk, hk⟩ := w
        subst ey
        exact q H4 D ks (s1.trans s4) (fresh_of s1 hD) hDD hk
structure J22 (K : PySem.W.Frag) (t : Adr) (H : Hp) (a d : Addr) (F : Addr → Prop) (ks : List Int) (kvs : List (Int × V)) : Prop where
  lv : LvA K t H a F ks
  di : H d = some (.dK (liftK kvs))
  nd : ¬ F d
  nk : (kvs.map (·.1)).Nodup
  me : ∀ z, z ∈ kvs.map (·.1) ↔ z ∈ ks
  k0 : ∀ z ∈ ks, (0 : Int) ≤ z
  le : kvs.length ≤ 150
abbrev Wd (F : Addr → Prop) (d : Addr) : Addr → Prop := fun b => F b ∨ b = d
section
variable {H H' : Hp} {a d : Addr} {F F' : Addr → Prop} {ks : List Int} {kvs : List (Int × V)}
theorem J22.fr (j : J22 K t H a d F ks kvs) (h : LvA K t H' a F' ks) (f : Fr F F' H H') : J22 K t H' a d F' ks kvs := ⟨h, (f _ _ j.nd j.di).1, (f _ _ j.nd j.di).2, j.nk, j.me, j.k0, j.le⟩
theorem J22.same (j : J22 K t H a d F ks kvs) (m : Same H H') : J22 K t H' a d F ks kvs := j.fr (j.lv.same m) (Fr.of_same m)
theorem J22.len (j : J22 K t H a d F ks kvs) : kvs.length = ks.length := by
  have h1 := nodup_le j.nk fun x hx => (j.me x).mp hx
  have h2 := nodup_le (nodup_rise j.lv.rise) fun x hx => (j.me x).mpr hx
  rw [List.length_map] at h1 h2
  omega
theorem Fr.wide (f : Fr F F' H H') : Fr (Wd F d) (Wd F' d) H H' := fun b o n e => ⟨(f b o (fun y => n (.inl y)) e).1, fun y => by
  rcases y with y | y
  · exact (f b o (fun y => n (.inl y)) e).2 y
  · exact n (.inr y)⟩
theorem Fr.upd_d {o : HO} (f : Fr (Wd F d) (Wd F' d) H H') : Fr (Wd F d) (Wd F' d) H (upd H' d o) := fun b u n e => ⟨by rw [upd_ne (fun y => n (.inr y))]; exact (f b u n e).1, (f b u n e).2⟩
theorem J22.add {H8 : Hp} {F8 : Addr → Prop} {ks8 : List Int} {k : Int} (j : J22 K t H a d F ks kvs) (h8 : LvA K t H8 a F8 ks8) (me8 : ∀ z, z ∈ ks8 ↔ z = k ∨ z ∈ ks) (f8 : Fr F F8 H H8) (ev : valV kvs k = none) (k0 : 0 ≤ k) (c : kvs.length < 150) :
    J22 K t (upd H8 d (.dK (liftK (putK kvs k (.bl true))))) a d F8 ks8 (putK kvs k (.bl true)) := by
  obtain ⟨di8, nd8⟩ := f8 _ _ j.nd j.di
  have ekp : (putK kvs k (.bl true)).map (·.1) = kvs.map (·.1) ++ [k] := by rw [keys_put, ev]; rfl
  refine ⟨h8.upd nd8, upd_same, nd8, nd_put j.nk, fun z => ?_, fun z hz => ?_, ?_⟩
  · rw [ekp, me8, List.mem_append, List.mem_singleton, j.me]
    exact Or.comm
  · rcases (me8 z).mp hz with y | y
    · rw [y]; exact k0
    · exact j.k0 z y
  · have := congrArg List.length ekp
    rw [List.length_append, List.length_map, List.length_map] at this
    simp at this
    (clear ekp nd8 di8 k0 ev; omega)
theorem mek {k : Int} : ∀ z, z ∈ (dropK kvs k).map (·.1) ↔ z ≠ k ∧ z ∈ kvs.map (·.1) := fun z => by
  rw [mem_keys, valV_drop, mem_keys]
  by_cases c : z = k
  · rw [if_pos c]; simp [c]
  · rw [if_neg c]; simp [c]
theorem J22.drop {H8 : Hp} {F8 : Addr → Prop} {ks8 : List Int} {k : Int} (j : J22 K t H a d F ks kvs) (h8 : LvA K t H8 a F8 ks8) (me8 : ∀ z, z ∈ ks8 ↔ z ≠ k ∧ z ∈ ks) (f8 : Fr F F8 H H8) :
    J22 K t (upd H8 d (.dK (liftK (dropK kvs k)))) a d F8 ks8 (dropK kvs k) := by
  obtain ⟨di8, nd8⟩ := f8 _ _ j.nd j.di
  exact ⟨h8.upd nd8, upd_same, nd8, j.nk.sublist (List.Sublist.map _ List.filter_sublist), fun z => by rw [mek, me8, j.me], fun z hz => j.k0 z ((me8 z).mp hz).2, Nat.le_trans (List.length_filter_le _ _) j.le⟩
end
theorem val_of {kvs : List (Int × V)} {k : Int} (h : k ∈ kvs.map (·.1)) : ∃ v, valV kvs k = some v := by
  have := mem_keys.mp h
  cases e : valV kvs k with
  | none => rw [e] at this; cases this
  | some v => exact ⟨v, rfl⟩
def sp__law_added (K : PySem.W.Frag) (t : Adr) : Sp := fun vs H Q _ => ∃ (a d : Addr) (k : Int) (F : Addr → Prop) (ks : List Int) (kvs : List (Int × V)), vs = [.ref a, .ref d, .int k] ∧ J22 K t H a d F ks kvs ∧ 0 ≤ k ∧
  ∀ (H' : Hp) (F' : Addr → Prop) (ks' : List Int) (kvs' : List (Int × V)), J22 K t H' a d F' ks' kvs' → Fr (Wd F d) (Wd F' d) H H' → (∀ z ∈ ks, z ∈ ks') → Q .non H'
theorem ok__law_added (T : Txt K mg t) : FnOk P w K mg base CX0 4 t.a__law_added t.d__law_added ["_law_told", "_law_kept", "_law_key"] (sp__law_added K t) := by
  have G_Leaves__add : FnOk P w K mg base (CX1 P w) 3 t.a_Leaves__add t.d_Leaves__add ["self", "key"] (sp_Leaves__add K t) := ok_Leaves__add T
  refine T.F__law_added.ok sc__law_added (fun vs H Q E h => ?_) (fun cdv A outer s H vs Q E hr h => ?_)
  · obtain ⟨a, d, k, F, ks, kvs, rfl, _⟩ := h
    rfl
  · obtain ⟨a, d, k, F, ks, kvs, rfl, J, k0, q⟩ := h
    refine ⟨_, (pss_one (ps_if (PW.pt (pw_and (pt_cmp (pc_dnotin (hu_of hr) (pv 2) (pv 1))) (pw_and1 (pt_cmpR op_lt (pe_callB call_lenD (by rfl) T.z_len bt_len (pa_cons (pv 1) pa_nil)) pe_int (nomark _)))))
          (pss_cons (ps_expr (pe_meth (pv 0) T.cl_Leaves T.me_Leaves_add G_Leaves__add (hr.mono (by decide)) T.b_Leaves__add .nil pass01 (pa_cons (pv 2) pa_nil)))
          (pss_one (ps_dput (hu_of hr) (pv 1) (pv 2) pe_bl rfl)))
          pss_nil))
      , ?_⟩
    have lj := J.len
    have le := J.le
    refine ⟨_, rfl, _, rfl, d, _, rfl, DGet.k (k := Sum.inl k) J.di, _, rfl, ?_⟩
    rw [liftK_val]
    cases ev : valV kvs k with
    | some v => exact iteF (q H F ks kvs J Fr.refl fun z hz => hz)
    | none =>
      refine iteT ⟨_, rfl, d, _, rfl, J.di, _, _, rfl, rfl, _, rfl, ?_⟩
      by_cases c : ((liftK kvs).length : Int) < 150
      · refine iteD c ?_
        have nk : k ∉ ks := fun z => by
          have := mem_keys.mp ((J.me k).mpr z)
          rw [ev] at this
          cases this
        rw [liftK_len] at c
        obtain ⟨dy, fs, hi, hm⟩ := J.lv.ins
        refine ⟨_, rfl, a, dy, fs, rfl, hi, hm _ (by decide +kernel), _, rfl, a, k, F, ks, rfl, J.lv, by (clear hi nk c ev k0; omega), fun _ H8 F8 ks8 h8 me8 f8 => ?_, fun y => absurd y nk⟩
        obtain ⟨di8, nd8⟩ := f8 _ _ J.nd J.di
        refine ⟨_, rfl, _, rfl, d, _, rfl, DPut.k (k := Sum.inl k) di8 (by rw [liftK_len]; exact small1e5 (by (clear nd8 di8 hi nk c ev lj k0; omega))), ?_⟩
        rw [liftK_put]
        exact q _ F8 ks8 _ (J.add h8 me8 f8 ev k0 (by (clear nd8 di8 hi nk ev le lj k0; omega))) f8.wide.upd_d fun z hz => (me8 z).mpr (.inr hz)
      · exact iteND c (q H F ks kvs J Fr.refl fun z hz => hz)
abbrev W2 (F : Addr → Prop) (d e : Addr) : Addr → Prop := fun b => (F b ∨ b = d) ∨ b = e
section
variable {H H' : Hp} {d e : Addr} {F F' : Addr → Prop}
theorem Fr.w2 (f : Fr (Wd F d) (Wd F' d) H H') : Fr (W2 F d e) (W2 F' d e) H H' := fun b o n h => ⟨(f b o (fun y => n (.inl y)) h).1, fun y => by
  rcases y with y | y
  · exact (f b o (fun y => n (.inl y)) h).2 y
  · exact n (.inr y)⟩
theorem Fr.upd_e {o : HO} (f : Fr (W2 F d e) (W2 F' d e) H H') : Fr (W2 F d e) (W2 F' d e) H (upd H' e o) := fun b u n h => ⟨by rw [upd_ne (fun y => n (.inr y))]; exact (f b u n h).1, (f b u n h).2⟩
end
structure S24 (H : Hp) (d e : Addr) (F : Addr → Prop) (ks : List Int) (svs : List (Int × V)) : Prop where
  di : H e = some (.dK (liftK svs))
  ne : e ≠ d
  nF : ¬ F e
  me : ∀ z ∈ svs.map (·.1), z ∈ ks
  le : svs.length ≤ 150
theorem S24.fr {H H' : Hp} {d e : Addr} {F F' : Addr → Prop} {ks ks' : List Int} {svs : List (Int × V)} (s : S24 H d e F ks svs) (f : Fr (Wd F d) (Wd F' d) H H') (m : ∀ z ∈ svs.map (·.1), z ∈ ks') : S24 H' d e F' ks' svs := by
  have n : ¬ Wd F d e := fun y => y.elim s.nF s.ne
  exact ⟨(f _ _ n s.di).1, s.ne, fun y => (f _ _ n s.di).2 (.inl y), m, s.le⟩
def sp__law_discarded (K : PySem.W.Frag) (t : Adr) : Sp := fun vs H Q _ => ∃ (a d e l : Addr) (F : Addr → Prop) (ks : List Int) (kvs svs : List (Int × V)) (cs : List Int), vs = [.ref a, .ref d, .ref e, .ref l] ∧ J22 K t H a d F ks kvs ∧ S24 H d e F ks svs ∧ H l = some (.lst (cs.map V.int)) ∧ ¬ F l ∧ cs.Nodup ∧ (∀ z ∈ cs, z ∈ kvs.map (·.1)) ∧
  ∀ (H' : Hp) (F' : Addr → Prop) (ks' : List Int) (kvs' svs' : List (Int × V)), J22 K t H' a d F' ks' kvs' → S24 H' d e F' ks' svs' → (∀ z ∈ svs'.map (·.1), z ∈ svs.map (·.1)) → Fr (W2 F d e) (W2 F' d e) H H' → Q .non H'
theorem ok__law_discarded (T : Txt K mg t) : FnOk P w K mg base CX0 4 t.a__law_discarded t.d__law_discarded ["_law_told", "_law_kept", "_law_stayed", "_law_some"] (sp__law_discarded K t) := by
  have G_Leaves__discard : FnOk P w K mg base (CX1 P w) 3 t.a_Leaves__discard t.d_Leaves__discard ["self", "key"] (sp_Leaves__discard K t) := ok_Leaves__discard T
  refine T.F__law_discarded.ok sc__law_discarded (fun vs H Q E h => ?_) (fun cdv A outer s H vs Q E hr h => ?_)
  · obtain ⟨a, d, e, l, F, ks, kvs, svs, cs, rfl, _⟩ := h
    rfl
  · obtain ⟨a, d, e, l, F0, ks0, kvs0, svs0, cs, rfl, J0, S0, hl, ol, nc, cm, q⟩ := h
    refine ⟨_, (pss_one (ps_for PassesOwn.never rfl (pi_list (pv 3)) (pg_name (i := 4) sc__law_discarded.nd rfl (Or.inl rfl))
          (pss_cons (ps_expr (pe_meth (pv 0) T.cl_Leaves T.me_Leaves_discard G_Leaves__discard (hr.mono (by decide)) T.b_Leaves__discard .nil pass01 (pa_cons (pv 4) pa_nil)))
          (pss_cons (ps_expr (pe_bm PySem.F.plainAttrs_dict PySem.F.slot_dict_pop PySem.F.type_dict_pop mt_dpop (pv 1) (pa_cons (pv 4) pa_nil)))
          (pss_one (ps_if (pt_cmp (pc_din (hu_of hr) (pv 4) (pv 2)))
          (pss_one (ps_expr (pe_bm PySem.F.plainAttrs_dict PySem.F.slot_dict_pop PySem.F.type_dict_pop mt_dpop (pv 2) (pa_cons (pv 4) pa_nil))))
          pss_nil))))))
      , ?_⟩
    have ld : l ≠ d := fun z => by rw [z, J0.di] at hl; cases hl
    have lel : l ≠ e := fun z => by rw [z, S0.di] at hl; cases hl
    have nWl : ¬ W2 F0 d e l := fun z => z.elim (fun z => z.elim ol ld) lel
    refine ⟨_, rfl, l, rfl, ⟨_, SqL.of hl⟩, for_listE (K := K) (a := l) (xs := cs.map V.int) (fun i σ H' => ∃ (v4 : Option V) (F : Addr → Prop) (ks : List Int) (kvs svs : List (Int × V)), σ = [some (.ref a), some (.ref d), some (.ref e), some (.ref l), v4] ∧ J22 K t H' a d F ks kvs ∧ S24 H' d e F ks svs ∧ (∀ z : Int, z ∈ svs.map (fun p : Int × V => p.1) → z ∈ svs0.map (fun p : Int × V => p.1)) ∧ Fr (W2 F0 d e) (W2 F d e) H H' ∧ ∀ z : Int, z ∈ cs.drop i → z ∈ kvs.map (fun p : Int × V => p.1))
      ⟨_, F0, ks0, kvs0, svs0, rfl, J0, S0, fun z hz => hz, Fr.refl, cm⟩ (fun i σ H' _ w => by obtain ⟨_, _, _, _, _, _, _, _, _, f, _⟩ := w; exact SqL.of (f _ _ nWl hl).1) (fun i x σ H' hx w => ?_) (fun σ H' w => ?_)⟩
    · obtain ⟨v4, F, ks, kvs, svs, eσ, J, S, sm, f, dr⟩ := w
      subst eσ
      obtain ⟨k, rfl, ek⟩ := ints_at hx
      have dk : cs.drop i = k :: cs.drop (i + 1) := by
        obtain ⟨h, e⟩ := List.getElem?_eq_some_iff.mp ek
        rw [← e]
        exact List.drop_eq_getElem_cons h
      have lj := J.len
      have le := J.le
      rw [dk] at dr
      have km := dr k List.mem_cons_self
      have kks := (J.me k).mp km
      obtain ⟨dy, fs, hi, hm⟩ := J.lv.ins
      refine ⟨_, rfl, a, dy, fs, rfl, hi, hm _ (by decide +kernel), _, rfl, a, k, F, ks, rfl, J.lv, by (clear hi dk hx ek nWl lel ld ol hl; omega), fun _ H8 F8 ks8 h8 me8 f8 => ?_, fun y => absurd kks y⟩
      obtain ⟨di8, nd8⟩ := f8 _ _ J.nd J.di
      obtain ⟨v, ev⟩ := val_of km
      refine ⟨_, rfl, .inr (.inr (.inl ⟨rfl, .inl ⟨_, di8⟩⟩)), _, rfl, d, _, Sum.inl k, v, rfl, rfl, di8, liftK_val.trans ev, ?_⟩
      rw [liftK_drop]
      have J9 := J.drop h8 me8 f8
      have f9 : Fr (Wd F d) (Wd F8 d) H' (upd H8 d (.dK (liftK (dropK kvs k)))) := f8.wide.upd_d
      have dr9 : ∀ z : Int, z ∈ cs.drop (i + 1) → z ∈ (dropK kvs k).map (fun p : Int × V => p.1) := fun z hz => by
        refine (mek z).mpr ⟨fun y => ?_, dr z (List.mem_cons_of_mem _ hz)⟩
        have : (k :: cs.drop (i + 1)).Nodup := by rw [← dk]; exact nc.sublist (List.drop_sublist _ _)
        exact (List.nodup_cons.mp this).1 (y ▸ hz)
      generalize upd H8 d (.dK (liftK (dropK kvs k))) = H9 at J9 f9 ⊢
      have ne9 : ¬ Wd F d e := fun y => y.elim S.nF S.ne
      obtain ⟨e9, o9⟩ := f9 _ _ ne9 S.di
      refine ⟨_, rfl, _, rfl, e, _, rfl, DGet.k (k := Sum.inl k) e9, _, rfl, ?_⟩
      rw [liftK_val]
      cases es : valV svs k with
      | none =>
        refine iteF ?_
        have nz : ∀ z ∈ svs.map (·.1), z ≠ k := fun z hz y => by
          have := mem_keys.mp hz
          rw [y, es] at this
          cases this
        have S9 : S24 H9 d e F8 ks8 svs := S.fr f9 fun z hz => (me8 z).mpr ⟨nz z hz, S.me z hz⟩
        exact ⟨_, F8, ks8, _, svs, rfl, J9, S9, sm, f.trans f9.w2, dr9⟩
      | some v =>
        refine iteT ⟨_, rfl, .inr (.inr (.inl ⟨rfl, .inl ⟨_, e9⟩⟩)), _, rfl, e, _, Sum.inl k, v, rfl, rfl, e9, liftK_val.trans es, ?_⟩
        rw [liftK_drop]
        have oe : ¬ F8 e := fun y => o9 (.inl y)
        have J10 : J22 K t (upd H9 e (.dK (liftK (dropK svs k)))) a d F8 ks8 (dropK kvs k) := ⟨J9.lv.upd oe, by rw [upd_ne (Ne.symm S.ne)]; exact J9.di, J9.nd, J9.nk, J9.me, J9.k0, J9.le⟩
        have S10 : S24 (upd H9 e (.dK (liftK (dropK svs k)))) d e F8 ks8 (dropK svs k) := ⟨upd_same, S.ne, oe, fun z hz => by
          obtain ⟨g1, g2⟩ := (mek z).mp hz
          exact (me8 z).mpr ⟨g1, S.me z g2⟩, Nat.le_trans (List.length_filter_le _ _) S.le⟩
        exact ⟨_, F8, ks8, _, _, rfl, J10, S10, fun z hz => sm z ((mek z).mp hz).2, (f.trans f9.w2).upd_e, dr9⟩
    · obtain ⟨v4, F, ks, kvs, svs, eσ, J, S, sm, f, dr⟩ := w
      exact q H' F ks kvs svs J S sm f
def sp__law_deed (K : PySem.W.Frag) (t : Adr) : Sp := fun vs H Q _ => ∃ (a d e l : Addr) (la x0 x1 : Int) (F : Addr → Prop) (ks : List Int) (kvs svs : List (Int × V)), vs = [.ref a, .ref d, .ref e, .ref l, .int la] ∧ J22 K t H a d F ks kvs ∧ S24 H d e F ks svs ∧ H l = some (.lst [.int x0, .int x1]) ∧ 0 ≤ x0 ∧ 0 ≤ x1 ∧ ¬ W2 F d e l ∧
  ∀ (H' : Hp) (F' : Addr → Prop) (ks' : List Int) (kvs' svs' : List (Int × V)), J22 K t H' a d F' ks' kvs' → S24 H' d e F' ks' svs' → (∀ z ∈ svs'.map (·.1), z ∈ svs.map (·.1)) → Fr (W2 F d e) (W2 F' d e) H H' → Q .non H'
theorem ok__law_deed (T : Txt K mg t) : FnOk P w K mg base CX0 5 t.a__law_deed t.d__law_deed ["_law_told", "_law_kept", "_law_stayed", "_law_draws_here", "_law_last"] (sp__law_deed K t) := by
  have G__law_added : FnOk P w K mg base CX0 4 t.a__law_added t.d__law_added ["_law_told", "_law_kept", "_law_key"] (sp__law_added K t) := ok__law_added T
  have G__law_discarded : FnOk P w K mg base CX0 4 t.a__law_discarded t.d__law_discarded ["_law_told", "_law_kept", "_law_stayed", "_law_some"] (sp__law_discarded K t) := ok__law_discarded T
  refine T.F__law_deed.ok sc__law_deed (fun vs H Q E h => ?_) (fun cdv A outer s H vs Q E hr h => ?_)
  · obtain ⟨a, d, e, l, la, x0, x1, F, ks, kvs, svs, rfl, _⟩ := h
    rfl
  · obtain ⟨a, d, e, l, la, x0, x1, F, ks, kvs, svs, rfl, J, S, hl, p0, p1, ol, q⟩ := h
    refine ⟨_, (pss_cons (ps_set (i := 5) sc__law_deed.nd rfl (Or.inl rfl) (pe_callB (call_sortedD hr.hd) (by rfl) T.z_sorted bt_sorted (pa_cons (pv 1) pa_nil)))
          (pss_cons (ps_set (i := 6) sc__law_deed.nd rfl (Or.inl rfl) (pe_op op_mod (pe_ix ix_list (pv 3) pe_int (fun _ _ => rfl)) pe_int))
          (pss_cons (ps_set (i := 7) sc__law_deed.nd rfl (Or.inl rfl) (pe_op op_sub (pe_op op_mod (pe_op op_fdiv (pe_ix ix_list (pv 3) pe_int (fun _ _ => rfl)) pe_int) pe_int) pe_int))
          (pss_cons (ps_set (i := 8) sc__law_deed.nd rfl (Or.inl rfl) (pe_op op_mod (pe_op op_fdiv (pe_ix ix_list (pv 3) pe_int (fun _ _ => rfl)) pe_int) (pe_op op_pow pe_int pe_int)))
          (pss_cons (ps_if (pt_cmpR op_lt (pe_op op_mod (pe_ix ix_list (pv 3) pe_int (fun _ _ => rfl)) pe_int) pe_int (nomark _))
          (pss_one (ps_set (i := 8) sc__law_deed.nd rfl (Or.inl rfl) (pe_callB (call_max2 rfl) (by rfl) T.z_max bt_max (pa_cons pe_int (pa_cons (pe_op op_add (pv 4) (pv 7)) pa_nil)))))
          (pss_one (ps_if (PW.pt (pw_and (pt_cmpR op_lt (pe_op op_mod (pe_ix ix_list (pv 3) pe_int (fun _ _ => rfl)) pe_int) pe_int (nomark _)) (pw_and1 (pt_cmpR (op_neD K rfl hr.u20) (pv 5) (pe_lst pa_nil) (nomark _)))))
          (pss_one (ps_set (i := 8) sc__law_deed.nd rfl (Or.inl rfl) (pe_callB (call_max2 rfl) (by rfl) T.z_max bt_max (pa_cons pe_int (pa_cons (pe_op op_add (pe_ix ix_list (pv 5) (pe_op op_mod (pe_op op_fdiv (pe_ix ix_list (pv 3) pe_int (fun _ _ => rfl)) pe_int) (pe_callB call_len_seq (by rfl) T.z_len bt_len (pa_cons (pv 5) pa_nil))) (fun _ _ => rfl)) (pv 7)) pa_nil)))))
          pss_nil)))
          (pss_one (ps_if (pt_cmpR op_lt (pv 6) pe_int (nomark _))
          (pss_one (ps_expr (pe_call G__law_added (hr.mono (by decide)) (by rfl) T.m__law_added T.F__law_added.kp T.b__law_added .nil pass0 (pa_cons (pv 0) (pa_cons (pv 1) (pa_cons (pv 8) pa_nil))))))
          (pss_one (ps_if (pt_cmpR op_eq (pv 6) pe_int (nomark _))
          (pss_one (ps_for PassesOwn.never rfl (pi_range1 (by rfl) T.z_range (pa_cons (pe_op op_mod (pe_op op_fdiv (pe_ix ix_list (pv 3) pe_int (fun _ _ => rfl)) pe_int) pe_int) pa_nil)) (pg_name (i := 9) sc__law_deed.nd rfl (Or.inl rfl))
          (pss_one (ps_expr (pe_call G__law_added (hr.mono (by decide)) (by rfl) T.m__law_added T.F__law_added.kp T.b__law_added .nil pass0 (pa_cons (pv 0) (pa_cons (pv 1) (pa_cons (pe_op op_add (pv 8) (pe_op op_mul (pe_ix ix_list (pe_lst (pa_cons pe_int (pa_cons pe_int (pa_cons pe_int pa_nil)))) (pe_op op_mod (pe_op op_fdiv (pe_ix ix_list (pv 3) pe_int (fun _ _ => rfl)) pe_int) pe_int) (fun _ _ => rfl)) (pv 9))) pa_nil))))))))
          (pss_one (ps_if (PW.pt (pw_and (pt_cmpR op_eq (pv 6) pe_int (nomark _)) (pw_and1 (pt_cmp (pc_din (hu_of hr) (pv 8) (pv 1))))))
          (pss_one (ps_expr (pe_call G__law_discarded (hr.mono (by decide)) (by rfl) T.m__law_discarded T.F__law_discarded.kp T.b__law_discarded .nil pass0 (pa_cons (pv 0) (pa_cons (pv 1) (pa_cons (pv 2) (pa_cons (pe_lst (pa_cons (pv 8) pa_nil)) pa_nil)))))))
          (pss_one (ps_if (PW.pt (pw_and (pt_cmpR op_gt (pv 6) pe_int (nomark _)) (pw_and1 (pt_cmpR (op_neD K rfl hr.u20) (pv 5) (pe_lst pa_nil) (nomark _)))))
          (pss_cons (ps_set (i := 10) sc__law_deed.nd rfl (Or.inl rfl) (pe_op op_mod (pe_ix ix_list (pv 3) pe_int (fun _ _ => rfl)) (pe_callB call_len_seq (by rfl) T.z_len bt_len (pa_cons (pv 5) pa_nil))))
          (pss_one (ps_expr (pe_call G__law_discarded (hr.mono (by decide)) (by rfl) T.m__law_discarded T.F__law_discarded.kp T.b__law_discarded .nil pass0 (pa_cons (pv 0) (pa_cons (pv 1) (pa_cons (pv 2) (pa_cons (pe_slice sl_list (pv 5) (po_some (pv 10)) (po_some (pe_op op_add (pv 10) (pe_ix ix_list (pe_lst (pa_cons pe_int (pa_cons (pe_op op_mod (pe_op op_fdiv (pe_ix ix_list (pv 3) pe_int (fun _ _ => rfl)) pe_int) pe_int) pa_nil))) (pe_op op_sub (pv 6) pe_int) (fun _ _ => rfl))))) pa_nil))))))))
          pss_nil)))))))))))))
      , ?_⟩
    have t10 : (0 : Int) < 10 ^ (10 : Int).toNat := by decide
    refine ⟨_, rfl, d, _, kvs.map (·.1), rfl, .inl J.di, keysV_lift, fun lk ms nk pm pw => ?_⟩
    have ndm : ms.Nodup := pm.nodup_iff.mpr J.nk
    have mem : ∀ k, k ∈ ms → k ∈ kvs.map (·.1) := fun k hk => pm.mem_iff.mp hk
    have s1 : Same H (upd H lk (.lst (ms.map V.int))) := same_new nk
    have hk1 : upd H lk (.lst (ms.map V.int)) lk = some (.lst (ms.map V.int)) := upd_same
    generalize upd H lk (.lst (ms.map V.int)) = H1 at s1 hk1 ⊢
    have hl1 := s1 _ _ hl
    have i0 : atI [V.int x0, V.int x1] 0 = some (.int x0) := rfl
    have i1 : atI [V.int x0, V.int x1] 1 = some (.int x1) := rfl
    have lm : ((ms.map V.int).length : Int) = (ms.length : Int) := by rw [List.length_map]
    refine ⟨_, rfl, l, _, _, _, rfl, rfl, SqL.of hl1, i0, _, _, rfl, rfl, (by show (0 : Int) < 6; decide), ?_⟩
    refine ⟨_, rfl, l, _, _, _, rfl, rfl, SqL.of hl1, i1, _, _, rfl, rfl, ⟨by decide, by decide⟩, _, _, rfl, rfl, (by show (0 : Int) < 9; decide), _, _, rfl, rfl, ?_⟩
    refine ⟨_, rfl, l, _, _, _, rfl, rfl, SqL.of hl1, i1, _, _, rfl, rfl, ⟨by decide, by decide⟩, _, _, rfl, rfl, ⟨by decide, by decide, by decide⟩, _, _, rfl, rfl, t10, ?_⟩
    have w0 : 0 ≤ x0 % 6 ∧ x0 % 6 < 6 := ⟨Int.emod_nonneg _ (by decide), Int.emod_lt_of_pos _ (by decide)⟩
    have kk : 0 ≤ x1 / 8 % 10 ^ (10 : Int).toNat := Int.emod_nonneg _ (Int.ne_of_gt t10)
    (try dsimp only)
    generalize x0 % 6 = way at w0 ⊢
    generalize x1 / 8 % 9 - 4 = near
    generalize x1 / 8 % 10 ^ (10 : Int).toNat = k0 at kk ⊢
    apply rest_in (α := Int) (C := fun k H2 => 0 ≤ k ∧ Same H H2 ∧ H2 lk = some (.lst (ms.map V.int)))
    · intro rest
      refine ⟨_, rfl, l, _, _, _, rfl, rfl, SqL.of hl1, i1, _, _, rfl, rfl, (by show (0 : Int) < 8; decide), _, _, rfl, rfl, _, rfl, ite2 (fun _ => ?_) (fun _ => ?_)⟩
      · refine ⟨_, rfl, _, rfl, _, _, rfl, rfl, _, _, rfl, ?_⟩
        have g0 : 0 ≤ (if la + near > 0 then la + near else 0) := by split <;> omega
        generalize (if la + near > 0 then la + near else 0) = k at g0 ⊢
        exact rest k H1 ⟨g0, s1, hk1⟩
      · refine ⟨_, rfl, l, _, _, _, rfl, rfl, SqL.of hl1, i1, _, _, rfl, rfl, (by show (0 : Int) < 8; decide), _, _, rfl, rfl, _, rfl, ite2 (fun _ => ?_) (fun _ => ?_)⟩
        · refine ⟨_, rfl, Nat.zero_le _, fun pe ne => neD_ints (ns := ms) (ms := []) (SqL.of (by rw [upd_ne (ne_of_none hk1 ne)]; exact hk1)) (SqL.of upd_same) ⟨_, rfl, ?_⟩⟩
          have s2 := s1.trans (same_new (o := .lst []) ne)
          have hk2 : upd H1 pe (.lst []) lk = some (.lst (ms.map V.int)) := by rw [upd_ne (ne_of_none hk1 ne)]; exact hk1
          generalize upd H1 pe (.lst []) = H2 at s2 hk2 ⊢
          by_cases ce : ms = []
          · rw [decide_eq_true ce]
            exact iteF (rest k0 H2 ⟨kk, s2, hk2⟩)
          · rw [decide_eq_false ce]
            refine iteT ?_
            have hpos : (0 : Int) < ((ms.map V.int).length : Int) := by
              have := List.length_pos_iff.mpr ce
              (clear ce hk2 ne kk w0 i1 i0 hl1 hk1 nk t10 ol p1 p0 hl; omega)
            obtain ⟨v, hv, vm⟩ := pickV (c := x1 / 80) (L := ms.map V.int) rfl hpos
            obtain ⟨x, hx, rfl⟩ := List.mem_map.mp vm
            refine ⟨_, rfl, _, rfl, l, _, _, _, rfl, rfl, SqL.of (s2 _ _ hl), i1, _, _, rfl, rfl, ⟨by decide, by decide⟩, _, rfl, lk, _, rfl, .inl (SqL.of hk2), _, _, rfl, rfl, hpos, lk, _, _, _, rfl, rfl, SqL.of hk2, hv, _, rfl, _, _, rfl, rfl, _, _, rfl, ?_⟩
            have g0 : 0 ≤ (if x + near > 0 then x + near else 0) := by split <;> (clear hv hpos ce hk2 ne kk w0 lm i1 i0 hl1 hk1 nk t10 ol p1 p0 hl; omega)
            generalize (if x + near > 0 then x + near else 0) = k at g0 ⊢
            exact rest k H2 ⟨g0, s2, hk2⟩
        · exact rest k0 H1 ⟨kk, s1, hk1⟩
    · intro k H2 w
      obtain ⟨g0, s2, hk2⟩ := w
      have J2 := J.same s2
      have hl2 := s2 _ _ hl
      have S2 : S24 H2 d e F ks svs := ⟨s2 _ _ S.di, S.ne, S.nF, S.me, S.le⟩
      have fs2 : Fr (W2 F d e) (W2 F d e) H H2 := Fr.of_same s2
      by_cases c2 : way < 2
      · refine ⟨_, rfl, _, _, rfl, rfl, _, rfl, iteD c2 ?_⟩
        refine ⟨_, rfl, _, rfl, _, rfl, a, d, k, F, ks, kvs, rfl, J2, g0, fun H3 F3 ks3 kvs3 J3 f3 m3 => ?_⟩
        exact q H3 F3 ks3 kvs3 svs J3 (S2.fr f3 fun z hz => m3 z (S.me z hz)) (fun z hz => hz) (fs2.trans f3.w2)
      refine ⟨_, rfl, _, _, rfl, rfl, _, rfl, iteND c2 ?_⟩
      by_cases c3 : way = 2
      · refine ⟨_, rfl, rfl, _, rfl, iteE (by rw [c3]) ?_⟩
        have r0 : 0 ≤ x0 / 6 % 21 := Int.emod_nonneg _ (by decide)
        have r1 : x0 / 6 % 21 < 21 := Int.emod_lt_of_pos _ (by decide)
        refine ⟨_, rfl, l, _, _, _, rfl, rfl, SqL.of hl2, i0, _, _, rfl, rfl, ⟨by decide, by decide⟩, _, _, rfl, rfl, (by show (0 : Int) < 21; decide), ?_⟩
        (try dsimp only)
        generalize x0 / 6 % 21 = cn at r0 r1 ⊢
        obtain ⟨st, hst, t0, t1⟩ := pickI (c := x0 / 126) (n := 3) (L := [.int 1, .int 3, .int 1000]) (P := fun m => 0 < m ∧ m ≤ 1000) ⟨⟨by decide, by decide⟩, ⟨by decide, by decide⟩, ⟨by decide, by decide⟩, trivial⟩ rfl (by decide)
        refine ⟨cn, rfl, by (clear t1 t0 hst r1 c3 c2 hl2 hk2 g0 kk w0 lm i1 i0 hl1 hk1 nk t10 ol p1 p0 hl; omega), by (clear t1 t0 hst r0 c3 c2 hl2 hk2 g0 kk w0 lm i1 i0 hl1 hk1 nk t10 ol p1 p0 hl; omega), for_rangeE (n := cn.toNat) (fun i σ H' => ∃ (v9 : Option V) (F' : Addr → Prop) (ks' : List Int) (kvs' : List (Int × V)), σ = [some (.ref a), some (.ref d), some (.ref e), some (.ref l), some (.int la), some (.ref lk), some (.int way), some (.int near), some (.int k), v9, none] ∧ J22 K t H' a d F' ks' kvs' ∧ S24 H' d e F' ks' svs ∧ Fr (W2 F d e) (W2 F' d e) H H')
          ⟨_, F, ks, kvs, rfl, J2, S2, fs2⟩ (fun i σ H' hi w => ?_) (fun σ H' w => ?_)⟩
        · obtain ⟨v9, F', ks', kvs', eσ, J3, S3, f3⟩ := w
          subst eσ
          obtain ⟨hl3, ol3⟩ := f3 _ _ ol hl
          refine ⟨_, rfl, _, rfl, _, rfl, (by show 3 ≤ sizeLine; decide), fun p3 n3 => ?_⟩
          have s4 : Same H' (upd H' p3 (.lst [.int 1, .int 3, .int 1000])) := same_new n3
          have hp3 : upd H' p3 (.lst [.int 1, .int 3, .int 1000]) p3 = some (.lst [.int 1, .int 3, .int 1000]) := upd_same
          generalize upd H' p3 (.lst [.int 1, .int 3, .int 1000]) = H4 at s4 hp3 ⊢
          have J4 := J3.same s4
          have S4 : S24 H4 d e F' ks' svs := ⟨s4 _ _ S3.di, S3.ne, S3.nF, S3.me, S3.le⟩
          refine ⟨_, rfl, l, _, _, _, rfl, rfl, SqL.of (s4 _ _ hl3), i0, _, _, rfl, rfl, ⟨by decide, by decide⟩, _, _, rfl, rfl, (by show (0 : Int) < 3; decide), p3, _, _, _, rfl, rfl, SqL.of hp3, hst, _, rfl, _, _, rfl, rfl, .inl ⟨by (clear hp3 n3 ol3 hl3 hi t1 hst r1 r0 c3 c2 hl2 hk2 g0 kk w0 lm i1 i0 hl1 hk1 nk t10 ol p1 p0 hl; omega), by (clear hp3 n3 ol3 hl3 hi t0 hst r1 r0 c3 c2 hl2 hk2 g0 kk w0 lm i1 i0 hl1 hk1 nk t10 ol p1 p0 hl; omega)⟩, _, _, rfl, rfl, ?_⟩
          refine ⟨a, d, _, F', ks', kvs', rfl, J4, Int.add_nonneg g0 (Int.mul_nonneg (by (clear hp3 n3 ol3 hl3 hi t1 hst r1 r0 c3 c2 hl2 hk2 g0 kk w0 lm i1 i0 hl1 hk1 nk t10 ol p1 p0 hl; omega)) (by (clear hp3 n3 ol3 hl3 hi t1 t0 hst r1 r0 c3 c2 hl2 hk2 g0 kk w0 lm i1 i0 hl1 hk1 nk t10 ol p1 p0 hl; omega))), fun H5 F5 ks5 kvs5 J5 f5 m5 => ?_⟩
          exact ⟨_, F5, ks5, kvs5, rfl, J5, S4.fr f5 (fun z hz => m5 z (S4.me z hz)), (f3.trans (Fr.of_same s4)).trans f5.w2⟩
        · obtain ⟨v9, F', ks', kvs', eσ, J3, S3, f3⟩ := w
          exact q H' F' ks' kvs' svs J3 S3 (fun z hz => hz) f3
      refine ⟨_, rfl, rfl, _, rfl, iteND (fun y => c3 (V.int.inj y)) ?_⟩
      by_cases c4 : way = 3
      · refine ⟨_, rfl, rfl, _, rfl, iteE (by rw [c4]) ?_⟩
        refine ⟨_, rfl, _, rfl, d, _, rfl, DGet.k (k := Sum.inl k) J2.di, _, rfl, ?_⟩
        rw [liftK_val]
        cases ev : valV kvs k with
        | some v =>
          refine iteT ⟨_, rfl, _, rfl, _, rfl, _, rfl, (by show 1 ≤ sizeLine; decide), fun p np => ?_⟩
          have s3 := same_new (o := .lst [.int k]) np
          have km : k ∈ kvs.map (·.1) := mem_keys.mpr (by rw [ev]; rfl)
          refine ⟨a, d, e, p, F, ks, kvs, svs, [k], rfl, J2.same s3, ⟨s3 _ _ S2.di, S.ne, S.nF, S.me, S.le⟩, upd_same, J2.lv.out np, by simp, (fun z hz => by rw [List.mem_singleton.mp hz]; exact km), fun H4 F4 ks4 kvs4 svs4 J4 S4 m4 f4 => ?_⟩
          exact q H4 F4 ks4 kvs4 svs4 J4 S4 m4 ((fs2.trans (Fr.of_same s3)).trans f4)
        | none =>
          refine iteF ?_
          refine ⟨_, rfl, _, _, rfl, rfl, _, rfl, iteND (by (clear ev c3 c2 hl2 hk2 g0 kk w0 lm i1 i0 hl1 hk1 nk t10 ol p1 p0 hl; omega)) ?_⟩
          exact q H2 F ks kvs svs J2 S2 (fun z hz => hz) fs2
      refine ⟨_, rfl, rfl, _, rfl, iteND (fun y => c4 (V.int.inj y)) ?_⟩
      refine ⟨_, rfl, _, _, rfl, rfl, _, rfl, iteD (by (clear hl2 hk2 g0 kk w0 lm i1 i0 hl1 hk1 nk t10 ol p1 p0 hl; omega)) ?_⟩
      refine ⟨_, rfl, Nat.zero_le _, fun pe ne => neD_ints (ns := ms) (ms := []) (SqL.of (by rw [upd_ne (ne_of_none hk2 ne)]; exact hk2)) (SqL.of upd_same) ⟨_, rfl, ?_⟩⟩
      have s3 := s2.trans (same_new (o := .lst []) ne)
      have hk3 : upd H2 pe (.lst []) lk = some (.lst (ms.map V.int)) := by rw [upd_ne (ne_of_none hk2 ne)]; exact hk2
      generalize upd H2 pe (.lst []) = H3 at s3 hk3 ⊢
      have J3 := J.same s3
      have S3 : S24 H3 d e F ks svs := ⟨s3 _ _ S.di, S.ne, S.nF, S.me, S.le⟩
      have fs3 : Fr (W2 F d e) (W2 F d e) H H3 := Fr.of_same s3
      by_cases ce : ms = []
      · rw [decide_eq_true ce]
        exact iteF (q H3 F ks kvs svs J3 S3 (fun z hz => hz) fs3)
      rw [decide_eq_false ce]
      refine iteT ?_
      have hpos : (0 : Int) < ((ms.map V.int).length : Int) := by
        have := List.length_pos_iff.mpr ce
        (clear ce hk3 ne c4 c3 c2 hl2 hk2 g0 kk w0 i1 i0 hl1 hk1 nk t10 ol p1 p0 hl; omega)
      have hl3 := s3 _ _ hl
      refine ⟨_, rfl, l, _, _, _, rfl, rfl, SqL.of hl3, i1, _, rfl, lk, _, rfl, .inl (SqL.of hk3), _, _, rfl, rfl, hpos, ?_⟩
      (try dsimp only)
      generalize x1 % ((ms.map V.int).length : Int) = at_
      refine ⟨_, rfl, _, rfl, _, rfl, _, rfl, _, rfl, _, rfl, _, rfl, _, rfl, l, _, _, _, rfl, rfl, SqL.of hl3, i0, _, _, rfl, rfl, ⟨by decide, by decide⟩, _, _, rfl, rfl, (by show (0 : Int) < 21; decide), (by show 2 ≤ sizeLine; decide), fun p4 n4 => ?_⟩
      have s4 := s3.trans (same_new (o := .lst [.int 1, .int (x0 / 6 % 21)]) n4)
      have hp4 : upd H3 p4 (.lst [.int 1, .int (x0 / 6 % 21)]) p4 = some (.lst [.int 1, .int (x0 / 6 % 21)]) := upd_same
      have hk4 : upd H3 p4 (.lst [.int 1, .int (x0 / 6 % 21)]) lk = some (.lst (ms.map V.int)) := by rw [upd_ne (ne_of_none hk3 n4)]; exact hk3
      obtain ⟨m4, hm4⟩ : ∃ m4 : Int, atI [V.int 1, V.int (x0 / 6 % 21)] (way - 4) = some (.int m4) := by
        rcases (show way = 4 ∨ way = 5 by (clear hk4 hp4 n4 hl3 hpos ce hk3 ne hl2 hk2 g0 kk lm i1 i0 hl1 hk1 nk t10 ol p1 p0 hl; omega)) with rfl | rfl
        · exact ⟨_, rfl⟩
        · exact ⟨_, rfl⟩
      generalize upd H3 p4 (.lst [.int 1, .int (x0 / 6 % 21)]) = H4 at s4 hp4 hk4 ⊢
      refine ⟨_, rfl, _, _, rfl, rfl, p4, _, _, _, rfl, rfl, SqL.of hp4, hm4, _, _, rfl, rfl, _, rfl, lk, _, rfl, SqL.of hk4, fun p5 n5 => ?_⟩
      obtain ⟨cs, ec, sb⟩ := cut_ints ms (some at_) (some (at_ + m4))
      rw [ec]
      have s5 := s4.trans (same_new (o := .lst (cs.map V.int)) n5)
      refine ⟨a, d, e, p5, F, ks, kvs, svs, cs, rfl, J.same s5, ⟨s5 _ _ S.di, S.ne, S.nF, S.me, S.le⟩, upd_same, J.lv.out (fresh_of s4 n5), ndm.sublist sb, (fun z hz => mem z (sb.subset hz)), fun H6 F6 ks6 kvs6 svs6 J6 S6 m6 f6 => ?_⟩
      exact q H6 F6 ks6 kvs6 svs6 J6 S6 m6 ((Fr.of_same s5).trans f6)
theorem rise_at {l : List Int} (h : Rise l) {i : Nat} {x y : Int} (ex : l[i]? = some x) (ey : l[i + 1]? = some y) : x < y := by
  obtain ⟨hx, rfl⟩ := List.getElem?_eq_some_iff.mp ex
  obtain ⟨hy, rfl⟩ := List.getElem?_eq_some_iff.mp ey
  exact List.pairwise_iff_getElem.mp h i (i + 1) hx hy (by (clear ey hy ex hx; omega))
theorem cnt_eq {l m : List Int} (P : Int → Bool) (h1 : l.Nodup) (h2 : m.Nodup) (h : ∀ z, z ∈ l ↔ z ∈ m) : (l.filter P).length = (m.filter P).length := by
  have a := nodup_le (h1.sublist (List.filter_sublist (p := P))) (S := m.filter P) fun x hx => by
    obtain ⟨g1, g2⟩ := List.mem_filter.mp hx
    exact List.mem_filter.mpr ⟨(h x).mp g1, g2⟩
  have b := nodup_le (h2.sublist (List.filter_sublist (p := P))) (S := l.filter P) fun x hx => by
    obtain ⟨g1, g2⟩ := List.mem_filter.mp hx
    exact List.mem_filter.mpr ⟨(h x).mpr g1, g2⟩
  omega
theorem upto {R : Int → Int → Prop} {P : Int → Bool} {gs : List Int} {n : Nat} (h : gs.Pairwise R) (hin : ∀ x ∈ gs.take n, P x = true) (hout : ∀ y ∈ gs.drop n, P y = false) : gs.filter P = gs.take n := by
  have e : gs = gs.take n ++ gs.drop n := (List.take_append_drop n gs).symm
  conv => lhs; rw [e]
  rw [List.filter_append, List.filter_eq_self.mpr hin, List.filter_eq_nil_iff.mpr (fun y hy => by rw [hout y hy]; exact Bool.false_ne_true), List.append_nil]
theorem last_at {la : Int} {fs : List Int} : ∃ en, (la :: fs)[fs.length]? = some en ∧ (fs = [] → en = la) ∧ (fs ≠ [] → en ∈ fs) ∧ (la :: fs).getLast (by simp) = en := by
  have hl : fs.length < (la :: fs).length := by simp
  refine ⟨(la :: fs)[fs.length], List.getElem?_eq_getElem hl, fun h => by subst h; rfl, fun h => ?_, ?_⟩
  · obtain ⟨x, r, rfl⟩ : ∃ x r, fs = x :: r := by
      cases fs with
      | nil => exact absurd rfl h
      | cons x r => exact ⟨x, r, rfl⟩
    show (la :: x :: r)[r.length + 1] ∈ _
    rw [List.getElem_cons_succ]
    exact List.getElem_mem _
  · rw [List.getLast_eq_getElem]
    congr 1
def gUp (la : Int) (ks : List Int) : List Int := ks.filter fun z => decide (la + 1 ≤ z)
theorem gUp_rise {la : Int} {ks : List Int} (h : Rise ks) : Rise (la :: gUp la ks) := by
  refine List.pairwise_cons.mpr ⟨fun z hz => ?_, h.sublist List.filter_sublist⟩
  have := of_decide_eq_true (List.mem_filter.mp hz).2
  omega
theorem up_split {la en : Int} {ks : List Int} {n : Nat} (h : Rise ks) (e : (la :: (gUp la ks).take n)[((gUp la ks).take n).length]? = some en) (hn : 1 ≤ n) : (∀ x ∈ (gUp la ks).take n, x ≤ en) ∧ (∀ y ∈ (gUp la ks).drop n, en < y) ∧ la ≤ en := by
  have hr := gUp_rise (la := la) h
  obtain ⟨en', e', h0, h1, _⟩ := last_at (la := la) (fs := (gUp la ks).take n)
  rw [e] at e'
  cases e'
  have hg := (List.pairwise_cons.mp hr).2
  have sp : ∀ x ∈ (gUp la ks).take n, ∀ y ∈ (gUp la ks).drop n, x < y := by
    have : ((gUp la ks).take n ++ (gUp la ks).drop n).Pairwise (· < ·) := by rw [List.take_append_drop]; exact hg
    exact fun x hx y hy => (List.pairwise_append.mp this).2.2 x hx y hy
  have hlt : (la :: (gUp la ks).take n).Pairwise (· < ·) := List.Pairwise.sublist (List.Sublist.cons_cons la (List.take_sublist n _)) hr
  obtain ⟨hl, ee⟩ := List.getElem?_eq_some_iff.mp e
  refine ⟨fun x hx => ?_, fun y hy => ?_, ?_⟩
  · obtain ⟨i, hi, rfl⟩ := List.getElem_of_mem hx
    rcases Nat.lt_or_ge (i + 1) ((gUp la ks).take n).length with c | c
    · have := List.pairwise_iff_getElem.mp hlt (i + 1) ((gUp la ks).take n).length (by rw [List.length_cons]; (clear c ee hl hn e; omega)) hl c
      rw [ee, List.getElem_cons_succ] at this
      (clear c ee hl hn e; omega)
    · have c' : ((gUp la ks).take n).length = i + 1 := by (clear ee hl hn e; omega)
      have : (la :: (gUp la ks).take n)[i + 1]? = some en := by rw [← c']; exact e
      rw [List.getElem?_cons_succ, List.getElem?_eq_getElem hi] at this
      cases this
      exact Int.le_refl _
  · by_cases c : (gUp la ks).take n = []
    · rw [h0 c]
      have := (List.pairwise_cons.mp hr).1 y (List.mem_of_mem_drop hy)
      (clear c ee hl hn e; omega)
    · exact sp en (h1 c) y hy
  · by_cases c : (gUp la ks).take n = []
    · rw [h0 c]; exact Int.le_refl _
    · have := (List.pairwise_cons.mp hlt).1 en (h1 c)
      (clear c ee hl hn e; omega)
theorem up_count {la en : Int} {ks : List Int} {n : Nat} (h : Rise ks) (hn : 1 ≤ n) (e : (la :: (gUp la ks).take n)[((gUp la ks).take n).length]? = some en) : (ks.filter fun z => decide (la < z) && decide (z ≤ en)).length = ((gUp la ks).take n).length := by
  obtain ⟨h1, h2, _⟩ := up_split h e hn
  have hc : (ks.filter fun z => decide (la < z) && decide (z ≤ en)) = (gUp la ks).filter fun z => decide (z ≤ en) := by
    unfold gUp
    rw [List.filter_filter]
    refine List.filter_congr fun z _ => ?_
    rw [Bool.and_comm]
    congr 1
  rw [hc, upto (n := n) (List.pairwise_cons.mp (gUp_rise (la := la) h)).2 (fun x hx => decide_eq_true (h1 x hx)) fun y hy => decide_eq_false (by have := h2 y hy; (clear hc e hn; omega))]
theorem page_next {base gs : List Int} {B B' : Int → Bool} {n : Nat} (hg : base.filter B = gs) (h1 : ∀ x ∈ gs.take n, B' x = false) (h2 : ∀ y ∈ gs.drop n, B' y = true) (h3 : ∀ z, B' z = true → B z = true) : base.filter B' = gs.drop n := by
  have e1 : base.filter B' = (base.filter B).filter B' := by
    rw [List.filter_filter]
    refine List.filter_congr fun z _ => ?_
    cases c : B' z with
    | false => rfl
    | true => rw [h3 z c]; rfl
  have e : gs = gs.take n ++ gs.drop n := (List.take_append_drop n gs).symm
  rw [e1, hg]
  conv => lhs; rw [e]
  rw [List.filter_append, List.filter_eq_nil_iff.mpr (fun x hx => by rw [h1 x hx]; exact Bool.false_ne_true), List.filter_eq_self.mpr h2, List.nil_append]
theorem page_in {base gs : List Int} {B B' : Int → Bool} {n : Nat} (hg : base.filter B = gs) (h2 : ∀ y ∈ gs.drop n, B' y = true) {z : Int} (hz : z ∈ base) (hb : B z = true) (hb' : B' z = false) : z ∈ gs.take n := by
  have hm : z ∈ gs.take n ++ gs.drop n := by rw [List.take_append_drop, ← hg]; exact List.mem_filter.mpr ⟨hz, hb⟩
  rcases List.mem_append.mp hm with y | y
  · exact y
  · rw [h2 z y] at hb'; cases hb'
def bel (dl : Option Int) (z : Int) : Bool := match dl with | none => true | some la => decide (z < la)
def gDn (dl : Option Int) (ks : List Int) : List Int := ks.reverse.filter (bel dl)
theorem gDn_fall {dl : Option Int} {ks : List Int} (h : Rise ks) : (gDn dl ks).Pairwise (· > ·) := (List.pairwise_reverse.mpr h).sublist List.filter_sublist
theorem dn_split {dl : Option Int} {e : Int} {ks : List Int} {n : Nat} (h : Rise ks) (he : ((gDn dl ks).take n).getLast? = some e) : (∀ x ∈ (gDn dl ks).take n, e ≤ x) ∧ (∀ y ∈ (gDn dl ks).drop n, y < e) ∧ bel dl e = true := by
  have hf := gDn_fall (dl := dl) h
  obtain ⟨ys, ey⟩ := List.getLast?_eq_some_iff.mp he
  have em : e ∈ (gDn dl ks).take n := by rw [ey]; exact List.mem_append_right _ List.mem_cons_self
  have sp : ((gDn dl ks).take n ++ (gDn dl ks).drop n).Pairwise (· > ·) := by rw [List.take_append_drop]; exact hf
  obtain ⟨p1, _, p3⟩ := List.pairwise_append.mp sp
  refine ⟨fun x hx => ?_, fun y hy => p3 e em y hy, (List.mem_filter.mp (List.mem_of_mem_take em)).2⟩
  rw [ey] at hx p1
  rcases List.mem_append.mp hx with y | y
  · exact Int.le_of_lt ((List.pairwise_append.mp p1).2.2 x y e List.mem_cons_self)
  · rw [List.mem_singleton.mp y]; exact Int.le_refl _
theorem thaw_same {H : Hp} {d D : Addr} {ob : Obj} {kvs : List (Key × V)} {ys : List V} (hd : H d = some (.dK kvs)) (hD : upd H d (.frz ob (.dK kvs)) D = none) : Same H (upd (upd (upd H d (.frz ob (.dK kvs))) D (.lst ys)) d (.dK kvs)) ∧ upd (upd (upd H d (.frz ob (.dK kvs))) D (.lst ys)) d (.dK kvs) D = some (.lst ys) ∧ H D = none ∧ upd (upd H d (.frz ob (.dK kvs))) D (.lst ys) d = some (.frz ob (.dK kvs)) := by
  have nd : D ≠ d := fun z => by rw [z, upd_same] at hD; cases hD
  have nD : H D = none := by rw [upd_ne nd] at hD; exact hD
  refine ⟨fun b o e => ?_, by rw [upd_ne nd, upd_same], nD, by rw [upd_ne (Ne.symm nd), upd_same]⟩
  by_cases c : b = d
  · subst c
    rw [upd_same, ← hd]
    exact e
  · rw [upd_ne c, upd_ne (ne_of_none e nD), upd_ne c]
    exact e
def sp__law_up_right : Sp := fun vs H Q _ => ∃ (f d : Addr) (la mo : Int) (ks : List Int) (kvs : List (Int × V)), vs = [.ref f, .ref d, .int la, .int mo] ∧ H f = some (.lst (((gUp la ks).take mo.toNat).map V.int)) ∧ H d = some (.dK (liftK kvs)) ∧ Rise ks ∧ (kvs.map (·.1)).Nodup ∧ (∀ z, z ∈ kvs.map (·.1) ↔ z ∈ ks) ∧ kvs.length ≤ 150 ∧ 1 ≤ mo ∧ mo ≤ 8 ∧ ∀ H', Same H H' → Q (.bl true) H'
theorem ok__law_up_right (T : Txt K mg t) : FnOk P w K mg base CX0 1 t.a__law_up_right t.d__law_up_right ["_law_found", "_law_kept", "_law_last", "_law_most"] sp__law_up_right := by
  refine T.F__law_up_right.ok sc__law_up_right (fun vs H Q E h => ?_) (fun cdv A outer s H vs Q E hr h => ?_)
  · obtain ⟨f, d, la, mo, ks, kvs, rfl, _⟩ := h
    rfl
  · obtain ⟨f, d, la, mo, ks, kvs, rfl, hf, hd, ri, nk, me, le, o0, o1, q⟩ := h
    refine ⟨_, (pss_cons (ps_if (PW.pt (pw_or (pt_not (pt_val (pe_callB call_isinst (by rfl) T.z_isinstance bt_isinstance (pa_cons (pv 0) (pa_cons (pe_bltn (v := .ty "list") (by rfl) T.z_list bt_list rfl) pa_nil))))) (pw_or1 (pt_cmpR op_gt (pe_callB call_len_seq (by rfl) T.z_len bt_len (pa_cons (pv 0) pa_nil)) (pv 3) (nomark _)))))
          (pss_one (ps_ret pe_bl))
          pss_nil)
          (pss_cons (ps_set (i := 4) sc__law_up_right.nd rfl (Or.inr rfl) (pv 2))
          (pss_cons (ps_for PassesOwn.never rfl (pi_list (pv 0)) (pg_name (i := 5) sc__law_up_right.nd rfl (Or.inl rfl))
          (pss_cons (ps_if (PW.pt (pw_or (pt_cmp (pc_dnotin (hu_of hr) (pv 5) (pv 1))) (pw_or1 (pt_cmpR op_le (pv 5) (pv 4) (nomark _)))))
          (pss_one (ps_ret pe_bl))
          pss_nil)
          (pss_one (ps_set (i := 4) sc__law_up_right.nd rfl (Or.inr rfl) (pv 5)))))
          (pss_cons (ps_set (i := 6) sc__law_up_right.nd rfl (Or.inl rfl) (pe_callB call_len_seq (by rfl) T.z_len bt_len (pa_cons (pe_thaw (pe_compI rfl (CScope.of (N := ["_law_found", "_law_kept", "_law_last", "_law_most", "_law_end", "_law_key", "_law_between"]) (N' := ["_law_found", "_law_kept", "_law_last", "_law_most", "_law_end", "", "_law_between"]) (dsc := defScope s__law_up_right) rfl rfl (by decide +kernel)) (pi_dict (pv 1)) (fun _ _ _ _ _ => (pt_chain op_lt op_le (pv 3) (pv 0) (pv 5))) (fun _ _ _ _ _ => (pv 0)))) pa_nil)))
          (pss_cons (ps_if (pt_cmpR op_lt (pe_callB call_len_seq (by rfl) T.z_len bt_len (pa_cons (pv 0) pa_nil)) (pv 3) (nomark _))
          (pss_one (ps_set (i := 6) sc__law_up_right.nd rfl (Or.inl rfl) (pe_callB call_len_seq (by rfl) T.z_len bt_len (pa_cons (pe_thaw (pe_compI rfl (CScope.of (N := ["_law_found", "_law_kept", "_law_last", "_law_most", "_law_end", "_law_key", "_law_between"]) (N' := ["_law_found", "_law_kept", "_law_last", "_law_most", "_law_end", "", "_law_between"]) (dsc := defScope s__law_up_right) rfl rfl (by decide +kernel)) (pi_dict (pv 1)) (fun _ _ _ _ _ => (pt_cmpR op_lt (pv 3) (pv 0) (nomark _))) (fun _ _ _ _ _ => (pv 0)))) pa_nil))))
          pss_nil)
          (pss_one (ps_ret (pe_cmpR op_eq (pv 6) (pe_callB call_len_seq (by rfl) T.z_len bt_len (pa_cons (pv 0) pa_nil)) (nomark _)))))))))
      , ?_⟩
    have hr : Rise (la :: (gUp la ks).take mo.toNat) := List.Pairwise.sublist (List.Sublist.cons_cons la (List.take_sublist _ _)) (gUp_rise ri)
    have lt : ((gUp la ks).take mo.toNat).length ≤ mo.toNat := by rw [List.length_take]; (clear o1 o0 le hd hf; omega)
    have mem : ∀ z ∈ (gUp la ks).take mo.toNat, z ∈ kvs.map (·.1) := fun z hz => (me z).mpr (List.mem_filter.mp (List.mem_of_mem_take hz)).1
    have lf : ((((gUp la ks).take mo.toNat).map V.int).length : Int) = (((gUp la ks).take mo.toNat).length : Int) := by rw [List.length_map]
    refine ⟨_, rfl, _, _, _, _, rfl, TyOf.lst hf, kit_ll, true, rfl, iteF ?_⟩
    refine ⟨_, rfl, f, _, rfl, .inl (SqL.of hf), _, rfl, _, _, rfl, rfl, _, rfl, iteND (by (clear o1 le hd hf; omega)) ?_⟩
    have cnt := fun en => up_count (la := la) (en := en) (n := mo.toNat) ri (by (clear lf lt o1 le hd hf; omega))
    have all : ∀ h : ((gUp la ks).take mo.toNat).length < mo.toNat, (ks.filter fun z => decide (la < z)).length = ((gUp la ks).take mo.toNat).length := fun h => by
      have : (gUp la ks).take mo.toNat = gUp la ks := List.take_of_length_le (by rw [List.length_take] at h; (clear lf lt o1 o0 le hd hf; omega))
      rw [this]
      rfl
    generalize (gUp la ks).take mo.toNat = fs at hf hr lt mem lf cnt all ⊢
    refine ⟨_, rfl, _, rfl, f, rfl, ⟨_, SqL.of hf⟩, for_listE (K := K) (a := f) (xs := fs.map V.int) (fun i σ H' => ∃ (en : Int) (v5 : Option V), σ = [some (.ref f), some (.ref d), some (.int la), some (.int mo), some (.int en), v5, none] ∧ H' = H ∧ (la :: fs)[i]? = some en)
      ⟨la, _, rfl, rfl, rfl⟩ (fun i σ H' _ w => by obtain ⟨_, _, _, e, _⟩ := w; rw [e]; exact SqL.of hf) (fun i x σ H' hx w => ?_) (fun σ H' w => ?_)⟩
    · obtain ⟨en, v5, eσ, eH, ee⟩ := w
      subst eσ
      subst eH
      obtain ⟨g, rfl, eg⟩ := ints_at hx
      have lg : en < g := rise_at hr ee (by rw [List.getElem?_cons_succ]; exact eg)
      obtain ⟨v, ev⟩ := val_of (mem g (List.mem_of_getElem? eg))
      refine ⟨_, rfl, _, rfl, d, _, rfl, DGet.k (k := Sum.inl g) hd, _, rfl, ?_⟩
      rw [liftK_val, ev]
      refine iteF ⟨_, rfl, _, rfl, _, _, rfl, rfl, _, rfl, iteND (by (clear ev hx eg hf hd ee lf lt o1 o0 le; omega)) ?_⟩
      exact ⟨_, rfl, g, _, rfl, rfl, by rw [List.getElem?_cons_succ]; exact eg⟩
    · obtain ⟨en, v5, eσ, eH, ee⟩ := w
      subst eσ
      subst eH
      rw [List.length_map] at ee
      refine ⟨d, liftK kvs, hd, _, rfl, d, _, rfl, hd, fun ob D hD => ?_⟩
      refine comp_dictI (ob := ob) (d := d) (kvs := liftK kvs) (fun i ys H2 => H2 = upd (upd H' d (.frz ob (.dK (liftK kvs)))) D (.lst ys) ∧ ys = (((kvs.map (fun p : Int × V => p.1)).take i).filter fun z => decide (la < z) && decide (z ≤ en)).map V.int) ⟨rfl, rfl⟩ (fun i ys H2 _ w => by rw [w.1]; exact (thaw_same hd hD).2.2.2) (fun i k v ys H2 hk w hDD => ?_) (fun ys H2 w hDD => ?_)
      · obtain ⟨g, rfl, eg⟩ := lift_at hk
        have hi : i < (liftK kvs).length := (List.getElem?_eq_some_iff.mp hk).1
        have fl := filt_len (fun z => decide (la < z) && decide (z ≤ en)) (kvs.map (fun p : Int × V => p.1)) i
        rw [List.length_map] at fl
        refine ⟨_, rfl, _, rfl, _, _, rfl, rfl, _, rfl, ?_⟩
        by_cases c1 : la < g
        · refine iteD c1 ⟨_, rfl, _, _, rfl, rfl, _, rfl, ?_⟩
          by_cases c2 : g ≤ en
          · refine iteD c2 ⟨_, rfl, CNext.mk hi hDD (small1e5 (by rw [w.2, List.length_map]; (clear c2 c1 hi hk eg hDD w hD hf hd ee lf lt o1 o0; omega))) ⟨by rw [w.1, upd_upd], ?_⟩⟩
            rw [w.2, filt_step eg, if_pos (by rw [decide_eq_true c1, decide_eq_true c2]; rfl), List.map_append]
            rfl
          · refine iteND c2 (CSkip.mk hi hDD ⟨w.1, ?_⟩)
            rw [w.2, filt_step eg, if_neg (by rw [decide_eq_false c2, Bool.and_false]; exact Bool.false_ne_true), List.append_nil]
        · refine iteND c1 ⟨_, rfl, iteF (CSkip.mk hi hDD ⟨w.1, ?_⟩)⟩
          rw [w.2, filt_step eg, if_neg (by rw [decide_eq_false c1, Bool.false_and]; exact Bool.false_ne_true), List.append_nil]
      obtain ⟨w1, w2⟩ := w
      subst w1
      obtain ⟨t1, t2, t3, t4⟩ := thaw_same (ys := ys) hd hD
      refine ⟨ob, t4, D, _, rfl, .inl (SqL.of t2), ?_⟩
      rw [liftK_len, List.take_of_length_le (Nat.le_of_eq (List.length_map _))] at w2
      have ly : (ys.length : Int) = (fs.length : Int) := by rw [w2, List.length_map, cnt_eq _ nk (nodup_rise ri) me, cnt en ee]
      rw [ly]
      have t5 := t1 _ _ hf
      have t6 := t1 _ _ hd
      generalize upd (upd (upd H' d (.frz ob (.dK (liftK kvs)))) D (.lst ys)) d (.dK (liftK kvs)) = H3 at t1 t5 t6 ⊢
      have fin : ∀ {H4 : Hp}, Same H' H4 → H4 f = some (.lst (fs.map V.int)) → ∀ {n : Int}, n = (fs.length : Int) → scal (.int n) (.int ((fs.map V.int).length : Int)) = true ∧ Q (.bl (decide (V.int n = V.int ((fs.map V.int).length : Int)))) H4 := fun {H4} s4 _ {n} e => ⟨rfl, by rw [e, lf, decide_eq_true rfl]; exact q _ s4⟩
      refine ⟨_, rfl, f, _, rfl, .inl (SqL.of t5), _, rfl, _, _, rfl, rfl, _, rfl, ?_⟩
      by_cases c : ((fs.map V.int).length : Int) < mo
      · refine iteD c ⟨d, liftK kvs, t6, _, rfl, d, _, rfl, t6, fun ob D hD => ?_⟩
        refine comp_dictI (ob := ob) (d := d) (kvs := liftK kvs) (fun i ys H2 => H2 = upd (upd H3 d (.frz ob (.dK (liftK kvs)))) D (.lst ys) ∧ ys = (((kvs.map (fun p : Int × V => p.1)).take i).filter fun z => decide (la < z)).map V.int) ⟨rfl, rfl⟩ (fun i ys H2 _ w => by rw [w.1]; exact (thaw_same t6 hD).2.2.2) (fun i k v ys H2 hk w hDD => ?_) (fun ys H2 w hDD => ?_)
        · obtain ⟨g, rfl, eg⟩ := lift_at hk
          have hi : i < (liftK kvs).length := (List.getElem?_eq_some_iff.mp hk).1
          have fl := filt_len (fun z => decide (la < z)) (kvs.map (fun p : Int × V => p.1)) i
          rw [List.length_map] at fl
          refine ⟨_, rfl, _, rfl, _, _, rfl, rfl, _, rfl, ?_⟩
          by_cases c1 : la < g
          · refine iteD c1 ⟨_, rfl, CNext.mk hi hDD (small1e5 (by rw [w.2, List.length_map]; (clear c1 hi hk eg hDD w hD c t6 t5 ly t4 t3 t2 w2 hf hd ee lf lt o1 o0; omega))) ⟨by rw [w.1, upd_upd], ?_⟩⟩
            rw [w.2, filt_step eg, if_pos (decide_eq_true c1), List.map_append]
            rfl
          · refine iteND c1 (CSkip.mk hi hDD ⟨w.1, ?_⟩)
            rw [w.2, filt_step eg, if_neg (by rw [decide_eq_false c1]; exact Bool.false_ne_true), List.append_nil]
        obtain ⟨w1, w2⟩ := w
        subst w1
        obtain ⟨u1, u2, u3, u4⟩ := thaw_same (ys := ys) t6 hD
        refine ⟨ob, u4, D, _, rfl, .inl (SqL.of u2), ?_⟩
        rw [liftK_len, List.take_of_length_le (Nat.le_of_eq (List.length_map _))] at w2
        have ly2 : (ys.length : Int) = (fs.length : Int) := by rw [w2, List.length_map, cnt_eq _ nk (nodup_rise ri) me, all (by (clear u4 u3 u2 hDD w2 hD t6 t5 ly t4 t3 t2 hf hd ee lt o1 o0 le; omega))]
        have u5 := u1 _ _ t5
        exact ⟨_, rfl, _, rfl, f, _, rfl, .inl (SqL.of u5), fin (t1.trans u1) u5 ly2⟩
      · refine iteND c ⟨_, rfl, _, rfl, f, _, rfl, .inl (SqL.of t5), fin t1 t5 rfl⟩
def sp__law_down_right : Sp := fun vs H Q _ => ∃ (f d : Addr) (dl : Option Int) (mo : Int) (ks : List Int) (kvs : List (Int × V)), vs = [.ref f, .ref d, vDn dl, .int mo] ∧ H f = some (.lst (((gDn dl ks).take mo.toNat).map V.int)) ∧ H d = some (.dK (liftK kvs)) ∧ Rise ks ∧ (kvs.map (·.1)).Nodup ∧ (∀ z, z ∈ kvs.map (·.1) ↔ z ∈ ks) ∧ kvs.length ≤ 150 ∧ 1 ≤ mo ∧ mo ≤ 8 ∧ ∀ H', Same H H' → Q (.bl true) H'
theorem len_rev (P : Int → Bool) (ks : List Int) : (ks.filter P).length = (ks.reverse.filter P).length := by rw [List.filter_reverse, List.length_reverse]
theorem ok__law_down_right (T : Txt K mg t) : FnOk P w K mg base CX0 1 t.a__law_down_right t.d__law_down_right ["_law_found", "_law_kept", "_law_last", "_law_most"] sp__law_down_right := by
  refine T.F__law_down_right.ok sc__law_down_right (fun vs H Q E h => ?_) (fun cdv A outer s H vs Q E hr h => ?_)
  · obtain ⟨f, d, dl, mo, ks, kvs, rfl, _⟩ := h
    rfl
  · obtain ⟨f, d, dl, mo, ks, kvs, rfl, hf, hd, ri, nk, me, le, o0, o1, q⟩ := h
    refine ⟨_, (pss_cons (ps_if (PW.pt (pw_or (pt_not (pt_val (pe_callB call_isinst (by rfl) T.z_isinstance bt_isinstance (pa_cons (pv 0) (pa_cons (pe_bltn (v := .ty "list") (by rfl) T.z_list bt_list rfl) pa_nil))))) (pw_or1 (pt_cmpR op_gt (pe_callB call_len_seq (by rfl) T.z_len bt_len (pa_cons (pv 0) pa_nil)) (pv 3) (nomark _)))))
          (pss_one (ps_ret pe_bl))
          pss_nil)
          (pss_cons (ps_set (i := 4) sc__law_down_right.nd rfl (Or.inr rfl) (pv 2))
          (pss_cons (ps_for PassesOwn.never rfl (pi_list (pv 0)) (pg_name (i := 5) sc__law_down_right.nd rfl (Or.inl rfl))
          (pss_cons (ps_if (PW.pt (pw_or (pt_cmp (pc_dnotin (hu_of hr) (pv 5) (pv 1))) (pw_or1 (PW.pt (pw_and (pt_cmpR op_notN (pv 4) pe_non (nomark _)) (pw_and1 (pt_cmpR op_ge (pv 5) (pv 4) (nomark _))))))))
          (pss_one (ps_ret pe_bl))
          pss_nil)
          (pss_one (ps_set (i := 4) sc__law_down_right.nd rfl (Or.inr rfl) (pv 5)))))
          (pss_cons (ps_thaw (ps_compI (i := 6) rfl (CScope.of (N := ["_law_found", "_law_kept", "_law_last", "_law_most", "_law_end", "_law_key", "_law_below"]) (N' := ["_law_found", "_law_kept", "_law_last", "_law_most", "_law_end", "", "_law_below"]) (dsc := defScope s__law_down_right) rfl rfl (by decide +kernel)) (pi_dict (pv 1)) (fun _ _ _ _ _ => (PW.pt (pw_or (pt_cmpR op_isN (pv 3) pe_non (nomark _)) (pw_or1 (pt_cmpR op_lt (pv 0) (pv 3) (nomark _)))))) (fun _ _ _ _ _ => (pv 0)) sc__law_down_right.nd rfl rfl))
          (pss_cons (ps_if (pt_cmpR op_lt (pe_callB call_len_seq (by rfl) T.z_len bt_len (pa_cons (pv 0) pa_nil)) (pv 3) (nomark _))
          (pss_one (ps_ret (pe_cmpR op_eq (pe_callB call_len_seq (by rfl) T.z_len bt_len (pa_cons (pv 0) pa_nil)) (pe_callB call_len_seq (by rfl) T.z_len bt_len (pa_cons (pv 6) pa_nil)) (nomark _))))
          pss_nil)
          (pss_one (ps_ret (pe_cmpR op_eq (pe_callB call_len_seq (by rfl) T.z_len bt_len (pa_cons (pv 0) pa_nil)) (pe_callB call_len_seq (by rfl) T.z_len bt_len (pa_cons (pe_compI rfl (CScope.of (N := ["_law_found", "_law_kept", "_law_last", "_law_most", "_law_end", "_law_key", "_law_below"]) (N' := ["_law_found", "_law_kept", "_law_last", "_law_most", "_law_end", "", "_law_below"]) (dsc := defScope s__law_down_right) rfl rfl (by decide +kernel)) (pi_list (pv 6)) (fun _ _ _ _ _ => (pt_cmpR op_ge (pv 0) (pv 5) (nomark _))) (fun _ _ _ _ _ => (pv 0))) pa_nil)) (nomark _)))))))))
      , ?_⟩
    have hr : ((gDn dl ks).take mo.toNat).Pairwise (· > ·) := (gDn_fall ri).sublist (List.take_sublist _ _)
    have lt : ((gDn dl ks).take mo.toNat).length ≤ mo.toNat := by rw [List.length_take]; (clear o1 o0 le hd hf; omega)
    have mem : ∀ z ∈ (gDn dl ks).take mo.toNat, z ∈ kvs.map (·.1) := fun z hz => (me z).mpr (List.mem_reverse.mp (List.mem_filter.mp (List.mem_of_mem_take hz)).1)
    have bl : ∀ z ∈ (gDn dl ks).take mo.toNat, bel dl z = true := fun z hz => (List.mem_filter.mp (List.mem_of_mem_take hz)).2
    have lf : ((((gDn dl ks).take mo.toNat).map V.int).length : Int) = (((gDn dl ks).take mo.toNat).length : Int) := by rw [List.length_map]
    have all : ((gDn dl ks).take mo.toNat).length < mo.toNat → ((kvs.map (·.1)).filter (bel dl)).length = ((gDn dl ks).take mo.toNat).length := fun h => by
      have : (gDn dl ks).take mo.toNat = gDn dl ks := List.take_of_length_le (by rw [List.length_take] at h; (clear lf lt o1 o0 le hd hf; omega))
      rw [this, cnt_eq _ nk (nodup_rise ri) me, len_rev]
      rfl
    have cnt : ∀ e : Int, ((gDn dl ks).take mo.toNat).getLast? = some e → (((kvs.map (·.1)).filter (bel dl)).filter fun z => decide (e ≤ z)).length = ((gDn dl ks).take mo.toNat).length := fun e he => by
      obtain ⟨h1, h2, _⟩ := dn_split ri he
      rw [List.filter_filter, cnt_eq _ nk (nodup_rise ri) me, len_rev, ← List.filter_filter]
      show ((gDn dl ks).filter _).length = _
      rw [upto (n := mo.toNat) (gDn_fall ri) (fun x hx => decide_eq_true (h1 x hx)) fun y hy => decide_eq_false (by have := h2 y hy; (clear he lf lt o1 o0 le hd hf; omega))]
    refine ⟨_, rfl, _, _, _, _, rfl, TyOf.lst hf, kit_ll, true, rfl, iteF ?_⟩
    refine ⟨_, rfl, f, _, rfl, .inl (SqL.of hf), _, rfl, _, _, rfl, rfl, _, rfl, iteND (by (clear o1 le hd hf; omega)) ?_⟩
    generalize (gDn dl ks).take mo.toNat = fs at hf hr lt mem bl lf cnt all ⊢
    refine ⟨_, rfl, _, rfl, f, rfl, ⟨_, SqL.of hf⟩, for_listE (K := K) (a := f) (xs := fs.map V.int) (fun i σ H' => ∃ (en : V) (v5 : Option V), σ = [some (.ref f), some (.ref d), some (vDn dl), some (.int mo), some en, v5, none] ∧ H' = H ∧ (i = 0 → en = vDn dl) ∧ ∀ j, i = j + 1 → ∃ e : Int, fs[j]? = some e ∧ en = .int e)
      ⟨_, _, rfl, rfl, (fun _ => rfl), fun j h => by cases h⟩ (fun i σ H' _ w => by obtain ⟨_, _, _, e, _⟩ := w; rw [e]; exact SqL.of hf) (fun i x σ H' hx w => ?_) (fun σ H' w => ?_)⟩
    · obtain ⟨en, v5, eσ, eH, e0, e1⟩ := w
      subst eσ
      subst eH
      obtain ⟨g, rfl, eg⟩ := ints_at hx
      have hn : en = .non ∨ ∃ e : Int, en = .int e ∧ g < e := by
        cases i with
        | zero =>
          rw [e0 rfl]
          have hb := bl g (List.mem_of_getElem? eg)
          cases dl with
          | none => exact .inl rfl
          | some la => exact .inr ⟨la, rfl, of_decide_eq_true hb⟩
        | succ j =>
          obtain ⟨e, h1, h2⟩ := e1 j rfl
          obtain ⟨hx1, rfl⟩ := List.getElem?_eq_some_iff.mp h1
          obtain ⟨hx2, rfl⟩ := List.getElem?_eq_some_iff.mp eg
          exact .inr ⟨_, h2, List.pairwise_iff_getElem.mp hr j (j + 1) hx1 hx2 (by (clear hx eg hx2 h2 h1 hx1 hf hd lf lt o1 o0 le; omega))⟩
      obtain ⟨v, ev⟩ := val_of (mem g (List.mem_of_getElem? eg))
      have nxt : ∀ j, i + 1 = j + 1 → ∃ e : Int, fs[j]? = some e ∧ V.int g = .int e := fun j h => by
        obtain rfl : i = j := by (clear ev hn hx eg hf hd lf lt o1 o0 le; omega)
        exact ⟨g, eg, rfl⟩
      refine ⟨_, rfl, _, rfl, d, _, rfl, DGet.k (k := Sum.inl g) hd, _, rfl, ?_⟩
      rw [liftK_val, ev]
      rcases hn with rfl | ⟨e, rfl, lg⟩
      · refine iteF ⟨_, rfl, rfl, _, rfl, iteNE rfl ?_⟩
        exact ⟨_, rfl, _, _, rfl, rfl, (fun h => by (clear ev hx eg hf hd lf lt o1 o0 le; omega)), nxt⟩
      · refine iteF ⟨_, rfl, rfl, _, rfl, iteNT (fun z => by cases z) ⟨_, rfl, _, rfl, _, _, rfl, rfl, _, rfl, iteND (by (clear ev hx eg hf hd lf lt o1 o0 le; omega)) ?_⟩⟩
        exact ⟨_, rfl, _, _, rfl, rfl, (fun h => by (clear lg ev hx eg hf hd lf lt o1 o0 le; omega)), nxt⟩
    · obtain ⟨en, v5, eσ, eH, e0, e1⟩ := w
      subst eσ
      subst eH
      rw [List.length_map] at e0 e1
      refine ⟨d, liftK kvs, hd, _, rfl, d, _, rfl, hd, fun ob D hD => ?_⟩
      refine comp_dictI (ob := ob) (d := d) (kvs := liftK kvs) (fun i ys H2 => H2 = upd (upd H' d (.frz ob (.dK (liftK kvs)))) D (.lst ys) ∧ ys = (((kvs.map (fun p : Int × V => p.1)).take i).filter (bel dl)).map V.int) ⟨rfl, rfl⟩ (fun i ys H2 _ w => by rw [w.1]; exact (thaw_same hd hD).2.2.2) (fun i k v ys H2 hk w hDD => ?_) (fun ys H2 w hDD => ?_)
      · obtain ⟨g, rfl, eg⟩ := lift_at hk
        have hi : i < (liftK kvs).length := (List.getElem?_eq_some_iff.mp hk).1
        have fl := filt_len (bel dl) (kvs.map (fun p : Int × V => p.1)) i
        rw [List.length_map] at fl
        have yes : bel dl g = true → CNext (liftK kvs).length i ys D (fun i ys H2 => H2 = upd (upd H' d (.frz ob (.dK (liftK kvs)))) D (.lst ys) ∧ ys = (((kvs.map (fun p : Int × V => p.1)).take i).filter (bel dl)).map V.int) (.int g) H2 := fun c =>
          CNext.mk hi hDD (small1e5 (by rw [w.2, List.length_map]; (clear c hi hk eg hDD w hD hf hd lf lt o1 o0; omega))) ⟨by rw [w.1, upd_upd], by rw [w.2, filt_step eg, if_pos c, List.map_append]; rfl⟩
        cases dl with
        | none => exact ⟨_, rfl, rfl, _, rfl, iteE rfl ⟨_, rfl, yes rfl⟩⟩
        | some la =>
          refine ⟨_, rfl, rfl, _, rfl, iteND (fun z => by cases z) ⟨_, rfl, _, rfl, _, _, rfl, rfl, _, rfl, ?_⟩⟩
          by_cases c : g < la
          · exact iteD c ⟨_, rfl, yes (decide_eq_true c)⟩
          · refine iteND c (CSkip.mk hi hDD ⟨w.1, ?_⟩)
            rw [w.2, filt_step eg, if_neg (by show ¬ decide (g < la) = true; rw [decide_eq_false c]; exact Bool.false_ne_true), List.append_nil]
      obtain ⟨w1, w2⟩ := w
      subst w1
      obtain ⟨t1, t2, t3, t4⟩ := thaw_same (ys := ys) hd hD
      refine ⟨ob, t4, ?_⟩
      rw [liftK_len, List.take_of_length_le (Nat.le_of_eq (List.length_map _))] at w2
      rw [w2] at t2 ⊢
      have t5 := t1 _ _ hf
      rw [w2] at t1 t5
      generalize upd (upd (upd H' d (.frz ob (.dK (liftK kvs)))) D (.lst (((kvs.map (fun p : Int × V => p.1)).filter (bel dl)).map V.int))) d (.dK (liftK kvs)) = H3 at t1 t2 t5 ⊢
      refine ⟨_, rfl, f, _, rfl, .inl (SqL.of t5), _, rfl, _, _, rfl, rfl, _, rfl, ?_⟩
      by_cases c : ((fs.map V.int).length : Int) < mo
      · refine iteD c ⟨_, rfl, f, _, rfl, .inl (SqL.of t5), _, rfl, D, _, rfl, .inl (SqL.of t2), rfl, ?_⟩
        rw [decide_eq_true (by rw [lf, List.length_map, all (by (clear t5 t2 t4 t3 hDD w2 hD hf hd lt o1 o0 le; omega))])]
        exact q H3 t1
      · refine iteND c ⟨_, rfl, f, _, rfl, .inl (SqL.of t5), _, rfl, D, rfl, ⟨_, SqL.of t2⟩, fun D2 hD2 => ?_⟩
        have fpos : 0 < fs.length := by (clear hD2 t5 t2 t4 t3 hDD w2 hD hf hd lt o1 le; omega)
        obtain ⟨e, he, rfl⟩ := e1 (fs.length - 1) (by (clear fpos hD2 t5 t2 t4 t3 hDD w2 hD hf hd lt o1 le; omega))
        have hl : fs.getLast? = some e := by rw [List.getLast?_eq_getElem?]; exact he
        have cn := cnt e hl
        have ld : ((kvs.map (fun p : Int × V => p.1)).filter (bel dl)).length ≤ 150 := by
          have := List.length_filter_le (bel dl) (kvs.map (fun p : Int × V => p.1))
          rw [List.length_map] at this
          (clear cn hl he fpos hD2 c t5 t2 t4 t3 hDD w2 hD hf hd lf lt o1 o0; omega)
        generalize (kvs.map (fun p : Int × V => p.1)).filter (bel dl) = bs at t2 cn ld ⊢
        refine comp_listI (K := K) (a := D) (xs := bs.map V.int) (fun i ys H2 => H2 = upd H3 D2 (.lst ys) ∧ ys = ((bs.take i).filter fun z => decide (e ≤ z)).map V.int) ⟨rfl, rfl⟩ (fun i ys H2 _ w => SqL.of (by rw [w.1, upd_ne (ne_of_none t2 hD2)]; exact t2)) (fun i x ys H2 hx w hDD => ?_) (fun ys H2 w hDD => ?_)
        · have hi : i < (bs.map V.int).length := (List.getElem?_eq_some_iff.mp hx).1
          obtain ⟨g, rfl, eg⟩ := ints_at hx
          have fl := filt_len (fun z => decide (e ≤ z)) bs i
          refine ⟨_, rfl, _, rfl, _, _, rfl, rfl, _, rfl, ?_⟩
          by_cases cg : e ≤ g
          · refine iteD cg ⟨_, rfl, CNext.mk hi hDD (small1e5 (by rw [w.2, List.length_map]; (clear cg hx eg hi hDD w cn t2 hl he fpos hD2 c t5 t4 t3 w2 hD hf hd lf lt o1 o0 le; omega))) ⟨by rw [w.1, upd_upd], ?_⟩⟩
            rw [w.2, filt_step eg, if_pos (decide_eq_true cg), List.map_append]
            rfl
          · refine iteND cg (CSkip.mk hi hDD ⟨w.1, ?_⟩)
            rw [w.2, filt_step eg, if_neg (by rw [decide_eq_false cg]; exact Bool.false_ne_true), List.append_nil]
        obtain ⟨w1, w2'⟩ := w
        rw [List.length_map, List.take_length] at w2'
        refine ⟨D2, _, rfl, .inl (SqL.of hDD), rfl, ?_⟩
        rw [decide_eq_true (by rw [lf, w2', List.length_map, cn])]
        exact q H2 (t1.trans (by rw [w1]; exact same_new hD2))
theorem last_two {us fs : List Int} {la : Int} (h : us.getLast? = some la) : ∃ en, (la :: fs)[fs.length]? = some en ∧ (us ++ fs).getLast? = some en := by
  obtain ⟨pre, rfl⟩ := List.getLast?_eq_some_iff.mp h
  obtain ⟨en, e1, _, _, e4⟩ := last_at (la := la) (fs := fs)
  refine ⟨en, e1, ?_⟩
  rw [List.append_assoc, List.singleton_append, List.getLast?_append, List.getLast?_eq_some_getLast (by simp : la :: fs ≠ []), e4]
  rfl
def sp__law_walked (K : PySem.W.Frag) (t : Adr) : Sp := fun vs H Q _ => ∃ (a d u : Addr) (la mo : Int) (F : Addr → Prop) (ks : List Int) (kvs : List (Int × V)) (us : List Int), vs = [.ref a, .ref d, .ref u, .int mo] ∧ J22 K t H a d F ks kvs ∧ H u = some (.lst (us.map V.int)) ∧ ¬ F u ∧ us.getLast? = some la ∧ us.length ≤ 2000 ∧ 1 ≤ mo ∧ mo ≤ 8 ∧
  ∀ H', J22 K t H' a d F ks kvs → (∀ b o, b ≠ u → H b = some o → H' b = some o) → H' u = some (.lst ((us ++ (gUp la ks).take mo.toNat).map V.int)) → Q (.bl true) H'
theorem ok__law_walked (T : Txt K mg t) : FnOk P w K mg base CX0 3 t.a__law_walked t.d__law_walked ["_law_told", "_law_kept", "_law_up", "_law_most"] (sp__law_walked K t) := by
  have G_Leaves__from_on : FnOk P w K mg base CX0 2 t.a_Leaves__from_on t.d_Leaves__from_on ["self", "key", "most"] (sp_Leaves__from_on K t) := ok_Leaves__from_on T
  have G__law_up_right : FnOk P w K mg base CX0 1 t.a__law_up_right t.d__law_up_right ["_law_found", "_law_kept", "_law_last", "_law_most"] sp__law_up_right := ok__law_up_right T
  refine T.F__law_walked.ok sc__law_walked (fun vs H Q E h => ?_) (fun cdv A outer s H vs Q E hr h => ?_)
  · obtain ⟨a, d, u, la, mo, F, ks, kvs, us, rfl, _⟩ := h
    rfl
  · obtain ⟨a, d, u, la, mo, F, ks, kvs, us, rfl, J, hu, ou, hla, lu, o0, o1, q⟩ := h
    refine ⟨_, (pss_cons (ps_set (i := 4) sc__law_walked.nd rfl (Or.inl rfl) (pe_ix ix_list (pv 2) (pe_un un_neg pe_int) (fun _ _ => rfl)))
          (pss_cons (ps_set (i := 5) sc__law_walked.nd rfl (Or.inl rfl) (pe_meth (pv 0) T.cl_Leaves T.me_Leaves_from_on G_Leaves__from_on (hr.mono (by decide)) T.b_Leaves__from_on .nil pass0 (pa_cons (pe_op op_add (pv 4) pe_int) (pa_cons (pv 3) pa_nil))))
          (pss_cons (ps_if (pt_not (pt_val (pe_call G__law_up_right (hr.mono (by decide)) (by rfl) T.m__law_up_right T.F__law_up_right.kp T.b__law_up_right .nil pass0 (pa_cons (pv 5) (pa_cons (pv 1) (pa_cons (pv 4) (pa_cons (pv 3) pa_nil)))))))
          (pss_one (ps_ret pe_bl))
          pss_nil)
          (pss_cons (ps_expr (pe_bm PySem.F.plainAttrs_list PySem.F.slot_list_extend PySem.F.type_list_extend mt_extend (pv 2) (pa_cons (pv 5) pa_nil)))
          (pss_one (ps_ret pe_bl))))))
      , ?_⟩
    have ud : u ≠ d := fun z => by rw [z, J.di] at hu; cases hu
    have une : us ≠ [] := fun z => by rw [z] at hla; cases hla
    have lj := J.len
    have le := J.le
    refine ⟨_, rfl, _, rfl, u, _, _, _, rfl, rfl, SqL.of hu, at_last une (by rw [← List.getLast?_eq_getElem?]; exact hla), ?_⟩
    obtain ⟨dy, fs, hi, hm⟩ := J.lv.ins
    refine ⟨_, rfl, a, dy, fs, rfl, hi, hm _ (by decide +kernel), _, rfl, _, _, rfl, rfl, _, rfl, a, la + 1, mo, F, ks, rfl, J.lv, by (clear hi une ud o1 o0 lu hla ou hu; omega), by (clear hi le lj une ud o1 lu hla ou hu; omega), fun H1 f s1 nf hf => ?_⟩
    refine ⟨_, rfl, _, rfl, _, rfl, _, rfl, f, d, la, mo, ks, kvs, rfl, hf, s1 _ _ J.di, J.lv.rise, J.nk, J.me, J.le, o0, o1, fun H2 s2 => ⟨true, rfl, iteF ?_⟩⟩
    have s12 := s1.trans s2
    have hu2 := s12 _ _ hu
    have hf2 : H2 f = some (.lst (((gUp la ks).take mo.toNat).map V.int)) := s2 _ _ hf
    have J2 := J.same s12
    have lt : ((gUp la ks).take mo.toNat).length ≤ mo.toNat := by rw [List.length_take]; (clear hf2 hu2 hf nf hi le lj une ud o1 o0 lu hla ou hu; omega)
    refine ⟨_, rfl, .inl ⟨rfl, _, SqL.of hu2⟩, _, rfl, u, f, _, _, rfl, rfl, hu2, hf2, Nat.le_of_lt (small1e5 (by rw [List.length_map, List.length_map]; (clear hf2 hu2 hf nf hi le lj une ud o0 hla ou hu; omega))), ?_⟩
    refine q _ ⟨J2.lv.upd ou, by rw [upd_ne (Ne.symm ud)]; exact J2.di, J.nd, J.nk, J.me, J.k0, J.le⟩ (fun b o nb e => by rw [upd_ne nb]; exact s12 _ _ e) ?_
    rw [upd_same, List.map_append]
def sp__law_fallen (K : PySem.W.Frag) (t : Adr) : Sp := fun vs H Q _ => ∃ (a d w : Addr) (mo : Int) (F : Addr → Prop) (ks : List Int) (kvs : List (Int × V)) (ws : List Int), vs = [.ref a, .ref d, .ref w, .int mo] ∧ J22 K t H a d F ks kvs ∧ H w = some (.lst (ws.map V.int)) ∧ ¬ F w ∧ ws.length ≤ 2000 ∧ 1 ≤ mo ∧ mo ≤ 8 ∧
  ∀ H', J22 K t H' a d F ks kvs → (∀ b o, b ≠ w → H b = some o → H' b = some o) → H' w = some (.lst ((ws ++ (gDn ws.getLast? ks).take mo.toNat).map V.int)) → Q (.bl true) H'
theorem ok__law_fallen (T : Txt K mg t) : FnOk P w K mg base CX0 3 t.a__law_fallen t.d__law_fallen ["_law_told", "_law_kept", "_law_down", "_law_most"] (sp__law_fallen K t) := by
  have G_Leaves__down_from : FnOk P w K mg base CX0 2 t.a_Leaves__down_from t.d_Leaves__down_from ["self", "key", "most"] (sp_Leaves__down_from K t) := ok_Leaves__down_from T
  have G__law_down_right : FnOk P w K mg base CX0 1 t.a__law_down_right t.d__law_down_right ["_law_found", "_law_kept", "_law_last", "_law_most"] sp__law_down_right := ok__law_down_right T
  refine T.F__law_fallen.ok sc__law_fallen (fun vs H Q E h => ?_) (fun cdv A outer s H vs Q E hr h => ?_)
  · obtain ⟨a, d, w, mo, F, ks, kvs, ws, rfl, _⟩ := h
    rfl
  · obtain ⟨a, d, w, mo, F, ks, kvs, ws, rfl, J, hw, ow, lw, o0, o1, q⟩ := h
    refine ⟨_, (pss_cons (ps_set (i := 4) sc__law_fallen.nd rfl (Or.inl rfl) pe_non)
          (pss_cons (ps_if (pt_cmpR (op_neD K rfl hr.u20) (pv 2) (pe_lst pa_nil) (nomark _))
          (pss_one (ps_set (i := 4) sc__law_fallen.nd rfl (Or.inl rfl) (pe_ix ix_list (pv 2) (pe_un un_neg pe_int) (fun _ _ => rfl))))
          pss_nil)
          (pss_cons (ps_set (i := 5) sc__law_fallen.nd rfl (Or.inl rfl) (pe_lst pa_nil))
          (pss_cons (ps_if (pt_cmpR op_isN (pv 4) pe_non (nomark _))
          (pss_one (ps_set (i := 5) sc__law_fallen.nd rfl (Or.inl rfl) (pe_meth (pv 0) T.cl_Leaves T.me_Leaves_down_from G_Leaves__down_from (hr.mono (by decide)) T.b_Leaves__down_from .nil pass0 (pa_cons pe_non (pa_cons (pv 3) pa_nil)))))
          (pss_one (ps_if (pt_cmpR op_gt (pv 4) pe_int (nomark _))
          (pss_one (ps_set (i := 5) sc__law_fallen.nd rfl (Or.inl rfl) (pe_meth (pv 0) T.cl_Leaves T.me_Leaves_down_from G_Leaves__down_from (hr.mono (by decide)) T.b_Leaves__down_from .nil pass0 (pa_cons (pe_op op_sub (pv 4) pe_int) (pa_cons (pv 3) pa_nil)))))
          pss_nil)))
          (pss_cons (ps_if (pt_not (pt_val (pe_call G__law_down_right (hr.mono (by decide)) (by rfl) T.m__law_down_right T.F__law_down_right.kp T.b__law_down_right .nil pass0 (pa_cons (pv 5) (pa_cons (pv 1) (pa_cons (pv 4) (pa_cons (pv 3) pa_nil)))))))
          (pss_one (ps_ret pe_bl))
          pss_nil)
          (pss_cons (ps_expr (pe_bm PySem.F.plainAttrs_list PySem.F.slot_list_extend PySem.F.type_list_extend mt_extend (pv 2) (pa_cons (pv 5) pa_nil)))
          (pss_one (ps_ret pe_bl))))))))
      , ?_⟩
    have wd : w ≠ d := fun z => by rw [z, J.di] at hw; cases hw
    have lj := J.len
    have le := J.le
    have lt : ((gDn ws.getLast? ks).take mo.toNat).length ≤ mo.toNat := by rw [List.length_take]; (clear le lj wd o1 o0 lw ow hw; omega)
    have fin : ∀ {H2 : Hp} {zs : List V}, Same H H2 → zs = ((gDn ws.getLast? ks).take mo.toNat).map V.int → Q (.bl true) (upd H2 w (.lst (ws.map V.int ++ zs))) := fun {H2 zs} s2 ez => by
      have J2 := J.same s2
      refine q _ ⟨J2.lv.upd ow, by rw [upd_ne (Ne.symm wd)]; exact J2.di, J.nd, J.nk, J.me, J.k0, J.le⟩ (fun b o nb e => by rw [upd_ne nb]; exact s2 _ _ e) ?_
      rw [upd_same, ez, List.map_append]
    have size : ∀ zs : List V, zs = ((gDn ws.getLast? ks).take mo.toNat).map V.int → (ws.map V.int).length + zs.length ≤ sizeLine := fun zs ez => by
      rw [ez, List.length_map, List.length_map]
      exact Nat.le_of_lt (small1e5 (by (clear ez le lj wd o0 ow hw; omega)))
    refine ⟨_, rfl, Nat.zero_le _, fun pe ne => neD_ints (ns := ws) (ms := []) (SqL.of (by rw [upd_ne (ne_of_none hw ne)]; exact hw)) (SqL.of upd_same) ⟨_, rfl, ?_⟩⟩
    have s1 : Same H (upd H pe (.lst [])) := same_new ne
    generalize upd H pe (.lst []) = H1 at s1 ⊢
    by_cases ce : ws = []
    · rw [decide_eq_true ce]
      refine iteF ⟨Nat.zero_le _, fun l0 n0 => ?_⟩
      have s2 := s1.trans (same_new (o := .lst []) n0)
      generalize upd H1 l0 (.lst []) = H2 at s2 ⊢
      have J2 := J.same s2
      obtain ⟨dy, fs, hi, hm⟩ := J2.lv.ins
      refine ⟨_, rfl, rfl, _, rfl, iteE rfl ?_⟩
      refine ⟨_, rfl, a, dy, fs, rfl, hi, hm _ (by decide +kernel), _, rfl, a, none, mo, F, ks, rfl, J2.lv, by (clear hi n0 ce ne lt wd o1 o0 lw ow hw; omega), by (clear hi n0 ce ne lt le lj wd o1 lw ow hw; omega), fun H3 f s3 nf hf => ?_⟩
      have eg : (ks.reverse.filter (okDn none)).take mo.toNat = (gDn ws.getLast? ks).take mo.toNat := by
        rw [ce]
        rfl
      rw [eg] at hf
      have s3 := s2.trans s3
      have hl : ws.getLast? = none := by rw [ce]; rfl
      refine ⟨_, rfl, _, rfl, _, rfl, _, rfl, f, d, ws.getLast?, mo, ks, kvs, by rw [hl]; rfl, hf, s3 _ _ J.di, J.lv.rise, J.nk, J.me, J.le, o0, o1, fun H4 s4 => ⟨true, rfl, iteF ?_⟩⟩
      have s4' := s3.trans s4
      exact ⟨_, rfl, .inl ⟨rfl, _, SqL.of (s4' _ _ hw)⟩, _, rfl, w, f, _, _, rfl, rfl, s4' _ _ hw, s4 _ _ hf, size _ rfl, fin s4' rfl⟩
    · rw [decide_eq_false ce]
      refine iteT ?_
      obtain ⟨la, hla⟩ : ∃ la, ws.getLast? = some la := ⟨_, List.getLast?_eq_some_getLast ce⟩
      refine ⟨_, rfl, _, rfl, w, _, _, _, rfl, rfl, SqL.of (s1 _ _ hw), at_last ce (by rw [← List.getLast?_eq_getElem?]; exact hla), ?_⟩
      refine ⟨Nat.zero_le _, fun l0 n0 => ?_⟩
      have s2 := s1.trans (same_new (o := .lst []) n0)
      have e2 : upd H1 l0 (.lst []) l0 = some (.lst (([] : List Int).map V.int)) := upd_same
      generalize upd H1 l0 (.lst []) = H2 at s2 e2 ⊢
      have J2 := J.same s2
      refine ⟨_, rfl, rfl, _, rfl, iteND (fun z => by cases z) ?_⟩
      refine ⟨_, rfl, _, _, rfl, rfl, _, rfl, ?_⟩
      by_cases c0 : la > 0
      · refine iteD c0 ?_
        obtain ⟨dy, fs, hi, hm⟩ := J2.lv.ins
        refine ⟨_, rfl, a, dy, fs, rfl, hi, hm _ (by decide +kernel), _, rfl, _, _, rfl, rfl, _, rfl, a, some (la - 1), mo, F, ks, rfl, J2.lv, by (clear hi c0 e2 n0 hla ce ne lt wd o1 o0 lw ow hw; omega), by (clear hi c0 e2 n0 hla ce ne lt le lj wd o1 lw ow hw; omega), fun H3 f s3 nf hf => ?_⟩
        have eg : (ks.reverse.filter (okDn (some (la - 1)))).take mo.toNat = (gDn ws.getLast? ks).take mo.toNat := by
          rw [hla]
          unfold gDn
          congr 1
          refine List.filter_congr fun z _ => ?_
          show decide (z ≤ la - 1) = decide (z < la)
          exact decide_eq_decide.mpr (by (clear hf nf hi c0 e2 n0 hla ce ne lt le lj wd o1 o0 lw ow hw; omega))
        rw [eg] at hf
        have s3 := s2.trans s3
        refine ⟨_, rfl, _, rfl, _, rfl, _, rfl, f, d, ws.getLast?, mo, ks, kvs, by rw [hla]; rfl, hf, s3 _ _ J.di, J.lv.rise, J.nk, J.me, J.le, o0, o1, fun H4 s4 => ⟨true, rfl, iteF ?_⟩⟩
        have s4' := s3.trans s4
        exact ⟨_, rfl, .inl ⟨rfl, _, SqL.of (s4' _ _ hw)⟩, _, rfl, w, f, _, _, rfl, rfl, s4' _ _ hw, s4 _ _ hf, size _ rfl, fin s4' rfl⟩
      · refine iteND c0 ?_
        have eg : (gDn ws.getLast? ks).take mo.toNat = [] := by
          have : gDn ws.getLast? ks = [] := by
            rw [hla]
            refine List.filter_eq_nil_iff.mpr fun z hz h => ?_
            have h1 := J.k0 z (List.mem_reverse.mp hz)
            have h2 : z < la := of_decide_eq_true h
            (clear h e2 n0 hla ce ne lt le lj wd o1 o0 lw ow hw; omega)
          rw [this]
          simp
        rw [← eg] at e2
        refine ⟨_, rfl, _, rfl, _, rfl, _, rfl, l0, d, ws.getLast?, mo, ks, kvs, by rw [hla]; rfl, e2, s2 _ _ J.di, J.lv.rise, J.nk, J.me, J.le, o0, o1, fun H4 s4 => ⟨true, rfl, iteF ?_⟩⟩
        have s4' := s2.trans s4
        exact ⟨_, rfl, .inl ⟨rfl, _, SqL.of (s4' _ _ hw)⟩, _, rfl, w, l0, _, _, rfl, rfl, s4' _ _ hw, s4 _ _ e2, size _ rfl, fin s4' rfl⟩
structure I24 (K : PySem.W.Frag) (t : Adr) (H : Hp) (a d e u w cl : Addr) (F : Addr → Prop) (ks : List Int) (kvs svs : List (Int × V)) (us ws cs : List Int) (la : Int) : Prop where
  J : J22 K t H a d F ks kvs
  S : S24 H d e F ks svs
  hu : H u = some (.lst (us.map V.int))
  ou : ¬ W2 F d e u
  hw : H w = some (.lst (ws.map V.int))
  ow : ¬ W2 F d e w
  hc : H cl = some (.lst (cs.map V.int))
  oc : ¬ W2 F d e cl
  uw : u ≠ w
  uc : u ≠ cl
  wc : w ≠ cl
  lst : us.getLast? = some la
  up : ∀ z ∈ svs.map (·.1), z ≤ la → z ∈ us
  dn : ∀ z ∈ svs.map (·.1), bel ws.getLast? z = false → z ∈ ws
theorem I24.fr {H H' : Hp} {a d e u w cl : Addr} {F F' : Addr → Prop} {ks ks' : List Int} {kvs kvs' svs svs' : List (Int × V)} {us ws cs : List Int} {la : Int} (i : I24 K t H a d e u w cl F ks kvs svs us ws cs la) (J : J22 K t H' a d F' ks' kvs') (S : S24 H' d e F' ks' svs') (m : ∀ z ∈ svs'.map (·.1), z ∈ svs.map (·.1)) (f : Fr (W2 F d e) (W2 F' d e) H H') : I24 K t H' a d e u w cl F' ks' kvs' svs' us ws cs la :=
  ⟨J, S, (f _ _ i.ou i.hu).1, (f _ _ i.ou i.hu).2, (f _ _ i.ow i.hw).1, (f _ _ i.ow i.hw).2, (f _ _ i.oc i.hc).1, (f _ _ i.oc i.hc).2, i.uw, i.uc, i.wc, i.lst, fun z hz => i.up z (m z hz), fun z hz => i.dn z (m z hz)⟩
theorem I24.same {H H' : Hp} {a d e u w cl : Addr} {F : Addr → Prop} {ks : List Int} {kvs svs : List (Int × V)} {us ws cs : List Int} {la : Int} (i : I24 K t H a d e u w cl F ks kvs svs us ws cs la) (s : Same H H') : I24 K t H' a d e u w cl F ks kvs svs us ws cs la :=
  i.fr (i.J.same s) ⟨s _ _ i.S.di, i.S.ne, i.S.nF, i.S.me, i.S.le⟩ (fun z hz => hz) (Fr.of_same s)
theorem gUp_le {la : Int} {ks : List Int} : (gUp la ks).length ≤ ks.length := List.length_filter_le _ _
theorem gDn_le {dl : Option Int} {ks : List Int} : (gDn dl ks).length ≤ ks.length := by
  have := List.length_filter_le (bel dl) ks.reverse
  rw [List.length_reverse] at this
  exact this
theorem I24.walk {H H' : Hp} {a d e u w cl : Addr} {F : Addr → Prop} {ks : List Int} {kvs svs : List (Int × V)} {us ws cs : List Int} {la mo : Int} (i : I24 K t H a d e u w cl F ks kvs svs us ws cs la) (o0 : 1 ≤ mo) (J : J22 K t H' a d F ks kvs) (k : ∀ b o, b ≠ u → H b = some o → H' b = some o) (h : H' u = some (.lst ((us ++ (gUp la ks).take mo.toNat).map V.int))) :
    ∃ la', I24 K t H' a d e u w cl F ks kvs svs (us ++ (gUp la ks).take mo.toNat) ws cs la' ∧ (gUp la' ks).length = (gUp la ks).length - mo.toNat := by
  obtain ⟨en, e1, e2⟩ := last_two (fs := (gUp la ks).take mo.toNat) i.lst
  obtain ⟨h1, h2, h3⟩ := up_split J.lv.rise e1 (by (clear e2 e1 h; omega))
  have ue : u ≠ e := fun z => i.ou (.inr z)
  refine ⟨en, ⟨J, ⟨k _ _ (Ne.symm ue) i.S.di, i.S.ne, i.S.nF, i.S.me, i.S.le⟩, h, i.ou, k _ _ (Ne.symm i.uw) i.hw, i.ow, k _ _ (Ne.symm i.uc) i.hc, i.oc, i.uw, i.uc, i.wc, e2, fun z hz le => ?_, i.dn⟩, ?_⟩
  · by_cases c : z ≤ la
    · exact List.mem_append_left _ (i.up z hz c)
    · refine List.mem_append_right _ (page_in (base := ks) (B := fun z => decide (la + 1 ≤ z)) (B' := fun z => decide (en + 1 ≤ z)) (n := mo.toNat) rfl (fun y hy => decide_eq_true (by have := h2 y hy; (clear c le ue h3 e2 e1 h o0; omega))) (i.S.me z hz) (decide_eq_true (by (clear le ue h3 e2 e1 h o0; omega))) (decide_eq_false (by (clear c ue h3 e2 e1 h o0; omega))))
  · have : gUp en ks = (gUp la ks).drop mo.toNat := page_next (base := ks) (B := fun z => decide (la + 1 ≤ z)) (B' := fun z => decide (en + 1 ≤ z)) rfl (fun x hx => decide_eq_false (by have := h1 x hx; (clear ue h3 e2 e1 h o0; omega))) (fun y hy => decide_eq_true (by have := h2 y hy; (clear ue h3 e2 e1 h o0; omega))) fun z hz => decide_eq_true (by have := of_decide_eq_true hz; (clear hz ue e2 e1 h o0; omega))
    rw [this, List.length_drop]
theorem I24.fall {H H' : Hp} {a d e u w cl : Addr} {F : Addr → Prop} {ks : List Int} {kvs svs : List (Int × V)} {us ws cs : List Int} {la mo : Int} (i : I24 K t H a d e u w cl F ks kvs svs us ws cs la) (o0 : 1 ≤ mo) (J : J22 K t H' a d F ks kvs) (k : ∀ b o, b ≠ w → H b = some o → H' b = some o) (h : H' w = some (.lst ((ws ++ (gDn ws.getLast? ks).take mo.toNat).map V.int))) :
    I24 K t H' a d e u w cl F ks kvs svs us (ws ++ (gDn ws.getLast? ks).take mo.toNat) cs la ∧ (gDn (ws ++ (gDn ws.getLast? ks).take mo.toNat).getLast? ks).length = (gDn ws.getLast? ks).length - mo.toNat := by
  have we : w ≠ e := fun z => i.ow (.inr z)
  have mk : ∀ ws', H' w = some (.lst (ws'.map V.int)) → (∀ z ∈ svs.map (·.1), bel ws'.getLast? z = false → z ∈ ws') → I24 K t H' a d e u w cl F ks kvs svs us ws' cs la := fun ws' h' d' =>
    ⟨J, ⟨k _ _ (Ne.symm we) i.S.di, i.S.ne, i.S.nF, i.S.me, i.S.le⟩, k _ _ i.uw i.hu, i.ou, h', i.ow, k _ _ (Ne.symm i.wc) i.hc, i.oc, i.uw, i.uc, i.wc, i.lst, i.up, d'⟩
  cases hg : ((gDn ws.getLast? ks).take mo.toNat).getLast? with
  | none =>
    have e0 : (gDn ws.getLast? ks).take mo.toNat = [] := List.getLast?_eq_none_iff.mp hg
    have e1 : gDn ws.getLast? ks = [] := by
      rcases List.take_eq_nil_iff.mp e0 with z | z
      · (clear e0 hg we h; omega)
      · exact z
    rw [e0, List.append_nil] at h ⊢
    refine ⟨mk ws h i.dn, ?_⟩
    rw [e1]
    simp
  | some en =>
    obtain ⟨h1, h2, h3⟩ := dn_split J.lv.rise hg
    have hl : (ws ++ (gDn ws.getLast? ks).take mo.toNat).getLast? = some en := by rw [List.getLast?_append, hg]; rfl
    have b3 : ∀ z, bel (some en) z = true → bel ws.getLast? z = true := fun z hz => by
      have z1 : z < en := of_decide_eq_true hz
      cases hd : ws.getLast? with
      | none => rfl
      | some lb =>
        rw [hd] at h3
        have : en < lb := of_decide_eq_true h3
        exact decide_eq_true (by (clear hd h3 hz hl hg we h o0; omega))
    have b1 : ∀ x ∈ (gDn ws.getLast? ks).take mo.toNat, bel (some en) x = false := fun x hx => decide_eq_false (by have := h1 x hx; (clear hl h3 hg we h o0; omega))
    have b2 : ∀ y ∈ (gDn ws.getLast? ks).drop mo.toNat, bel (some en) y = true := fun y hy => decide_eq_true (h2 y hy)
    refine ⟨mk _ h fun z hz hb => ?_, ?_⟩
    · rw [hl] at hb
      cases c : bel ws.getLast? z with
      | false => exact List.mem_append_left _ (i.dn z hz c)
      | true => exact List.mem_append_right _ (page_in (base := ks.reverse) (B := bel ws.getLast?) (B' := bel (some en)) (n := mo.toNat) rfl b2 (List.mem_reverse.mpr (i.S.me z hz)) c hb)
    · rw [hl]
      have : gDn (some en) ks = (gDn ws.getLast? ks).drop mo.toNat := page_next (base := ks.reverse) (B := bel ws.getLast?) (B' := bel (some en)) rfl b1 b2 b3
      rw [this, List.length_drop]
theorem cut58 (ns : List Int) : ∃ cs : List Int, cutV (ns.map V.int) (some 2) (some 60) = cs.map V.int ∧ cs.length ≤ 58 := by
  obtain ⟨cs, e, _⟩ := cut_ints ns (some 2) (some 60)
  refine ⟨cs, e, ?_⟩
  have h := congrArg List.length e
  rw [List.length_map] at h
  rw [← h]
  unfold cutV HT.sIx
  rw [List.length_take, List.length_drop]
  dsimp only
  rw [if_neg (by decide), if_neg (by decide)]
  have a : (60 : Int).toNat = 60 := rfl
  have b : (2 : Int).toNat = 2 := rfl
  rw [a, b]
  (clear b a h e; omega)
theorem rest_in2 {C : Int → Option V → Hp → Prop} {G : Int → Option V → Hp → Prop} {g : Prop} (body : (∀ k v H1, C k v H1 → G k v H1) → g) (last : ∀ k v H1, C k v H1 → G k v H1) : g := body last
def sp_law (K : PySem.W.Frag) : Sp := fun vs H Q _ => ∃ (a : Addr) (ns : List Int), vs = [.ref a] ∧ SqL K H a (ns.map V.int) ∧ ns.length ≤ 63 ∧ ∀ H', Q (.bl true) H'
theorem ok_law (T : Txt K mg t) : FnOk P w K mg base CX0 6 t.a_law t.d_law ["_law_script"] (sp_law K) := by
  have G_Leaves__init : FnOk P w K mg base CX0 1 t.a_Leaves__init t.d_Leaves__init ["self"] (sp_Leaves__init K t) := ok_Leaves__init T
  have G__law_added : FnOk P w K mg base CX0 4 t.a__law_added t.d__law_added ["_law_told", "_law_kept", "_law_key"] (sp__law_added K t) := ok__law_added T
  have G__law_begun : FnOk P w K mg base CX0 3 t.a__law_begun t.d__law_begun ["_law_script", "_law_way"] (sp__law_begun K) := ok__law_begun T
  have G__law_cell_at : FnOk P w K mg base CX0 1 t.a__law_cell_at t.d__law_cell_at ["_law_script", "_law_k"] (sp__law_cell_at K) := ok__law_cell_at T
  have G__law_deed : FnOk P w K mg base CX0 5 t.a__law_deed t.d__law_deed ["_law_told", "_law_kept", "_law_stayed", "_law_draws_here", "_law_last"] (sp__law_deed K t) := ok__law_deed T
  have G__law_draws : FnOk P w K mg base CX0 2 t.a__law_draws t.d__law_draws ["_law_cell", "_law_many", "_law_way"] sp__law_draws := ok__law_draws T
  have G__law_fallen : FnOk P w K mg base CX0 3 t.a__law_fallen t.d__law_fallen ["_law_told", "_law_kept", "_law_down", "_law_most"] (sp__law_fallen K t) := ok__law_fallen T
  have G__law_walked : FnOk P w K mg base CX0 3 t.a__law_walked t.d__law_walked ["_law_told", "_law_kept", "_law_up", "_law_most"] (sp__law_walked K t) := ok__law_walked T
  refine T.F_law.ok sc_law (fun vs H Q E h => ?_) (fun cdv A outer s H vs Q E hr h => ?_)
  · obtain ⟨a, ns, rfl, _⟩ := h
    rfl
  · obtain ⟨sc, ns, rfl, hS, hlen, q⟩ := h
    refine ⟨_, (pss_cons (ps_set (i := 1) sc_law.nd rfl (Or.inl rfl) (pe_make0 T.mk_Leaves G_Leaves__init (hr.mono (by decide)) (by rfl) T.mg_Leaves T.b_Leaves__init .nil pass0))
          (pss_cons (ps_set (i := 2) sc_law.nd rfl (Or.inl rfl) pe_dnewK)
          (pss_cons (ps_set (i := 3) sc_law.nd rfl (Or.inl rfl) (pe_call G__law_cell_at (hr.mono (by decide)) (by rfl) T.m__law_cell_at T.F__law_cell_at.kp T.b__law_cell_at .nil pass0 (pa_cons (pv 0) (pa_cons pe_int pa_nil))))
          (pss_cons (ps_for PassesOwn.never rfl (pi_list (pe_call G__law_begun (hr.mono (by decide)) (by rfl) T.m__law_begun T.F__law_begun.kp T.b__law_begun .nil pass0 (pa_cons (pv 0) (pa_cons (pv 3) pa_nil)))) (pg_name (i := 4) sc_law.nd rfl (Or.inl rfl))
          (pss_one (ps_expr (pe_call G__law_added (hr.mono (by decide)) (by rfl) T.m__law_added T.F__law_added.kp T.b__law_added .nil pass0 (pa_cons (pv 1) (pa_cons (pv 2) (pa_cons (pv 4) pa_nil)))))))
          (pss_cons (ps_set (i := 5) sc_law.nd rfl (Or.inl rfl) (pe_callTy call_dict1 (by rfl) T.z_dict bt_dict (pa_cons (pv 2) pa_nil)))
          (pss_cons (ps_set (i := 6) sc_law.nd rfl (Or.inr rfl) (pe_lst (pa_cons (pe_un un_neg pe_int) pa_nil)))
          (pss_cons (ps_set (i := 7) sc_law.nd rfl (Or.inr rfl) (pe_lst pa_nil))
          (pss_cons (ps_set (i := 8) sc_law.nd rfl (Or.inl rfl) (pe_slice sl_list (pv 0) (po_some pe_int) (po_some pe_int)))
          (pss_cons (ps_for PassesOwn.never rfl (pi_range1 (by rfl) T.z_range (pa_cons pe_int pa_nil)) (pg_name (i := 9) sc_law.nd rfl (Or.inl rfl))
          (pss_cons (ps_set (i := 10) sc_law.nd rfl (Or.inl rfl) pe_int)
          (pss_cons (ps_if (pt_cmpR op_lt (pv 9) (pe_callB call_len_seq (by rfl) T.z_len bt_len (pa_cons (pv 8) pa_nil)) (nomark _))
          (pss_cons (ps_set (i := 11) sc_law.nd rfl (Or.inl rfl) (pe_call G__law_draws (hr.mono (by decide)) (by rfl) T.m__law_draws T.F__law_draws.kp T.b__law_draws .nil pass0 (pa_cons (pe_op op_add (pe_ix ix_list (pv 8) (pv 9) (fun _ _ => rfl)) (pe_op op_mul (pv 9) (pe_op op_mod (pv 3) pe_int))) (pa_cons pe_int (pa_cons (pv 3) pa_nil)))))
          (pss_cons (ps_expr (pe_call G__law_deed (hr.mono (by decide)) (by rfl) T.m__law_deed T.F__law_deed.kp T.b__law_deed .nil pass0 (pa_cons (pv 1) (pa_cons (pv 2) (pa_cons (pv 5) (pa_cons (pv 11) (pa_cons (pe_ix ix_list (pe_lst (pa_cons (pe_ix ix_list (pv 6) (pe_un un_neg pe_int) (fun _ _ => rfl)) (pa_cons (pe_ix ix_list (pe_op op_cat (pe_lst (pa_cons pe_int pa_nil)) (pv 7)) (pe_un un_neg pe_int) (fun _ _ => rfl)) pa_nil))) (pe_op op_mod (pe_op op_fdiv (pe_ix ix_list (pv 11) pe_int (fun _ _ => rfl)) pe_int) pe_int) (fun _ _ => rfl)) pa_nil)))))))
          (pss_one (ps_set (i := 10) sc_law.nd rfl (Or.inl rfl) (pe_op op_add pe_int (pe_op op_mod (pe_op op_fdiv (pe_ix ix_list (pv 11) pe_int (fun _ _ => rfl)) pe_int) pe_int))))))
          pss_nil)
          (pss_one (ps_if (PW.pt (pw_or (pt_not (pt_val (pe_call G__law_walked (hr.mono (by decide)) (by rfl) T.m__law_walked T.F__law_walked.kp T.b__law_walked .nil pass0 (pa_cons (pv 1) (pa_cons (pv 2) (pa_cons (pv 6) (pa_cons (pv 10) pa_nil))))))) (pw_or1 (pt_not (pt_val (pe_call G__law_fallen (hr.mono (by decide)) (by rfl) T.m__law_fallen T.F__law_fallen.kp T.b__law_fallen .nil pass0 (pa_cons (pv 1) (pa_cons (pv 2) (pa_cons (pv 7) (pa_cons (pv 10) pa_nil))))))))))
          (pss_one (ps_ret pe_bl))
          pss_nil)))))
          (pss_one (ps_ret (pe_cmpR (op_eqD K rfl hr.u20) (pe_thaw (pe_compI rfl (CScope.of (N := ["_law_script", "_law_told", "_law_kept", "_law_way", "_law_key", "_law_stayed", "_law_up", "_law_down", "_law_cells", "_law_k", "_law_most", "_law_draws_here"]) (N' := ["_law_script", "_law_told", "_law_kept", "_law_way", "", "_law_stayed", "_law_up", "_law_down", "_law_cells", "_law_k", "_law_most", "_law_draws_here"]) (dsc := defScope s_law) rfl rfl (by decide +kernel)) (pi_dict (pv 5)) (fun _ _ _ _ _ => (PW.pt (pw_or (pt_cmpR (op_notIn_seqK K rfl) (pv 0) (pv 7) rfl) (pw_or1 (pt_cmpR (op_notIn_seqK K rfl) (pv 0) (pv 8) rfl))))) (fun _ _ _ _ _ => (pv 0)))) (pe_lst pa_nil) (nomark _)))))))))))))
      , ?_⟩
    refine fun a dx n1 n2 n3 => ⟨a, dx, rfl, upd_same, by rw [upd_ne n3]; exact upd_same, fun H1 F1 s1 f1 => ⟨rfl, ?_⟩⟩
    have hc0 : SqF K (fun b => b = a ∨ b = dx) H sc (ns.map V.int) := .of hS fun o e z => by
      rcases z with rfl | rfl
      · rw [n1] at e; cases e
      · rw [n2] at e; cases e
    have hc1 : SqF K F1 H1 sc (ns.map V.int) := ((hc0.new n2).new (by rw [upd_ne (Ne.symm n3)]; exact n1)).fr f1
    refine fun d nd => ?_
    have J2 : J22 K t (upd H1 d (.dK [])) a d F1 [] [] := ⟨s1.new nd, upd_same, s1.out nd, List.nodup_nil, fun z => Iff.rfl, (fun z hz => by cases hz), by decide⟩
    have hc2 : SqF K (Wd F1 d) (upd H1 d (.dK [])) sc (ns.map V.int) := (hc1.wide nd).new nd
    generalize upd H1 d (.dK []) = H2 at J2 hc2 ⊢
    refine ⟨_, rfl, sc, ns, _, rfl, hc2.sq, by decide, ?_⟩
    generalize ns.getD (0 : Int).toNat 0 = way
    refine ⟨_, rfl, _, rfl, sc, ns, way, rfl, hc2.sq, fun H3 l xs s3 nl e3 x0 => ?_⟩
    have J3 := J2.same s3
    have hc3 : SqF K (Wd F1 d) H3 sc (ns.map V.int) := hc2.fr (Fr.of_same s3)
    have ol : ¬ Wd F1 d l := fun z => z.elim (J2.lv.out nl) (ne_of_none J2.di nl).symm
    refine ⟨l, rfl, ⟨_, SqL.of e3⟩, for_listE (K := K) (a := l) (xs := xs.map V.int) (fun i σ H' => ∃ (v4 : Option V) (F : Addr → Prop) (ks : List Int) (kvs : List (Int × V)), σ = [some (.ref sc), some (.ref a), some (.ref d), some (.int way), v4, none, none, none, none, none, none, none] ∧ J22 K t H' a d F ks kvs ∧ SqF K (Wd F d) H' sc (ns.map V.int) ∧ H' l = some (.lst (xs.map V.int)) ∧ ¬ Wd F d l)
      ⟨_, F1, [], [], rfl, J3, hc3, e3, ol⟩ (fun i σ H' _ w => by obtain ⟨_, _, _, _, _, _, _, e, _⟩ := w; exact SqL.of e) (fun i x σ H' hx w => ?_) (fun σ H' w => ?_)⟩
    · obtain ⟨v4, F, ks, kvs, eσ, J, hc, hl, ol⟩ := w
      subst eσ
      obtain ⟨k, rfl, ek⟩ := ints_at hx
      refine ⟨_, rfl, _, rfl, _, rfl, a, d, k, F, ks, kvs, rfl, J, x0 k (List.mem_of_getElem? ek), fun H5 F5 ks5 kvs5 J5 f5 _ => ?_⟩
      exact ⟨_, F5, ks5, kvs5, rfl, J5, hc.fr f5, (f5 _ _ ol hl).1, (f5 _ _ ol hl).2⟩
    obtain ⟨v4, F, ks, kvs, eσ, J, hc, _, _⟩ := w
    subst eσ
    clear e3 ol hc3 J3 s3 nl x0
    refine ⟨_, rfl, d, _, rfl, J.di, fun e ne => ?_⟩
    have sA : Same H' (upd H' e (.dK (liftK kvs))) := same_new ne
    have oe := J.lv.out ne
    have ed : e ≠ d := (ne_of_none J.di ne).symm
    have eA : upd H' e (.dK (liftK kvs)) e = some (.dK (liftK kvs)) := upd_same
    have hcA : SqF K (Wd F d) (upd H' e (.dK (liftK kvs))) sc (ns.map V.int) := hc.new ne
    generalize upd H' e (.dK (liftK kvs)) = HA at sA eA hcA ⊢
    refine ⟨_, rfl, (by show 1 ≤ sizeLine; decide), fun u nu => ?_⟩
    have sB : Same HA (upd HA u (.lst [.int (-1)])) := same_new nu
    have eB : upd HA u (.lst [.int (-1)]) u = some (.lst (([-1] : List Int).map V.int)) := upd_same
    have oB : ¬ F u := (J.same sA).lv.out nu
    have ue : u ≠ e := (ne_of_none eA nu).symm
    have ud : u ≠ d := (ne_of_none (sA _ _ J.di) nu).symm
    have hcB : SqF K (Wd F d) (upd HA u (.lst [.int (-1)])) sc (ns.map V.int) := hcA.new nu
    generalize upd HA u (.lst [.int (-1)]) = HB at sB eB hcB ⊢
    refine ⟨Nat.zero_le _, fun w nw => ?_⟩
    have sC : Same HB (upd HB w (.lst [])) := same_new nw
    have eC : upd HB w (.lst []) w = some (.lst (([] : List Int).map V.int)) := upd_same
    have oC : ¬ F w := (J.same (sA.trans sB)).lv.out nw
    have we : w ≠ e := (ne_of_none (sB _ _ eA) nw).symm
    have wd : w ≠ d := (ne_of_none (sB _ _ (sA _ _ J.di)) nw).symm
    have uw : u ≠ w := ne_of_none eB nw
    have hcC : SqF K (Wd F d) (upd HB w (.lst [])) sc (ns.map V.int) := hcB.new nw
    generalize upd HB w (.lst []) = HC at sC eC hcC ⊢
    refine ⟨_, rfl, _, rfl, _, rfl, sc, _, rfl, hcC.sq, fun cl nc => ?_⟩
    obtain ⟨cs, ecs, lcs⟩ := cut58 ns
    rw [ecs]
    have sD : Same HC (upd HC cl (.lst (cs.map V.int))) := same_new nc
    have eD : upd HC cl (.lst (cs.map V.int)) cl = some (.lst (cs.map V.int)) := upd_same
    have sAC := (sA.trans sB).trans sC
    have oD : ¬ F cl := (J.same sAC).lv.out nc
    have ce : cl ≠ e := (ne_of_none (sC _ _ (sB _ _ eA)) nc).symm
    have cd : cl ≠ d := (ne_of_none (sAC _ _ J.di) nc).symm
    have uc : u ≠ cl := ne_of_none (sC _ _ eB) nc
    have wc : w ≠ cl := ne_of_none eC nc
    generalize upd HC cl (.lst (cs.map V.int)) = HD at sD eD ⊢
    have sAD := sAC.trans sD
    have lj := J.len
    have le := J.le
    have I0 : I24 K t HD a d e u w cl F ks kvs kvs [-1] [] cs (-1) :=
      ⟨J.same sAD, ⟨sD _ _ (sC _ _ (sB _ _ eA)), ed, oe, fun z hz => (J.me z).mp hz, J.le⟩, sD _ _ (sC _ _ eB), fun z => z.elim (fun z => z.elim oB ud) ue, sD _ _ eC, fun z => z.elim (fun z => z.elim oC wd) we, eD, fun z => z.elim (fun z => z.elim oD cd) ce, uw, uc, wc, rfl,
        (fun z hz h => by have := J.k0 z ((J.me z).mp hz); (clear le lj eD wc uc cd ce oD lcs ecs nc eC uw wd we oC nw eB ud ue oB nu eA ed oe ne nd n3 n2 n1 hlen; omega)), fun z _ h => by cases h⟩
    have r0 : (gUp (-1) ks).length ≤ 150 := Nat.le_trans gUp_le (by (clear eD wc uc cd ce oD lcs ecs nc eC uw wd we oC nw eB ud ue oB nu eA ed oe ne nd n3 n2 n1 hlen; omega))
    have r1 : (gDn none ks).length ≤ 150 := Nat.le_trans gDn_le (by (clear r0 eD wc uc cd ce oD lcs ecs nc eC uw wd we oC nw eB ud ue oB nu eA ed oe ne nd n3 n2 n1 hlen; omega))
    refine ⟨90, rfl, by decide, by decide, for_rangeE (n := 90) (fun i σ H' => ∃ (v4 v9 v10 v11 : Option V) (F : Addr → Prop) (ks : List Int) (kvs svs : List (Int × V)) (us ws : List Int) (la : Int), σ = [some (.ref sc), some (.ref a), some (.ref d), some (.int way), v4, some (.ref e), some (.ref u), some (.ref w), some (.ref cl), v9, v10, v11] ∧ I24 K t H' a d e u w cl F ks kvs svs us ws cs la ∧ us.length ≤ 1 + 8 * i ∧ ws.length ≤ 8 * i ∧ (gUp la ks).length ≤ 150 - 8 * (i - cs.length) ∧ (gDn ws.getLast? ks).length ≤ 150 - 8 * (i - cs.length))
      ⟨_, _, _, _, F, ks, kvs, kvs, [-1], [], -1, rfl, I0, by simp, by simp, by simp; exact r0, by simp; exact r1⟩ (fun i σ H' hi w' => ?_) (fun σ H' w' => ?_)⟩
    · obtain ⟨v4, v9, v10, v11, F, ks, kvs, svs, us, ws, la, eσ, I, lu, lw, ru, rd⟩ := w'
      subst eσ
      have lj := I.J.len
      have le := I.J.le
      have une : us ≠ [] := fun z => by have := I.lst; rw [z] at this; cases this
      apply rest_in2 (C := fun mo v H2 => 1 ≤ mo ∧ mo ≤ 8 ∧ (i < cs.length ∨ mo = 8 ∧ (gUp la ks).length ≤ 150 - 8 * (i - cs.length) ∧ (gDn ws.getLast? ks).length ≤ 150 - 8 * (i - cs.length) ∧ I24 K t H2 a d e u w cl F ks kvs svs us ws cs la) ∧ ∃ (F : Addr → Prop) (ks : List Int) (kvs svs : List (Int × V)), I24 K t H2 a d e u w cl F ks kvs svs us ws cs la)
      · intro rest
        refine ⟨_, rfl, _, rfl, cl, _, rfl, .inl (SqL.of I.hc), _, _, rfl, rfl, _, rfl, ite2 (fun c => ?_) (fun c => ?_)⟩
        · have ic : i < cs.length := by
            have := of_decide_eq_true c
            rw [List.length_map] at this
            (clear c; omega)
          have hat : atI (cs.map V.int) (0 + (i : Int)) = some (.int (cs.getD (0 + (i : Int)).toNat 0)) := cell_atI (by (clear ic c; omega)) (by (clear c; omega))
          refine ⟨_, rfl, _, rfl, cl, _, _, _, rfl, rfl, SqL.of I.hc, hat, _, rfl, _, rfl, _, _, rfl, rfl, (by show (0 : Int) < 2; decide), _, _, rfl, rfl, .inl ⟨by (clear hat ic c; omega), by (clear hat ic c; omega)⟩, _, _, rfl, rfl, _, rfl, _, 2, way, rfl, by decide, by decide, fun H5 ld xs s5 nld e5 lx x0 => ?_⟩
          obtain ⟨x, y, rfl⟩ : ∃ x y, xs = [x, y] := by
            match xs, lx with
            | [x, y], _ => exact ⟨x, y, rfl⟩
          have px := x0 x List.mem_cons_self
          have py := x0 y (List.mem_cons_of_mem _ List.mem_cons_self)
          have I5 := I.same s5
          have old : ¬ W2 F d e ld := fun z => z.elim (fun z => z.elim (I.J.lv.out nld) (ne_of_none I.J.di nld).symm) (ne_of_none I.S.di nld).symm
          refine ⟨_, rfl, _, rfl, _, rfl, _, rfl, _, rfl, _, rfl, u, _, _, _, rfl, rfl, SqL.of I5.hu, at_last une (by rw [← List.getLast?_eq_getElem?]; exact I.lst), (by show 1 ≤ sizeLine; decide), fun q1 m1 => ?_⟩
          have s6 : Same H5 (upd H5 q1 (.lst [.int 0])) := same_new m1
          have e6 : upd H5 q1 (.lst [.int 0]) q1 = some (.lst [.int 0]) := upd_same
          generalize upd H5 q1 (.lst [.int 0]) = H6 at s6 e6 ⊢
          refine ⟨_, rfl, q1, w, _, _, rfl, rfl, e6, s6 _ _ I5.hw, Nat.le_of_lt (small1e5 (by rw [List.length_map]; simp; (clear e6 m1 old py px lx e5 nld hat ic c; omega))), fun q2 m2 => ?_⟩
          have s7 := s6.trans (same_new (o := .lst ([.int 0] ++ ws.map V.int)) m2)
          have e7 : upd H6 q2 (.lst ([.int 0] ++ ws.map V.int)) q2 = some (.lst ((0 :: ws).map V.int)) := upd_same
          generalize upd H6 q2 (.lst ([.int 0] ++ ws.map V.int)) = H7 at s7 e7 ⊢
          obtain ⟨lw2, hlw⟩ : ∃ z, (0 :: ws).getLast? = some z := ⟨_, List.getLast?_eq_some_getLast (by simp)⟩
          refine ⟨_, rfl, q2, _, _, _, rfl, rfl, SqL.of e7, at_last (by simp) (by rw [← List.getLast?_eq_getElem?]; exact hlw), (by show 2 ≤ sizeLine; decide), fun q3 m3 => ?_⟩
          have s8 := s7.trans (same_new (o := .lst [.int la, .int lw2]) m3)
          have e8 : upd H7 q3 (.lst [.int la, .int lw2]) q3 = some (.lst [.int la, .int lw2]) := upd_same
          generalize upd H7 q3 (.lst [.int la, .int lw2]) = H8 at s8 e8 ⊢
          have i0 : atI [V.int x, V.int y] 0 = some (.int x) := rfl
          have e5 : H5 ld = some (.lst [.int x, .int y]) := e5
          obtain ⟨v, hv, _⟩ := pickI (c := x / 1000) (n := 2) (L := [.int la, .int lw2]) (P := fun _ => True) ⟨trivial, trivial, trivial⟩ rfl (by decide)
          have I8 := I5.same s8
          refine ⟨_, rfl, ld, _, _, _, rfl, rfl, SqL.of (s8 _ _ e5), i0, _, _, rfl, rfl, ⟨by decide, by decide⟩, _, _, rfl, rfl, (by show (0 : Int) < 2; decide), q3, _, _, _, rfl, rfl, SqL.of e8, hv, ?_⟩
          refine ⟨a, d, e, ld, v, x, y, F, ks, kvs, svs, rfl, I8.J, I8.S, s8 _ _ e5, px, py, old, fun H9 F9 ks9 kvs9 svs9 J9 S9 m9 f9 => ?_⟩
          have I9 := I8.fr J9 S9 m9 f9
          have e9 := (f9 _ _ old (s8 _ _ e5)).1
          refine ⟨_, rfl, ld, _, _, _, rfl, rfl, SqL.of e9, i0, _, _, rfl, rfl, ⟨by decide, by decide⟩, _, _, rfl, rfl, (by show (0 : Int) < 8; decide), _, _, rfl, rfl, ?_⟩
          have b0 : 0 ≤ x / 2000 % 8 := Int.emod_nonneg _ (by decide)
          have b1 : x / 2000 % 8 < 8 := Int.emod_lt_of_pos _ (by decide)
          (try dsimp only)
          obtain ⟨mo, emo⟩ : ∃ mo : Int, mo = 1 + x / 2000 % 8 := ⟨_, rfl⟩
          rw [← emo]
          generalize some (V.ref ld) = vv
          exact rest mo vv H9 ⟨by (clear b1 b0 e9 hv e5 i0 e8 m3 hlw e7 m2 e6 m1 old py px lx nld hat ic c une le lj rd ru lw lu hi r1 r0 eD wc uc cd ce oD lcs ecs nc eC uw wd we oC nw eB ud ue oB nu eA ed oe ne nd n3 n2 n1 hlen; omega), by (clear b1 b0 e9 hv e5 i0 e8 m3 hlw e7 m2 e6 m1 old py px lx nld hat ic c une le lj rd ru lw lu hi r1 r0 eD wc uc cd ce oD lcs ecs nc eC uw wd we oC nw eB ud ue oB nu eA ed oe ne nd n3 n2 n1 hlen; omega), .inl ic, F9, ks9, kvs9, svs9, I9⟩
        · have ic : ¬ i < cs.length := fun z => c (decide_eq_true (by rw [List.length_map]; (clear c une le lj rd ru lw lu hi r1 r0 eD wc uc cd ce oD lcs ecs nc eC uw wd we oC nw eB ud ue oB nu eA ed oe ne nd n3 n2 n1 hlen; omega)))
          exact rest 8 v11 H' ⟨by decide, by decide, .inr ⟨rfl, ru, rd, I⟩, F, ks, kvs, svs, I⟩
      · intro mo vv H2 wC
        obtain ⟨o0, o1, hm, wI⟩ := wC
        obtain ⟨F2, ks2, kvs2, svs2, I2, hr⟩ : ∃ (F : Addr → Prop) (ks : List Int) (kvs svs : List (Int × V)), I24 K t H2 a d e u w cl F ks kvs svs us ws cs la ∧ (i < cs.length ∨ mo = 8 ∧ (gUp la ks).length ≤ 150 - 8 * (i - cs.length) ∧ (gDn ws.getLast? ks).length ≤ 150 - 8 * (i - cs.length)) := by
          rcases hm with c | ⟨c, g1, g2, g3⟩
          · obtain ⟨F2, ks2, kvs2, svs2, I2⟩ := wI
            exact ⟨F2, ks2, kvs2, svs2, I2, .inl c⟩
          · exact ⟨F, ks, kvs, svs, g3, .inr ⟨c, g1, g2⟩⟩
        have nF : ∀ {b}, ¬ W2 F2 d e b → ¬ F2 b := fun n z => n (.inl (.inl z))
        refine ⟨_, rfl, _, rfl, _, rfl, _, rfl, a, d, u, la, mo, F2, ks2, kvs2, us, rfl, I2.J, I2.hu, nF I2.ou, I2.lst, by (clear hr hm o1 o0 une le lj rd ru lw r1 r0 eD wc uc cd ce oD lcs ecs nc eC uw wd we oC nw eB ud ue oB nu eA ed oe ne nd n3 n2 n1 hlen; omega), o0, o1, fun H5 J5 k5 h5 => ⟨true, rfl, iteF ?_⟩⟩
        obtain ⟨la', I5, g5⟩ := I2.walk o0 J5 k5 h5
        refine ⟨_, rfl, _, rfl, _, rfl, _, rfl, a, d, w, mo, F2, ks2, kvs2, ws, rfl, I5.J, I5.hw, nF I5.ow, by (clear g5 h5 hr hm o1 o0 une le lj rd ru lu r1 r0 eD wc uc cd ce oD lcs ecs nc eC uw wd we oC nw eB ud ue oB nu eA ed oe ne nd n3 n2 n1 hlen; omega), o0, o1, fun H6 J6 k6 h6 => ⟨true, rfl, iteF ?_⟩⟩
        obtain ⟨I6, g6⟩ := I5.fall o0 J6 k6 h6
        have l2 := I2.J.len
        have le2 := I2.J.le
        have t1 : ((gUp la ks2).take mo.toNat).length ≤ mo.toNat := by rw [List.length_take]; (clear le2 l2 g6 h6 g5 h5 hr hm o1 o0 une le lj rd ru lw lu hi r1 r0 eD wc uc cd ce oD lcs ecs nc eC uw wd we oC nw eB ud ue oB nu eA ed oe ne nd n3 n2 n1 hlen; omega)
        have t2 : ((gDn ws.getLast? ks2).take mo.toNat).length ≤ mo.toNat := by rw [List.length_take]; (clear t1 le2 l2 g6 h6 g5 h5 hr hm o1 o0 une le lj rd ru lw lu hi r1 r0 eD wc uc cd ce oD lcs ecs nc eC uw wd we oC nw eB ud ue oB nu eA ed oe ne nd n3 n2 n1 hlen; omega)
        have u1 : (gUp la' ks2).length ≤ ks2.length := gUp_le
        have u2 : (gDn (ws ++ (gDn ws.getLast? ks2).take mo.toNat).getLast? ks2).length ≤ ks2.length := gDn_le
        refine ⟨_, _, _, _, F2, ks2, kvs2, svs2, _, _, la', rfl, I6, by rw [List.length_append]; (clear u2 u1 t2 le2 l2 g6 h6 g5 h5 hr hm o0 une le lj rd ru lw hi r1 r0 eD wc uc cd ce oD lcs ecs nc eC uw wd we oC nw eB ud ue oB nu eA ed oe ne nd n3 n2 n1 hlen; omega), by rw [List.length_append]; (clear u2 u1 t1 le2 l2 g6 h6 g5 h5 hr hm o0 une le lj rd ru lu hi r1 r0 eD wc uc cd ce oD lcs ecs nc eC uw wd we oC nw eB ud ue oB nu eA ed oe ne nd n3 n2 n1 hlen; omega), ?_, ?_⟩
        · rcases hr with c | ⟨c, g1, g2⟩
          · (clear u2 t2 t1 g6 h6 g5 h5 hm o1 o0 une le lj rd ru lw lu hi r1 r0 eD wc uc cd ce oD lcs ecs nc eC uw wd we oC nw eB ud ue oB nu eA ed oe ne nd n3 n2 n1 hlen; omega)
          · rw [g5]
            (clear g2 c u2 u1 t2 t1 le2 l2 g6 h6 g5 h5 o1 o0 une le lj rd ru lw lu hi r1 r0 eD wc uc cd ce oD lcs ecs nc eC uw wd we oC nw eB ud ue oB nu eA ed oe ne nd n3 n2 n1 hlen; omega)
        · rcases hr with c | ⟨c, g1, g2⟩
          · (clear u1 t2 t1 g6 h6 g5 h5 hm o1 o0 une le lj rd ru lw lu hi r1 r0 eD wc uc cd ce oD lcs ecs nc eC uw wd we oC nw eB ud ue oB nu eA ed oe ne nd n3 n2 n1 hlen; omega)
          · rw [g6]
            (clear g1 c u2 u1 t2 t1 le2 l2 g6 h6 g5 h5 o1 o0 une le lj rd ru lw lu hi r1 r0 eD wc uc cd ce oD lcs ecs nc eC uw wd we oC nw eB ud ue oB nu eA ed oe ne nd n3 n2 n1 hlen; omega)
    · obtain ⟨v4, v9, v10, v11, F, ks, kvs, svs, us, ws, la, eσ, I, lu, lw, ru, rd⟩ := w'
      subst eσ
      have z0 : 150 - 8 * (90 - cs.length) = 0 := by (clear rd ru lw lu r1 r0 le lj eD wc uc cd ce oD ecs nc eC uw wd we oC nw eB ud ue oB nu eA ed oe ne nd n3 n2 n1 hlen; omega)
      rw [z0] at ru rd
      have eu : gUp la ks = [] := List.length_eq_zero_iff.mp (by (clear z0 rd lw lu r1 r0 le lj eD wc uc cd ce oD lcs ecs nc eC uw wd we oC nw eB ud ue oB nu eA ed oe ne nd n3 n2 n1 hlen; omega))
      have ew : gDn ws.getLast? ks = [] := List.length_eq_zero_iff.mp (by (clear eu z0 ru lw lu r1 r0 le lj eD wc uc cd ce oD lcs ecs nc eC uw wd we oC nw eB ud ue oB nu eA ed oe ne nd n3 n2 n1 hlen; omega))
      have inU : ∀ z ∈ svs.map (·.1), z ∈ us := fun z hz => by
        refine I.up z hz ?_
        have := List.filter_eq_nil_iff.mp eu z (I.S.me z hz)
        have : ¬ la + 1 ≤ z := fun y => this (decide_eq_true y)
        (clear ew eu z0 rd ru lw lu r1 r0 le lj eD wc uc cd ce oD lcs ecs nc eC uw wd we oC nw eB ud ue oB nu eA ed oe ne nd n3 n2 n1 hlen; omega)
      have inW : ∀ z ∈ svs.map (·.1), z ∈ ws := fun z hz => I.dn z hz (Bool.eq_false_iff.mpr (List.filter_eq_nil_iff.mp ew z (List.mem_reverse.mpr (I.S.me z hz))))
      have hd := I.S.di
      refine ⟨e, liftK svs, hd, _, rfl, e, _, rfl, hd, fun ob D hD => ?_⟩
      have hDe : D ≠ e := fun z => by rw [z, upd_same] at hD; cases hD
      have hU : ∀ ys, upd (upd H' e (.frz ob (.dK (liftK svs)))) D (.lst ys) u = some (.lst (us.map V.int)) := fun ys => by
        have ne1 : u ≠ e := fun z => I.ou (.inr z)
        have ne2 : u ≠ D := fun z => by rw [← z, upd_ne ne1, I.hu] at hD; cases hD
        rw [upd_ne ne2, upd_ne ne1]
        exact I.hu
      have hW : ∀ ys, upd (upd H' e (.frz ob (.dK (liftK svs)))) D (.lst ys) w = some (.lst (ws.map V.int)) := fun ys => by
        have ne1 : w ≠ e := fun z => I.ow (.inr z)
        have ne2 : w ≠ D := fun z => by rw [← z, upd_ne ne1, I.hw] at hD; cases hD
        rw [upd_ne ne2, upd_ne ne1]
        exact I.hw
      refine comp_dictI (ob := ob) (d := e) (kvs := liftK svs) (fun i ys H2 => H2 = upd (upd H' e (.frz ob (.dK (liftK svs)))) D (.lst []) ∧ ys = []) ⟨rfl, rfl⟩ (fun i ys H2 _ wz => by rw [wz.1]; exact (thaw_same hd hD).2.2.2) (fun i k v ys H2 hk wz hDD => ?_) (fun ys H2 wz hDD => ?_)
      · obtain ⟨g, rfl, eg⟩ := lift_at hk
        have hi : i < (liftK svs).length := (List.getElem?_eq_some_iff.mp hk).1
        have gm := List.mem_of_getElem? eg
        have hu2 : H2 u = some (.lst (us.map V.int)) := by rw [wz.1]; exact hU []
        have hw2 : H2 w = some (.lst (ws.map V.int)) := by rw [wz.1]; exact hW []
        have cu : (if true = true then !inV (.int g) (us.map V.int) else inV (.int g) (us.map V.int)) = false := by rw [if_pos rfl, inV_ints, decide_eq_true (inU g gm)]; rfl
        have cw : (if true = true then !inV (.int g) (ws.map V.int) else inV (.int g) (ws.map V.int)) = false := by rw [if_pos rfl, inV_ints, decide_eq_true (inW g gm)]; rfl
        exact ⟨_, rfl, _, rfl, u, _, rfl, .inl (SqL.of hu2), rfl, flat_ints, false, congrArg V.bl cu, iteF ⟨_, rfl, _, rfl, w, _, rfl, .inl (SqL.of hw2), rfl, flat_ints, false, congrArg V.bl cw, iteF (CSkip.mk hi hDD wz)⟩⟩
      · obtain ⟨w1, w2⟩ := wz
        subst w2
        subst w1
        obtain ⟨t1, t2, t3, t4⟩ := thaw_same (ys := []) hd hD
        refine ⟨ob, t4, Nat.zero_le _, fun pz nz => ?_⟩
        refine eqD_ints (ns := []) (ms := []) (SqL.of (same_new nz _ _ t2)) (SqL.of upd_same) ?_
        rw [decide_eq_true rfl]
        exact q _
end
theorem us1 {α : Type} {us : List α} (hl : us.length = 1) : ∃ x0, us = [x0] := by rcases us with _ | ⟨x0, _ | ⟨y, t⟩⟩ <;> first | exact ⟨_, rfl⟩ | simp at hl
theorem us2 {α : Type} {us : List α} (hl : us.length = 2) : ∃ x0 x1, us = [x0, x1] := by rcases us with _ | ⟨x0, _ | ⟨x1, _ | ⟨y, t⟩⟩⟩ <;> first | exact ⟨_, _, rfl⟩ | simp at hl
theorem us3 {α : Type} {us : List α} (hl : us.length = 3) : ∃ x0 x1 x2, us = [x0, x1, x2] := by rcases us with _ | ⟨x0, _ | ⟨x1, _ | ⟨x2, _ | ⟨y, t⟩⟩⟩⟩ <;> first | exact ⟨_, _, _, rfl⟩ | simp at hl
theorem us4 {α : Type} {us : List α} (hl : us.length = 4) : ∃ x0 x1 x2 x3, us = [x0, x1, x2, x3] := by rcases us with _ | ⟨x0, _ | ⟨x1, _ | ⟨x2, _ | ⟨x3, _ | ⟨y, t⟩⟩⟩⟩⟩ <;> first | exact ⟨_, _, _, _, rfl⟩ | simp at hl
theorem us5 {α : Type} {us : List α} (hl : us.length = 5) : ∃ x0 x1 x2 x3 x4, us = [x0, x1, x2, x3, x4] := by rcases us with _ | ⟨x0, _ | ⟨x1, _ | ⟨x2, _ | ⟨x3, _ | ⟨x4, _ | ⟨y, t⟩⟩⟩⟩⟩⟩ <;> first | exact ⟨_, _, _, _, _, rfl⟩ | simp at hl
theorem txt_mk {K : PySem.W.Frag} {h : Heap} {mg : Str → Option Value} (X : K.In h) (G : h.Ns mainGlobals mg)
    {e_WalkError : Addr}
    {e_NoKey : Addr}
    {e_Twice : Addr}
    {e_Leaves : Addr}
    {f_NoKey__init : Addr} {oc_NoKey__init kV_NoKey__init dc_NoKey__init pm_NoKey__init cd_NoKey__init ct_NoKey__init : Value} {od_NoKey__init an_NoKey__init : Option Addr} {sl_NoKey__init : Array (Option Value)}
    {f_Twice__init : Addr} {oc_Twice__init kV_Twice__init dc_Twice__init pm_Twice__init cd_Twice__init ct_Twice__init : Value} {od_Twice__init an_Twice__init : Option Addr} {sl_Twice__init : Array (Option Value)}
    {f_Leaves__init : Addr} {oc_Leaves__init kV_Leaves__init dc_Leaves__init pm_Leaves__init cd_Leaves__init ct_Leaves__init : Value} {od_Leaves__init an_Leaves__init : Option Addr} {sl_Leaves__init : Array (Option Value)}
    {f_Leaves__add : Addr} {oc_Leaves__add kV_Leaves__add dc_Leaves__add pm_Leaves__add cd_Leaves__add ct_Leaves__add : Value} {od_Leaves__add an_Leaves__add : Option Addr} {sl_Leaves__add : Array (Option Value)}
    {f_Leaves__discard : Addr} {oc_Leaves__discard kV_Leaves__discard dc_Leaves__discard pm_Leaves__discard cd_Leaves__discard ct_Leaves__discard : Value} {od_Leaves__discard an_Leaves__discard : Option Addr} {sl_Leaves__discard : Array (Option Value)}
    {f_Leaves__has : Addr} {oc_Leaves__has kV_Leaves__has dc_Leaves__has pm_Leaves__has cd_Leaves__has ct_Leaves__has : Value} {od_Leaves__has an_Leaves__has : Option Addr} {sl_Leaves__has : Array (Option Value)}
    {f_Leaves__many : Addr} {oc_Leaves__many kV_Leaves__many dc_Leaves__many pm_Leaves__many cd_Leaves__many ct_Leaves__many : Value} {od_Leaves__many an_Leaves__many : Option Addr} {sl_Leaves__many : Array (Option Value)}
    {f_Leaves__from_on : Addr} {oc_Leaves__from_on kV_Leaves__from_on dc_Leaves__from_on pm_Leaves__from_on cd_Leaves__from_on ct_Leaves__from_on : Value} {od_Leaves__from_on an_Leaves__from_on : Option Addr} {sl_Leaves__from_on : Array (Option Value)}
    {f_Leaves__down_from : Addr} {oc_Leaves__down_from kV_Leaves__down_from dc_Leaves__down_from pm_Leaves__down_from cd_Leaves__down_from ct_Leaves__down_from : Value} {od_Leaves__down_from an_Leaves__down_from : Option Addr} {sl_Leaves__down_from : Array (Option Value)}
    {f_Leaves__leaf_of : Addr} {oc_Leaves__leaf_of kV_Leaves__leaf_of dc_Leaves__leaf_of pm_Leaves__leaf_of cd_Leaves__leaf_of ct_Leaves__leaf_of : Value} {od_Leaves__leaf_of an_Leaves__leaf_of : Option Addr} {sl_Leaves__leaf_of : Array (Option Value)}
    {f_Leaves__part_leaf : Addr} {oc_Leaves__part_leaf kV_Leaves__part_leaf dc_Leaves__part_leaf pm_Leaves__part_leaf cd_Leaves__part_leaf ct_Leaves__part_leaf : Value} {od_Leaves__part_leaf an_Leaves__part_leaf : Option Addr} {sl_Leaves__part_leaf : Array (Option Value)}
    {f_Leaves__join_small : Addr} {oc_Leaves__join_small kV_Leaves__join_small dc_Leaves__join_small pm_Leaves__join_small cd_Leaves__join_small ct_Leaves__join_small : Value} {od_Leaves__join_small an_Leaves__join_small : Option Addr} {sl_Leaves__join_small : Array (Option Value)}
    {f__law_cell_at : Addr} {oc__law_cell_at kV__law_cell_at dc__law_cell_at pm__law_cell_at cd__law_cell_at ct__law_cell_at : Value} {od__law_cell_at an__law_cell_at : Option Addr} {sl__law_cell_at : Array (Option Value)}
    {f__law_drawn : Addr} {oc__law_drawn kV__law_drawn dc__law_drawn pm__law_drawn cd__law_drawn ct__law_drawn : Value} {od__law_drawn an__law_drawn : Option Addr} {sl__law_drawn : Array (Option Value)}
    {f__law_draws : Addr} {oc__law_draws kV__law_draws dc__law_draws pm__law_draws cd__law_draws ct__law_draws : Value} {od__law_draws an__law_draws : Option Addr} {sl__law_draws : Array (Option Value)}
    {f__law_begun : Addr} {oc__law_begun kV__law_begun dc__law_begun pm__law_begun cd__law_begun ct__law_begun : Value} {od__law_begun an__law_begun : Option Addr} {sl__law_begun : Array (Option Value)}
    {f__law_added : Addr} {oc__law_added kV__law_added dc__law_added pm__law_added cd__law_added ct__law_added : Value} {od__law_added an__law_added : Option Addr} {sl__law_added : Array (Option Value)}
    {f__law_discarded : Addr} {oc__law_discarded kV__law_discarded dc__law_discarded pm__law_discarded cd__law_discarded ct__law_discarded : Value} {od__law_discarded an__law_discarded : Option Addr} {sl__law_discarded : Array (Option Value)}
    {f__law_deed : Addr} {oc__law_deed kV__law_deed dc__law_deed pm__law_deed cd__law_deed ct__law_deed : Value} {od__law_deed an__law_deed : Option Addr} {sl__law_deed : Array (Option Value)}
    {f__law_up_right : Addr} {oc__law_up_right kV__law_up_right dc__law_up_right pm__law_up_right cd__law_up_right ct__law_up_right : Value} {od__law_up_right an__law_up_right : Option Addr} {sl__law_up_right : Array (Option Value)}
    {f__law_down_right : Addr} {oc__law_down_right kV__law_down_right dc__law_down_right pm__law_down_right cd__law_down_right ct__law_down_right : Value} {od__law_down_right an__law_down_right : Option Addr} {sl__law_down_right : Array (Option Value)}
    {f__law_walked : Addr} {oc__law_walked kV__law_walked dc__law_walked pm__law_walked cd__law_walked ct__law_walked : Value} {od__law_walked an__law_walked : Option Addr} {sl__law_walked : Array (Option Value)}
    {f__law_fallen : Addr} {oc__law_fallen kV__law_fallen dc__law_fallen pm__law_fallen cd__law_fallen ct__law_fallen : Value} {od__law_fallen an__law_fallen : Option Addr} {sl__law_fallen : Array (Option Value)}
    {f_law : Addr} {oc_law kV_law dc_law pm_law cd_law ct_law : Value} {od_law an_law : Option Addr} {sl_law : Array (Option Value)}
    {nm_WalkError qu_WalkError : Str} {N_WalkError : Addr} {bs_WalkError su_WalkError : List Value} {sn_WalkError : List Str} {ab_WalkError : Bool} {co_WalkError : Option Bool} {dd_WalkError : Option Addr} {k0_WalkError k1_WalkError k2_WalkError k3_WalkError k5_WalkError : Option Value}
    {nm_NoKey qu_NoKey : Str} {N_NoKey : Addr} {bs_NoKey su_NoKey : List Value} {sn_NoKey : List Str} {ab_NoKey : Bool} {co_NoKey : Option Bool} {dd_NoKey : Option Addr} {k0_NoKey k1_NoKey k2_NoKey k3_NoKey k5_NoKey : Option Value}
    {nm_Twice qu_Twice : Str} {N_Twice : Addr} {bs_Twice su_Twice : List Value} {sn_Twice : List Str} {ab_Twice : Bool} {co_Twice : Option Bool} {dd_Twice : Option Addr} {k0_Twice k1_Twice k2_Twice k3_Twice k5_Twice : Option Value}
    {tk_MOST_IN_LEAF : Tok}
    {tk_LEAST_IN_TWO : Tok}
    (ac_WalkError : PySem.W.nsIn K mainGlobals "WalkError" = some (some (.ref e_WalkError)))
    (ac_NoKey : PySem.W.nsIn K mainGlobals "NoKey" = some (some (.ref e_NoKey)))
    (ac_Twice : PySem.W.nsIn K mainGlobals "Twice" = some (some (.ref e_Twice)))
    (ac_Leaves : PySem.W.nsIn K mainGlobals "Leaves" = some (some (.ref e_Leaves)))
    (a_NoKey__init : PySem.W.findIn K (.ref e_NoKey) "__init__" = some (some (.ref f_NoKey__init)))
    (l_NoKey__init : K.lookup f_NoKey__init = some ⟨oc_NoKey__init, od_NoKey__init, .func (PySem.W.fnOf "__init__" "NoKey.__init__" (defArgs s_NoKey__init) (defBody s_NoKey__init) (defScope s_NoKey__init) .none kV_NoKey__init dc_NoKey__init pm_NoKey__init an_NoKey__init cd_NoKey__init ct_NoKey__init), sl_NoKey__init⟩)
    (c_NoKey__init : PySem.W.codeIn K cd_NoKey__init "NoKey.__init__" = true)
    (k_NoKey__init : PySem.W.keepIn K (.ref f_NoKey__init) = true)
    (a_Twice__init : PySem.W.findIn K (.ref e_Twice) "__init__" = some (some (.ref f_Twice__init)))
    (l_Twice__init : K.lookup f_Twice__init = some ⟨oc_Twice__init, od_Twice__init, .func (PySem.W.fnOf "__init__" "Twice.__init__" (defArgs s_Twice__init) (defBody s_Twice__init) (defScope s_Twice__init) .none kV_Twice__init dc_Twice__init pm_Twice__init an_Twice__init cd_Twice__init ct_Twice__init), sl_Twice__init⟩)
    (c_Twice__init : PySem.W.codeIn K cd_Twice__init "Twice.__init__" = true)
    (k_Twice__init : PySem.W.keepIn K (.ref f_Twice__init) = true)
    (a_Leaves__init : PySem.W.findIn K (.ref e_Leaves) "__init__" = some (some (.ref f_Leaves__init)))
    (l_Leaves__init : K.lookup f_Leaves__init = some ⟨oc_Leaves__init, od_Leaves__init, .func (PySem.W.fnOf "__init__" "Leaves.__init__" (defArgs s_Leaves__init) (defBody s_Leaves__init) (defScope s_Leaves__init) .none kV_Leaves__init dc_Leaves__init pm_Leaves__init an_Leaves__init cd_Leaves__init ct_Leaves__init), sl_Leaves__init⟩)
    (c_Leaves__init : PySem.W.codeIn K cd_Leaves__init "Leaves.__init__" = true)
    (k_Leaves__init : PySem.W.keepIn K (.ref f_Leaves__init) = true)
    (a_Leaves__add : PySem.W.findIn K (.ref e_Leaves) "add" = some (some (.ref f_Leaves__add)))
    (l_Leaves__add : K.lookup f_Leaves__add = some ⟨oc_Leaves__add, od_Leaves__add, .func (PySem.W.fnOf "add" "Leaves.add" (defArgs s_Leaves__add) (defBody s_Leaves__add) (defScope s_Leaves__add) .none kV_Leaves__add dc_Leaves__add pm_Leaves__add an_Leaves__add cd_Leaves__add ct_Leaves__add), sl_Leaves__add⟩)
    (c_Leaves__add : PySem.W.codeIn K cd_Leaves__add "Leaves.add" = true)
    (k_Leaves__add : PySem.W.keepIn K (.ref f_Leaves__add) = true)
    (a_Leaves__discard : PySem.W.findIn K (.ref e_Leaves) "discard" = some (some (.ref f_Leaves__discard)))
    (l_Leaves__discard : K.lookup f_Leaves__discard = some ⟨oc_Leaves__discard, od_Leaves__discard, .func (PySem.W.fnOf "discard" "Leaves.discard" (defArgs s_Leaves__discard) (defBody s_Leaves__discard) (defScope s_Leaves__discard) .none kV_Leaves__discard dc_Leaves__discard pm_Leaves__discard an_Leaves__discard cd_Leaves__discard ct_Leaves__discard), sl_Leaves__discard⟩)
    (c_Leaves__discard : PySem.W.codeIn K cd_Leaves__discard "Leaves.discard" = true)
    (k_Leaves__discard : PySem.W.keepIn K (.ref f_Leaves__discard) = true)
    (a_Leaves__has : PySem.W.findIn K (.ref e_Leaves) "has" = some (some (.ref f_Leaves__has)))
    (l_Leaves__has : K.lookup f_Leaves__has = some ⟨oc_Leaves__has, od_Leaves__has, .func (PySem.W.fnOf "has" "Leaves.has" (defArgs s_Leaves__has) (defBody s_Leaves__has) (defScope s_Leaves__has) .none kV_Leaves__has dc_Leaves__has pm_Leaves__has an_Leaves__has cd_Leaves__has ct_Leaves__has), sl_Leaves__has⟩)
    (c_Leaves__has : PySem.W.codeIn K cd_Leaves__has "Leaves.has" = true)
    (k_Leaves__has : PySem.W.keepIn K (.ref f_Leaves__has) = true)
    (a_Leaves__many : PySem.W.findIn K (.ref e_Leaves) "many" = some (some (.ref f_Leaves__many)))
    (l_Leaves__many : K.lookup f_Leaves__many = some ⟨oc_Leaves__many, od_Leaves__many, .func (PySem.W.fnOf "many" "Leaves.many" (defArgs s_Leaves__many) (defBody s_Leaves__many) (defScope s_Leaves__many) .none kV_Leaves__many dc_Leaves__many pm_Leaves__many an_Leaves__many cd_Leaves__many ct_Leaves__many), sl_Leaves__many⟩)
    (c_Leaves__many : PySem.W.codeIn K cd_Leaves__many "Leaves.many" = true)
    (k_Leaves__many : PySem.W.keepIn K (.ref f_Leaves__many) = true)
    (a_Leaves__from_on : PySem.W.findIn K (.ref e_Leaves) "from_on" = some (some (.ref f_Leaves__from_on)))
    (l_Leaves__from_on : K.lookup f_Leaves__from_on = some ⟨oc_Leaves__from_on, od_Leaves__from_on, .func (PySem.W.fnOf "from_on" "Leaves.from_on" (defArgs s_Leaves__from_on) (defBody s_Leaves__from_on) (defScope s_Leaves__from_on) .none kV_Leaves__from_on dc_Leaves__from_on pm_Leaves__from_on an_Leaves__from_on cd_Leaves__from_on ct_Leaves__from_on), sl_Leaves__from_on⟩)
    (c_Leaves__from_on : PySem.W.codeIn K cd_Leaves__from_on "Leaves.from_on" = true)
    (k_Leaves__from_on : PySem.W.keepIn K (.ref f_Leaves__from_on) = true)
    (a_Leaves__down_from : PySem.W.findIn K (.ref e_Leaves) "down_from" = some (some (.ref f_Leaves__down_from)))
    (l_Leaves__down_from : K.lookup f_Leaves__down_from = some ⟨oc_Leaves__down_from, od_Leaves__down_from, .func (PySem.W.fnOf "down_from" "Leaves.down_from" (defArgs s_Leaves__down_from) (defBody s_Leaves__down_from) (defScope s_Leaves__down_from) .none kV_Leaves__down_from dc_Leaves__down_from pm_Leaves__down_from an_Leaves__down_from cd_Leaves__down_from ct_Leaves__down_from), sl_Leaves__down_from⟩)
    (c_Leaves__down_from : PySem.W.codeIn K cd_Leaves__down_from "Leaves.down_from" = true)
    (k_Leaves__down_from : PySem.W.keepIn K (.ref f_Leaves__down_from) = true)
    (a_Leaves__leaf_of : PySem.W.findIn K (.ref e_Leaves) "leaf_of" = some (some (.ref f_Leaves__leaf_of)))
    (l_Leaves__leaf_of : K.lookup f_Leaves__leaf_of = some ⟨oc_Leaves__leaf_of, od_Leaves__leaf_of, .func (PySem.W.fnOf "leaf_of" "Leaves.leaf_of" (defArgs s_Leaves__leaf_of) (defBody s_Leaves__leaf_of) (defScope s_Leaves__leaf_of) .none kV_Leaves__leaf_of dc_Leaves__leaf_of pm_Leaves__leaf_of an_Leaves__leaf_of cd_Leaves__leaf_of ct_Leaves__leaf_of), sl_Leaves__leaf_of⟩)
    (c_Leaves__leaf_of : PySem.W.codeIn K cd_Leaves__leaf_of "Leaves.leaf_of" = true)
    (k_Leaves__leaf_of : PySem.W.keepIn K (.ref f_Leaves__leaf_of) = true)
    (a_Leaves__part_leaf : PySem.W.findIn K (.ref e_Leaves) "part_leaf" = some (some (.ref f_Leaves__part_leaf)))
    (l_Leaves__part_leaf : K.lookup f_Leaves__part_leaf = some ⟨oc_Leaves__part_leaf, od_Leaves__part_leaf, .func (PySem.W.fnOf "part_leaf" "Leaves.part_leaf" (defArgs s_Leaves__part_leaf) (defBody s_Leaves__part_leaf) (defScope s_Leaves__part_leaf) .none kV_Leaves__part_leaf dc_Leaves__part_leaf pm_Leaves__part_leaf an_Leaves__part_leaf cd_Leaves__part_leaf ct_Leaves__part_leaf), sl_Leaves__part_leaf⟩)
    (c_Leaves__part_leaf : PySem.W.codeIn K cd_Leaves__part_leaf "Leaves.part_leaf" = true)
    (k_Leaves__part_leaf : PySem.W.keepIn K (.ref f_Leaves__part_leaf) = true)
    (a_Leaves__join_small : PySem.W.findIn K (.ref e_Leaves) "join_small" = some (some (.ref f_Leaves__join_small)))
    (l_Leaves__join_small : K.lookup f_Leaves__join_small = some ⟨oc_Leaves__join_small, od_Leaves__join_small, .func (PySem.W.fnOf "join_small" "Leaves.join_small" (defArgs s_Leaves__join_small) (defBody s_Leaves__join_small) (defScope s_Leaves__join_small) .none kV_Leaves__join_small dc_Leaves__join_small pm_Leaves__join_small an_Leaves__join_small cd_Leaves__join_small ct_Leaves__join_small), sl_Leaves__join_small⟩)
    (c_Leaves__join_small : PySem.W.codeIn K cd_Leaves__join_small "Leaves.join_small" = true)
    (k_Leaves__join_small : PySem.W.keepIn K (.ref f_Leaves__join_small) = true)
    (a__law_cell_at : PySem.W.nsIn K mainGlobals "_law_cell_at" = some (some (.ref f__law_cell_at)))
    (l__law_cell_at : K.lookup f__law_cell_at = some ⟨oc__law_cell_at, od__law_cell_at, .func (PySem.W.fnOf "_law_cell_at" "_law_cell_at" (defArgs s__law_cell_at) (defBody s__law_cell_at) (defScope s__law_cell_at) .none kV__law_cell_at dc__law_cell_at pm__law_cell_at an__law_cell_at cd__law_cell_at ct__law_cell_at), sl__law_cell_at⟩)
    (c__law_cell_at : PySem.W.codeIn K cd__law_cell_at "_law_cell_at" = true)
    (k__law_cell_at : PySem.W.keepIn K (.ref f__law_cell_at) = true)
    (a__law_drawn : PySem.W.nsIn K mainGlobals "_law_drawn" = some (some (.ref f__law_drawn)))
    (l__law_drawn : K.lookup f__law_drawn = some ⟨oc__law_drawn, od__law_drawn, .func (PySem.W.fnOf "_law_drawn" "_law_drawn" (defArgs s__law_drawn) (defBody s__law_drawn) (defScope s__law_drawn) .none kV__law_drawn dc__law_drawn pm__law_drawn an__law_drawn cd__law_drawn ct__law_drawn), sl__law_drawn⟩)
    (c__law_drawn : PySem.W.codeIn K cd__law_drawn "_law_drawn" = true)
    (k__law_drawn : PySem.W.keepIn K (.ref f__law_drawn) = true)
    (a__law_draws : PySem.W.nsIn K mainGlobals "_law_draws" = some (some (.ref f__law_draws)))
    (l__law_draws : K.lookup f__law_draws = some ⟨oc__law_draws, od__law_draws, .func (PySem.W.fnOf "_law_draws" "_law_draws" (defArgs s__law_draws) (defBody s__law_draws) (defScope s__law_draws) .none kV__law_draws dc__law_draws pm__law_draws an__law_draws cd__law_draws ct__law_draws), sl__law_draws⟩)
    (c__law_draws : PySem.W.codeIn K cd__law_draws "_law_draws" = true)
    (k__law_draws : PySem.W.keepIn K (.ref f__law_draws) = true)
    (a__law_begun : PySem.W.nsIn K mainGlobals "_law_begun" = some (some (.ref f__law_begun)))
    (l__law_begun : K.lookup f__law_begun = some ⟨oc__law_begun, od__law_begun, .func (PySem.W.fnOf "_law_begun" "_law_begun" (defArgs s__law_begun) (defBody s__law_begun) (defScope s__law_begun) .none kV__law_begun dc__law_begun pm__law_begun an__law_begun cd__law_begun ct__law_begun), sl__law_begun⟩)
    (c__law_begun : PySem.W.codeIn K cd__law_begun "_law_begun" = true)
    (k__law_begun : PySem.W.keepIn K (.ref f__law_begun) = true)
    (a__law_added : PySem.W.nsIn K mainGlobals "_law_added" = some (some (.ref f__law_added)))
    (l__law_added : K.lookup f__law_added = some ⟨oc__law_added, od__law_added, .func (PySem.W.fnOf "_law_added" "_law_added" (defArgs s__law_added) (defBody s__law_added) (defScope s__law_added) .none kV__law_added dc__law_added pm__law_added an__law_added cd__law_added ct__law_added), sl__law_added⟩)
    (c__law_added : PySem.W.codeIn K cd__law_added "_law_added" = true)
    (k__law_added : PySem.W.keepIn K (.ref f__law_added) = true)
    (a__law_discarded : PySem.W.nsIn K mainGlobals "_law_discarded" = some (some (.ref f__law_discarded)))
    (l__law_discarded : K.lookup f__law_discarded = some ⟨oc__law_discarded, od__law_discarded, .func (PySem.W.fnOf "_law_discarded" "_law_discarded" (defArgs s__law_discarded) (defBody s__law_discarded) (defScope s__law_discarded) .none kV__law_discarded dc__law_discarded pm__law_discarded an__law_discarded cd__law_discarded ct__law_discarded), sl__law_discarded⟩)
    (c__law_discarded : PySem.W.codeIn K cd__law_discarded "_law_discarded" = true)
    (k__law_discarded : PySem.W.keepIn K (.ref f__law_discarded) = true)
    (a__law_deed : PySem.W.nsIn K mainGlobals "_law_deed" = some (some (.ref f__law_deed)))
    (l__law_deed : K.lookup f__law_deed = some ⟨oc__law_deed, od__law_deed, .func (PySem.W.fnOf "_law_deed" "_law_deed" (defArgs s__law_deed) (defBody s__law_deed) (defScope s__law_deed) .none kV__law_deed dc__law_deed pm__law_deed an__law_deed cd__law_deed ct__law_deed), sl__law_deed⟩)
    (c__law_deed : PySem.W.codeIn K cd__law_deed "_law_deed" = true)
    (k__law_deed : PySem.W.keepIn K (.ref f__law_deed) = true)
    (a__law_up_right : PySem.W.nsIn K mainGlobals "_law_up_right" = some (some (.ref f__law_up_right)))
    (l__law_up_right : K.lookup f__law_up_right = some ⟨oc__law_up_right, od__law_up_right, .func (PySem.W.fnOf "_law_up_right" "_law_up_right" (defArgs s__law_up_right) (defBody s__law_up_right) (defScope s__law_up_right) .none kV__law_up_right dc__law_up_right pm__law_up_right an__law_up_right cd__law_up_right ct__law_up_right), sl__law_up_right⟩)
    (c__law_up_right : PySem.W.codeIn K cd__law_up_right "_law_up_right" = true)
    (k__law_up_right : PySem.W.keepIn K (.ref f__law_up_right) = true)
    (a__law_down_right : PySem.W.nsIn K mainGlobals "_law_down_right" = some (some (.ref f__law_down_right)))
    (l__law_down_right : K.lookup f__law_down_right = some ⟨oc__law_down_right, od__law_down_right, .func (PySem.W.fnOf "_law_down_right" "_law_down_right" (defArgs s__law_down_right) (defBody s__law_down_right) (defScope s__law_down_right) .none kV__law_down_right dc__law_down_right pm__law_down_right an__law_down_right cd__law_down_right ct__law_down_right), sl__law_down_right⟩)
    (c__law_down_right : PySem.W.codeIn K cd__law_down_right "_law_down_right" = true)
    (k__law_down_right : PySem.W.keepIn K (.ref f__law_down_right) = true)
    (a__law_walked : PySem.W.nsIn K mainGlobals "_law_walked" = some (some (.ref f__law_walked)))
    (l__law_walked : K.lookup f__law_walked = some ⟨oc__law_walked, od__law_walked, .func (PySem.W.fnOf "_law_walked" "_law_walked" (defArgs s__law_walked) (defBody s__law_walked) (defScope s__law_walked) .none kV__law_walked dc__law_walked pm__law_walked an__law_walked cd__law_walked ct__law_walked), sl__law_walked⟩)
    (c__law_walked : PySem.W.codeIn K cd__law_walked "_law_walked" = true)
    (k__law_walked : PySem.W.keepIn K (.ref f__law_walked) = true)
    (a__law_fallen : PySem.W.nsIn K mainGlobals "_law_fallen" = some (some (.ref f__law_fallen)))
    (l__law_fallen : K.lookup f__law_fallen = some ⟨oc__law_fallen, od__law_fallen, .func (PySem.W.fnOf "_law_fallen" "_law_fallen" (defArgs s__law_fallen) (defBody s__law_fallen) (defScope s__law_fallen) .none kV__law_fallen dc__law_fallen pm__law_fallen an__law_fallen cd__law_fallen ct__law_fallen), sl__law_fallen⟩)
    (c__law_fallen : PySem.W.codeIn K cd__law_fallen "_law_fallen" = true)
    (k__law_fallen : PySem.W.keepIn K (.ref f__law_fallen) = true)
    (a_law : PySem.W.nsIn K mainGlobals "law" = some (some (.ref f_law)))
    (l_law : K.lookup f_law = some ⟨oc_law, od_law, .func (PySem.W.fnOf "law" "law" (defArgs s_law) (defBody s_law) (defScope s_law) .none kV_law dc_law pm_law an_law cd_law ct_law), sl_law⟩)
    (c_law : PySem.W.codeIn K cd_law "law" = true)
    (k_law : PySem.W.keepIn K (.ref f_law) = true)
    (lc_WalkError : K.lookup e_WalkError = some (PySem.excClassObj nm_WalkError qu_WalkError e_WalkError N_WalkError bs_WalkError [.type "ValueError", .type "Exception", .type "BaseException", .type "object"] true sn_WalkError su_WalkError ab_WalkError co_WalkError dd_WalkError k0_WalkError k1_WalkError k2_WalkError k3_WalkError k5_WalkError "ValueError.__new__"))
    (kc_WalkError : PySem.W.keepIn K (.ref e_WalkError) = true)
    (gc_WalkError : PySem.W.findIn K (.ref e_WalkError) "__getattribute__" = some (some (.builtin "BaseException.__getattribute__")))
    (hc_WalkError : PySem.W.findIn K (.ref e_WalkError) "__getattr__" = some none)
    (sc_WalkError : PySem.W.findIn K (.ref e_WalkError) "__setattr__" = some (some (.builtin "object.__setattr__")))
    (na_NoKey_key : PySem.W.findIn K (.ref e_NoKey) "key" = some none)
    (lc_NoKey : K.lookup e_NoKey = some (PySem.excClassObj nm_NoKey qu_NoKey e_NoKey N_NoKey bs_NoKey [.ref e_WalkError, .type "ValueError", .type "Exception", .type "BaseException", .type "object"] true sn_NoKey su_NoKey ab_NoKey co_NoKey dd_NoKey k0_NoKey k1_NoKey k2_NoKey k3_NoKey k5_NoKey "ValueError.__new__"))
    (kc_NoKey : PySem.W.keepIn K (.ref e_NoKey) = true)
    (gc_NoKey : PySem.W.findIn K (.ref e_NoKey) "__getattribute__" = some (some (.builtin "BaseException.__getattribute__")))
    (hc_NoKey : PySem.W.findIn K (.ref e_NoKey) "__getattr__" = some none)
    (sc_NoKey : PySem.W.findIn K (.ref e_NoKey) "__setattr__" = some (some (.builtin "object.__setattr__")))
    (xa_NoKey : PySem.W.findIn K (.ref e_NoKey) "__class__" = some (some (.builtin "object.__class__")))
    (xn_NoKey : PySem.W.specialIn K (.builtin "object.__class__") "__get__" = some (some (.builtin "getset_descriptor.__get__")))
    (xt_NoKey : PySem.W.takesIn K (.builtin "object.__class__") = some true)
    (xm_NoKey : PySem.W.mroIn K e_NoKey (.type "object") = some true)
    (ini_NoKey : PySem.W.findIn K (.ref e_NoKey) "__init__" = some (some (.ref f_NoKey__init)))
    (inf_NoKey : PySem.W.isFn K (.ref f_NoKey__init) = true)
    (na_Twice_key : PySem.W.findIn K (.ref e_Twice) "key" = some none)
    (lc_Twice : K.lookup e_Twice = some (PySem.excClassObj nm_Twice qu_Twice e_Twice N_Twice bs_Twice [.ref e_WalkError, .type "ValueError", .type "Exception", .type "BaseException", .type "object"] true sn_Twice su_Twice ab_Twice co_Twice dd_Twice k0_Twice k1_Twice k2_Twice k3_Twice k5_Twice "ValueError.__new__"))
    (kc_Twice : PySem.W.keepIn K (.ref e_Twice) = true)
    (gc_Twice : PySem.W.findIn K (.ref e_Twice) "__getattribute__" = some (some (.builtin "BaseException.__getattribute__")))
    (hc_Twice : PySem.W.findIn K (.ref e_Twice) "__getattr__" = some none)
    (sc_Twice : PySem.W.findIn K (.ref e_Twice) "__setattr__" = some (some (.builtin "object.__setattr__")))
    (xa_Twice : PySem.W.findIn K (.ref e_Twice) "__class__" = some (some (.builtin "object.__class__")))
    (xn_Twice : PySem.W.specialIn K (.builtin "object.__class__") "__get__" = some (some (.builtin "getset_descriptor.__get__")))
    (xt_Twice : PySem.W.takesIn K (.builtin "object.__class__") = some true)
    (xm_Twice : PySem.W.mroIn K e_Twice (.type "object") = some true)
    (ini_Twice : PySem.W.findIn K (.ref e_Twice) "__init__" = some (some (.ref f_Twice__init)))
    (inf_Twice : PySem.W.isFn K (.ref f_Twice__init) = true)
    (na_Leaves_leaves : PySem.W.findIn K (.ref e_Leaves) "leaves" = some none)
    (pg_Leaves : PySem.W.plainGet K e_Leaves Str.empty = true)
    (hd_Leaves : PySem.W.hasDictIn K e_Leaves = true)
    (po_Leaves : PySem.W.plainOver K e_Leaves = true)
    (sa_Leaves : PySem.W.findIn K (.ref e_Leaves) "__setattr__" = some (some (.builtin "object.__setattr__")))
    (mk_Leaves : PySem.W.makesIn K e_Leaves = true)
    (mi_Leaves : PySem.W.findIn K (.ref e_Leaves) "__init__" = some (some (.ref f_Leaves__init)))
    (mf_Leaves : PySem.W.isFn K (.ref f_Leaves__init) = true)
    (mp_Leaves : PySem.W.keepIn K (.ref e_Leaves) = true)
    (ma_Leaves_add : PySem.W.findIn K (.ref e_Leaves) "add" = some (some (.ref f_Leaves__add)))
    (mb_Leaves_add : PySem.W.isFn K (.ref f_Leaves__add) = true)
    (mc_Leaves_add : PySem.W.keepIn K (.ref f_Leaves__add) = true)
    (ma_Leaves_discard : PySem.W.findIn K (.ref e_Leaves) "discard" = some (some (.ref f_Leaves__discard)))
    (mb_Leaves_discard : PySem.W.isFn K (.ref f_Leaves__discard) = true)
    (mc_Leaves_discard : PySem.W.keepIn K (.ref f_Leaves__discard) = true)
    (ma_Leaves_has : PySem.W.findIn K (.ref e_Leaves) "has" = some (some (.ref f_Leaves__has)))
    (mb_Leaves_has : PySem.W.isFn K (.ref f_Leaves__has) = true)
    (mc_Leaves_has : PySem.W.keepIn K (.ref f_Leaves__has) = true)
    (ma_Leaves_many : PySem.W.findIn K (.ref e_Leaves) "many" = some (some (.ref f_Leaves__many)))
    (mb_Leaves_many : PySem.W.isFn K (.ref f_Leaves__many) = true)
    (mc_Leaves_many : PySem.W.keepIn K (.ref f_Leaves__many) = true)
    (ma_Leaves_from_on : PySem.W.findIn K (.ref e_Leaves) "from_on" = some (some (.ref f_Leaves__from_on)))
    (mb_Leaves_from_on : PySem.W.isFn K (.ref f_Leaves__from_on) = true)
    (mc_Leaves_from_on : PySem.W.keepIn K (.ref f_Leaves__from_on) = true)
    (ma_Leaves_down_from : PySem.W.findIn K (.ref e_Leaves) "down_from" = some (some (.ref f_Leaves__down_from)))
    (mb_Leaves_down_from : PySem.W.isFn K (.ref f_Leaves__down_from) = true)
    (mc_Leaves_down_from : PySem.W.keepIn K (.ref f_Leaves__down_from) = true)
    (ma_Leaves_leaf_of : PySem.W.findIn K (.ref e_Leaves) "leaf_of" = some (some (.ref f_Leaves__leaf_of)))
    (mb_Leaves_leaf_of : PySem.W.isFn K (.ref f_Leaves__leaf_of) = true)
    (mc_Leaves_leaf_of : PySem.W.keepIn K (.ref f_Leaves__leaf_of) = true)
    (ma_Leaves_part_leaf : PySem.W.findIn K (.ref e_Leaves) "part_leaf" = some (some (.ref f_Leaves__part_leaf)))
    (mb_Leaves_part_leaf : PySem.W.isFn K (.ref f_Leaves__part_leaf) = true)
    (mc_Leaves_part_leaf : PySem.W.keepIn K (.ref f_Leaves__part_leaf) = true)
    (ma_Leaves_join_small : PySem.W.findIn K (.ref e_Leaves) "join_small" = some (some (.ref f_Leaves__join_small)))
    (mb_Leaves_join_small : PySem.W.isFn K (.ref f_Leaves__join_small) = true)
    (mc_Leaves_join_small : PySem.W.keepIn K (.ref f_Leaves__join_small) = true)
    (oa_WalkError_init : PySem.W.specialIn K (.ref e_WalkError) "__getattribute__" = some (some (.builtin "type.__getattribute__")))
    (ob_WalkError_init : PySem.W.readsIn K e_WalkError (.type "type") = true)
    (oc_WalkError_init : PySem.W.findCls K (.ref e_WalkError) (.type "type") "__init__" = some (.val (.builtin "ValueError.__init__")))
    (g_MOST_IN_LEAF : PySem.W.nsIn K mainGlobals "MOST_IN_LEAF" = some (some (.int 8 tk_MOST_IN_LEAF)))
    (g_LEAST_IN_TWO : PySem.W.nsIn K mainGlobals "LEAST_IN_TWO" = some (some (.int 5 tk_LEAST_IN_TWO)))
    (z_dict : PySem.W.nsIn K mainGlobals "dict" = some none)
    (z_isinstance : PySem.W.nsIn K mainGlobals "isinstance" = some none)
    (z_len : PySem.W.nsIn K mainGlobals "len" = some none)
    (z_list : PySem.W.nsIn K mainGlobals "list" = some none)
    (z_max : PySem.W.nsIn K mainGlobals "max" = some none)
    (z_min : PySem.W.nsIn K mainGlobals "min" = some none)
    (z_range : PySem.W.nsIn K mainGlobals "range" = some none)
    (z_reversed : PySem.W.nsIn K mainGlobals "reversed" = some none)
    (z_sorted : PySem.W.nsIn K mainGlobals "sorted" = some none)
    (z_sum : PySem.W.nsIn K mainGlobals "sum" = some none) : ∃ t, Txt K mg t := by
  have F_NoKey__init := fun_mk (st := s_NoKey__init) l_NoKey__init c_NoKey__init k_NoKey__init
  have b_NoKey__init := F_NoKey__init.binds (ps := ["self", "key"]) fun _ _ _ _ _ _ us hl => by obtain ⟨_, _, rfl⟩ := us2 hl; rfl
  have F_Twice__init := fun_mk (st := s_Twice__init) l_Twice__init c_Twice__init k_Twice__init
  have b_Twice__init := F_Twice__init.binds (ps := ["self", "key"]) fun _ _ _ _ _ _ us hl => by obtain ⟨_, _, rfl⟩ := us2 hl; rfl
  have F_Leaves__init := fun_mk (st := s_Leaves__init) l_Leaves__init c_Leaves__init k_Leaves__init
  have b_Leaves__init := F_Leaves__init.binds (ps := ["self"]) fun _ _ _ _ _ _ us hl => by obtain ⟨_, rfl⟩ := us1 hl; rfl
  have F_Leaves__add := fun_mk (st := s_Leaves__add) l_Leaves__add c_Leaves__add k_Leaves__add
  have b_Leaves__add := F_Leaves__add.binds (ps := ["self", "key"]) fun _ _ _ _ _ _ us hl => by obtain ⟨_, _, rfl⟩ := us2 hl; rfl
  have F_Leaves__discard := fun_mk (st := s_Leaves__discard) l_Leaves__discard c_Leaves__discard k_Leaves__discard
  have b_Leaves__discard := F_Leaves__discard.binds (ps := ["self", "key"]) fun _ _ _ _ _ _ us hl => by obtain ⟨_, _, rfl⟩ := us2 hl; rfl
  have F_Leaves__has := fun_mk (st := s_Leaves__has) l_Leaves__has c_Leaves__has k_Leaves__has
  have b_Leaves__has := F_Leaves__has.binds (ps := ["self", "key"]) fun _ _ _ _ _ _ us hl => by obtain ⟨_, _, rfl⟩ := us2 hl; rfl
  have F_Leaves__many := fun_mk (st := s_Leaves__many) l_Leaves__many c_Leaves__many k_Leaves__many
  have b_Leaves__many := F_Leaves__many.binds (ps := ["self"]) fun _ _ _ _ _ _ us hl => by obtain ⟨_, rfl⟩ := us1 hl; rfl
  have F_Leaves__from_on := fun_mk (st := s_Leaves__from_on) l_Leaves__from_on c_Leaves__from_on k_Leaves__from_on
  have b_Leaves__from_on := F_Leaves__from_on.binds (ps := ["self", "key", "most"]) fun _ _ _ _ _ _ us hl => by obtain ⟨_, _, _, rfl⟩ := us3 hl; rfl
  have F_Leaves__down_from := fun_mk (st := s_Leaves__down_from) l_Leaves__down_from c_Leaves__down_from k_Leaves__down_from
  have b_Leaves__down_from := F_Leaves__down_from.binds (ps := ["self", "key", "most"]) fun _ _ _ _ _ _ us hl => by obtain ⟨_, _, _, rfl⟩ := us3 hl; rfl
  have F_Leaves__leaf_of := fun_mk (st := s_Leaves__leaf_of) l_Leaves__leaf_of c_Leaves__leaf_of k_Leaves__leaf_of
  have b_Leaves__leaf_of := F_Leaves__leaf_of.binds (ps := ["self", "key"]) fun _ _ _ _ _ _ us hl => by obtain ⟨_, _, rfl⟩ := us2 hl; rfl
  have F_Leaves__part_leaf := fun_mk (st := s_Leaves__part_leaf) l_Leaves__part_leaf c_Leaves__part_leaf k_Leaves__part_leaf
  have b_Leaves__part_leaf := F_Leaves__part_leaf.binds (ps := ["self", "at"]) fun _ _ _ _ _ _ us hl => by obtain ⟨_, _, rfl⟩ := us2 hl; rfl
  have F_Leaves__join_small := fun_mk (st := s_Leaves__join_small) l_Leaves__join_small c_Leaves__join_small k_Leaves__join_small
  have b_Leaves__join_small := F_Leaves__join_small.binds (ps := ["self", "at"]) fun _ _ _ _ _ _ us hl => by obtain ⟨_, _, rfl⟩ := us2 hl; rfl
  have F__law_cell_at := fun_mk (st := s__law_cell_at) l__law_cell_at c__law_cell_at k__law_cell_at
  have b__law_cell_at := F__law_cell_at.binds (ps := ["_law_script", "_law_k"]) fun _ _ _ _ _ _ us hl => by obtain ⟨_, _, rfl⟩ := us2 hl; rfl
  have F__law_drawn := fun_mk (st := s__law_drawn) l__law_drawn c__law_drawn k__law_drawn
  have b__law_drawn := F__law_drawn.binds (ps := ["_law_cell", "_law_k"]) fun _ _ _ _ _ _ us hl => by obtain ⟨_, _, rfl⟩ := us2 hl; rfl
  have F__law_draws := fun_mk (st := s__law_draws) l__law_draws c__law_draws k__law_draws
  have b__law_draws := F__law_draws.binds (ps := ["_law_cell", "_law_many", "_law_way"]) fun _ _ _ _ _ _ us hl => by obtain ⟨_, _, _, rfl⟩ := us3 hl; rfl
  have F__law_begun := fun_mk (st := s__law_begun) l__law_begun c__law_begun k__law_begun
  have b__law_begun := F__law_begun.binds (ps := ["_law_script", "_law_way"]) fun _ _ _ _ _ _ us hl => by obtain ⟨_, _, rfl⟩ := us2 hl; rfl
  have F__law_added := fun_mk (st := s__law_added) l__law_added c__law_added k__law_added
  have b__law_added := F__law_added.binds (ps := ["_law_told", "_law_kept", "_law_key"]) fun _ _ _ _ _ _ us hl => by obtain ⟨_, _, _, rfl⟩ := us3 hl; rfl
  have F__law_discarded := fun_mk (st := s__law_discarded) l__law_discarded c__law_discarded k__law_discarded
  have b__law_discarded := F__law_discarded.binds (ps := ["_law_told", "_law_kept", "_law_stayed", "_law_some"]) fun _ _ _ _ _ _ us hl => by obtain ⟨_, _, _, _, rfl⟩ := us4 hl; rfl
  have F__law_deed := fun_mk (st := s__law_deed) l__law_deed c__law_deed k__law_deed
  have b__law_deed := F__law_deed.binds (ps := ["_law_told", "_law_kept", "_law_stayed", "_law_draws_here", "_law_last"]) fun _ _ _ _ _ _ us hl => by obtain ⟨_, _, _, _, _, rfl⟩ := us5 hl; rfl
  have F__law_up_right := fun_mk (st := s__law_up_right) l__law_up_right c__law_up_right k__law_up_right
  have b__law_up_right := F__law_up_right.binds (ps := ["_law_found", "_law_kept", "_law_last", "_law_most"]) fun _ _ _ _ _ _ us hl => by obtain ⟨_, _, _, _, rfl⟩ := us4 hl; rfl
  have F__law_down_right := fun_mk (st := s__law_down_right) l__law_down_right c__law_down_right k__law_down_right
  have b__law_down_right := F__law_down_right.binds (ps := ["_law_found", "_law_kept", "_law_last", "_law_most"]) fun _ _ _ _ _ _ us hl => by obtain ⟨_, _, _, _, rfl⟩ := us4 hl; rfl
  have F__law_walked := fun_mk (st := s__law_walked) l__law_walked c__law_walked k__law_walked
  have b__law_walked := F__law_walked.binds (ps := ["_law_told", "_law_kept", "_law_up", "_law_most"]) fun _ _ _ _ _ _ us hl => by obtain ⟨_, _, _, _, rfl⟩ := us4 hl; rfl
  have F__law_fallen := fun_mk (st := s__law_fallen) l__law_fallen c__law_fallen k__law_fallen
  have b__law_fallen := F__law_fallen.binds (ps := ["_law_told", "_law_kept", "_law_down", "_law_most"]) fun _ _ _ _ _ _ us hl => by obtain ⟨_, _, _, _, rfl⟩ := us4 hl; rfl
  have F_law := fun_mk (st := s_law) l_law c_law k_law
  have b_law := F_law.binds (ps := ["_law_script"]) fun _ _ _ _ _ _ us hl => by obtain ⟨_, rfl⟩ := us1 hl; rfl
  exact ⟨⟨f_NoKey__init, _, f_Twice__init, _, f_Leaves__init, _, f_Leaves__add, _, f_Leaves__discard, _, f_Leaves__has, _, f_Leaves__many, _, f_Leaves__from_on, _, f_Leaves__down_from, _, f_Leaves__leaf_of, _, f_Leaves__part_leaf, _, f_Leaves__join_small, _, f__law_cell_at, _, f__law_drawn, _, f__law_draws, _, f__law_begun, _, f__law_added, _, f__law_discarded, _, f__law_deed, _, f__law_up_right, _, f__law_down_right, _, f__law_walked, _, f__law_fallen, _, f_law, _, e_WalkError, e_NoKey, e_Twice, e_Leaves⟩, ⟨PySem.W.mg_of X G ac_WalkError, PySem.W.mg_of X G ac_NoKey, PySem.W.mg_of X G ac_Twice, PySem.W.mg_of X G ac_Leaves, F_NoKey__init, b_NoKey__init, F_Twice__init, b_Twice__init, F_Leaves__init, b_Leaves__init, F_Leaves__add, b_Leaves__add, F_Leaves__discard, b_Leaves__discard, F_Leaves__has, b_Leaves__has, F_Leaves__many, b_Leaves__many, F_Leaves__from_on, b_Leaves__from_on, F_Leaves__down_from, b_Leaves__down_from, F_Leaves__leaf_of, b_Leaves__leaf_of, F_Leaves__part_leaf, b_Leaves__part_leaf, F_Leaves__join_small, b_Leaves__join_small, PySem.W.mg_of X G a__law_cell_at, F__law_cell_at, b__law_cell_at, PySem.W.mg_of X G a__law_drawn, F__law_drawn, b__law_drawn, PySem.W.mg_of X G a__law_draws, F__law_draws, b__law_draws, PySem.W.mg_of X G a__law_begun, F__law_begun, b__law_begun, PySem.W.mg_of X G a__law_added, F__law_added, b__law_added, PySem.W.mg_of X G a__law_discarded, F__law_discarded, b__law_discarded, PySem.W.mg_of X G a__law_deed, F__law_deed, b__law_deed, PySem.W.mg_of X G a__law_up_right, F__law_up_right, b__law_up_right, PySem.W.mg_of X G a__law_down_right, F__law_down_right, b__law_down_right, PySem.W.mg_of X G a__law_walked, F__law_walked, b__law_walked, PySem.W.mg_of X G a__law_fallen, F__law_fallen, b__law_fallen, PySem.W.mg_of X G a_law, F_law, b_law, ⟨⟨_, _, _, _, _, _, _, _, _, _, _, _, _, _, lc_WalkError⟩, ⟨[], rfl⟩, kc_WalkError, gc_WalkError, hc_WalkError, sc_WalkError⟩, na_NoKey_key, ⟨⟨_, _, _, _, _, _, _, _, _, _, _, _, _, _, lc_NoKey⟩, ⟨[e_WalkError], rfl⟩, kc_NoKey, gc_NoKey, hc_NoKey, sc_NoKey⟩, ⟨xa_NoKey, xn_NoKey, xt_NoKey, xm_NoKey⟩, ini_NoKey, inf_NoKey, na_Twice_key, ⟨⟨_, _, _, _, _, _, _, _, _, _, _, _, _, _, lc_Twice⟩, ⟨[e_WalkError], rfl⟩, kc_Twice, gc_Twice, hc_Twice, sc_Twice⟩, ⟨xa_Twice, xn_Twice, xt_Twice, xm_Twice⟩, ini_Twice, inf_Twice, na_Leaves_leaves, ⟨pg_Leaves, hd_Leaves, po_Leaves, sa_Leaves⟩, ⟨mk_Leaves, mi_Leaves, mf_Leaves, mp_Leaves⟩, ⟨ma_Leaves_add, mb_Leaves_add, mc_Leaves_add⟩, ⟨ma_Leaves_discard, mb_Leaves_discard, mc_Leaves_discard⟩, ⟨ma_Leaves_has, mb_Leaves_has, mc_Leaves_has⟩, ⟨ma_Leaves_many, mb_Leaves_many, mc_Leaves_many⟩, ⟨ma_Leaves_from_on, mb_Leaves_from_on, mc_Leaves_from_on⟩, ⟨ma_Leaves_down_from, mb_Leaves_down_from, mc_Leaves_down_from⟩, ⟨ma_Leaves_leaf_of, mb_Leaves_leaf_of, mc_Leaves_leaf_of⟩, ⟨ma_Leaves_part_leaf, mb_Leaves_part_leaf, mc_Leaves_part_leaf⟩, ⟨ma_Leaves_join_small, mb_Leaves_join_small, mc_Leaves_join_small⟩, ⟨oa_WalkError_init, ob_WalkError_init, oc_WalkError_init⟩, ⟨_, PySem.W.mg_of X G g_MOST_IN_LEAF⟩, ⟨_, PySem.W.mg_of X G g_LEAST_IN_TWO⟩, PySem.W.mg_none_of X G z_dict, PySem.W.mg_none_of X G z_isinstance, PySem.W.mg_none_of X G z_len, PySem.W.mg_none_of X G z_list, PySem.W.mg_none_of X G z_max, PySem.W.mg_none_of X G z_min, PySem.W.mg_none_of X G z_range, PySem.W.mg_none_of X G z_reversed, PySem.W.mg_none_of X G z_sorted, PySem.W.mg_none_of X G z_sum⟩⟩
theorem walk {l : PySem.W.OpenLaw} {q : Program} {loose : List Str} {XP : (Str → Option Value) → Heap → Prop} {YP : World → Heap → Prop} {d : DefRec} {K : Params → PySem.W.Frag} (hn : l.most = some 63) (hdf : d.params.defaults = [])
    (hY : ∀ (w : World) (h : Heap), YP w h → (K w.params).In h) (hd : d.name = "law")
    (F : ∀ (w : World) (mg : Str → Option Value) (h : Heap), (K w.params).In h → h.Ns mainGlobals mg → ∃ t, Txt (K w.params) mg t) :
    PySem.W.WalkO q loose XP YP l.row.toRowW d [] (fun f vs => PySem.call f vs) := by
  refine L2.walk_of (n := 63) (k := 6) (x := "_law_script") (CX := fun _ => CX0) (sp := fun w => sp_law (K w.params)) hn (by decide) hdf ⟨rfl, by decide, by decide⟩ hY (fun w mg fa h KX G hfa => ?_) (fun _ _ a ns hl _ hS => ⟨a, ns, rfl, hS, hl, fun _ => rfl⟩) fun _ _ _ _ _ z => z
  obtain ⟨t, T⟩ := F w mg h KX G
  have e := hfa.symm.trans ((congrArg mg hd).trans T.m_law)
  cases e
  obtain ⟨oc, od, kV, doc, pm, an, cdv, ct, osl, e1, lk, hcd⟩ := T.F_law.ex
  refine ⟨t.d_law, fun s u => ?_, fun base _ _ => ok_law T⟩
  rw [e1]
  exact .of_eq rfl
end SW
open PySem PySem.W PyProof.Rows
set_option maxRecDepth 100000 in
set_option maxHeartbeats 0 in
theorem PySem.Challenge.cw_staywalk_k24_whole_walked_by_leaves_holds : PySem.Challenge.rw_staywalk_k24_whole_walked_by_leaves.Holds := by
  w_on; o_law; k_head; (case hw => w_witness2)
  k_fill
  refine SW.walk (l := PySem.Challenge.rw_staywalk_k24_whole_walked_by_leaves) rfl rfl (fun w h Y => PySem.W.kIn_of Y) rfl ?F
  case F =>
    intro w mg h KX G
    refine' SW.txt_mk KX G ?ac_WalkError ?ac_NoKey ?ac_Twice ?ac_Leaves ?a_NoKey__init ?l_NoKey__init ?c_NoKey__init ?k_NoKey__init ?a_Twice__init ?l_Twice__init ?c_Twice__init ?k_Twice__init ?a_Leaves__init ?l_Leaves__init ?c_Leaves__init ?k_Leaves__init ?a_Leaves__add ?l_Leaves__add ?c_Leaves__add ?k_Leaves__add ?a_Leaves__discard ?l_Leaves__discard ?c_Leaves__discard ?k_Leaves__discard ?a_Leaves__has ?l_Leaves__has ?c_Leaves__has ?k_Leaves__has ?a_Leaves__many ?l_Leaves__many ?c_Leaves__many ?k_Leaves__many ?a_Leaves__from_on ?l_Leaves__from_on ?c_Leaves__from_on ?k_Leaves__from_on ?a_Leaves__down_from ?l_Leaves__down_from ?c_Leaves__down_from ?k_Leaves__down_from ?a_Leaves__leaf_of ?l_Leaves__leaf_of ?c_Leaves__leaf_of ?k_Leaves__leaf_of ?a_Leaves__part_leaf ?l_Leaves__part_leaf ?c_Leaves__part_leaf ?k_Leaves__part_leaf ?a_Leaves__join_small ?l_Leaves__join_small ?c_Leaves__join_small ?k_Leaves__join_small ?a__law_cell_at ?l__law_cell_at ?c__law_cell_at ?k__law_cell_at ?a__law_drawn ?l__law_drawn ?c__law_drawn ?k__law_drawn ?a__law_draws ?l__law_draws ?c__law_draws ?k__law_draws ?a__law_begun ?l__law_begun ?c__law_begun ?k__law_begun ?a__law_added ?l__law_added ?c__law_added ?k__law_added ?a__law_discarded ?l__law_discarded ?c__law_discarded ?k__law_discarded ?a__law_deed ?l__law_deed ?c__law_deed ?k__law_deed ?a__law_up_right ?l__law_up_right ?c__law_up_right ?k__law_up_right ?a__law_down_right ?l__law_down_right ?c__law_down_right ?k__law_down_right ?a__law_walked ?l__law_walked ?c__law_walked ?k__law_walked ?a__law_fallen ?l__law_fallen ?c__law_fallen ?k__law_fallen ?a_law ?l_law ?c_law ?k_law ?lc_WalkError ?kc_WalkError ?gc_WalkError ?hc_WalkError ?sc_WalkError ?na_NoKey_key ?lc_NoKey ?kc_NoKey ?gc_NoKey ?hc_NoKey ?sc_NoKey ?xa_NoKey ?xn_NoKey ?xt_NoKey ?xm_NoKey ?ini_NoKey ?inf_NoKey ?na_Twice_key ?lc_Twice ?kc_Twice ?gc_Twice ?hc_Twice ?sc_Twice ?xa_Twice ?xn_Twice ?xt_Twice ?xm_Twice ?ini_Twice ?inf_Twice ?na_Leaves_leaves ?pg_Leaves ?hd_Leaves ?po_Leaves ?sa_Leaves ?mk_Leaves ?mi_Leaves ?mf_Leaves ?mp_Leaves ?ma_Leaves_add ?mb_Leaves_add ?mc_Leaves_add ?ma_Leaves_discard ?mb_Leaves_discard ?mc_Leaves_discard ?ma_Leaves_has ?mb_Leaves_has ?mc_Leaves_has ?ma_Leaves_many ?mb_Leaves_many ?mc_Leaves_many ?ma_Leaves_from_on ?mb_Leaves_from_on ?mc_Leaves_from_on ?ma_Leaves_down_from ?mb_Leaves_down_from ?mc_Leaves_down_from ?ma_Leaves_leaf_of ?mb_Leaves_leaf_of ?mc_Leaves_leaf_of ?ma_Leaves_part_leaf ?mb_Leaves_part_leaf ?mc_Leaves_part_leaf ?ma_Leaves_join_small ?mb_Leaves_join_small ?mc_Leaves_join_small ?oa_WalkError_init ?ob_WalkError_init ?oc_WalkError_init ?g_MOST_IN_LEAF ?g_LEAST_IN_TWO ?z_dict ?z_isinstance ?z_len ?z_list ?z_max ?z_min ?z_range ?z_reversed ?z_sorted ?z_sum
    (case ac_WalkError => k_is)
    (case ac_NoKey => k_is)
    (case ac_Twice => k_is)
    (case ac_Leaves => k_is)
    (case a_NoKey__init => k_is)
    (case l_NoKey__init => k_is)
    (case c_NoKey__init => k_is)
    (case k_NoKey__init => k_is)
    (case a_Twice__init => k_is)
    (case l_Twice__init => k_is)
    (case c_Twice__init => k_is)
    (case k_Twice__init => k_is)
    (case a_Leaves__init => k_is)
    (case l_Leaves__init => k_is)
    (case c_Leaves__init => k_is)
    (case k_Leaves__init => k_is)
    (case a_Leaves__add => k_is)
    (case l_Leaves__add => k_is)
    (case c_Leaves__add => k_is)
    (case k_Leaves__add => k_is)
    (case a_Leaves__discard => k_is)
    (case l_Leaves__discard => k_is)
    (case c_Leaves__discard => k_is)
    (case k_Leaves__discard => k_is)
    (case a_Leaves__has => k_is)
    (case l_Leaves__has => k_is)
    (case c_Leaves__has => k_is)
    (case k_Leaves__has => k_is)
    (case a_Leaves__many => k_is)
    (case l_Leaves__many => k_is)
    (case c_Leaves__many => k_is)
    (case k_Leaves__many => k_is)
    (case a_Leaves__from_on => k_is)
    (case l_Leaves__from_on => k_is)
    (case c_Leaves__from_on => k_is)
    (case k_Leaves__from_on => k_is)
    (case a_Leaves__down_from => k_is)
    (case l_Leaves__down_from => k_is)
    (case c_Leaves__down_from => k_is)
    (case k_Leaves__down_from => k_is)
    (case a_Leaves__leaf_of => k_is)
    (case l_Leaves__leaf_of => k_is)
    (case c_Leaves__leaf_of => k_is)
    (case k_Leaves__leaf_of => k_is)
    (case a_Leaves__part_leaf => k_is)
    (case l_Leaves__part_leaf => k_is)
    (case c_Leaves__part_leaf => k_is)
    (case k_Leaves__part_leaf => k_is)
    (case a_Leaves__join_small => k_is)
    (case l_Leaves__join_small => k_is)
    (case c_Leaves__join_small => k_is)
    (case k_Leaves__join_small => k_is)
    (case a__law_cell_at => k_is)
    (case l__law_cell_at => k_is)
    (case c__law_cell_at => k_is)
    (case k__law_cell_at => k_is)
    (case a__law_drawn => k_is)
    (case l__law_drawn => k_is)
    (case c__law_drawn => k_is)
    (case k__law_drawn => k_is)
    (case a__law_draws => k_is)
    (case l__law_draws => k_is)
    (case c__law_draws => k_is)
    (case k__law_draws => k_is)
    (case a__law_begun => k_is)
    (case l__law_begun => k_is)
    (case c__law_begun => k_is)
    (case k__law_begun => k_is)
    (case a__law_added => k_is)
    (case l__law_added => k_is)
    (case c__law_added => k_is)
    (case k__law_added => k_is)
    (case a__law_discarded => k_is)
    (case l__law_discarded => k_is)
    (case c__law_discarded => k_is)
    (case k__law_discarded => k_is)
    (case a__law_deed => k_is)
    (case l__law_deed => k_is)
    (case c__law_deed => k_is)
    (case k__law_deed => k_is)
    (case a__law_up_right => k_is)
    (case l__law_up_right => k_is)
    (case c__law_up_right => k_is)
    (case k__law_up_right => k_is)
    (case a__law_down_right => k_is)
    (case l__law_down_right => k_is)
    (case c__law_down_right => k_is)
    (case k__law_down_right => k_is)
    (case a__law_walked => k_is)
    (case l__law_walked => k_is)
    (case c__law_walked => k_is)
    (case k__law_walked => k_is)
    (case a__law_fallen => k_is)
    (case l__law_fallen => k_is)
    (case c__law_fallen => k_is)
    (case k__law_fallen => k_is)
    (case a_law => k_is)
    (case l_law => k_is)
    (case c_law => k_is)
    (case k_law => k_is)
    (case lc_WalkError => k_is)
    (case kc_WalkError => k_is)
    (case gc_WalkError => k_is)
    (case hc_WalkError => k_is)
    (case sc_WalkError => k_is)
    (case na_NoKey_key => k_is)
    (case lc_NoKey => k_is)
    (case kc_NoKey => k_is)
    (case gc_NoKey => k_is)
    (case hc_NoKey => k_is)
    (case sc_NoKey => k_is)
    (case xa_NoKey => k_is)
    (case xn_NoKey => k_is)
    (case xt_NoKey => k_is)
    (case xm_NoKey => k_is)
    (case ini_NoKey => k_is)
    (case inf_NoKey => k_is)
    (case na_Twice_key => k_is)
    (case lc_Twice => k_is)
    (case kc_Twice => k_is)
    (case gc_Twice => k_is)
    (case hc_Twice => k_is)
    (case sc_Twice => k_is)
    (case xa_Twice => k_is)
    (case xn_Twice => k_is)
    (case xt_Twice => k_is)
    (case xm_Twice => k_is)
    (case ini_Twice => k_is)
    (case inf_Twice => k_is)
    (case na_Leaves_leaves => k_is)
    (case pg_Leaves => k_is)
    (case hd_Leaves => k_is)
    (case po_Leaves => k_is)
    (case sa_Leaves => k_is)
    (case mk_Leaves => k_is)
    (case mi_Leaves => k_is)
    (case mf_Leaves => k_is)
    (case mp_Leaves => k_is)
    (case ma_Leaves_add => k_is)
    (case mb_Leaves_add => k_is)
    (case mc_Leaves_add => k_is)
    (case ma_Leaves_discard => k_is)
    (case mb_Leaves_discard => k_is)
    (case mc_Leaves_discard => k_is)
    (case ma_Leaves_has => k_is)
    (case mb_Leaves_has => k_is)
    (case mc_Leaves_has => k_is)
    (case ma_Leaves_many => k_is)
    (case mb_Leaves_many => k_is)
    (case mc_Leaves_many => k_is)
    (case ma_Leaves_from_on => k_is)
    (case mb_Leaves_from_on => k_is)
    (case mc_Leaves_from_on => k_is)
    (case ma_Leaves_down_from => k_is)
    (case mb_Leaves_down_from => k_is)
    (case mc_Leaves_down_from => k_is)
    (case ma_Leaves_leaf_of => k_is)
    (case mb_Leaves_leaf_of => k_is)
    (case mc_Leaves_leaf_of => k_is)
    (case ma_Leaves_part_leaf => k_is)
    (case mb_Leaves_part_leaf => k_is)
    (case mc_Leaves_part_leaf => k_is)
    (case ma_Leaves_join_small => k_is)
    (case mb_Leaves_join_small => k_is)
    (case mc_Leaves_join_small => k_is)
    (case oa_WalkError_init => k_is)
    (case ob_WalkError_init => k_is)
    (case oc_WalkError_init => k_is)
    (case g_MOST_IN_LEAF => k_is)
    (case g_LEAST_IN_TWO => k_is)
    (case z_dict => k_is)
    (case z_isinstance => k_is)
    (case z_len => k_is)
    (case z_list => k_is)
    (case z_max => k_is)
    (case z_min => k_is)
    (case z_range => k_is)
    (case z_reversed => k_is)
    (case z_sorted => k_is)
    (case z_sum => k_is)
#print axioms PySem.Challenge.cw_staywalk_k24_whole_walked_by_leaves_holds
