import PyProof.Rows.All
import Wide.All
import OpenK.AllK
import Wide.FinOn
import Lean
import PyProof.EqAt
import PyProof.EqKinds
import PyProof.TupleCall
import PyProof.NeKinds
import KE.KDictSum
import PyProof.Rows.StrWeight2
import PySem.Challenge.RW_staywalk_k32_no_tokens
set_option Elab.async false
set_option linter.all false
set_option maxRecDepth 100000
/-! THE HAND LAYER, for ints, bools, texts, own classes, LISTS and tuples (index, slices, in, append, pop ..), calls, loops. Paste it whole ahead of your own text; what your proof does not reach may be deleted. -/
namespace L2
open PySem PySem.Spec PyProof.Rows

/-- a key: an int or a str -/
abbrev Key := Sum Int Str
def keyIs : Key → Value → Bool
  | .inl k, v => Value.isInt k v
  | .inr x, v => Value.isStrOf x v
def keyH (w : World) : Key → Int
  | .inl k => hashInt k
  | .inr x => hashStr w x
theorem keyIs_shape : ∀ {k : Key} {v : Value}, keyIs k v = true → (∃ i t, k = Sum.inl i ∧ v = Value.int i t) ∨ (∃ x t, k = Sum.inr x ∧ v = Value.str x t)
  | .inl i, v, h => by
    obtain ⟨t, e⟩ := Value.isInt_shape (k := i) (v := v) h
    exact .inl ⟨i, t, rfl, e⟩
  | .inr x, v, h => by
    obtain ⟨t, e⟩ := Value.isStrOf_shape (x := x) (v := v) h
    exact .inr ⟨x, t, rfl, e⟩
theorem key_ll (a b : Int) : decide ((Sum.inl a : Key) = Sum.inl b) = (a == b) := by
  by_cases e : a = b
  · subst e; simp
  · have h : ¬ (Sum.inl a : Key) = Sum.inl b := fun q => e (Sum.inl.inj q)
    rw [decide_eq_false h]
    exact (beq_eq_false_iff_ne.mpr e).symm
theorem key_rr (a b : Str) : decide ((Sum.inr a : Key) = Sum.inr b) = decide (a = b) := by
  by_cases e : a = b
  · subst e; simp
  · have h : ¬ (Sum.inr a : Key) = Sum.inr b := fun q => e (Sum.inr.inj q)
    rw [decide_eq_false h, decide_eq_false e]
theorem key_lr (a : Int) (b : Str) : decide ((Sum.inl a : Key) = Sum.inr b) = false := decide_eq_false (fun q => nomatch q)
theorem key_rl (a : Str) (b : Int) : decide ((Sum.inr a : Key) = Sum.inl b) = false := decide_eq_false (fun q => nomatch q)

def mixKind (prog : Program) (w : World) : PySem.KeyKind prog w Key where
  is := keyIs
  hash := keyH w
  inj := fun v a b ha hb => by
    rcases keyIs_shape ha with ⟨i, t, rfl, rfl⟩ | ⟨x, t, rfl, rfl⟩
    · rcases keyIs_shape hb with ⟨j, u, rfl, e⟩ | ⟨y, u, rfl, e⟩
      · injection e with e1 _; rw [e1]
      · exact nomatch e
    · rcases keyIs_shape hb with ⟨j, u, rfl, e⟩ | ⟨y, u, rfl, e⟩
      · exact nomatch e
      · injection e with e1 _; rw [e1]
  byValue := fun k v h => by
    rcases keyIs_shape h with ⟨i, t, rfl, rfl⟩ | ⟨x, t, rfl, rfl⟩ <;> rfl
  pyHash := fun hv h => by
    rcases keyIs_shape hv with ⟨i, t, rfl, rfl⟩ | ⟨x, t, rfl, rfl⟩
    · exact wpAny_pyHash_int h
    · exact wpAny_pyHash_str h
  eqBool := fun hu hv h => by
    rcases keyIs_shape hu with ⟨i, t, rfl, rfl⟩ | ⟨x, t, rfl, rfl⟩
    · rcases keyIs_shape hv with ⟨j, u, rfl, rfl⟩ | ⟨y, u, rfl, rfl⟩
      · rw [key_ll] at h; exact wpAny_eqBool_int h
      · rw [key_lr] at h; exact SeqAt.EqAt.int_str i t y u _ _ _ _ h
    · rcases keyIs_shape hv with ⟨j, u, rfl, rfl⟩ | ⟨y, u, rfl, rfl⟩
      · rw [key_rl] at h; exact SeqAt.EqAt.str_int x t j u _ _ _ _ h
      · rw [key_rr] at h; exact wpAny_eqBool_str h
  «strs» := fun k x t v h => by
    rcases keyIs_shape h with ⟨i, u, rfl, e⟩ | ⟨y, u, rfl, e⟩
    · exact nomatch e
    · injection e with e1 _
      subst e1
      cases v <;> rfl

end L2

namespace L2
open PySem PySem.Spec PyProof.Rows

/-- a value, without the heap -/
inductive V where
  | non | bl (b : Bool) | int (i : Int) | str (x : Str) | byt (b : Array UInt8) | flt (b : UInt64) | ref (a : Addr) | ty (n : String)
  deriving DecidableEq

def RelV : V → Value → Prop
  | .non, u => u = Value.none
  | .bl b, u => u = Value.bool b
  | .int i, u => ∃ t, u = Value.int i t
  | .str x, u => ∃ t, u = Value.str x t
  | .byt b, u => ∃ t, u = Value.bytes b t
  | .flt b, u => ∃ t, u = Value.float b t
  | .ref a, u => u = Value.ref a
  | .ty n, u => u = Value.type n

abbrev Vals : List V → List Value → Prop := Paired RelV
theorem Vals.length {xs : List V} {us : List Value} (r : Vals xs us) : xs.length = us.length := Paired.length r
theorem Vals.get : ∀ {xs : List V} {us : List Value} {i : Nat} {x : V}, Vals xs us → xs[i]? = some x → ∃ u, us[i]? = some u ∧ RelV x u
  | _, _, _, _, .nil, e => by simp at e
  | _, _, 0, _, .cons r _, e => by simp at e; subst e; exact ⟨_, rfl, r⟩
  | _, _, i + 1, x, .cons _ t, e => by
    obtain ⟨u, h1, h2⟩ := Vals.get (i := i) (x := x) t (by simpa using e)
    exact ⟨u, by simpa using h1, h2⟩
theorem Vals.set {x : V} {u : Value} (r : RelV x u) : ∀ {xs : List V} {us : List Value} (i : Nat), Vals xs us → Vals (xs.set i x) (us.set i u)
  | _, _, _, .nil => .nil
  | _, _, 0, .cons _ t => .cons r t
  | _, _, i + 1, .cons q t => .cons q (Vals.set r i t)
theorem Vals.append : ∀ {xs ys : List V} {us ws : List Value}, Vals xs us → Vals ys ws → Vals (xs ++ ys) (us ++ ws)
  | _, _, _, _, .nil, s => s
  | _, _, _, _, .cons r t, s => .cons r (Vals.append t s)
theorem Vals.take : ∀ {xs : List V} {us : List Value} (n : Nat), Vals xs us → Vals (xs.take n) (us.take n)
  | _, _, 0, _ => .nil
  | _, _, _ + 1, .nil => .nil
  | _, _, n + 1, .cons r t => .cons r (Vals.take n t)
theorem Vals.none_of : ∀ {xs : List V} {us : List Value} {i : Nat}, Vals xs us → xs[i]? = none → us[i]? = none := fun {xs us i} r e => by
  have h1 := r.length
  have h2 : xs.length ≤ i := List.getElem?_eq_none_iff.mp e
  exact List.getElem?_eq_none_iff.mpr (by omega)

def RelO : Option V → Option Value → Prop
  | some v, some u => RelV v u
  | none, none => True
  | _, _ => False
def KV {κ : Type} : List (κ × V) → List (κ × Value) → Prop := Paired fun (p : κ × V) (q : κ × Value) => p.1 = q.1 ∧ RelV p.2 q.2

/-- a key of a dict (00_mix): an int or a text -/
def kV : Key → V
  | .inl i => .int i
  | .inr x => .str x

/-- what stands at a tracked address -/
inductive HO where
  /-- a list -/
  | lst (xs : List V)
  /-- a tuple (never changes) -/
  | tup (xs : List V)
  /-- a dict whose keys are ints and texts; one whose keys are tuples of ints and texts (the empty one is both) -/
  | dK (kvs : List (Key × V)) | dT (kvs : List (List Key × V))
  /-- a set of ints: its members, its size -/
  | set (S : Int → Bool) (n : Nat)
  /-- an instance of the class at C, its dict at dx, its attributes -/
  | ins (C dx : Addr) (fs : List (Str × V))
  /-- the dict of the instance at x -/
  | own (x : Addr)
  /-- the dict of an exception -/
  | xd (fs : List (Str × V))
  /-- a bound method, f of x -/
  | met (f x : Addr)
  /-- a range object lo, lo + 1, .. below hi -/
  | rng (lo hi : Int)
  /-- a thing that is known to the object (the script; a dict while a loop walks it): read, never written while it is so -/
  | frz (o : Obj) (u : HO)
  /-- a code object's table -/
  | tbl (ps : Array Value)
  /-- any other thing, by what is true of its one object (a def of one's own: SetO a S n := HO.ext fun h => ..) -/
  | ext (φ : Heap → Prop)

abbrev Hp := Addr → Option HO
def upd (H : Hp) (a : Addr) (o : HO) : Hp := fun b => if b = a then some o else H b
theorem upd_same {H : Hp} {a : Addr} {o : HO} : upd H a o a = some o := by unfold upd; rw [if_pos rfl]
theorem upd_ne {H : Hp} {a b : Addr} {o : HO} (h : b ≠ a) : upd H a o b = H b := by unfold upd; rw [if_neg h]
theorem upd_upd {H : Hp} {a : Addr} {o u : HO} : upd (upd H a o) a u = upd H a u := by
  funext b; unfold upd; split <;> rfl
theorem ne_of_none {H : Hp} {a b : Addr} {o : HO} (h : H a = some o) (h' : H b = none) : a ≠ b := by
  intro e; subst e; rw [h] at h'; cases h'

section
variable (P : Program) (w : World)
def ObjOk (H : Hp) (h : Heap) (a : Addr) : HO → Prop
  | .lst xs => xs.length ≤ sizeLine ∧ ∃ (its : List Value) (n : Nat), Vals xs its ∧ h.get? a = some { cls := .type "list", data := .seq its.toArray n }
  | .tup xs => xs.length ≤ sizeLine ∧ ∃ its : List Value, Vals xs its ∧ IsTup h a its.toArray
  | .dK kvs => kvs.length ≤ sizeLine ∧ (a == sysModules) = false ∧ ∃ vs, KV kvs vs ∧ h.DictOf (mixKind P w) a vs
  | .dT kvs => kvs.length ≤ sizeLine ∧ (a == sysModules) = false ∧ ∃ xs : List (List Key × Addr × Value),
      Paired (fun (p : List Key × V) (q : List Key × Addr × Value) => p.1 = q.1 ∧ H q.2.1 = some (.tup (p.1.map kV)) ∧ RelV p.2 q.2.2) kvs xs ∧
      ∃ o es ep, h.get? a = some o ∧ o.ExactDict ∧ o.data = .dict es ep ∧ es.toList = xs.map (entryOfKey (tupleKind (mixKind P w))) ∧ (xs.map (·.1)).Nodup
  | .set S n => h.SetOf (intKind P w) a S n
  | .ins C dx fs => H dx = some (.own a) ∧ fs.length ≤ 1000 ∧ dx ≠ a ∧ h.get? a = some (PySem.W.instObj C dx) ∧
      ∃ mA, h.Ns1 dx mA ∧ (∀ f, RelO (fs.lookup f) (mA f)) ∧ PySem.Within mA (fs.map (·.1))
  | .own _ => ∃ o, h.get? a = some o
  | .xd fs => ∃ mA, h.Ns1 a mA ∧ ∀ f, RelO (fs.lookup f) (mA f)
  | .rng lo hi => ∃ t u v, h.get? a = some { cls := .type "range", data := .fields #[.int lo t, .int hi u, .int 1 v] }
  | .frz o u => h.get? a = some o ∧ ObjOk H h a u
  | .tbl ps => h.get? a = some { cls := .none, data := .fields ps }
  | .met f x => h.get? a = some (PySem.W.methodObj (.ref f) (.ref x))
  | .ext φ => φ h ∧ (∃ o, h.get? a = some o) ∧ ∀ h1 h2 : Heap, φ h1 → (∀ o, h1.get? a = some o → h2.get? a = some o) → φ h2
/-- the abstract heap is held -/
def HOk (H : Hp) (h : Heap) : Prop := ∀ a o, H a = some o → ObjOk P w H h a o
end

section
variable {P : Program} {w : World} {H H' : Hp} {h h' : Heap} {a : Addr} {o : HO}
theorem ObjOk.lt (x : ObjOk P w H h a o) : a < h.objs.size := by
  cases o with
  | lst xs => obtain ⟨_, _, _, _, e⟩ := x; exact Heap.lt_size e
  | tup xs => obtain ⟨_, _, _, p⟩ := x; exact p.lt
  | dK kvs => obtain ⟨_, _, _, _, o, _, _, e, _⟩ := x; exact Heap.lt_size e
  | dT kvs => obtain ⟨_, _, _, _, o, _, _, e, _⟩ := x; exact Heap.lt_size e
  | set S n => obtain ⟨o, _, _, _, e, _⟩ := x; exact Heap.lt_size e
  | ins C dx fs => obtain ⟨_, _, _, e, _⟩ := x; exact Heap.lt_size e
  | own y => obtain ⟨_, e⟩ := x; exact Heap.lt_size e
  | xd fs => obtain ⟨_, ⟨_, _, _, e, _⟩, _⟩ := x; exact Heap.lt_size e
  | rng lo hi => obtain ⟨_, _, _, e⟩ := x; exact Heap.lt_size e
  | frz ob u => obtain ⟨e, _⟩ := x; exact Heap.lt_size e
  | tbl ps => exact Heap.lt_size (show h.get? a = some _ from x)
  | met f y => exact Heap.lt_size (show h.get? a = some _ from x)
  | ext φ => obtain ⟨_, ⟨_, e⟩, _⟩ := x; exact Heap.lt_size e
theorem Paired.mapP {α β : Type} {F G : α → β → Prop} : ∀ {l₁ : List α} {l₂ : List β}, Paired F l₁ l₂ → (∀ a b, F a b → G a b) → Paired G l₁ l₂
  | _, _, .nil, _ => .nil
  | _, _, .cons r t, f => .cons (f _ _ r) (Paired.mapP t f)
/-- what an object's description leans on: its own object, its own dict, the tuples -/
theorem ObjOk.stay (x : ObjOk P w H h a o) (k : ∀ b u, (b = a ∨ H b = some (.own a)) → h.get? b = some u → h'.get? b = some u)
    (ho : ∀ b, H b = some (.own a) → H' b = some (.own a)) (ht : ∀ b xs, H b = some (.tup xs) → H' b = some (.tup xs)) : ObjOk P w H' h' a o := by
  induction o with
  | lst xs => obtain ⟨z, its, n, r, e⟩ := x; exact ⟨z, its, n, r, k _ _ (.inl rfl) e⟩
  | tup xs => obtain ⟨z, its, r, ob, e, c⟩ := x; exact ⟨z, its, r, ob, k _ _ (.inl rfl) e, c⟩
  | dK kvs => obtain ⟨z, y, vs, r, ob, es, ep, e, c⟩ := x; exact ⟨z, y, vs, r, ob, es, ep, k _ _ (.inl rfl) e, c⟩
  | dT kvs =>
    obtain ⟨z, y, xs, r, ob, es, ep, e, c⟩ := x
    exact ⟨z, y, xs, Paired.mapP r fun p q z => ⟨z.1, ht _ _ z.2.1, z.2.2⟩, ob, es, ep, k _ _ (.inl rfl) e, c⟩
  | set S n => obtain ⟨ob, es, ep, t, e, c⟩ := x; exact ⟨ob, es, ep, t, k _ _ (.inl rfl) e, c⟩
  | ins C dx fs =>
    obtain ⟨d, z, ne, e, mA, ⟨od, es, ep, e2, c⟩, r⟩ := x
    exact ⟨ho _ d, z, ne, k _ _ (.inl rfl) e, mA, ⟨od, es, ep, k _ _ (.inr d) e2, c⟩, r⟩
  | own y => obtain ⟨ob, e⟩ := x; exact ⟨ob, k _ _ (.inl rfl) e⟩
  | xd fs => obtain ⟨mA, ⟨od, es, ep, e, c⟩, r⟩ := x; exact ⟨mA, ⟨od, es, ep, k _ _ (.inl rfl) e, c⟩, r⟩
  | rng lo hi => obtain ⟨t, u, v, e⟩ := x; exact ⟨t, u, v, k _ _ (.inl rfl) e⟩
  | frz ob u ih => obtain ⟨e, q⟩ := x; exact ⟨k _ _ (.inl rfl) e, ih q⟩
  | tbl ps =>
    have e : h.get? a = some { cls := .none, data := .fields ps } := x
    show h'.get? a = some { cls := .none, data := .fields ps }
    exact k a _ (.inl rfl) e
  | met f y =>
    have e : h.get? a = some (PySem.W.methodObj (.ref f) (.ref y)) := x
    show h'.get? a = some (PySem.W.methodObj (.ref f) (.ref y))
    exact k a _ (.inl rfl) e
  | ext φ => obtain ⟨p, ⟨o, e⟩, st⟩ := x; exact ⟨st _ _ p fun o q => k _ _ (.inl rfl) q, ⟨o, k _ _ (.inl rfl) e⟩, st⟩
theorem HOk.lt (x : HOk P w H h) (e : H a = some o) : a < h.objs.size := (x a o e).lt
theorem HOk.fresh (x : HOk P w H h) (e : h.objs.size ≤ a) : H a = none := by
  cases q : H a with
  | none => rfl
  | some u => exact absurd (Nat.lt_of_lt_of_le (x.lt q) e) (Nat.lt_irrefl _)
/-- every object of the heap is kept -/
theorem HOk.kept (x : HOk P w H h) (k : ∀ b u, h.get? b = some u → h'.get? b = some u) : HOk P w H h' := fun a o e =>
  (x a o e).stay (fun b u _ q => k b u q) (fun _ q => q) fun _ _ q => q
/-- a new object is laid and tracked -/
theorem HOk.laid (x : HOk P w H h) (k : ∀ b u, h.get? b = some u → h'.get? b = some u) (hp : h.objs.size ≤ a) (new : ObjOk P w (upd H a o) h' a o) : HOk P w (upd H a o) h' := fun b u e => by
  have hn := x.fresh hp
  by_cases hb : b = a
  · subst hb; rw [upd_same] at e; cases e; exact new
  · rw [upd_ne hb] at e
    exact (x b u e).stay (fun c v _ q => k c v q) (fun c q => by rw [upd_ne (ne_of_none q hn)]; exact q) fun c xs q => by rw [upd_ne (ne_of_none q hn)]; exact q
end

/-- what may be read as u: it is u, or a known u -/
def Rd (H : Hp) (a : Addr) (u : HO) : Prop := H a = some u ∨ ∃ o, H a = some (.frz o u)
theorem Rd.of {H : Hp} {a : Addr} {u : HO} (h : H a = some u) : Rd H a u := .inl h
theorem Rd.ok {P : Program} {w : World} {H : Hp} {h : Heap} {a : Addr} {u : HO} (r : Rd H a u) (x : HOk P w H h) : ObjOk P w H h a u := by
  rcases r with r | ⟨o, r⟩
  · exact x a u r
  · obtain ⟨_, q⟩ := x a _ r
    exact q
/-- what may be written -/
def Mut : Option HO → Prop
  | some (.lst _) => True
  | some (.dK _) => True
  | some (.dT _) => True
  | some (.set _ _) => True
  | some (.ins _ _ _) => True
  | some (.ext _) => True
  | _ => False
section
variable {P : Program} {w : World} {H : Hp} {h h' : Heap} {x e : Addr} {o' : HO}
/-- the object at e is changed: x itself, or the dict of the instance x -/
theorem HOk.write (ok : HOk P w H h) (mu : Mut (H x)) (he : e = x ∨ H e = some (.own x)) (k : ∀ b u, b ≠ e → h.get? b = some u → h'.get? b = some u) (heo : ∃ u, h'.get? e = some u)
    (new : ObjOk P w (upd H x o') h' x o') : HOk P w (upd H x o') h' := fun b u q => by
  have nown : ∀ c y, H c = some (.own y) → c ≠ x := fun c y r z => by subst z; rw [r] at mu; exact mu
  have ntup : ∀ c xs, H c = some (.tup xs) → c ≠ x := fun c xs r z => by subst z; rw [r] at mu; exact mu
  by_cases hb : b = x
  · subst hb; rw [upd_same] at q; cases q; exact new
  · rw [upd_ne hb] at q
    by_cases hbe : b = e
    · have q' : H b = some (.own x) := by
        rcases he with z | z
        · exact absurd (hbe.trans z) hb
        · rw [hbe]; exact z
      rw [q] at q'; cases q'
      obtain ⟨v, hv⟩ := heo
      exact ⟨v, by rw [hbe]; exact hv⟩
    · refine (ok b u q).stay (fun c v hc r => k c v ?_ r) (fun c r => by rw [upd_ne (nown c b r)]; exact r) fun c xs r => by rw [upd_ne (ntup c xs r)]; exact r
      rcases hc with rfl | hc
      · exact hbe
      · rintro rfl
        rcases he with z | z
        · exact nown c b hc z
        · rw [hc] at z; cases z; exact hb rfl
end

/-! ### kept unless tracked; of the frames at fs (the callers') the slots may change (an exception that passes writes there); of the records at ex (iterators) nothing is said -/
structure Un (fs ex : List Addr) (H H' : Hp) (h h' : Heap) : Prop where
  keep : ∀ b o, h.get? b = some o → H b = none → b ∉ fs → b ∉ ex → h'.get? b = some o
  slot : ∀ b o, h.get? b = some o → H b = none → b ∈ fs → b ∉ ex → ∃ sl, h'.get? b = some { o with slots := sl }
  free : ∀ b o, h.get? b = some o → H b = none → b ∉ ex → H' b = none
  there : ∀ b o, h.get? b = some o → b ∉ ex → ∃ o', h'.get? b = some o'
  tups : ∀ b xs, H b = some (.tup xs) → H' b = some (.tup xs)
  frzs : ∀ b o u, H b = some (.frz o u) → H' b = some (.frz o u)
  tbls : ∀ b ps, H b = some (.tbl ps) → ∃ more, H' b = some (.tbl (ps ++ more))
section
variable {fs fs' ex ex' : List Addr} {H H1 H2 : Hp} {h h1 h2 h' : Heap} {a x e : Addr} {o : HO}
theorem Un.any (u : Un fs ex H H1 h h1) {b : Addr} {ob : Obj} (q : h.get? b = some ob) (n : H b = none) (hx : b ∉ ex) : ∃ sl, h1.get? b = some { ob with slots := sl } := by
  by_cases hb : b ∈ fs
  · exact u.slot b ob q n hb hx
  · exact ⟨ob.slots, u.keep b ob q n hb hx⟩
theorem Un.trans (a : Un fs ex H H1 h h1) (b : Un fs ex H1 H2 h1 h2) : Un fs ex H H2 h h2 where
  keep := fun c ob q n hc hx => b.keep c ob (a.keep c ob q n hc hx) (a.free c ob q n hx) hc hx
  slot := fun c ob q n hc hx => by
    obtain ⟨sl, e1⟩ := a.slot c ob q n hc hx
    obtain ⟨sl', e2⟩ := b.slot c _ e1 (a.free c ob q n hx) hc hx
    exact ⟨sl', e2⟩
  free := fun c ob q n hx => by
    obtain ⟨o', e1⟩ := a.there c ob q hx
    exact b.free c o' e1 (a.free c ob q n hx) hx
  there := fun c ob q hx => by
    obtain ⟨o', e1⟩ := a.there c ob q hx
    exact b.there c o' e1 hx
  tups := fun c xs q => b.tups c xs (a.tups c xs q)
  frzs := fun c ob xs q => b.frzs c ob xs (a.frzs c ob xs q)
  tbls := fun c ps q => by
    obtain ⟨m1, e1⟩ := a.tbls c ps q
    obtain ⟨m2, e2⟩ := b.tbls c _ e1
    exact ⟨m1 ++ m2, by rw [e2, Array.append_assoc]⟩
theorem Un.kept (k : ∀ b u, h.get? b = some u → h'.get? b = some u) : Un fs ex H H h h' :=
  ⟨fun b ob q _ _ _ => k b ob q, fun b ob q _ _ _ => ⟨ob.slots, k b ob q⟩, fun _ _ _ n _ => n, fun b ob q _ => ⟨ob, k b ob q⟩, fun _ _ q => q, fun _ _ _ q => q, fun _ ps q => ⟨#[], by rw [q]; simp⟩⟩
theorem Un.refl : Un fs ex H H h h := Un.kept fun _ _ q => q
theorem Un.laid (k : ∀ b u, h.get? b = some u → h'.get? b = some u) (hp : h.objs.size ≤ a) (hn : H a = none) : Un fs ex H (upd H a o) h h' where
  keep := fun b u q _ _ _ => k b u q
  slot := fun b u q _ _ _ => ⟨u.slots, k b u q⟩
  free := fun b u q n _ => by rw [upd_ne (Nat.ne_of_lt (Nat.lt_of_lt_of_le (Heap.lt_size q) hp))]; exact n
  there := fun b u q _ => ⟨u, k b u q⟩
  tups := fun b xs q => by rw [upd_ne (ne_of_none q hn)]; exact q
  frzs := fun b u xs q => by rw [upd_ne (ne_of_none q hn)]; exact q
  tbls := fun b ps q => ⟨#[], by rw [upd_ne (ne_of_none q hn), q]; simp⟩
theorem Un.write (mu : Mut (H x)) (he : e = x ∨ H e = some (.own x)) (k : ∀ b u, b ≠ e → h.get? b = some u → h'.get? b = some u) (heo : ∃ u, h'.get? e = some u) : Un fs ex H (upd H x o) h h' := by
  have hx : ∀ b, H b = none → b ≠ x := fun b n z => by subst z; rw [n] at mu; exact mu
  have hb : ∀ b, H b = none → b ≠ e := fun b n z => by
    subst z
    rcases he with r | r
    · exact hx b n r
    · rw [n] at r; cases r
  have hm : ∀ b u, H b = some u → ¬ Mut (some u) → b ≠ x := fun b u q nm z => by subst z; rw [q] at mu; exact nm mu
  refine ⟨fun b u q n _ _ => k b u (hb b n) q, fun b u q n _ _ => ⟨u.slots, k b u (hb b n) q⟩, fun b u q n _ => by rw [upd_ne (hx b n)]; exact n, fun b u q _ => ?_,
    fun b xs q => by rw [upd_ne (hm b _ q fun z => z)]; exact q, fun b u xs q => by rw [upd_ne (hm b _ q fun z => z)]; exact q, fun b ps q => ⟨#[], by rw [upd_ne (hm b _ q fun z => z), q]; simp⟩⟩
  by_cases hbe : b = e
  · subst hbe; exact heo
  · exact ⟨u, k b u hbe q⟩
theorem Un.mono (u : Un fs ex H H1 h h1) (hs : ∀ b ∈ fs, b ∈ fs') (hx : ∀ b ∈ ex, b ∈ ex') : Un fs' ex' H H1 h h1 :=
  ⟨fun b ob q n hb he => u.keep b ob q n (fun z => hb (hs b z)) fun z => he (hx b z), fun _ _ q n _ he => u.any q n fun z => he (hx _ z), fun b ob q n he => u.free b ob q n fun z => he (hx b z), fun b ob q he => u.there b ob q fun z => he (hx b z), u.tups, u.frzs, u.tbls⟩
end

/-! ### the heap without what is tracked -/
def trk (h : Heap) (H : Hp) : List Addr := (List.range h.objs.size).filter fun a => (H a).isSome
def hidT (h : Heap) (H : Hp) : Heap := PySem.W.hideAll h (trk h H)
theorem hidT_size (h : Heap) (H : Hp) : (hidT h H).objs.size = h.objs.size := PySem.W.hideAll_size _ _
theorem hidT_get {h : Heap} {H : Hp} {b : Addr} {o : Obj} (e : h.get? b = some o) (n : H b = none) : (hidT h H).get? b = some o :=
  PySem.W.hideAll_get _ e fun hm => by
    have q : (H b).isSome = true := (List.mem_filter.mp hm).2
    rw [n] at q; simp at q
theorem of_hidT {h : Heap} {H : Hp} {b : Addr} {o : Obj} (e : (hidT h H).get? b = some o) : h.get? b = some o ∧ H b = none := by
  have e' : h.get? b = some o := PySem.W.of_hideAll (trk h H) e
  refine ⟨e', ?_⟩
  cases q : H b with
  | none => rfl
  | some x =>
    have hm : b ∈ trk h H := List.mem_filter.mpr ⟨List.mem_range.mpr (Heap.lt_size e'), by simp [q]⟩
    have z : (hidT h H).get? b = none := PySem.W.hideAll_none (trk h H) hm
    rw [z] at e; cases e

/-! ### OpenK's ledger, filled with every new object but one -/
def allNews (g h : Heap) (L : Addr) : List (Addr × Obj) := (List.range h.objs.size).filterMap fun a => if a = L ∨ (g.get? a).isSome = true then none else (h.get? a).map fun o => (a, o)
def rest (g h : Heap) (L d : Addr) : List (Addr × Obj) := (allNews g h L).filter fun p => decide (p.1 ≠ d)
end L2

namespace L2
open PySem PySem.Spec PyProof.Rows

/-- the module's facts, over the base: the heap at the law's entry without what is tracked there -/
structure Mod (K : PySem.W.Frag) (mg : Str → Option Value) (base : Heap) : Prop where
  kin : K.In base
  glob : base.Ns mainGlobals mg
  blt : ∃ mb, base.Ns builtinsNs mb ∧ ∀ x : Str, x ≠ "__name__" → mb x = bootBuiltins x
  nolimit : base.NoLimit

/-- the context: a def's body (or a comprehension's block) running. base: fixed through the whole law; s₀, H₀: the entry; outer: the frames whose slots others may change (a def's callers); stack: all frames that run;
   ex: iterators that were made ahead of the entry and are walked here (a comprehension's); fn: the names whose cells were made at the entry (a def: all; a comprehension's block: its own); calm: not within an except suite; pn: pins that every state bears; xe: what is wanted of an exception that leaves the code -/
structure Cx where
  prog : Program
  w : World
  K : PySem.W.Frag
  mg : Str → Option Value
  base : Heap
  A : Around
  N : List Str
  s₀ : Shared
  H₀ : Hp
  env : Env
  outer : List Env
  stack : List Env
  ex : List Addr
  fn : Str → Bool
  calm : Bool
  pn : List (Addr × Obj)
  xe : Value → Shared → Prop
/-- the callers' frames -/
def frs (l : List Env) : List Addr := l.filterMap (·.frame)
abbrev Cx.fs (X : Cx) : List Addr := frs X.outer

def Vis (sc : Scope) (x : Str) : Prop := sc.names.lookup x = some .local ∨ sc.names.lookup x = some .cell ∨ sc.names.lookup x = some .free
def Loc (sc : Scope) (x : Str) : Prop := sc.names.lookup x = some .local ∨ sc.names.lookup x = some .cell
def Look (env : Env) (h : Heap) (m : Str → Option Value) (x : Str) (u : Value) : Prop :=
  (env.kindOf x = some .local ∧ m x = some u) ∨ ((env.kindOf x = some .cell ∨ env.kindOf x = some .free) ∧ ∃ c, env.cells.lookup x = some c ∧ h.IsCell c (some u))

structure Cx.Ok (X : Cx) : Prop where
  mod : Mod X.K X.mg X.base
  kind : X.env.scope.kind = .function
  glob : X.env.globals = mainGlobals
  blt : X.env.builtins = builtinsNs
  above : X.s₀.heap.objs.size ≤ X.env.locals
  inj : ∀ x y c, X.env.cells.lookup x = some c → X.env.cells.lookup y = some c → x = y
  has : ∀ x, (X.env.kindOf x = some .cell ∨ X.env.kindOf x = some .free) → ∃ c, X.env.cells.lookup x = some c
  cab : ∀ x c, X.fn x = true → X.env.cells.lookup x = some c → X.s₀.heap.objs.size ≤ c
  hd : X.calm = true → X.A.handled = none
  frames : X.A.frames = some X.stack
  stk : X.stack = X.outer ∨ (X.stack = X.env :: X.outer ∧ X.env.frame = some X.env.locals)
  exf : ∀ b ∈ X.ex, b ≠ X.env.locals ∧ ∀ x c, X.env.cells.lookup x = some c → c ≠ b
  bs : ∀ b o, X.base.get? b = some o → X.s₀.heap.get? b = some o ∧ X.H₀ b = none
  bsz : X.base.objs.size ≤ X.s₀.heap.objs.size
  noex : ∀ b o, X.base.get? b = some o → b ∉ X.ex
  exfs : ∀ b ∈ X.ex, b ∉ X.fs
  funs : X.s₀.heap.FunFrames X.base X.outer
  frf : ∀ b ∈ X.fs, X.H₀ b = none

structure Inv (X : Cx) (pins : List (Addr × Obj)) (σ : List (Option V)) (H : Hp) (s : Shared) : Prop where
  ok : X.Ok
  os : s.os = X.s₀.os
  bare : AllBare s.gens
  base : Un X.fs X.ex X.H₀ H X.s₀.heap s.heap
  loc : ∃ m, s.heap.Ns X.env.locals m ∧ ∀ (i : Nat) (x : Str) (v : V), X.N[i]? = some x → σ[i]? = some (some v) → Vis X.env.scope x → ∃ u, RelV v u ∧ Look X.env s.heap m x u
  cell : ∀ x c, X.env.cells.lookup x = some c → ∃ v, s.heap.IsCell c v
  free : H X.env.locals = none
  freeC : ∀ x c, X.env.cells.lookup x = some c → H c = none
  pin : ∀ p ∈ X.pn ++ pins, s.heap.get? p.1 = some p.2 ∧ H p.1 = none ∧ p.1 ≠ X.env.locals ∧ p.1 ∉ X.fs ∧ ∀ v, p.2.data ≠ .cell v
  hok : HOk X.prog X.w H s.heap
  len : σ.length = X.N.length

section
variable {X : Cx} {pins : List (Addr × Obj)} {σ : List (Option V)} {H H' : Hp} {s : Shared} {h' : Heap}

theorem Cx.Ok.nofr (ok : X.Ok) {b : Addr} {o : Obj} (e : X.base.get? b = some o) : b ∉ X.fs := fun hb => by
  have := (ok.funs.mem hb).1
  rw [e] at this; cases this
theorem Inv.bs (I : Inv X pins σ H s) : ∀ b o, X.base.get? b = some o → s.heap.get? b = some o ∧ H b = none := fun b o e =>
  ⟨I.base.keep b o (I.ok.bs b o e).1 (I.ok.bs b o e).2 (I.ok.nofr e) (I.ok.noex b o e), I.base.free b o (I.ok.bs b o e).1 (I.ok.bs b o e).2 (I.ok.noex b o e)⟩
theorem Inv.bk (I : Inv X pins σ H s) : ∀ b o, X.base.get? b = some o → s.heap.get? b = some o := fun b o e => (I.bs b o e).1
theorem Inv.mod (I : Inv X pins σ H s) : Mod X.K X.mg X.base := I.ok.mod
theorem Inv.kIn (I : Inv X pins σ H s) : X.K.In s.heap := I.ok.mod.kin.keeps I.bk
theorem Inv.nolimit (I : Inv X pins σ H s) : s.heap.NoLimit := I.ok.mod.nolimit.keeps I.bk
/-- the frame over the base: for OpenK's rules (K.In X.base is I.mod.kin) -/
theorem Inv.fr (I : Inv X pins σ H s) : ∃ m, Fr X.base X.env.locals s.heap m :=
  let ⟨m, hn, _⟩ := I.loc
  ⟨m, hn, I.bk, Nat.le_trans I.ok.bsz I.ok.above⟩
theorem Inv.lt (I : Inv X pins σ H s) : X.env.locals < s.heap.objs.size := let ⟨_, hn, _⟩ := I.loc; hn.lt
theorem Inv.sz (I : Inv X pins σ H s) : X.s₀.heap.objs.size ≤ s.heap.objs.size := Nat.le_trans I.ok.above (Nat.le_of_lt I.lt)
theorem Inv.nofs (I : Inv X pins σ H s) {a : Addr} (h : s.heap.objs.size ≤ a) : a ∉ X.fs := fun hb => by
  obtain ⟨_, o, ho, _⟩ := I.ok.funs.mem hb
  exact absurd (Nat.lt_of_lt_of_le (Heap.lt_size ho) (Nat.le_trans I.sz h)) (Nat.lt_irrefl _)
theorem Inv.cne (I : Inv X pins σ H s) : ∀ x c, X.env.cells.lookup x = some c → c ≠ X.env.locals := fun x c e z => by
  obtain ⟨v, o, ho, hd⟩ := I.cell x c e
  obtain ⟨m, ⟨o', es, ep, ho', hd', _⟩, _⟩ := I.loc
  rw [z, ho'] at ho; cases ho; rw [hd'] at hd; cases hd
theorem Inv.funs (I : Inv X pins σ H s) : s.heap.FunFrames X.base X.outer := by
  have all : ∀ (l : List Env), (∀ b ∈ frs l, b ∈ X.fs) → X.s₀.heap.FunFrames X.base l → s.heap.FunFrames X.base l := by
    intro l
    induction l with
    | nil => intro _ _; trivial
    | cons env r ih =>
      intro hs hl
      obtain ⟨hk, ⟨L, o, hf, hn, ho, hd⟩, hr⟩ := hl
      have hL : L ∈ X.fs := hs L (by unfold frs; rw [List.filterMap_cons, hf]; exact List.mem_cons_self)
      obtain ⟨sl, e⟩ := I.base.slot L o ho (I.ok.frf L hL) hL fun z => I.ok.exfs L z hL
      exact ⟨hk, ⟨L, _, hf, hn, e, hd⟩, ih (fun b hb => hs b (by unfold frs; rw [List.filterMap_cons, hf]; exact List.mem_cons_of_mem _ hb)) hr⟩
  exact all X.outer (fun _ hb => hb) I.ok.funs

/-- the frames that run, for a call -/
theorem Inv.stack (I : Inv X pins σ H s) : s.heap.FunFrames X.base X.stack := by
  rcases I.ok.stk with e | ⟨e, hf⟩
  · rw [e]; exact I.funs
  · rw [e]
    obtain ⟨m, hn, _⟩ := I.loc
    refine .cons (by rw [I.ok.kind]; decide) hf hn ?_ I.funs
    exact Heap.get?_none_of_le (Nat.le_trans I.ok.bsz I.ok.above)
theorem Inv.stkSub (I : Inv X pins σ H s) : ∀ b ∈ frs X.stack, b ∈ X.env.locals :: X.fs := fun b hb => by
  rcases I.ok.stk with e | ⟨e, hf⟩
  · rw [e] at hb; exact List.mem_cons_of_mem _ hb
  · rw [e] at hb
    unfold frs at hb
    rw [List.filterMap_cons, hf] at hb
    exact hb
theorem Inv.stkFree (I : Inv X pins σ H s) : ∀ b ∈ frs X.stack, H b = none := fun b hb => by
  rcases List.mem_cons.mp (I.stkSub b hb) with e | hb
  · rw [e]; exact I.free
  · obtain ⟨_, o, ho, _⟩ := I.ok.funs.mem hb
    exact I.base.free b o ho (I.ok.frf b hb) fun z => I.ok.exfs b z hb

/-- THE STEP: the untracked objects but the frame and the records at ch are kept (the callers' frames up to slots), the frame's map is kept, the new abstract heap is held -/
theorem Inv.step {g' : Array GenState} {t' : Nat} {d' : Drawn} {ch : List Addr} (I : Inv X pins σ H s)
    (hch : ∀ b ∈ ch, (b ∈ X.ex ∨ X.s₀.heap.objs.size ≤ b) ∧ b ≠ X.env.locals ∧ (∀ x c, X.env.cells.lookup x = some c → c ≠ b) ∧ ∀ p ∈ X.pn ++ pins, p.1 ≠ b)
    (keep : ∀ b o, b ≠ X.env.locals → b ∉ X.fs → b ∉ ch → s.heap.get? b = some o → H b = none → h'.get? b = some o)
    (slot : ∀ b o, b ≠ X.env.locals → b ∈ X.fs → b ∉ ch → s.heap.get? b = some o → H b = none → ∃ sl, h'.get? b = some { o with slots := sl }) (free : ∀ b o, b ∉ ch → s.heap.get? b = some o → H b = none → H' b = none)
    (there : ∀ b o, b ∉ ch → s.heap.get? b = some o → ∃ o', h'.get? b = some o')
    (tups : ∀ b xs, H b = some (.tup xs) → H' b = some (.tup xs)) (frzs : ∀ b o u, H b = some (.frz o u) → H' b = some (.frz o u)) (tbls : ∀ b ps, H b = some (.tbl ps) → ∃ more, H' b = some (.tbl (ps ++ more)))
    (ns : ∀ m, s.heap.Ns X.env.locals m → h'.Ns X.env.locals m) (hok : HOk X.prog X.w H' h') (hg : AllBare g') :
    Inv X pins σ H' { s with heap := h', gens := g', drawn := d', toks := t' } := by
  have neL : ∀ b o, X.s₀.heap.get? b = some o → b ≠ X.env.locals := fun b o e => Nat.ne_of_lt (Nat.lt_of_lt_of_le (Heap.lt_size e) I.ok.above)
  have neC : ∀ b o, X.s₀.heap.get? b = some o → b ∉ X.ex → b ∉ ch := fun b o e hx hb => by
    rcases (hch b hb).1 with z | z
    · exact hx z
    · exact absurd (Nat.lt_of_lt_of_le (Heap.lt_size e) z) (Nat.lt_irrefl _)
  have cellK : ∀ x c, X.env.cells.lookup x = some c → ∀ v, s.heap.IsCell c v → h'.IsCell c v := fun x c e v ⟨o, ho, hd⟩ => by
    have nch : c ∉ ch := fun z => (hch c z).2.2.1 x c e rfl
    by_cases hc : c ∈ X.fs
    · obtain ⟨sl, q⟩ := slot c o (I.cne x c e) hc nch ho (I.freeC x c e)
      exact ⟨_, q, hd⟩
    · exact ⟨o, keep c o (I.cne x c e) hc nch ho (I.freeC x c e), hd⟩
  refine ⟨I.ok, I.os, hg, ⟨fun b o e n hb hx => ?_, fun b o e n hb hx => ?_, fun b o e n hx => ?_, fun b o e hx => ?_, fun b xs e => tups b xs (I.base.tups b xs e), fun b o xs e => frzs b o xs (I.base.frzs b o xs e), fun b ps e => ?_⟩, ?_, fun x c e => ?_, ?_, fun x c e => ?_, fun p hp => ?_, hok, I.len⟩
  · exact keep b o (neL b o e) hb (neC b o e hx) (I.base.keep b o e n hb hx) (I.base.free b o e n hx)
  · obtain ⟨sl, e1⟩ := I.base.slot b o e n hb hx
    obtain ⟨sl', e2⟩ := slot b _ (neL b o e) hb (neC b o e hx) e1 (I.base.free b o e n hx)
    exact ⟨sl', e2⟩
  · obtain ⟨o', e1⟩ := I.base.there b o e hx
    exact free b o' (neC b o e hx) e1 (I.base.free b o e n hx)
  · obtain ⟨o', e1⟩ := I.base.there b o e hx
    exact there b o' (neC b o e hx) e1
  · obtain ⟨m1, e1⟩ := I.base.tbls b ps e
    obtain ⟨m2, e2⟩ := tbls b _ e1
    exact ⟨m1 ++ m2, by rw [e2, Array.append_assoc]⟩
  · obtain ⟨m, hn, hl⟩ := I.loc
    refine ⟨m, ns m hn, fun i x v e1 e2 e3 => ?_⟩
    obtain ⟨u, r, l⟩ := hl i x v e1 e2 e3
    refine ⟨u, r, ?_⟩
    rcases l with l | ⟨k, c, e, z⟩
    · exact .inl l
    · exact .inr ⟨k, c, e, cellK x c e _ z⟩
  · obtain ⟨v, z⟩ := I.cell x c e
    exact ⟨v, cellK x c e v z⟩
  · obtain ⟨m, ⟨o, _, _, ho, _⟩, _⟩ := I.loc
    exact free _ o (fun z => (hch _ z).2.1 rfl) ho I.free
  · obtain ⟨v, o, ho, hd⟩ := I.cell x c e
    exact free c o (fun z => (hch c z).2.2.1 x c e rfl) ho (I.freeC x c e)
  · obtain ⟨e, n, ne, nf, d⟩ := I.pin p hp
    have nch : p.1 ∉ ch := fun z => (hch p.1 z).2.2.2 p hp rfl
    exact ⟨keep p.1 p.2 ne nf nch e n, free p.1 p.2 nch e n, ne, nf, d⟩
/-- .. where the frame's own object is kept too -/
theorem Inv.un {t' : Nat} (I : Inv X pins σ H s) (u : Un X.fs [] H H' s.heap h') (hok : HOk X.prog X.w H' h') : Inv X pins σ H' { s with heap := h', toks := t' } := by
  obtain ⟨m, ⟨o, es, ep, ho, r⟩, _⟩ := id I.loc
  obtain ⟨sl, hL⟩ := u.any ho I.free (by simp)
  exact I.step (g' := s.gens) (d' := s.drawn) (ch := []) (fun _ z => nomatch z) (fun b o _ hb _ e n => u.keep b o e n hb (by simp)) (fun b o _ hb _ e n => u.slot b o e n hb (by simp)) (fun b o _ e n => u.free b o e n (by simp)) (fun b o _ e => u.there b o e (by simp)) u.tups u.frzs u.tbls (fun m' hm => by
    obtain ⟨o', es', ep', ho', r'⟩ := hm
    rw [ho] at ho'; cases ho'
    exact ⟨_, es', ep', hL, r'⟩) hok I.bare
/-- behind a call (or a comprehension's block): the slots of this frame may have changed too, the records at ch may have turned -/
theorem Inv.call {g' : Array GenState} {t' : Nat} {d' : Drawn} {ch : List Addr} (I : Inv X pins σ H s) (u : Un (frs X.stack) ch H H' s.heap h') (hok : HOk X.prog X.w H' h') (hg : AllBare g')
    (hch : ∀ b ∈ ch, (b ∈ X.ex ∨ X.s₀.heap.objs.size ≤ b) ∧ b ≠ X.env.locals ∧ (∀ x c, X.env.cells.lookup x = some c → c ≠ b) ∧ ∀ p ∈ X.pn ++ pins, p.1 ≠ b) :
    Inv X pins σ H' { s with heap := h', gens := g', drawn := d', toks := t' } := by
  obtain ⟨m, ⟨o, es, ep, ho, r⟩, _⟩ := id I.loc
  obtain ⟨sl, hL⟩ := u.any ho I.free fun z => (hch _ z).2.1 rfl
  exact I.step (ch := ch) hch (fun b o hL hb hc e n => u.keep b o e n (fun z => (List.mem_cons.mp (I.stkSub b z)).elim hL hb) hc) (fun b o _ _ hc e n => u.any e n hc) (fun b o hc e n => u.free b o e n hc) (fun b o hc e => u.there b o e hc) u.tups u.frzs u.tbls (fun m' hm => by
    obtain ⟨o', es', ep', ho', r'⟩ := hm
    rw [ho] at ho'; cases ho'
    exact ⟨_, es', ep', hL, r'⟩) hok hg
/-- an untracked record of ours (an iterator) has turned -/
theorem Inv.turned {t' : Nat} {it : Addr} (I : Inv X pins σ H s) (k : ∀ b o, b ≠ it → s.heap.get? b = some o → h'.get? b = some o) (hn : H it = none) (hL : it ≠ X.env.locals)
    (h1 : it ∈ X.ex ∨ X.s₀.heap.objs.size ≤ it) (h2 : ∀ x c, X.env.cells.lookup x = some c → c ≠ it) (h3 : ∀ p ∈ X.pn ++ pins, p.1 ≠ it) : Inv X pins σ H { s with heap := h', toks := t' } := by
  have nit : ∀ b u, H b = some u → b ≠ it := fun b u e z => by rw [z, hn] at e; cases e
  refine I.step (g' := s.gens) (d' := s.drawn) (ch := [it]) (fun b hb => ?_) (fun b o _ _ hc e _ => k b o (fun z => hc (by simp [z])) e) (fun b o _ _ hc e _ => ⟨o.slots, k b o (fun z => hc (by simp [z])) e⟩) (fun _ _ _ _ n => n)
    (fun b o hc e => ⟨o, k b o (fun z => hc (by simp [z])) e⟩) (fun _ _ e => e) (fun _ _ _ e => e) (fun b ps e => ⟨#[], by rw [e]; simp⟩) (fun m hm => ?_) (fun b u e => ?_) I.bare
  · have e : b = it := by simpa using hb
    subst e
    exact ⟨h1, hL, h2, h3⟩
  · obtain ⟨o, es, ep, ho, r⟩ := hm
    exact ⟨o, es, ep, k _ o (Ne.symm hL) ho, r⟩
  · refine (I.hok b u e).stay (fun c v hc q => k c v ?_ q) (fun _ q => q) fun _ _ q => q
    rcases hc with z | z
    · rw [z]; exact nit b u e
    · exact nit c _ z
theorem Inv.tok (I : Inv X pins σ H s) (t : Nat) : Inv X pins σ H { s with toks := t } := I.un (h' := s.heap) (t' := t) Un.refl I.hok
/-- all objects kept -/
theorem Inv.kept {t' : Nat} (I : Inv X pins σ H s) (k : ∀ b u, s.heap.get? b = some u → h'.get? b = some u) : Inv X pins σ H { s with heap := h', toks := t' } := I.un (Un.kept k) (I.hok.kept k)
/-- a new object laid and tracked -/
theorem Inv.laid {a : Addr} {o : HO} {t' : Nat} (I : Inv X pins σ H s) (k : ∀ b u, s.heap.get? b = some u → h'.get? b = some u) (hp : s.heap.objs.size ≤ a) (new : ObjOk X.prog X.w (upd H a o) h' a o) :
    Inv X pins σ (upd H a o) { s with heap := h', toks := t' } := I.un (Un.laid k hp (I.hok.fresh hp)) (I.hok.laid k hp new)
/-- an object written -/
theorem Inv.write {x e : Addr} {o : HO} {t' : Nat} (I : Inv X pins σ H s) (mu : Mut (H x)) (he : e = x ∨ H e = some (.own x)) (k : ∀ b u, b ≠ e → s.heap.get? b = some u → h'.get? b = some u) (heo : ∃ u, h'.get? e = some u)
    (new : ObjOk X.prog X.w (upd H x o) h' x o) : Inv X pins σ (upd H x o) { s with heap := h', toks := t' } := I.un (Un.write mu he k heo) (I.hok.write mu he k heo new)
theorem Inv.pins_of {pins' : List (Addr × Obj)} (I : Inv X pins σ H s) (h : ∀ p ∈ pins', s.heap.get? p.1 = some p.2 ∧ H p.1 = none ∧ p.1 ≠ X.env.locals ∧ p.1 ∉ X.fs ∧ ∀ v, p.2.data ≠ .cell v) : Inv X pins' σ H s :=
  ⟨I.ok, I.os, I.bare, I.base, I.loc, I.cell, I.free, I.freeC, fun p hp => (List.mem_append.mp hp).elim (fun z => I.pin p (List.mem_append_left _ z)) (h p), I.hok, I.len⟩

theorem nodup_ix {N : List Str} (hN : N.Nodup) {i j : Nat} {x : Str} (a : N[i]? = some x) (b : N[j]? = some x) : i = j := by
  obtain ⟨h1, e1⟩ := List.getElem?_eq_some_iff.mp a
  obtain ⟨h2, e2⟩ := List.getElem?_eq_some_iff.mp b
  exact (List.getElem_inj hN).mp (e1.trans e2.symm)

/-- a name is stored; what changed -/
theorem store_ok2 {M : Model} {A : Around} {E : Value → Shared → Prop} {i : Nat} {x : Str} {v : V} {u : Value} {Q : Unit → Shared → Prop} (I : Inv X pins σ H s) (hN : X.N.Nodup) (hi : X.N[i]? = some x) (hx : Loc X.env.scope x) (r : RelV v u)
    (h : ∀ s', Inv X pins (σ.set i (some v)) H s' → (∃ a, Heap.SameBut a s.heap s'.heap ∧ (a = X.env.locals ∨ X.env.cells.lookup x = some a)) → Q () s') (hf : X.fn x = true ∨ X.env.scope.names.lookup x = some .local := by first | exact .inl rfl | exact .inr rfl | assumption) : wpAny M A (storeName X.env x u) Q E s := by
  obtain ⟨m, hn, hl⟩ := id I.loc
  have hcls : (X.env.scope.kind == .class || (X.env.scope.kind == .module && X.env.locals != X.env.globals)) = false := by rw [I.ok.kind]; rfl
  have hiσ : i < σ.length := by rw [I.len]; exact (List.getElem?_eq_some_iff.mp hi).1
  have cne := I.cne
  have tracked : ∀ {a : Addr} {h' : Heap}, (∃ o, s.heap.get? a = some o ∧ H a = none) → Heap.SameBut a s.heap h' → HOk X.prog X.w H h' := fun {a h'} ha hs b ob e => by
    obtain ⟨_, _, hfree⟩ := ha
    refine (I.hok b ob e).stay (fun c w' hc q => (hs.2 c ?_).trans q) (fun _ q => q) fun _ _ q => q
    rintro rfl
    rcases hc with rfl | hc
    · rw [hfree] at e; cases e
    · rw [hfree] at hc; cases hc
  rcases hx with hk | hk
  · refine wpAny_storeName_local hk hn (fun h' hn' hs => ?_) hcls
    obtain ⟨oL, _, _, hoL, _⟩ := id hn
    refine h _ ⟨I.ok, I.os, I.bare, ⟨fun b o e n hb hx => ?_, fun b o e n hb hx => ?_, I.base.free, fun b o e hx => ?_, I.base.tups, I.base.frzs, I.base.tbls⟩, ⟨_, hn', fun j y v' e1 e2 e3 => ?_⟩, fun y c e => ?_, I.free, I.freeC, fun p hp => ?_, tracked ⟨oL, hoL, I.free⟩ hs, by simpa using I.len⟩ ⟨_, hs, .inl rfl⟩
    · exact (hs.2 b (Nat.ne_of_lt (Nat.lt_of_lt_of_le (Heap.lt_size e) I.ok.above))).trans (I.base.keep b o e n hb hx)
    · obtain ⟨sl, e1⟩ := I.base.slot b o e n hb hx
      exact ⟨sl, (hs.2 b (Nat.ne_of_lt (Nat.lt_of_lt_of_le (Heap.lt_size e) I.ok.above))).trans e1⟩
    · obtain ⟨o', e1⟩ := I.base.there b o e hx
      exact ⟨o', (hs.2 b (Nat.ne_of_lt (Nat.lt_of_lt_of_le (Heap.lt_size e) I.ok.above))).trans e1⟩
    · by_cases hj : j = i
      · subst hj
        rw [hi] at e1; cases e1
        rw [List.getElem?_set_self hiσ] at e2
        cases e2
        exact ⟨u, r, .inl ⟨hk, by simp⟩⟩
      · rw [List.getElem?_set_ne (Ne.symm hj)] at e2
        obtain ⟨u', r', q⟩ := hl j y v' e1 e2 e3
        refine ⟨u', r', ?_⟩
        rcases q with ⟨k, e⟩ | ⟨k, c, e, z⟩
        · refine .inl ⟨k, ?_⟩
          have : y ≠ x := fun e => hj (nodup_ix hN e1 (e ▸ hi))
          simp [this, e]
        · exact .inr ⟨k, c, e, z.sameBut hs (cne y c e)⟩
    · obtain ⟨w', z⟩ := I.cell y c e
      exact ⟨w', z.sameBut hs (cne y c e)⟩
    · obtain ⟨e, n, ne, nf, d⟩ := I.pin p hp
      exact ⟨(hs.2 p.1 ne).trans e, n, ne, nf, d⟩
  · have hfn : X.fn x = true := by
      rcases hf with z | z
      · exact z
      · rw [z] at hk; cases hk
    obtain ⟨c, hc⟩ := I.ok.has x (.inl hk)
    obtain ⟨w', z⟩ := I.cell x c hc
    refine wpAny_storeName_cell I.ok.kind hk hc z (fun h' hc' hs => ?_)
    obtain ⟨oc, hoc, hocd⟩ := id z
    refine h { s with heap := h' } ⟨I.ok, I.os, I.bare, ⟨fun b o e n hb hx => ?_, fun b o e n hb hx => ?_, I.base.free, fun b o e hx => ?_, I.base.tups, I.base.frzs, I.base.tbls⟩, ⟨m, hn.sameBut hs (Ne.symm (cne x c hc)), fun j y v' e1 e2 e3 => ?_⟩, fun y c' e => ?_, I.free, I.freeC, fun p hp => ?_, tracked ⟨oc, hoc, I.freeC x c hc⟩ hs, by simpa using I.len⟩ ⟨c, hs, .inr hc⟩
    · exact (hs.2 b (Nat.ne_of_lt (Nat.lt_of_lt_of_le (Heap.lt_size e) (I.ok.cab x c hfn hc)))).trans (I.base.keep b o e n hb hx)
    · obtain ⟨sl, e1⟩ := I.base.slot b o e n hb hx
      exact ⟨sl, (hs.2 b (Nat.ne_of_lt (Nat.lt_of_lt_of_le (Heap.lt_size e) (I.ok.cab x c hfn hc)))).trans e1⟩
    · obtain ⟨o', e1⟩ := I.base.there b o e hx
      exact ⟨o', (hs.2 b (Nat.ne_of_lt (Nat.lt_of_lt_of_le (Heap.lt_size e) (I.ok.cab x c hfn hc)))).trans e1⟩
    · by_cases hj : j = i
      · subst hj
        rw [hi] at e1; cases e1
        rw [List.getElem?_set_self hiσ] at e2
        cases e2
        exact ⟨u, r, .inr ⟨.inl hk, c, hc, hc'⟩⟩
      · rw [List.getElem?_set_ne (Ne.symm hj)] at e2
        obtain ⟨u', r', q⟩ := hl j y v' e1 e2 e3
        refine ⟨u', r', ?_⟩
        rcases q with q | ⟨k, c', e, z'⟩
        · exact .inl q
        · refine .inr ⟨k, c', e, z'.sameBut hs ?_⟩
          rintro rfl
          exact hj (nodup_ix hN e1 (I.ok.inj _ _ _ e hc ▸ hi))
    · by_cases hcc : c' = c
      · subst hcc; exact ⟨_, hc'⟩
      · obtain ⟨w2, z2⟩ := I.cell y c' e
        exact ⟨w2, z2.sameBut hs hcc⟩
    · obtain ⟨e, n, ne, nf, d⟩ := I.pin p hp
      refine ⟨(hs.2 p.1 ?_).trans e, n, ne, nf, d⟩
      intro q
      rw [q, hoc] at e
      have q' : oc = p.2 := Option.some.inj e
      exact d w' (by rw [← q']; exact hocd)
theorem store_ok {M : Model} {A : Around} {E : Value → Shared → Prop} {i : Nat} {x : Str} {v : V} {u : Value} {Q : Unit → Shared → Prop} (I : Inv X pins σ H s) (hN : X.N.Nodup) (hi : X.N[i]? = some x) (hx : Loc X.env.scope x) (r : RelV v u)
    (h : ∀ s', Inv X pins (σ.set i (some v)) H s' → Q () s') (hf : X.fn x = true ∨ X.env.scope.names.lookup x = some .local := by first | exact .inl rfl | exact .inr rfl | assumption) : wpAny M A (storeName X.env x u) Q E s :=
  store_ok2 I hN hi hx r (fun s' I' _ => h s' I') hf
/-- behind a call or a block, the state as it is -/
theorem Inv.call' {s' : Shared} {ch : List Addr} (I : Inv X pins σ H s) (ho : s'.os = s.os) (u : Un (frs X.stack) ch H H' s.heap s'.heap) (hok : HOk X.prog X.w H' s'.heap) (hg : AllBare s'.gens)
    (hch : ∀ b ∈ ch, (b ∈ X.ex ∨ X.s₀.heap.objs.size ≤ b) ∧ b ≠ X.env.locals ∧ (∀ x c, X.env.cells.lookup x = some c → c ≠ b) ∧ ∀ p ∈ X.pn ++ pins, p.1 ≠ b) : Inv X pins σ H' s' := by
  obtain ⟨h', g', d', t', o'⟩ := s'
  have e : o' = s.os := ho
  subst e
  exact I.call (g' := g') (t' := t') (d' := d') u hok hg hch
end

/-! ### the judgements -/
/-- an exception: its class, its own dict's address (where it has one), the abstract heap behind it -/
abbrev XK := Value → Option Addr → Hp → Prop
abbrev St := List (Option V)
abbrev VK := V → Hp → Prop
/-- an expression's reading; a test's; an argument list's -/
abbrev TE := St → Hp → VK → Prop
abbrev TT := St → Hp → (Bool → Hp → Prop) → Prop
abbrev TA := St → Hp → (List V → Hp → Prop) → Prop
/-- what is wanted behind a statement -/
structure Ends where
  nx : St → Hp → Prop
  rt : VK
  bk : St → Hp → Prop := fun _ _ => False
  ct : St → Hp → Prop := fun _ _ => False
abbrev TS := Ends → St → Hp → Prop

def EP (X : Cx) (pins : List (Addr × Obj)) (σ : St) (Q : VK) (u : Value) (s' : Shared) : Prop := ∃ v H', Inv X pins σ H' s' ∧ RelV v u ∧ Q v H'
def TP (X : Cx) (pins : List (Addr × Obj)) (σ : St) (Q : Bool → Hp → Prop) (b : Bool) (s' : Shared) : Prop := ∃ H', Inv X pins σ H' s' ∧ Q b H'
def AP (X : Cx) (pins : List (Addr × Obj)) (σ : St) (Q : List V → Hp → Prop) (us : List Value) (s' : Shared) : Prop := ∃ vs H', Inv X pins σ H' s' ∧ Vals vs us ∧ Q vs H'
def SP (X : Cx) (pins : List (Addr × Obj)) (D : Ends) (f : Flow) (s' : Shared) : Prop :=
  match f with
  | .next => ∃ σ' H', Inv X pins σ' H' s' ∧ D.nx σ' H'
  | .brk => ∃ σ' H', Inv X pins σ' H' s' ∧ D.bk σ' H'
  | .cont => ∃ σ' H', Inv X pins σ' H' s' ∧ D.ct σ' H'
  | .ret u => ∃ v σ' H', Inv X pins σ' H' s' ∧ RelV v u ∧ D.rt v H'

def PE (X : Cx) (e : Expr) (t : TE) : Prop :=
  ∀ (pins : List (Addr × Obj)) (s : Shared) (σ : St) (H : Hp) (Q : VK), Inv X pins σ H s → t σ H Q → wpAny (model X.prog X.w) X.A (eval e X.env) (EP X pins σ Q) X.xe s
def PT (X : Cx) (e : Expr) (t : TT) : Prop :=
  ∀ (pins : List (Addr × Obj)) (s : Shared) (σ : St) (H : Hp) (Q : Bool → Hp → Prop), Inv X pins σ H s → t σ H Q → wpAny (model X.prog X.w) X.A (isTrue e X.env (eval e X.env)) (TP X pins σ Q) X.xe s
/-- a test whatever its 'whole' is (and, or) -/
def PW (X : Cx) (e : Expr) (t : TT) : Prop :=
  ∀ (whole : Sem Value) (pins : List (Addr × Obj)) (s : Shared) (σ : St) (H : Hp) (Q : Bool → Hp → Prop), Inv X pins σ H s → t σ H Q → wpAny (model X.prog X.w) X.A (isTrue e X.env whole) (TP X pins σ Q) X.xe s
theorem PW.pt {X : Cx} {e : Expr} {t : TT} (h : PW X e t) : PT X e t := h _
/-- an argument list (no star), from the left -/
def PA (X : Cx) (es : List Expr) (t : TA) : Prop :=
  ∀ (pos : Pos) (pins : List (Addr × Obj)) (s : Shared) (σ : St) (H : Hp) (Q : List V → Hp → Prop), Inv X pins σ H s → t σ H Q → wpAny (model X.prog X.w) X.A (spliced (backTo pos (starEach es X.env))) (AP X pins σ Q) X.xe s
def PS (X : Cx) (st : Stmt) (t : TS) : Prop :=
  ∀ (pins : List (Addr × Obj)) (s : Shared) (σ : St) (H : Hp) (D : Ends), Inv X pins σ H s → t D σ H → wpAny (model X.prog X.w) X.A (exec st X.env) (SP X pins D) X.xe s
def PSs (X : Cx) (st : List Stmt) (t : TS) : Prop :=
  ∀ (pins : List (Addr × Obj)) (s : Shared) (σ : St) (H : Hp) (D : Ends), Inv X pins σ H s → t D σ H → wpAny (model X.prog X.w) X.A (execs st X.env) (SP X pins D) X.xe s
/-- weaken the end -/
theorem thn {α : Type} {t : Sem α} {Q Q' : α → Shared → Prop} {M : Model} {A : Around} {E : Value → Shared → Prop} {s : Shared} (h : wpAny M A t Q E s) (hQ : ∀ a s, Q a s → Q' a s) : wpAny M A t Q' E s := wpAny_mono h hQ fun _ _ x => x
end L2

namespace L2
open PySem PySem.Spec PyProof.Rows
section
variable {X : Cx}

/-! ### names and constants -/
def tVar (i : Nat) : TE := fun σ H Q => ∃ v, σ[i]? = some (some v) ∧ Q v H
def tC (v : V) : TE := fun _ H Q => Q v H
theorem pe_var {i : Nat} {x : Str} {pos : Pos} (hN : X.N[i]? = some x) (hv : Vis X.env.scope x) (hd : (x == ("__debug__" : Str)) = false := by decide) (hcd : (x == ("__classdict__" : Str)) = false := by decide) : PE X (.Name x pos) (tVar i) := by
  intro pins s σ H Q I h
  obtain ⟨v, e, h⟩ := h
  obtain ⟨m, hn, hl⟩ := I.loc
  obtain ⟨u, r, l⟩ := hl i x v hN e hv
  have fin : EP X pins σ Q u s := ⟨v, H, I, r, h⟩
  rcases l with ⟨hk, hm⟩ | ⟨hk, c, hc, hcell⟩
  · exact wpAny_Name (wpAny_loadName_local I.ok.kind hk hn hm fin) hd
  · rcases hk with hk | hk
    · exact wpAny_Name (wpAny_loadName_cell I.ok.kind hk hc hcell fin) hd
    · exact wpAny_Name (wpAny_loadName_free I.ok.kind hk hc hcell fin hcd) hd
theorem pe_int {i j pos} : PE X (.Constant (.int i) j pos) (tC (.int i)) := fun _ _ _ H _ I h => wpAny_Constant_int ⟨.int i, H, I.tok _, ⟨_, rfl⟩, h⟩
theorem pe_bl {b j pos} : PE X (.Constant (.bool b) j pos) (tC (.bl b)) := fun _ _ _ H _ I h => Constant_bool ⟨.bl b, H, I, rfl, h⟩
theorem pe_non {j pos} : PE X (.Constant .none j pos) (tC .non) := fun _ _ _ H _ I h => Constant_none ⟨.non, H, I, rfl, h⟩
theorem pe_str {x j pos} : PE X (.Constant (.str x) j pos) (tC (.str x)) := fun _ _ _ H _ I h => Calls.Constant_str ⟨.str x, H, I.tok _, ⟨_, rfl⟩, h⟩

/-- a global name of the def -/
def Gl (X : Cx) (x : Str) : Prop := X.env.kindOf x = some .globalImplicit
theorem ld_glob {E : Value → Shared → Prop} {pins : List (Addr × Obj)} {s : Shared} {σ : St} {H : Hp} {x : Str} {u : Value} {pos : Pos} {Q : Value → Shared → Prop} (I : Inv X pins σ H s) (hg : Gl X x) (hm : X.mg x = some u) (h : Q u s)
    (hd : (x == ("__debug__" : Str)) = false := by decide) : wpAny (model X.prog X.w) X.A (eval (.Name x pos) X.env) Q E s :=
  Calls.Name_function_global I.ok.kind hg (Calls.loadGlobal_global (by rw [I.ok.glob]; exact I.mod.glob.keeps I.bk) hm h) hd
theorem ld_blt {E : Value → Shared → Prop} {pins : List (Addr × Obj)} {s : Shared} {σ : St} {H : Hp} {x : Str} {u : Value} {pos : Pos} {Q : Value → Shared → Prop} (I : Inv X pins σ H s) (hg : Gl X x) (hm : X.mg x = none) (hv : bootBuiltins x = some u) (h : Q u s)
    (hn : x ≠ "__name__" := by decide) (hd : (x == ("__debug__" : Str)) = false := by decide) : wpAny (model X.prog X.w) X.A (eval (.Name x pos) X.env) Q E s := by
  obtain ⟨mb, h1, h2⟩ := I.mod.blt
  exact Calls.Name_function_global I.ok.kind hg (Calls.loadGlobal_builtin (by rw [I.ok.glob]; exact I.mod.glob.keeps I.bk) hm (by rw [I.ok.blt]; exact h1.keeps I.bk) ((h2 x hn).trans hv) h) hd
/-- a module's constant, a class, a function, as a value -/
theorem pe_glob {x : Str} {v : V} {u : Value} {pos : Pos} (hg : Gl X x) (hm : X.mg x = some u) (r : RelV v u) (hd : (x == ("__debug__" : Str)) = false := by decide) : PE X (.Name x pos) (tC v) :=
  fun _ _ _ H _ I h => ld_glob I hg hm ⟨v, H, I, r, h⟩ hd
theorem pe_bltn {x : Str} {v : V} {u : Value} {pos : Pos} (hg : Gl X x) (hm : X.mg x = none) (hv : bootBuiltins x = some u) (r : RelV v u) (hn : x ≠ "__name__" := by decide) (hd : (x == ("__debug__" : Str)) = false := by decide) : PE X (.Name x pos) (tC v) :=
  fun _ _ _ H _ I h => ld_blt I hg hm hv ⟨v, H, I, r, h⟩ hn hd

/-! ### arithmetic -/
variable {a b : Expr} {ta tb : TE} {pos : Pos}
/-! ### comparisons -/
/-- a comparison as a value, as a test -/
def tB (t : TE) : TT := fun σ H Q => t σ H fun x H1 => ∃ c, x = .bl c ∧ Q c H1
/-- an expression whose value is a bool, as a test -/
theorem pt_val {e : Expr} {t : TE} (h : PE X e t) (he : ∀ whole, isTrue e X.env whole = (do let v ← whole; standAt e.pos; holding [v] (truthy v)) := by intro _; rfl) : PT X e (tB t) := by
  intro pins s σ H Q I hw
  refine isTrue_plain (thn (h pins s σ H _ I hw) fun v s1 ⟨x, H1, I1, r1, q1⟩ => ?_) (he _)
  obtain ⟨d, rfl, q⟩ := q1
  cases r1
  exact wpAny_truthy_bool ⟨H1, I1, q⟩

/-! ### and, or, not -/
variable {tA tB' : TT} {rest : List Expr}
def tAnd (t u : TT) : TT := fun σ H Q => t σ H fun c H1 => if c = true then u σ H1 Q else Q false H1
def tOr (t u : TT) : TT := fun σ H Q => t σ H fun c H1 => if c = true then Q true H1 else u σ H1 Q
def tNot (t : TT) : TT := fun σ H Q => t σ H fun c H1 => Q (!c) H1
theorem pw_and1 (ha : PT X a tA) : PW X (.BoolOp .And [a] pos) tA := by
  intro wh pins s σ H Q I h
  refine isTrue_and (thn (ha pins s σ H Q I h) fun c s1 e => ?_)
  cases c with
  | true => exact isTrue_and_nil e
  | false => exact e
theorem pw_or1 (ha : PT X a tA) : PW X (.BoolOp .Or [a] pos) tA := by
  intro wh pins s σ H Q I h
  refine isTrue_or (thn (ha pins s σ H Q I h) fun c s1 e => ?_)
  cases c with
  | false => exact isTrue_or_nil e
  | true => exact e
theorem pw_and (ha : PT X a tA) (hb : PW X (.BoolOp .And (b :: rest) pos) tB') : PW X (.BoolOp .And (a :: b :: rest) pos) (tAnd tA tB') := by
  intro wh pins s σ H Q I h
  refine isTrue_and (thn (ha pins s σ H _ I h) fun c s1 ⟨H1, I1, q1⟩ => ?_)
  cases c with
  | true => exact hb wh pins s1 σ H1 Q I1 q1
  | false => exact ⟨H1, I1, q1⟩
theorem pw_or (ha : PT X a tA) (hb : PW X (.BoolOp .Or (b :: rest) pos) tB') : PW X (.BoolOp .Or (a :: b :: rest) pos) (tOr tA tB') := by
  intro wh pins s σ H Q I h
  refine isTrue_or (thn (ha pins s σ H _ I h) fun c s1 ⟨H1, I1, q1⟩ => ?_)
  cases c with
  | true => exact ⟨H1, I1, q1⟩
  | false => exact hb wh pins s1 σ H1 Q I1 q1
theorem pt_not (ha : PT X a tA) : PT X (.UnaryOp .Not a pos) (tNot tA) := by
  intro pins s σ H Q I h
  exact isTrue_not (ha pins s σ H (fun c H1 => Q (!c) H1) I h)
/-- .. as values (bools) -/
def tAndV (ta tb : TE) : TE := fun σ H Q => ta σ H fun x H1 => ∃ c, x = .bl c ∧ if c = true then tb σ H1 Q else Q (.bl false) H1
def tOrV (ta tb : TE) : TE := fun σ H Q => ta σ H fun x H1 => ∃ c, x = .bl c ∧ if c = true then Q (.bl true) H1 else tb σ H1 Q
def tNotV (ta : TE) : TE := fun σ H Q => ta σ H fun x H1 => ∃ c, x = .bl c ∧ Q (.bl (!c)) H1
theorem pe_one {op} {t : TE} (h : PE X a t) : PE X (.BoolOp op [a] pos) t := fun pins s σ H Q I hw => BoolOp_one (h pins s σ H Q I hw)
theorem pe_and (ha : PE X a ta) (hb : PE X (.BoolOp .And (b :: rest) pos) tb) : PE X (.BoolOp .And (a :: b :: rest) pos) (tAndV ta tb) := by
  intro pins s σ H Q I h
  refine BoolOp_and (thn (ha pins s σ H _ I h) fun v s1 ⟨x, H1, I1, r1, q1⟩ => ?_)
  obtain ⟨c, rfl, q1⟩ := q1
  cases r1
  refine wpAny_truthy_bool ?_
  cases c with
  | true => exact hb pins s1 σ H1 Q I1 q1
  | false => exact ⟨.bl false, H1, I1, rfl, q1⟩
theorem pe_or (ha : PE X a ta) (hb : PE X (.BoolOp .Or (b :: rest) pos) tb) : PE X (.BoolOp .Or (a :: b :: rest) pos) (tOrV ta tb) := by
  intro pins s σ H Q I h
  refine BoolOp_or (thn (ha pins s σ H _ I h) fun v s1 ⟨x, H1, I1, r1, q1⟩ => ?_)
  obtain ⟨c, rfl, q1⟩ := q1
  cases r1
  refine wpAny_truthy_bool ?_
  cases c with
  | false => exact hb pins s1 σ H1 Q I1 q1
  | true => exact ⟨.bl true, H1, I1, rfl, q1⟩
theorem pe_not (ha : PE X a ta) : PE X (.UnaryOp .Not a pos) (tNotV ta) := by
  intro pins s σ H Q I h
  refine UnaryOp_ (thn (ha pins s σ H _ I h) fun v s1 ⟨x, H1, I1, r1, q1⟩ => ?_)
  obtain ⟨c, rfl, q1⟩ := q1
  cases r1
  exact not_of (wpAny_truthy_bool ⟨.bl (!c), H1, I1, rfl, q1⟩)
/-- a if t else b -/
def tIf (t : TT) (ta tb : TE) : TE := fun σ H Q => t σ H fun c H1 => if c = true then ta σ H1 Q else tb σ H1 Q
theorem pe_ifExp {c : Expr} (hc : PT X c tA) (ha : PE X a ta) (hb : PE X b tb) : PE X (.IfExp c a b pos) (tIf tA ta tb) := by
  intro pins s σ H Q I h
  refine wpAny_IfExp (thn (hc pins s σ H _ I h) fun d s1 ⟨H1, I1, q1⟩ => ?_)
  cases d with
  | true => exact ha pins s1 σ H1 Q I1 q1
  | false => exact hb pins s1 σ H1 Q I1 q1
end
end L2

namespace L2
open PySem PySem.Spec PyProof.Rows

/-! ### a list, a tuple that is read: tracked, frozen, or an object of the module -/
def SqL (K : PySem.W.Frag) (H : Hp) (a : Addr) (xs : List V) : Prop :=
  Rd H a (.lst xs) ∨
    ∃ (o : Obj) (its : Array Value) (n : Nat), K.lookup a = some o ∧ o.cls = .type "list" ∧ o.dict = none ∧ o.data = .seq its n ∧ its.size ≤ sizeLine ∧ Vals xs its.toList
def SqT (K : PySem.W.Frag) (H : Hp) (a : Addr) (xs : List V) : Prop :=
  Rd H a (.tup xs) ∨
    ∃ (o : Obj) (its : Array Value) (n : Nat), K.lookup a = some o ∧ o.cls = .type "tuple" ∧ o.data = .seq its n ∧ its.size ≤ sizeLine ∧ Vals xs its.toList
def absV : Value → Option V
  | .none => some .non
  | .bool b => some (.bl b)
  | .int i _ => some (.int i)
  | .str x _ => some (.str x)
  | .bytes b _ => some (.byt b)
  | .float b _ => some (.flt b)
  | .ref a => some (.ref a)
  | .type n => some (.ty n)
  | _ => none
theorem RelV.abs {x : V} {u : Value} (r : RelV x u) : absV u = some x := by
  cases x with
  | non => cases r; rfl
  | bl _ => cases r; rfl
  | int _ => obtain ⟨t, rfl⟩ := r; rfl
  | str _ => obtain ⟨t, rfl⟩ := r; rfl
  | byt _ => obtain ⟨t, rfl⟩ := r; rfl
  | flt _ => obtain ⟨t, rfl⟩ := r; rfl
  | ref _ => cases r; rfl
  | ty _ => cases r; rfl
theorem RelV.inj {x y : V} {u : Value} (r : RelV x u) (q : RelV y u) : x = y := Option.some.inj (r.abs.symm.trans q.abs)
theorem Vals.inj : ∀ {xs ys : List V} {us : List Value}, Vals xs us → Vals ys us → xs = ys
  | _, _, _, .nil, .nil => rfl
  | _, _, _, .cons r t, .cons r' t' => by rw [r.inj r', Vals.inj t t']
section
variable {X : Cx} {pins : List (Addr × Obj)} {σ : St} {H : Hp} {s : Shared} {a : Addr} {xs ys : List V}
theorem SqL.of {K : PySem.W.Frag} (h : H a = some (.lst xs)) : SqL K H a xs := .inl (.inl h)
theorem SqT.of {K : PySem.W.Frag} (h : H a = some (.tup xs)) : SqT K H a xs := .inl (.inl h)
theorem Inv.list (I : Inv X pins σ H s) (h : SqL X.K H a xs) : ∃ its : List Value, Vals xs its ∧ PlainL s.heap a its.toArray ∧ xs.length ≤ sizeLine := by
  rcases h with h | ⟨o, its, n, hk, hc, hd, hs, hz, r⟩
  · obtain ⟨z, its, n, r, e⟩ := h.ok I.hok
    exact ⟨its, r, ⟨_, n, e, rfl, rfl, rfl⟩, z⟩
  · refine ⟨its.toList, r, ⟨o, n, I.kIn a o hk, hc, hd, by simpa using hs⟩, ?_⟩
    have e := r.length
    simp only [Array.length_toList] at e
    omega
theorem Inv.tuple (I : Inv X pins σ H s) (h : SqT X.K H a xs) : ∃ its : List Value, Vals xs its ∧ IsTup s.heap a its.toArray ∧ xs.length ≤ sizeLine := by
  rcases h with h | ⟨o, its, n, hk, hc, hs, hz, r⟩
  · obtain ⟨z, its, r, p⟩ := h.ok I.hok
    exact ⟨its, r, p, z⟩
  · refine ⟨its.toList, r, ⟨o, I.kIn a o hk, hc, n, by simpa using hs⟩, ?_⟩
    have e := r.length
    simp only [Array.length_toList] at e
    omega
theorem Inv.list_inj (I : Inv X pins σ H s) (h : SqL X.K H a xs) (h' : SqL X.K H a ys) : xs = ys := by
  obtain ⟨its, r, ⟨o, n, e, _, _, d⟩, _⟩ := I.list h
  obtain ⟨its', r', ⟨o', n', e', _, _, d'⟩, _⟩ := I.list h'
  rw [e] at e'; cases e'
  rw [d] at d'
  injection d' with d1 _
  have : its = its' := by simpa using congrArg Array.toList d1
  subst this
  exact r.inj r'
theorem Inv.tuple_inj (I : Inv X pins σ H s) (h : SqT X.K H a xs) (h' : SqT X.K H a ys) : xs = ys := by
  obtain ⟨its, r, ⟨o, e, _, n, d⟩, _⟩ := I.tuple h
  obtain ⟨its', r', ⟨o', e', _, n', d'⟩, _⟩ := I.tuple h'
  rw [e] at e'; cases e'
  rw [d] at d'
  injection d' with d1 _
  have : its = its' := by simpa using congrArg Array.toList d1
  subst this
  exact r.inj r'
end

/-! ### another wish about exceptions -/
abbrev Cx.wish (X : Cx) (E : Value → Shared → Prop) : Cx := { X with xe := E }
/-- no exception leaves -/
abbrev Cx.nox (X : Cx) : Cx := X.wish fun _ _ => False
theorem Cx.Ok.wish {X : Cx} (ok : X.Ok) (E : Value → Shared → Prop) : (X.wish E).Ok :=
  ⟨ok.mod, ok.kind, ok.glob, ok.blt, ok.above, ok.inj, ok.has, ok.cab, ok.hd, ok.frames, ok.stk, ok.exf, ok.bs, ok.bsz, ok.noex, ok.exfs, ok.funs, ok.frf⟩
theorem Cx.Ok.unwish {X : Cx} {E : Value → Shared → Prop} (ok : (X.wish E).Ok) : X.Ok :=
  ⟨ok.mod, ok.kind, ok.glob, ok.blt, ok.above, ok.inj, ok.has, ok.cab, ok.hd, ok.frames, ok.stk, ok.exf, ok.bs, ok.bsz, ok.noex, ok.exfs, ok.funs, ok.frf⟩
section
variable {X : Cx} {pins : List (Addr × Obj)} {σ : St} {H : Hp} {s : Shared} {E : Value → Shared → Prop}
theorem Inv.wish (I : Inv X pins σ H s) (E : Value → Shared → Prop) : Inv (X.wish E) pins σ H s := ⟨I.ok.wish E, I.os, I.bare, I.base, I.loc, I.cell, I.free, I.freeC, I.pin, I.hok, I.len⟩
theorem Inv.unwish (I : Inv (X.wish E) pins σ H s) : Inv X pins σ H s := ⟨I.ok.unwish, I.os, I.bare, I.base, I.loc, I.cell, I.free, I.freeC, I.pin, I.hok, I.len⟩
theorem SP.unwish {D : Ends} {f : Flow} {s' : Shared} (h : SP (X.wish E) pins D f s') : SP X pins D f s' := by
  cases f with
  | next => obtain ⟨σ', H', I, q⟩ := h; exact ⟨σ', H', I.unwish, q⟩
  | brk => obtain ⟨σ', H', I, q⟩ := h; exact ⟨σ', H', I.unwish, q⟩
  | cont => obtain ⟨σ', H', I, q⟩ := h; exact ⟨σ', H', I.unwish, q⟩
  | ret u => obtain ⟨v, σ', H', I, r, q⟩ := h; exact ⟨v, σ', H', I.unwish, r, q⟩
theorem PE.nox {e : Expr} {t : TE} (h : PE X.nox e t) : PE X e t := fun pins s σ H Q I hw =>
  wpAny_mono (h pins s σ H Q (I.wish _) hw) (fun _ _ ⟨v, H', I', r, q⟩ => ⟨v, H', I'.unwish, r, q⟩) fun _ _ z => False.elim z
theorem PT.nox {e : Expr} {t : TT} (h : PT X.nox e t) : PT X e t := fun pins s σ H Q I hw =>
  wpAny_mono (h pins s σ H Q (I.wish _) hw) (fun _ _ ⟨H', I', q⟩ => ⟨H', I'.unwish, q⟩) fun _ _ z => False.elim z
theorem PSs.nox {st : List Stmt} {t : TS} (h : PSs X.nox st t) : PSs X st t := fun pins s σ H D I hw =>
  wpAny_mono (h pins s σ H D (I.wish _) hw) (fun _ _ q => q.unwish) fun _ _ z => False.elim z
end

/-! ### blocks and small statements -/
section
variable {X : Cx} {st : Stmt} {rest : List Stmt} {t u : TS} {e : Expr} {te : TE} {pos : Pos}
def tNext : TS := fun D σ H => D.nx σ H
def tSeq (t u : TS) : TS := fun D σ H => t { D with nx := u D } σ H
theorem pss_nil : PSs X [] tNext := fun _ _ σ H _ I h => wpAny_execs_nil ⟨σ, H, I, h⟩
theorem pss_cons (h1 : PS X st t) (h2 : PSs X rest u) : PSs X (st :: rest) (tSeq t u) := by
  intro pins s σ H D I h
  refine wpAny_execs_cons (thn (h1 pins s σ H { D with nx := u D } I h) fun f s1 q => ?_)
  cases f with
  | next =>
    obtain ⟨σ', H', I', q⟩ := q
    exact h2 pins s1 σ' H' D I' q
  | ret v => exact q
  | brk => exact q
  | cont => exact q
theorem pss_one (h1 : PS X st t) : PSs X [st] t := by
  intro pins s σ H D I h
  refine wpAny_execs_cons (thn (h1 pins s σ H D I h) fun f s1 q => ?_)
  cases f with
  | next => exact wpAny_execs_nil q
  | ret v => exact q
  | brk => exact q
  | cont => exact q
/-- in a def's body nothing is shown -/
theorem Inv.quiet {pins : List (Addr × Obj)} {σ : St} {H : Hp} {s : Shared} (I : Inv X pins σ H s) : interactive X.env = false := by simp [interactive, I.ok.kind]
/-- an expression whose value is dropped -/
def tDrop (te : TE) : TS := fun D σ H => te σ H fun _ H1 => D.nx σ H1
theorem ps_expr (he : PE X e te) (hs : swapsWith e none pos.line X.env = pure false := by rfl) : PS X (.Expr e pos) (tDrop te) := by
  intro pins s σ H D I h
  exact wpAny_Expr_any (thn (he pins s σ H _ I h) fun v s1 ⟨x, H1, I1, r1, q1⟩ => ⟨σ, H1, I1, q1⟩) I.quiet hs
def tRet (te : TE) : TS := fun D σ H => te σ H D.rt
theorem ps_ret (he : PE X e te) : PS X (.Return (some e) pos) (tRet te) := by
  intro pins s σ H D I h
  exact wpAny_Return_some (thn (he pins s σ H _ I h) fun v s1 ⟨x, H1, I1, r1, q1⟩ => ⟨x, σ, H1, I1, r1, q1⟩)
def tIfS (c : TT) (t u : TS) : TS := fun D σ H => c σ H fun b H1 => if b = true then t D σ H1 else u D σ H1
theorem ps_if {c : Expr} {a b : List Stmt} {tc : TT} (hc : PT X c tc) (ha : PSs X a t) (hb : PSs X b u) : PS X (.If c a b pos) (tIfS tc t u) := by
  intro pins s σ H D I h
  refine wpAny_If (thn (hc pins s σ H _ I h) fun d s1 ⟨H1, I1, q1⟩ => ?_)
  cases d with
  | true => exact ha pins s1 σ H1 D I1 q1
  | false => exact hb pins s1 σ H1 D I1 q1
end

/-! ### targets -/
abbrev TG := V → St → Hp → (St → Hp → Prop) → Prop
section
variable {X : Cx} {pos : Pos}
def gName (i : Nat) : TG := fun v σ H Q => Q (σ.set i (some v)) H
/-- target = value -/
def tAsg (te : TE) (g : TG) : TS := fun D σ H => te σ H fun x H1 => g x σ H1 D.nx
/-- name = value -/
theorem ps_set {i : Nat} {x : Str} {e : Expr} {te : TE} {pos' : Pos} (hN : X.N.Nodup) (hi : X.N[i]? = some x) (hx : Loc X.env.scope x) (he : PE X e te) (hs : swapsWith e (some (.Name x pos')) pos.line X.env = pure false := by rfl) (hf : X.fn x = true ∨ X.env.scope.names.lookup x = some .local := by first | exact .inl rfl | exact .inr rfl | assumption) :
    PS X (.Assign [.Name x pos'] e pos) (tAsg te (gName i)) := by
  intro pins s σ H D I h
  refine wpAny_Assign_Name (thn (he pins s σ H _ I h) fun v s1 ⟨y, H1, I1, r1, q1⟩ => ?_) hs
  exact store_ok I1 hN hi hx r1 (fun s2 I2 => ⟨_, H1, I2, q1⟩) hf
end

/-! ### while -/
section
variable {X : Cx} {pos : Pos}
end

/-! ### what a loop or a comprehension walks -/
/-- at turn i: it yields x (the heap may grow), or it stops -/
structure It where
  go : Nat → Hp → Prop
  yld : Nat → Hp → V → Hp → Prop
  stop : Nat → Hp → Prop
/-- the iterator's own objects may turn: they are not the frame's, not pinned, younger than the entry (or a comprehension's own) -/
def FpOk (X : Cx) (pins : List (Addr × Obj)) (H : Hp) (b : Addr) : Prop :=
  H b = none ∧ b ≠ X.env.locals ∧ b ∉ X.fs ∧ (b ∈ X.ex ∨ X.s₀.heap.objs.size ≤ b) ∧ (∀ x c, X.env.cells.lookup x = some c → c ≠ b) ∧ ∀ p ∈ X.pn ++ pins, p.1 ≠ b
theorem Inv.fpOk {X : Cx} {pins : List (Addr × Obj)} {σ : St} {H H' : Hp} {s : Shared} {b : Addr} (I : Inv X pins σ H s) (hb : s.heap.objs.size ≤ b) (hn : H' b = none) : FpOk X pins H' b := by
  refine ⟨hn, Nat.ne_of_gt (Nat.lt_of_lt_of_le I.lt hb), I.nofs hb, .inr (Nat.le_trans I.sz hb), fun x c e z => ?_, fun p hp z => ?_⟩
  · obtain ⟨v, q⟩ := I.cell x c e
    exact absurd (Nat.lt_of_lt_of_le q.lt (by rw [z]; exact hb)) (Nat.lt_irrefl _)
  · exact absurd (Nat.lt_of_lt_of_le (Heap.lt_size (I.pin p hp).1) (by rw [z]; exact hb)) (Nat.lt_irrefl _)
structure Turn (P : Program) (w : World) (K : PySem.W.Frag) (tg : Expr) (J : It) (fp : List Addr) (it : Addr) (tn : Nat → Heap → Prop) : Prop where
  mem : it ∈ fp
  obj : ∀ i h, tn i h → ∀ b ∈ fp, ∃ o, h.get? b = some o ∧ ∀ v, o.data ≠ .cell v
  keep : ∀ i h h', tn i h → (∀ b ∈ fp, ∀ o, h.get? b = some o → h'.get? b = some o) → tn i h'
  item : ∀ (X : Cx), X.prog = P → X.w = w → X.K = K → X.calm = true → ∀ (i : Nat) (pins : List (Addr × Obj)) (s : Shared) (σ : St) (H : Hp) (E : Value → Shared → Prop), Inv X pins σ H s → (∀ b ∈ fp, FpOk X pins H b) → tn i s.heap → J.go i H →
    wpAny (model P w) X.A (pyNext (.ref it)) (fun r s1 => ∃ u, r = some u ∧
      wpAny (model P w) X.A (letOwnedTupleGo tg (.ref it) u) (fun _ s2 => ∃ x H', Inv X pins σ H' s2 ∧ RelV x u ∧ J.yld i H x H' ∧ tn (i + 1) s2.heap ∧ ∀ b ∈ fp, H' b = none) E s1) E s
  done : ∀ (X : Cx), X.prog = P → X.w = w → X.K = K → X.calm = true → ∀ (i : Nat) (pins : List (Addr × Obj)) (s : Shared) (σ : St) (H : Hp) (E : Value → Shared → Prop), Inv X pins σ H s → (∀ b ∈ fp, FpOk X pins H b) → tn i s.heap → J.stop i H →
    wpAny (model P w) X.A (pyNext (.ref it)) (fun r s1 => r = none ∧ Inv X pins σ H s1) E s
  self : ∀ (A : Around) (i : Nat) (s : Shared) (Q : Value → Shared → Prop) (E : Value → Shared → Prop), tn i s.heap → Q (.ref it) s → wpAny (model P w) A (pyIter (.ref it)) Q E s
end L2

namespace L2
open PySem PySem.Spec PyProof.Rows
section
variable {X : Cx} {tg : Expr}
/-! ### for -/
/-- the records at fp as they stand -/
def pinsAt (fp : List Addr) (h : Heap) : List (Addr × Obj) := fp.filterMap fun b => (h.get? b).map fun o => (b, o)
theorem of_pinsAt {fp : List Addr} {h : Heap} {p : Addr × Obj} (hp : p ∈ pinsAt fp h) : p.1 ∈ fp ∧ h.get? p.1 = some p.2 := by
  obtain ⟨b, hb, e⟩ := List.mem_filterMap.mp hp
  cases q : h.get? b with
  | none => rw [q] at e; cases e
  | some o =>
    rw [q] at e
    have e' : (b, o) = p := Option.some.inj e
    subst e'
    exact ⟨hb, q⟩
theorem Inv.pinned {pins : List (Addr × Obj)} {σ : St} {H : Hp} {s : Shared} {fp : List Addr} (I : Inv X pins σ H s) (hf : ∀ b ∈ fp, FpOk X pins H b) (ho : ∀ b ∈ fp, ∃ o, s.heap.get? b = some o ∧ ∀ v, o.data ≠ .cell v) : Inv X (pins ++ pinsAt fp s.heap) σ H s :=
  I.pins_of fun p hp => (List.mem_append.mp hp).elim (fun z => I.pin p (List.mem_append_right _ z)) fun z => by
    obtain ⟨hb, e⟩ := of_pinsAt z
    obtain ⟨f0, f1, f2, _⟩ := hf p.1 hb
    obtain ⟨o, e', d⟩ := ho p.1 hb
    rw [e] at e'; cases e'
    exact ⟨e, f0, f1, f2, d⟩
end

/-! ### the forms one uses -/
end L2

namespace L2
open PySem PySem.Spec PyProof.Rows

abbrev R2 := V → V → Hp → VK → Prop
/-- a two-place operation on values: f is binaryOp op, inplaceOp op or compareOp op -/
def OpR (X : Cx) (f : Value → Value → Sem Value) (r : R2) : Prop :=
  ∀ (pins : List (Addr × Obj)) (s : Shared) (σ : St) (H : Hp) (x y : V) (v u : Value) (Q : VK), Inv X pins σ H s → RelV x v → RelV y u → r x y H Q →
    wpAny (model X.prog X.w) X.A (f v u) (EP X pins σ Q) X.xe s
/-- a call of a value that is known (a builtin, a type) with values -/
def CallR (X : Cx) (f : Value) (r : List V → Hp → VK → Prop) : Prop :=
  ∀ (pins : List (Addr × Obj)) (s : Shared) (σ : St) (H : Hp) (xs : List V) (us : List Value) (Q : VK), Inv X pins σ H s → Vals xs us → r xs H Q →
    wpAny (model X.prog X.w) X.A (call f us) (EP X pins σ Q) X.xe s
def tOp (r : R2) (ta tb : TE) : TE := fun σ H Q => ta σ H fun x H1 => tb σ H1 fun y H2 => r x y H2 Q
/-- ints in, under C, and a value out -/
def rI (C : Int → Int → Prop) (g : Int → Int → V) : R2 := fun x y H Q => ∃ i j, x = .int i ∧ y = .int j ∧ C i j ∧ Q (g i j) H
def rI0 (g : Int → Int → V) : R2 := fun x y H Q => ∃ i j, x = .int i ∧ y = .int j ∧ Q (g i j) H
section
variable {X : Cx} {a b c : Expr} {ta tb tc : TE} {pos : Pos}

theorem binT (ha : PE X a ta) (hb : PE X b tb) {pins : List (Addr × Obj)} {s : Shared} {σ : St} {H : Hp} {R : V → V → Hp → Prop} (I : Inv X pins σ H s)
    (h : ta σ H fun x H1 => tb σ H1 fun y H2 => R x y H2) {Q : Value → Shared → Prop} {f : Value → Value → Sem Value}
    (hf : ∀ v u s2 x y H2, Inv X pins σ H2 s2 → RelV x v → RelV y u → R x y H2 → wpAny (model X.prog X.w) X.A (f v u) Q X.xe s2) :
    wpAny (model X.prog X.w) X.A (eval a X.env) (fun v s₁ => wpAny (model X.prog X.w) X.A (eval b X.env) (fun u s₂ => wpAny (model X.prog X.w) X.A (f v u) Q X.xe s₂) X.xe s₁) X.xe s := by
  refine thn (ha pins s σ H _ I h) fun v s1 ⟨x, H1, I1, r1, q1⟩ => ?_
  refine thn (hb pins s1 σ H1 _ I1 q1) fun u s2 ⟨y, H2, I2, r2, q2⟩ => ?_
  exact hf v u s2 x y H2 I2 r1 r2 q2

theorem pe_op {op : Operator} {r : R2} (ho : OpR X (binaryOp op) r) (ha : PE X a ta) (hb : PE X b tb) : PE X (.BinOp a op b pos) (tOp r ta tb) := by
  intro pins s σ H Q I h
  exact wpAny_BinOp (binT ha hb I h fun v u s2 x y H2 I2 rx ry q => ho pins s2 σ H2 x y v u Q I2 rx ry q)
/-! ### ints -/
theorem opI {f : Value → Value → Sem Value} {C : Int → Int → Prop} {g : Int → Int → Int}
    (rule : ∀ (i j : Int) (t u : Tok) (s : Shared) (Q : Value → Shared → Prop) (E : Value → Shared → Prop), C i j → Q (.int (g i j) s.toks) { s with toks := s.toks + 1 } → wpAny (model X.prog X.w) X.A (f (.int i t) (.int j u)) Q E s) :
    OpR X f (rI C fun i j => .int (g i j)) := by
  intro pins s σ H x y v u Q I rx ry h
  obtain ⟨i, j, rfl, rfl, hc, q⟩ := h
  obtain ⟨t, rfl⟩ := rx
  obtain ⟨t', rfl⟩ := ry
  exact rule i j t t' s _ _ hc ⟨.int (g i j), H, I.tok _, ⟨_, rfl⟩, q⟩
theorem opI0 {f : Value → Value → Sem Value} {g : Int → Int → Int}
    (rule : ∀ (i j : Int) (t u : Tok) (s : Shared) (Q : Value → Shared → Prop) (E : Value → Shared → Prop), Q (.int (g i j) s.toks) { s with toks := s.toks + 1 } → wpAny (model X.prog X.w) X.A (f (.int i t) (.int j u)) Q E s) :
    OpR X f (rI0 fun i j => .int (g i j)) := by
  intro pins s σ H x y v u Q I rx ry h
  obtain ⟨i, j, rfl, rfl, q⟩ := h
  obtain ⟨t, rfl⟩ := rx
  obtain ⟨t', rfl⟩ := ry
  exact rule i j t t' s _ _ ⟨.int (g i j), H, I.tok _, ⟨_, rfl⟩, q⟩
theorem opB0 {f : Value → Value → Sem Value} {g : Int → Int → Bool}
    (rule : ∀ (i j : Int) (t u : Tok) (s : Shared) (Q : Value → Shared → Prop) (E : Value → Shared → Prop), Q (.bool (g i j)) s → wpAny (model X.prog X.w) X.A (f (.int i t) (.int j u)) Q E s) :
    OpR X f (rI0 fun i j => .bl (g i j)) := by
  intro pins s σ H x y v u Q I rx ry h
  obtain ⟨i, j, rfl, rfl, q⟩ := h
  obtain ⟨t, rfl⟩ := rx
  obtain ⟨t', rfl⟩ := ry
  exact rule i j t t' s _ _ ⟨.bl (g i j), H, I, rfl, q⟩

def CDiv (i j : Int) : Prop := 0 < j ∧ j < 1073741824
def CPow (i j : Int) : Prop := 0 ≤ j ∧ j ≤ 1000000 ∧ i.natAbs < 2 ^ 64
def CMul (i j : Int) : Prop := (-(2 ^ 64) < i ∧ i < 2 ^ 64) ∨ (-(2 ^ 64) < j ∧ j < 2 ^ 64)
theorem CMul.ok {i j : Int} (h : CMul i j) : IntMulOk i j := by
  rcases h with ⟨h1, h2⟩ | ⟨h1, h2⟩
  · exact .of_left (intBits_le_64 h1 h2)
  · exact .of_right (intBits_le_64 h1 h2)
theorem op_add : OpR X (binaryOp .Add) (rI0 fun i j => .int (i + j)) := opI0 fun _ _ _ _ _ _ _ q => add_int q
theorem op_sub : OpR X (binaryOp .Sub) (rI0 fun i j => .int (i - j)) := opI0 fun _ _ _ _ _ _ _ q => sub_int q
/-- // by a positive divisor -/
theorem op_fdiv : OpR X (binaryOp .FloorDiv) (rI CDiv fun i j => .int (i / j)) := opI fun i j _ _ _ _ _ hc q => by
  have h1 : (0 : Int) < j := hc.1
  have h2 : j < 1073741824 := hc.2
  exact floordiv_int (by omega) (by rw [Int.fdiv_eq_ediv_of_nonneg i (by omega)]; exact q) (.inl (PyProof.noPylong_small (by omega)))
/-- % by a positive divisor of any size -/
theorem op_mod : OpR X (binaryOp .Mod) (rI (fun _ j => 0 < j) fun i j => .int (i % j)) := opI fun i j _ _ _ _ _ hc q => by
  have h1 : (0 : Int) < j := hc
  exact mod_int' (by omega) (by rw [Int.fmod_eq_emod_of_nonneg i (by omega)]; exact q)
theorem op_pow : OpR X (binaryOp .Pow) (rI CPow fun i j => .int (i ^ j.toNat)) := opI fun _ _ _ _ _ _ _ hc q => pow_int_small hc.1 hc.2.1 hc.2.2 q
/-! ### bools among ints: n += (a < b) -/
end

/-! ### comparisons -/
/-- the scalars that == tells apart as data does -/
def scal : V → V → Bool
  | .non, .non => true | .non, .int _ => true | .int _, .non => true | .non, .bl _ => true | .bl _, .non => true | .non, .str _ => true | .str _, .non => true
  | .int _, .int _ => true | .bl _, .bl _ => true | .str _, .str _ => true | .byt _, .byt _ => true
  | .int _, .str _ => true | .str _, .int _ => true | .bl _, .str _ => true | .str _, .bl _ => true
  | _, _ => false
def rEq : R2 := fun x y H Q => scal x y = true ∧ Q (.bl (decide (x = y))) H
theorem dec_int {i j : Int} : decide (V.int i = V.int j) = (i == j) := by
  rw [Bool.eq_iff_iff]
  simp
theorem dec_bl {i j : Bool} : decide (V.bl i = V.bl j) = (i == j) := by
  rw [Bool.eq_iff_iff]
  simp
theorem dec_str {i j : Str} : decide (V.str i = V.str j) = (i == j) := by
  rw [Bool.eq_iff_iff]
  simp
theorem dec_byt {i j : Array UInt8} : decide (V.byt i = V.byt j) = (i.toList == j.toList) := by
  rw [Bool.eq_iff_iff]
  cases i
  cases j
  simp

section
variable {X : Cx} {a b c : Expr} {ta tb tc : TE} {pos : Pos}
theorem fin_bl {pins : List (Addr × Obj)} {σ : St} {H : Hp} {s : Shared} {Q : VK} {k k' : Bool} (I : Inv X pins σ H s) (q : Q (.bl k) H) (e : k = k') : EP X pins σ Q (.bool k') s := by
  subst e
  exact ⟨.bl k, H, I, rfl, q⟩
theorem op_eq : OpR X (compareOp .Eq) rEq := by
  intro pins s σ H x y v u Q I rx ry h
  obtain ⟨hs, q⟩ := h
  cases x with
  | non =>
    cases rx
    cases y with
    | non => cases ry; exact PySem.EqNone.eq_none_none (fin_bl I q (by simp))
    | bl j => cases ry; exact PySem.EqNone.eq_none_bool (fin_bl I q (by simp))
    | int j => obtain ⟨t', rfl⟩ := ry; exact PySem.EqNone.eq_none_int (fin_bl I q (by simp))
    | str j => obtain ⟨t', rfl⟩ := ry; exact PySem.EqNone.eq_none_str (fin_bl I q (by simp))
    | _ => exact absurd (show false = true from hs) Bool.false_ne_true
  | bl i =>
    cases rx
    cases y with
    | non => cases ry; exact PySem.EqNone.eq_bool_none (fin_bl I q (by simp))
    | bl j => cases ry; exact eq_bool (fin_bl I q dec_bl)
    | str j => obtain ⟨t', rfl⟩ := ry; exact PySem.EqMixed.eq_bool_str (fin_bl I q (by simp))
    | _ => exact absurd (show false = true from hs) Bool.false_ne_true
  | int i =>
    obtain ⟨t, rfl⟩ := rx
    cases y with
    | non => cases ry; exact PySem.EqNone.eq_int_none (fin_bl I q (by simp))
    | int j => obtain ⟨t', rfl⟩ := ry; exact eq_int (fin_bl I q dec_int)
    | str j => obtain ⟨t', rfl⟩ := ry; exact PySem.EqMixed.eq_int_str (fin_bl I q (by simp))
    | _ => exact absurd (show false = true from hs) Bool.false_ne_true
  | str i =>
    obtain ⟨t, rfl⟩ := rx
    cases y with
    | non => cases ry; exact PySem.EqNone.eq_str_none (fin_bl I q (by simp))
    | bl j => cases ry; exact PySem.EqMixed.eq_str_bool (fin_bl I q (by simp))
    | int j => obtain ⟨t', rfl⟩ := ry; exact PySem.EqMixed.eq_str_int (fin_bl I q (by simp))
    | str j => obtain ⟨t', rfl⟩ := ry; exact eq_str (fin_bl I q dec_str)
    | _ => exact absurd (show false = true from hs) Bool.false_ne_true
  | byt i =>
    obtain ⟨t, rfl⟩ := rx
    cases y with
    | byt j => obtain ⟨t', rfl⟩ := ry; exact PySem.W.eq_bytes (fin_bl I q dec_byt)
    | _ => exact absurd (show false = true from hs) Bool.false_ne_true
  | _ => cases y <;> exact absurd (show false = true from hs) Bool.false_ne_true
theorem op_lt : OpR X (compareOp .Lt) (rI0 fun i j => .bl (decide (i < j))) := opB0 fun _ _ _ _ _ _ _ q => lt_int q
theorem op_le : OpR X (compareOp .LtE) (rI0 fun i j => .bl (decide (i ≤ j))) := opB0 fun _ _ _ _ _ _ _ q => le_int q
theorem op_ge : OpR X (compareOp .GtE) (rI0 fun i j => .bl (decide (j ≤ i))) := opB0 fun _ _ _ _ _ _ _ q => ge_int q
/-- is None, is not None: the right side a value none -/
theorem op_isN : OpR X (compareOp .Is) (fun x y H Q => y = .non ∧ Q (.bl (decide (x = .non))) H) := by
  intro pins s σ H x y v u Q I rx ry h
  obtain ⟨rfl, q⟩ := h
  cases ry
  refine is_none_gen (fin_bl I q ?_)
  cases x <;> first
    | (cases rx; rfl)
    | (obtain ⟨t, rfl⟩ := rx; rfl)
/-- is, is not of two objects that are tracked lists or instances -/
def isObj : HO → Bool
  | .lst _ => true
  | .ins _ _ _ => true
  | _ => false
/-- two rules for one operation: by cases -/
theorem OpR.or {f : Value → Value → Sem Value} {r r' : R2} (h : OpR X f r) (h' : OpR X f r') : OpR X f (fun x y H Q => r x y H Q ∨ r' x y H Q) := by
  intro pins s σ H x y v u Q I rx ry q
  rcases q with q | q
  · exact h pins s σ H x y v u Q I rx ry q
  · exact h' pins s σ H x y v u Q I rx ry q

theorem nomark (b : Expr) {op : CmpOp} (h : op ≠ .In := by decide) (h2 : op ≠ .NotIn := by decide) : behindInMarks op b = false := by
  have e1 : (op == CmpOp.In) = false := by cases op <;> first | rfl | exact absurd rfl h
  have e2 : (op == CmpOp.NotIn) = false := by cases op <;> first | rfl | exact absurd rfl h2
  cases b <;> simp [behindInMarks, e1, e2]
/-- a comparison as a value; hm: nomark b, or (for in, not in) by with_unfolding_all rfl -/
theorem pe_cmpR {op : CmpOp} {r : R2} (ho : OpR X (compareOp op) r) (ha : PE X a ta) (hb : PE X b tb) (hm : behindInMarks op b = false) : PE X (.Compare a [op] [b] pos) (tOp r ta tb) := by
  intro pins s σ H Q I h
  exact wpAny_Compare1 (binT ha hb I h fun v u s2 x y H2 I2 rx ry q => ho pins s2 σ H2 x y v u Q I2 rx ry q) hm
/-- a reading of a value as a test -/
def tTest (t : TE) : TT := fun σ H Q => t σ H fun x H' => ∃ k, x = .bl k ∧ Q k H'
theorem pt_cmpR {op : CmpOp} {r : R2} (ho : OpR X (compareOp op) r) (ha : PE X a ta) (hb : PE X b tb) (hm : behindInMarks op b = false) : PT X (.Compare a [op] [b] pos) (tTest (tOp r ta tb)) := by
  intro pins s σ H Q I h
  refine wpAny_isTrue_Compare1 (thn (ha pins s σ H _ I h) fun v s1 ⟨x, H1, I1, r1, q1⟩ => thn (hb pins s1 σ H1 _ I1 q1) fun u s2 ⟨y, H2, I2, r2, q2⟩ =>
    thn (ho pins s2 σ H2 x y v u _ I2 r1 r2 q2) fun c s3 ⟨z, H3, I3, r3, k, e, q3⟩ => ?_) hm
  subst e
  cases r3
  exact wpAny_truthy_bool ⟨H3, I3, q3⟩
/-! ### truth -/
theorem line63 : (sizeLine : Nat) < 2 ^ 63 := by rw [sizeLine_eq]; decide
/-! ### strs and bytes -/
theorem op_add_str : OpR X (binaryOp .Add) (fun x y H Q => ∃ i j, x = .str i ∧ y = .str j ∧ i.length + j.length ≤ sizeLine ∧ Q (.str (i ++ j)) H) := by
  intro pins s σ H x y v u Q I rx ry h
  obtain ⟨i, j, rfl, rfl, hz, q⟩ := h
  obtain ⟨t, rfl⟩ := rx
  obtain ⟨t', rfl⟩ := ry
  exact add_str (fun t' tk => ⟨.str (i ++ j), H, I.tok _, ⟨_, rfl⟩, q⟩) hz
/-! ### scalar builtins, by CallR -/
theorem vals1 {x : V} {us : List Value} (r : Vals [x] us) : ∃ u, us = [u] ∧ RelV x u := by
  cases r with
  | cons r1 r2 => cases r2; exact ⟨_, rfl, r1⟩
theorem vals2 {x y : V} {us : List Value} (r : Vals [x, y] us) : ∃ u w', us = [u, w'] ∧ RelV x u ∧ RelV y w' := by
  cases r with
  | cons r1 r2 =>
    cases r2 with
    | cons r3 r4 => cases r4; exact ⟨_, _, rfl, r1, r3⟩
theorem call_str_int : CallR X (.type "str") (fun xs H Q => ∃ i, xs = [.int i] ∧ i.natAbs.log2 < 1920 ∧ Q (.str (toString i)) H) := by
  intro pins s σ H xs us Q I r h
  obtain ⟨i, rfl, hz, q⟩ := h
  obtain ⟨u, rfl, t, rfl⟩ := vals1 r
  exact PySem.P.str_of_int hz ⟨.str _, H, I.tok _, ⟨_, rfl⟩, q⟩
end
end L2

namespace L2
open PySem PySem.Spec PyProof.Rows

/-! ### an instance, its attributes a map -/
structure ObjM (h : Heap) (x dx C : Addr) (mA : Str → Option Value) : Prop where
  obj : h.get? x = some (PySem.W.instObj C dx)
  ns : h.Ns1 dx mA
  ne : dx ≠ x

theorem lookIn_ns {h : Heap} {dx : Addr} {mA : Str → Option Value} (n : h.Ns1 dx mA) : ∃ od, h.get? dx = some od ∧ ∀ name, PySem.W.lookIn name od = some (mA name) := by
  obtain ⟨o, es, ep, ho, hd, hk, _, hm⟩ := n
  refine ⟨o, ho, fun name => ?_⟩
  have e := hm name
  unfold nsFind findBy at e
  rw [← Array.find?_toList] at e
  unfold PySem.W.lookIn
  rw [hd]
  dsimp only
  split
  · rename_i y q
    rw [q] at e
    exact congrArg some e
  · rename_i q
    rw [q] at e
    have a : es.toList.any (·.refKey) = false := by
      rw [List.any_eq_false]
      intro y hy
      obtain ⟨z, t, hkey⟩ := hk y (Array.mem_toList_iff.mp hy)
      simp [DictEntry.refKey, hkey]
    have a' : ¬ es.toList.any (·.refKey) = true := by rw [a]; exact Bool.false_ne_true
    rw [if_neg a']
    exact congrArg some e

theorem ObjM.look {h : Heap} {x dx C : Addr} {mA : Str → Option Value} (I : ObjM h x dx C mA) : ∃ od, PySem.W.InstAt h x (PySem.W.instObj C dx) C (some od) ∧ ∀ name, PySem.W.lookIn name od = some (mA name) :=
  let ⟨od, ho, hl⟩ := lookIn_ns I.ns
  ⟨od, ⟨I.obj, rfl, rfl, ho⟩, hl⟩

section
variable {prog : Program} {w : World} {A : Around} {E : Value → Shared → Prop} {s : Shared} {K : PySem.W.Frag} {x dx C f : Addr} {mA : Str → Option Value} {name : Str} {v : Value}

theorem get_map {expr : Bool} {Q : Value → Shared → Prop} (X : K.In s.heap) (I : ObjM s.heap x dx C mA) (hg : PySem.W.plainGet K C name = true) (hh : PySem.W.hasDictIn K C = true)
    (ha : PySem.W.findIn K (.ref C) name = some none) (hv : mA name = some v) (hv' : PySem.W.handedIn v = true) (h : Q v { s with toks := s.toks + 1 }) :
    wpAny (model prog w) A (getAttr (.ref x) name expr) Q E s := by
  obtain ⟨od, J, hl⟩ := I.look
  exact PySem.W.get_value X J (PySem.W.plainGet_of hg).1 (PySem.W.findObj_own hh ha rfl (by rw [hl, hv])) hv' h

theorem get_meth {pl : Sem Bool} {Q : Value × List Value → Shared → Prop} (X : K.In s.heap) (I : ObjM s.heap x dx C mA) (hg : PySem.W.plainGet K C name = true)
    (hf : PySem.W.findIn K (.ref C) name = some (some (.ref f))) (ht : PySem.W.isFn K (.ref f) = true) (hv : mA name = none) (h : Q (.ref f, [.ref x]) s) :
    wpAny (model prog w) A (getMethod (.ref x) name pl) Q E s := by
  obtain ⟨od, J, hl⟩ := I.look
  exact PySem.W.method_fn X J (PySem.W.plainGet_of hg).1 (PySem.W.plainGet_of hg).2 hf (beq_iff_eq.mp ht) (by show (PySem.W.lookIn name od).map (·.isSome) = some false; rw [hl, hv]; rfl) h

theorem set_map {ns : List Str} {Q : Unit → Shared → Prop} (X : K.In s.heap) (I : ObjM s.heap x dx C mA)
    (hs : PySem.W.findIn K (.ref C) "__setattr__" = some (some (.builtin "object.__setattr__"))) (hp : PySem.W.plainOver K C = true) (ht : PySem.W.takerIn K C name = some none) (hh : PySem.W.hasDictIn K C = true)
    (hw : PySem.Within mA ns) (hsz : ns.length ≤ sizeLine)
    (h : ∀ h', ObjM h' x dx C (fun y => if y = name then some v else mA y) → Heap.SameBut dx s.heap h' → Q () { s with heap := h', toks := s.toks + 2 }) :
    wpAny (model prog w) A (setAttr (.ref x) name v) Q E s := by
  obtain ⟨od, J, hl⟩ := I.look
  refine PySem.W.set_plain X J hs (PySem.W.osa_open (s := { s with toks := s.toks + 1 }) (r := none) X J hp ht fun b => ?_)
  obtain ⟨cd, hc, hd'⟩ := PySem.W.any_some hh
  have hx : s.heap.get? x = some ⟨.ref C, some dx, .plain, #[]⟩ := I.obj
  refine wpAny_bind (wpAny_pure (wpAny_bind (wpAny_bind (wpAny_loadPart hx (wpAny_bind (PySem.W.Looks.here (s := { s with toks := s.toks + 1 }) (PySem.W.looks_clsIn X hc) ?_))))))
  rw [hd']
  refine wpAny_pure (a := some dx) (wpAny_bind (wpAny_pure (wpAny_bind ?_)))
  refine wpAny_nsSet1 (s := { s with toks := s.toks + 1 }) I.ns fun h' hn2 hs2 => ?_
  obtain ⟨oD, esD, epD, hoD, hdD, hcD⟩ := hn2.count (PySem.Within.cons name v hw)
  refine wpAny_bind (wpAny_lookBehind hoD (by rw [hdD]; exact pastItsLine_dict (Nat.le_trans hcD (by rw [List.length_cons]; omega))) ?_)
  exact wpAny_pure (h _ ⟨(hs2.2 _ (Ne.symm I.ne)).trans I.obj, hn2, I.ne⟩ hs2)

/-- C(..): the dict at the heap's end, the instance behind it; then its __init__ -/
theorem make_map {R : Result → Shared → Prop} {vs : List Value} {kw : List (Str × Value)} (X : K.In s.heap) (hm : PySem.W.makesIn K C = true)
    (hi : PySem.W.findIn K (.ref C) "__init__" = some (some (.ref f))) (hf : PySem.W.typeIn K (.ref f) = some (.type "function"))
    (h : codeAny (model prog w) (A.under (.builtin "type.__call__" ⟨.ref C :: vs, kw⟩)) (.call (.ref f) ⟨.ref (s.heap.objs.size + 1) :: vs, kw⟩) (PySem.W.InitBack (s.heap.objs.size + 1) R)
      { s with heap := (s.heap.push PySem.W.emptyDict).push (PySem.W.instObj C s.heap.objs.size) }) :
    codeAny (model prog w) A (.call (.ref C) ⟨vs, kw⟩) R s := by
  obtain ⟨hh, g, d, t, os⟩ := s
  exact PySem.W.make_core (PySem.W.makes_of X hm) (PySem.W.looks_findIn X hi) (fun self => PySem.W.bind_fn X self hf) (.inl rfl) h
end

/-! ### the attributes as a list of pairs -/
def putF (f : Str) (v : V) : List (Str × V) → List (Str × V)
  | [] => [(f, v)]
  | (g, x) :: r => if g = f then (g, v) :: r else (g, x) :: putF f v r
theorem lookup_putF (f g : Str) (v : V) : ∀ fs : List (Str × V), (putF f v fs).lookup g = if g = f then some v else fs.lookup g
  | [] => by
    show List.lookup g [(f, v)] = _
    by_cases h : g = f
    · have hb : (g == f) = true := beq_iff_eq.mpr h
      simp only [List.lookup, hb, if_pos h]
    · have hb : (g == f) = false := beq_eq_false_iff_ne.mpr h
      simp only [List.lookup, hb, if_neg h]
  | (k, x) :: r => by
    have ih := lookup_putF f g v r
    rw [show putF f v ((k, x) :: r) = (if k = f then (k, v) :: r else (k, x) :: putF f v r) from rfl]
    by_cases hk : k = f
    · rw [if_pos hk]
      by_cases h : g = k
      · have hb : (g == k) = true := beq_iff_eq.mpr h
        simp only [List.lookup, hb, if_pos (h.trans hk)]
      · have hb : (g == k) = false := beq_eq_false_iff_ne.mpr h
        simp only [List.lookup, hb, if_neg (fun e : g = f => h (e.trans hk.symm))]
    · rw [if_neg hk]
      by_cases h : g = k
      · have hb : (g == k) = true := beq_iff_eq.mpr h
        simp only [List.lookup, hb, if_neg (fun e : g = f => hk (h.symm.trans e))]
      · have hb : (g == k) = false := beq_eq_false_iff_ne.mpr h
        simp only [List.lookup, hb]
        exact ih
theorem keys_putF (f : Str) (v : V) : ∀ fs : List (Str × V), f ∈ (putF f v fs).map (·.1) ∧ ∀ g, g ∈ fs.map (·.1) → g ∈ (putF f v fs).map (·.1)
  | [] => ⟨by simp [putF], fun g h => by simp at h⟩
  | (k, x) :: r => by
    obtain ⟨i1, i2⟩ := keys_putF f v r
    rw [show putF f v ((k, x) :: r) = (if k = f then (k, v) :: r else (k, x) :: putF f v r) from rfl]
    by_cases hk : k = f
    · rw [if_pos hk]
      subst hk
      exact ⟨by simp, fun g h => by simpa using h⟩
    · rw [if_neg hk]
      refine ⟨?_, fun g h => ?_⟩
      · rw [List.map_cons]
        exact List.mem_cons_of_mem _ i1
      · rw [List.map_cons] at h ⊢
        rcases List.mem_cons.mp h with e | e
        · exact List.mem_cons.mpr (.inl e)
        · exact List.mem_cons_of_mem _ (i2 g e)
theorem length_putF (f : Str) (v : V) : ∀ fs : List (Str × V), (putF f v fs).length ≤ fs.length + 1
  | [] => by simp [putF]
  | (k, x) :: r => by
    have ih := length_putF f v r
    rw [show putF f v ((k, x) :: r) = (if k = f then (k, v) :: r else (k, x) :: putF f v r) from rfl]
    by_cases hk : k = f
    · rw [if_pos hk, List.length_cons, List.length_cons]; omega
    · rw [if_neg hk, List.length_cons, List.length_cons]; omega

theorem RelO.some_of {v : V} {o : Option Value} (r : RelO (some v) o) : ∃ u, o = some u ∧ RelV v u := by
  cases o with
  | none => exact (show False from r).elim
  | some u => exact ⟨u, rfl, r⟩
theorem RelO.none_of {o : Option Value} (r : RelO none o) : o = none := by
  cases o with
  | none => rfl
  | some u => exact (show False from r).elim
theorem handed_of {v : V} {u : Value} (r : RelV v u) : PySem.W.handedIn u = true := by
  cases v with
  | non => cases (show u = Value.none from r); rfl
  | bl b => cases (show u = Value.bool b from r); rfl
  | int i => obtain ⟨t, e⟩ := (show ∃ t, u = Value.int i t from r); cases e; rfl
  | str x => obtain ⟨t, e⟩ := (show ∃ t, u = Value.str x t from r); cases e; rfl
  | byt b => obtain ⟨t, e⟩ := (show ∃ t, u = Value.bytes b t from r); cases e; rfl
  | flt b => obtain ⟨t, e⟩ := (show ∃ t, u = Value.float b t from r); cases e; rfl
  | ref a => cases (show u = Value.ref a from r); rfl
  | ty n => cases (show u = Value.type n from r); rfl

section
variable {P : Program} {w : World} {H H' : Hp} {h h' : Heap} {a C dx : Addr} {fs fs' : List (Str × V)}
theorem ins_get (hok : HOk P w H h) (e : H a = some (.ins C dx fs)) : ∃ mA, ObjM h a dx C mA ∧ (∀ f, RelO (fs.lookup f) (mA f)) ∧ PySem.Within mA (fs.map (·.1)) ∧ fs.length ≤ 1000 ∧ H dx = some (.own a) := by
  obtain ⟨d, z, ne, ob, mA, n, r, q⟩ := (show ObjOk P w H h a (.ins C dx fs) from hok a _ e)
  exact ⟨mA, ⟨ob, n, ne⟩, r, q, z, d⟩
end

/-! ### what of the text a class must have -/
structure Cls (K : PySem.W.Frag) (C : Addr) : Prop where
  pg : PySem.W.plainGet K C Str.empty = true
  hd : PySem.W.hasDictIn K C = true
  po : PySem.W.plainOver K C = true
  sa : PySem.W.findIn K (.ref C) "__setattr__" = some (some (.builtin "object.__setattr__"))
theorem Cls.get {K : PySem.W.Frag} {C : Addr} (c : Cls K C) (f : Str) : PySem.W.plainGet K C f = true := c.pg
/-- no class of it has the name -/
def NoAttr (K : PySem.W.Frag) (C : Addr) (f : Str) : Prop := PySem.W.findIn K (.ref C) f = some none
theorem NoAttr.taker {K : PySem.W.Frag} {C : Addr} {f : Str} (n : NoAttr K C f) : PySem.W.takerIn K C f = some none := by
  unfold PySem.W.takerIn
  rw [show PySem.W.findIn K (.ref C) f = some none from n]
  rfl
/-- a constant of the class -/
structure Con (K : PySem.W.Frag) (C : Addr) (f : Str) (v : V) (u : Value) : Prop where
  at_ : PySem.W.findIn K (.ref C) f = some (some u)
  rel : RelV v u
  get : PySem.W.specialIn K u "__get__" = some none
  cp : PySem.W.copiedNames.contains f = false
/-- a method: a plain def of the class or of one above it -/
structure Meth (K : PySem.W.Frag) (C : Addr) (m : Str) (f : Addr) : Prop where
  at_ : PySem.W.findIn K (.ref C) m = some (some (.ref f))
  fn : PySem.W.isFn K (.ref f) = true
  kp : PySem.W.keepIn K (.ref f) = true

section
variable {X : Cx} {pins : List (Addr × Obj)} {σ : St} {H : Hp} {s : Shared} {a C dx : Addr} {fs : List (Str × V)} {f : Str} {v : V} {A : Around} {E : Value → Shared → Prop}

theorem getattr_ok {b : Bool} {Q : Value → Shared → Prop} (I : Inv X pins σ H s) (e : H a = some (.ins C dx fs)) (c : Cls X.K C) (n : NoAttr X.K C f) (l : fs.lookup f = some v)
    (h : ∀ u s', Inv X pins σ H s' → RelV v u → Q u s') : wpAny (model X.prog X.w) A (getAttr (.ref a) f b) Q E s := by
  obtain ⟨mA, O, r, _, _, _⟩ := ins_get I.hok e
  obtain ⟨u, hu, ru⟩ := RelO.some_of (v := v) (o := mA f) (by rw [← l]; exact r f)
  exact get_map I.kIn O (c.get f) c.hd n hu (handed_of ru) (h u _ (I.tok _) ru)

theorem getmeth_ok {m : Str} {g : Addr} {pl : Sem Bool} {Q : Value × List Value → Shared → Prop} (I : Inv X pins σ H s) (e : H a = some (.ins C dx fs)) (c : Cls X.K C) (k : Meth X.K C m g) (l : fs.lookup m = none)
    (h : Q (.ref g, [.ref a]) s) : wpAny (model X.prog X.w) A (getMethod (.ref a) m pl) Q E s := by
  obtain ⟨mA, O, r, _, _, _⟩ := ins_get I.hok e
  have hn : mA m = none := RelO.none_of (by rw [← l]; exact r m)
  exact get_meth I.kIn O (c.get m) k.at_ k.fn hn h

theorem setattr_ok {y : V} {u : Value} {Q : Unit → Shared → Prop} (I : Inv X pins σ H s) (e : H a = some (.ins C dx fs)) (c : Cls X.K C) (n : NoAttr X.K C f) (hl : fs.length < 1000) (ry : RelV y u)
    (h : ∀ s', Inv X pins σ (upd H a (.ins C dx (putF f y fs))) s' → Q () s') : wpAny (model X.prog X.w) A (setAttr (.ref a) f u) Q E s := by
  obtain ⟨mA, O, r, wi, _, ho⟩ := ins_get I.hok e
  have hz : (fs.map (·.1)).length ≤ sizeLine := by rw [List.length_map, sizeLine_eq]; omega
  refine set_map I.kIn O c.sa c.po n.taker c.hd wi hz fun h' O' sb => h _ ?_
  have hd : ∃ o, h'.get? dx = some o := let ⟨o, _, _, e', _⟩ := O'.ns; ⟨o, e'⟩
  refine I.write (x := a) (e := dx) (by rw [e]; exact True.intro) (.inr ho) (fun b q hb z => (sb.2 b hb).trans z) hd ?_
  refine ⟨by rw [upd_ne O.ne]; exact ho, ?_, O.ne, O'.obj, _, O'.ns, fun g => ?_, fun g hg => ?_⟩
  · have := length_putF f y fs; omega
  · show RelO ((putF f y fs).lookup g) (if g = f then some u else mA g)
    rw [lookup_putF]
    by_cases q : g = f
    · rw [if_pos q, if_pos q]; exact ry
    · rw [if_neg q, if_neg q]; exact r g
  · by_cases q : g = f
    · rw [q]; exact (keys_putF f y fs).1
    · refine (keys_putF f y fs).2 g (wi g fun z => hg ?_)
      show (if g = f then some u else mA g) = none
      rw [if_neg q]; exact z

/-- a new instance, tracked, without attributes -/
theorem Inv.made (I : Inv X pins σ H s) : Inv X pins σ (upd (upd H s.heap.objs.size (.own (s.heap.objs.size + 1))) (s.heap.objs.size + 1) (.ins C s.heap.objs.size []))
    { s with heap := (s.heap.push PySem.W.emptyDict).push (PySem.W.instObj C s.heap.objs.size) } := by
  have e1 : (s.heap.push PySem.W.emptyDict).get? s.heap.objs.size = some PySem.W.emptyDict := Heap.get?_push_size s.heap rfl
  have e2 : ((s.heap.push PySem.W.emptyDict).push (PySem.W.instObj C s.heap.objs.size)).get? (s.heap.objs.size + 1) = some (PySem.W.instObj C s.heap.objs.size) := by
    have := Heap.get?_push_size (s.heap.push PySem.W.emptyDict) (o := PySem.W.instObj C s.heap.objs.size) rfl
    rwa [Heap.size_push] at this
  have e3 : (s.heap.push PySem.W.emptyDict).Ns s.heap.objs.size (fun _ => none) := ⟨PySem.W.emptyDict, #[], _, e1, rfl, (fun e he => absurd he (by simp)), fun _ => rfl⟩
  have I1 := I.laid (a := s.heap.objs.size) (o := .own (s.heap.objs.size + 1)) (h' := s.heap.push PySem.W.emptyDict) (t' := s.toks) (fun b u q => Heap.get?_push_of_some _ q) (Nat.le_refl _) ⟨_, e1⟩
  refine I1.laid (a := s.heap.objs.size + 1) (o := .ins C s.heap.objs.size []) (t' := s.toks) (fun b u q => Heap.get?_push_of_some _ q) (Nat.le_of_eq (Heap.size_push _ _)) ?_
  have ne : s.heap.objs.size ≠ s.heap.objs.size + 1 := Nat.ne_of_lt (Nat.lt_succ_self _)
  refine ⟨by rw [upd_ne ne, upd_same], Nat.zero_le _, ne, e2, fun _ => none, (Heap.Ns1.of_empty e3).at fun o q => Heap.get?_push_of_some _ q, fun _ => True.intro, fun y hy => absurd rfl hy⟩

/-- e.f where nothing but the object is asked: through attributeBase (super) and the last hold -/
theorem attr_of {prog : Program} {w : World} {env : Env} {e : Expr} {f : Str} {pos : Pos} {s : Shared} {Q : Value → Shared → Prop} (hb : attributeBase e f env (eval e env) = eval e env)
    (h : wpAny (model prog w) A (eval e env) (fun o s₁ => wpAny (model prog w) A (getAttr o f true) Q E s₁) E s) : wpAny (model prog w) A (eval (.Attribute e f pos) env) Q E s :=
  Attribute_any_ h (by rw [arm_eval_Attribute, hb])
end

/-! ### readings and rules -/
/-- e.f, an attribute of the instance -/
def tFld (K : PySem.W.Frag) (ta : TE) (f : Str) : TE := fun σ H Q => ta σ H fun x H1 => ∃ a C dx fs v, x = .ref a ∧ H1 a = some (.ins C dx fs) ∧ Cls K C ∧ NoAttr K C f ∧ fs.lookup f = some v ∧ Q v H1
/-- e.f = value -/
def sFld (K : PySem.W.Frag) (ta tv : TE) (f : Str) : TS := fun D σ H => tv σ H fun y H1 => ta σ H1 fun x H2 => ∃ a C dx fs, x = .ref a ∧ H2 a = some (.ins C dx fs) ∧ Cls K C ∧ NoAttr K C f ∧ fs.length < 1000 ∧
  D.nx σ (upd H2 a (.ins C dx (putF f y fs)))
section
variable {X : Cx} {o e value : Expr} {f : Str} {pos pos' tpos : Pos} {ta tv : TE}
theorem pe_fld (he : PE X e ta) (hb : attributeBase e f X.env (eval e X.env) = eval e X.env) : PE X (.Attribute e f pos) (tFld X.K ta f) := by
  intro pins s σ H Q I h
  refine attr_of hb (thn (he pins s σ H _ I h) fun u s1 ⟨x, H1, I1, rx, a, C, dx, fs, v, ex, ea, c, n, l, q⟩ => ?_)
  subst ex
  obtain rfl : u = Value.ref a := rx
  exact getattr_ok I1 ea c n l fun u' s2 I2 ru => ⟨v, H1, I2, ru, q⟩
theorem ps_fld (ha : PE X o ta) (hv : PE X value tv) (hs : swapsWith value (some (.Attribute o f pos')) pos.line X.env = pure false) : PS X (.Assign [.Attribute o f pos'] value pos) (sFld X.K ta tv f) := by
  intro pins s σ H D I h
  refine plainObj_wpAny_Assign_Attribute (thn (hv pins s σ H _ I h) fun u s1 ⟨y, H1, I1, ry, q⟩ => thn (ha pins s1 σ H1 _ I1 q) fun ov s2 ⟨x, H2, I2, rx, a, C, dx, fs, ex, ea, c, n, l, q2⟩ => ?_) hs
  subst ex
  obtain rfl : ov = Value.ref a := rx
  exact setattr_ok I2 ea c n l ry fun s3 I3 => ⟨σ, _, I3, q2⟩
/-- what is between an instance and its method: the tree of a method call -/
theorem methcall_of {pl : Sem Bool} {m : Str} {apos : Pos} {args : List Expr} {pins : List (Addr × Obj)} {s : Shared} {σ : St} {H : Hp} {Q : Value → Shared → Prop} {te : TE} (he : PE X e te) (I : Inv X pins σ H s)
    (h : te σ H fun x H1 => ∃ a C dx fs g, x = .ref a ∧ H1 a = some (.ins C dx fs) ∧ Cls X.K C ∧ Meth X.K C m g ∧ fs.lookup m = none ∧
      ∀ s1, Inv X pins σ H1 s1 → wpAny (model X.prog X.w) X.A (callWith pos (.ref g) [.ref a] (backTo pos (starEach args X.env)) (backToKw pos (keywordEach [] X.env))) Q X.xe s1)
    (ht : eval (.Call (.Attribute e m apos) args [] pos) X.env = (do
      let ov ← eval e X.env
      standAt apos.atName
      let (f, first) ← holding [ov] (getMethod ov m pl)
      callWith pos f first (backTo pos (starEach args X.env)) (backToKw pos (keywordEach [] X.env)))) :
    wpAny (model X.prog X.w) X.A (eval (.Call (.Attribute e m apos) args [] pos) X.env) Q X.xe s := by
  refine PySem.W.methodCall_KW (pl := pl) (thn (he pins s σ H _ I h) fun u s1 ⟨x, H1, I1, rx, a, C, dx, fs, g, ex, ea, c, k, l, q⟩ => ?_) ht
  subst ex
  obtain rfl : u = Value.ref a := rx
  exact getmeth_ok I1 ea c k l (q s1 I1)
end

/-! ### isinstance -/
section
variable {X : Cx} {pins : List (Addr × Obj)} {σ : St} {H : Hp} {s : Shared} {A : Around} {E : Value → Shared → Prop} {Q : Value → Shared → Prop} {c : Value} {b : Bool}
/-- the type of a value, as the fragment's deciders take it; for an instance its class -/
inductive TyOf (K : PySem.W.Frag) (H : Hp) : V → Value → Prop where
  | non : TyOf K H .non (.type "NoneType")
  | bl (x : Bool) : TyOf K H (.bl x) (.type "bool")
  | int (i : Int) : TyOf K H (.int i) (.type "int")
  | str (x : Str) : TyOf K H (.str x) (.type "str")
  | flt (x : UInt64) : TyOf K H (.flt x) (.type "float")
  | lst {a : Addr} {xs : List V} (e : H a = some (.lst xs)) : TyOf K H (.ref a) (.type "list")
  | frz {a : Addr} {o : Obj} {xs : List V} (e : H a = some (.frz o (.lst xs))) : TyOf K H (.ref a) (.type "list")
  | tup {a : Addr} {xs : List V} (e : H a = some (.tup xs)) : TyOf K H (.ref a) (.type "tuple")
  | dK {a : Addr} {kvs : List (Key × V)} (e : H a = some (.dK kvs)) : TyOf K H (.ref a) (.type "dict")
  | dT {a : Addr} {kvs : List (List Key × V)} (e : H a = some (.dT kvs)) : TyOf K H (.ref a) (.type "dict")
  | ins {a C dx : Addr} {fs : List (Str × V)} (e : H a = some (.ins C dx fs)) (cl : Cls K C) (ha : PySem.W.findIn K (.ref C) "__class__" = some (some (.builtin "object.__class__")))
      (hn : PySem.W.specialIn K (.builtin "object.__class__") "__get__" = some (some (.builtin "getset_descriptor.__get__"))) (htk : PySem.W.takesIn K (.builtin "object.__class__") = some true)
      (hm : PySem.W.mroIn K C (.type "object") = some true) : TyOf K H (.ref a) (.ref C)
/-- isinstance(x, c) for one class c, a built-in or an own one: kitOne's answer -/
theorem isinst_ok {x : V} {u t : Value} (I : Inv X pins σ H s) (rx : RelV x u) (ty : TyOf X.K H x t) (e : PySem.W.kitOne X.K t c = some b) (h : ∀ tk, Q (.bool b) { s with toks := tk }) :
    wpAny (model X.prog X.w) A (call (.builtin "isinstance") [u, c]) Q E s := by
  cases ty with
  | non => cases (show u = Value.none from rx); exact PySem.W.kia_one PySem.W.kitx_none I.kIn True.intro e (fun z => nomatch z) h
  | bl y => cases (show u = Value.bool y from rx); exact PySem.W.kia_one PySem.W.kitx_bool I.kIn True.intro e (fun z => nomatch z) h
  | int i => obtain ⟨t, q⟩ := (show ∃ t, u = Value.int i t from rx); cases q; exact PySem.W.kia_one PySem.W.kitx_int I.kIn True.intro e (fun z => nomatch z) h
  | str y => obtain ⟨t, q⟩ := (show ∃ t, u = Value.str y t from rx); cases q; exact PySem.W.kia_one PySem.W.kitx_str I.kIn True.intro e (fun z => nomatch z) h
  | flt y => obtain ⟨t, q⟩ := (show ∃ t, u = Value.float y t from rx); cases q; exact PySem.W.kia_one PySem.W.kitx_float I.kIn True.intro e (fun z => nomatch z) h
  | @lst a xs ea =>
    cases (show u = Value.ref a from rx)
    obtain ⟨_, _, n, _, h1⟩ := (show ObjOk X.prog X.w H s.heap a (.lst xs) from I.hok a _ ea)
    exact PySem.W.kia_one PySem.W.kitx_list I.kIn ⟨_, h1, rfl⟩ e (fun z => nomatch z) h
  | @frz a ob xs ea =>
    cases (show u = Value.ref a from rx)
    obtain ⟨_, _, _, n, _, h1⟩ := (show ObjOk X.prog X.w H s.heap a (.frz ob (.lst xs)) from I.hok a _ ea)
    exact PySem.W.kia_one PySem.W.kitx_list I.kIn ⟨_, h1, rfl⟩ e (fun z => nomatch z) h
  | @tup a xs ea =>
    cases (show u = Value.ref a from rx)
    obtain ⟨_, _, _, p⟩ := (show ObjOk X.prog X.w H s.heap a (.tup xs) from I.hok a _ ea)
    obtain ⟨o, h1, h2, _⟩ := p
    exact PySem.W.kia_one PySem.W.kitx_tuple I.kIn ⟨o, h1, h2⟩ e (fun z => nomatch z) h
  | @dK a kvs ea =>
    cases (show u = Value.ref a from rx)
    obtain ⟨_, _, vs, _, p⟩ := (show ObjOk X.prog X.w H s.heap a (.dK kvs) from I.hok a _ ea)
    obtain ⟨o, es, ep, h1, h2, _⟩ := p
    exact PySem.W.kia_one PySem.W.kitx_dict I.kIn ⟨o, h1, h2.1⟩ e (fun z => nomatch z) h
  | @dT a kvs ea =>
    cases (show u = Value.ref a from rx)
    obtain ⟨_, _, xs, _, o, es, ep, h1, h2, _⟩ := (show ObjOk X.prog X.w H s.heap a (.dT kvs) from I.hok a _ ea)
    exact PySem.W.kia_one PySem.W.kitx_dict I.kIn ⟨o, h1, h2.1⟩ e (fun z => nomatch z) h
  | @ins a C dx fs ea cl ha hn htk hm =>
    cases (show u = Value.ref a from rx)
    obtain ⟨mA, O, _⟩ := ins_get I.hok ea
    obtain ⟨od, J, _⟩ := O.look
    exact PySem.W.kia_one (PySem.W.kitx_own (cl.get _) cl.hd ha hn htk hm) I.kIn J e (fun z => nomatch z) h
end
end L2

namespace L2
open PySem PySem.Spec PyProof.Rows

/-! ### room -/
structure Room (k : Nat) (A : Around) : Prop where
  hd : A.handled = none
  dp : A.depth + 3 * k + 5 < recursionLimit
  un : A.units + 16 * k + 200 < cLine
theorem Room.mono {j k : Nat} {A : Around} (r : Room k A) (h : j ≤ k) : Room j A := ⟨r.hd, by have := r.dp; omega, by have := r.un; omega⟩
theorem Room.deeper {k : Nat} {A : Around} (r : Room (k + 1) A) (env : Env) : Room k (A.deeper env) :=
  ⟨r.hd, by have := r.dp; show A.depth + 1 + 3 * k + 5 < _; omega, by have := r.un; show A.units + 3 + 16 * k + 200 < _; omega⟩
theorem Room.in1 {k : Nat} {A : Around} (r : Room (k + 1) A) : Room k A.in1 :=
  ⟨r.hd, by have := r.dp; show A.depth + 3 * k + 5 < _; omega, by have := r.un; show A.units + 1 + 16 * k + 200 < _; omega⟩
theorem make_depth {A : Around} {C : Addr} {us : List Value} {kw : List (Str × Value)} : (A.under (.builtin "type.__call__" ⟨.ref C :: us, kw⟩)).depth = A.depth + 1 := by
  first | rfl | simp [Around.under, Code.weight, Code.isCreation, Code.isGuard, Code.isCaller, Code.frames, Code.isFrame, guardIds]
theorem make_units {A : Around} {C : Addr} {us : List Value} {kw : List (Str × Value)} : (A.under (.builtin "type.__call__" ⟨.ref C :: us, kw⟩)).units = A.units + 1 := by
  first | rfl | simp [Around.under, Code.cUnits, Code.frames, Code.isFrame]
theorem Room.make {k : Nat} {A : Around} (r : Room (k + 1) A) (C : Addr) (us : List Value) (kw : List (Str × Value)) : Room k (A.under (.builtin "type.__call__" ⟨.ref C :: us, kw⟩)) :=
  ⟨r.hd, by have := r.dp; rw [make_depth]; omega, by have := r.un; rw [make_units]; omega⟩
theorem Room.depth {k : Nat} {A : Around} (r : Room k A) : A.depth < recursionLimit := by have := r.dp; omega
theorem Room.units {k : Nat} {A : Around} (r : Room k A) : A.units + 64 < cLine := by have := r.un; omega
/-! ### argument lists and displays -/
def tNil : TA := fun _ H Q => Q [] H
def tCons (ta : TE) (tr : TA) : TA := fun σ H Q => ta σ H fun x H1 => tr σ H1 fun xs H2 => Q (x :: xs) H2
section
variable {X : Cx} {e : Expr} {es : List Expr} {te : TE} {t : TA} {pos : Pos}
theorem pa_nil : PA X [] tNil := fun _ _ _ _ H Q I h => Calls.spliced_nil ⟨[], H, I, .nil, h⟩
theorem pa_cons (ha : PE X e te) (hr : PA X es t) (hs : starEach (e :: es) X.env = (false, eval e X.env) :: starEach es X.env := by rfl) : PA X (e :: es) (tCons te t) := by
  intro pos pins s σ H Q I h
  rw [hs]
  show wpAny _ _ (spliced ((false, eval e X.env) :: backTo pos (starEach es X.env))) _ _ s
  refine Calls.spliced_cons (thn (ha pins s σ H _ I h) fun u s1 ⟨x, H1, I1, r1, q1⟩ => ?_)
  exact thn (hr pos pins s1 σ H1 _ I1 q1) fun us s2 ⟨xs, H2, I2, r2, q2⟩ => ⟨x :: xs, H2, I2, .cons r1 r2, q2⟩

def tLst (t : TA) : TE := fun σ H Q => t σ H fun xs H1 => xs.length ≤ sizeLine ∧ ∀ p, H1 p = none → Q (.ref p) (upd H1 p (.lst xs))
theorem pe_lst (h : PA X es t) : PE X (.List es pos) (tLst t) := by
  intro pins s σ H Q I hq
  refine wpAny_List_spliced (thn (h pos pins s σ H _ I hq) fun us s1 ⟨xs, H1, I1, r, z, q⟩ => ⟨by rw [← r.length]; exact z, ?_⟩)
  have hf : H1 s1.heap.objs.size = none := I1.hok.fresh (Nat.le_refl _)
  refine ⟨.ref s1.heap.objs.size, upd H1 s1.heap.objs.size (.lst xs), I1.laid (t' := s1.toks) (fun b u e => Heap.get?_push_of_some _ e) (Nat.le_refl _) ?_, rfl, q _ hf⟩
  exact ⟨z, us, 0, r, Heap.get?_push_size _ rfl⟩
end

/-! ### what a def promises -/
/-- a def's promise: the bound arguments in the parameters' order, the heap, the wanted end, the wanted exception -/
abbrev Sp := List V → Hp → VK → XK → Prop
/-- how an exception lies behind a call (file 08 gives it): the callers' frames, abstract heap and state ahead of the call, the wish, the exception, the state -/
abbrev CXT := List Env → Hp → Shared → XK → Value → Shared → Prop

/-- the state at a call -/
structure Env0 (P : Program) (w : World) (K : PySem.W.Frag) (mg : Str → Option Value) (base : Heap) (A : Around) (outer : List Env) (s : Shared) (H : Hp) : Prop where
  frames : A.frames = some outer
  mod : Mod K mg base
  bs : ∀ b o, base.get? b = some o → s.heap.get? b = some o ∧ H b = none
  bsz : base.objs.size ≤ s.heap.objs.size
  funs : s.heap.FunFrames base outer
  frf : ∀ b ∈ frs outer, H b = none
  hok : HOk P w H s.heap
  bare : AllBare s.gens
/-- a call's end -/
def CE (outer : List Env) (P : Program) (w : World) (H : Hp) (s : Shared) (Q : VK) (u : Value) (s' : Shared) : Prop :=
  ∃ v H', s'.os = s.os ∧ AllBare s'.gens ∧ Un (frs outer) [] H H' s.heap s'.heap ∧ HOk P w H' s'.heap ∧ RelV v u ∧ Q v H'
def CR (CX : CXT) (outer : List Env) (P : Program) (w : World) (H : Hp) (s : Shared) (Q : VK) (E : XK) (r : Result) (s' : Shared) : Prop :=
  match r with
  | .ok (.ret u) => CE outer P w H s Q u s'
  | .ok _ => False
  | .error e => CX outer H s E e s'
structure FnOk (P : Program) (w : World) (K : PySem.W.Frag) (mg : Str → Option Value) (base : Heap) (CX : CXT) (k : Nat) (f : Addr) (fd : FuncData) (ps : List Str) (sp : Sp) : Prop where
  len : ∀ vs H Q E, sp vs H Q E → vs.length = ps.length
  run : ∀ (A : Around) (outer : List Env) (s : Shared) (H : Hp) (args : Args) (us : List Value) (vs : List V) (Q : VK) (E : XK), Room k A → Env0 P w K mg base A outer s H → BindsTo s fd args (ps.zip us) → Vals vs us → sp vs H Q E →
    codeAny (model P w) A (.call (.ref f) args) (CR CX outer P w H s Q E) s
theorem FnOk.mono {P : Program} {w : World} {K : PySem.W.Frag} {mg : Str → Option Value} {base : Heap} {CX : CXT} {j k : Nat} {f : Addr} {fd : FuncData} {ps : List Str} {sp : Sp} (F : FnOk P w K mg base CX j f fd ps sp) (h : j ≤ k) :
    FnOk P w K mg base CX k f fd ps sp := ⟨F.len, fun A outer s H args us vs Q E hr => F.run A outer s H args us vs Q E (hr.mono h)⟩
theorem Env0.make {P : Program} {w : World} {K : PySem.W.Frag} {mg : Str → Option Value} {base : Heap} {A : Around} {outer : List Env} {s : Shared} {H : Hp} (e : Env0 P w K mg base A outer s H) (C : Addr) (us : List Value) (kw : List (Str × Value)) :
    Env0 P w K mg base (A.under (.builtin "type.__call__" ⟨.ref C :: us, kw⟩)) outer s H := ⟨by first | exact e.frames | (simpa [Around.under, Code.envs, Code.isFrame, pushEnvs] using e.frames), e.mod, e.bs, e.bsz, e.funs, e.frf, e.hok, e.bare⟩
theorem Env0.in1 {P : Program} {w : World} {K : PySem.W.Frag} {mg : Str → Option Value} {base : Heap} {A : Around} {outer : List Env} {s : Shared} {H : Hp} (e : Env0 P w K mg base A outer s H) :
    Env0 P w K mg base A.in1 outer s H := ⟨e.frames, e.mod, e.bs, e.bsz, e.funs, e.frf, e.hok, e.bare⟩

section
variable {X : Cx} {pins : List (Addr × Obj)} {σ : St} {H : Hp} {s s' : Shared}
/-- from a body: what a callee wants -/
theorem Inv.env0 (I : Inv X pins σ H s) : Env0 X.prog X.w X.K X.mg X.base X.A X.stack s H :=
  ⟨I.ok.frames, I.ok.mod, I.bs, Nat.le_trans I.ok.bsz I.sz, I.stack, I.stkFree, I.hok, I.bare⟩
/-- behind a call -/
theorem Inv.after {Q : VK} {u : Value} (I : Inv X pins σ H s) (h : CE X.stack X.prog X.w H s Q u s') : EP X pins σ Q u s' := by
  obtain ⟨v, H', os, bare, un, hok, r, q⟩ := h
  obtain ⟨hh, g, d, t, os'⟩ := s'
  obtain rfl : os' = s.os := os
  exact ⟨v, H', I.call (h' := hh) (g' := g) (d' := d) (t' := t) (ch := []) un hok bare (fun b z => absurd z (by simp)), r, q⟩
end

/-! ### calls -/
/-- f(..): the written arguments, then the defaults dvs; E: what is wanted of an exception -/
def tCall (sp : Sp) (dvs : List V) (E : XK) (t : TA) : TE := fun σ H Q => t σ H fun vs H1 => sp (vs ++ dvs) H1 Q E
/-- o.m(..) of an instance of the class at C -/
def tMeth (C : Addr) (m : Str) (sp : Sp) (dvs : List V) (E : XK) (ta : TE) (t : TA) : TE := fun σ H Q => ta σ H fun x H1 => ∃ a dx fs, x = .ref a ∧ H1 a = some (.ins C dx fs) ∧ fs.lookup m = none ∧
  t σ H1 fun vs H2 => sp (x :: (vs ++ dvs)) H2 Q E
/-- C(..): a new instance and its dict, then __init__ -/
def tMake (C : Addr) (sp : Sp) (dvs : List V) (E : XK) (t : TA) : TE := fun σ H Q => t σ H fun vs H1 => ∀ x dx, H1 x = none → H1 dx = none → dx ≠ x →
  sp (.ref x :: (vs ++ dvs)) (upd (upd H1 dx (.own x)) x (.ins C dx [])) (fun v H2 => v = .non ∧ Q (.ref x) H2) E

/-- how the parameters are bound: us the positional arguments, kw the keywords' values by name, ds the defaults that fill up -/
def Binds (K : PySem.W.Frag) (fd : FuncData) (ps : List Str) (ds : List Value) : Prop :=
  ∀ (s : Shared) (us : List Value), K.In s.heap → (us ++ ds).length = ps.length → BindsTo s fd ⟨us, []⟩ (ps.zip (us ++ ds))
/-- every parameter is given -/
theorem Binds.all {K : PySem.W.Frag} {fd : FuncData} {ps : List Str} (h : ∀ us : List Value, us.length = ps.length → bindArgs fd ⟨us, []⟩ = pure (ps.zip us)) : Binds K fd ps [] := fun s us _ hl => by
  rw [List.append_nil] at hl ⊢
  exact .of_eq (h us hl)

/-- an exception of a callee reaches what this body wants of exceptions -/
def Passes (CX : CXT) (X : Cx) (E : XK) : Prop := ∀ (pins : List (Addr × Obj)) (σ : St) (H : Hp) (s : Shared) (e : Value) (s' : Shared), Inv X pins σ H s → CX X.stack H s E e s' → X.xe e s'

section
variable {X : Cx} {CX : CXT} {k : Nat} {f C : Addr} {fd : FuncData} {ps : List Str} {sp : Sp} {dvs : List V} {ds : List Value} {E : XK} {x m : Str} {p pos apos : Pos} {e o : Expr} {es : List Expr} {ta : TE} {t : TA}

/-- the callee runs -/
theorem run_fn {pins : List (Addr × Obj)} {σ : St} {H : Hp} {s : Shared} {Q : VK} {us : List Value} {vs : List V} (F : FnOk X.prog X.w X.K X.mg X.base CX k f fd ps sp) (hr : Room k X.A) (hb : Binds X.K fd ps ds) (hd : Vals dvs ds) (hx : Passes CX X E)
    (I : Inv X pins σ H s) (r : Vals vs us) (h : sp (vs ++ dvs) H Q E) : wpAny (model X.prog X.w) X.A (call (.ref f) us) (EP X pins σ Q) X.xe s := by
  have r2 : Vals (vs ++ dvs) (us ++ ds) := r.append hd
  have hl : (us ++ ds).length = ps.length := by rw [← r2.length]; exact F.len _ _ _ _ h
  refine wpAny_call (codeAny_mono (F.run X.A X.stack s H ⟨us, []⟩ (us ++ ds) (vs ++ dvs) Q E hr I.env0 (hb s us I.kIn hl) r2 h) fun r s' hq => ?_)
  cases r with
  | error e => exact hx pins σ H s e s' I hq
  | ok fl =>
    cases fl with
    | ret u => exact I.after hq
    | next => exact False.elim hq
    | brk => exact False.elim hq
    | cont => exact False.elim hq

theorem pe_call (F : FnOk X.prog X.w X.K X.mg X.base CX k f fd ps sp) (hr : Room k X.A) (hg : Gl X x) (hm : X.mg x = some (.ref f)) (hk : PySem.W.keepIn X.K (.ref f) = true) (hb : Binds X.K fd ps ds) (hd : Vals dvs ds) (hx : Passes CX X E)
    (ha : PA X (e :: es) t) (hdb : (x == ("__debug__" : Str)) = false := by decide) (he : starEach (e :: es) X.env = (false, eval e X.env) :: starEach es X.env := by rfl) (hpl : (backTo pos (starEach es X.env)).any (·.1) = false := by rfl) :
    PE X (.Call (.Name x p) (e :: es) [] pos) (tCall sp dvs E t) := by
  intro pins s σ H Q I h
  refine wpAny_Call_Name_kw (ld_glob I hg hm ?_ hdb)
  refine PySem.W.callWith_K (h₀ := X.base) I.ok.mod.kin hk (thn (ha pos pins s σ H _ I h) fun us s1 ⟨vs, H1, I1, r, q⟩ => ⟨I1.kIn, ?_⟩) he hpl
  exact run_fn F hr hb hd hx I1 r q
/-- o.m() -/
theorem pe_meth0 {pl : Sem Bool} (he : PE X o ta) (c : Cls X.K C) (hm : Meth X.K C m f) (F : FnOk X.prog X.w X.K X.mg X.base CX k f fd ps sp) (hr : Room k X.A) (hb : Binds X.K fd ps ds) (hd : Vals dvs ds) (hx : Passes CX X E)
    (ht : eval (.Call (.Attribute o m apos) [] [] pos) X.env = (do
      let ov ← eval o X.env
      standAt apos.atName
      let (f, first) ← holding [ov] (getMethod ov m pl)
      callWith pos f first (backTo pos (starEach [] X.env)) (backToKw pos (keywordEach [] X.env))) := by rfl) :
    PE X (.Call (.Attribute o m apos) [] [] pos) (tMeth C m sp dvs E ta tNil) := by
  intro pins s σ H Q I h
  refine PySem.W.methodCall_KW (pl := pl) (thn (he pins s σ H _ I h) fun u s1 ⟨x, H1, I1, rx, a, dx, fs, ex, ea, l, q⟩ => ?_) ht
  subst ex
  obtain rfl : u = Value.ref a := rx
  refine getmeth_ok I1 ea c hm l ?_
  exact PySem.W.callWith_K0 (first := [.ref a]) I1.kIn hm.kp (run_fn (us := [.ref a]) (vs := [.ref a]) F hr hb hd hx I1 (.cons rfl .nil) q)

/-- what a class must have to be made -/
structure Mk (K : PySem.W.Frag) (C f : Addr) : Prop where
  makes : PySem.W.makesIn K C = true
  init : PySem.W.findIn K (.ref C) "__init__" = some (some (.ref f))
  fn : PySem.W.isFn K (.ref f) = true
  kp : PySem.W.keepIn K (.ref C) = true

theorem run_make {pins : List (Addr × Obj)} {σ : St} {H : Hp} {s : Shared} {Q : VK} {us : List Value} {vs : List V} (M : Mk X.K C f) (F : FnOk X.prog X.w X.K X.mg X.base CX k f fd ps sp) (hr : Room (k + 1) X.A) (hb : Binds X.K fd ps ds) (hd : Vals dvs ds)
    (hx : Passes CX X E) (I : Inv X pins σ H s) (r : Vals vs us)
    (h : ∀ x dx, H x = none → H dx = none → dx ≠ x → sp (.ref x :: (vs ++ dvs)) (upd (upd H dx (.own x)) x (.ins C dx [])) (fun v H2 => v = .non ∧ Q (.ref x) H2) E) :
    wpAny (model X.prog X.w) X.A (call (.ref C) us) (EP X pins σ Q) X.xe s := by
  have hq := h (s.heap.objs.size + 1) s.heap.objs.size (I.hok.fresh (Nat.le_succ _)) (I.hok.fresh (Nat.le_refl _)) (Nat.ne_of_lt (Nat.lt_succ_self _))
  have I2 := Inv.made (C := C) I
  have r2 : Vals (V.ref (s.heap.objs.size + 1) :: (vs ++ dvs)) (Value.ref (s.heap.objs.size + 1) :: (us ++ ds)) := .cons rfl (r.append hd)
  have hl : (Value.ref (s.heap.objs.size + 1) :: us ++ ds).length = ps.length := by
    have e := r2.length
    rw [F.len _ _ _ _ hq] at e
    exact e.symm
  refine wpAny_call (make_map (f := f) I.kIn M.makes M.init (beq_iff_eq.mp M.fn) (codeAny_mono (F.run _ X.stack _ _ ⟨Value.ref (s.heap.objs.size + 1) :: us, []⟩ (Value.ref (s.heap.objs.size + 1) :: (us ++ ds)) _ _ E (hr.make C us [])
    (I2.env0.make C us []) (hb _ (Value.ref (s.heap.objs.size + 1) :: us) I2.kIn hl) r2 hq) fun r s' hq' => ?_))
  cases r with
  | error e => exact hx pins σ _ _ e s' I2 hq'
  | ok fl =>
    cases fl with
    | ret u =>
      obtain ⟨v, H', I3, rv, ev, q3⟩ := I2.after hq'
      subst ev
      exact ⟨rv, ⟨V.ref (s.heap.objs.size + 1), H', I3, rfl, q3⟩⟩
    | next => exact False.elim hq'
    | brk => exact False.elim hq'
    | cont => exact False.elim hq'
theorem pe_make (M : Mk X.K C f) (F : FnOk X.prog X.w X.K X.mg X.base CX k f fd ps sp) (hr : Room (k + 1) X.A) (hg : Gl X x) (hm : X.mg x = some (.ref C)) (hb : Binds X.K fd ps ds) (hd : Vals dvs ds) (hx : Passes CX X E)
    (ha : PA X (e :: es) t) (hdb : (x == ("__debug__" : Str)) = false := by decide) (he : starEach (e :: es) X.env = (false, eval e X.env) :: starEach es X.env := by rfl) (hpl : (backTo pos (starEach es X.env)).any (·.1) = false := by rfl) :
    PE X (.Call (.Name x p) (e :: es) [] pos) (tMake C sp dvs E t) := by
  intro pins s σ H Q I h
  refine wpAny_Call_Name_kw (ld_glob I hg hm ?_ hdb)
  refine PySem.W.callWith_K (h₀ := X.base) I.ok.mod.kin M.kp (thn (ha pos pins s σ H _ I h) fun us s1 ⟨vs, H1, I1, r, q⟩ => ⟨I1.kIn, ?_⟩) he hpl
  exact run_make M F hr hb hd hx I1 r q
end

/-! ### keywords -/
section
variable {X : Cx} {CX : CXT} {k : Nat} {f C : Addr} {fd : FuncData} {ps ks : List Str} {sp : Sp} {E : XK} {x m : Str} {p pos apos kpos : Pos} {e o : Expr} {es : List Expr} {kws : List Keyword} {te ta : TE} {t tk : TA} {nm : Option Str}
/-- how a call with keywords binds: g puts the positional values us and the keywords' values ws (names ks) in the parameters' order, defaults among them -/
structure KBinds (K : PySem.W.Frag) (fd : FuncData) (ps ks : List Str) (g : List Value → List Value → List Value) (gV : List V → List V → List V) : Prop where
  to : ∀ (s : Shared) (us ws : List Value), K.In s.heap → (g us ws).length = ps.length → BindsTo s fd ⟨us, ks.zip ws⟩ (ps.zip (g us ws))
  rel : ∀ {vs : List V} {us : List Value} {zs : List V} {ws : List Value}, Vals vs us → Vals zs ws → Vals (gV vs zs) (g us ws)
variable {g : List Value → List Value → List Value} {gV : List V → List V → List V}
end

/-! ### a def's body keeps its promise -/
/-- names: the parameters first -/
structure FnScope (N P : List Str) (sc : Scope) : Prop where
  kind : sc.kind = .function
  co : sc.isCoroutine = false
  gen : sc.isGenerator = false
  nd : N.Nodup
  pre : N.take P.length = P
  par : ∀ x ∈ P, sc.names.lookup x = some .local ∨ sc.names.lookup x = some .cell
  nofree : ∀ y ∈ sc.names, y.2 ≠ .free

theorem bindL_out {kindOf : Str → Option NameKind} {x : Str} : ∀ {binds : List (Str × Value)} {m : Str → Option Value}, (∀ v, (x, v) ∉ binds) → bindL kindOf binds m x = m x
  | [], _, _ => rfl
  | (n, v) :: r, m, h => by
    unfold bindL
    rw [bindL_out fun w hw => h w (List.mem_cons_of_mem _ hw)]
    split
    · have : x ≠ n := by rintro rfl; exact h v List.mem_cons_self
      simp [this]
    · rfl
theorem bindC_out {kindOf : Str → Option NameKind} {x : Str} : ∀ {binds : List (Str × Value)} {m : Str → Option Value}, (∀ v, (x, v) ∉ binds) → bindC kindOf binds m x = m x
  | [], _, _ => rfl
  | (n, v) :: r, m, h => by
    unfold bindC
    rw [bindC_out fun w hw => h w (List.mem_cons_of_mem _ hw)]
    split
    · rfl
    · have : x ≠ n := by rintro rfl; exact h v List.mem_cons_self
      simp [this]
theorem bindL_get {kindOf : Str → Option NameKind} {x : Str} {v : Value} : ∀ {P : List Str} {vs : List Value} {i : Nat} {m : Str → Option Value}, P.Nodup → P[i]? = some x → vs[i]? = some v → kindOf x = some .local →
    bindL kindOf (P.zip vs) m x = some v
  | [], _, _, _, _, h, _, _ => by simp at h
  | _ :: _, [], _, _, _, _, h, _ => by simp at h
  | p :: P, w :: vs, 0, m, nd, h1, h2, hk => by
    simp at h1 h2; subst h1; subst h2
    show bindL kindOf ((p, w) :: P.zip vs) m p = _
    unfold bindL
    rw [bindL_out fun v hv => (List.nodup_cons.mp nd).1 (List.of_mem_zip hv).1, if_pos hk]
    simp
  | p :: P, w :: vs, i + 1, m, nd, h1, h2, hk => by
    show bindL kindOf ((p, w) :: P.zip vs) m x = _
    unfold bindL
    exact bindL_get (i := i) (List.nodup_cons.mp nd).2 (by simpa using h1) (by simpa using h2) hk
theorem bindC_get {kindOf : Str → Option NameKind} {x : Str} {v : Value} : ∀ {P : List Str} {vs : List Value} {i : Nat} {m : Str → Option Value}, P.Nodup → P[i]? = some x → vs[i]? = some v → kindOf x ≠ some .local →
    bindC kindOf (P.zip vs) m x = some v
  | [], _, _, _, _, h, _, _ => by simp at h
  | _ :: _, [], _, _, _, _, h, _ => by simp at h
  | p :: P, w :: vs, 0, m, nd, h1, h2, hk => by
    simp at h1 h2; subst h1; subst h2
    show bindC kindOf ((p, w) :: P.zip vs) m p = _
    unfold bindC
    rw [bindC_out fun v hv => (List.nodup_cons.mp nd).1 (List.of_mem_zip hv).1, if_neg hk]
    simp
  | p :: P, w :: vs, i + 1, m, nd, h1, h2, hk => by
    show bindC kindOf ((p, w) :: P.zip vs) m x = _
    unfold bindC
    exact bindC_get (i := i) (List.nodup_cons.mp nd).2 (by simpa using h1) (by simpa using h2) hk

/-- the names' values at the entry -/
def start (N : List Str) (vs : List V) : St := vs.map some ++ List.replicate (N.length - vs.length) none

/-- the context of a def's body, at its entry; an exception leaves the frame, then lies as CX says -/
def cxOf (CX : CXT) (P : Program) (w : World) (K : PySem.W.Frag) (mg : Str → Option Value) (base : Heap) (N : List Str) (qual : Str) (scope : Scope) (f : Addr) (cd : Value) (A : Around) (outer : List Env) (s : Shared) (H : Hp) (E : XK) : Cx where
  prog := P
  w := w
  K := K
  mg := mg
  base := base
  A := A.deeper (envOfC qual scope s.heap.objs.size f cd)
  N := N
  s₀ := s
  H₀ := H
  env := envOfC qual scope s.heap.objs.size f cd
  outer := outer
  stack := envOfC qual scope s.heap.objs.size f cd :: outer
  ex := []
  calm := true
  fn := fun _ => true
  pn := []
  xe := fun e s' => wpAny (model P w) (A.deeper (envOfC qual scope s.heap.objs.size f cd)) (leaving (envOfC qual scope s.heap.objs.size f cd) e) (fun _ s'' => CX outer H s E e s'') (fun e' s'' => CX outer H s E e' s'') s'

theorem cell_has {sc : Scope} {n : Nat} {x : Str} (h : sc.names.lookup x = some .cell) : ∃ c, (cellsFrom n sc.names []).lookup x = some c := by
  have q := PySem.W.cellsFrom_some sc.names n [] (.inl h)
  exact Option.isSome_iff_exists.mp q

theorem inv_start {CX : CXT} {P : Program} {w : World} {K : PySem.W.Frag} {mg : Str → Option Value} {base : Heap} {N ps : List Str} {qual : Str} {scope : Scope} {f : Addr} {cd : Value} {A : Around} {outer : List Env} {s s1 : Shared} {H : Hp} {E : XK} {us : List Value} {vs : List V}
    (S : FnScope N ps scope) (hd : A.handled = none) (e0 : Env0 P w K mg base A outer s H) (hl : vs.length = ps.length) (r : Vals vs us)
    (x : InCallC s s.heap.objs.size (bindL (envOfC qual scope s.heap.objs.size f cd).kindOf (ps.zip us) fun _ => none) (cellsFrom (s.heap.objs.size + 1) scope.names []) (bindC (envOfC qual scope s.heap.objs.size f cd).kindOf (ps.zip us) fun _ => none) s1) :
    Inv (cxOf CX P w K mg base N qual scope f cd A outer s H E) [] (start N vs) H s1 := by
  have hpl : ps.length ≤ N.length := by have := congrArg List.length S.pre; rw [List.length_take] at this; omega
  obtain ⟨h1, tk, rfl, hk⟩ := x.done
  have noA : ∀ b : Addr, b ∉ (cxOf CX P w K mg base N qual scope f cd A outer s H E).ex := fun b z => absurd (show b ∈ ([] : List Addr) from z) (by simp)
  refine ⟨⟨e0.mod, S.kind, rfl, rfl, Nat.le_refl _, fun y z c h1 h2 => ?_, fun y hy => ?_, fun y c _ h => ?_, fun _ => hd, Around.frames_deeper e0.frames, .inr ⟨rfl, rfl⟩, fun b z => absurd z (noA b), e0.bs, e0.bsz, fun b _ _ => noA b, fun b z => absurd z (noA b), e0.funs, e0.frf⟩,
    rfl, e0.bare, Un.kept hk, ⟨_, x.toInCall.ns, fun i y v h1 h2 h3 => ?_⟩, fun y c h => ⟨_, x.cell y c h⟩, e0.hok.fresh (Nat.le_refl _), fun y c h => ?_, fun p hp => absurd (show p ∈ ([] : List (Addr × Obj)) from hp) (by simp), e0.hok.kept hk, ?_⟩
  · exact name_of_addr x.apart (PySem.mem_of_lookup h1) (PySem.mem_of_lookup h2)
  · have hy : scope.names.lookup y = some .cell ∨ scope.names.lookup y = some .free := hy
    rcases hy with hy | hy
    · exact cell_has hy
    · exact absurd rfl (S.nofree _ (PySem.mem_of_lookup hy))
  · exact Nat.le_of_lt (x.above y c (PySem.mem_of_lookup h))
  · have hi : i < vs.length := by
      unfold start at h2
      by_cases hi : i < vs.length
      · exact hi
      · rw [List.getElem?_append_right (by simpa using hi)] at h2
        rw [List.getElem?_replicate] at h2
        split at h2 <;> cases h2
    have ha : vs[i]? = some v := by
      unfold start at h2
      rw [List.getElem?_append_left (by simpa using hi), List.getElem?_map] at h2
      cases e : vs[i]? with
      | none => rw [e] at h2; cases h2
      | some a => rw [e] at h2; cases h2; rfl
    obtain ⟨u, hu, rv⟩ := r.get ha
    have hp : ps[i]? = some y := by
      rw [← S.pre, List.getElem?_take_of_lt (by omega)]; exact h1
    have ndP : ps.Nodup := by rw [← S.pre]; exact S.nd.sublist (List.take_sublist _ _)
    refine ⟨u, rv, ?_⟩
    rcases S.par y (List.mem_of_getElem? hp) with k | k
    · exact .inl ⟨k, bindL_get ndP hp hu k⟩
    · obtain ⟨c, e⟩ := cell_has (n := s.heap.objs.size + 1) k
      refine .inr ⟨.inl k, c, e, ?_⟩
      have q := x.cell y c e
      rw [bindC_get ndP hp hu (by show scope.names.lookup y ≠ _; rw [k]; decide)] at q
      exact q
  · exact e0.hok.fresh (Nat.le_of_lt (x.above y c (PySem.mem_of_lookup h)))
  · unfold start
    show _ = N.length
    rw [List.length_append, List.length_map, List.length_replicate]
    omega

/-- THE RULE: a def (or a method) of the text, by its body. The body's reading t is chosen for each entry; it is run at the parameters' values -/
theorem fn_of {CX : CXT} {P : Program} {w : World} {K : PySem.W.Frag} {mg : Str → Option Value} {base : Heap} {k : Nat} {f : Addr} {name qual : Str} {params : Arguments} {body : List Stmt} {scope : Scope} {dV kV doc pm cdv ct oc : Value} {an od : Option Addr}
    {osl : Array (Option Value)} {N ps : List Str} {sp : Sp} (lk : K.lookup f = some ⟨oc, od, .func (PySem.W.fnOf name qual params body scope dV kV doc pm an cdv ct), osl⟩) (hcd : PySem.W.codeIn K cdv qual = true) (S : FnScope N ps scope)
    (len : ∀ vs H Q E, sp vs H Q E → vs.length = ps.length)
    (hbody : ∀ (A : Around) (outer : List Env) (s : Shared) (H : Hp) (vs : List V) (Q : VK) (E : XK), Room k (A.deeper (envOfC qual scope s.heap.objs.size f cdv)) → sp vs H Q E →
      ∃ t, PSs (cxOf CX P w K mg base N qual scope f cdv A outer s H E) body t ∧ t { nx := fun _ H' => Q .non H', rt := Q } (start N vs) H) :
    FnOk P w K mg base CX (k + 1) f (PySem.W.fnOf name qual params body scope dV kV doc pm an cdv ct) ps sp := by
  refine ⟨len, fun A outer s H args us vs Q E hr e0 hb r hsp => ?_⟩
  have hl := len _ _ _ _ hsp
  have KX : K.In s.heap := e0.mod.kin.keeps fun b o e => (e0.bs b o e).1
  have lim : s.heap.NoLimit := e0.mod.nolimit.keeps fun b o e => (e0.bs b o e).1
  have hkind : ∀ y ∈ ps.zip us, scope.names.lookup y.1 = some .local ∨ (scope.names.lookup y.1 = some .cell ∧ ((cellsFrom (s.heap.objs.size + 1) scope.names []).lookup y.1).isSome = true) := fun ⟨n, v⟩ hy => by
    rcases S.par n (List.of_mem_zip hy).1 with q | q
    · exact .inl q
    · exact .inr ⟨q, PySem.W.cellsFrom_some _ _ _ (.inl q)⟩
  refine codeAny_call_function hr.depth (KX _ _ lk) rfl S.co S.gen rfl (PySem.W.codeRec_of KX hcd) (hb _ _ _ _ ?_)
  refine wpAny_newFunctionEnv_cells S.kind hkind fun env he s1 x => ?_
  subst he
  refine ⟨lim.keeps x.toInCall.keep, codeAny_func ?_⟩
  obtain ⟨t, ht, hq⟩ := hbody A outer s H vs Q E (hr.deeper _) hsp
  have I : Inv (cxOf CX P w K mg base N qual scope f cdv A outer s H E) [] (start N vs) H s1 := inv_start S hr.hd e0 hl r x
  refine wpAny_mono (ht [] s1 (start N vs) H _ I hq) (fun fl s' hs => ?_) fun e s' hs => hs
  have fin : ∀ {σ' : St} {H' : Hp} {v : V} {u : Value}, Inv (cxOf CX P w K mg base N qual scope f cdv A outer s H E) [] σ' H' s' → RelV v u → Q v H' → CE outer P w H s Q u s' :=
    fun {σ' H' v u} J rv q => ⟨v, H', J.os, J.bare, J.base, J.hok, rv, q⟩
  cases fl with
  | ret u =>
    obtain ⟨v, σ', H', J, rv, q⟩ := hs
    exact fin J rv q
  | next =>
    obtain ⟨σ', H', J, q⟩ := hs
    exact fin (v := V.non) (u := Value.none) J rfl q
  | brk =>
    obtain ⟨_, _, _, q⟩ := hs
    exact False.elim q
  | cont =>
    obtain ⟨_, _, _, q⟩ := hs
    exact False.elim q
end L2

namespace L2
open PySem PySem.Spec PyProof.Rows
section
variable {X : Cx} {x : Str} {p pos : Pos} {e : Expr} {es : List Expr} {t : TA} {id T : String} {r : List V → Hp → VK → Prop}

def tCB (r : List V → Hp → VK → Prop) (t : TA) : TE := fun σ H Q => t σ H fun vs H1 => r vs H1 Q
/-- f(e, ..), f a built-in function -/
theorem pe_callB (hc : CallR X (.builtin id) r) (hg : Gl X x) (hm : X.mg x = none) (hv : bootBuiltins x = some (.builtin id)) (ha : PA X (e :: es) t) (hn : x ≠ "__name__" := by decide) (hdb : (x == ("__debug__" : Str)) = false := by decide)
    (he : starEach (e :: es) X.env = (false, eval e X.env) :: starEach es X.env := by rfl) (hpl : (backTo pos (starEach es X.env)).any (·.1) = false := by rfl) : PE X (.Call (.Name x p) (e :: es) [] pos) (tCB r t) := by
  intro pins s σ H Q I h
  refine wpAny_Call_Name_kw (ld_blt I hg hm hv ?_ hn hdb)
  exact PyProof.Rows.callWith_builtin1 (thn (ha pos pins s σ H _ I h) fun us s1 ⟨vs, H1, I1, r1, q1⟩ => hc pins s1 σ H1 vs us Q I1 r1 q1) he hpl
/-- T(e, ..), T a built-in type -/
theorem pe_callTy (hc : CallR X (.type T) r) (hg : Gl X x) (hm : X.mg x = none) (hv : bootBuiltins x = some (.type T)) (ha : PA X (e :: es) t) (hn : x ≠ "__name__" := by decide) (hdb : (x == ("__debug__" : Str)) = false := by decide)
    (he : starEach (e :: es) X.env = (false, eval e X.env) :: starEach es X.env := by rfl) (hpl : (backTo pos (starEach es X.env)).any (·.1) = false := by rfl) : PE X (.Call (.Name x p) (e :: es) [] pos) (tCB r t) := by
  intro pins s σ H Q I h
  refine wpAny_Call_Name_kw (ld_blt I hg hm hv ?_ hn hdb)
  exact PyProof.Rows.callWith_type1 (thn (ha pos pins s σ H _ I h) fun us s1 ⟨vs, H1, I1, r1, q1⟩ => hc pins s1 σ H1 vs us Q I1 r1 q1) he hpl
end
end L2

namespace HT
open PySem PyProof.Rows

section
open PySem.SeqAt
open PySem.AutoSeq1 (wpAny_loadPart')
open PySem.MeetsSeq PySem.MeetsSeq2 PySem.MeetsSeq3

end

section
variable {prog : Program} {w : World} {A : Around} {E : Value → Shared → Prop} {s : Shared}

/-! ### t[a:b], not the whole -/
end
end HT

namespace L2
open PySem PySem.Spec PyProof.Rows

/-! ### the parts of a slice -/
abbrev TO := St → Hp → (Option Int → Hp → Prop) → Prop
section
variable {X : Cx} {e : Expr} {te : TE} {lo hi : Option Expr} {tl th : TO} {pos p2 : Pos}

/-- what a slice of a value is, by values: the slice object stands at sl -/
def SlR (X : Cx) (r : V → Option Int → Option Int → Hp → VK → Prop) : Prop :=
  ∀ (pins : List (Addr × Obj)) (s : Shared) (σ : St) (H : Hp) (x : V) (v vl vu : Value) (lo hi : Option Int) (sl : Addr) (Q : VK), Inv X pins σ H s → RelV x v → s.heap.IsSliceOf sl vl vu .none → IsPart vl lo → IsPart vu hi → r x lo hi H Q →
    ∃ T id, typeLookup (.type T) "__getitem__" = pure (some (.builtin id)) ∧ s.TypeIs v T ∧ wpAny (model X.prog X.w) X.A (getItem v (.ref sl)) (EP X pins σ Q) X.xe s
theorem SlR.or {r r' : V → Option Int → Option Int → Hp → VK → Prop} (h : SlR X r) (h' : SlR X r') : SlR X (fun x lo hi H Q => r x lo hi H Q ∨ r' x lo hi H Q) := by
  intro pins s σ H x v vl vu lo hi sl Q I rx hs pl pu q
  rcases q with q | q
  · exact h pins s σ H x v vl vu lo hi sl Q I rx hs pl pu q
  · exact h' pins s σ H x v vl vu lo hi sl Q I rx hs pl pu q
/-! ### t < u, t + u -/
end
end L2

namespace L2
open PySem PySem.Spec PyProof.Rows

/-! ### places -/
/-- the place that an index of any sign means -/
def ixN (n : Nat) (i : Int) : Option Nat := if 0 ≤ i then (if i < n then some i.toNat else none) else if -(n : Int) ≤ i then some (i + n).toNat else none
def atI {α : Type} (xs : List α) (i : Int) : Option α := (ixN xs.length i).bind fun j => xs[j]?
theorem ixN_seq {n : Nat} {i : Int} {j : Nat} (h : ixN n i = some j) : seqIndex? i n = some j ∧ j < n ∧ -(n : Int) ≤ i ∧ i < n := by
  unfold ixN at h
  by_cases h0 : 0 ≤ i
  · rw [if_pos h0] at h
    by_cases h1 : i < n
    · rw [if_pos h1] at h
      have e : i.toNat = j := Option.some.inj h
      exact ⟨by rw [seqIndex_of h0 h1, e], by omega, by omega, h1⟩
    · rw [if_neg h1] at h; cases h
  · rw [if_neg h0] at h
    by_cases h1 : -(n : Int) ≤ i
    · rw [if_pos h1] at h
      have e : (i + n).toNat = j := Option.some.inj h
      exact ⟨by rw [seqIndex_neg (by omega) h1, e], by omega, h1, by omega⟩
    · rw [if_neg h1] at h; cases h
theorem atI_get {α : Type} {xs : List α} {i : Int} {v : α} (h : atI xs i = some v) : ∃ j, seqIndex? i xs.length = some j ∧ xs[j]? = some v ∧ j < xs.length ∧ -(xs.length : Int) ≤ i ∧ i < xs.length := by
  unfold atI at h
  cases e : ixN xs.length i with
  | none => rw [e] at h; cases h
  | some j =>
    rw [e] at h
    obtain ⟨h1, h2, h3, h4⟩ := ixN_seq e
    exact ⟨j, h1, h, h2, h3, h4⟩
theorem atI_nat {α : Type} {xs : List α} {j : Nat} {v : α} (h : xs[j]? = some v) : atI xs (j : Int) = some v := by
  have hj : j < xs.length := (List.getElem?_eq_some_iff.mp h).1
  have e : ixN xs.length (j : Int) = some j := by
    unfold ixN
    rw [if_pos (by omega), if_pos (by omega)]; simp
  unfold atI; rw [e]; exact h
/-! ### what may be subscripted -/
/-- what stands as an index of a plain subscript -/
def PlainIx (b : Expr) : Prop := ∀ o i, subscripted b false o i = operate [o, i] (getItem o i)
/-- a subscript by values -/
def IxR (X : Cx) (r : R2) : Prop :=
  ∀ (value slice : Expr) (pins : List (Addr × Obj)) (s : Shared) (σ : St) (H : Hp) (x y : V) (v u : Value) (Q : VK), Inv X pins σ H s → RelV x v → RelV y u → r x y H Q →
    subscripted slice false v u = operate [v, u] (getItem v u) → wpAny (model X.prog X.w) X.A (subscriptTail value slice v u) (EP X pins σ Q) X.xe s
/-- a call of a builtin's method by values: the receiver, the arguments -/
def MtR (X : Cx) (id : String) (r : V → List V → Hp → VK → Prop) : Prop :=
  ∀ (pins : List (Addr × Obj)) (s : Shared) (σ : St) (H : Hp) (x : V) (xs : List V) (v : Value) (us : List Value) (Q : VK), Inv X pins σ H s → RelV x v → Vals xs us → r x xs H Q →
    wpAny (model X.prog X.w) X.A (call (.builtin id) (v :: us)) (EP X pins σ Q) X.xe s
section
variable {X : Cx} {a b : Expr} {ta tb : TE} {pos : Pos}
theorem IxR.or {r r' : R2} (h : IxR X r) (h' : IxR X r') : IxR X (fun x y H Q => r x y H Q ∨ r' x y H Q) := by
  intro value slice pins s σ H x y v u Q I rx ry q hs
  rcases q with q | q
  · exact h value slice pins s σ H x y v u Q I rx ry q hs
  · exact h' value slice pins s σ H x y v u Q I rx ry q hs
theorem MtR.or {id : String} {r r' : V → List V → Hp → VK → Prop} (h : MtR X id r) (h' : MtR X id r') : MtR X id (fun x xs H Q => r x xs H Q ∨ r' x xs H Q) := by
  intro pins s σ H x xs v us Q I rx rs q
  rcases q with q | q
  · exact h pins s σ H x xs v us Q I rx rs q
  · exact h' pins s σ H x xs v us Q I rx rs q
/-- a[b] -/
theorem pe_ix {r : R2} (hr : IxR X r) (ha : PE X a ta) (hb : PE X b tb) (hs : PlainIx b) : PE X (.Subscript a b pos) (tOp r ta tb) := by
  intro pins s σ H Q I h
  exact Subscript_ (binT ha hb I h fun v u s2 x y H2 I2 rx ry q => hr a b pins s2 σ H2 x y v u Q I2 rx ry q (hs _ _))

def rIxL (K : PySem.W.Frag) : R2 := fun x y H Q => ∃ p xs i v, x = .ref p ∧ y = .int i ∧ SqL K H p xs ∧ atI xs i = some v ∧ Q v H
theorem ix_list : IxR X (rIxL X.K) := by
  intro value slice pins s σ H x y v u Q I rx ry h hs
  obtain ⟨p, xs, i, z, rfl, rfl, hq, he, q⟩ := h
  cases rx
  obtain ⟨t, rfl⟩ := ry
  obtain ⟨its, r, pl, hz⟩ := I.list hq
  obtain ⟨j, h1, h2, h3, h4, h5⟩ := atI_get he
  obtain ⟨w, ew, rw'⟩ := r.get h2
  have hl := r.length
  have hn := line63
  have fin : EP X pins σ Q w s := ⟨z, H, I, rw', q⟩
  by_cases h0 : 0 ≤ i
  · have hj : i.toNat = j := by
      rw [seqIndex_of h0 h5] at h1
      exact Option.some.inj h1
    exact item_listR pl.isList h0 (by omega) (by rw [hj]; simpa using ew) fin hs
  · have hj : (i + (its.toArray.size : Int)).toNat = j := by
      rw [seqIndex_neg (by omega) h4] at h1
      rw [List.size_toArray, ← hl]
      exact Option.some.inj h1
    exact subscriptTail_builtinR (x := w) pl.isList.typeIs slot_list_getitem.lookup
      (wpAny_getItem_list_neg (Q := fun r s' => r = w ∧ EP X pins σ Q r s') pl.isList (by omega) (by rw [List.size_toArray] <;> omega) (by omega) (by rw [hj]; simpa using ew) ⟨rfl, fin⟩) hs
/-! ### xs[i] = v, any sign -/
theorem Inv.lst {pins : List (Addr × Obj)} {σ : St} {H : Hp} {s : Shared} {p : Addr} {xs : List V} (I : Inv X pins σ H s) (h : H p = some (.lst xs)) :
    ∃ (its : List Value) (n : Nat), Vals xs its ∧ s.heap.get? p = some { cls := .type "list", data := .seq its.toArray n } ∧ xs.length ≤ sizeLine := by
  obtain ⟨z, its, n, r, e⟩ := I.hok p _ h
  exact ⟨its, n, r, e, z⟩
/-! ### slices -/
/-! ### in, not in: flat items -/
/-! ### len, list(x), tuple(x) of any list or tuple that is read -/
theorem call_len_seq : CallR X (.builtin "len") (fun xs H Q => ∃ p ys, xs = [.ref p] ∧ (SqL X.K H p ys ∨ SqT X.K H p ys) ∧ Q (.int ys.length) H) := by
  intro pins s σ H xs us Q I r h
  obtain ⟨p, ys, rfl, hq, q⟩ := h
  obtain ⟨u, rfl, rx⟩ := vals1 r
  cases rx
  have hn := line63
  rcases hq with hq | hq
  · obtain ⟨its, r', pl, hz⟩ := I.list hq
    have hlen := r'.length
    exact Calls.call_len_list pl.isList (by simp only [List.size_toArray] <;> omega) ⟨.int ys.length, H, I.tok _, ⟨s.toks + 1, by rw [List.size_toArray, hlen]⟩, q⟩
  · obtain ⟨its, r', pl, hz⟩ := I.tuple hq
    have hlen := r'.length
    exact len_tuple pl (by simp only [List.size_toArray] <;> omega) ⟨.int ys.length, H, I.tok _, ⟨s.toks + 1, by rw [List.size_toArray, hlen]⟩, q⟩
theorem CallR.or {f : Value} {r r' : List V → Hp → VK → Prop} (h : CallR X f r) (h' : CallR X f r') : CallR X f (fun xs H Q => r xs H Q ∨ r' xs H Q) := by
  intro pins s σ H xs us Q I rs q
  rcases q with q | q
  · exact h pins s σ H xs us Q I rs q
  · exact h' pins s σ H xs us Q I rs q
/-! ### the call of a builtin's method: o.m(..) -/
/-- the value is of that builtin type -/
def tyV (K : PySem.W.Frag) (T : String) (x : V) (H : Hp) : Prop := match x with
  | .str _ => T = "str"
  | .int _ => T = "int"
  | .ref p => (T = "list" ∧ ∃ xs, SqL K H p xs) ∨ (T = "tuple" ∧ ∃ o, K.lookup p = some o ∧ o.cls = .type "tuple" ∧ o.dict = none) ∨
      (T = "dict" ∧ ((∃ kvs, H p = some (.dK kvs)) ∨ ∃ kvs, H p = some (.dT kvs))) ∨ (T = "set" ∧ ∃ S n, H p = some (.set S n))
  | _ => False
theorem tyV_is {pins : List (Addr × Obj)} {σ : St} {H : Hp} {s : Shared} {T : String} {x : V} {v : Value} (I : Inv X pins σ H s) (r : RelV x v) (ty : tyV X.K T x H) :
    s.TypeIs v T ∧ ∀ a, v = .ref a → ∃ ob, s.heap.get? a = some ob ∧ ob.dict = none := by
  cases x with
  | str z =>
    obtain ⟨t, rfl⟩ := r
    cases (show T = "str" from ty)
    exact ⟨typeIs_str s z t, fun _ e => nomatch e⟩
  | int i =>
    obtain ⟨t, rfl⟩ := r
    cases (show T = "int" from ty)
    exact ⟨typeIs_int s i t, fun _ e => nomatch e⟩
  | ref p =>
    cases r
    rcases ty with ⟨rfl, xs, hq⟩ | ⟨rfl, o, hk, hc, hd⟩ | ⟨rfl, hk⟩ | ⟨rfl, S, n, hk⟩
    · obtain ⟨its, _, pl, _⟩ := I.list hq
      refine ⟨pl.isList.typeIs, fun a e => ?_⟩
      cases e
      obtain ⟨o, n, e, c, hd, _⟩ := pl
      exact ⟨o, e, hd⟩
    · refine ⟨⟨o, I.kIn p o hk, hc⟩, fun a e => ?_⟩
      cases e
      exact ⟨o, I.kIn _ o hk, hd⟩
    · have z : ∃ o, s.heap.get? p = some o ∧ o.ExactDict := by
        rcases hk with ⟨kvs, hk⟩ | ⟨kvs, hk⟩
        · obtain ⟨_, _, _, _, o, _, _, e, ex, _⟩ := I.hok p _ hk
          exact ⟨o, e, ex⟩
        · obtain ⟨_, _, _, _, o, _, _, e, ex, _⟩ := I.hok p _ hk
          exact ⟨o, e, ex⟩
      obtain ⟨o, e, ex⟩ := z
      refine ⟨⟨o, e, ex.1⟩, fun a e2 => ?_⟩
      cases e2
      exact ⟨o, e, ex.2.1⟩
    · obtain ⟨o, _, _, _, e, ex, _⟩ := I.hok p _ hk
      refine ⟨⟨o, e, ex.1⟩, fun a e2 => ?_⟩
      cases e2
      exact ⟨o, e, ex.2.1⟩
  | _ => exact False.elim ty
def tBM (K : PySem.W.Frag) (T : String) (r : V → List V → Hp → VK → Prop) (to : TE) (t : TA) : TE := fun σ H Q => to σ H fun x H1 => tyV K T x H1 ∧ t σ H1 fun xs H2 => r x xs H2 Q
variable {o e : Expr} {es : List Expr} {to : TE} {t : TA} {name : Str} {apos cpos : Pos} {T id : String} {r : V → List V → Hp → VK → Prop}
theorem pe_bm (pa : PlainAttrs T) (slot : Slot T name id) (hty : typeOf (.builtin id) = pure (.type "method_descriptor")) (hm : MtR X id r) (ho : PE X o to) (ha : PA X (e :: es) t)
    (hbase : attributeBase o name X.env (eval o X.env) = eval o X.env := by rfl)
    (hfew : ((backTo cpos (starEach (e :: es) X.env)).all (fun x => !x.1) && (backToKw cpos (keywordEach [] X.env)).all (fun x => x.1.isSome)
      && decide ((e :: es).length + ([] : List Keyword).length + (if ([] : List Keyword).isEmpty then 0 else 1) < 30)) = true := by rfl)
    (hline : (apos.endLine == cpos.line) = true := by rfl) (hs : starEach (e :: es) X.env = (false, eval e X.env) :: starEach es X.env := by rfl) (hplain : (backTo cpos (starEach es X.env)).any (·.1) = false := by rfl) :
    PE X (.Call (.Attribute o name apos) (e :: es) [] cpos) (tBM X.K T r to t) := by
  intro pins s σ H Q I h
  refine wpAny_Call_method_late hbase hfew hline rfl (thn (ho pins s σ H _ I h) fun v s1 ⟨x, H1, I1, r1, ty, q1⟩ => ?_)
  obtain ⟨h1, h2⟩ := tyV_is I1 r1 ty
  refine ⟨T, id, pa, slot, hty, h1, h2, ?_⟩
  have hA := ha cpos pins s1 σ H1 _ I1 q1
  rw [hs] at hA ⊢
  refine Calls.callWith_builtin (by show (false || (backTo cpos (starEach es X.env)).any (·.1)) = false; rw [hplain] <;> rfl) (Calls.evalArgs_plain ?_)
  exact thn hA fun us s2 ⟨vs, H2, I2, r2, q2⟩ => hm pins s2 σ H2 x vs v us Q I2 r1 r2 q2
/- xs.append(e), list.index on a module's tuple .. are MtR facts of 06m -/
end
end L2

namespace L2
open PySem PySem.Spec PyProof.Rows

/-! ### lists of values -/
theorem Vals.one : ∀ {x : V} {us : List Value}, Vals [x] us → ∃ u, us = [u] ∧ RelV x u
  | _, _, .cons r .nil => ⟨_, rfl, r⟩
theorem Vals.two : ∀ {x y : V} {us : List Value}, Vals [x, y] us → ∃ u v, us = [u, v] ∧ RelV x u ∧ RelV y v
  | _, _, _, .cons r (.cons q .nil) => ⟨_, _, rfl, r, q⟩
theorem Vals.zero : ∀ {us : List Value}, Vals [] us → us = []
  | _, .nil => rfl
section
variable {X : Cx} {pins : List (Addr × Obj)} {σ : St} {H : Hp} {s : Shared} {l b : Addr} {xs ys zs : List V}

/-! ### the two steps: a tracked list is rewritten, a new list is laid -/
theorem Inv.fresh (I : Inv X pins σ H s) : H s.heap.objs.size = none := I.hok.fresh (Nat.le_refl _)
end

section
variable {X : Cx}

/-! ### methods -/
/-! ### list + list, list += list, list * int -/
/-! ### del xs[i] -/
end

/-! ### xs[a:b] = ys -/
section
variable {prog : Program} {w : World} {A : Around} {E : Value → Shared → Prop} {s : Shared}
end

section
variable {X : Cx}
end
end L2

namespace L2
open PySem PySem.Spec PyProof.Rows
/-! ### lists of pairs as tables -/
section
variable {κ : Type} [DecidableEq κ]
def valV (kvs : List (κ × V)) (k : κ) : Option V := (kvs.find? fun kv => decide (kv.1 = k)).map (·.2)
/-- in its place, or at the end -/
def putK (kvs : List (κ × V)) (k : κ) (v : V) : List (κ × V) :=
  if (kvs.any fun kv => decide (kv.1 = k)) = true then kvs.map (fun kv => if kv.1 = k then (kv.1, v) else kv) else kvs ++ [(k, v)]
theorem valV_pos {p : κ × V} {r : List (κ × V)} {k : κ} (e : p.1 = k) : valV (p :: r) k = some p.2 := by simp [valV, List.find?_cons, e]
theorem valV_neg {p : κ × V} {r : List (κ × V)} {k : κ} (e : ¬ p.1 = k) : valV (p :: r) k = valV r k := by simp [valV, List.find?_cons, e]
theorem valV_any (k : κ) : ∀ kvs : List (κ × V), (kvs.any fun kv => decide (kv.1 = k)) = (valV kvs k).isSome
  | [] => rfl
  | p :: r => by
    rw [List.any_cons]
    by_cases e : p.1 = k
    · simp only [valV_pos e, decide_eq_true e, Bool.true_or, Option.isSome_some]
    · rw [valV_neg e, decide_eq_false e, Bool.false_or]; exact valV_any k r
theorem RelO.isSome_eq {o : Option V} {u : Option Value} (r : RelO o u) : o.isSome = u.isSome := by
  cases o with
  | none => cases u with
    | none => rfl
    | some _ => exact (show False from r).elim
  | some _ => cases u with
    | none => exact (show False from r).elim
    | some _ => rfl
theorem RelO.getD {o : Option V} {u : Option Value} {d : V} {d' : Value} (r : RelO o u) (rd : RelV d d') : RelV (o.getD d) (u.getD d') := by
  cases o with
  | none => cases u with
    | none => exact rd
    | some _ => exact (show False from r).elim
  | some _ => cases u with
    | none => exact (show False from r).elim
    | some _ => exact r

/-- raw tables of the same keys -/
theorem KV.val {kvs : List (κ × V)} {vs : List (κ × Value)} (r : KV kvs vs) (k : κ) : RelO (valV kvs k) (valueAt vs k) := by
  unfold KV at r
  induction r with
  | nil => exact True.intro
  | @cons p q ps qs h t ih =>
    obtain ⟨h1, h2⟩ := h
    by_cases e : p.1 = k
    · have e' : q.1 = k := h1.symm.trans e
      have b : valueAt (q :: qs) k = some q.2 := by simp [valueAt, List.find?_cons, e']
      rw [valV_pos e, b]; exact h2
    · have e' : ¬ q.1 = k := fun z => e (h1.trans z)
      have b : valueAt (q :: qs) k = valueAt qs k := by simp [valueAt, List.find?_cons, e']
      rw [valV_neg e, b]; exact ih
theorem KV.any {kvs : List (κ × V)} {vs : List (κ × Value)} (r : KV kvs vs) (k : κ) : (kvs.any fun kv => decide (kv.1 = k)) = vs.any fun kv => decide (kv.1 = k) := by
  unfold KV at r
  induction r with
  | nil => rfl
  | cons h t ih => rw [List.any_cons, List.any_cons, ih, h.1]
theorem KV.repl {kvs : List (κ × V)} {vs : List (κ × Value)} (r : KV kvs vs) (k : κ) {y : V} {u : Value} (ry : RelV y u) :
    KV (kvs.map fun kv => if kv.1 = k then (kv.1, y) else kv) (vs.map fun kv => if kv.1 = k then (kv.1, u) else kv) := by
  unfold KV at r ⊢
  induction r with
  | nil => exact .nil
  | @cons p q ps qs h t ih =>
    rw [List.map_cons, List.map_cons]
    refine .cons ?_ ih
    obtain ⟨h1, h2⟩ := h
    by_cases e : p.1 = k
    · rw [if_pos e, if_pos (h1.symm.trans e)]; exact ⟨h1, ry⟩
    · rw [if_neg e, if_neg (fun z => e (h1.trans z))]; exact ⟨h1, h2⟩
theorem KV.put {kvs : List (κ × V)} {vs : List (κ × Value)} (r : KV kvs vs) (k : κ) {y : V} {u : Value} (ry : RelV y u) : KV (putK kvs k y) (stored vs k u) := by
  unfold putK stored
  rw [r.any k]
  by_cases e : (vs.any fun kv => decide (kv.1 = k)) = true
  · rw [if_pos e, if_pos e]; exact r.repl k ry
  · rw [if_neg e, if_neg e]; exact Paired.snoc r ⟨rfl, ry⟩
theorem KV.keys {kvs : List (κ × V)} {vs : List (κ × Value)} (r : KV kvs vs) : kvs.map (·.1) = vs.map (·.1) := by
  unfold KV at r
  induction r with
  | nil => rfl
  | cons h t ih => rw [List.map_cons, List.map_cons, ih, h.1]
theorem KV.length {kvs : List (κ × V)} {vs : List (κ × Value)} (r : KV kvs vs) : kvs.length = vs.length := Paired.length r
end


/-! ### a tracked dict, its keys ints and texts or tuples of these -/
/-- raw entries of a dict with tuple keys -/
abbrev KT (H : Hp) : List (List Key × V) → List (List Key × Addr × Value) → Prop := Paired fun p q => p.1 = q.1 ∧ H q.2.1 = some (.tup (p.1.map kV)) ∧ RelV p.2 q.2.2
theorem KT.val {H : Hp} {kvs : List (List Key × V)} {xs : List (List Key × Addr × Value)} (r : KT H kvs xs) (k : List Key) : RelO (valV kvs k) ((atKey xs k).map (·.2)) := by
  induction r with
  | nil => exact True.intro
  | @cons p q ps qs h t ih =>
    obtain ⟨h1, _, h2⟩ := h
    by_cases e : p.1 = k
    · have e' : q.1 = k := h1.symm.trans e
      have b : atKey (q :: qs) k = some q.2 := by simp [atKey, List.find?_cons, e']
      rw [valV_pos e, b]; exact h2
    · have e' : ¬ q.1 = k := fun z => e (h1.trans z)
      have b : atKey (q :: qs) k = atKey qs k := by simp [atKey, List.find?_cons, e']
      rw [valV_neg e, b]; exact ih
theorem KT.repl {H : Hp} {kvs : List (List Key × V)} {xs : List (List Key × Addr × Value)} (r : KT H kvs xs) (k : List Key) {y : V} {u : Value} (ry : RelV y u) :
    KT H (kvs.map fun kv => if kv.1 = k then (kv.1, y) else kv) (xs.map (putAt k u)) := by
  induction r with
  | nil => exact .nil
  | @cons p q ps qs h t ih =>
    rw [List.map_cons, List.map_cons]
    refine .cons ?_ ih
    obtain ⟨h1, h2, h3⟩ := h
    unfold putAt
    by_cases e : p.1 = k
    · rw [if_pos e, if_pos (h1.symm.trans e)]; exact ⟨h1, h2, ry⟩
    · rw [if_neg e, if_neg (fun z => e (h1.trans z))]; exact ⟨h1, h2, h3⟩
theorem KT.put {H : Hp} {kvs : List (List Key × V)} {xs : List (List Key × Addr × Value)} (r : KT H kvs xs) (k : List Key) {b : Addr} {y : V} {u : Value} (hb : H b = some (.tup (k.map kV))) (ry : RelV y u) :
    KT H (putK kvs k y) (storedH xs k b u) := by
  have e : (kvs.any fun kv => decide (kv.1 = k)) = (atKey xs k).isSome := by
    rw [valV_any, (r.val k).isSome_eq, Option.isSome_map]
  unfold putK storedH
  rw [e]
  by_cases q : (atKey xs k).isSome = true
  · rw [if_pos q, if_pos q]; exact r.repl k ry
  · rw [if_neg q, if_neg q]; exact Paired.snoc r ⟨rfl, hb, ry⟩
theorem KT.keeps {H H' : Hp} {kvs : List (List Key × V)} {xs : List (List Key × Addr × Value)} (r : KT H kvs xs) (ht : ∀ b ys, H b = some (.tup ys) → H' b = some (.tup ys)) : KT H' kvs xs :=
  Paired.mapP r fun _ _ z => ⟨z.1, ht _ _ z.2.1, z.2.2⟩

section
variable {P : Program} {w : World} {H : Hp} {h : Heap} {a : Addr}
end

/-- what the dict at a holds at the key y -/
def DGet (H : Hp) (a : Addr) (y : V) (r : Option V) : Prop :=
  (∃ kvs k, Rd H a (.dK kvs) ∧ y = kV k ∧ r = valV kvs k) ∨ ∃ kvs k b, Rd H a (.dT kvs) ∧ y = .ref b ∧ H b = some (.tup (k.map kV)) ∧ r = valV kvs k
/-- the heap behind a[y] = v -/
def DPut (H : Hp) (a : Addr) (y v : V) (H' : Hp) : Prop :=
  (∃ kvs k, H a = some (.dK kvs) ∧ y = kV k ∧ kvs.length < sizeLine ∧ H' = upd H a (.dK (putK kvs k v))) ∨
  ∃ kvs k b, H a = some (.dT kvs) ∧ y = .ref b ∧ H b = some (.tup (k.map kV)) ∧ kvs.length < sizeLine ∧ H' = upd H a (.dT (putK kvs k v))
theorem DGet.k {H : Hp} {a : Addr} {kvs : List (Key × V)} {k : Key} (e : H a = some (.dK kvs)) : DGet H a (kV k) (valV kvs k) := .inl ⟨kvs, k, .inl e, rfl, rfl⟩
theorem DGet.t {H : Hp} {a b : Addr} {kvs : List (List Key × V)} {k : List Key} (e : H a = some (.dT kvs)) (eb : H b = some (.tup (k.map kV))) : DGet H a (.ref b) (valV kvs k) := .inr ⟨kvs, k, b, .inl e, rfl, eb, rfl⟩
theorem DPut.k {H : Hp} {a : Addr} {kvs : List (Key × V)} {k : Key} {v : V} (e : H a = some (.dK kvs)) (hl : kvs.length < sizeLine) : DPut H a (kV k) v (upd H a (.dK (putK kvs k v))) := .inl ⟨kvs, k, e, rfl, hl, rfl⟩
theorem DPut.t {H : Hp} {a b : Addr} {kvs : List (List Key × V)} {k : List Key} {v : V} (e : H a = some (.dT kvs)) (eb : H b = some (.tup (k.map kV))) (hl : kvs.length < sizeLine) :
    DPut H a (.ref b) v (upd H a (.dT (putK kvs k v))) := .inr ⟨kvs, k, b, e, rfl, eb, hl, rfl⟩


section
variable {X : Cx} {pins : List (Addr × Obj)} {σ : St} {H : Hp} {s : Shared} {a : Addr} {y v : V} {u r : Value} {o : Option V} {A : Around} {E : Value → Shared → Prop}

theorem Inv.big (I : Inv X pins σ H s) : sysModules < s.heap.objs.size := by
  have h : mainGlobals < s.heap.objs.size := (I.mod.glob.keeps I.bk).lt
  exact Nat.lt_trans (by decide) h

end

section
variable {X : Cx} {pins : List (Addr × Obj)} {σ : St} {H : Hp} {s : Shared} {a : Addr} {kvs : List (Key × V)} {k : Key} {u : Value} {A : Around} {E : Value → Shared → Prop}
end


/-! ### readings and rules -/
section
variable {X : Cx} {o i e value : Expr} {pos pos' tpos : Pos} {td ty tv : TE}
end


/-! ### displays -/
section
variable {X : Cx} {pos : Pos}
end

def mergeK (kvs more : List (Key × V)) : List (Key × V) := more.foldl (fun acc kv => putK acc kv.1 kv.2) kvs
theorem KV.merge : ∀ {more : List (Key × V)} {rs : List (Key × Value)} {kvs : List (Key × V)} {vs : List (Key × Value)}, KV more rs → KV kvs vs → KV (mergeK kvs more) (merged vs rs) := by
  intro more rs kvs vs r
  unfold KV at r
  induction r generalizing kvs vs with
  | nil => intro q; exact q
  | @cons p q ps qs h t ih =>
    intro r0
    have e : KV (putK kvs p.1 p.2) (stored vs q.1 q.2) := by
      have := r0.put p.1 h.2
      rw [← h.1]; exact this
    exact ih e
/-! ### methods -/
/-- a method call o.m(e) of a built-in, with one argument: what must be seen of the text -/
structure M1 (X : Cx) (o : Expr) (m : Str) (apos : Pos) (e : Expr) (cpos : Pos) : Prop where
  base : attributeBase o m X.env (eval o X.env) = eval o X.env
  few : ((backTo cpos (starEach [e] X.env)).all (fun x => !x.1) && (backToKw cpos (keywordEach [] X.env)).all (fun x => x.1.isSome)
    && decide (([e] : List Expr).length + ([] : List Keyword).length + (if ([] : List Keyword).isEmpty then 0 else 1) < 30)) = true
  line : (apos.endLine == cpos.line) = true
  trees : backTo cpos (starEach [e] X.env) = [(false, eval e X.env)]
structure M2 (X : Cx) (o : Expr) (m : Str) (apos : Pos) (e f : Expr) (cpos : Pos) : Prop where
  base : attributeBase o m X.env (eval o X.env) = eval o X.env
  few : ((backTo cpos (starEach [e, f] X.env)).all (fun x => !x.1) && (backToKw cpos (keywordEach [] X.env)).all (fun x => x.1.isSome)
    && decide (([e, f] : List Expr).length + ([] : List Keyword).length + (if ([] : List Keyword).isEmpty then 0 else 1) < 30)) = true
  line : (apos.endLine == cpos.line) = true
  trees : backTo cpos (starEach [e, f] X.env) = [(false, eval e X.env), (false, eval f X.env)]

section
variable {X : Cx} {pins : List (Addr × Obj)} {σ : St} {H : Hp} {s : Shared} {a : Addr} {y d : V} {u r : Value} {o : Option V} {A : Around} {E : Value → Shared → Prop}
end

section
variable {X : Cx} {o e f : Expr} {apos cpos : Pos} {td ty tx : TE}
end

/-! ### dict(d): a copy -/
section
variable {X : Cx} {pins : List (Addr × Obj)} {σ : St} {H : Hp} {s : Shared} {a : Addr} {kvs : List (Key × V)} {A : Around} {E : Value → Shared → Prop}
end


section
variable {X : Cx} {pins : List (Addr × Obj)} {σ : St} {H : Hp} {s : Shared} {a : Addr} {y : V} {u : Value} {A : Around} {E : Value → Shared → Prop}
end
end L2

namespace Att
open PySem PySem.W PySem.Calls PyProof.Rows

/-! ### the script -/
theorem ints_of_wellAll {P : Params} {h : Heap} : ∀ (ns : List Int) (vs : List Value), WellAll P h vs (ns.map WData.int) → IntsAre vs ns := by
  intro ns
  induction ns with
  | nil =>
    intro vs w
    rw [List.map_nil] at w
    cases w
    exact .nil
  | cons n ns ih =>
    intro vs w
    rw [List.map_cons] at w
    cases w with
    | cons a b =>
      cases a
      exact .cons _ _ (ih _ b)

theorem script_of {l : OpenLaw} {n : Nat} (hn : l.most = some n) {P : Params} {h : Heap} {args : List WData} {vals : List Value}
    (hpre : l.row.toRowW.claim.pre args = true) (hwl : WellAll P h vals args) :
    ∃ a vs ns, vals = [Value.ref a] ∧ args = [WData.list (ns.map WData.int)] ∧ h.get? a = some { cls := .type "list", data := .seq vs.toArray } ∧ IntsAre vs ns ∧ ns.length ≤ n := by
  have hsh : WShape.hasAll [] args [.list .int] = true := (pre_splitW hpre).1
  have hc : l.pre.holds [] { args := args } = true := (pre_splitW hpre).2
  obtain ⟨d, r, rfl, h1, h2⟩ := hasAllW_cons hsh
  obtain rfl := hasAllW_nil h2
  obtain ⟨xs, rfl, h3⟩ := hasW_list h1
  obtain ⟨ns, rfl⟩ := items_int h3
  have hlen : ns.length ≤ n := by
    unfold OpenLaw.pre at hc
    have h4 : (WTm.not (.lt (.lit (.int (n : Int))) (.len (.arg 0)))).holds [] { args := [.list (ns.map .int)] } = true := by
      have h4 := (holds_andW hc).1
      rw [hn] at h4
      exact h4
    have h5 := condW_of h4 (w_not (w_lt w_lit (w_len_list (w_arg rfl))))
    rw [List.length_map] at h5
    refine Nat.le_of_not_lt fun q => ?_
    have q' : (n : Int) < ((ns.length : Nat) : Int) := by omega
    first
      | (rw [decide_eq_true q'] at h5; exact absurd h5 (by decide))
      | (simp at h5; omega)
  cases hwl with
  | cons w1 w2 =>
    cases w2
    cases w1 with
    | list ho hall => exact ⟨_, _, ns, rfl, rfl, ho, ints_of_wellAll ns _ hall, hlen⟩

theorem post_true (l : OpenLaw) (args : List WData) : l.row.toRowW.claim.post args (.bool true) args = true :=
  postW_of (r := l.row.toRowW) (X := (true == true))
    (show WShape.has [] (.bool true) .bool = true by first | rfl | decide | simp [WShape.has, WShape.arms, WShape.armsAll])
    (show (WTm.eq .res (.lit (.bool true))).value [] { args := args, res := some (.bool true), after := args } = some (.bool (true == true)) from w_eq_bool (w_res rfl) w_lit) rfl

/-! ### the attachment: holds_open's last premise (the goal 'hc' behind k_head) from a wpAny of the law's body -/
/-- the same from a codeAny of the CALL (for a layer whose function contracts speak of calls) -/
theorem attach_call {l : OpenLaw} {n : Nat} {q : Program} {loose : List Str} {XP : (Str → Option Value) → Heap → Prop} {YP : World → Heap → Prop} {d : DefRec}
    (hn : l.most = some n) (hdf : d.params.defaults = [])
    (call : ∀ (w : World) (s₀ s₁ : Shared) (mg mb : Str → Option Value) (fa : Addr) (o : Obj) (pm cd doc : Value) (a : Addr) (vs : List Value) (ns : List Int),
      Ground q loose [] XP w s₀ mg mb s₁.heap → YP w s₁.heap →
      s₁.heap.get? fa = some o → o.data = .func (docDef d.name d.params d.body d.scope pm cd doc) → s₁.heap.CodeRec cd d.name → mg d.name = some (.ref fa) →
      s₁.heap.get? a = some { cls := .type "list", data := .seq vs.toArray } → IntsAre vs ns → ns.length ≤ n → s₁.gens = #[] →
      codeAny (model l.prog w) callerA (.call (.ref fa) ⟨[.ref a], []⟩) (fun r s' => r = .ok (.ret (.bool true)) ∧ OldK s₁.heap s'.heap ∧ s'.os = s₁.os ∧ AllBare s'.gens) s₁) :
    WalkO q loose XP YP l.row.toRowW d [] (fun f vs => PySem.call f vs) := by
  intro w s₀ s₁ mg mb G Y fa o pm cd doc dV kV ho hd hcd hD hmg hg args vals as hpre hlay hrd hwl hlo
  obtain rfl : dV = .none := Dflts.none hD hdf
  obtain rfl : kV = .none := Dflts.noKw hD
  obtain ⟨a, vs, ns, rfl, rfl, hobj, hints, hlen⟩ := script_of hn hpre hwl
  refine enter_call (codeAny_mono (call w s₀ s₁ mg mb fa o pm cd doc a vs ns G Y ho (fd_plain hd) hcd hmg hobj hints hlen hg) fun r s' hq => ?_)
  obtain ⟨rfl, h2, h3, h4⟩ := hq
  exact ⟨.inl ⟨.bool true, .bool true, [], rfl, fun _ => rfl, .bool true, post_true l _, fun _ => ⟨List.Pairwise.nil, fun _ hm => (nomatch hm)⟩⟩, h2, h3, h4⟩

/-! ### rules over ANY heap (no ledger) from facts about the written part K: the library's own take a ledger (News) for what they write -/
section
variable {prog : Program} {w : World} {A : Around} {E : Value → Shared → Prop} {s : Shared} {K : Frag}

/-- C(..): dict at size, instance at size + 1, then __init__ -/
theorem make_obj {R : Result → Shared → Prop} {C fI : Addr} {rest : List Value} {kw : List (Str × Value)}
    (X : K.In s.heap) (hm : makesIn K C = true) (hi : findIn K (.ref C) "__init__" = some (some (.ref fI))) (hf : isFn K (.ref fI) = true)
    (h : codeAny (model prog w) (A.under (.builtin "type.__call__" ⟨.ref C :: rest, kw⟩)) (.call (.ref fI) ⟨.ref (s.heap.objs.size + 1) :: rest, kw⟩) (InitBack (s.heap.objs.size + 1) R)
      { s with heap := (s.heap.push emptyDict).push (instObj C s.heap.objs.size) }) : codeAny (model prog w) A (.call (.ref C) ⟨rest, kw⟩) R s := by
  obtain ⟨hh, g, d, t, os⟩ := s
  exact make_core (makes_of X hm) (looks_findIn X hi) (fun self => bind_fn X self (beq_iff_eq.mp hf)) (.inl rfl) h

/-- x.name where the instance's dict holds the name and the class does not -/
theorem get_field {x C : Addr} {ox : Obj} {es : List DictEntry} {n : Nat} {name : Str} {expr : Bool} {v : Value} {Q : Value → Shared → Prop}
    (X : K.In s.heap) (I : PySem.W.InstAt s.heap x ox C (some (dictOf es n))) (hg : plainGet K C name = true) (hh : hasDictIn K C = true) (ha : findIn K (.ref C) name = some none)
    (hl : getL name es = some (some v)) (hv : handedIn v = true) (h : Q v { s with toks := s.toks + 1 }) : wpAny (model prog w) A (getAttr (.ref x) name expr) Q E s :=
  get_value X I (plainGet_of hg).1 (findObj_own hh ha rfl hl) hv h

/-! the whole heap as the ledger: makes every rule that writes through a ledger a rule over any heap -/
def ledger (h : Heap) (L d : Addr) : List (Addr × Obj) := (List.range h.objs.size).filterMap fun a => if a = L ∨ a = d then none else (h.get? a).map fun o => (a, o)
end
end Att

namespace L2
open PySem PySem.Spec PyProof.Rows

theorem vals_ints : ∀ {vs : List Value} {ns : List Int}, IntsAre vs ns → Vals (ns.map V.int) vs
  | _, _, .nil => .nil
  | _, _, .cons n t h => .cons ⟨t, rfl⟩ (vals_ints h)

/-- nothing is tracked but the script, known to the object (or it is an object of the module) -/
def Only (H : Hp) : Prop := ∀ b, H b = none ∨ ∃ o xs, H b = some (.frz o (.lst xs))

/-- THE HEAD: the law's promise, at the heap behind the top. F, the promise of the law's def, may use that base is part of the heap (so K.In base, base.Ns mainGlobals mg stand in Mod) -/
theorem law_call {P : Program} {w : World} {K : PySem.W.Frag} {mg mb : Str → Option Value} {CX : CXT} {k : Nat} {fa a : Addr} {fd : FuncData} {x : Str} {sp : Sp} {s₁ : Shared} {vs : List Value} {ns : List Int}
    (KX : K.In s₁.heap) (hns : s₁.heap.Ns mainGlobals mg) (hb : s₁.heap.Ns builtinsNs mb) (hbb : ∀ x : Str, x ≠ "__name__" → mb x = bootBuiltins x) (hlim : s₁.heap.NoLimit) (hg : s₁.gens = #[])
    (ha : s₁.heap.get? a = some { cls := .type "list", data := .seq vs.toArray }) (hi : IntsAre vs ns) (hl : ns.length ≤ sizeLine) (hr : Room k callerA)
    (F : ∀ base : Heap, K.In base → base.Ns mainGlobals mg → FnOk P w K mg base CX k fa fd [x] sp) (hbind : ∀ (s : Shared) (u : Value), BindsTo s fd ⟨[u], []⟩ [(x, u)])
    (hsp : ∀ H : Hp, Only H → SqL K H a (ns.map V.int) → sp [.ref a] H (fun v _ => v = .bl true) fun _ _ _ => False)
    (hCX : ∀ H e s', CX [] H s₁ (fun _ _ _ => False) e s' → False) :
    codeAny (model P w) callerA (.call (.ref fa) ⟨[.ref a], []⟩) (fun r s' => r = .ok (.ret (.bool true)) ∧ OldK s₁.heap s'.heap ∧ s'.os = s₁.os ∧ AllBare s'.gens) s₁ := by
  have rv := vals_ints hi
  have lenV := hi.length
  -- from an abstract heap in which nothing but the script may be tracked
  have core : ∀ H : Hp, Only H → SqL K H a (ns.map V.int) → HOk P w H s₁.heap → (∀ b, H b ≠ none → b = a) → (H a ≠ none → K.lookup a = none) →
      codeAny (model P w) callerA (.call (.ref fa) ⟨[.ref a], []⟩) (fun r s' => r = .ok (.ret (.bool true)) ∧ OldK s₁.heap s'.heap ∧ s'.os = s₁.os ∧ AllBare s'.gens) s₁ := by
    intro H hO hS hok hA hK
    have base_of : ∀ {b : Addr} {o : Obj}, s₁.heap.get? b = some o → H b = none → (hidT s₁.heap H).get? b = some o := fun e n => hidT_get e n
    have noA : ∀ {b : Addr} {o : Obj} {es : Array DictEntry} {ep : Nat}, s₁.heap.get? b = some o → o.data = .dict es ep → H b = none := fun {b o es ep} e d => by
      cases q : H b with
      | none => rfl
      | some u =>
        have e' : b = a := hA b (by rw [q]; simp)
        subst e'
        rw [ha] at e; cases e
        have d' : Data.seq vs.toArray _ = Data.dict es ep := d
        cases d'
    have nsK : ∀ {b : Addr} {m : Str → Option Value}, s₁.heap.Ns b m → (hidT s₁.heap H).Ns b m := fun {b m} ⟨o, es, ep, e, d, r⟩ => ⟨o, es, ep, base_of e (noA e d), d, r⟩
    have hKb : K.In (hidT s₁.heap H) := fun b o e => base_of (KX b o e) (by
      cases q : H b with
      | none => rfl
      | some u =>
        have e' : b = a := hA b (by rw [q]; simp)
        subst e'
        rw [hK (by rw [q]; simp)] at e; cases e)
    have hM : Mod K mg (hidT s₁.heap H) := ⟨hKb, nsK hns, ⟨mb, nsK hb, hbb⟩, let ⟨mc, h1, h2⟩ := hlim; ⟨mc, nsK h1, h2⟩⟩
    have e0 : Env0 P w K mg (hidT s₁.heap H) callerA [] s₁ H := ⟨rfl, hM, fun b o e => of_hidT e, Nat.le_of_eq (hidT_size _ _), trivial, fun b hb => absurd (show b ∈ ([] : List Addr) from hb) (by simp), hok, .of_eq hg⟩
    refine codeAny_mono ((F _ hKb (nsK hns)).run callerA [] s₁ H ⟨[.ref a], []⟩ [.ref a] [.ref a] _ _ hr e0 (hbind s₁ (.ref a)) (.cons rfl .nil) (hsp H hO hS)) fun r s' h => ?_
    cases r with
    | error e => exact (hCX H e s' h).elim
    | ok fl =>
      cases fl with
      | next => exact False.elim h
      | brk => exact False.elim h
      | cont => exact False.elim h
      | ret u =>
        obtain ⟨v, H', os, bare, un, hok', r', q⟩ := h
        have q' : v = .bl true := q
        subst q'
        obtain rfl : u = Value.bool true := r'
        refine ⟨rfl, OldK.of_keep fun b o e => ?_, os, bare⟩
        cases q : H b with
        | none => exact un.keep b o e q (by intro z; exact absurd (show b ∈ ([] : List Addr) from z) (by simp)) (by simp)
        | some u =>
          rcases hO b with z | ⟨ob, xs, z⟩
          · rw [q] at z; cases z
          · have z2 := un.frzs b ob _ z
            obtain ⟨e1, _⟩ := hok b _ z
            obtain ⟨e2, _⟩ := hok' b _ z2
            rw [e] at e1; cases e1
            exact e2
  cases hk : K.lookup a with
  | some o =>
    -- the script is one of the module's own objects
    have e := KX a o hk
    rw [ha] at e
    cases e
    refine core (fun _ => none) (fun _ => .inl rfl) (.inr ⟨_, vs.toArray, _, hk, rfl, rfl, rfl, by rw [List.size_toArray, lenV]; exact hl, by simpa using rv⟩) (fun b u z => by have z' : (none : Option HO) = some u := z; cases z') (fun b z => absurd rfl z) fun z => absurd rfl z
  | none =>
    refine core (fun b => if b = a then some (.frz { cls := .type "list", data := .seq vs.toArray } (.lst (ns.map V.int))) else none) (fun b => ?_) (.inl (.inr ⟨{ cls := .type "list", data := .seq vs.toArray }, if_pos rfl⟩)) (fun b u z => ?_) (fun b z => ?_) fun _ => hk
    · by_cases hb : b = a
      · exact .inr ⟨_, _, if_pos hb⟩
      · exact .inl (if_neg hb)
    · by_cases hb : b = a
      · have z' := (if_pos hb).symm.trans z
        cases z'
        subst hb
        exact ⟨ha, by rw [List.length_map]; exact hl, vs, _, rv, ha⟩
      · have z' := (if_neg hb).symm.trans z
        cases z'
    · by_cases hb : b = a
      · exact hb
      · exact absurd (if_neg hb) z
end L2

namespace L2
open PySem PySem.Spec PyProof.Rows

/-- the goal that k_head leaves (case hc), from the law's promise. F gives the function object fd (K's own) once, then the promise over every base -/
theorem walk_of {l : PySem.W.OpenLaw} {n k : Nat} {q : Program} {loose : List Str} {XP : (Str → Option Value) → Heap → Prop} {YP : World → Heap → Prop} {d : DefRec} {K : Params → PySem.W.Frag} {CX : World → CXT} {sp : World → Sp} {x : Str}
    (hn : l.most = some n) (hn2 : n ≤ sizeLine) (hdf : d.params.defaults = []) (hr : Room k callerA)
    (hY : ∀ (w : World) (h : Heap), YP w h → (K w.params).In h)
    (F : ∀ (w : World) (mg : Str → Option Value) (fa : Addr) (h : Heap), (K w.params).In h → h.Ns mainGlobals mg → mg d.name = some (.ref fa) →
      ∃ fd : FuncData, (∀ (s : Shared) (u : Value), BindsTo s fd ⟨[u], []⟩ [(x, u)]) ∧
        ∀ base : Heap, (K w.params).In base → base.Ns mainGlobals mg → FnOk l.prog w (K w.params) mg base (CX w) k fa fd [x] (sp w))
    (hsp : ∀ (w : World) (H : Hp) (a : Addr) (ns : List Int), ns.length ≤ n → Only H → SqL (K w.params) H a (ns.map V.int) → sp w [.ref a] H (fun v _ => v = .bl true) fun _ _ _ => False)
    (hCX : ∀ (w : World) (H : Hp) (s : Shared) (e : Value) (s' : Shared), CX w [] H s (fun _ _ _ => False) e s' → False) :
    PySem.W.WalkO q loose XP YP l.row.toRowW d [] (fun f vs => PySem.call f vs) := by
  refine Att.attach_call hn hdf fun w s₀ s₁ mg mb fa o pm cd doc a vs ns G Y ho hd hcd hmg hobj hints hlen hg => ?_
  have KX := hY w _ Y
  obtain ⟨fd, hb, hF⟩ := F w mg fa _ KX G.T.g hmg
  exact law_call KX G.T.g G.T.b G.T.builtins G.T.nolimit hg hobj hints (Nat.le_trans hlen hn2) hr hF hb (fun H hO hS => hsp w H a ns hlen hO hS) fun H e s' => hCX w H s₁ e s'
end L2

namespace L2
open PySem PySem.Spec PyProof.Rows

/-! ### the text by places -/
/-- the j-th statement of a class's body -/
def inClass (s : Stmt) (j : Nat) : Stmt := match s with
  | .ClassDef _ _ _ body _ _ _ _ _ _ _ => body.getD j (.Pass ⟨0, 0, 0, 0⟩)
  | _ => .Pass ⟨0, 0, 0, 0⟩
def defArgs (s : Stmt) : Arguments := match s with
  | .FunctionDef _ a _ _ _ _ _ _ _ _ => a
  | _ => { posonlyargs := [], args := [], vararg := none, kwonlyargs := [], kw_defaults := [], kwarg := none, defaults := [] }
def defBody (s : Stmt) : List Stmt := match s with
  | .FunctionDef _ _ b _ _ _ _ _ _ _ => b
  | _ => []
def defScope (s : Stmt) : Scope := match s with
  | .FunctionDef _ _ _ _ _ _ sc _ _ _ => sc
  | _ => { kind := .function, names := [], isGenerator := false, isCoroutine := false }

/-! ### no exception leaves a def -/
abbrev CX0 : CXT := fun _ _ _ _ _ _ => False
abbrev E0 : XK := fun _ _ _ => False
theorem pass0 {X : Cx} : Passes CX0 X E0 := fun _ _ _ _ _ _ _ h => h.elim

/-! ### a def (or method) of the text as it stands behind the top -/
structure Fun (K : PySem.W.Frag) (x qual : Str) (st : Stmt) (f : Addr) (fd : FuncData) : Prop where
  ex : ∃ (oc : Value) (od : Option Addr) (kV doc pm : Value) (an : Option Addr) (cdv ct : Value) (osl : Array (Option Value)),
    fd = PySem.W.fnOf x qual (defArgs st) (defBody st) (defScope st) .none kV doc pm an cdv ct ∧ K.lookup f = some ⟨oc, od, .func fd, osl⟩ ∧ PySem.W.codeIn K cdv qual = true
  kp : PySem.W.keepIn K (.ref f) = true
section
variable {P : Program} {w : World} {K : PySem.W.Frag} {mg : Str → Option Value} {base : Heap}
/-- THE RULE for a def: its body as a term of rules, and the reading of that term -/
theorem Fun.ok {x qual : Str} {st : Stmt} {f : Addr} {fd : FuncData} {N ps : List Str} {k : Nat} {sp : Sp} (F : Fun K x qual st f fd) (S : FnScope N ps (defScope st)) (len : ∀ vs H Q E, sp vs H Q E → vs.length = ps.length)
    (hbody : ∀ (cdv : Value) (A : Around) (outer : List Env) (s : Shared) (H : Hp) (vs : List V) (Q : VK) (E : XK), Room k (A.deeper (envOfC qual (defScope st) s.heap.objs.size f cdv)) → sp vs H Q E →
      ∃ t, PSs (cxOf CX0 P w K mg base N qual (defScope st) f cdv A outer s H E).nox (defBody st) t ∧ t { nx := fun _ H' => Q .non H', rt := Q } (start N vs) H) : FnOk P w K mg base CX0 (k + 1) f fd ps sp := by
  obtain ⟨oc, od, kV, doc, pm, an, cdv, ct, osl, rfl, lk, hcd⟩ := F.ex
  refine fn_of lk hcd S len fun A outer s H vs Q E hr hsp => ?_
  obtain ⟨t, h, q⟩ := hbody cdv A outer s H vs Q E hr hsp
  exact ⟨t, h.nox, q⟩
/-- how its arguments bind (no defaults): h is «fun _ _ _ _ _ _ us hl => match us, hl with | [_, _], _ => rfl», one _ a parameter -/
theorem Fun.binds {x qual : Str} {st : Stmt} {f : Addr} {fd : FuncData} {ps : List Str} (F : Fun K x qual st f fd)
    (h : ∀ (kV doc pm : Value) (an : Option Addr) (cdv ct : Value) (us : List Value), us.length = ps.length → bindArgs (PySem.W.fnOf x qual (defArgs st) (defBody st) (defScope st) .none kV doc pm an cdv ct) ⟨us, []⟩ = pure (ps.zip us)) : Binds K fd ps [] := by
  obtain ⟨oc, od, kV, doc, pm, an, cdv, ct, osl, rfl, lk, hcd⟩ := F.ex
  exact .all (h kV doc pm an cdv ct)
theorem fun_mk {x qual : Str} {st : Stmt} {f : Addr} {oc : Value} {od an : Option Addr} {osl : Array (Option Value)} {kV doc pm cdv ct : Value} (l : K.lookup f = some ⟨oc, od, .func (PySem.W.fnOf x qual (defArgs st) (defBody st) (defScope st) .none kV doc pm an cdv ct), osl⟩)
    (c : PySem.W.codeIn K cdv qual = true) (k : PySem.W.keepIn K (.ref f) = true) : Fun K x qual st f (PySem.W.fnOf x qual (defArgs st) (defBody st) (defScope st) .none kV doc pm an cdv ct) := ⟨⟨oc, od, kV, doc, pm, an, cdv, ct, osl, rfl, l, c⟩, k⟩
end
theorem small1000 {n : Nat} (h : n ≤ 1000) : n < sizeLine := Nat.lt_of_le_of_lt h (by decide)

/-! ### expressions in short: the name that stands in the i-th slot -/
section
variable {X : Cx}
theorem pv (i : Nat) {x : Str} {pos : Pos} (hN : X.N[i]? = some x := by rfl) (hv : Vis X.env.scope x := by first | exact Or.inl rfl | exact Or.inr (Or.inl rfl) | exact Or.inr (Or.inr rfl)) (hd : (x == ("__debug__" : Str)) = false := by decide)
    (hcd : (x == ("__classdict__" : Str)) = false := by decide) : PE X (.Name x pos) (tVar i) := pe_var hN hv hd hcd
end

/-! ### tests -/
theorem iteF {A B : Prop} (h : B) : if false = true then A else B := by
  rw [if_neg Bool.false_ne_true]
  exact h
theorem iteT {A B : Prop} (h : A) : if true = true then A else B := by
  rw [if_pos rfl]
  exact h
theorem ite2 {c A B : Prop} [Decidable c] (h1 : c → A) (h2 : ¬ c → B) : if c then A else B := by
  by_cases h : c
  · rw [if_pos h]
    exact h1 h
  · rw [if_neg h]
    exact h2 h
/-! ### heaps -/
/-- all that was tracked is as it was -/
def Same (H H' : Hp) : Prop := ∀ b o, H b = some o → H' b = some o
theorem Same.refl (H : Hp) : Same H H := fun _ _ h => h
theorem Same.trans {H H1 H2 : Hp} (a : Same H H1) (b : Same H1 H2) : Same H H2 := fun c o h => b c o (a c o h)
theorem Same.free {H H' : Hp} (e : Same H H') {l : Addr} (h : H' l = Option.none) : H l = Option.none := by
  cases q : H l with
  | none => rfl
  | some o =>
    rw [e l o q] at h
    cases h
theorem Same.seq {K : PySem.W.Frag} {H H' : Hp} {a : Addr} {xs : List V} (e : Same H H') (h : SqL K H a xs) : SqL K H' a xs := by
  rcases h with (h | ⟨o, h⟩) | h
  · exact .inl (.inl (e _ _ h))
  · exact .inl (.inr ⟨o, e _ _ h⟩)
  · exact .inr h

end L2

namespace L2
open PySem PySem.Spec PyProof.Rows
section
variable {X : Cx}
end
/-! ### a dict's pairs: keys that differ -/
section
variable {κ : Type} [DecidableEq κ]
end
end L2


/-! OWN RULES over the hand layer: isinstance, `is` of truths, tuples of ints compared, a chain of four, what a test wants. -/
namespace L2
open PySem PySem.Spec PyProof.Rows

theorem bt_len : bootBuiltins "len" = some (.builtin "len") := by decide +kernel
theorem bt_isinstance : bootBuiltins "isinstance" = some (.builtin "isinstance") := by decide +kernel
theorem bt_int : bootBuiltins "int" = some (.type "int") := by decide +kernel
theorem bt_bool : bootBuiltins "bool" = some (.type "bool") := by decide +kernel
theorem bt_str : bootBuiltins "str" = some (.type "str") := by decide +kernel
theorem bt_ValueError : bootBuiltins "ValueError" = some (.type "ValueError") := by decide +kernel
theorem kit_ii {K : PySem.W.Frag} : PySem.W.kitOne K (.type "int") (.type "int") = some true := by kernel_rfl
theorem kit_ib {K : PySem.W.Frag} : PySem.W.kitOne K (.type "int") (.type "bool") = some false := by kernel_rfl
theorem kit_bi {K : PySem.W.Frag} : PySem.W.kitOne K (.type "bool") (.type "int") = some true := by kernel_rfl
theorem kit_bb {K : PySem.W.Frag} : PySem.W.kitOne K (.type "bool") (.type "bool") = some true := by kernel_rfl
theorem kit_ni {K : PySem.W.Frag} : PySem.W.kitOne K (.type "NoneType") (.type "int") = some false := by kernel_rfl
theorem kit_si {K : PySem.W.Frag} : PySem.W.kitOne K (.type "str") (.type "int") = some false := by kernel_rfl
/-! ### tests -/
theorem iteD {c A B : Prop} [Decidable c] (hc : c) (h : A) : if decide c = true then A else B := by
  rw [decide_eq_true hc]
  exact iteT h
theorem iteND {c A B : Prop} [Decidable c] (hc : ¬ c) (h : B) : if decide c = true then A else B := by
  rw [decide_eq_false hc]
  exact iteF h
theorem ne_int {x y : Int} (h : x ≠ y) : ¬ V.int x = V.int y := fun e => h (V.int.inj e)
/-! ### the loops' forms, whatever stands behind -/
/-! ### an item of a list of ints, or nought beyond it -/
theorem cell_atI {ns : List Int} {k : Int} (h0 : 0 ≤ k) (h : k < (ns.length : Int)) : atI (ns.map V.int) k = some (.int (ns.getD k.toNat 0)) := by
  obtain ⟨j, rfl⟩ := Int.eq_ofNat_of_zero_le h0
  refine atI_nat ?_
  have hj : j < ns.length := by omega
  rw [List.getElem?_map, List.getElem?_eq_getElem hj, Int.toNat_natCast, List.getD_eq_getElem?_getD, List.getElem?_eq_getElem hj]
  rfl
theorem cell_out {ns : List Int} {k : Int} (h : ¬ k < (ns.length : Int)) : ns.getD k.toNat 0 = 0 := by
  rw [List.getD_eq_getElem?_getD, List.getElem?_eq_none (by omega)]
  rfl

section
variable {X : Cx}
/-! ### isinstance(x, T), T a built-in type -/
theorem call_isinst : CallR X (.builtin "isinstance") (fun xs H Q => ∃ x n t b, xs = [x, .ty n] ∧ TyOf X.K H x t ∧ PySem.W.kitOne X.K t (.type n) = some b ∧ Q (.bl b) H) := by
  intro pins s σ H xs us Q I r h
  obtain ⟨x, n, t, b, rfl, ty, e, q⟩ := h
  obtain ⟨u, w', rfl, ru, rw'⟩ := vals2 r
  cases (show w' = Value.type n from rw')
  exact isinst_ok I ru ty e fun tk => ⟨.bl b, H, I.tok _, rfl, q⟩
/-! ### is, is not of truths -/
/-! ### two tuples of ints, unlike -/
/-! ### a chain of any length -/
end
end L2

namespace SW
/-- the low k bits of n, in the other order -/
def rv : Nat → Nat → Nat
  | 0, _ => 0
  | k + 1, n => (n % 2) * 2 ^ k + rv k (n / 2)

theorem rv_lt : ∀ (k n : Nat), rv k n < 2 ^ k
  | 0, _ => by simp [rv]
  | k + 1, n => by
    have h := rv_lt k (n / 2)
    have m : n % 2 < 2 := Nat.mod_lt _ (by decide)
    have e : rv (k + 1) n = (n % 2) * 2 ^ k + rv k (n / 2) := rfl
    have p : 2 ^ (k + 1) = 2 * 2 ^ k := by rw [Nat.pow_succ, Nat.mul_comm]
    rw [e, p]
    rcases Nat.mod_two_eq_zero_or_one n with z | z <;> rw [z] <;> omega

theorem rv_snoc : ∀ (k n : Nat), rv (k + 1) n = rv k n * 2 + (n / 2 ^ k) % 2
  | 0, n => by simp [rv]
  | k + 1, n => by
    have h := rv_snoc k (n / 2)
    have e1 : rv (k + 2) n = (n % 2) * 2 ^ (k + 1) + rv (k + 1) (n / 2) := rfl
    have e2 : rv (k + 1) n = (n % 2) * 2 ^ k + rv k (n / 2) := rfl
    have d : n / 2 / 2 ^ k = n / 2 ^ (k + 1) := by
      rw [Nat.div_div_eq_div_mul, Nat.pow_succ, Nat.mul_comm]
    rw [e1, e2, h, d, Nat.pow_succ]
    rw [Nat.add_mul, Nat.mul_assoc]
    omega

theorem rv_mod : ∀ (k n : Nat), rv k (n % 2 ^ k) = rv k n
  | 0, _ => rfl
  | k + 1, n => by
    have p : 2 ^ (k + 1) = 2 * 2 ^ k := by rw [Nat.pow_succ, Nat.mul_comm]
    have e1 : n % 2 ^ (k + 1) % 2 = n % 2 := by
      rw [p]; exact Nat.mod_mul_right_mod n 2 (2 ^ k)
    have e2 : n % 2 ^ (k + 1) / 2 = n / 2 % 2 ^ k := by
      rw [p]; exact Nat.mod_mul_right_div_self n 2 (2 ^ k)
    show (n % 2 ^ (k + 1) % 2) * 2 ^ k + rv k (n % 2 ^ (k + 1) / 2) = (n % 2) * 2 ^ k + rv k (n / 2)
    rw [e1, e2, rv_mod k (n / 2)]

theorem rv_zero : ∀ k, rv k 0 = 0
  | 0 => rfl
  | k + 1 => by show (0 % 2) * 2 ^ k + rv k (0 / 2) = 0; rw [Nat.zero_div, rv_zero k]; simp

/-- a + b bits: the low a ones go up -/
theorem rv_split : ∀ (a b n : Nat), rv (a + b) n = rv a n * 2 ^ b + rv b (n / 2 ^ a)
  | 0, b, n => by simp [rv]
  | a + 1, b, n => by
    have h := rv_split a b (n / 2)
    have e : a + 1 + b = (a + b) + 1 := by omega
    have d : n / 2 / 2 ^ a = n / 2 ^ (a + 1) := by
      rw [Nat.div_div_eq_div_mul, Nat.pow_succ, Nat.mul_comm]
    rw [e]
    show (n % 2) * 2 ^ (a + b) + rv (a + b) (n / 2) = ((n % 2) * 2 ^ a + rv a (n / 2)) * 2 ^ b + _
    rw [h, d, Nat.add_mul, Nat.mul_assoc, ← Nat.pow_add]
    omega

theorem rv_rv : ∀ (k n : Nat), rv k (rv k n) = n % 2 ^ k
  | 0, n => by simp [rv, Nat.mod_one]
  | k + 1, n => by
    have e : rv (k + 1) n = rv k n * 2 + (n / 2 ^ k) % 2 := rv_snoc k n
    have e1 : (rv k n * 2 + (n / 2 ^ k) % 2) % 2 = (n / 2 ^ k) % 2 := by omega
    have e2 : (rv k n * 2 + (n / 2 ^ k) % 2) / 2 = rv k n := by omega
    rw [e]
    show (rv k n * 2 + (n / 2 ^ k) % 2) % 2 * 2 ^ k + rv k ((rv k n * 2 + (n / 2 ^ k) % 2) / 2) = n % 2 ^ (k + 1)
    rw [e1, e2, rv_rv k n, Nat.pow_succ, Nat.mod_mul, Nat.mul_comm (2 ^ k)]
    omega

/-- the place in a row of 2 ^ a slots: which stretch, and where in it -/
theorem rv_top {a b n : Nat} : rv (a + b) n / 2 ^ b = rv a n := by
  have l := rv_lt b (n / 2 ^ a)
  rw [rv_split a b n, Nat.mul_comm, Nat.mul_add_div (Nat.two_pow_pos b), Nat.div_eq_of_lt l, Nat.add_zero]

/-- a slot's first place -/
theorem rv_slot {a b s : Nat} (h : s < 2 ^ a) : rv (a + b) s = rv a s * 2 ^ b := by
  rw [rv_split a b s, Nat.div_eq_of_lt h, rv_zero, Nat.add_zero]

/-- the slot at a place -/
theorem rv_at {a b p : Nat} (h : p < 2 ^ (a + b)) : rv (a + b) p % 2 ^ a = rv a (p / 2 ^ b) := by
  -- rv (b + a) p = rv b p * 2 ^ a + rv a (p / 2 ^ b)
  have e := rv_split b a p
  rw [Nat.add_comm b a] at e
  rw [e, Nat.mul_comm, Nat.mul_add_mod, Nat.mod_eq_of_lt (rv_lt _ _)]
/-! ### over Int -/
/-- the sixteen bits of n in the other order: what turned tells -/
@[irreducible] def tz (n : Int) : Int := ((rv 16 n.toNat : Nat) : Int)
/-- of a slot of a row of 2 ^ a: which stretch it has -/
@[irreducible] def rz (a : Nat) (n : Int) : Int := ((rv a n.toNat : Nat) : Int)
theorem tz_nonneg (n : Int) : 0 ≤ tz n := by unfold tz; exact Int.natCast_nonneg _
theorem rz_nonneg (a : Nat) (n : Int) : 0 ≤ rz a n := by unfold rz; exact Int.natCast_nonneg _
theorem rz_lt (a : Nat) (n : Int) : rz a n < 2 ^ a := by
  have h := rv_lt a n.toNat
  unfold rz
  have c : ((rv a n.toNat : Nat) : Int) < ((2 ^ a : Nat) : Int) := by exact_mod_cast h
  simpa using c
theorem rz_rz (a : Nat) {n : Int} (h0 : 0 ≤ n) (h1 : n < 2 ^ a) : rz a (rz a n) = n := by
  obtain ⟨m, rfl⟩ := Int.eq_ofNat_of_zero_le h0
  have h := rv_rv a m
  have h1' : m < 2 ^ a := by exact_mod_cast h1
  unfold rz
  rw [Int.toNat_natCast, Int.toNat_natCast, h, Nat.mod_eq_of_lt h1']
/-- a slot's first place -/
theorem tz_slot {a b : Nat} (hab : a + b = 16) {s : Int} (h0 : 0 ≤ s) (h1 : s < 2 ^ a) : tz s = rz a s * 2 ^ b := by
  obtain ⟨m, rfl⟩ := Int.eq_ofNat_of_zero_le h0
  have h1' : m < 2 ^ a := by exact_mod_cast h1
  have h := rv_slot (b := b) h1'
  rw [hab] at h
  unfold tz rz
  rw [Int.toNat_natCast, h]
  simp
/-- a mark's place: in which stretch -/
theorem tz_top {a b : Nat} (hab : a + b = 16) {m : Int} (h0 : 0 ≤ m) : tz m / 2 ^ b = rz a (m % 2 ^ a) := by
  obtain ⟨n, rfl⟩ := Int.eq_ofNat_of_zero_le h0
  have h := rv_top (a := a) (b := b) (n := n)
  rw [hab] at h
  have e : ((n : Int) % 2 ^ a).toNat = n % 2 ^ a := by
    have c : ((n : Int) % 2 ^ a) = ((n % 2 ^ a : Nat) : Int) := by simp
    rw [c, Int.toNat_natCast]
  unfold tz rz
  rw [Int.toNat_natCast, e, rv_mod, ← h]
  simp
/-- the slot at a place -/
theorem tz_at {a b : Nat} (hab : a + b = 16) {p : Int} (h0 : 0 ≤ p) (h1 : p < 65536) : tz p % 2 ^ a = rz a (p / 2 ^ b) := by
  obtain ⟨n, rfl⟩ := Int.eq_ofNat_of_zero_le h0
  have h1' : n < 2 ^ (a + b) := by
    rw [hab]
    have : n < 65536 := by omega
    exact this
  have h := rv_at h1'
  rw [hab] at h
  have e : ((n : Int) / 2 ^ b).toNat = n / 2 ^ b := by
    have c : ((n : Int) / 2 ^ b) = ((n / 2 ^ b : Nat) : Int) := by simp
    rw [c, Int.toNat_natCast]
  unfold tz rz
  rw [Int.toNat_natCast, e, ← h]
  simp
/-! ### xor -/
/-! ### rows of slots -/
/-- a size: 2 ^ a slots, each 2 ^ b places wide -/
structure Row (S : Int) (a b : Nat) : Prop where
  ab : a + b = 16
  lo : 2 ≤ a
  hi : a ≤ 9
  eq : S = 2 ^ a
section
variable {S : Int} {a b : Nat} (R : Row S a b)
include R
theorem Row.mul : S * 2 ^ b = 65536 := by
  rw [R.eq, ← Int.pow_add, R.ab]; decide
theorem Row.wpos : (0 : Int) < 2 ^ b := Int.pow_pos (by decide)
theorem Row.pos : 0 < S := by rw [R.eq]; exact Int.pow_pos (by decide)
theorem Row.width : 65536 / S = 2 ^ b := by
  rw [← R.mul, Int.mul_ediv_cancel_left _ (Int.ne_of_gt R.pos)]
theorem Row.small : S ≤ 512 := by
  rw [R.eq]
  have h : (2 : Int) ^ a ≤ 2 ^ 9 := by
    have : (2 : Nat) ^ a ≤ 2 ^ 9 := Nat.pow_le_pow_right (by decide) R.hi
    exact_mod_cast this
  have e : (2 : Int) ^ 9 = 512 := by decide
  omega
theorem Row.mul' : S * (65536 / S) = 65536 := by rw [R.width, R.mul]
theorem Row.wpos' : 0 < 65536 / S := by rw [R.width]; exact R.wpos
theorem Row.slot {s : Int} (h0 : 0 ≤ s) (h1 : s < S) : tz s = 2 ^ b * rz a s ∧ 0 ≤ rz a s ∧ rz a s < S ∧ rz a (rz a s) = s := by
  have h1' : s < 2 ^ a := by rw [← R.eq]; exact h1
  refine ⟨by rw [tz_slot R.ab h0 h1', Int.mul_comm], rz_nonneg _ _, by rw [R.eq]; exact rz_lt _ _, rz_rz _ h0 h1'⟩
/-- where a mark's place lies -/
theorem Row.top {m : Int} (h0 : 0 ≤ m) : 2 ^ b * rz a (m % S) ≤ tz m ∧ tz m < 2 ^ b * rz a (m % S) + 2 ^ b := by
  have d := tz_top R.ab h0
  rw [← R.eq] at d
  have e := Int.mul_ediv_add_emod (tz m) (2 ^ b)
  have p := Int.emod_nonneg (tz m) (Int.ne_of_gt R.wpos)
  have q := Int.emod_lt_of_pos (tz m) R.wpos
  rw [d] at e
  omega
theorem Row.at {p : Int} (h0 : 0 ≤ p) (h1 : p < 65536) : tz p % S = rz a (p / 2 ^ b) := by
  rw [R.eq]; exact tz_at R.ab h0 h1
theorem Row.mod0 (m : Int) : 0 ≤ m % S := Int.emod_nonneg _ (Int.ne_of_gt R.pos)
theorem Row.mod1 (m : Int) : m % S < S := Int.emod_lt_of_pos _ R.pos
/-- in which stretch: one alone -/
theorem Row.between {W x y p : Int} (hW : 0 < W) (h0 : W * x ≤ p) (h1 : p < W * x + W) (k0 : W * y ≤ p) (k1 : p < W * y + W) : x = y := by
  rcases Int.lt_trichotomy x y with h | h | h
  · have : W * (x + 1) ≤ W * y := Int.mul_le_mul_of_nonneg_left (by omega) (Int.le_of_lt hW)
    rw [Int.mul_add] at this; omega
  · exact h
  · have : W * (y + 1) ≤ W * x := Int.mul_le_mul_of_nonneg_left (by omega) (Int.le_of_lt hW)
    rw [Int.mul_add] at this; omega
theorem Row.st_has {m : Int} (h0 : 0 ≤ m) : tz (m % S) ≤ tz m ∧ tz m < tz (m % S) + 65536 / S := by
  obtain ⟨e, _⟩ := R.slot (R.mod0 m) (R.mod1 m)
  have t := R.top h0
  rw [R.width, e]
  exact t
/-- the next stretch, and the one ahead -/
theorem Row.next {s : Int} (h0 : 0 ≤ s) (h1 : s < S) (h : tz s + 65536 / S < 65536) : 0 ≤ tz (tz s + 65536 / S) % S ∧ tz (tz s + 65536 / S) % S < S ∧ tz (tz s + 65536 / S) % S ≠ s ∧ tz (tz (tz s + 65536 / S) % S) = tz s + 65536 / S := by
  obtain ⟨e, r0, r1, rr⟩ := R.slot h0 h1
  have n := tz_nonneg s
  have w := R.wpos
  rw [R.width] at h ⊢
  have q : (tz s + 2 ^ b) / 2 ^ b = rz a s + 1 := by
    have x : 2 ^ b * rz a s + 2 ^ b = 2 ^ b * (rz a s + 1) := by rw [Int.mul_add, Int.mul_one]
    rw [e, x, Int.mul_ediv_cancel_left _ (Int.ne_of_gt w)]
  have lt : rz a s + 1 < S := by
    have m := R.mul
    have : 2 ^ b * (rz a s + 1) < 2 ^ b * S := by
      rw [Int.mul_add, Int.mul_comm (2 ^ b) S]; omega
    exact Int.lt_of_mul_lt_mul_left this (Int.le_of_lt w)
  have at' := R.at (p := tz s + 2 ^ b) (by omega) (by omega)
  rw [q] at at'
  have lt' : rz a s + 1 < 2 ^ a := by rw [← R.eq]; exact lt
  have b0 := rz_nonneg a (rz a s + 1)
  have b1 := rz_lt a (rz a s + 1)
  rw [← R.eq] at b1
  rw [at']
  refine ⟨b0, b1, fun z => ?_, ?_⟩
  · have := rz_rz a (n := rz a s + 1) (by omega) lt'
    rw [z] at this; omega
  · obtain ⟨e2, _⟩ := R.slot b0 b1
    rw [e2, rz_rz a (by omega) lt', e, Int.mul_add]
    omega
end
/-! ### all stretches of a row, in order -/
/-! ### a row within a row -/
theorem Row.wide {S G m : Int} {a b a' b' : Nat} (R : Row S a b) (Rg : Row G a' b') (hm : G = S * m) : (65536 / G) * m = 65536 / S := by
  have h1 := R.mul'
  have h2 := Rg.mul'
  have h3 : S * (m * (65536 / G)) = S * (65536 / S) := by rw [← Int.mul_assoc, ← hm, h2, h1]
  have := Int.eq_of_mul_eq_mul_left (Int.ne_of_gt R.pos) h3
  rw [Int.mul_comm]
  exact this
theorem Row.within {S G m : Int} {a b a' b' : Nat} (R : Row S a b) (Rg : Row G a' b') (hm : G = S * m) (m0 : 0 < m) {k : Int} (h0 : 0 ≤ k) :
    k % G % S = k % S ∧ tz (k % S) ≤ tz (k % G) ∧ tz (k % G) ≤ tz k ∧ tz k < tz (k % G) + 65536 / G ∧ tz (k % G) + 65536 / G ≤ tz (k % S) + 65536 / S := by
  have e : k % G % S = k % S := Int.emod_emod_of_dvd _ ⟨m, hm⟩
  have f0 := Rg.mod0 k
  have f1 := Rg.mod1 k
  have t1 := R.st_has f0
  have t2 := Rg.st_has h0
  rw [e] at t1
  refine ⟨e, t1.1, t2.1, t2.2, ?_⟩
  obtain ⟨e1, r0, r1, _⟩ := R.slot (R.mod0 k) (R.mod1 k)
  obtain ⟨e2, p0, p1, _⟩ := Rg.slot f0 f1
  have wg := Rg.wpos'
  have wd := R.wide Rg hm
  rw [← R.width] at e1
  rw [← Rg.width] at e2
  have q : tz (k % S) + 65536 / S = (65536 / G) * (m * (rz a (k % S) + 1)) := by
    rw [e1, ← wd, Int.mul_add, Int.mul_one, Int.mul_add, Int.mul_assoc]
  have lt := t1.2
  rw [q, e2] at lt
  have lt2 := Int.lt_of_mul_lt_mul_left lt (Int.le_of_lt wg)
  rw [q, e2]
  have : (65536 / G) * (rz a' (k % G) + 1) ≤ (65536 / G) * (m * (rz a (k % S) + 1)) := Int.mul_le_mul_of_nonneg_left (by omega) (Int.le_of_lt wg)
  rw [Int.mul_add, Int.mul_one] at this
  exact this
theorem Row.mono {S : Int} {a b : Nat} (R : Row S a b) {k1 k2 : Int} (h1 : 0 ≤ k1) (h2 : 0 ≤ k2) (h : tz k1 ≤ tz k2) : tz (k1 % S) ≤ tz (k2 % S) := by
  obtain ⟨e1, _⟩ := R.slot (R.mod0 k1) (R.mod1 k1)
  obtain ⟨e2, _⟩ := R.slot (R.mod0 k2) (R.mod1 k2)
  have t1 := R.top h1
  have t2 := R.top h2
  have w := R.wpos
  have lt : 2 ^ b * rz a (k1 % S) < 2 ^ b * (rz a (k2 % S) + 1) := by rw [Int.mul_add, Int.mul_one]; omega
  have := Int.lt_of_mul_lt_mul_left lt (Int.le_of_lt w)
  rw [e1, e2]
  exact Int.mul_le_mul_of_nonneg_left (by omega) (Int.le_of_lt w)
end SW

/-! EXCEPTIONS OVER THE HAND LAYER. 1: the record of an exception, and what passing a frame does to it. -/
namespace L2
open PySem PySem.Spec PyProof.Rows

/-- the record of an exception: its class, its own dict, its fields -/
abbrev excRec (C : Addr) (od : Option Addr) (vs : Array Value) : Obj := { cls := .ref C, dict := od, data := .fields vs }
/-- its first traceback entry, at T, in the state fl -/
def Trc (h : Heap) (e : Addr) (vs : Array Value) (T : Addr) (fl : Value) : Prop :=
  vs[1]? = some (.ref T) ∧ T ≠ e ∧ ∃ oT ts, h.get? T = some oT ∧ oT.data = .fields ts ∧ ts[3]? = some fl
/-- frames at l may have other slots, e and the old entry have changed, all else is kept -/
structure Noted (l : List Addr) (e : Addr) (old : Addr → Prop) (h h' : Heap) : Prop where
  keep : ∀ b o, h.get? b = some o → b ∉ l → b ≠ e → ¬ old b → h'.get? b = some o
  slot : ∀ b o, h.get? b = some o → b ∈ l → b ≠ e → ¬ old b → ∃ sl, h'.get? b = some { o with slots := sl }
  there : ∀ b o, h.get? b = some o → ∃ o', h'.get? b = some o'
theorem Noted.mono {l : List Addr} {e : Addr} {old old' : Addr → Prop} {h h' : Heap} (n : Noted l e old h h') (k : ∀ b, old b → old' b) : Noted l e old' h h' :=
  ⟨fun b o q1 q2 q3 q4 => n.keep b o q1 q2 q3 fun z => q4 (k b z), fun b o q1 q2 q3 q4 => n.slot b o q1 q2 q3 fun z => q4 (k b z), n.there⟩
theorem Noted.trans {l : List Addr} {e : Addr} {old : Addr → Prop} {h h1 h2 : Heap} (n : Noted l e old h h1) (m : Noted l e old h1 h2) : Noted l e old h h2 :=
  ⟨fun b o q1 q2 q3 q4 => m.keep b o (n.keep b o q1 q2 q3 q4) q2 q3 q4,
   fun b o q1 q2 q3 q4 => by
    obtain ⟨s1, r1⟩ := n.slot b o q1 q2 q3 q4
    obtain ⟨s2, r2⟩ := m.slot b _ r1 q2 q3 q4
    exact ⟨s2, r2⟩,
   fun b o q1 => let ⟨_, r1⟩ := n.there b o q1; m.there b _ r1⟩

section
variable {M : Model} {A : Around} {E : Value → Shared → Prop} {s : Shared} {base : Heap} {env : Env} {outer : List Env} {L e C : Addr} {od : Option Addr} {vs : Array Value} {Q : Unit → Shared → Prop}

theorem frs_ne (hl : s.heap.FunFrames base (env :: outer)) (he : s.heap.get? e = some (excRec C od vs)) : e ∉ frs (env :: outer) := fun hm => by
  obtain ⟨_, o, ho, hn⟩ := hl.mem hm
  cases he.symm.trans ho
  exact hn vs rfl

theorem note_entry {head : Value} {had : Bool} (hfr : A.frames = some (env :: outer)) (hl : s.heap.FunFrames base (env :: outer)) (hf : env.frame = some L) (he : s.heap.get? e = some (excRec C od vs)) (hsz : 1 < vs.size)
    (q : ∀ h' T vs', Noted (frs (env :: outer)) e (fun _ => False) s.heap h' → h'.get? e = some (excRec C od vs') → vs'.size = vs.size → s.heap.objs.size ≤ T → Trc h' e vs' T (rawInt L) → Q () { s with heap := h' }) :
    wpAny M A (do let a ← frameOf env; let pl ← entryPlaceOf L had; let b ← EntryCells.newEntry head a .none (rawInt L) .none pl; setField (.ref e) 1 b) Q E s := by
  have nf : e ∉ (env :: outer).filterMap (·.frame) := frs_ne hl he
  refine wpAny_bind (wpAny_frameOf_fun hfr hl hf fun h1 so => ?_)
  refine wpAny_bind (wpAny_entryPlaceOf fun pl ip => ?_)
  unfold EntryCells.newEntry newFields
  refine wpAny_bind (wpAny_newObj_type ?_ (ip.sizeOk5 _ _ _ _ _))
  have e1 : h1.get? e = some (excRec C od vs) := (so.2.1 e nf).trans he
  have big : 3 < ([head, Value.ref L, .none, rawInt L, .none] ++ (if pl.isEmpty then List.replicate 6 Value.none else pl)).toArray.size := by
    simp only [List.size_toArray, List.length_append, List.length_cons, List.length_nil]
    omega
  have at3 : ([head, Value.ref L, .none, rawInt L, .none] ++ (if pl.isEmpty then List.replicate 6 Value.none else pl)).toArray[3]? = some (rawInt L) := by simp
  generalize ([head, Value.ref L, .none, rawInt L, .none] ++ (if pl.isEmpty then List.replicate 6 Value.none else pl)).toArray = ts at big at3
  generalize eo : ({ cls := .type "traceback", dict := none, data := .fields ts } : Obj) = oT
  have e2 : (h1.push oT).get? e = some (excRec C od vs) := Heap.get?_push_of_some _ e1
  have ne : h1.objs.size ≠ e := Nat.ne_of_gt (Heap.lt_size e1)
  refine wpAny_setField e2 rfl hsz (q _ h1.objs.size (vs.setIfInBounds 1 (.ref h1.objs.size)) ⟨fun b o g1 g2 g3 _ => ?_, fun b o g1 _ g3 _ => ?_, fun b o g1 => ?_⟩ ?_ (Array.size_setIfInBounds) (Nat.le_of_eq so.1.symm) ⟨by simp [hsz], ne, oT, ts, ?_, by rw [← eo], at3⟩)
  · rw [Heap.get?_update_other _ _ (Ne.symm g3)]
    exact Heap.get?_push_of_some _ ((so.2.1 b g2).trans g1)
  · obtain ⟨sl, r⟩ := so.2.2 b o g1
    exact ⟨sl, (Heap.get?_update_other _ _ (Ne.symm g3)).trans (Heap.get?_push_of_some _ r)⟩
  · by_cases z : b = e
    · subst z
      exact ⟨_, Heap.get?_update_self _ e2 rfl⟩
    · obtain ⟨sl, r⟩ := so.2.2 b o g1
      exact ⟨_, (Heap.get?_update_other _ _ (Ne.symm z)).trans (Heap.get?_push_of_some _ r)⟩
  · exact Heap.get?_update_self _ e2 rfl
  · rw [Heap.get?_update_other _ _ (Ne.symm ne), ← eo]
    exact Heap.get?_push_size h1 rfl

/-- noteFrame of an exception that has passed no frame yet -/
theorem note_first (hfr : A.frames = some (env :: outer)) (hl : s.heap.FunFrames base (env :: outer)) (hf : env.frame = some L) (he : s.heap.get? e = some (excRec C od vs)) (h1 : vs[1]? = some .none)
    (q : ∀ h' T vs', Noted (frs (env :: outer)) e (fun _ => False) s.heap h' → h'.get? e = some (excRec C od vs') → vs'.size = vs.size → s.heap.objs.size ≤ T → Trc h' e vs' T (rawInt L) → Q () { s with heap := h' }) :
    wpAny M A (noteFrame (.ref e) env) Q E s := by
  unfold noteFrame
  simp only [hf]
  refine wpAny_bind (wpAny_field he rfl h1 ?_)
  rw [if_neg (by decide)]
  exact note_entry hfr hl hf he (Array.getElem?_eq_some_iff.mp h1).1 q

/-- .. and of one that has -/
theorem note_next {T : Addr} (hfr : A.frames = some (env :: outer)) (hl : s.heap.FunFrames base (env :: outer)) (hf : env.frame = some L) (he : s.heap.get? e = some (excRec C od vs)) (tr : Trc s.heap e vs T .none)
    (q : ∀ h' T' vs', Noted (frs (env :: outer)) e (· = T) s.heap h' → h'.get? e = some (excRec C od vs') → vs'.size = vs.size → s.heap.objs.size ≤ T' → Trc h' e vs' T' (rawInt L) → Q () { s with heap := h' }) :
    wpAny M A (noteFrame (.ref e) env) Q E s := by
  obtain ⟨h1, ne, oT, ts, hT, hd, h3⟩ := tr
  unfold noteFrame
  simp only [hf]
  refine wpAny_bind (wpAny_field he rfl h1 ?_)
  rw [if_pos (show (Value.ref T != Value.none) = true by simp)]
  refine wpAny_bind (wpAny_field hT hd h3 ?_)
  rw [if_neg (show ¬ (Value.none == rawInt L) = true by simp [rawInt])]
  have oth : ∀ b, b ≠ T → (s.heap.update T (Obj.mapFields (·.setIfInBounds 3 Value.none))).get? b = s.heap.get? b := fun b z => Heap.get?_update_other _ _ (Ne.symm z)
  have nofr : ∀ b o, s.heap.get? b = some o → (∀ ws, o.data ≠ .fields ws) → b ≠ T := fun b o g1 g2 z => by
    subst z
    cases hT.symm.trans g1
    exact g2 ts hd
  refine wpAny_bind (wpAny_setField hT hd (Array.getElem?_eq_some_iff.mp h3).1 ?_)
  refine note_entry hfr (hl.of_keeps fun b o g1 g2 => ⟨o, (oth b (nofr b o g1 g2)).trans g1, rfl⟩) hf ((oth e (Ne.symm ne)).trans he) (Array.getElem?_eq_some_iff.mp h1).1 fun h' T' vs' n g1 g2 g3 g4 => ?_
  refine q h' T' vs' ⟨fun b o k1 k2 k3 k4 => n.keep b o ((oth b k4).trans k1) k2 k3 id, fun b o k1 k2 k3 k4 => n.slot b o ((oth b k4).trans k1) k2 k3 id, fun b o k1 => ?_⟩ g1 g2 (by rw [Heap.size_after_update] at g3; exact g3) g4
  by_cases z : b = T
  · subst z
    exact n.there b _ (Heap.get?_update_self _ hT (Obj.isFreed_of_fields (Obj.data_mapFields hd _)))
  · exact n.there b o ((oth b z).trans k1)

/-- the mark of its flight is taken off -/
theorem flight_off {l : List Addr} {T : Addr} {fl : Value} (he : s.heap.get? e = some (excRec C od vs)) (tr : Trc s.heap e vs T fl)
    (q : ∀ h', (∀ b o, b ≠ T → s.heap.get? b = some o → h'.get? b = some o) → h'.get? e = some (excRec C od vs) → (∃ o, h'.get? T = some o) → h'.objs.size = s.heap.objs.size → Trc h' e vs T .none → Q () { s with heap := h' }) :
    wpAny M A (setFlight (.ref e) none) Q E s := by
  obtain ⟨h1, ne, oT, ts, hT, hd, h3⟩ := tr
  have big : 3 < ts.size := (Array.getElem?_eq_some_iff.mp h3).1
  unfold setFlight
  refine wpAny_bind (wpAny_field he rfl h1 ?_)
  rw [if_pos (show (Value.ref T != Value.none) = true by simp)]
  have oth : ∀ b, b ≠ T → (s.heap.update T (Obj.mapFields (·.setIfInBounds 3 ((none : Option Addr).elim Value.none fun f => rawInt f)))).get? b = s.heap.get? b := fun b z => Heap.get?_update_other _ _ (Ne.symm z)
  have new := Heap.get?_update_self (Obj.mapFields (·.setIfInBounds 3 ((none : Option Addr).elim Value.none fun f => rawInt f))) hT (Obj.isFreed_of_fields (Obj.data_mapFields hd _))
  exact wpAny_setField hT hd big (q _ (fun b o z g => (oth b z).trans g) ((oth e (Ne.symm ne)).trans he) ⟨_, new⟩ (Heap.size_after_update ..) ⟨h1, ne, _, _, new, Obj.data_mapFields hd _, by simp [big]⟩)
end
end L2
/-! EXCEPTIONS 2: tracked exceptions; an exception behind a call; how it passes on. -/
namespace L2
open PySem PySem.Spec PyProof.Rows

/-- an exception just made; one in any state -/
def XN (e C : Addr) (od : Option Addr) : HO := .ext fun h => ∃ t, h.get? e = some (excRec C od #[.ref t, .none, .none, .none, .bool false, .none])
def XO (e C : Addr) (od : Option Addr) : HO := .ext fun h => ∃ vs, h.get? e = some (excRec C od vs) ∧ 1 < vs.size

section
variable {P : Program} {w : World} {H : Hp} {h h' : Heap} {e C : Addr} {od : Option Addr} {vs : Array Value}
theorem xn_mk {t : Addr} (k : h.get? e = some (excRec C od #[.ref t, .none, .none, .none, .bool false, .none])) : ObjOk P w H h e (XN e C od) :=
  ⟨⟨t, k⟩, ⟨_, k⟩, fun _ _ ⟨t, k⟩ st => ⟨t, st _ k⟩⟩
theorem xo_mk (k : h.get? e = some (excRec C od vs)) (z : 1 < vs.size) : ObjOk P w H h e (XO e C od) :=
  ⟨⟨vs, k, z⟩, ⟨_, k⟩, fun _ _ ⟨vs, k, z⟩ st => ⟨vs, st _ k, z⟩⟩
theorem xn_at (ok : HOk P w H h) (q : H e = some (XN e C od)) : ∃ t, h.get? e = some (excRec C od #[.ref t, .none, .none, .none, .bool false, .none]) := (ok e _ q).1
theorem xo_at (ok : HOk P w H h) (q : H e = some (XO e C od)) : ∃ vs, h.get? e = some (excRec C od vs) ∧ 1 < vs.size := (ok e _ q).1

/-- an exception's record has changed, an entry of its trace, frames' slots: the heap is held as before -/
theorem Noted.hok {l : List Addr} {old : Addr → Prop} {φ : Heap → Prop} (n : Noted l e old h h') (ok : HOk P w H h) (hl : ∀ b ∈ l, H b = none) (ho : ∀ b, old b → H b = none) (he : H e = some (.ext φ))
    (new : h'.get? e = some (excRec C od vs)) (z : 1 < vs.size) : HOk P w (upd H e (XO e C od)) h' := fun b u q => by
  by_cases hb : b = e
  · subst hb
    rw [upd_same] at q
    cases q
    exact xo_mk new z
  · rw [upd_ne hb] at q
    have oth : ∀ c v, H c = some v → c ≠ e → ∀ o, h.get? c = some o → h'.get? c = some o := fun c v r ne o g =>
      n.keep c o g (fun m => by rw [hl c m] at r; cases r) ne fun m => by rw [ho c m] at r; cases r
    refine (ok b u q).stay (fun c v hc r => ?_) (fun c r => ?_) fun c xs r => ?_
    · rcases hc with rfl | hc
      · exact oth _ _ q hb v r
      · exact oth _ _ hc (fun m => by rw [m, he] at hc; cases hc) v r
    · rw [upd_ne (fun m => by rw [m, he] at r; cases r)]
      exact r
    · rw [upd_ne (fun m => by rw [m, he] at r; cases r)]
      exact r
theorem Noted.un {l : List Addr} {old : Addr → Prop} {ch : List Addr} {φ : Heap → Prop} {o' : HO} (n : Noted l e old h h') (hc : ∀ b, old b → b ∈ ch) (he : H e = some (.ext φ)) : Un l ch H (upd H e o') h h' := by
  have ne : ∀ b, H b = none → b ≠ e := fun b r z => by rw [z, he] at r; cases r
  refine ⟨fun b o g r m k => n.keep b o g m (ne b r) fun z => k (hc b z), fun b o g r m k => n.slot b o g m (ne b r) fun z => k (hc b z), fun b o _ r _ => by rw [upd_ne (ne b r)]; exact r, fun b o g _ => n.there b o g, fun b xs r => ?_, fun b o u r => ?_, fun b ps r => ⟨#[], ?_⟩⟩
  · rw [upd_ne (fun m => by rw [m, he] at r; cases r)]
    exact r
  · rw [upd_ne (fun m => by rw [m, he] at r; cases r)]
    exact r
  · rw [upd_ne (fun m => by rw [m, he] at r; cases r), r]
    simp
end

/-- how an exception lies behind a call: E is asked of the exception itself, its own dict's address, the heap -/
def CX1 (P : Program) (w : World) : CXT := fun outer H s E e s' => ∃ (ea C : Addr) (od : Option Addr) (vs : Array Value) (T : Addr) (H' : Hp),
  e = .ref ea ∧ s'.os = s.os ∧ AllBare s'.gens ∧ Un (frs outer) [] H H' s.heap s'.heap ∧ HOk P w H' s'.heap ∧ H' ea = some (XO ea C od) ∧ s'.heap.get? ea = some (excRec C od vs) ∧ 1 < vs.size ∧
  Trc s'.heap ea vs T .none ∧ H' T = none ∧ s.heap.objs.size ≤ T ∧ E (.ref ea) od H'
end L2
/-! EXCEPTIONS 3: passing a frame; defs that may raise. -/
namespace L2
open PySem PySem.Spec PyProof.Rows

theorem upd_self {H : Hp} {a : Addr} {o : HO} (h : H a = some o) : upd H a o = H := by
  funext b
  by_cases z : b = a
  · subst z; rw [upd_same, h]
  · rw [upd_ne z]

/-- an exception flies through the body of X: the state there, E of it -/
def Flies (X : Cx) (E : St → XK) (e : Value) (s : Shared) : Prop := ∃ (pins : List (Addr × Obj)) (σ : St) (H : Hp) (ea C : Addr) (od : Option Addr) (vs : Array Value) (φ : Heap → Prop),
  e = .ref ea ∧ Inv X pins σ H s ∧ H ea = some (.ext φ) ∧ s.heap.get? ea = some (excRec C od vs) ∧ 1 < vs.size ∧ (vs[1]? = some .none ∨ ∃ T, Trc s.heap ea vs T .none ∧ FpOk X pins H T) ∧ E σ (.ref ea) od (upd H ea (XO ea C od))

section
variable {X : Cx} {pins : List (Addr × Obj)} {σ : St} {H : Hp} {s : Shared} {M : Model} {A : Around} {W : Value → Shared → Prop}

theorem note_land {ea C : Addr} {od : Option Addr} {vs : Array Value} {φ : Heap → Prop} {Q : Unit → Shared → Prop} (I : Inv X pins σ H s) (hst : X.stack = X.env :: X.outer) (hf : X.env.frame = some X.env.locals) (hA : A.frames = some X.stack)
    (hx : H ea = some (.ext φ)) (hr : s.heap.get? ea = some (excRec C od vs)) (hz : 1 < vs.size) (ht : vs[1]? = some .none ∨ ∃ T, Trc s.heap ea vs T .none ∧ FpOk X pins H T)
    (q : ∀ s' vs' T, Inv X pins σ (upd H ea (XO ea C od)) s' → s'.heap.get? ea = some (excRec C od vs') → 1 < vs'.size → Trc s'.heap ea vs' T .none → FpOk X pins (upd H ea (XO ea C od)) T → Q () s') :
    wpAny M A (noteFrame (.ref ea) X.env) (fun _ s1 => wpAny M A (setFlight (.ref ea) none) Q W s1) W s := by
  rw [hst] at hA
  have hl : s.heap.FunFrames X.base (X.env :: X.outer) := hst ▸ I.stack
  have hfree : ∀ b ∈ frs (X.env :: X.outer), H b = none := hst ▸ I.stkFree
  -- what stands behind both steps
  have fin : ∀ (old : Addr → Prop) (ch : List Addr) (h1 : Heap) (T' : Addr) (vs' : Array Value), (∀ b, old b ↔ b ∈ ch) → (∀ b ∈ ch, FpOk X pins H b) → Noted (frs (X.env :: X.outer)) ea old s.heap h1 → h1.get? ea = some (excRec C od vs') → vs'.size = vs.size →
      s.heap.objs.size ≤ T' → Trc h1 ea vs' T' (rawInt X.env.locals) → wpAny M A (setFlight (.ref ea) none) Q W { s with heap := h1 } := by
    intro old ch h1 T' vs' hoc hch n g1 g2 g3 g4
    refine flight_off (l := []) (s := { s with heap := h1 }) g1 g4 fun h2 k1 k2 k3 k4 k5 => ?_
    have nT : ∀ b o, s.heap.get? b = some o → b ≠ T' := fun b o g z => absurd (Heap.lt_size g) (Nat.not_lt.mpr (z ▸ g3))
    have n2 : Noted (frs (X.env :: X.outer)) ea old s.heap h2 := ⟨fun b o r1 r2 r3 r4 => k1 b o (nT b o r1) (n.keep b o r1 r2 r3 r4), fun b o r1 r2 r3 r4 => by
        obtain ⟨sl, r⟩ := n.slot b o r1 r2 r3 r4
        exact ⟨sl, k1 b _ (nT b o r1) r⟩, fun b o r1 => by
        obtain ⟨o', r⟩ := n.there b o r1
        exact ⟨o', k1 b _ (nT b o r1) r⟩⟩
    have hok2 : HOk X.prog X.w (upd H ea (XO ea C od)) h2 := n2.hok I.hok hfree (fun b z => (hch b ((hoc b).mp z)).1) hx k2 (g2 ▸ hz)
    have un2 : Un (frs X.stack) ch H (upd H ea (XO ea C od)) s.heap h2 := by
      rw [hst]
      exact n2.un (fun b z => (hoc b).mp z) hx
    have I2 : Inv X pins σ (upd H ea (XO ea C od)) { s with heap := h2 } := I.call' (s' := { s with heap := h2 }) rfl un2 hok2 I.bare fun b hb => by
      obtain ⟨z1, z2, z3, z4, z5, z6⟩ := hch b hb
      exact ⟨z4, z2, z5, z6⟩
    refine q _ vs' T' I2 k2 (g2 ▸ hz) k5 (I.fpOk g3 ?_)
    have neT : T' ≠ ea := Ne.symm (nT ea _ hr)
    rw [upd_ne neT]
    exact I.hok.fresh g3
  rcases ht with h1 | ⟨T, tr, fp⟩
  · exact note_first hA hl hf hr h1 fun h1 T' vs' n g1 g2 g3 g4 => fin (fun _ => False) [] h1 T' vs' (fun b => by simp) (fun b z => nomatch z) n g1 g2 g3 g4
  · exact note_next hA hl hf hr tr fun h1 T' vs' n g1 g2 g3 g4 => fin (· = T) [T] h1 T' vs' (fun b => by simp) (fun b z => by rw [List.mem_singleton.mp z]; exact fp) n g1 g2 g3 g4

/-- behind a call that raised -/
theorem Inv.thrown {E : XK} {e : Value} {s' : Shared} (I : Inv X pins σ H s) (h : CX1 X.prog X.w X.stack H s E e s') : ∃ (ea C : Addr) (od : Option Addr) (vs : Array Value) (H' : Hp), e = .ref ea ∧ Inv X pins σ H' s' ∧ H' ea = some (XO ea C od) ∧
    s'.heap.get? ea = some (excRec C od vs) ∧ 1 < vs.size ∧ (∃ T, Trc s'.heap ea vs T .none ∧ FpOk X pins H' T) ∧ E (.ref ea) od H' := by
  obtain ⟨ea, C, od, vs, T, H', rfl, os, bare, un, hok, hx, hr, hz, tr, hT, hn, q⟩ := h
  exact ⟨ea, C, od, vs, H', rfl, I.call' os un hok bare fun b z => absurd z (by simp), hx, hr, hz, ⟨T, tr, I.fpOk hn hT⟩, q⟩
theorem Inv.flies {E : XK} {F : St → XK} {e : Value} {s' : Shared} (I : Inv X pins σ H s) (h : CX1 X.prog X.w X.stack H s E e s') (k : ∀ v od H', E v od H' → F σ v od H') : Flies X F e s' := by
  obtain ⟨ea, C, od, vs, H', rfl, I', hx, hr, hz, ht, q⟩ := I.thrown h
  exact ⟨pins, σ, H', ea, C, od, vs, _, rfl, I', hx, hr, hz, .inr ht, by rw [upd_self hx]; exact k _ _ _ q⟩
end

section
variable {P : Program} {w : World} {K : PySem.W.Frag} {mg : Str → Option Value} {base : Heap} {N : List Str} {qual : Str} {scope : Scope} {f : Addr} {cd : Value} {A : Around} {outer : List Env} {s : Shared} {H : Hp} {E : XK}
/-- an exception leaves a def's body -/
theorem leave_cx {e : Value} {s' : Shared} (h : Flies (cxOf (CX1 P w) P w K mg base N qual scope f cd A outer s H E) (fun _ => E) e s') : (cxOf (CX1 P w) P w K mg base N qual scope f cd A outer s H E).xe e s' := by
  obtain ⟨pins, σ, H1, ea, C, od, vs, φ, rfl, I, hx, hr, hz, ht, q⟩ := h
  show wpAny _ _ (leaving _ (.ref ea)) _ _ s'
  unfold leaving
  refine wpAny_bind (note_land I rfl rfl I.ok.frames hx hr hz ht fun s2 vs2 T I2 r2 z2 t2 f2 => ?_)
  refine ⟨ea, C, od, vs2, T, _, rfl, I2.os, I2.bare, I2.base, I2.hok, upd_same, r2, z2, t2, f2.1, ?_, q⟩
  rcases f2.2.2.2.1 with z | z
  · exact absurd (show T ∈ ([] : List Addr) from z) (by simp)
  · exact z
/-- .. of a callee, by what is asked of it here -/
theorem pass1 : Passes (CX1 P w) (cxOf (CX1 P w) P w K mg base N qual scope f cd A outer s H E) E :=
  fun _ _ _ _ _ _ I h => leave_cx (I.flies h fun _ _ _ q => q)
/-- THE RULE for a def that may raise -/
theorem Fun.okX {x qual : Str} {st : Stmt} {f : Addr} {fd : FuncData} {N ps : List Str} {k : Nat} {sp : Sp} (F : Fun K x qual st f fd) (S : FnScope N ps (defScope st)) (len : ∀ vs H Q E, sp vs H Q E → vs.length = ps.length)
    (hbody : ∀ (cdv : Value) (A : Around) (outer : List Env) (s : Shared) (H : Hp) (vs : List V) (Q : VK) (E : XK), Room k (A.deeper (envOfC qual (defScope st) s.heap.objs.size f cdv)) → sp vs H Q E →
      ∃ t, PSs (cxOf (CX1 P w) P w K mg base N qual (defScope st) f cdv A outer s H E) (defBody st) t ∧ t { nx := fun _ H' => Q .non H', rt := Q } (start N vs) H) : FnOk P w K mg base (CX1 P w) (k + 1) f fd ps sp := by
  obtain ⟨oc, od, kV, doc, pm, an, cdv, ct, osl, rfl, lk, hcd⟩ := F.ex
  exact fn_of lk hcd S len fun A outer s H vs Q E hr hsp => hbody cdv A outer s H vs Q E hr hsp
/-- one that does not raise is one that may -/
theorem FnOk.up {k : Nat} {f : Addr} {fd : FuncData} {ps : List Str} {sp : Sp} (F : FnOk P w K mg base CX0 k f fd ps sp) : FnOk P w K mg base (CX1 P w) k f fd ps sp :=
  ⟨F.len, fun A outer s H args us vs Q E hr he hb hv hs => codeAny_mono (F.run A outer s H args us vs Q E hr he hb hv hs) fun r s' z => by
    cases r with
    | ok fl => cases fl <;> exact z
    | error e => exact z.elim⟩
end
theorem PS.nox {X : Cx} {st : Stmt} {t : TS} (h : PS X.nox st t) : PS X st t := fun pins s σ H D I hw =>
  wpAny_mono (h pins s σ H D (I.wish _) hw) (fun _ _ q => q.unwish) fun _ _ z => False.elim z
end L2
/-! EXCEPTIONS 4: an own exception is made; its fields are stored and read. -/
namespace L2
open PySem PySem.Spec PyProof.Rows

abbrev vBase : List Value := [.type "ValueError", .type "Exception", .type "BaseException", .type "object"]
/-- own classes, then ValueError and what stands behind it -/
def ExcMro (bm : List Value) : Prop := ∃ ups : List Addr, bm = ups.map Value.ref ++ vBase
theorem ExcMro.typ {bm : List Value} (B : ExcMro bm) (T : String) : bm.contains (.type T) = vBase.contains (.type T) := by
  obtain ⟨ups, rfl⟩ := B
  induction ups with
  | nil => rfl
  | cons a r ih => rw [List.map_cons, List.cons_append, List.contains_cons, ih]; rfl
theorem ExcMro.val {bm : List Value} (B : ExcMro bm) : bm.contains (.type "ValueError") = true := (B.typ _).trans (by decide +kernel)
theorem ExcMro.bas {bm : List Value} (B : ExcMro bm) : bm.contains (.type "BaseException") = true := (B.typ _).trans (by decide +kernel)
theorem ExcMro.att {bm : List Value} (B : ExcMro bm) : bm.contains (.type "AttributeError") = false := (B.typ _).trans (by decide +kernel)
theorem ExcMro.nam {bm : List Value} (B : ExcMro bm) : bm.contains (.type "NameError") = false := (B.typ _).trans (by decide +kernel)
theorem ExcMro.obj {bm : List Value} (B : ExcMro bm) : bm.contains (.type "object") = true := (B.typ _).trans (by decide +kernel)
/-- an own class of exceptions as the top has made it, bm: the classes behind it -/
structure XCls (K : PySem.W.Frag) (C : Addr) (bm : List Value) : Prop where
  ob : ∃ nm q N bs sn sub ab col dd k0 k1 k2 k3 k5, K.lookup C = some (excClassObj nm q C N bs bm true sn sub ab col dd k0 k1 k2 k3 k5 "ValueError.__new__")
  mro : ExcMro bm
  kp : PySem.W.keepIn K (.ref C) = true
  ga : PySem.W.findIn K (.ref C) "__getattribute__" = some (some (.builtin "BaseException.__getattribute__"))
  gn : PySem.W.findIn K (.ref C) "__getattr__" = some none
  sa : PySem.W.findIn K (.ref C) "__setattr__" = some (some (.builtin "object.__setattr__"))

section
variable {prog : Program} {w : World} {A : Around} {h : Heap} {g : Array GenState} {d : Drawn} {t : Nat} {os : OsState}
variable {nm q : Str} {C N : Addr} {bs bm : List Value} {sn : List Str} {sub : List Value} {ab : Bool} {col : Option Bool} {dd : Option Addr} {k0 k1 k2 k3 k5 : Option Value}

abbrev newExcRec (C t : Addr) : Obj := excRec C none #[.ref t, .none, .none, .none, .bool false, .none]
abbrev tupRec (us : List Value) : Obj := { cls := .type "tuple", data := .seq us.toArray }

theorem exc_new {rest : List Value} {R : Result → Shared → Prop} (B : ExcMro bm) (hC : h.get? C = some (excClassObj nm q C N bs bm true sn sub ab col dd k0 k1 k2 k3 k5 "ValueError.__new__")) (hz : rest.length ≤ sizeLine)
    (hq : R (.ok (.ret (.ref (h.objs.size + 1)))) ⟨(h.push (tupRec rest)).push (newExcRec C h.objs.size), g, d, t, os⟩) :
    codeAny (model prog w) A (.call (.builtin "ValueError.__new__") ⟨.ref C :: rest, []⟩) R ⟨h, g, d, t, os⟩ := by
  have F := PySem.F.excBase_ValueError
  have c1 : (Value.ref C :: bm).contains (.type "ValueError") = true := by rw [List.contains_cons, B.val, Bool.or_true]
  have c2 : (Value.ref C :: bm).contains (.type "AttributeError") = false := by rw [List.contains_cons, B.att]; rfl
  have c3 : (Value.ref C :: bm).contains (.type "NameError") = false := by rw [List.contains_cons, B.nam]; rfl
  have st := F.noStar
  have en := F.ends
  refine codeAny_call_builtin_code (Code.quiet_builtin _ F.quiet) ?_
  simp only [checkBuiltinCall, F.newKind, F.newSplit, F.newRow]
  repeat (first | refine wpAny_loadPart_at hC ?_ | (refine wpAny_isSubtype_exc hC ?_; rw [c1]) | refine wpAny_staticBase_exc hC ?_ | refine wpAny_madeBy_exc hC ?_ | simp only [bne_self_eq_false, Bool.false_eq_true, if_false] | wp_step)
  refine codeAny_builtinAt F.entry ?_
  unfold Builtin.«BaseException.__new__»
  refine PySem.wpAt_bind ?_
  show PySem.wpAt _ _ _ (stack >>= _) _ _ _
  refine PySem.wpAt_bind (PySem.wpAt_stack fun p below => PySem.wpAt_of_wpAny ?_)
  wp_walk
  refine PySem.wpAt_of_wpAny ?_
  rw [F.owner]
  repeat (first | with_reducible refine wpAny_madeHere_exc F.canon hC ?_ | with_reducible refine wpAny_loadPart_at hC ?_ | (with_reducible refine wpAny_isSubtype_exc hC ?_; first | rw [c1] | rw [c2] | rw [c3]) | wp_step)
  show R _ _
  rw [Heap.size_push]
  exact hq

open PySem.W in
/-- C(..): the tuple of the arguments, the exception, then its own __init__ -/
theorem exc_make {K : PySem.W.Frag} {fi : Value} {us : List Value} {R : Result → Shared → Prop} (X : K.In h) (Y : XCls K C bm) (hz : us.length ≤ sizeLine) (hi : findIn K (.ref C) "__init__" = some (some fi)) (hf : ∀ self, Looks (model prog w) h (bindSpecial fi self) (fi, [self]))
    (hq : codeAny (model prog w) (A.under (.builtin "type.__call__" ⟨.ref C :: us, []⟩)) (.call fi ⟨.ref (h.objs.size + 1) :: us, []⟩) (InitBack (h.objs.size + 1) R) ⟨(h.push (tupRec us)).push (newExcRec C h.objs.size), g, d, t, os⟩) :
    codeAny (model prog w) A (.call (.ref C) ⟨us, []⟩) R ⟨h, g, d, t, os⟩ := by
  obtain ⟨nm, q, N, bs, sn, sub, ab, col, dd, k0, k1, k2, k3, k5, hK⟩ := Y.ob
  have hC := X _ _ hK
  have B := Y.mro
  have cC : (Value.ref C :: bm).contains (.ref C) = true := by simp
  have hl := looks_findIn (M := model prog w) X hi
  have f1 := tc_lookup
  have f2 := tc_bind (.ref C)
  have hT : (⟨h, g, d, t, os⟩ : Shared).TypeIs (.ref C) "type" := ⟨_, hC, rfl⟩
  refine codeAny_of_tree ?_
  show wpAny _ _ (callAny (.ref C) _) _ _ _
  repeat (any_goals (first | assumption | with_reducible refine wpAny_loadPart_at hC ?_ | wp_step))
  refine ⟨rfl, ?_⟩
  refine codeAny_call_builtin_at (Code.quiet_builtin _ (by decide +kernel)) entry_typeCall (wpAny_check_type_call_sub hC ?_)
  repeat (first | with_reducible refine wpAny_loadPart_at hC ?_ | with_reducible refine wpAny_madeBy_exc hC ?_ | wp_step)
  refine exc_new B hC hz ?_
  show wpAny _ (A.under (.builtin "type.__call__" ⟨.ref C :: us, []⟩)) _ _ _ ⟨(h.push (tupRec us)).push (newExcRec C h.objs.size), g, d, t, os⟩
  have k : ∀ b o, h.get? b = some o → ((h.push (tupRec us)).push (newExcRec C h.objs.size)).get? b = some o := fun b o e => Heap.get?_push_of_some _ (Heap.get?_push_of_some _ e)
  have he : ((h.push (tupRec us)).push (newExcRec C h.objs.size)).get? (h.objs.size + 1) = some (newExcRec C h.objs.size) := by heap_get
  have hC1 := k _ _ hC
  have hl1 := hl.keeps k
  have fb := (hf (.ref (h.objs.size + 1))).keeps k
  have t1 : Looks (model prog w) ((h.push (tupRec us)).push (newExcRec C h.objs.size)) (typeOf (.ref (h.objs.size + 1))) (.ref C) := (Looks.ld he).andThen .now
  have s1 : Looks (model prog w) ((h.push (tupRec us)).push (newExcRec C h.objs.size)) (isSubtype (.ref C) (.ref C)) true := fun A' Q' E' s' kk z => by
    obtain ⟨hp, g', d', t', os'⟩ := s'
    exact wpAny_isSubtype_exc (kk _ _ hC1) (by rw [cC]; exact z)
  unfold isInstance callSpecial? specialOf
  repeat (first | simp only [cC, Bool.not_true, Bool.false_eq_true, if_false] | with_reducible refine wpAny_call ?_ | lk)
  refine codeAny_mono hq fun r s' z => ?_
  rcases r with e | (v | _ | _ | _) <;> first | exact z | exact z.elim | skip
  obtain ⟨rfl, z⟩ := z
  exact wpAny_pure (wpAny_pure z)
end
end L2
namespace L2
open PySem PySem.Spec PyProof.Rows
section
variable {prog : Program} {w : World} {A : Around} {h : Heap} {g : Array GenState} {d : Drawn} {t : Nat} {os : OsState}
variable {nm q : Str} {C N : Addr} {bs bm : List Value} {sn : List Str} {sub : List Value} {ab : Bool} {col : Option Bool} {dd : Option Addr} {k0 k1 k2 k3 k5 : Option Value}

/-- ValueError.__init__ of an own exception: the tuple of its arguments is another one -/
theorem exc_init {e : Addr} {od : Option Addr} {t0 : Addr} {us : List Value} {R : Result → Shared → Prop} (B : ExcMro bm) (hC : h.get? C = some (excClassObj nm q C N bs bm true sn sub ab col dd k0 k1 k2 k3 k5 "ValueError.__new__"))
    (he : h.get? e = some (excRec C od #[.ref t0, .none, .none, .none, .bool false, .none])) (hz : us.length ≤ sizeLine)
    (hq : ∀ h', (∀ b o, b ≠ e → h.get? b = some o → h'.get? b = some o) → h'.get? e = some (excRec C od #[.ref h.objs.size, .none, .none, .none, .bool false, .none]) → R (.ok (.ret .none)) ⟨h', g, d, t, os⟩) :
    codeAny (model prog w) A (.call (.builtin "ValueError.__init__") ⟨.ref e :: us, []⟩) R ⟨h, g, d, t, os⟩ := by
  have F := PySem.F.excBase_ValueError
  have c1 : (Value.ref C :: bm).contains (.type "ValueError") = true := by rw [List.contains_cons, B.val, Bool.or_true]
  have st := F.noStar
  refine codeAny_call_builtin F.init.plain F.initEntry ?_
  simp only [checkBuiltinCall, F.initKind, F.initSplit, F.initRow]
  repeat (first | with_reducible refine wpAny_loadPart_at he ?_ | with_reducible refine wpAny_loadPart_at hC ?_ | (with_reducible refine wpAny_isSubtype_exc hC ?_; rw [c1]) | wp_step)
  refine wpAny_onRaise ?_
  rw [show ∀ (a b : String) (n : Nat), Bind.check ⟨.positional, "*", "ValueError", .self, [⟨"args", .varPos, false⟩]⟩ a b n (List.map (fun x => x.fst) ({ pos := Value.ref e :: us } : Args).kw) = pure () from fun a b n => check_star_args _ _ _ _ _ _]
  refine wpAny_pure ?_
  wp_walk
  have he1 : (h.push (tupRec us)).get? e = some (excRec C od #[.ref t0, .none, .none, .none, .bool false, .none]) := Heap.get?_push_of_some _ he
  refine hq _ (fun b o z k => ?_) ?_
  · rw [Heap.get?_update_other _ _ (Ne.symm z)]
    exact Heap.get?_push_of_some _ k
  · exact Heap.get?_update_self _ he1 rfl
end
end L2
namespace L2
open PySem PySem.Spec PyProof.Rows PySem.W
section
variable {prog : Program} {w : World} {A : Around} {E : Value → Shared → Prop} {s : Shared} {K : PySem.W.Frag} {e C : Addr} {bm : List Value}

theorem XCls.cd (Y : XCls K C bm) : ∃ cd, clsIn K C = some cd ∧ cd.mro = .ref C :: bm ∧ cd.hasDict = true := by
  obtain ⟨nm, q, N, bs, sn, sub, ab, col, dd, k0, k1, k2, k3, k5, hK⟩ := Y.ob
  exact ⟨_, by unfold clsIn; rw [hK], rfl, rfl⟩
theorem XCls.inst (Y : XCls K C bm) (X : K.In s.heap) {od : Option Addr} {vs : Array Value} (he : s.heap.get? e = some (excRec C od vs)) (T : String) (hT : bm.contains (.type T) = true) : Looks (model prog w) s.heap (isInstance (.ref e) (.type T)) true := by
  obtain ⟨cd, hc, hm, _⟩ := Y.cd
  refine ((Looks.ld he).andThen .now : Looks (model prog w) s.heap (typeOf (.ref e)) (.ref C)).andThen (looks_mroIn X ?_)
  unfold mroIn
  rw [hc, Option.bind_some, if_neg (by rw [hm]; exact Bool.false_ne_true), hm, List.contains_cons, hT, Bool.or_true]

end
end L2
namespace L2
open PySem PySem.Spec PyProof.Rows PySem.W
section
variable {prog : Program} {w : World} {A : Around} {E : Value → Shared → Prop} {s : Shared} {K : PySem.W.Frag} {e C : Addr} {bm : List Value}

theorem bga_slot : Slot "ValueError" "__getattribute__" "BaseException.__getattribute__" :=
  .of (owner := "BaseException") (n := "__getattribute__") (by rw [typeLookup_type, builtinLookup_eq_fast]; kernel_rfl) (by decide +kernel) (by decide +kernel) (by decide +kernel)
    (by first | exact .inl (by decide +kernel) | exact .inr (by decide +kernel)) (by rw [isSubtype_type]; kernel_rfl)

/-- an attribute of an own exception: what the search finds -/
theorem exc_open {vs : Array Value} {odx : Option Addr} {od : Option Obj} {name : Str} {expr fill : Bool} {tk : Tok} {r : Builtin.ObjectAttr.Found} {Q : Value → Shared → Prop} (X : K.In s.heap) (Y : XCls K C bm) (I : InstAt s.heap e (excRec C odx vs) C od)
    (hf : findObj K C od name = some r)
    (hq : wpAny (model prog w) A.in1 (match r with | .value v => ret v | .bind g a => Builtin.ObjectAttr.bindTo g a (.ref e) (.ref C) | .missing => ret .none) (fun fin s' => match fin with | .done (.ret v) => wpAny (model prog w) A (handedOut v) Q E s' | _ => False) (fun _ _ => False) s)
    (hr : r ≠ .missing) : wpAny (model prog w) A (getAttrBy (.ref e) (.str name tk) fill expr) Q E s := by
  obtain ⟨h, g, d, t, os⟩ := s
  have L0 := I.type (M := model prog w)
  have L1 := looks_findIn (M := model prog w) (h := h) X Y.ga
  have L2 := looks_findIn (M := model prog w) (h := h) X Y.gn
  have L3 := looks_find (M := model prog w) (h := h) X I hf
  unfold getAttrBy
  refine wpAny_holding (wpAny_bind (L0.at (wpAny_bind (L1.at ?_))))
  dsimp only
  have n2 : (Value.builtin "BaseException.__getattribute__" == Value.builtin "object.__getattribute__") = false := by decide +kernel
  rw [n2, Bool.and_false, if_neg Bool.false_ne_true]
  unfold getAttrByItsOwn hookBefore
  rw [if_pos (show onTheHeap (.ref C) = true from rfl)]
  refine wpAny_bind (L2.at (wpAny_bind (wpAny_attempt (wpAny_holding ?_))))
  unfold callGetattribute
  rw [show (expr && onTheHeap (Value.builtin "BaseException.__getattribute__")) = false from Bool.and_false _, if_neg Bool.false_ne_true]
  unfold boundAndCalled
  rw [bga_slot.bind]
  refine wpAny_bind (wpAny_pure ?_)
  show wpAny _ _ (call (.builtin "BaseException.__getattribute__") [.ref e, .str name tk]) _ _ _
  refine wpAny_call (codeAny_call_builtin bga_slot.plain PySem.F.entry_bexc_ga (@check_slot (model prog w) _ _ ⟨h, g, d, t, os⟩ "BaseException.__getattribute__" "BaseException" "__getattribute__" (.ref e) [.str name tk] [] _ (by decide +kernel) (by decide +kernel) (Y.inst (s := ⟨h, g, d, t, os⟩) X I.at_ "BaseException" Y.mro.bas) (PySem.F.args_bexc_ga _ _) ?_))
  unfold Builtin.«object.__getattribute__»
  refine wpAny_bind (wpAny_pure (wpAny_bind (wpAny_pure (wpAny_bind (L0.at (wpAny_bind (L3.at ?_)))))))
  cases r with
  | missing => exact absurd rfl hr
  | value v =>
    refine wpAny_mono hq (fun fin s' z => ?_) fun _ _ z => z.elim
    rcases fin with (_ | _ | _ | _) | _ <;> first | exact z | exact z.elim
  | bind g' a =>
    refine wpAny_mono hq (fun fin s' z => ?_) fun _ _ z => z.elim
    rcases fin with (_ | _ | _ | _) | _ <;> first | exact z | exact z.elim

/-- what isinstance asks of an own exception -/
structure XIs (K : PySem.W.Frag) (C : Addr) : Prop where
  ha : findIn K (.ref C) "__class__" = some (some (.builtin "object.__class__"))
  hn : specialIn K (.builtin "object.__class__") "__get__" = some (some (.builtin "getset_descriptor.__get__"))
  tk : takesIn K (.builtin "object.__class__") = some true
  hm : mroIn K C (.type "object") = some true
theorem exc_class {vs : Array Value} {odx : Option Addr} {od : Option Obj} {Q : Option Value → Shared → Prop} (X : K.In s.heap) (Y : XCls K C bm) (Z : XIs K C) (I : InstAt s.heap e (excRec C odx vs) C od) (h : Q (some (.ref C)) { s with toks := s.toks + 1 }) :
    wpAny (model prog w) A (getAttr? (.ref e) "__class__") Q E s := by
  obtain ⟨cd, hc, hm, hdc⟩ := Y.cd
  have hf : findObj K C od "__class__" = some (.bind (.builtin "getset_descriptor.__get__") (.builtin "object.__class__")) := by
    unfold findObj
    rw [hc, Option.bind_some, Z.ha, Option.bind_some]
    dsimp only
    rw [Z.hn, Option.bind_some]
    dsimp only
    rw [Z.tk]
    rfl
  unfold getAttr? getAttrBy?
  refine wpAny_bind (wpAny_mkText (wpAny_bind (wpAny_attempt ?_)))
  refine exc_open (s := { s with toks := s.toks + 1 }) X Y I hf ?_ (by intro z; cases z)
  show wpAny _ _ (holding [.builtin "object.__class__"] (call (.builtin "getset_descriptor.__get__") [.builtin "object.__class__", .ref e, .ref C]) >>= ret) _ _ _
  refine wpAny_bind (wpAny_holding (wpAny_call (class_get (s := { s with toks := s.toks + 1 }) X I Z.hm ?_)))
  exact wpAny_pure (by show wpAny _ _ (handedOut _) _ _ _; rw [handedOut_of rfl]; exact wpAny_pure (wpAny_pure h))
theorem kitx_exc {vs : Array Value} {odx : Option Addr} {od : Option Obj} (Y : XCls K C bm) (Z : XIs K C) : KitX K (.ref e) (.ref C) (fun h => InstAt h e (excRec C odx vs) C od) where
  ty := fun _ _ _ I => I.type
  it := fun _ _ X _ => by
    obtain ⟨nm, q, N, bs, sn, sub, ab, col, dd, k0, k1, k2, k3, k5, hK⟩ := Y.ob
    intro A' Q' E' s' k q
    unfold isType loadHead
    exact wpAny_bind (wpAny_loadPart (k _ _ (X _ _ hK)) (wpAny_pure q))
  ne := fun h tp dd its n sl X htp => by
    obtain ⟨nm, q, N, bs, sn, sub, ab, col, dd, k0, k1, k2, k3, k5, hK⟩ := Y.ob
    refine Bool.eq_false_iff.mpr fun q => ?_
    obtain rfl : C = tp := Value.ref.inj (beq_iff_eq.mp q)
    have z := congrArg Obj.cls (Option.some.inj ((X _ _ hK).symm.trans htp))
    exact absurd (Value.type.inj z) (by decide +kernel)
  ca := fun X I k => exc_class X Y Z I k
end
end L2
/-! EXCEPTIONS 5: rules of the layer. -/
namespace L2
open PySem PySem.Spec PyProof.Rows PySem.W

/-- an exception stands at e: its class, its own dict's address, its fields -/
def ExcAt (H : Hp) (e : Addr) (od : Option Addr) (C : Addr) (fs : List (Str × V)) : Prop := H e = some (XO e C od) ∧ ((fs = [] ∧ od = none) ∨ ∃ dx, od = some dx ∧ H dx = some (.xd fs))
/-- what a def promises that raises an exception of class C with these fields, all else being as it was -/
def Rs (H : Hp) (C : Addr) (fs : List (Str × V)) (E : XK) : Prop := ∀ (ea : Addr) (od : Option Addr) (H' : Hp), ExcAt H' ea od C fs → Same H H' → E (.ref ea) od H'

section
variable {X : Cx} {pins : List (Addr × Obj)} {σ : St} {H : Hp} {s : Shared}
theorem ExcAt.inst {e : Addr} {od : Option Addr} {C : Addr} {fs : List (Str × V)} (I : Inv X pins σ H s) (h : ExcAt H e od C fs) : ∃ vs odo, InstAt s.heap e (excRec C od vs) C odo := by
  obtain ⟨h1, h2⟩ := h
  obtain ⟨vs, r, _⟩ := xo_at I.hok h1
  rcases h2 with ⟨_, rfl⟩ | ⟨dx, rfl, hd⟩
  · exact ⟨vs, none, r, rfl, rfl, True.intro⟩
  · obtain ⟨mA, ⟨o, es, ep, ho, _⟩, _⟩ := (show ObjOk X.prog X.w H s.heap dx (.xd fs) from I.hok dx _ hd)
    exact ⟨vs, some o, r, rfl, rfl, ho⟩
/-! ### isinstance of an exception -/
theorem kit_own {K : PySem.W.Frag} {C D : Addr} {bm bm' : List Value} {b : Bool} (Y : XCls K C bm) (Z : XCls K D bm') (h : subIn K (.ref C) (.ref D) = some b) : kitOne K (.ref C) (.ref D) = some b := by
  unfold kitOne
  obtain ⟨cd, hc, hm, _⟩ := Y.cd
  obtain ⟨cd', hc', _, _⟩ := Z.cd
  by_cases z : ((Value.ref C : Value) == .ref D) = true
  · rw [if_pos z]
    obtain rfl : C = D := Value.ref.inj (beq_iff_eq.mp z)
    have : subIn K (.ref C) (.ref C) = some true := by
      show mroIn K C (.ref C) = some true
      unfold mroIn
      rw [hc, Option.bind_some, if_neg (by rw [hm]; exact Bool.false_ne_true), hm, List.contains_cons]
      simp
    rw [h] at this
    rw [this]
  · rw [if_neg z]
    obtain ⟨nm, q, N, bs, sn, sub, ab, col, dd, k0, k1, k2, k3, k5, hK⟩ := Z.ob
    have ht : typeIn K (.ref D) = some (.type "type") := by
      show (K.lookup D).map (·.cls) = _
      rw [hK]
      rfl
    show (if ((clsIn K D).isSome && typeIn K (.ref D) == some (.type "type")) = true then subIn K (.ref C) (.ref D) else none) = some b
    rw [if_pos (by rw [hc', ht]; simp), h]
theorem kit_val {K : PySem.W.Frag} {C : Addr} {bm : List Value} (Y : XCls K C bm) : kitOne K (.ref C) (.type "ValueError") = some true := by
  unfold kitOne
  obtain ⟨cd, hc, hm, _⟩ := Y.cd
  rw [if_neg (by intro z; cases beq_iff_eq.mp z)]
  show (if kitMeta "ValueError" = true then subIn K (.ref C) (.type "ValueError") else none) = some true
  rw [if_pos (by decide +kernel)]
  show mroIn K C (.type "ValueError") = some true
  unfold mroIn
  rw [hc, Option.bind_some, if_neg (by rw [hm]; exact Bool.false_ne_true), hm, List.contains_cons, Y.mro.val, Bool.or_true]
/-- isinstance(e, D) of an exception, D an own class; e, T a built-in one; any value, an own class -/
theorem call_isinstXO (K : PySem.W.Frag) (hK : X.K = K) : CallR X (.builtin "isinstance") (fun xs H Q => ∃ e od C fs bm D b, xs = [.ref e, .ref D] ∧ ExcAt H e od C fs ∧ XCls K C bm ∧ XIs K C ∧ kitOne K (.ref C) (.ref D) = some b ∧ Q (.bl b) H) := by
  subst hK
  intro pins s σ H xs us Q I r h
  obtain ⟨e, od, C, fs, bm, D, b, rfl, hx, Y, Z, hk, q⟩ := h
  obtain ⟨u0, u1, rfl, r0, r1⟩ := vals2 r
  cases (show u0 = Value.ref e from r0)
  cases (show u1 = Value.ref D from r1)
  obtain ⟨vs, odo, J⟩ := hx.inst I
  exact kia_one (kitx_exc Y Z) I.kIn J hk (fun z => by cases z) fun tk => ⟨.bl b, H, I.tok _, rfl, q⟩
theorem call_isinstXT (K : PySem.W.Frag) (hK : X.K = K) : CallR X (.builtin "isinstance") (fun xs H Q => ∃ e od C fs bm n b, xs = [.ref e, .ty n] ∧ ExcAt H e od C fs ∧ XCls K C bm ∧ XIs K C ∧ kitOne K (.ref C) (.type n) = some b ∧ Q (.bl b) H) := by
  subst hK
  intro pins s σ H xs us Q I r h
  obtain ⟨e, od, C, fs, bm, n, b, rfl, hx, Y, Z, hk, q⟩ := h
  obtain ⟨u0, u1, rfl, r0, r1⟩ := vals2 r
  cases (show u0 = Value.ref e from r0)
  cases (show u1 = Value.type n from r1)
  obtain ⟨vs, odo, J⟩ := hx.inst I
  exact kia_one (kitx_exc Y Z) I.kIn J hk (fun z => by cases z) fun tk => ⟨.bl b, H, I.tok _, rfl, q⟩
/-! ### e.f of an exception -/
end
end L2
namespace L2
open PySem PySem.Spec PyProof.Rows PySem.W
section
variable {X : Cx} {pins : List (Addr × Obj)} {σ : St} {H : Hp} {s : Shared}
/-! ### an exception is made -/
theorem Inv.madeX {C : Addr} {us : List Value} (I : Inv X pins σ H s) : Inv X pins σ (upd H (s.heap.objs.size + 1) (XN (s.heap.objs.size + 1) C none)) { s with heap := (s.heap.push (tupRec us)).push (newExcRec C s.heap.objs.size) } :=
  I.laid (t' := s.toks) (fun b o e => Heap.get?_push_of_some _ (Heap.get?_push_of_some _ e)) (Nat.le_succ _) (xn_mk (t := s.heap.objs.size) (by heap_get))
/-- .. where it has none of its own -/
def tMakeX0 (C : Addr) (t : TA) : TE := fun σ H Q => t σ H fun vs H1 => vs.length ≤ 1000 ∧ ∀ e, H1 e = none → Q (.ref e) (upd H1 e (XN e C none))
variable {CX : CXT} {k : Nat} {f C : Addr} {fd : FuncData} {ps : List Str} {sp : Sp} {dvs : List V} {ds : List Value} {E : XK} {x m : Str} {p pos apos : Pos} {e o : Expr} {es : List Expr} {ta : TE} {t : TA} {bm : List Value}
/-- an exception's record is written anew -/
theorem Inv.rewrite {ea : Addr} {φ : Heap → Prop} {od : Option Addr} {t1 : Addr} {h' : Heap} {tk : Nat} (I : Inv X pins σ H s) (hx : H ea = some (.ext φ)) (k : ∀ b o, b ≠ ea → s.heap.get? b = some o → h'.get? b = some o)
    (new : h'.get? ea = some (excRec C od #[.ref t1, .none, .none, .none, .bool false, .none])) : Inv X pins σ (upd H ea (XN ea C od)) { s with heap := h', toks := tk } :=
  I.write (x := ea) (e := ea) (by rw [hx]; exact True.intro) (.inl rfl) k ⟨_, new⟩ (xn_mk new)
theorem pe_makeX0 (Y : XCls X.K C bm) (hi : findIn X.K (.ref C) "__init__" = some (some (.builtin "ValueError.__init__"))) (hg : Gl X x) (hm : X.mg x = some (.ref C))
    (ha : PA X (e :: es) t) (hdb : (x == ("__debug__" : Str)) = false := by decide) (he : starEach (e :: es) X.env = (false, eval e X.env) :: starEach es X.env := by rfl) (hpl : (backTo pos (starEach es X.env)).any (·.1) = false := by rfl) :
    PE X (.Call (.Name x p) (e :: es) [] pos) (tMakeX0 C t) := by
  intro pins s σ H Q I h
  refine wpAny_Call_Name_kw (ld_glob I hg hm ?_ hdb)
  refine PySem.W.callWith_K (h₀ := X.base) I.ok.mod.kin Y.kp (thn (ha pos pins s σ H _ I h) fun us s1 ⟨vs, H1, I1, r, hz, q⟩ => ⟨I1.kIn, ?_⟩) he hpl
  have hz2 : us.length ≤ sizeLine := by rw [← r.length]; exact Nat.le_of_lt (small1000 hz)
  have I2 := Inv.madeX (C := C) (us := us) I1
  have q2 := q (s1.heap.objs.size + 1) (I1.hok.fresh (Nat.le_succ _))
  obtain ⟨nm, q', N, bs, sn, sub, ab, col, dd, k0, k1, k2, k3, k5, hK⟩ := Y.ob
  have hC := I2.kIn _ _ hK
  obtain ⟨h0, g0, d0, t0, o0⟩ := s1
  refine wpAny_call (exc_make I1.kIn Y hz2 hi (fun self => Looks.of_pure (PySem.F.excBase_ValueError.init.bind self)) ?_)
  refine exc_init Y.mro hC (t0 := h0.objs.size) (by heap_get) hz2 fun h' k' n' => ⟨rfl, ?_⟩
  have I3 := I2.rewrite (C := C) (od := none) (tk := t0) upd_same k' n'
  rw [upd_upd] at I3
  exact ⟨V.ref (h0.objs.size + 1), _, I3, rfl, q2⟩
end
end L2
namespace L2
open PySem PySem.Spec PyProof.Rows PySem.W
/-- a name of a class is read off the class -/
structure OfCls (K : PySem.W.Frag) (C : Addr) (m : Str) (v : Value) : Prop where
  sp : specialIn K (.ref C) "__getattribute__" = some (some (.builtin "type.__getattribute__"))
  rd : readsIn K C (.type "type") = true
  at_ : findCls K (.ref C) (.type "type") m = some (.val v)
section
variable {X : Cx} {pins : List (Addr × Obj)} {σ : St} {H : Hp} {s : Shared}
variable {CX : CXT} {k : Nat} {f C : Addr} {fd : FuncData} {ps : List Str} {sp : Sp} {dvs : List V} {ds : List Value} {E : XK} {x m : Str} {p pos apos : Pos} {e o : Expr} {es : List Expr} {ta : TE} {t : TA} {bm : List Value}
/-! ### C.m(e, ..), C an own class, m a def of it -/
theorem pe_clsm {pl : Sem Bool} (hg : Gl X x) (hm : X.mg x = some (.ref C)) (hc : OfCls X.K C m (.ref f)) (hk : PySem.W.keepIn X.K (.ref f) = true) (F : FnOk X.prog X.w X.K X.mg X.base CX k f fd ps sp) (hr : Room k X.A) (hb : Binds X.K fd ps ds) (hd : Vals dvs ds) (hx : Passes CX X E) (ha : PA X (e :: es) t)
    (hdb : (x == ("__debug__" : Str)) = false := by decide)
    (hst : starEach (e :: es) X.env = (false, eval e X.env) :: starEach es X.env := by rfl) (hpl : (backTo pos (starEach es X.env)).any (·.1) = false := by rfl)
    (ht : eval (.Call (.Attribute (.Name x p) m apos) (e :: es) [] pos) X.env = (do
      let ov ← eval (.Name x p) X.env
      standAt apos.atName
      let (f, first) ← holding [ov] (getMethod ov m pl)
      callWith pos f first (backTo pos (starEach (e :: es) X.env)) (backToKw pos (keywordEach [] X.env))) := by rfl) :
    PE X (.Call (.Attribute (.Name x p) m apos) (e :: es) [] pos) (tCall sp dvs E t) := by
  intro pins s σ H Q I h
  refine PySem.W.methodCall_KW (pl := pl) (ld_glob I hg hm ?_ hdb) ht
  refine method_cls I.kIn hc.sp (cls_value I.kIn hc.rd hc.at_ rfl ?_)
  refine PySem.W.callWith_K (first := []) (h₀ := X.base) I.ok.mod.kin hk (thn (ha pos pins _ σ H _ (I.tok _) h) fun us s2 ⟨vs, H2, I2, r, q2⟩ => ⟨I2.kIn, ?_⟩) hst hpl
  exact run_fn F hr hb hd hx I2 r q2
/-! ### C.__init__(self, e), C an own class of exceptions that has none of its own -/
/-! ### self.f = e, the first field of an exception -/
/-! ### raise -/
theorem raise_rec {env : Env} {y : Sem Value} {Q : Flow → Shared → Prop} {M : Model} {A : Around} {W : Value → Shared → Prop} (hh : A.handled = none)
    (h : wpAny M A y (fun v s1 => ∃ ea C od t nm q N bs bm sn sub ab col dd k0 k1 k2 k3 k5, v = .ref ea ∧ s1.heap.get? C = some (excClassObj nm q C N bs bm true sn sub ab col dd k0 k1 k2 k3 k5 "ValueError.__new__") ∧ ExcMro bm ∧
      s1.heap.get? ea = some (excRec C od #[.ref t, .none, .none, .none, .bool false, .none]) ∧ W (.ref ea) s1) W s) : wpAny M A (raiseStmt env (some y) none) Q W s := by
  unfold raiseStmt
  refine wpAny_bind (wpAny_mono h (fun v s1 z => ?_) fun _ _ z => z)
  obtain ⟨ea, C, od, t, nm, q, N, bs, bm, sn, sub, ab, col, dd, k0, k1, k2, k3, k5, rfl, hC, B, he, hE⟩ := z
  have cB : (Value.ref C :: bm).contains (.type "BaseException") = true := by rw [List.contains_cons, B.bas, Bool.or_true]
  obtain ⟨hp, g, d, tk, os⟩ := s1
  repeat (first | with_reducible refine wpAny_loadPart_at he ?_ | with_reducible refine wpAny_loadPart_at hC ?_ | (with_reducible refine wpAny_isSubtype_exc hC ?_; rw [cB]) | wp_step)
  exact wpAny_raiseNew_none hh hE
/-- what flies is what is wanted -/
def Throws (X : Cx) (E : XK) : Prop := ∀ e s, Flies X (fun _ => E) e s → X.xe e s
def sRaise (K : PySem.W.Frag) (te : TE) (E : XK) : TS := fun _ σ H => te σ H fun v H1 => ∃ ea C od bm, v = .ref ea ∧ H1 ea = some (XN ea C od) ∧ XCls K C bm ∧ E (.ref ea) od (upd H1 ea (XO ea C od))
theorem ps_raise {ex : Expr} {te : TE} {pos : Pos} (hc : X.calm = true) (hx : Throws X E) (he : PE X ex te) : PS X (.Raise (some ex) none pos) (sRaise X.K te E) := by
  intro pins s σ H D I h
  rw [arm_exec_Raise]
  simp only [evalOpt, Option.map]
  refine wpAny_bind (wpAny_standAt (raise_rec (I.ok.hd hc) (wpAny_bind (thn (he pins s σ H _ I h) fun v s1 ⟨y, H1, I1, ry, ea, C, od, bm, ev, hn, Y, q⟩ => wpAny_bind (wpAny_standAt (wpAny_pure ?_))))))
  subst ev
  cases (show v = Value.ref ea from ry)
  obtain ⟨nm, q', N, bs, sn, sub, ab, col, dd, k0, k1, k2, k3, k5, hK⟩ := Y.ob
  obtain ⟨t, he'⟩ := xn_at I1.hok hn
  exact ⟨ea, C, od, t, nm, q', N, bs, bm, sn, sub, ab, col, dd, k0, k1, k2, k3, k5, rfl, I1.kIn _ _ hK, Y.mro, he', hx _ _ ⟨pins, σ, H1, ea, C, od, _, _, rfl, I1, hn, he', (by show 1 < 6; decide), .inl rfl, q⟩⟩
end
theorem throws1 {P : Program} {w : World} {K : PySem.W.Frag} {mg : Str → Option Value} {base : Heap} {N : List Str} {qual : Str} {scope : Scope} {f : Addr} {cd : Value} {A : Around} {outer : List Env} {s : Shared} {H : Hp} {E : XK} :
    Throws (cxOf (CX1 P w) P w K mg base N qual scope f cd A outer s H E) E := fun _ _ h => leave_cx h
end L2
/-! EXCEPTIONS 6: try. -/
namespace L2
open PySem PySem.Spec PyProof.Rows PySem.W
section
variable {M : Model} {A : Around} {W : Value → Shared → Prop} {s : Shared}
variable {nm q nm' q' : Str} {C N C' N' : Addr} {bs bm bs' bm' : List Value} {sn sn' : List Str} {sub sub' : List Value} {ab ab' : Bool} {col col' : Option Bool} {dd dd' : Option Addr} {k0 k1 k2 k3 k5 k0' k1' k2' k3' k5' : Option Value}
theorem exc_match {e : Addr} {od : Option Addr} {vs : Array Value} {b : Bool} {Q : Bool → Shared → Prop} (hC : s.heap.get? C = some (excClassObj nm q C N bs bm true sn sub ab col dd k0 k1 k2 k3 k5 "ValueError.__new__"))
    (hD : s.heap.get? C' = some (excClassObj nm' q' C' N' bs' bm' true sn' sub' ab' col' dd' k0' k1' k2' k3' k5' "ValueError.__new__")) (B : ExcMro bm') (he : s.heap.get? e = some (excRec C od vs)) (hb : (Value.ref C :: bm).contains (.ref C') = b)
    (hq : Q b s) : wpAny M A (excMatches (.ref e) (.ref C')) Q W s := by
  have cB : (Value.ref C' :: bm').contains (.type "BaseException") = true := by rw [List.contains_cons, B.bas, Bool.or_true]
  have f := tc_notTuple
  obtain ⟨hp, g, d, t, os⟩ := s
  unfold excMatches
  repeat (first | with_reducible refine wpAny_loadPart_at he ?_ | with_reducible refine wpAny_loadPart_at hD ?_ | (with_reducible refine wpAny_isSubtype_exc hD ?_; rw [cB]) | (with_reducible refine wpAny_isSubtype_exc hC ?_; rw [hb]) | wp_step)
  cases b <;> (wp_walk; exact hq)
end

/-- within an except suite that handles the exception at ea; no exception leaves it -/
abbrev Cx.sui (X : Cx) (ea : Addr) : Cx := { X with A := X.A.mark (some (.ref ea)), calm := false, xe := fun _ _ => False }
/-- within a try: what flies goes to the handlers -/
abbrev Cx.tr (X : Cx) (pn : List (Addr × Obj)) (E : St → XK) : Cx := { X with pn := X.pn ++ pn, xe := Flies { X with pn := X.pn ++ pn } E }
section
variable {X : Cx} {pins : List (Addr × Obj)} {σ : St} {H : Hp} {s : Shared}
theorem Cx.Ok.sui (ok : X.Ok) (ea : Addr) : (X.sui ea).Ok :=
  ⟨ok.mod, ok.kind, ok.glob, ok.blt, ok.above, ok.inj, ok.has, ok.cab, fun z => absurd z Bool.false_ne_true, ok.frames, ok.stk, ok.exf, ok.bs, ok.bsz, ok.noex, ok.exfs, ok.funs, ok.frf⟩
theorem Inv.sui (I : Inv X pins σ H s) (ea : Addr) : Inv (X.sui ea) pins σ H s := ⟨I.ok.sui ea, I.os, I.bare, I.base, I.loc, I.cell, I.free, I.freeC, I.pin, I.hok, I.len⟩
theorem Inv.back {ea : Addr} (ok : X.Ok) (I : Inv (X.sui ea) pins σ H s) : Inv X pins σ H s := ⟨ok, I.os, I.bare, I.base, I.loc, I.cell, I.free, I.freeC, I.pin, I.hok, I.len⟩
theorem Cx.Ok.tr (ok : X.Ok) (pn : List (Addr × Obj)) (E : St → XK) : (X.tr pn E).Ok :=
  ⟨ok.mod, ok.kind, ok.glob, ok.blt, ok.above, ok.inj, ok.has, ok.cab, ok.hd, ok.frames, ok.stk, ok.exf, ok.bs, ok.bsz, ok.noex, ok.exfs, ok.funs, ok.frf⟩
theorem Inv.tr (I : Inv X pins σ H s) (E : St → XK) : Inv (X.tr pins E) [] σ H s := ⟨I.ok.tr pins E, I.os, I.bare, I.base, I.loc, I.cell, I.free, I.freeC, fun p hp => I.pin p (by simpa using hp), I.hok, I.len⟩
theorem Inv.untr {pn : List (Addr × Obj)} (ok : X.Ok) (I : Inv { X with pn := X.pn ++ pn } pins σ H s) : Inv X pn σ H s :=
  ⟨ok, I.os, I.bare, I.base, I.loc, I.cell, I.free, I.freeC, fun p hp => I.pin p (List.mem_append_left _ hp), I.hok, I.len⟩
theorem Inv.untr' {pn : List (Addr × Obj)} {E : St → XK} (ok : X.Ok) (I : Inv (X.tr pn E) pins σ H s) : Inv X pn σ H s :=
  ⟨ok, I.os, I.bare, I.base, I.loc, I.cell, I.free, I.freeC, fun p hp => I.pin p (List.mem_append_left _ hp), I.hok, I.len⟩

/-- behind an except suite its name is gone -/
theorem unname_ok {M : Model} {A : Around} {W : Value → Shared → Prop} {i : Nat} {x : Str} {pos : Pos} {Q : Unit → Shared → Prop} (I : Inv X pins σ H s) (hN : X.N.Nodup) (hi : X.N[i]? = some x) (hk : X.env.scope.names.lookup x = some .local)
    (h : ∀ s', Inv X pins (σ.set i none) H s' → Q () s') : wpAny M A (do bindName X.env x .none; unbindBehindTheSuite X.env x pos) Q W s := by
  obtain ⟨m, hn, hl⟩ := id I.loc
  have hiσ : i < σ.length := by rw [I.len]; exact (List.getElem?_eq_some_iff.mp hi).1
  have above : ∀ b o, X.s₀.heap.get? b = some o → b ≠ X.env.locals := fun b o e => Nat.ne_of_lt (Nat.lt_of_lt_of_le (Heap.lt_size e) I.ok.above)
  refine wpAny_nameGoes_keeps hk hn (by rw [I.ok.kind]; rfl) fun h' v hn' hs => h _ ?_
  have cl : ∀ y c, X.env.cells.lookup y = some c → ∀ w, s.heap.IsCell c w → h'.IsCell c w := fun y c e w z => z.sameBut hs (I.cne y c e)
  refine ⟨I.ok, I.os, I.bare, ⟨fun b o e n hb hx => (hs.2 b (above b o e)).trans (I.base.keep b o e n hb hx), fun b o e n hb hx => ?_, I.base.free, fun b o e hx => ?_, I.base.tups, I.base.frzs, I.base.tbls⟩, ⟨_, hn', fun j y v' e1 e2 e3 => ?_⟩, fun y c e => ?_, I.free, I.freeC, fun p hp => ?_, fun b ob e => ?_, by simpa using I.len⟩
  · obtain ⟨sl, r⟩ := I.base.slot b o e n hb hx
    exact ⟨sl, (hs.2 b (above b o e)).trans r⟩
  · obtain ⟨o', r⟩ := I.base.there b o e hx
    exact ⟨o', (hs.2 b (above b o e)).trans r⟩
  · have hj : j ≠ i := fun z => by rw [z, List.getElem?_set_self hiσ] at e2; cases e2
    rw [List.getElem?_set_ne (Ne.symm hj)] at e2
    obtain ⟨u, r, q⟩ := hl j y v' e1 e2 e3
    refine ⟨u, r, ?_⟩
    rcases q with ⟨k, e⟩ | ⟨k, c, e, z⟩
    · have ny : y ≠ x := fun z => hj (nodup_ix hN e1 (z ▸ hi))
      exact .inl ⟨k, by simp [ny, e]⟩
    · exact .inr ⟨k, c, e, cl y c e _ z⟩
  · obtain ⟨w', z⟩ := I.cell y c e
    exact ⟨w', cl y c e w' z⟩
  · obtain ⟨e, n, ne, nf, d⟩ := I.pin p hp
    exact ⟨(hs.2 p.1 ne).trans e, n, ne, nf, d⟩
  · refine (I.hok b ob e).stay (fun c w' hc r => (hs.2 c ?_).trans r) (fun _ r => r) fun _ _ r => r
    rintro rfl
    have fr := I.free
    rcases hc with rfl | hc
    · rw [fr] at e; cases e
    · rw [fr] at hc; cases hc
end
end L2
namespace L2
open PySem PySem.Spec PyProof.Rows PySem.W
/-- handlers: what is wanted behind them, the names' values, the heap, the exception, its class, its dict -/
abbrev TH := Ends → St → Hp → Addr → Addr → Option Addr → Prop
def PH (X : Cx) (hs : List ExceptHandler) (t : TH) : Prop := ∀ (pins : List (Addr × Obj)) (s : Shared) (σ : St) (H : Hp) (D : Ends) (ea C : Addr) (od : Option Addr) (vs : Array Value) (T : Addr), Inv X pins σ H s → H ea = some (XO ea C od) →
  s.heap.get? ea = some (excRec C od vs) → Trc s.heap ea vs T .none → FpOk X pins H T → t D σ H ea C od → wpAny (model X.prog X.w) X.A (handleBy (.ref ea) X.env hs) (SP X pins D) X.xe s
def hNone : TH := fun _ _ _ _ _ _ => False
/-- the ends of a suite whose name goes behind it -/
def Ends.gone (D : Ends) (i : Nat) : Ends := ⟨fun σ H => D.nx (σ.set i none) H, D.rt, fun σ H => D.bk (σ.set i none) H, fun σ H => D.ct (σ.set i none) H⟩
def hAs (K : PySem.W.Frag) (Dc : Addr) (i : Nat) (ts : TS) (tr : TH) : TH := fun D σ H ea C od => ∃ bm b, XCls K C bm ∧ subIn K (.ref C) (.ref Dc) = some b ∧ if b = true then ts (D.gone i) (σ.set i (some (.ref ea))) H else tr D σ H ea C od
section
variable {X : Cx} {x n : Str} {np pos : Pos} {b0 : Stmt} {suite : List Stmt} {rest : List ExceptHandler} {i : Nat} {ts : TS} {tr : TH} {Dc : Addr} {bm' : List Value}
theorem ph_none {hs : List ExceptHandler} : PH X hs hNone := fun _ _ _ _ _ _ _ _ _ _ _ _ _ _ _ h => h.elim
theorem sub_mro {K : PySem.W.Frag} {C D : Addr} {bm : List Value} {b : Bool} (Y : XCls K C bm) (h : subIn K (.ref C) (.ref D) = some b) : (Value.ref C :: bm).contains (.ref D) = b := by
  obtain ⟨cd, hc, hm, _⟩ := Y.cd
  have h : mroIn K C (.ref D) = some b := h
  unfold mroIn at h
  rw [hc, Option.bind_some, if_neg (by rw [hm]; exact Bool.false_ne_true), hm] at h
  exact Option.some.inj h
/-- the test of a handler, then its suite or the others -/
theorem ph_test {name : Option Str} {pins : List (Addr × Obj)} {s : Shared} {σ : St} {H : Hp} {ea C : Addr} {od : Option Addr} {vs : Array Value} {bm : List Value} {b : Bool} {Q : Flow → Shared → Prop} (I : Inv X pins σ H s) (hr : s.heap.get? ea = some (excRec C od vs)) (hg : Gl X x) (hm : X.mg x = some (.ref Dc)) (Z : XCls X.K Dc bm')
    (Y : XCls X.K C bm) (hb : subIn X.K (.ref C) (.ref Dc) = some b) (hdb : (x == ("__debug__" : Str)) = false)
    (h1 : b = true → codeAny (model X.prog X.w) (X.A.mark (some (.ref ea))) (.handlers (.ref ea) [.ExceptHandler none name (b0 :: suite) pos] X.env) (fun r s2 => match r with
          | .ok f => (match name with
            | none => Q f s2
            | some n => wpAny (model X.prog X.w) X.A (do bindName X.env n .none; unbindBehindTheSuite X.env n pos) (fun _ s3 => Q f s3) X.xe s2)
          | .error x => cameBackBy (model X.prog X.w) X.A X.env X.xe x s2) s)
    (h2 : b = false → wpAny (model X.prog X.w) X.A (handleBy (.ref ea) X.env rest) Q X.xe s) :
    wpAny (model X.prog X.w) X.A (handleBy (.ref ea) X.env (.ExceptHandler (some (.Name x np)) name (b0 :: suite) pos :: rest)) Q X.xe s := by
  obtain ⟨nm, q1, N, bs, sn, sub, ab, col, dd, k0, k1, k2, k3, k5, hK⟩ := Y.ob
  obtain ⟨nm', q1', N', bs', sn', sub', ab', col', dd', k0', k1', k2', k3', k5', hK'⟩ := Z.ob
  refine wpAny_handleBy_cons (codeAny_handlers_test (ld_glob (X := X.sui ea) (I.sui ea) hg hm ?_ hdb)) (by intro q; cases q)
  refine exc_match (I.kIn _ _ hK) (I.kIn _ _ hK') Z.mro hr (sub_mro Y hb) ?_
  cases b with
  | true => exact h1 rfl
  | false => exact h2 rfl
theorem ph_as (hN : X.N.Nodup) (hi : X.N[i]? = some n) (hk : X.env.scope.names.lookup n = some .local) (hg : Gl X x) (hm : X.mg x = some (.ref Dc)) (Z : XCls X.K Dc bm') (hs : ∀ ea, PSs (X.sui ea) (b0 :: suite) ts) (hr : PH X rest tr) (hdb : (x == ("__debug__" : Str)) = false := by decide) :
    PH X (.ExceptHandler (some (.Name x np)) (some n) (b0 :: suite) pos :: rest) (hAs X.K Dc i ts tr) := by
  intro pins s σ H D ea C od vs T I hx hre htr hfp h
  obtain ⟨bm, b, Y, hb, h⟩ := h
  refine ph_test I hre hg hm Z Y hb hdb (fun z => ?_) (fun z => ?_)
  · subst z
    rw [if_pos rfl] at h
    refine codeAny_handlers_suite_as (flight_off (l := []) hre htr fun h' g1 g2 g3 g4 g5 => ?_)
    have I1 : Inv X pins σ H { s with heap := h' } := I.turned (t' := s.toks) (it := T) g1 hfp.1 hfp.2.1 hfp.2.2.2.1 hfp.2.2.2.2.1 hfp.2.2.2.2.2
    refine store_ok (v := .ref ea) I1 hN hi (.inl hk) rfl (fun s2 I2 => ?_) (.inr hk)
    refine wpAny_mono (hs ea pins s2 _ H (D.gone i) (I2.sui ea) h) (fun f s4 z => ?_) fun _ _ z => z.elim
    cases f with
    | next =>
      obtain ⟨σ', H', I', q⟩ := z
      exact unname_ok (I'.back I.ok) hN hi hk fun s5 I5 => ⟨_, H', I5, q⟩
    | brk =>
      obtain ⟨σ', H', I', q⟩ := z
      exact unname_ok (I'.back I.ok) hN hi hk fun s5 I5 => ⟨_, H', I5, q⟩
    | cont =>
      obtain ⟨σ', H', I', q⟩ := z
      exact unname_ok (I'.back I.ok) hN hi hk fun s5 I5 => ⟨_, H', I5, q⟩
    | ret u =>
      obtain ⟨v, σ', H', I', rv, q⟩ := z
      exact unname_ok (I'.back I.ok) hN hi hk fun s5 I5 => ⟨v, _, H', I5, rv, q⟩
  · subst z
    rw [if_neg Bool.false_ne_true] at h
    exact hr pins s σ H D ea C od vs T I hx hre htr hfp h
/-! ### try -/
def sTry (tb : (St → XK) → TS) (th : TH) : TS := fun D σ H => tb (fun σ1 v od H1 => ∃ ea C, v = .ref ea ∧ H1 ea = some (XO ea C od) ∧ th D σ1 H1 ea C od) D σ H
theorem ps_try {body : List Stmt} {h0 : ExceptHandler} {hs : List ExceptHandler} {tb : (St → XK) → TS} {th : TH} (hst : X.stack = X.env :: X.outer) (hf : X.env.frame = some X.env.locals) (hb : ∀ pn E, PSs (X.tr pn E) body (tb E)) (hh : PH X (h0 :: hs) th) :
    PS X (.Try body (h0 :: hs) [] [] pos) (sTry tb th) := by
  intro pins s σ H D I h
  refine wpAny_Try_except (wpAny_mono (hb pins _ [] s σ H D (I.tr _) h) (fun f s1 z => ?_) fun e s1 z => ?_)
  · cases f with
    | next =>
      obtain ⟨σ', H', I', q⟩ := z
      exact wpAny_execs_nil ⟨σ', H', I'.untr' I.ok, q⟩
    | brk =>
      obtain ⟨σ', H', I', q⟩ := z
      exact ⟨σ', H', I'.untr' I.ok, q⟩
    | cont =>
      obtain ⟨σ', H', I', q⟩ := z
      exact ⟨σ', H', I'.untr' I.ok, q⟩
    | ret u =>
      obtain ⟨v, σ', H', I', rv, q⟩ := z
      exact ⟨v, σ', H', I'.untr' I.ok, rv, q⟩
  · obtain ⟨pins1, σ1, H1, ea, C, od, vs, φ, rfl, I1, hx, hr, hz, ht, ea', C', e1, e2, q⟩ := z
    obtain rfl : ea = ea' := Value.ref.inj e1
    refine note_land (X := { X with pn := X.pn ++ pins }) I1 hst hf I1.ok.frames hx hr hz ht fun s2 vs2 T I2 r2 z2 t2 f2 => ?_
    obtain ⟨vs3, r3, _⟩ := xo_at I2.hok e2
    obtain rfl : C = C' := by
      have z := congrArg Obj.cls (Option.some.inj (r2.symm.trans r3))
      exact Value.ref.inj z
    exact hh pins s2 σ1 _ D ea C od vs2 T (I2.untr I.ok) e2 r2 t2 ⟨f2.1, f2.2.1, f2.2.2.1, f2.2.2.2.1, f2.2.2.2.2.1, fun p hp => f2.2.2.2.2.2 p (List.mem_append_left _ hp)⟩ q
end
end L2
namespace L2
open PySem PySem.Spec PyProof.Rows PySem.W
/-- an exception of a callee, by what is wanted of it at these names' values -/
def PassesT (CX : CXT) (X : Cx) (E : St → XK) : Prop := ∀ (pins : List (Addr × Obj)) (σ : St) (H : Hp) (s : Shared) (e : Value) (s' : Shared), Inv X pins σ H s → CX X.stack H s (E σ) e s' → X.xe e s'
theorem passT {X : Cx} {pn : List (Addr × Obj)} {E : St → XK} : PassesT (CX1 X.prog X.w) (X.tr pn E) E := fun pins σ H s e s' I h => by
  have ok : Cx.Ok { X with pn := X.pn ++ pn } := ⟨I.ok.mod, I.ok.kind, I.ok.glob, I.ok.blt, I.ok.above, I.ok.inj, I.ok.has, I.ok.cab, I.ok.hd, I.ok.frames, I.ok.stk, I.ok.exf, I.ok.bs, I.ok.bsz, I.ok.noex, I.ok.exfs, I.ok.funs, I.ok.frf⟩
  have I' : Inv { X with pn := X.pn ++ pn } pins σ H s := ⟨ok, I.os, I.bare, I.base, I.loc, I.cell, I.free, I.freeC, I.pin, I.hok, I.len⟩
  exact I'.flies h fun _ _ _ q => q
def tCallT (sp : Sp) (dvs : List V) (E : St → XK) (t : TA) : TE := fun σ H Q => t σ H fun vs H1 => sp (vs ++ dvs) H1 Q (E σ)
section
variable {X : Cx} {CX : CXT} {k : Nat} {f C : Addr} {fd : FuncData} {ps : List Str} {sp : Sp} {dvs : List V} {ds : List Value} {E : St → XK} {x m : Str} {p pos apos : Pos} {e o : Expr} {es : List Expr} {ta : TE} {t : TA}
theorem run_fnT {pins : List (Addr × Obj)} {σ : St} {H : Hp} {s : Shared} {Q : VK} {us : List Value} {vs : List V} (F : FnOk X.prog X.w X.K X.mg X.base CX k f fd ps sp) (hr : Room k X.A) (hb : Binds X.K fd ps ds) (hd : Vals dvs ds) (hx : PassesT CX X E)
    (I : Inv X pins σ H s) (r : Vals vs us) (h : sp (vs ++ dvs) H Q (E σ)) : wpAny (model X.prog X.w) X.A (call (.ref f) us) (EP X pins σ Q) X.xe s := by
  have r2 : Vals (vs ++ dvs) (us ++ ds) := r.append hd
  have hl : (us ++ ds).length = ps.length := by rw [← r2.length]; exact F.len _ _ _ _ h
  refine wpAny_call (codeAny_mono (F.run X.A X.stack s H ⟨us, []⟩ (us ++ ds) (vs ++ dvs) Q (E σ) hr I.env0 (hb s us I.kIn hl) r2 h) fun r s' hq => ?_)
  cases r with
  | error e => exact hx pins σ H s e s' I hq
  | ok fl => cases fl <;> first | exact I.after hq | exact False.elim hq
theorem pe_callT (F : FnOk X.prog X.w X.K X.mg X.base CX k f fd ps sp) (hr : Room k X.A) (hg : Gl X x) (hm : X.mg x = some (.ref f)) (hk : PySem.W.keepIn X.K (.ref f) = true) (hb : Binds X.K fd ps ds) (hd : Vals dvs ds) (hx : PassesT CX X E)
    (ha : PA X (e :: es) t) (hdb : (x == ("__debug__" : Str)) = false := by decide) (he : starEach (e :: es) X.env = (false, eval e X.env) :: starEach es X.env := by rfl) (hpl : (backTo pos (starEach es X.env)).any (·.1) = false := by rfl) :
    PE X (.Call (.Name x p) (e :: es) [] pos) (tCallT sp dvs E t) := by
  intro pins s σ H Q I h
  refine wpAny_Call_Name_kw (ld_glob I hg hm ?_ hdb)
  refine PySem.W.callWith_K (h₀ := X.base) I.ok.mod.kin hk (thn (ha pos pins s σ H _ I h) fun us s1 ⟨vs, H1, I1, r, q⟩ => ⟨I1.kIn, ?_⟩) he hpl
  exact run_fnT F hr hb hd hx I1 r q
end
end L2
/-! DEFS WITH DEFAULTS; exceptions that do not come. -/
namespace L2
open PySem PySem.Spec PyProof.Rows PySem.W
/-- a callee that may raise, where it does not -/
theorem pass01 {X : Cx} {P : Program} {w : World} : Passes (CX1 P w) X E0 := fun _ _ _ _ _ _ _ ⟨_, _, _, _, _, _, _, _, _, _, _, _, _, _, _, _, _, z⟩ => z.elim
def BindsV (K : PySem.W.Frag) (fd : FuncData) (ps : List Str) (dvs : List V) : Prop := ∃ ds, Binds K fd ps ds ∧ Vals dvs ds
structure FunD (K : PySem.W.Frag) (x qual : Str) (st : Stmt) (f : Addr) (fd : FuncData) : Prop where
  ex : ∃ (oc : Value) (od : Option Addr) (dV kV doc pm : Value) (an : Option Addr) (cdv ct : Value) (osl : Array (Option Value)),
    fd = fnOf x qual (defArgs st) (defBody st) (defScope st) dV kV doc pm an cdv ct ∧ K.lookup f = some ⟨oc, od, .func fd, osl⟩ ∧ codeIn K cdv qual = true
  kp : keepIn K (.ref f) = true
section
variable {P : Program} {w : World} {K : PySem.W.Frag} {mg : Str → Option Value} {base : Heap} {x qual : Str} {st : Stmt} {f : Addr} {fd : FuncData} {N ps : List Str} {k : Nat} {sp : Sp}
theorem FunD.ok (F : FunD K x qual st f fd) (S : FnScope N ps (defScope st)) (len : ∀ vs H Q E, sp vs H Q E → vs.length = ps.length)
    (hbody : ∀ (cdv : Value) (A : Around) (outer : List Env) (s : Shared) (H : Hp) (vs : List V) (Q : VK) (E : XK), Room k (A.deeper (envOfC qual (defScope st) s.heap.objs.size f cdv)) → sp vs H Q E →
      ∃ t, PSs (cxOf CX0 P w K mg base N qual (defScope st) f cdv A outer s H E).nox (defBody st) t ∧ t { nx := fun _ H' => Q .non H', rt := Q } (start N vs) H) : FnOk P w K mg base CX0 (k + 1) f fd ps sp := by
  obtain ⟨oc, od, dV, kV, doc, pm, an, cdv, ct, osl, rfl, lk, hcd⟩ := F.ex
  refine fn_of lk hcd S len fun A outer s H vs Q E hr hsp => ?_
  obtain ⟨t, h, q⟩ := hbody cdv A outer s H vs Q E hr hsp
  exact ⟨t, h.nox, q⟩
theorem FunD.okX (F : FunD K x qual st f fd) (S : FnScope N ps (defScope st)) (len : ∀ vs H Q E, sp vs H Q E → vs.length = ps.length)
    (hbody : ∀ (cdv : Value) (A : Around) (outer : List Env) (s : Shared) (H : Hp) (vs : List V) (Q : VK) (E : XK), Room k (A.deeper (envOfC qual (defScope st) s.heap.objs.size f cdv)) → sp vs H Q E →
      ∃ t, PSs (cxOf (CX1 P w) P w K mg base N qual (defScope st) f cdv A outer s H E) (defBody st) t ∧ t { nx := fun _ H' => Q .non H', rt := Q } (start N vs) H) : FnOk P w K mg base (CX1 P w) (k + 1) f fd ps sp := by
  obtain ⟨oc, od, dV, kV, doc, pm, an, cdv, ct, osl, rfl, lk, hcd⟩ := F.ex
  exact fn_of lk hcd S len fun A outer s H vs Q E hr hsp => hbody cdv A outer s H vs Q E hr hsp
/-- .. as it stands: its defaults are the tuple at T -/
structure FunT (K : PySem.W.Frag) (x qual : Str) (st : Stmt) (T f : Addr) (fd : FuncData) : Prop where
  toD : FunD K x qual st f fd
  ex : ∃ (kV doc pm : Value) (an : Option Addr) (cdv ct : Value), fd = fnOf x qual (defArgs st) (defBody st) (defScope st) (.ref T) kV doc pm an cdv ct
theorem funD_mk {oc : Value} {od an : Option Addr} {osl : Array (Option Value)} {T : Addr} {kV doc pm cdv ct : Value} (l : K.lookup f = some ⟨oc, od, .func (fnOf x qual (defArgs st) (defBody st) (defScope st) (.ref T) kV doc pm an cdv ct), osl⟩)
    (c : codeIn K cdv qual = true) (k : keepIn K (.ref f) = true) : FunT K x qual st T f (fnOf x qual (defArgs st) (defBody st) (defScope st) (.ref T) kV doc pm an cdv ct) := ⟨⟨⟨oc, od, _, kV, doc, pm, an, cdv, ct, osl, rfl, l, c⟩, k⟩, ⟨kV, doc, pm, an, cdv, ct, rfl⟩⟩
theorem bindsD {T : Addr} {dd : Option Addr} {items : Array Value} {n : Nat} {sl : Array (Option Value)} {ds : List Value} (g : Nat) (hg : g + ds.length = ps.length) (F : FunT K x qual st T f fd) (hT : K.lookup T = some ⟨.type "tuple", dd, .seq items n, sl⟩)
    (h : ∀ (kV doc pm : Value) (an : Option Addr) (cdv ct : Value) (us : List Value), us.length = g → ∃ k, bindArgs (fnOf x qual (defArgs st) (defBody st) (defScope st) (.ref T) kV doc pm an cdv ct) ⟨us, []⟩ = seqItems? (.ref T) >>= k ∧ k (some items) = pure (ps.zip (us ++ ds))) :
    Binds K fd ps ds := by
  obtain ⟨kV, doc, pm, an, cdv, ct, rfl⟩ := F.ex
  intro s us X hl
  obtain ⟨k, h1, h2⟩ := h kV doc pm an cdv ct us (by rw [List.length_append] at hl; omega)
  exact BindsTo.of_defaults rfl (X _ _ hT) rfl h1 h2
end
end L2

/-! DEEP VALUES: nested lists and tuples, compared. -/
namespace L2
open PySem PySem.Spec PyProof.Rows
inductive DV where
  | non | bl (b : Bool) | int (i : Int) | str (x : Str) | lst (xs : List DV) | tup (xs : List DV)
mutual
/-- how deep it is -/
def DV.dp : DV → Nat
  | .lst xs => DV.dps xs + 1
  | .tup xs => DV.dps xs + 1
  | _ => 0
def DV.dps : List DV → Nat
  | [] => 0
  | x :: xs => max (DV.dp x) (DV.dps xs)
end
mutual
/-- the value v is d -/
def DIs (K : PySem.W.Frag) (H : Hp) : DV → V → Prop
  | .non, v => v = .non
  | .bl b, v => v = .bl b
  | .int i, v => v = .int i
  | .str x, v => v = .str x
  | .lst ds, v => ∃ a xs, v = .ref a ∧ SqL K H a xs ∧ DIss K H ds xs
  | .tup ds, v => ∃ a xs, v = .ref a ∧ SqT K H a xs ∧ DIss K H ds xs
def DIss (K : PySem.W.Frag) (H : Hp) : List DV → List V → Prop
  | [], xs => xs = []
  | d :: ds, xs => ∃ y ys, xs = y :: ys ∧ DIs K H d y ∧ DIss K H ds ys
end
theorem DIss.len {K : PySem.W.Frag} {H : Hp} : ∀ {ds : List DV} {xs : List V}, DIss K H ds xs → ds.length = xs.length
  | [], xs, h => by rw [DIss] at h; subst h; rfl
  | d :: ds, xs, h => by
    rw [DIss] at h
    obtain ⟨y, ys, rfl, _, h⟩ := h
    rw [List.length_cons, List.length_cons, h.len]
theorem DIss.get {K : PySem.W.Frag} {H : Hp} : ∀ {ds : List DV} {xs : List V} {j : Nat} {d : DV} {v : V}, DIss K H ds xs → ds[j]? = some d → xs[j]? = some v → DIs K H d v
  | [], _, _, _, _, _, e, _ => by simp at e
  | d :: ds, xs, j, d', v, h, e1, e2 => by
    rw [DIss] at h
    obtain ⟨y, ys, rfl, h1, h2⟩ := h
    cases j with
    | zero => simp at e1 e2; subst e1 e2; exact h1
    | succ j => exact h2.get (j := j) (by simpa using e1) (by simpa using e2)
theorem DIss.nil {K : PySem.W.Frag} {H : Hp} : DIss K H [] [] := by rw [DIss]
theorem DIss.cons {K : PySem.W.Frag} {H : Hp} {d : DV} {ds : List DV} {x : V} {xs : List V} (h : DIs K H d x) (t : DIss K H ds xs) : DIss K H (d :: ds) (x :: xs) := by
  rw [DIss]
  exact ⟨x, xs, rfl, h, t⟩
theorem DIs.ints {K : PySem.W.Frag} {H : Hp} : ∀ {ns : List Int}, DIss K H (ns.map DV.int) (ns.map V.int)
  | [] => DIss.nil
  | n :: ns => DIss.cons (by rw [DIs]) DIs.ints
section
variable {X : Cx} {pins : List (Addr × Obj)} {σ : St} {H : Hp} {s : Shared}
theorem PlainL.isList {h : Heap} {a : Addr} {its : Array Value} (p : PlainL h a its) : h.IsList a its := let ⟨o, n, e, c, _, d⟩ := p; ⟨o, e, c, n, d⟩
theorem IsTup.isTuple {h : Heap} {a : Addr} {its : Array Value} (p : IsTup h a its) : h.IsTuple a its := p
mutual
theorem DIs.inj (I : Inv X pins σ H s) : ∀ {d d' : DV} {v : V}, DIs X.K H d v → DIs X.K H d' v → d = d'
  | .non, d', v, h, h' => by
    rw [DIs] at h; subst h
    cases d' <;> rw [DIs] at h' <;> first | rfl | (cases h'; done) | (obtain ⟨_, _, z, _⟩ := h'; cases z)
  | .bl b, d', v, h, h' => by
    rw [DIs] at h; subst h
    cases d' <;> rw [DIs] at h' <;> first | (cases h'; rfl) | (cases h'; done) | (obtain ⟨_, _, z, _⟩ := h'; cases z)
  | .int b, d', v, h, h' => by
    rw [DIs] at h; subst h
    cases d' <;> rw [DIs] at h' <;> first | (cases h'; rfl) | (cases h'; done) | (obtain ⟨_, _, z, _⟩ := h'; cases z)
  | .str b, d', v, h, h' => by
    rw [DIs] at h; subst h
    cases d' <;> rw [DIs] at h' <;> first | (cases h'; rfl) | (cases h'; done) | (obtain ⟨_, _, z, _⟩ := h'; cases z)
  | .lst ds, d', v, h, h' => by
    rw [DIs] at h
    obtain ⟨a, xs, rfl, h1, h2⟩ := h
    cases d' with
    | lst es =>
      rw [DIs] at h'
      obtain ⟨b, ys, z, g1, g2⟩ := h'
      cases z
      rw [I.list_inj h1 g1] at h2
      rw [DIss.inj I h2 g2]
    | tup es =>
      rw [DIs] at h'
      obtain ⟨b, ys, z, g1, g2⟩ := h'
      cases z
      obtain ⟨_, _, p1, _⟩ := I.list h1
      obtain ⟨_, _, p2, _⟩ := I.tuple g1
      exact absurd rfl (SeqAt.ne_of_list_tuple (s := s) (PlainL.isList p1) (IsTup.isTuple p2))
    | _ => rw [DIs] at h'; cases h'
  | .tup ds, d', v, h, h' => by
    rw [DIs] at h
    obtain ⟨a, xs, rfl, h1, h2⟩ := h
    cases d' with
    | tup es =>
      rw [DIs] at h'
      obtain ⟨b, ys, z, g1, g2⟩ := h'
      cases z
      rw [I.tuple_inj h1 g1] at h2
      rw [DIss.inj I h2 g2]
    | lst es =>
      rw [DIs] at h'
      obtain ⟨b, ys, z, g1, g2⟩ := h'
      cases z
      obtain ⟨_, _, p1, _⟩ := I.list g1
      obtain ⟨_, _, p2, _⟩ := I.tuple h1
      exact absurd rfl (SeqAt.ne_of_list_tuple (s := s) (PlainL.isList p1) (IsTup.isTuple p2))
    | _ => rw [DIs] at h'; cases h'
theorem DIss.inj (I : Inv X pins σ H s) : ∀ {ds es : List DV} {xs : List V}, DIss X.K H ds xs → DIss X.K H es xs → ds = es
  | [], es, xs, h, h' => by
    rw [DIss] at h; subst h
    cases es with
    | nil => rfl
    | cons e es => rw [DIss] at h'; obtain ⟨_, _, z, _⟩ := h'; cases z
  | d :: ds, es, xs, h, h' => by
    rw [DIss] at h
    obtain ⟨y, ys, rfl, h1, h2⟩ := h
    cases es with
    | nil => rw [DIss] at h'; cases h'
    | cons e es =>
      rw [DIss] at h'
      obtain ⟨_, _, z, g1, g2⟩ := h'
      cases z
      rw [DIs.inj I h1 g1, DIss.inj I h2 g2]
end
end
end L2
namespace L2
open PySem PySem.Spec PyProof.Rows
/-! ### lists of ints -/
section
variable {K : PySem.W.Frag} {H : Hp} {x y : Addr} {ns ms : List Int} {Q : VK}
end
end L2

/-! OWN RULES over the hand layer: a def called within an except suite (while an exception is handled). -/
namespace L2
open PySem PySem.Spec PyProof.Rows
theorem iteE {x y : V} {A B : Prop} (e : x = y) (h : A) : if decide (x = y) = true then A else B := by
  rw [decide_eq_true e]
  exact iteT h
theorem same_new {H : Hp} {p : Addr} {o : HO} (h : H p = none) : Same H (upd H p o) := fun b u e => by
  rw [upd_ne (ne_of_none e h)]
  exact e
/-- all of them are ints of which P holds -/
def AllI (P : Int → Prop) : List V → Prop
  | [] => True
  | .int m :: r => P m ∧ AllI P r
  | _ :: _ => False
theorem AllI.ints {P : Int → Prop} : ∀ {L : List V}, AllI P L → ∃ ns : List Int, L = ns.map V.int ∧ ∀ m ∈ ns, P m
  | [], _ => ⟨[], rfl, fun _ z => nomatch z⟩
  | .int m :: r, h => by
    obtain ⟨ns, e, q⟩ := AllI.ints h.2
    refine ⟨m :: ns, by rw [e]; rfl, fun x hx => ?_⟩
    rcases List.mem_cons.mp hx with rfl | hx
    · exact h.1
    · exact q x hx
structure RoomH (k : Nat) (A : Around) : Prop where
  dp : A.depth + 3 * k + 5 < recursionLimit
  un : A.units + 16 * k + 200 < cLine
theorem Room.h {k : Nat} {A : Around} (r : Room k A) : RoomH k A := ⟨r.dp, r.un⟩
theorem RoomH.mono {j k : Nat} {A : Around} (r : RoomH k A) (h : j ≤ k) : RoomH j A := ⟨by have := r.dp; omega, by have := r.un; omega⟩
theorem RoomH.deeper {k : Nat} {A : Around} (r : RoomH (k + 1) A) (env : Env) : RoomH k (A.deeper env) :=
  ⟨by have := r.dp; show A.depth + 1 + 3 * k + 5 < _; omega, by have := r.un; show A.units + 3 + 16 * k + 200 < _; omega⟩
theorem RoomH.mark {k : Nat} {A : Around} (r : RoomH k A) (h : Option Value) : RoomH k (A.mark h) := ⟨r.dp, r.un⟩
/-- nothing handled -/
def quiet (A : Around) : Around := { A with handled := none }
theorem RoomH.quiet {k : Nat} {A : Around} (r : RoomH k A) : Room k (L2.quiet A) := ⟨rfl, r.dp, r.un⟩
structure FnOkH (P : Program) (w : World) (K : PySem.W.Frag) (mg : Str → Option Value) (base : Heap) (k : Nat) (f : Addr) (fd : FuncData) (ps : List Str) (sp : Sp) : Prop where
  len : ∀ vs H Q E, sp vs H Q E → vs.length = ps.length
  run : ∀ (A : Around) (outer : List Env) (s : Shared) (H : Hp) (args : Args) (us : List Value) (vs : List V) (Q : VK) (E : XK), RoomH k A → Env0 P w K mg base A outer s H → BindsTo s fd args (ps.zip us) → Vals vs us → sp vs H Q E →
    codeAny (model P w) A (.call (.ref f) args) (CR CX0 outer P w H s Q E) s
section
variable {P : Program} {w : World} {K : PySem.W.Frag} {mg : Str → Option Value} {base : Heap} {k : Nat} {f : Addr} {fd : FuncData} {ps : List Str} {sp : Sp}
theorem FnOkH.ok (F : FnOkH P w K mg base k f fd ps sp) : FnOk P w K mg base CX0 k f fd ps sp := ⟨F.len, fun A outer s H args us vs Q E hr => F.run A outer s H args us vs Q E hr.h⟩
theorem FnOkH.mono {j : Nat} (F : FnOkH P w K mg base j f fd ps sp) (h : j ≤ k) : FnOkH P w K mg base k f fd ps sp := ⟨F.len, fun A outer s H args us vs Q E hr => F.run A outer s H args us vs Q E (hr.mono h)⟩
end
/-- the body's context, whatever is handled -/
abbrev Cx.any (X : Cx) : Cx := { X with calm := false, xe := fun _ _ => False }
section
variable {X : Cx} {k : Nat} {f C : Addr} {fd : FuncData} {ps : List Str} {sp : Sp} {dvs : List V} {ds : List Value} {E : XK} {x m : Str} {p pos apos : Pos} {e o : Expr} {es : List Expr} {ta : TE} {t : TA}
/-! ### o.m(..) where the class is known at the call alone -/
end
end L2

namespace Srt
open PySem PyProof.Rows
/-! ### the sort of a list of any length, by its comparisons alone -/
abbrev dk : Keyed := (Value.none, Value.none)
def g (xs : Array Keyed) (i : Nat) : Keyed := xs[i]?.getD dk
theorem g_some {xs : Array Keyed} {i : Nat} (h : i < xs.size) : xs[i]? = some (g xs i) := by
  unfold g; rw [getElem?_pos xs i h]; rfl
theorem g_mem {xs : Array Keyed} {i : Nat} (h : i < xs.size) : g xs i ∈ xs := by
  have e := g_some h
  exact Array.mem_of_getElem? e
structure Cmp (blt : Keyed → Keyed → Bool) : Prop where
  asym : ∀ x y, blt x y = true → blt y x = false
  tr : ∀ x y z, blt y x = false → blt z y = false → blt z x = false
section
variable {blt : Keyed → Keyed → Bool} (C : Cmp blt)
abbrev le (blt : Keyed → Keyed → Bool) (x y : Keyed) : Prop := blt y x = false
include C
theorem Cmp.refl (x : Keyed) : le blt x x := by
  cases h : blt x x with
  | false => exact h
  | true => have := C.asym _ _ h; rw [h] at this; cases this
theorem Cmp.trans {x y z : Keyed} (h1 : le blt x y) (h2 : le blt y z) : le blt x z := C.tr x y z h1 h2
end
/-- sorted between two places -/
def On (blt : Keyed → Keyed → Bool) (xs : Array Keyed) (lo hi : Nat) : Prop := ∀ i j, lo ≤ i → i < j → j < hi → le blt (g xs i) (g xs j)
def Off (blt : Keyed → Keyed → Bool) (xs : Array Keyed) (lo hi : Nat) : Prop := ∀ i j, lo ≤ i → i < j → j < hi → le blt (g xs j) (g xs i)
theorem On.one {blt : Keyed → Keyed → Bool} {xs : Array Keyed} {lo : Nat} : On blt xs lo (lo + 1) := fun i j h1 h2 h3 => by omega
theorem Off.one {blt : Keyed → Keyed → Bool} {xs : Array Keyed} {lo : Nat} : Off blt xs lo (lo + 1) := fun i j h1 h2 h3 => by omega
theorem On.sub {blt : Keyed → Keyed → Bool} {xs : Array Keyed} {lo hi lo' hi' : Nat} (h : On blt xs lo hi) (h1 : lo ≤ lo') (h2 : hi' ≤ hi) : On blt xs lo' hi' := fun i j a b c => h i j (by omega) b (by omega)
section
variable {blt : Keyed → Keyed → Bool} (C : Cmp blt)
include C
theorem On.snoc {xs : Array Keyed} {lo n : Nat} (h : On blt xs lo (lo + n)) (hn : 1 ≤ n) (e : le blt (g xs (lo + n - 1)) (g xs (lo + n))) : On blt xs lo (lo + (n + 1)) := fun i j h1 h2 h3 => by
  by_cases z : j < lo + n
  · exact h i j h1 h2 z
  · have ej : j = lo + n := by omega
    subst ej
    by_cases y : i = lo + n - 1
    · subst y; exact e
    · exact C.trans (h i (lo + n - 1) h1 (by omega) (by omega)) e
theorem Off.snoc {xs : Array Keyed} {lo n : Nat} (h : Off blt xs lo (lo + n)) (hn : 1 ≤ n) (e : le blt (g xs (lo + n)) (g xs (lo + n - 1))) : Off blt xs lo (lo + (n + 1)) := fun i j h1 h2 h3 => by
  by_cases z : j < lo + n
  · exact h i j h1 h2 z
  · have ej : j = lo + n := by omega
    subst ej
    by_cases y : i = lo + n - 1
    · subst y; exact e
    · exact C.trans e (h i (lo + n - 1) h1 (by omega) (by omega))
end
section
variable {prog : Program} {w : World} {A : Around} {E : Value → Shared → Prop} {s : Shared} {a₀ : Array Keyed} {κ : SortKind} {blt : Keyed → Keyed → Bool}
/-- what is asked of the comparisons -/
def Runs (prog : Program) (w : World) (A : Around) (E : Value → Shared → Prop) (s : Shared) (a₀ : Array Keyed) (κ : SortKind) (blt : Keyed → Keyed → Bool) : Prop :=
  ∀ (x y : Keyed) (st : SortSt) (Q : Option Bool → SortSt → Prop), x ∈ a₀ → y ∈ a₀ → kindOf st = κ → Q (some (blt x y)) st → wpS (model prog w) A E s (lt' x y) Q st
/-- the state between two steps -/
structure Base (a₀ : Array Keyed) (κ : SortKind) (st : SortSt) : Prop where
  kind : kindOf st = κ
  fine : failedOf st = none
  perm : (arrOf st).Perm a₀
theorem Base.size {st : SortSt} (B : Base a₀ κ st) : (arrOf st).size = a₀.size := B.perm.size_eq
theorem Base.mem {st : SortSt} (B : Base a₀ κ st) {i : Nat} (h : i < a₀.size) : g (arrOf st) i ∈ a₀ := (B.perm.mem_iff).mp (g_mem (by rw [B.size]; exact h))
variable (L : Runs prog w A E s a₀ κ blt)
include L
omit L in
abbrev Keep (lo : Nat) (xs ys : Array Keyed) : Prop := ∀ k, k < lo → g ys k = g xs k
omit L in
omit L in
omit L in
omit L in
omit L in
end
end Srt
namespace Srt
open PySem PyProof.Rows
section
variable {blt : Keyed → Keyed → Bool}
abbrev PW (blt : Keyed → Keyed → Bool) (l : List Keyed) : Prop := l.Pairwise (le blt)
/-- a merge under way: o is out, ra and rb are left -/
structure Lo (blt : Keyed → Keyed → Bool) (all o ra rb : List Keyed) : Prop where
  perm : (o ++ (ra ++ rb)).Perm all
  srt : PW blt o
  low : ∀ x ∈ o, ∀ y ∈ ra ++ rb, le blt x y
theorem Lo.a {all o ca ra rb : List Keyed} (h : Lo blt all o (ca ++ ra) rb) (hs : PW blt (ca ++ ra)) (hc : ∀ x ∈ ca, ∀ y ∈ rb, le blt x y) : Lo blt all (o ++ ca) ra rb where
  perm := by
    refine List.Perm.trans ?_ h.perm
    rw [List.append_assoc, List.append_assoc]
  srt := List.pairwise_append.mpr ⟨h.srt, (List.pairwise_append.mp hs).1, fun x hx y hy => h.low x hx y (by simp [hy])⟩
  low := fun x hx y hy => by
    rcases List.mem_append.mp hx with q | q
    · exact h.low x q y (by rcases List.mem_append.mp hy with z | z <;> simp [z])
    · rcases List.mem_append.mp hy with z | z
      · exact (List.pairwise_append.mp hs).2.2 x q y z
      · exact hc x q y z
theorem Lo.b {all o ra cb rb : List Keyed} (h : Lo blt all o ra (cb ++ rb)) (hs : PW blt (cb ++ rb)) (hc : ∀ x ∈ cb, ∀ y ∈ ra, le blt x y) : Lo blt all (o ++ cb) ra rb where
  perm := by
    refine List.Perm.trans ?_ h.perm
    rw [List.append_assoc]
    refine List.Perm.append_left o ?_
    rw [← List.append_assoc, ← List.append_assoc]
    exact List.Perm.append_right rb List.perm_append_comm
  srt := List.pairwise_append.mpr ⟨h.srt, (List.pairwise_append.mp hs).1, fun x hx y hy => h.low x hx y (by simp [hy])⟩
  low := fun x hx y hy => by
    rcases List.mem_append.mp hx with q | q
    · exact h.low x q y (by rcases List.mem_append.mp hy with z | z <;> simp [z])
    · rcases List.mem_append.mp hy with z | z
      · exact hc x q y z
      · exact (List.pairwise_append.mp hs).2.2 x q y z
end
structure Like (st st' : SortSt) : Prop where
  kind : kindOf st' = kindOf st
  arr : arrOf st' = arrOf st
  pend : pendingOf st' = pendingOf st
  fail : failedOf st' = failedOf st
theorem Like.refl (st : SortSt) : Like st st := ⟨rfl, rfl, rfl, rfl⟩
section
variable {prog : Program} {w : World} {A : Around} {E : Value → Shared → Prop} {s : Shared} {a₀ : Array Keyed} {κ : SortKind} {blt : Keyed → Keyed → Bool}
variable (L : Runs prog w A E s a₀ κ blt)
include L
end

section
variable {blt : Keyed → Keyed → Bool}
/-- a merge from behind: o is out (as it will stand), ra and rb are left -/
structure Hi (blt : Keyed → Keyed → Bool) (all o ra rb : List Keyed) : Prop where
  perm : ((ra ++ rb) ++ o).Perm all
  srt : PW blt o
  high : ∀ x ∈ ra ++ rb, ∀ y ∈ o, le blt x y
theorem Hi.a {all o ca ra rb : List Keyed} (h : Hi blt all o (ra ++ ca) rb) (hs : PW blt (ra ++ ca)) (hc : ∀ x ∈ rb, ∀ y ∈ ca, le blt x y) : Hi blt all (ca ++ o) ra rb where
  perm := by
    refine List.Perm.trans ?_ h.perm
    rw [← List.append_assoc]
    refine List.Perm.append_right o ?_
    rw [List.append_assoc, List.append_assoc]
    exact List.Perm.append_left ra List.perm_append_comm
  srt := List.pairwise_append.mpr ⟨(List.pairwise_append.mp hs).2.1, h.srt, fun x hx y hy => h.high x (by simp [hx]) y hy⟩
  high := fun x hx y hy => by
    rcases List.mem_append.mp hy with q | q
    · rcases List.mem_append.mp hx with z | z
      · exact (List.pairwise_append.mp hs).2.2 x z y q
      · exact hc x z y q
    · exact h.high x (by rcases List.mem_append.mp hx with z | z <;> simp [z]) y q
theorem Hi.b {all o ra cb rb : List Keyed} (h : Hi blt all o ra (rb ++ cb)) (hs : PW blt (rb ++ cb)) (hc : ∀ x ∈ ra, ∀ y ∈ cb, le blt x y) : Hi blt all (cb ++ o) ra rb where
  perm := by
    refine List.Perm.trans ?_ h.perm
    rw [← List.append_assoc]
    refine List.Perm.append_right o ?_
    rw [List.append_assoc]
  srt := List.pairwise_append.mpr ⟨(List.pairwise_append.mp hs).2.1, h.srt, fun x hx y hy => h.high x (by simp [hx]) y hy⟩
  high := fun x hx y hy => by
    rcases List.mem_append.mp hy with q | q
    · rcases List.mem_append.mp hx with z | z
      · exact hc x z y q
      · exact (List.pairwise_append.mp hs).2.2 x z y q
    · exact h.high x (by rcases List.mem_append.mp hx with z | z <;> simp [z]) y q
end
section
variable {prog : Program} {w : World} {A : Around} {E : Value → Shared → Prop} {s : Shared} {a₀ : Array Keyed} {κ : SortKind} {blt : Keyed → Keyed → Bool}
variable (L : Runs prog w A E s a₀ κ blt)
include L
end
end Srt
namespace Srt
open PySem PyProof.Rows
section
variable {blt : Keyed → Keyed → Bool}
end
section
variable {prog : Program} {w : World} {A : Around} {E : Value → Shared → Prop} {s : Shared} {a₀ : Array Keyed} {κ : SortKind} {blt : Keyed → Keyed → Bool}
variable (L : Runs prog w A E s a₀ κ blt)
include L
end
section
variable {blt : Keyed → Keyed → Bool}
/-- the runs that wait, one behind the other, each sorted -/
def Stack (blt : Keyed → Keyed → Bool) (xs : Array Keyed) : List (Nat × Nat × Nat) → Nat → Nat → Prop
  | [], f, t => f = t
  | (st, len, _) :: r, f, t => st = f ∧ 1 ≤ len ∧ On blt xs st (st + len) ∧ Stack blt xs r (st + len) t
theorem Stack.le {xs : Array Keyed} : ∀ {l : List (Nat × Nat × Nat)} {f t : Nat}, Stack blt xs l f t → f + l.length ≤ t
  | [], f, t, h => by cases h; simp
  | (st, len, p) :: r, f, t, h => by
    obtain ⟨rfl, h1, _, h3⟩ := h
    have := Stack.le h3
    simp
    omega
end
section
variable {prog : Program} {w : World} {A : Around} {E : Value → Shared → Prop} {s : Shared} {a₀ : Array Keyed} {κ : SortKind} {blt : Keyed → Keyed → Bool}
variable (L : Runs prog w A E s a₀ κ blt)
include L
end
end Srt

/-! OWN RULES: sorted(xs) for a list of any length, by what is asked of two items. -/
namespace Srt
open PySem PyProof.Rows
section
variable {prog : Program} {w : World} {A : Around} {E : Value → Shared → Prop} {s : Shared} {κ : SortKind} {blt : Keyed → Keyed → Bool}
end
end Srt

/-! OWN RULES over the hand layer: sorted(xs) of ints, and of tuples. -/
namespace Srt
open PySem PyProof.Rows
end Srt
namespace L2
open PySem PySem.Spec PyProof.Rows
section
variable {X : Cx}
/-! ### tuples of two ints; tuples of an int and such a tuple -/
end
end L2

/-! OWN RULES over the hand layer: list(d) and sorted(d) of a dict, d.pop(k), texts joined. -/
namespace Srt
open PySem PyProof.Rows
section
variable {prog : Program} {w : World} {A : Around} {E : Value → Shared → Prop} {s : Shared} {κ : SortKind} {blt : Keyed → Keyed → Bool}
end
end Srt
namespace L2
open PySem PySem.Spec PyProof.Rows
section
variable {X : Cx}
/-! ### d.pop(k), texts joined -/
def rJoin (K : PySem.W.Frag) : V → List V → Hp → VK → Prop := fun x vs H Q => ∃ (sep : Str) (a : Addr) (ys : List Str), x = .str sep ∧ vs = [.ref a] ∧ SqL K H a (ys.map V.str) ∧ sep.length ≤ 16 ∧ (ys.map (·.length)).sum + ys.length ≤ 1048576 ∧ Q (.str (Txt.join sep ys)) H
theorem strs_are : ∀ {ys : List Str} {its : List Value}, Vals (ys.map V.str) its → StrsAre its ys
  | [], _, .nil => .nil
  | _ :: _, _, .cons ⟨t, e⟩ r => by subst e; exact .cons _ _ (strs_are r)
theorem mt_join : MtR X "str.join" (rJoin X.K) := by
  intro pins s σ H x vs v us Q I rx rv h
  obtain ⟨sep, a, ys, rfl, rfl, hS, h1, h2, q⟩ := h
  obtain ⟨t, rfl⟩ := rx
  obtain ⟨u, rfl, ru⟩ := rv.one
  cases ru
  obtain ⟨its, r, pl, _⟩ := I.list hS
  exact join_listW pl.isList (by simpa using strs_are r) h1 h2 fun t' k => ⟨.str _, H, I.tok _, ⟨t', rfl⟩, q⟩
end
end L2

namespace SW
open PySem L2
set_option maxHeartbeats 0
def top (i : Nat) : Stmt := PySem.Challenge.pw_staywalk_k32_no_tokens.main.body.getD i (.Pass ⟨0, 0, 0, 0⟩)
abbrev s_NoKey__init : Stmt := inClass (top 7) 0
abbrev s_is_whole : Stmt := top 9
abbrev s_is_from : Stmt := top 11
abbrev s_word_of : Stmt := top 12
abbrev s_Token__init : Stmt := inClass (top 13) 0
abbrev s_Token__words : Stmt := inClass (top 13) 1
abbrev s_BySlots__init : Stmt := inClass (top 14) 0
abbrev s_Up__init : Stmt := inClass (top 15) 0
abbrev s_Down__init : Stmt := inClass (top 16) 0
abbrev s__law_cell_at : Stmt := top 18
abbrev s__law_made : Stmt := top 19
abbrev s__law_refused : Stmt := top 20
abbrev s_law : Stmt := top 21
structure Adr where
  a_NoKey__init : Addr
  d_NoKey__init : FuncData
  a_is_whole : Addr
  d_is_whole : FuncData
  a_is_from : Addr
  d_is_from : FuncData
  a_word_of : Addr
  d_word_of : FuncData
  a_Token__init : Addr
  d_Token__init : FuncData
  a_Token__words : Addr
  d_Token__words : FuncData
  a_BySlots__init : Addr
  d_BySlots__init : FuncData
  a_Up__init : Addr
  d_Up__init : FuncData
  a_Down__init : Addr
  d_Down__init : FuncData
  a__law_cell_at : Addr
  d__law_cell_at : FuncData
  a__law_made : Addr
  d__law_made : FuncData
  a__law_refused : Addr
  d__law_refused : FuncData
  a_law : Addr
  d_law : FuncData
  c_WalkError : Addr
  c_NoToken : Addr
  c_NoText : Addr
  c_NoPart : Addr
  c_NoKey : Addr
  c_Token : Addr
  c_BySlots : Addr
  c_Up : Addr
  c_Down : Addr
structure Txt (K : PySem.W.Frag) (mg : Str → Option Value) (t : Adr) : Prop where
  mg_WalkError : mg "WalkError" = some (.ref t.c_WalkError)
  mg_NoToken : mg "NoToken" = some (.ref t.c_NoToken)
  mg_NoText : mg "NoText" = some (.ref t.c_NoText)
  mg_NoPart : mg "NoPart" = some (.ref t.c_NoPart)
  mg_NoKey : mg "NoKey" = some (.ref t.c_NoKey)
  mg_Token : mg "Token" = some (.ref t.c_Token)
  mg_BySlots : mg "BySlots" = some (.ref t.c_BySlots)
  mg_Up : mg "Up" = some (.ref t.c_Up)
  mg_Down : mg "Down" = some (.ref t.c_Down)
  F_NoKey__init : Fun K "__init__" "NoKey.__init__" s_NoKey__init t.a_NoKey__init t.d_NoKey__init
  b_NoKey__init : Binds K t.d_NoKey__init ["self", "key"] []
  m_is_whole : mg "is_whole" = some (.ref t.a_is_whole)
  F_is_whole : Fun K "is_whole" "is_whole" s_is_whole t.a_is_whole t.d_is_whole
  b_is_whole : Binds K t.d_is_whole ["thing"] []
  m_is_from : mg "is_from" = some (.ref t.a_is_from)
  F_is_from : Fun K "is_from" "is_from" s_is_from t.a_is_from t.d_is_from
  b_is_from : Binds K t.d_is_from ["thing", "low"] []
  m_word_of : mg "word_of" = some (.ref t.a_word_of)
  F_word_of : Fun K "word_of" "word_of" s_word_of t.a_word_of t.d_word_of
  b_word_of : Binds K t.d_word_of ["bound"] []
  F_Token__init : Fun K "__init__" "Token.__init__" s_Token__init t.a_Token__init t.d_Token__init
  b_Token__init : Binds K t.d_Token__init ["self", "kind", "at", "end"] []
  F_Token__words : Fun K "words" "Token.words" s_Token__words t.a_Token__words t.d_Token__words
  b_Token__words : Binds K t.d_Token__words ["self"] []
  F_BySlots__init : FunD K "__init__" "BySlots.__init__" s_BySlots__init t.a_BySlots__init t.d_BySlots__init
  b_BySlots__init : Binds K t.d_BySlots__init ["self", "at", "end"] []
  b1_BySlots__init : BindsV K t.d_BySlots__init ["self", "at", "end"] [(.int (65536))]
  b2_BySlots__init : BindsV K t.d_BySlots__init ["self", "at", "end"] [(.int (0)), (.int (65536))]
  F_Up__init : FunD K "__init__" "Up.__init__" s_Up__init t.a_Up__init t.d_Up__init
  b_Up__init : Binds K t.d_Up__init ["self", "at", "end"] []
  b1_Up__init : BindsV K t.d_Up__init ["self", "at", "end"] [.non]
  b2_Up__init : BindsV K t.d_Up__init ["self", "at", "end"] [(.int (0)), .non]
  F_Down__init : FunD K "__init__" "Down.__init__" s_Down__init t.a_Down__init t.d_Down__init
  b_Down__init : Binds K t.d_Down__init ["self", "at", "end"] []
  b1_Down__init : BindsV K t.d_Down__init ["self", "at", "end"] [(.int (0))]
  b2_Down__init : BindsV K t.d_Down__init ["self", "at", "end"] [.non, (.int (0))]
  m__law_cell_at : mg "_law_cell_at" = some (.ref t.a__law_cell_at)
  F__law_cell_at : Fun K "_law_cell_at" "_law_cell_at" s__law_cell_at t.a__law_cell_at t.d__law_cell_at
  b__law_cell_at : Binds K t.d__law_cell_at ["_law_script", "_law_k"] []
  m__law_made : mg "_law_made" = some (.ref t.a__law_made)
  F__law_made : Fun K "_law_made" "_law_made" s__law_made t.a__law_made t.d__law_made
  b__law_made : Binds K t.d__law_made ["_law_way", "_law_low", "_law_high"] []
  m__law_refused : mg "_law_refused" = some (.ref t.a__law_refused)
  F__law_refused : Fun K "_law_refused" "_law_refused" s__law_refused t.a__law_refused t.d__law_refused
  b__law_refused : Binds K t.d__law_refused ["_law_way", "_law_low", "_law_high"] []
  m_law : mg "law" = some (.ref t.a_law)
  F_law : Fun K "law" "law" s_law t.a_law t.d_law
  b_law : Binds K t.d_law ["_law_script"] []
  xc_WalkError : XCls K t.c_WalkError (([] : List Addr).map Value.ref ++ vBase)
  xc_NoToken : XCls K t.c_NoToken (([t.c_WalkError] : List Addr).map Value.ref ++ vBase)
  xi_NoToken : XIs K t.c_NoToken
  ini_NoToken : PySem.W.findIn K (.ref t.c_NoToken) "__init__" = some (some (.builtin "ValueError.__init__"))
  xc_NoText : XCls K t.c_NoText (([t.c_WalkError] : List Addr).map Value.ref ++ vBase)
  xc_NoPart : XCls K t.c_NoPart (([t.c_WalkError] : List Addr).map Value.ref ++ vBase)
  na_NoKey_key : NoAttr K t.c_NoKey "key"
  xc_NoKey : XCls K t.c_NoKey (([t.c_WalkError] : List Addr).map Value.ref ++ vBase)
  na_Token_kind : NoAttr K t.c_Token "kind"
  na_Token_at : NoAttr K t.c_Token "at"
  na_Token_end : NoAttr K t.c_Token "end"
  cl_Token : Cls K t.c_Token
  mk_Token : Mk K t.c_Token t.a_Token__init
  me_Token_words : Meth K t.c_Token "words" t.a_Token__words
  na_BySlots_kind : NoAttr K t.c_BySlots "kind"
  na_BySlots_at : NoAttr K t.c_BySlots "at"
  na_BySlots_end : NoAttr K t.c_BySlots "end"
  cl_BySlots : Cls K t.c_BySlots
  mk_BySlots : Mk K t.c_BySlots t.a_BySlots__init
  me_BySlots_words : Meth K t.c_BySlots "words" t.a_Token__words
  na_Up_kind : NoAttr K t.c_Up "kind"
  na_Up_at : NoAttr K t.c_Up "at"
  na_Up_end : NoAttr K t.c_Up "end"
  cl_Up : Cls K t.c_Up
  mk_Up : Mk K t.c_Up t.a_Up__init
  me_Up_words : Meth K t.c_Up "words" t.a_Token__words
  na_Down_kind : NoAttr K t.c_Down "kind"
  na_Down_at : NoAttr K t.c_Down "at"
  na_Down_end : NoAttr K t.c_Down "end"
  cl_Down : Cls K t.c_Down
  mk_Down : Mk K t.c_Down t.a_Down__init
  me_Down_words : Meth K t.c_Down "words" t.a_Token__words
  of_Token_init : OfCls K t.c_Token "__init__" (.ref t.a_Token__init)
  su_NoToken_NoKey : PySem.W.subIn K (.ref t.c_NoToken) (.ref t.c_NoKey) = some false
  su_NoToken_NoPart : PySem.W.subIn K (.ref t.c_NoToken) (.ref t.c_NoPart) = some false
  su_NoToken_NoText : PySem.W.subIn K (.ref t.c_NoToken) (.ref t.c_NoText) = some false
  su_NoToken_NoToken : PySem.W.subIn K (.ref t.c_NoToken) (.ref t.c_NoToken) = some true
  su_NoToken_WalkError : PySem.W.subIn K (.ref t.c_NoToken) (.ref t.c_WalkError) = some true
  g_PLACES : ∃ tk, mg "PLACES" = some (.int 65536 tk)
  z_ValueError : mg "ValueError" = none
  z_bool : mg "bool" = none
  z_int : mg "int" = none
  z_isinstance : mg "isinstance" = none
  z_len : mg "len" = none
  z_str : mg "str" = none
theorem sc_is_whole : FnScope ["thing"] ["thing"] (defScope s_is_whole) := ⟨rfl, rfl, rfl, by decide +kernel, rfl, by decide +kernel, by decide +kernel⟩
theorem sc_is_from : FnScope ["thing", "low"] ["thing", "low"] (defScope s_is_from) := ⟨rfl, rfl, rfl, by decide +kernel, rfl, by decide +kernel, by decide +kernel⟩
theorem sc_word_of : FnScope ["bound"] ["bound"] (defScope s_word_of) := ⟨rfl, rfl, rfl, by decide +kernel, rfl, by decide +kernel, by decide +kernel⟩
theorem sc_Token__init : FnScope ["self", "kind", "at", "end"] ["self", "kind", "at", "end"] (defScope s_Token__init) := ⟨rfl, rfl, rfl, by decide +kernel, rfl, by decide +kernel, by decide +kernel⟩
theorem sc_Token__words : FnScope ["self"] ["self"] (defScope s_Token__words) := ⟨rfl, rfl, rfl, by decide +kernel, rfl, by decide +kernel, by decide +kernel⟩
theorem sc_BySlots__init : FnScope ["self", "at", "end"] ["self", "at", "end"] (defScope s_BySlots__init) := ⟨rfl, rfl, rfl, by decide +kernel, rfl, by decide +kernel, by decide +kernel⟩
theorem sc_Up__init : FnScope ["self", "at", "end"] ["self", "at", "end"] (defScope s_Up__init) := ⟨rfl, rfl, rfl, by decide +kernel, rfl, by decide +kernel, by decide +kernel⟩
theorem sc_Down__init : FnScope ["self", "at", "end"] ["self", "at", "end"] (defScope s_Down__init) := ⟨rfl, rfl, rfl, by decide +kernel, rfl, by decide +kernel, by decide +kernel⟩
theorem sc__law_cell_at : FnScope ["_law_script", "_law_k"] ["_law_script", "_law_k"] (defScope s__law_cell_at) := ⟨rfl, rfl, rfl, by decide +kernel, rfl, by decide +kernel, by decide +kernel⟩
theorem sc__law_made : FnScope ["_law_way", "_law_low", "_law_high"] ["_law_way", "_law_low", "_law_high"] (defScope s__law_made) := ⟨rfl, rfl, rfl, by decide +kernel, rfl, by decide +kernel, by decide +kernel⟩
theorem sc__law_refused : FnScope ["_law_way", "_law_low", "_law_high", "_law_found", "e", "_law_others"] ["_law_way", "_law_low", "_law_high"] (defScope s__law_refused) := ⟨rfl, rfl, rfl, by decide +kernel, rfl, by decide +kernel, by decide +kernel⟩
theorem sc_law : FnScope ["_law_script", "_law_low", "_law_high", "_law_way"] ["_law_script"] (defScope s_law) := ⟨rfl, rfl, rfl, by decide +kernel, rfl, by decide +kernel, by decide +kernel⟩
def Sc : V → Prop
  | .non => True | .bl _ => True | .int _ => True | .str _ => True | _ => False
theorem sc_non : Sc .non := True.intro
theorem sc_bl {b : Bool} : Sc (.bl b) := True.intro
theorem sc_str {x : Str} : Sc (.str x) := True.intro
theorem T0 (z : Int) : Sc (.int z) := True.intro
def isW : V → Bool
  | .int _ => true | _ => false
/-! ### what lies outside of a thing is as it was -/
def Fr (F F' : Addr → Prop) (H H' : Hp) : Prop := ∀ b o, ¬ F b → H b = some o → H' b = some o ∧ ¬ F' b
theorem Fr.refl {F : Addr → Prop} {H : Hp} : Fr F F H H := fun _ _ n e => ⟨e, n⟩
theorem Fr.trans {F F' F'' : Addr → Prop} {H H' H'' : Hp} (x : Fr F F' H H') (y : Fr F' F'' H' H'') : Fr F F'' H H'' := fun b o n e => y b o (x b o n e).2 (x b o n e).1
theorem putF_len {f : Str} {v : V} : ∀ fs : List (Str × V), (putF f v fs).length ≤ fs.length + 1
  | [] => Nat.le_refl _
  | (g, x) :: r => by
    rw [putF]
    split
    · rw [List.length_cons, List.length_cons]; omega
    · have := putF_len (f := f) (v := v) r
      rw [List.length_cons, List.length_cons]; omega
/-! ### tokens: what the program promises -/
structure TokF (kd : Str) (fs : List (Str × V)) (a e : V) : Prop where
  ki : fs.lookup ("kind" : Str) = some (.str kd)
  at_ : fs.lookup ("at" : Str) = some a
  end_ : fs.lookup ("end" : Str) = some e
  wo : fs.lookup ("words" : Str) = none
  ho : fs.lookup ("holds" : Str) = none
def okS (a e : V) : Prop := ∃ i j, a = .int i ∧ e = .int j ∧ 0 ≤ i ∧ i ≤ j ∧ j ≤ 65536
def okU (a e : V) : Prop := ∃ i, a = .int i ∧ 0 ≤ i ∧ (e = .non ∨ ∃ j, e = .int j ∧ i ≤ j)
def okD (a e : V) : Prop := ∃ j, e = .int j ∧ 0 ≤ j ∧ (a = .non ∨ ∃ i, a = .int i ∧ j ≤ i)
/-- all but what stands at p is as it was -/
def Keep (p : Addr) (H H' : Hp) : Prop := ∀ b o, H b = some o → b ≠ p → H' b = some o
/-- an exception of class C without fields comes, all but p is as it was -/
def RsB (p : Addr) (H : Hp) (C : Addr) (E : XK) : Prop := ∀ (ea : Addr) (od : Option Addr) (H' : Hp), ExcAt H' ea od C [] → Keep p H H' → E (.ref ea) od H'
def sp_is_whole : Sp := fun vs H Q _ => ∃ x, vs = [x] ∧ Sc x ∧ Q (.bl (isW x)) H
def isF (lo : Int) : V → Bool
  | .int i => decide (lo ≤ i) | _ => false
def sp_is_from : Sp := fun vs H Q _ => ∃ x lo, vs = [x, .int lo] ∧ Sc x ∧ Q (.bl (isF lo x)) H
def wr : V → Str
  | .int i => toString i | _ => "-"
def sp_word_of : Sp := fun vs H Q _ => ∃ x, vs = [x] ∧ (x = .non ∨ ∃ i : Int, x = .int i ∧ i.natAbs.log2 < 1920) ∧ Q (.str (wr x)) H
def sp_Token__init (K : PySem.W.Frag) : Sp := fun vs H Q _ => ∃ (p C dx : Addr) (kd : Str) (a e : V), vs = [.ref p, .str kd, a, e] ∧ H p = some (.ins C dx []) ∧ Cls K C ∧ NoAttr K C "kind" ∧ NoAttr K C "at" ∧ NoAttr K C "end" ∧ ∀ H' fs, Keep p H H' → H' p = some (.ins C dx fs) → TokF kd fs a e → Q .non H'
def spTok (C N : Addr) (kd : Str) (ok : V → V → Prop) : Sp := fun vs H Q E => ∃ (p dx : Addr) (a e : V), vs = [.ref p, a, e] ∧ H p = some (.ins C dx []) ∧ Sc a ∧ Sc e ∧
  (ok a e → ∀ H' fs, Keep p H H' → H' p = some (.ins C dx fs) → TokF kd fs a e → Q .non H') ∧ (¬ ok a e → RsB p H N E)
def sp_BySlots__init (t : Adr) : Sp := spTok t.c_BySlots t.c_NoToken "slots" okS
def sp_Up__init (t : Adr) : Sp := spTok t.c_Up t.c_NoToken "up" okU
def sp_Down__init (t : Adr) : Sp := spTok t.c_Down t.c_NoToken "down" okD
/-- of which kind -/
def okN (kd : Int) (a e : V) : Prop := (kd = 0 ∧ okS a e) ∨ (kd = 1 ∧ okU a e) ∨ (kd = 2 ∧ okD a e)
def hS : V → V → Int → Bool
  | .int i, .int j, k => decide (i ≤ tz (k % 65536)) && decide (tz (k % 65536) < j)
  | _, _, _ => false
def hU : V → V → Int → Bool
  | .int i, .int j, k => decide (i ≤ k) && decide (k < j)
  | .int i, .non, k => decide (i ≤ k)
  | _, _, _ => false
def hD : V → V → Int → Bool
  | .int i, .int j, k => decide (j ≤ k) && decide (k ≤ i)
  | .non, .int j, k => decide (j ≤ k)
  | _, _, _ => false
def hN (kd : Int) : V → V → Int → Bool := if kd = 0 then hS else if kd = 1 then hU else hD
def bdV : V → Prop
  | .int i => i < 10 ^ 80 | _ => True
def wordsT (kd : Str) (a e : V) : Str := Txt.join (" " : Str) [kd, wr a, wr e]
def tkC (t : Adr) (kd : Int) : Addr := if kd = 0 then t.c_BySlots else if kd = 1 then t.c_Up else t.c_Down
def kdS (kd : Int) : Str := if kd = 0 then "slots" else if kd = 1 then "up" else "down"
def sp_Token__words (t : Adr) : Sp := fun vs H Q _ => ∃ (p dx : Addr) (kd : Int) (fs : List (Str × V)) (a e : V), vs = [.ref p] ∧ H p = some (.ins (tkC t kd) dx fs) ∧ TokF (kdS kd) fs a e ∧ okN kd a e ∧ bdV a ∧ bdV e ∧ ∀ H', Same H H' → Q (.str (wordsT (kdS kd) a e)) H'
theorem same_keep {x dx C : Addr} {H H' : Hp} (h1 : H x = none) (h2 : H dx = none) (k : Keep x (upd (upd H dx (.own x)) x (.ins C dx [])) H') : Same H H' := fun b o q => by
  refine k b o ?_ (ne_of_none q h1)
  rw [upd_ne (ne_of_none q h1), upd_ne (ne_of_none q h2)]
  exact q
/-- a token stands there -/
def TkAt (t : Adr) (H : Hp) (p : Addr) (kd : Int) (a e : V) : Prop := ∃ (dx : Addr) (fs : List (Str × V)), H p = some (.ins (tkC t kd) dx fs) ∧ TokF (kdS kd) fs a e
theorem TkAt.same {t : Adr} {H H' : Hp} {p : Addr} {kd : Int} {a e : V} (h : TkAt t H p kd a e) (s : Same H H') : TkAt t H' p kd a e := by
  obtain ⟨dx, fs, h1, h2⟩ := h
  exact ⟨dx, fs, s _ _ h1, h2⟩
theorem okN.sc {kd : Int} {a e : V} (h : okN kd a e) : Sc a ∧ Sc e := by
  rcases h with ⟨_, i, j, rfl, rfl, _⟩ | ⟨_, i, rfl, _, rfl | ⟨j, rfl, _⟩⟩ | ⟨_, j, rfl, _, rfl | ⟨i, rfl, _⟩⟩ <;> exact ⟨True.intro, True.intro⟩
theorem okN.kd {kd : Int} {a e : V} (h : okN kd a e) : kd = 0 ∨ kd = 1 ∨ kd = 2 := by
  rcases h with ⟨h, _⟩ | ⟨h, _⟩ | ⟨h, _⟩
  · exact .inl h
  · exact .inr (.inl h)
  · exact .inr (.inr h)
theorem okN.s {a e : V} (h : okN 0 a e) : okS a e := by
  rcases h with ⟨_, h⟩ | ⟨h, _⟩ | ⟨h, _⟩
  · exact h
  · cases h
  · cases h
theorem okN.u {a e : V} (h : okN 1 a e) : okU a e := by
  rcases h with ⟨h, _⟩ | ⟨_, h⟩ | ⟨h, _⟩
  · cases h
  · exact h
  · cases h
theorem okN.d {a e : V} (h : okN 2 a e) : okD a e := by
  rcases h with ⟨h, _⟩ | ⟨h, _⟩ | ⟨_, h⟩
  · cases h
  · cases h
  · exact h
set_option exponentiation.threshold 2000 in
theorem log80 {i : Int} (h0 : 0 ≤ i) (h1 : i < 10 ^ 80) : i.natAbs.log2 < 1920 := by
  rcases Nat.eq_zero_or_pos i.natAbs with z | z
  · rw [z]; decide
  · refine (Nat.log2_lt (Nat.ne_of_gt z)).mpr ?_
    have : i.natAbs < 10 ^ 80 := by omega
    exact Nat.lt_trans this (Nat.lt_of_lt_of_le (show 10 ^ 80 < 2 ^ 300 by decide) (Nat.pow_le_pow_right (by decide) (by decide)))
/-- a number, or None, that is written in few figures -/
def few (a : V) : Prop := (a = .non ∨ ∃ i : Int, a = .int i ∧ i.natAbs.log2 < 1920) ∧ (wr a).length ≤ 81
theorem few_non : few .non := ⟨.inl rfl, by decide +kernel⟩
theorem few_int {i : Int} (h0 : 0 ≤ i) (h1 : bdV (.int i)) : few (.int i) := by
  have h1 : i < 10 ^ 80 := h1
  refine ⟨.inr ⟨i, rfl, log80 h0 h1⟩, ?_⟩
  show (Str.ofString (toString i)).length ≤ 81
  have h : (toString i).length ≤ 80 + 1 := PySem.int_text_length_le10 (by decide) (by omega)
  rw [Str.ofString_eq_toList]
  show ((toString i).toList.map Char.toNat).toArray.size ≤ 81
  rw [List.size_toArray, List.length_map]
  exact h
theorem okN.few {kd : Int} {a e : V} (h : okN kd a e) (ba : bdV a) (be : bdV e) : few a ∧ few e := by
  rcases h with ⟨_, i, j, rfl, rfl, h0, h1, _⟩ | ⟨_, i, rfl, h0, rfl | ⟨j, rfl, h1⟩⟩ | ⟨_, j, rfl, h0, rfl | ⟨i, rfl, h1⟩⟩
  · exact ⟨few_int h0 ba, few_int (by omega) be⟩
  · exact ⟨few_int h0 ba, few_non⟩
  · exact ⟨few_int h0 ba, few_int (by omega) be⟩
  · exact ⟨few_non, few_int h0 be⟩
  · exact ⟨few_int (by omega) ba, few_int h0 be⟩
theorem words_of {k k' : Str} {a e : V} (h : k ++ (" " : Str) = k') : wordsT k a e = k' ++ wr a ++ (" " : Str) ++ wr e := by
  rw [← h]
  rfl
theorem up_ : ("up" : Str) ++ (" " : Str) = ("up " : Str) := by decide +kernel
section
variable {P : Program} {w : World} {K : PySem.W.Frag} {mg : Str → Option Value} {base : Heap} {t : Adr}
/-- raise NoToken(..) -/
theorem raise_tok {E : XK} {p : Addr} {H : Hp} {C : Addr} {bm : List Value} (Y : XCls K C bm) (k : RsB p H C E) {σ : St} {D : Ends} {x : Str} : sRaise K (tMakeX0 C (tCons (tC (.str x)) tNil)) E D σ H := by
  refine ⟨(by show 1 ≤ 1000; decide), fun ea hn => ⟨ea, C, none, bm, rfl, upd_same, Y, ?_⟩⟩
  rw [upd_upd]
  refine k ea none _ ⟨upd_same, .inl ⟨rfl, rfl⟩⟩ fun b o q z => ?_
  rw [upd_ne (ne_of_none q hn)]
  exact q
theorem okS_neg {i : Int} {e : V} (h : i < 0) : ¬ okS (.int i) e := fun ⟨a, _, e1, _, h0, _⟩ => by cases e1; omega
/-! ### tokens: the code -/
theorem ok_is_whole (T : Txt K mg t) : FnOk P w K mg base CX0 1 t.a_is_whole t.d_is_whole ["thing"] sp_is_whole := by
  refine T.F_is_whole.ok sc_is_whole (fun vs H Q E h => ?_) (fun cdv A outer s H vs Q E hr h => ?_)
  · obtain ⟨x, rfl, _⟩ := h
    rfl
  · obtain ⟨x, rfl, hx, k⟩ := h
    refine ⟨_, (pss_one (ps_ret (pe_and (pe_callB call_isinst (by rfl) T.z_isinstance bt_isinstance (pa_cons (pv 0) (pa_cons (pe_bltn (v := .ty "int") (by rfl) T.z_int bt_int rfl) pa_nil))) (pe_one (pe_not (pe_callB call_isinst (by rfl) T.z_isinstance bt_isinstance (pa_cons (pv 0) (pa_cons (pe_bltn (v := .ty "bool") (by rfl) T.z_bool bt_bool rfl) pa_nil))))))))
      , ?_⟩
    cases x with
    | int i =>
      refine ⟨_, rfl, _, _, _, _, rfl, TyOf.int _, kit_ii, true, rfl, iteT ?_⟩
      exact ⟨_, rfl, _, _, _, _, rfl, TyOf.int _, kit_ib, _, rfl, k⟩
    | bl c =>
      refine ⟨_, rfl, _, _, _, _, rfl, TyOf.bl _, kit_bi, true, rfl, iteT ?_⟩
      exact ⟨_, rfl, _, _, _, _, rfl, TyOf.bl _, kit_bb, _, rfl, k⟩
    | str c => exact ⟨_, rfl, _, _, _, _, rfl, TyOf.str _, kit_si, false, rfl, iteF k⟩
    | non => exact ⟨_, rfl, _, _, _, _, rfl, TyOf.non, kit_ni, false, rfl, iteF k⟩
    | _ => exact hx.elim
theorem ok_is_from (T : Txt K mg t) : FnOk P w K mg base CX0 2 t.a_is_from t.d_is_from ["thing", "low"] sp_is_from := by
  have G_is_whole : FnOk P w K mg base CX0 1 t.a_is_whole t.d_is_whole ["thing"] sp_is_whole := ok_is_whole T
  refine T.F_is_from.ok sc_is_from (fun vs H Q E h => ?_) (fun cdv A outer s H vs Q E hr h => ?_)
  · obtain ⟨x, lo, rfl, _⟩ := h
    rfl
  · obtain ⟨x, lo, rfl, hx, k⟩ := h
    refine ⟨_, (pss_one (ps_ret (pe_and (pe_call G_is_whole (hr.mono (by decide)) (by rfl) T.m_is_whole T.F_is_whole.kp T.b_is_whole .nil pass0 (pa_cons (pv 0) pa_nil)) (pe_one (pe_cmpR op_ge (pv 0) (pv 1) (nomark _))))))
      , ?_⟩
    cases x with
    | int i => exact ⟨_, rfl, _, rfl, hx, true, rfl, iteT ⟨_, rfl, _, rfl, _, _, rfl, rfl, k⟩⟩
    | bl c => exact ⟨_, rfl, _, rfl, hx, false, rfl, iteF k⟩
    | str c => exact ⟨_, rfl, _, rfl, hx, false, rfl, iteF k⟩
    | non => exact ⟨_, rfl, _, rfl, hx, false, rfl, iteF k⟩
    | _ => exact hx.elim
theorem ok_word_of (T : Txt K mg t) : FnOk P w K mg base CX0 1 t.a_word_of t.d_word_of ["bound"] sp_word_of := by
  refine T.F_word_of.ok sc_word_of (fun vs H Q E h => ?_) (fun cdv A outer s H vs Q E hr h => ?_)
  · obtain ⟨x, rfl, _⟩ := h
    rfl
  · obtain ⟨x, rfl, hx, k⟩ := h
    refine ⟨_, (pss_one (ps_ret (pe_ifExp (pt_cmpR op_isN (pv 0) pe_non (nomark _)) pe_str (pe_callTy call_str_int (by rfl) T.z_str bt_str (pa_cons (pv 0) pa_nil)))))
      , ?_⟩
    rcases hx with rfl | ⟨i, rfl, hi⟩
    · exact ⟨_, rfl, rfl, _, rfl, iteT k⟩
    · exact ⟨_, rfl, rfl, _, rfl, iteF ⟨_, rfl, i, rfl, hi, k⟩⟩
theorem ok_Token__init (T : Txt K mg t) : FnOk P w K mg base CX0 1 t.a_Token__init t.d_Token__init ["self", "kind", "at", "end"] (sp_Token__init K) := by
  refine T.F_Token__init.ok sc_Token__init (fun vs H Q E h => ?_) (fun cdv A outer s H vs Q E hr h => ?_)
  · obtain ⟨p, C, dx, kd, a, e, rfl, _⟩ := h
    rfl
  · obtain ⟨p, C, dx, kd, a, e, rfl, hp, cl, n0, n1, n2, k⟩ := h
    refine ⟨_, (pss_cons (ps_fld (pv 0) (pv 1) rfl)
          (pss_cons (ps_fld (pv 0) (pv 2) rfl)
          (pss_one (ps_fld (pv 0) (pv 3) rfl))))
      , ?_⟩
    refine ⟨_, rfl, _, rfl, p, C, dx, [], rfl, hp, cl, n0, (by show 0 < 1000; decide), _, rfl, _, rfl, p, C, dx, _, rfl, upd_same, cl, n1, (by show 1 < 1000; decide), _, rfl, _, rfl, p, C, dx, _, rfl, upd_same, cl, n2, ?_, ?_⟩
    · have h1 := putF_len (f := "at") (v := a) (putF "kind" (.str kd) [])
      have h2 := putF_len (f := "kind") (v := .str kd) []
      have h3 : ([] : List (Str × V)).length = 0 := rfl
      omega
    rw [upd_upd, upd_upd]
    refine k _ _ (fun b o q z => by rw [upd_ne z]; exact q) upd_same ⟨?_, ?_, ?_, ?_, ?_⟩
    · rw [lookup_putF, if_neg (by decide +kernel), lookup_putF, if_neg (by decide +kernel), lookup_putF, if_pos rfl]
    · rw [lookup_putF, if_neg (by decide +kernel), lookup_putF, if_pos rfl]
    · rw [lookup_putF, if_pos rfl]
    · rw [lookup_putF, if_neg (by decide +kernel), lookup_putF, if_neg (by decide +kernel), lookup_putF, if_neg (by decide +kernel)]; rfl
    · rw [lookup_putF, if_neg (by decide +kernel), lookup_putF, if_neg (by decide +kernel), lookup_putF, if_neg (by decide +kernel)]; rfl
theorem tkN (T : Txt K mg t) {kd : Int} (h : kd = 0 ∨ kd = 1 ∨ kd = 2) : Cls K (tkC t kd) ∧ NoAttr K (tkC t kd) "kind" ∧ NoAttr K (tkC t kd) "at" ∧ NoAttr K (tkC t kd) "end" := by
  rcases h with rfl | rfl | rfl
  · exact ⟨T.cl_BySlots, T.na_BySlots_kind, T.na_BySlots_at, T.na_BySlots_end⟩
  · exact ⟨T.cl_Up, T.na_Up_kind, T.na_Up_at, T.na_Up_end⟩
  · exact ⟨T.cl_Down, T.na_Down_kind, T.na_Down_at, T.na_Down_end⟩
theorem kdS_len {kd : Int} (h : kd = 0 ∨ kd = 1 ∨ kd = 2) : (kdS kd).length ≤ 5 := by
  rcases h with rfl | rfl | rfl <;> decide +kernel
theorem ok_Token__words (T : Txt K mg t) : FnOk P w K mg base CX0 2 t.a_Token__words t.d_Token__words ["self"] (sp_Token__words t) := by
  have G_word_of : FnOk P w K mg base CX0 1 t.a_word_of t.d_word_of ["bound"] sp_word_of := ok_word_of T
  refine T.F_Token__words.ok sc_Token__words (fun vs H Q E h => ?_) (fun cdv A outer s H vs Q E hr h => ?_)
  · obtain ⟨p, dx, kd, fs, a, e, rfl, _⟩ := h
    rfl
  · obtain ⟨p, dx, kd, fs, a, e, rfl, hp, tf, ho, ba, be, q⟩ := h
    refine ⟨_, (pss_one (ps_ret (pe_bm PySem.F.plainAttrs_str PySem.F.slot_str_join PySem.F.type_str_join mt_join pe_str (pa_cons (pe_lst (pa_cons (pe_fld (pv 0) rfl) (pa_cons (pe_call G_word_of (hr.mono (by decide)) (by rfl) T.m_word_of T.F_word_of.kp T.b_word_of .nil pass0 (pa_cons (pe_fld (pv 0) rfl) pa_nil)) (pa_cons (pe_call G_word_of (hr.mono (by decide)) (by rfl) T.m_word_of T.F_word_of.kp T.b_word_of .nil pass0 (pa_cons (pe_fld (pv 0) rfl) pa_nil)) pa_nil)))) pa_nil))))
      , ?_⟩
    obtain ⟨cl, n0, n1, n2⟩ := tkN T ho.kd
    obtain ⟨fa, fe⟩ := okN.few ho ba be
    have kl := kdS_len ho.kd
    refine ⟨rfl, _, rfl, p, _, dx, fs, _, rfl, hp, cl, n0, tf.ki, _, rfl, p, _, dx, fs, _, rfl, hp, cl, n1, tf.at_, a, rfl, fa.1, _, rfl, p, _, dx, fs, _, rfl, hp, cl, n2, tf.end_, e, rfl, fe.1, (by show 3 ≤ sizeLine; decide), fun l nl => ?_⟩
    refine ⟨" ", l, [kdS kd, wr a, wr e], rfl, rfl, SqL.of upd_same, by decide +kernel, ?_, q _ (same_new nl)⟩
    have := fa.2
    have := fe.2
    simp only [List.map_cons, List.map_nil, List.sum_cons, List.sum_nil, List.length_cons, List.length_nil]
    omega
theorem isF_int {x : V} {lo : Int} (h : isF lo x = true) : ∃ i, x = .int i ∧ lo ≤ i := by
  cases x with
  | int i => exact ⟨i, rfl, of_decide_eq_true h⟩
  | _ => cases h
theorem ok_BySlots__init (T : Txt K mg t) : FnOk P w K mg base (CX1 P w) 3 t.a_BySlots__init t.d_BySlots__init ["self", "at", "end"] (sp_BySlots__init t) := by
  obtain ⟨tk_PLACES, hPLACES⟩ := T.g_PLACES
  have G_Token__init : FnOk P w K mg base CX0 1 t.a_Token__init t.d_Token__init ["self", "kind", "at", "end"] (sp_Token__init K) := ok_Token__init T
  have G_is_from : FnOk P w K mg base CX0 2 t.a_is_from t.d_is_from ["thing", "low"] sp_is_from := ok_is_from T
  refine T.F_BySlots__init.okX sc_BySlots__init (fun vs H Q E h => ?_) (fun cdv A outer s H vs Q E hr h => ?_)
  · obtain ⟨p, dx, a, e, rfl, _⟩ := h
    rfl
  · obtain ⟨p, dx, a, e, rfl, hp, sa, se, k1, k2⟩ := h
    refine ⟨_, (pss_cons (ps_if (pt_not ((pw_and (pt_val (pe_call G_is_from (hr.mono (by decide)) (by rfl) T.m_is_from T.F_is_from.kp T.b_is_from .nil pass0 (pa_cons (pv 1) (pa_cons pe_int pa_nil)))) (pw_and (pt_val (pe_call G_is_from (hr.mono (by decide)) (by rfl) T.m_is_from T.F_is_from.kp T.b_is_from .nil pass0 (pa_cons (pv 2) (pa_cons (pv 1) pa_nil)))) (pw_and1 (pt_cmpR op_le (pv 2) (pe_glob (v := .int 65536) (by rfl) hPLACES ⟨_, rfl⟩) (nomark _)))))).pt)
          (pss_one (ps_raise rfl throws1 (pe_makeX0 T.xc_NoToken T.ini_NoToken (by rfl) T.mg_NoToken (pa_cons pe_str pa_nil))))
          pss_nil)
          (pss_one (ps_expr (pe_clsm (by rfl) T.mg_Token T.of_Token_init T.F_Token__init.kp G_Token__init (hr.mono (by decide)) T.b_Token__init .nil pass0 (pa_cons (pv 0) (pa_cons pe_str (pa_cons (pv 1) (pa_cons (pv 2) pa_nil))))))))
      , ?_⟩
    refine ⟨_, rfl, a, 0, rfl, sa, _, rfl, ite2 (fun c => ?_) (fun c => ?_)⟩
    · obtain ⟨i, rfl, i0⟩ := isF_int c
      refine ⟨_, rfl, _, rfl, e, i, rfl, se, _, rfl, ite2 (fun c => ?_) (fun c => ?_)⟩
      · obtain ⟨j, rfl, ij⟩ := isF_int c
        refine ⟨_, rfl, _, _, rfl, rfl, _, rfl, ?_⟩
        by_cases cj : j ≤ 65536
        · rw [decide_eq_true cj]
          exact iteF ⟨_, rfl, _, rfl, _, rfl, p, _, dx, _, .int i, .int j, rfl, hp, T.cl_BySlots, T.na_BySlots_kind, T.na_BySlots_at, T.na_BySlots_end, fun H' fs k h f => k1 ⟨i, j, rfl, rfl, i0, ij, cj⟩ H' fs k h f⟩
        · rw [decide_eq_false cj]
          exact iteT (raise_tok T.xc_NoToken (k2 fun ⟨i', j', e1, e2, _, _, h⟩ => by cases e2; exact cj h))
      · exact iteT (raise_tok T.xc_NoToken (k2 fun ⟨i', j', e1, e2, _, h, _⟩ => c (by cases e1; rw [e2]; exact decide_eq_true h)))
    · exact iteT (raise_tok T.xc_NoToken (k2 fun ⟨i', j', e1, _, h, _⟩ => c (by rw [e1]; exact decide_eq_true h)))
theorem ok_Up__init (T : Txt K mg t) : FnOk P w K mg base (CX1 P w) 3 t.a_Up__init t.d_Up__init ["self", "at", "end"] (sp_Up__init t) := by
  have G_Token__init : FnOk P w K mg base CX0 1 t.a_Token__init t.d_Token__init ["self", "kind", "at", "end"] (sp_Token__init K) := ok_Token__init T
  have G_is_from : FnOk P w K mg base CX0 2 t.a_is_from t.d_is_from ["thing", "low"] sp_is_from := ok_is_from T
  refine T.F_Up__init.okX sc_Up__init (fun vs H Q E h => ?_) (fun cdv A outer s H vs Q E hr h => ?_)
  · obtain ⟨p, dx, a, e, rfl, _⟩ := h
    rfl
  · obtain ⟨p, dx, a, e, rfl, hp, sa, se, k1, k2⟩ := h
    refine ⟨_, (pss_cons (ps_if (pt_not ((pw_and (pt_val (pe_call G_is_from (hr.mono (by decide)) (by rfl) T.m_is_from T.F_is_from.kp T.b_is_from .nil pass0 (pa_cons (pv 1) (pa_cons pe_int pa_nil)))) (pw_and1 ((pw_or (pt_cmpR op_isN (pv 2) pe_non (nomark _)) (pw_or1 (pt_val (pe_call G_is_from (hr.mono (by decide)) (by rfl) T.m_is_from T.F_is_from.kp T.b_is_from .nil pass0 (pa_cons (pv 2) (pa_cons (pv 1) pa_nil))))))).pt))).pt)
          (pss_one (ps_raise rfl throws1 (pe_makeX0 T.xc_NoToken T.ini_NoToken (by rfl) T.mg_NoToken (pa_cons pe_str pa_nil))))
          pss_nil)
          (pss_one (ps_expr (pe_clsm (by rfl) T.mg_Token T.of_Token_init T.F_Token__init.kp G_Token__init (hr.mono (by decide)) T.b_Token__init .nil pass0 (pa_cons (pv 0) (pa_cons pe_str (pa_cons (pv 1) (pa_cons (pv 2) pa_nil))))))))
      , ?_⟩
    refine ⟨_, rfl, a, 0, rfl, sa, _, rfl, ite2 (fun c => ?_) (fun c => ?_)⟩
    · obtain ⟨i, rfl, i0⟩ := isF_int c
      have fin : okU (.int i) e → sp_Token__init K [.ref p, .str "up", .int i, e] H (fun _ H' => Q .non H') E0 := fun ok => ⟨p, _, dx, "up", .int i, e, rfl, hp, T.cl_Up, T.na_Up_kind, T.na_Up_at, T.na_Up_end, fun H' fs k h f => k1 ok H' fs k h f⟩
      by_cases ce : e = .non
      · exact ⟨_, rfl, rfl, _, rfl, iteE ce (iteF ⟨_, rfl, _, rfl, _, rfl, fin ⟨i, rfl, i0, .inl ce⟩⟩)⟩
      · refine ⟨_, rfl, rfl, _, rfl, iteND ce ⟨_, rfl, _, rfl, e, i, rfl, se, _, rfl, ?_⟩⟩
        cases ci : isF i e with
        | true =>
          obtain ⟨j, rfl, ij⟩ := isF_int ci
          exact iteF ⟨_, rfl, _, rfl, _, rfl, fin ⟨i, rfl, i0, .inr ⟨j, rfl, ij⟩⟩⟩
        | false =>
          refine iteT (raise_tok T.xc_NoToken (k2 fun ⟨i', e1, _, e2⟩ => ?_))
          cases e1
          rcases e2 with e2 | ⟨j', e2, h⟩
          · exact ce e2
          · rw [e2] at ci
            exact of_decide_eq_false ci h
    · exact iteT (raise_tok T.xc_NoToken (k2 fun ⟨i', e1, h, _⟩ => c (by rw [e1]; exact decide_eq_true h)))
theorem ok_Down__init (T : Txt K mg t) : FnOk P w K mg base (CX1 P w) 3 t.a_Down__init t.d_Down__init ["self", "at", "end"] (sp_Down__init t) := by
  have G_Token__init : FnOk P w K mg base CX0 1 t.a_Token__init t.d_Token__init ["self", "kind", "at", "end"] (sp_Token__init K) := ok_Token__init T
  have G_is_from : FnOk P w K mg base CX0 2 t.a_is_from t.d_is_from ["thing", "low"] sp_is_from := ok_is_from T
  refine T.F_Down__init.okX sc_Down__init (fun vs H Q E h => ?_) (fun cdv A outer s H vs Q E hr h => ?_)
  · obtain ⟨p, dx, a, e, rfl, _⟩ := h
    rfl
  · obtain ⟨p, dx, a, e, rfl, hp, sa, se, k1, k2⟩ := h
    refine ⟨_, (pss_cons (ps_if (pt_not ((pw_and (pt_val (pe_call G_is_from (hr.mono (by decide)) (by rfl) T.m_is_from T.F_is_from.kp T.b_is_from .nil pass0 (pa_cons (pv 2) (pa_cons pe_int pa_nil)))) (pw_and1 ((pw_or (pt_cmpR op_isN (pv 1) pe_non (nomark _)) (pw_or1 (pt_val (pe_call G_is_from (hr.mono (by decide)) (by rfl) T.m_is_from T.F_is_from.kp T.b_is_from .nil pass0 (pa_cons (pv 1) (pa_cons (pv 2) pa_nil))))))).pt))).pt)
          (pss_one (ps_raise rfl throws1 (pe_makeX0 T.xc_NoToken T.ini_NoToken (by rfl) T.mg_NoToken (pa_cons pe_str pa_nil))))
          pss_nil)
          (pss_one (ps_expr (pe_clsm (by rfl) T.mg_Token T.of_Token_init T.F_Token__init.kp G_Token__init (hr.mono (by decide)) T.b_Token__init .nil pass0 (pa_cons (pv 0) (pa_cons pe_str (pa_cons (pv 1) (pa_cons (pv 2) pa_nil))))))))
      , ?_⟩
    refine ⟨_, rfl, e, 0, rfl, se, _, rfl, ite2 (fun c => ?_) (fun c => ?_)⟩
    · obtain ⟨j, rfl, j0⟩ := isF_int c
      have fin : okD a (.int j) → sp_Token__init K [.ref p, .str "down", a, .int j] H (fun _ H' => Q .non H') E0 := fun ok => ⟨p, _, dx, "down", a, .int j, rfl, hp, T.cl_Down, T.na_Down_kind, T.na_Down_at, T.na_Down_end, fun H' fs k h f => k1 ok H' fs k h f⟩
      by_cases ce : a = .non
      · exact ⟨_, rfl, rfl, _, rfl, iteE ce (iteF ⟨_, rfl, _, rfl, _, rfl, fin ⟨j, rfl, j0, .inl ce⟩⟩)⟩
      · refine ⟨_, rfl, rfl, _, rfl, iteND ce ⟨_, rfl, _, rfl, a, j, rfl, sa, _, rfl, ?_⟩⟩
        cases ci : isF j a with
        | true =>
          obtain ⟨i, rfl, ij⟩ := isF_int ci
          exact iteF ⟨_, rfl, _, rfl, _, rfl, fin ⟨j, rfl, j0, .inr ⟨i, rfl, ij⟩⟩⟩
        | false =>
          refine iteT (raise_tok T.xc_NoToken (k2 fun ⟨j', e1, _, e2⟩ => ?_))
          cases e1
          rcases e2 with e2 | ⟨i', e2, h⟩
          · exact ce e2
          · rw [e2] at ci
            exact of_decide_eq_false ci h
    · exact iteT (raise_tok T.xc_NoToken (k2 fun ⟨j', e1, h, _⟩ => c (by rw [e1]; exact decide_eq_true h)))
def sp__law_cell_at (K : PySem.W.Frag) : Sp := fun vs H Q _ => ∃ (a : Addr) (ns : List Int) (k : Int), vs = [.ref a, .int k] ∧ SqL K H a (ns.map V.int) ∧ 0 ≤ k ∧ Q (.int (ns.getD k.toNat 0)) H
theorem ok__law_cell_at (T : Txt K mg t) : FnOk P w K mg base CX0 1 t.a__law_cell_at t.d__law_cell_at ["_law_script", "_law_k"] (sp__law_cell_at K) := by
  refine T.F__law_cell_at.ok sc__law_cell_at (fun vs H Q E h => ?_) (fun cdv A outer s H vs Q E hr h => ?_)
  · obtain ⟨a, ns, i, rfl, _⟩ := h
    rfl
  · obtain ⟨a, ns, i, rfl, hS, h0, k⟩ := h
    refine ⟨_, (pss_cons (ps_if (pt_cmpR op_lt (pv 1) (pe_callB call_len_seq (by rfl) T.z_len bt_len (pa_cons (pv 0) pa_nil)) (nomark _))
          (pss_one (ps_ret (pe_ix ix_list (pv 0) (pv 1) (fun _ _ => rfl))))
          pss_nil)
          (pss_one (ps_ret pe_int)))
      , ?_⟩
    refine ⟨_, rfl, _, rfl, a, _, rfl, .inl hS, _, _, rfl, rfl, _, rfl, ?_⟩
    refine ite2 (fun c => ?_) (fun c => ?_)
    · have c := of_decide_eq_true c
      rw [List.length_map] at c
      exact ⟨_, rfl, _, rfl, a, _, _, _, rfl, rfl, hS, cell_atI h0 c, k⟩
    · have c : ¬ i < ((ns.map V.int).length : Int) := fun z => c (decide_eq_true z)
      rw [List.length_map] at c
      rw [cell_out c] at k
      exact k
/-! ### the law -/
def sp__law_made (t : Adr) : Sp := fun vs H _ E => ∃ way low high : Int, vs = [.int way, .int low, .int high] ∧ 0 ≤ low ∧ 0 ≤ high ∧ 0 ≤ way ∧ way < 14 ∧ Rs H t.c_NoToken [] E
/-- a token that is none: the constructor raises -/
theorem no_tok {C N : Addr} {kd : Str} {ok : V → V → Prop} {a e : V} {H : Hp} {Q : VK} {E : XK} (sa : Sc a) (se : Sc e) (hn : ¬ ok a e) (k : Rs H N [] E) (x dx : Addr) (nx : H x = none) (nd : H dx = none) (ne : dx ≠ x) :
    spTok C N kd ok [.ref x, a, e] (upd (upd H dx (.own x)) x (.ins C dx [])) Q E := by
  exact ⟨x, dx, a, e, rfl, upd_same, sa, se, fun z => absurd z hn, fun _ ea od H' h1 h2 => k ea od H' h1 (same_keep nx nd h2)⟩
theorem ok__law_made (T : Txt K mg t) : FnOk P w K mg base (CX1 P w) 5 t.a__law_made t.d__law_made ["_law_way", "_law_low", "_law_high"] (sp__law_made t) := by
  have G_BySlots__init : FnOk P w K mg base (CX1 P w) 3 t.a_BySlots__init t.d_BySlots__init ["self", "at", "end"] (sp_BySlots__init t) := ok_BySlots__init T
  have G_Down__init : FnOk P w K mg base (CX1 P w) 3 t.a_Down__init t.d_Down__init ["self", "at", "end"] (sp_Down__init t) := ok_Down__init T
  have G_Up__init : FnOk P w K mg base (CX1 P w) 3 t.a_Up__init t.d_Up__init ["self", "at", "end"] (sp_Up__init t) := ok_Up__init T
  refine T.F__law_made.okX sc__law_made (fun vs H Q E h => ?_) (fun cdv A outer s H vs Q E hr h => ?_)
  · obtain ⟨way, low, high, rfl, _⟩ := h
    rfl
  · obtain ⟨way, low, high, rfl, h1, h2, h3, h4, k⟩ := h
    refine ⟨_, (pss_cons (ps_if (pt_cmpR op_eq (pv 0) pe_int (nomark _))
          (pss_one (ps_ret (pe_make T.mk_BySlots G_BySlots__init (hr.mono (by decide)) (by rfl) T.mg_BySlots T.b_BySlots__init .nil pass1 (pa_cons (pe_op op_sub (pe_op op_sub pe_int pe_int) (pv 1)) (pa_cons pe_int pa_nil)))))
          pss_nil)
          (pss_cons (ps_if (pt_cmpR op_eq (pv 0) pe_int (nomark _))
          (pss_one (ps_ret (pe_make T.mk_BySlots G_BySlots__init (hr.mono (by decide)) (by rfl) T.mg_BySlots T.b_BySlots__init .nil pass1 (pa_cons pe_int (pa_cons (pe_op op_add pe_int (pv 2)) pa_nil)))))
          pss_nil)
          (pss_cons (ps_if (pt_cmpR op_eq (pv 0) pe_int (nomark _))
          (pss_one (ps_ret (pe_make T.mk_BySlots G_BySlots__init (hr.mono (by decide)) (by rfl) T.mg_BySlots T.b_BySlots__init .nil pass1 (pa_cons (pe_op op_add pe_int (pe_op op_mod (pv 1) pe_int)) (pa_cons (pe_op op_mod (pv 1) pe_int) pa_nil)))))
          pss_nil)
          (pss_cons (ps_if (pt_cmpR op_eq (pv 0) pe_int (nomark _))
          (pss_one (ps_ret (pe_make T.mk_BySlots G_BySlots__init (hr.mono (by decide)) (by rfl) T.mg_BySlots T.b_BySlots__init .nil pass1 (pa_cons pe_bl (pa_cons pe_int pa_nil)))))
          pss_nil)
          (pss_cons (ps_if (pt_cmpR op_eq (pv 0) pe_int (nomark _))
          (pss_one (ps_ret (pe_make T.mk_BySlots G_BySlots__init (hr.mono (by decide)) (by rfl) T.mg_BySlots T.b_BySlots__init .nil pass1 (pa_cons pe_int (pa_cons pe_non pa_nil)))))
          pss_nil)
          (pss_cons (ps_if (pt_cmpR op_eq (pv 0) pe_int (nomark _))
          (pss_one (ps_ret (pe_make T.mk_Up G_Up__init (hr.mono (by decide)) (by rfl) T.mg_Up T.b1_Up__init.choose_spec.1 T.b1_Up__init.choose_spec.2 pass1 (pa_cons (pe_op op_sub (pe_op op_sub pe_int pe_int) (pv 1)) pa_nil))))
          pss_nil)
          (pss_cons (ps_if (pt_cmpR op_eq (pv 0) pe_int (nomark _))
          (pss_one (ps_ret (pe_make T.mk_Up G_Up__init (hr.mono (by decide)) (by rfl) T.mg_Up T.b_Up__init .nil pass1 (pa_cons (pe_op op_add (pe_op op_add (pv 1) pe_int) (pv 2)) (pa_cons (pv 1) pa_nil)))))
          pss_nil)
          (pss_cons (ps_if (pt_cmpR op_eq (pv 0) pe_int (nomark _))
          (pss_one (ps_ret (pe_make T.mk_Up G_Up__init (hr.mono (by decide)) (by rfl) T.mg_Up T.b_Up__init .nil pass1 (pa_cons pe_str (pa_cons pe_non pa_nil)))))
          pss_nil)
          (pss_cons (ps_if (pt_cmpR op_eq (pv 0) pe_int (nomark _))
          (pss_one (ps_ret (pe_make T.mk_Up G_Up__init (hr.mono (by decide)) (by rfl) T.mg_Up T.b_Up__init .nil pass1 (pa_cons pe_non (pa_cons (pv 2) pa_nil)))))
          pss_nil)
          (pss_cons (ps_if (pt_cmpR op_eq (pv 0) pe_int (nomark _))
          (pss_one (ps_ret (pe_make T.mk_Up G_Up__init (hr.mono (by decide)) (by rfl) T.mg_Up T.b_Up__init .nil pass1 (pa_cons pe_int (pa_cons (pe_op op_sub (pe_op op_sub pe_int pe_int) (pv 2)) pa_nil)))))
          pss_nil)
          (pss_cons (ps_if (pt_cmpR op_eq (pv 0) pe_int (nomark _))
          (pss_one (ps_ret (pe_make T.mk_Down G_Down__init (hr.mono (by decide)) (by rfl) T.mg_Down T.b_Down__init .nil pass1 (pa_cons (pv 1) (pa_cons (pe_op op_add (pe_op op_add (pv 1) pe_int) (pv 2)) pa_nil)))))
          pss_nil)
          (pss_cons (ps_if (pt_cmpR op_eq (pv 0) pe_int (nomark _))
          (pss_one (ps_ret (pe_make T.mk_Down G_Down__init (hr.mono (by decide)) (by rfl) T.mg_Down T.b_Down__init .nil pass1 (pa_cons pe_non (pa_cons (pe_op op_sub (pe_op op_sub pe_int pe_int) (pv 1)) pa_nil)))))
          pss_nil)
          (pss_cons (ps_if (pt_cmpR op_eq (pv 0) pe_int (nomark _))
          (pss_one (ps_ret (pe_make T.mk_Down G_Down__init (hr.mono (by decide)) (by rfl) T.mg_Down T.b_Down__init .nil pass1 (pa_cons (pv 2) (pa_cons pe_non pa_nil)))))
          pss_nil)
          (pss_one (ps_ret (pe_make T.mk_Down G_Down__init (hr.mono (by decide)) (by rfl) T.mg_Down T.b_Down__init .nil pass1 (pa_cons pe_bl (pa_cons pe_int pa_nil))))))))))))))))))
      , ?_⟩
    have c : way = 0 ∨ way = 1 ∨ way = 2 ∨ way = 3 ∨ way = 4 ∨ way = 5 ∨ way = 6 ∨ way = 7 ∨ way = 8 ∨ way = 9 ∨ way = 10 ∨ way = 11 ∨ way = 12 ∨ way = 13 := by omega
    have no : ∀ {x y : Int} {A B : Prop}, x ≠ y → B → if decide (V.int x = V.int y) = true then A else B := fun h b => iteND (ne_int h) b
    rcases c with rfl | rfl | rfl | rfl | rfl | rfl | rfl | rfl | rfl | rfl | rfl | rfl | rfl | rfl
    · refine ⟨_, rfl, rfl, _, rfl, iteD rfl ⟨_, _, rfl, rfl, _, rfl, _, _, rfl, rfl, fun x dx nx nd ne => no_tok (T0 _) (T0 _) (okS_neg (by omega)) k x dx nx nd ne⟩⟩
    · refine ⟨_, rfl, rfl, _, rfl, no (by decide) ⟨_, rfl, rfl, _, rfl, iteD rfl ?_⟩⟩
      refine ⟨_, rfl, _, _, rfl, rfl, fun x dx nx nd ne => no_tok (T0 _) (T0 _) (fun ⟨a, b, e1, e2, _, _, h⟩ => ?_) k x dx nx nd ne⟩
      cases e1; cases e2; omega
    · refine ⟨_, rfl, rfl, _, rfl, no (by decide) ⟨_, rfl, rfl, _, rfl, no (by decide) ⟨_, rfl, rfl, _, rfl, iteD rfl ?_⟩⟩⟩
      refine ⟨_, rfl, _, _, rfl, rfl, (by show (0 : Int) < 65536; decide), _, _, rfl, rfl, _, rfl, _, _, rfl, rfl, (by show (0 : Int) < 65536; decide), fun x dx nx nd ne => no_tok (T0 _) (T0 _) (fun ⟨a, b, e1, e2, _, h, _⟩ => ?_) k x dx nx nd ne⟩
      cases e1; cases e2; omega
    · iterate 3 refine ⟨_, rfl, rfl, _, rfl, no (by decide) ?_⟩
      refine ⟨_, rfl, rfl, _, rfl, iteD rfl ?_⟩
      refine fun x dx nx nd ne => no_tok sc_bl (T0 _) (fun h => ?_) k x dx nx nd ne
      obtain ⟨a, b, e1, _⟩ := h; cases e1
    · iterate 4 refine ⟨_, rfl, rfl, _, rfl, no (by decide) ?_⟩
      refine ⟨_, rfl, rfl, _, rfl, iteD rfl ?_⟩
      refine fun x dx nx nd ne => no_tok (T0 _) sc_non (fun h => ?_) k x dx nx nd ne
      obtain ⟨a, b, _, e2, _⟩ := h; cases e2
    · iterate 5 refine ⟨_, rfl, rfl, _, rfl, no (by decide) ?_⟩
      refine ⟨_, rfl, rfl, _, rfl, iteD rfl ?_⟩
      refine ⟨_, _, rfl, rfl, _, rfl, _, _, rfl, rfl, fun x dx nx nd ne => no_tok (T0 _) sc_non (fun h => ?_) k x dx nx nd ne⟩
      obtain ⟨a, e1, h0, _⟩ := h; cases e1; omega
    · iterate 6 refine ⟨_, rfl, rfl, _, rfl, no (by decide) ?_⟩
      refine ⟨_, rfl, rfl, _, rfl, iteD rfl ?_⟩
      refine ⟨_, rfl, _, _, rfl, rfl, _, rfl, _, _, rfl, rfl, _, rfl, fun x dx nx nd ne => no_tok (T0 _) (T0 _) (fun h => ?_) k x dx nx nd ne⟩
      obtain ⟨a, e1, h0, e2 | ⟨b, e2, h3⟩⟩ := h; (cases e2); (cases e1; cases e2; omega)
    · iterate 7 refine ⟨_, rfl, rfl, _, rfl, no (by decide) ?_⟩
      refine ⟨_, rfl, rfl, _, rfl, iteD rfl ?_⟩
      refine fun x dx nx nd ne => no_tok sc_str sc_non (fun h => ?_) k x dx nx nd ne
      obtain ⟨a, e1, _⟩ := h; cases e1
    · iterate 8 refine ⟨_, rfl, rfl, _, rfl, no (by decide) ?_⟩
      refine ⟨_, rfl, rfl, _, rfl, iteD rfl ?_⟩
      refine ⟨_, rfl, fun x dx nx nd ne => no_tok sc_non (T0 _) (fun h => ?_) k x dx nx nd ne⟩
      obtain ⟨a, e1, _⟩ := h; cases e1
    · iterate 9 refine ⟨_, rfl, rfl, _, rfl, no (by decide) ?_⟩
      refine ⟨_, rfl, rfl, _, rfl, iteD rfl ?_⟩
      refine ⟨_, _, rfl, rfl, _, rfl, _, _, rfl, rfl, fun x dx nx nd ne => no_tok (T0 _) (T0 _) (fun h => ?_) k x dx nx nd ne⟩
      obtain ⟨a, e1, h0, e2 | ⟨b, e2, h3⟩⟩ := h; (cases e2); (cases e1; cases e2; omega)
    · iterate 10 refine ⟨_, rfl, rfl, _, rfl, no (by decide) ?_⟩
      refine ⟨_, rfl, rfl, _, rfl, iteD rfl ?_⟩
      refine ⟨_, rfl, _, rfl, _, _, rfl, rfl, _, rfl, _, _, rfl, rfl, fun x dx nx nd ne => no_tok (T0 _) (T0 _) (fun h => ?_) k x dx nx nd ne⟩
      obtain ⟨b, e2, h0, e1 | ⟨a, e1, h3⟩⟩ := h; (cases e1); (cases e1; cases e2; omega)
    · iterate 11 refine ⟨_, rfl, rfl, _, rfl, no (by decide) ?_⟩
      refine ⟨_, rfl, rfl, _, rfl, iteD rfl ?_⟩
      refine ⟨_, _, rfl, rfl, _, rfl, _, _, rfl, rfl, fun x dx nx nd ne => no_tok sc_non (T0 _) (fun h => ?_) k x dx nx nd ne⟩
      obtain ⟨b, e2, h0, _⟩ := h; cases e2; omega
    · iterate 12 refine ⟨_, rfl, rfl, _, rfl, no (by decide) ?_⟩
      refine ⟨_, rfl, rfl, _, rfl, iteD rfl ?_⟩
      refine ⟨_, rfl, fun x dx nx nd ne => no_tok (T0 _) sc_non (fun h => ?_) k x dx nx nd ne⟩
      obtain ⟨b, e2, _⟩ := h; cases e2
    · iterate 13 refine ⟨_, rfl, rfl, _, rfl, no (by decide) ?_⟩
      refine fun x dx nx nd ne => no_tok sc_bl (T0 _) (fun h => ?_) k x dx nx nd ne
      obtain ⟨b, e2, h0, e1 | ⟨a, e1, h3⟩⟩ := h; (cases e1); (cases e1)
def sp__law_refused : Sp := fun vs H Q _ => ∃ way low high : Int, vs = [.int way, .int low, .int high] ∧ 0 ≤ low ∧ 0 ≤ high ∧ 0 ≤ way ∧ way < 14 ∧ ∀ H', Same H H' → Q (.bl true) H'
theorem ok__law_refused (T : Txt K mg t) : FnOk P w K mg base CX0 6 t.a__law_refused t.d__law_refused ["_law_way", "_law_low", "_law_high"] sp__law_refused := by
  have G__law_made : FnOk P w K mg base (CX1 P w) 5 t.a__law_made t.d__law_made ["_law_way", "_law_low", "_law_high"] (sp__law_made t) := ok__law_made T
  refine T.F__law_refused.ok sc__law_refused (fun vs H Q E h => ?_) (fun cdv A outer s H vs Q E hr h => ?_)
  · obtain ⟨way, low, high, rfl, _⟩ := h
    rfl
  · obtain ⟨way, low, high, rfl, h1, h2, h3, h4, k⟩ := h
    refine ⟨_, (pss_cons (ps_set (i := 3) sc__law_refused.nd rfl (Or.inl rfl) pe_bl)
          (pss_cons (ps_try rfl rfl (fun pn E => (pss_one (ps_expr (pe_callT G__law_made (hr.mono (by decide)) (by rfl) T.m__law_made T.F__law_made.kp T.b__law_made .nil passT (pa_cons (pv 0) (pa_cons (pv 1) (pa_cons (pv 2) pa_nil)))))))
          (ph_as (i := 4) sc__law_refused.nd rfl rfl (by rfl) T.mg_NoToken T.xc_NoToken (fun ea => (pss_cons (ps_set (i := 5) sc__law_refused.nd rfl (Or.inl rfl) (pe_or (pe_callB (call_isinstXO K rfl) (by rfl) T.z_isinstance bt_isinstance (pa_cons (pv 4) (pa_cons (pe_glob (v := .ref t.c_NoPart) (by rfl) T.mg_NoPart rfl) pa_nil))) (pe_or (pe_callB (call_isinstXO K rfl) (by rfl) T.z_isinstance bt_isinstance (pa_cons (pv 4) (pa_cons (pe_glob (v := .ref t.c_NoKey) (by rfl) T.mg_NoKey rfl) pa_nil))) (pe_one (pe_callB (call_isinstXO K rfl) (by rfl) T.z_isinstance bt_isinstance (pa_cons (pv 4) (pa_cons (pe_glob (v := .ref t.c_NoText) (by rfl) T.mg_NoText rfl) pa_nil)))))))
          (pss_one (ps_set (i := 3) sc__law_refused.nd rfl (Or.inl rfl) (pe_and (pe_callB (call_isinstXO K rfl) (by rfl) T.z_isinstance bt_isinstance (pa_cons (pv 4) (pa_cons (pe_glob (v := .ref t.c_WalkError) (by rfl) T.mg_WalkError rfl) pa_nil))) (pe_and (pe_callB (call_isinstXT K rfl) (by rfl) T.z_isinstance bt_isinstance (pa_cons (pv 4) (pa_cons (pe_bltn (v := .ty "ValueError") (by rfl) T.z_ValueError bt_ValueError rfl) pa_nil))) (pe_one (pe_not (pv 5))))))))) ph_none))
          (pss_one (ps_ret (pv 3)))))
      , ?_⟩
    refine ⟨_, rfl, _, rfl, _, rfl, way, low, high, rfl, h1, h2, h3, h4, fun ea od H' hx hs => ⟨ea, t.c_NoToken, rfl, hx.1, _, true, T.xc_NoToken, T.su_NoToken_NoToken, iteT ?_⟩⟩
    refine ⟨_, rfl, ea, od, _, _, _, _, _, rfl, hx, T.xc_NoToken, T.xi_NoToken, kit_own T.xc_NoToken T.xc_NoPart T.su_NoToken_NoPart, false, rfl, iteF ?_⟩
    refine ⟨_, rfl, ea, od, _, _, _, _, _, rfl, hx, T.xc_NoToken, T.xi_NoToken, kit_own T.xc_NoToken T.xc_NoKey T.su_NoToken_NoKey, false, rfl, iteF ?_⟩
    refine ⟨_, rfl, ea, od, _, _, _, _, _, rfl, hx, T.xc_NoToken, T.xi_NoToken, kit_own T.xc_NoToken T.xc_NoText T.su_NoToken_NoText, ?_⟩
    refine ⟨_, rfl, ea, od, _, _, _, _, _, rfl, hx, T.xc_NoToken, T.xi_NoToken, kit_own T.xc_NoToken T.xc_WalkError T.su_NoToken_WalkError, true, rfl, iteT ?_⟩
    refine ⟨_, rfl, ea, od, _, _, _, _, _, rfl, hx, T.xc_NoToken, T.xi_NoToken, kit_val T.xc_NoToken, true, rfl, iteT ?_⟩
    exact ⟨_, rfl, _, rfl, _, rfl, k H' hs⟩
theorem ten39 : (0 : Int) < 10 ^ (39 : Int).toNat := by decide
set_option exponentiation.threshold 2000 in
theorem toStr_log {i : Int} (h0 : 0 ≤ i) (h1 : i < 10 ^ 40) : i.natAbs.log2 < 1920 := by
  rcases Nat.eq_zero_or_pos i.natAbs with z | z
  · rw [z]; decide
  · refine (Nat.log2_lt (Nat.ne_of_gt z)).mpr ?_
    have : i.natAbs < 10 ^ 40 := by omega
    exact Nat.lt_trans this (Nat.lt_of_lt_of_le (show 10 ^ 40 < 2 ^ 200 by decide) (Nat.pow_le_pow_right (by decide) (by decide)))
theorem num_len {i : Int} (h0 : 0 ≤ i) (h1 : i < 10 ^ 40) : (Str.ofString (toString i)).length ≤ 41 := by
  have h : (toString i).length ≤ 40 + 1 := PySem.int_text_length_le10 (by decide) (by omega)
  rw [Str.ofString_eq_toList]
  show ((toString i).toList.map Char.toNat).toArray.size ≤ 41
  rw [List.size_toArray, List.length_map]
  exact h
def sp_law (K : PySem.W.Frag) : Sp := fun vs H Q _ => ∃ (a : Addr) (ns : List Int), vs = [.ref a] ∧ SqL K H a (ns.map V.int) ∧ ns.length ≤ 63 ∧ ∀ H', Q (.bl true) H'
theorem ok_law (T : Txt K mg t) : FnOk P w K mg base CX0 7 t.a_law t.d_law ["_law_script"] (sp_law K) := by
  have G_Token__words : FnOk P w K mg base CX0 2 t.a_Token__words t.d_Token__words ["self"] (sp_Token__words t) := ok_Token__words T
  have G_Up__init : FnOk P w K mg base (CX1 P w) 3 t.a_Up__init t.d_Up__init ["self", "at", "end"] (sp_Up__init t) := ok_Up__init T
  have G__law_cell_at : FnOk P w K mg base CX0 1 t.a__law_cell_at t.d__law_cell_at ["_law_script", "_law_k"] (sp__law_cell_at K) := ok__law_cell_at T
  have G__law_refused : FnOk P w K mg base CX0 6 t.a__law_refused t.d__law_refused ["_law_way", "_law_low", "_law_high"] sp__law_refused := ok__law_refused T
  refine T.F_law.ok sc_law (fun vs H Q E h => ?_) (fun cdv A outer s H vs Q E hr h => ?_)
  · obtain ⟨a, ns, rfl, _⟩ := h
    rfl
  · obtain ⟨a, ns, rfl, hS, hlen, k⟩ := h
    refine ⟨_, (pss_cons (ps_set (i := 1) sc_law.nd rfl (Or.inl rfl) (pe_op op_mod (pe_call G__law_cell_at (hr.mono (by decide)) (by rfl) T.m__law_cell_at T.F__law_cell_at.kp T.b__law_cell_at .nil pass0 (pa_cons (pv 0) (pa_cons pe_int pa_nil))) pe_int))
          (pss_cons (ps_set (i := 2) sc_law.nd rfl (Or.inl rfl) (pe_op op_mod (pe_call G__law_cell_at (hr.mono (by decide)) (by rfl) T.m__law_cell_at T.F__law_cell_at.kp T.b__law_cell_at .nil pass0 (pa_cons (pv 0) (pa_cons pe_int pa_nil))) pe_int))
          (pss_cons (ps_if (pt_cmpR op_eq (pe_op op_mod (pe_call G__law_cell_at (hr.mono (by decide)) (by rfl) T.m__law_cell_at T.F__law_cell_at.kp T.b__law_cell_at .nil pass0 (pa_cons (pv 0) (pa_cons pe_int pa_nil))) pe_int) pe_int (nomark _))
          (pss_cons (ps_set (i := 1) sc_law.nd rfl (Or.inl rfl) (pe_op op_mod (pe_call G__law_cell_at (hr.mono (by decide)) (by rfl) T.m__law_cell_at T.F__law_cell_at.kp T.b__law_cell_at .nil pass0 (pa_cons (pv 0) (pa_cons pe_int pa_nil))) (pe_op op_pow pe_int pe_int)))
          (pss_one (ps_set (i := 2) sc_law.nd rfl (Or.inl rfl) (pe_op op_mod (pe_call G__law_cell_at (hr.mono (by decide)) (by rfl) T.m__law_cell_at T.F__law_cell_at.kp T.b__law_cell_at .nil pass0 (pa_cons (pv 0) (pa_cons pe_int pa_nil))) (pe_op op_pow pe_int pe_int)))))
          pss_nil)
          (pss_cons (ps_set (i := 3) sc_law.nd rfl (Or.inl rfl) (pe_op op_mod (pe_op op_fdiv (pe_call G__law_cell_at (hr.mono (by decide)) (by rfl) T.m__law_cell_at T.F__law_cell_at.kp T.b__law_cell_at .nil pass0 (pa_cons (pv 0) (pa_cons pe_int pa_nil))) pe_int) pe_int))
          (pss_cons (ps_if ((pw_or (pt_not (pt_val (pe_call G__law_refused (hr.mono (by decide)) (by rfl) T.m__law_refused T.F__law_refused.kp T.b__law_refused .nil pass0 (pa_cons (pv 3) (pa_cons (pv 1) (pa_cons (pv 2) pa_nil)))))) (pw_or1 (pt_not (pt_val (pe_call G__law_refused (hr.mono (by decide)) (by rfl) T.m__law_refused T.F__law_refused.kp T.b__law_refused .nil pass0 (pa_cons (pv 3) (pa_cons (pv 1) (pa_cons (pv 2) pa_nil))))))))).pt
          (pss_one (ps_ret pe_bl))
          pss_nil)
          (pss_one (ps_ret (pe_cmpR op_eq (pe_meth0 (pe_make T.mk_Up G_Up__init (hr.mono (by decide)) (by rfl) T.mg_Up T.b_Up__init .nil pass01 (pa_cons (pv 1) (pa_cons (pe_op op_add (pv 1) (pv 2)) pa_nil))) T.cl_Up T.me_Up_words G_Token__words (hr.mono (by decide)) T.b_Token__words .nil pass0) (pe_op op_add_str (pe_op op_add_str (pe_op op_add_str pe_str (pe_callTy call_str_int (by rfl) T.z_str bt_str (pa_cons (pv 1) pa_nil))) pe_str) (pe_callTy call_str_int (by rfl) T.z_str bt_str (pa_cons (pe_op op_add (pv 1) (pv 2)) pa_nil))) (nomark _)))))))))
      , ?_⟩
    have e0 : ∀ z : Int, 0 ≤ z % 70000 ∧ z % 70000 < 10 ^ 39 := fun z => ⟨Int.emod_nonneg _ (by decide), Int.lt_trans (Int.emod_lt_of_pos _ (by decide)) (by decide)⟩
    refine ⟨_, rfl, a, ns, _, rfl, hS, by decide, _, _, rfl, rfl, (by show (0 : Int) < 70000; decide), _, rfl, a, ns, _, rfl, hS, by decide, _, _, rfl, rfl, (by show (0 : Int) < 70000; decide), ?_⟩
    have w0 : 0 ≤ ns.getD (0 : Int).toNat 0 / 2 % 14 := Int.emod_nonneg _ (by decide)
    have w1 : ns.getD (0 : Int).toNat 0 / 2 % 14 < 14 := Int.emod_lt_of_pos _ (by decide)
    have f0 : ∀ z : Int, 0 ≤ z % 10 ^ (39 : Int).toNat ∧ z % 10 ^ (39 : Int).toNat < 10 ^ 39 := fun z => ⟨Int.emod_nonneg _ (by decide), Int.emod_lt_of_pos _ (by decide)⟩
    refine ⟨_, rfl, a, ns, _, rfl, hS, by decide, _, _, rfl, rfl, (by show (0 : Int) < 2; decide), rfl, _, rfl, ite2 (fun c => ?A) (fun c => ?B)⟩
    case' A =>
      refine ⟨_, rfl, a, ns, _, rfl, hS, by decide, _, _, rfl, rfl, ⟨by decide, by decide, by decide⟩, _, _, rfl, rfl, ten39, _, rfl, a, ns, _, rfl, hS, by decide, _, _, rfl, rfl, ⟨by decide, by decide, by decide⟩, _, _, rfl, rfl, ten39, ?_⟩
      obtain ⟨a0, a1⟩ := f0 (ns.getD (1 : Int).toNat 0)
      obtain ⟨b0, b1⟩ := f0 (ns.getD (2 : Int).toNat 0)
      (try dsimp only)
      generalize ns.getD (1 : Int).toNat 0 % 10 ^ (39 : Int).toNat = lo at a0 a1 ⊢
      generalize ns.getD (2 : Int).toNat 0 % 10 ^ (39 : Int).toNat = hi at b0 b1 ⊢
    case' B =>
      obtain ⟨a0, a1⟩ := e0 (ns.getD (1 : Int).toNat 0)
      obtain ⟨b0, b1⟩ := e0 (ns.getD (2 : Int).toNat 0)
      (try dsimp only)
      generalize ns.getD (1 : Int).toNat 0 % 70000 = lo at a0 a1 ⊢
      generalize ns.getD (2 : Int).toNat 0 % 70000 = hi at b0 b1 ⊢
    all_goals
      refine ⟨_, rfl, a, ns, _, rfl, hS, by decide, _, _, rfl, rfl, ⟨by decide, by decide⟩, _, _, rfl, rfl, (by show (0 : Int) < 14; decide), ?_⟩
      (try dsimp only)
      generalize ns.getD (0 : Int).toNat 0 / 2 % 14 = way at w0 w1 ⊢
      refine ⟨_, rfl, _, rfl, _, rfl, way, lo, hi, rfl, a0, b0, w0, w1, fun H1 s1 => ⟨_, rfl, iteF ⟨_, rfl, _, rfl, _, rfl, way, lo, hi, rfl, a0, b0, w0, w1, fun H2 s2 => ⟨_, rfl, iteF ?_⟩⟩⟩⟩
      refine ⟨_, rfl, _, rfl, _, rfl, _, _, rfl, rfl, fun x dx nx nd ne => ⟨x, dx, _, _, rfl, upd_same, T0 _, T0 _, fun ok H' fs kp hp tf => ⟨rfl, x, dx, fs, rfl, hp, tf.wo, x, dx, 1, fs, .int lo, .int (lo + hi), rfl, hp, tf, .inr (.inl ⟨rfl, ok⟩), Int.lt_trans (show lo < 10 ^ 40 by omega) (by decide), Int.lt_trans (show lo + hi < 10 ^ 40 by omega) (by decide), fun H'' s'' => ?_⟩, fun z => absurd ⟨lo, rfl, a0, .inr ⟨_, rfl, by omega⟩⟩ z⟩⟩
      have l1 := num_len a0 (show lo < 10 ^ 40 by omega)
      have l2 := num_len (show 0 ≤ lo + hi by omega) (show lo + hi < 10 ^ 40 by omega)
      have u1 : (Str.ofString "up ").length = 3 := by decide +kernel
      have u2 : (Str.ofString " ").length = 1 := by decide +kernel
      refine ⟨_, rfl, lo, rfl, toStr_log a0 (by omega), _, _, rfl, rfl, ?_, _, _, rfl, rfl, ?_, _, rfl, _, rfl, _, _, rfl, rfl, _, rfl, toStr_log (by omega) (by omega), _, _, rfl, rfl, ?_, rfl, ?_⟩
      · rw [u1]; exact Nat.le_of_lt (small1000 (by omega))
      · rw [Str.length_append, u1, u2]; exact Nat.le_of_lt (small1000 (by omega))
      · rw [Str.length_append, Str.length_append, u1, u2]; exact Nat.le_of_lt (small1000 (by omega))
      · have eq : wordsT ("up" : Str) (.int lo) (.int (lo + hi)) = ("up " : Str) ++ Str.ofString (toString lo) ++ (" " : Str) ++ Str.ofString (toString (lo + hi)) := words_of up_
        dsimp only
        rw [show kdS 1 = ("up" : Str) from rfl, eq, decide_eq_true rfl]
        exact k _
end
theorem txt_mk {K : PySem.W.Frag} {h : Heap} {mg : Str → Option Value} (X : K.In h) (G : h.Ns mainGlobals mg)
    {e_WalkError : Addr}
    {e_NoToken : Addr}
    {e_NoText : Addr}
    {e_NoPart : Addr}
    {e_NoKey : Addr}
    {e_Token : Addr}
    {e_BySlots : Addr}
    {e_Up : Addr}
    {e_Down : Addr}
    {f_NoKey__init : Addr} {oc_NoKey__init kV_NoKey__init dc_NoKey__init pm_NoKey__init cd_NoKey__init ct_NoKey__init : Value} {od_NoKey__init an_NoKey__init : Option Addr} {sl_NoKey__init : Array (Option Value)}
    {f_is_whole : Addr} {oc_is_whole kV_is_whole dc_is_whole pm_is_whole cd_is_whole ct_is_whole : Value} {od_is_whole an_is_whole : Option Addr} {sl_is_whole : Array (Option Value)}
    {f_is_from : Addr} {oc_is_from kV_is_from dc_is_from pm_is_from cd_is_from ct_is_from : Value} {od_is_from an_is_from : Option Addr} {sl_is_from : Array (Option Value)}
    {f_word_of : Addr} {oc_word_of kV_word_of dc_word_of pm_word_of cd_word_of ct_word_of : Value} {od_word_of an_word_of : Option Addr} {sl_word_of : Array (Option Value)}
    {f_Token__init : Addr} {oc_Token__init kV_Token__init dc_Token__init pm_Token__init cd_Token__init ct_Token__init : Value} {od_Token__init an_Token__init : Option Addr} {sl_Token__init : Array (Option Value)}
    {f_Token__words : Addr} {oc_Token__words kV_Token__words dc_Token__words pm_Token__words cd_Token__words ct_Token__words : Value} {od_Token__words an_Token__words : Option Addr} {sl_Token__words : Array (Option Value)}
    {f_BySlots__init : Addr} {oc_BySlots__init kV_BySlots__init dc_BySlots__init pm_BySlots__init cd_BySlots__init ct_BySlots__init : Value} {od_BySlots__init an_BySlots__init : Option Addr} {sl_BySlots__init : Array (Option Value)}
    {T_BySlots__init : Addr} {dd_BySlots__init : Option Addr} {dn_BySlots__init : Nat} {ds_BySlots__init : Array (Option Value)} {tk0_BySlots__init tk1_BySlots__init : Tok}
    {f_Up__init : Addr} {oc_Up__init kV_Up__init dc_Up__init pm_Up__init cd_Up__init ct_Up__init : Value} {od_Up__init an_Up__init : Option Addr} {sl_Up__init : Array (Option Value)}
    {T_Up__init : Addr} {dd_Up__init : Option Addr} {dn_Up__init : Nat} {ds_Up__init : Array (Option Value)} {tk0_Up__init : Tok}
    {f_Down__init : Addr} {oc_Down__init kV_Down__init dc_Down__init pm_Down__init cd_Down__init ct_Down__init : Value} {od_Down__init an_Down__init : Option Addr} {sl_Down__init : Array (Option Value)}
    {T_Down__init : Addr} {dd_Down__init : Option Addr} {dn_Down__init : Nat} {ds_Down__init : Array (Option Value)} {tk1_Down__init : Tok}
    {f__law_cell_at : Addr} {oc__law_cell_at kV__law_cell_at dc__law_cell_at pm__law_cell_at cd__law_cell_at ct__law_cell_at : Value} {od__law_cell_at an__law_cell_at : Option Addr} {sl__law_cell_at : Array (Option Value)}
    {f__law_made : Addr} {oc__law_made kV__law_made dc__law_made pm__law_made cd__law_made ct__law_made : Value} {od__law_made an__law_made : Option Addr} {sl__law_made : Array (Option Value)}
    {f__law_refused : Addr} {oc__law_refused kV__law_refused dc__law_refused pm__law_refused cd__law_refused ct__law_refused : Value} {od__law_refused an__law_refused : Option Addr} {sl__law_refused : Array (Option Value)}
    {f_law : Addr} {oc_law kV_law dc_law pm_law cd_law ct_law : Value} {od_law an_law : Option Addr} {sl_law : Array (Option Value)}
    {nm_WalkError qu_WalkError : Str} {N_WalkError : Addr} {bs_WalkError su_WalkError : List Value} {sn_WalkError : List Str} {ab_WalkError : Bool} {co_WalkError : Option Bool} {dd_WalkError : Option Addr} {k0_WalkError k1_WalkError k2_WalkError k3_WalkError k5_WalkError : Option Value}
    {nm_NoToken qu_NoToken : Str} {N_NoToken : Addr} {bs_NoToken su_NoToken : List Value} {sn_NoToken : List Str} {ab_NoToken : Bool} {co_NoToken : Option Bool} {dd_NoToken : Option Addr} {k0_NoToken k1_NoToken k2_NoToken k3_NoToken k5_NoToken : Option Value}
    {nm_NoText qu_NoText : Str} {N_NoText : Addr} {bs_NoText su_NoText : List Value} {sn_NoText : List Str} {ab_NoText : Bool} {co_NoText : Option Bool} {dd_NoText : Option Addr} {k0_NoText k1_NoText k2_NoText k3_NoText k5_NoText : Option Value}
    {nm_NoPart qu_NoPart : Str} {N_NoPart : Addr} {bs_NoPart su_NoPart : List Value} {sn_NoPart : List Str} {ab_NoPart : Bool} {co_NoPart : Option Bool} {dd_NoPart : Option Addr} {k0_NoPart k1_NoPart k2_NoPart k3_NoPart k5_NoPart : Option Value}
    {nm_NoKey qu_NoKey : Str} {N_NoKey : Addr} {bs_NoKey su_NoKey : List Value} {sn_NoKey : List Str} {ab_NoKey : Bool} {co_NoKey : Option Bool} {dd_NoKey : Option Addr} {k0_NoKey k1_NoKey k2_NoKey k3_NoKey k5_NoKey : Option Value}
    {tk_PLACES : Tok}
    (ac_WalkError : PySem.W.nsIn K mainGlobals "WalkError" = some (some (.ref e_WalkError)))
    (ac_NoToken : PySem.W.nsIn K mainGlobals "NoToken" = some (some (.ref e_NoToken)))
    (ac_NoText : PySem.W.nsIn K mainGlobals "NoText" = some (some (.ref e_NoText)))
    (ac_NoPart : PySem.W.nsIn K mainGlobals "NoPart" = some (some (.ref e_NoPart)))
    (ac_NoKey : PySem.W.nsIn K mainGlobals "NoKey" = some (some (.ref e_NoKey)))
    (ac_Token : PySem.W.nsIn K mainGlobals "Token" = some (some (.ref e_Token)))
    (ac_BySlots : PySem.W.nsIn K mainGlobals "BySlots" = some (some (.ref e_BySlots)))
    (ac_Up : PySem.W.nsIn K mainGlobals "Up" = some (some (.ref e_Up)))
    (ac_Down : PySem.W.nsIn K mainGlobals "Down" = some (some (.ref e_Down)))
    (a_NoKey__init : PySem.W.findIn K (.ref e_NoKey) "__init__" = some (some (.ref f_NoKey__init)))
    (l_NoKey__init : K.lookup f_NoKey__init = some ⟨oc_NoKey__init, od_NoKey__init, .func (PySem.W.fnOf "__init__" "NoKey.__init__" (defArgs s_NoKey__init) (defBody s_NoKey__init) (defScope s_NoKey__init) .none kV_NoKey__init dc_NoKey__init pm_NoKey__init an_NoKey__init cd_NoKey__init ct_NoKey__init), sl_NoKey__init⟩)
    (c_NoKey__init : PySem.W.codeIn K cd_NoKey__init "NoKey.__init__" = true)
    (k_NoKey__init : PySem.W.keepIn K (.ref f_NoKey__init) = true)
    (a_is_whole : PySem.W.nsIn K mainGlobals "is_whole" = some (some (.ref f_is_whole)))
    (l_is_whole : K.lookup f_is_whole = some ⟨oc_is_whole, od_is_whole, .func (PySem.W.fnOf "is_whole" "is_whole" (defArgs s_is_whole) (defBody s_is_whole) (defScope s_is_whole) .none kV_is_whole dc_is_whole pm_is_whole an_is_whole cd_is_whole ct_is_whole), sl_is_whole⟩)
    (c_is_whole : PySem.W.codeIn K cd_is_whole "is_whole" = true)
    (k_is_whole : PySem.W.keepIn K (.ref f_is_whole) = true)
    (a_is_from : PySem.W.nsIn K mainGlobals "is_from" = some (some (.ref f_is_from)))
    (l_is_from : K.lookup f_is_from = some ⟨oc_is_from, od_is_from, .func (PySem.W.fnOf "is_from" "is_from" (defArgs s_is_from) (defBody s_is_from) (defScope s_is_from) .none kV_is_from dc_is_from pm_is_from an_is_from cd_is_from ct_is_from), sl_is_from⟩)
    (c_is_from : PySem.W.codeIn K cd_is_from "is_from" = true)
    (k_is_from : PySem.W.keepIn K (.ref f_is_from) = true)
    (a_word_of : PySem.W.nsIn K mainGlobals "word_of" = some (some (.ref f_word_of)))
    (l_word_of : K.lookup f_word_of = some ⟨oc_word_of, od_word_of, .func (PySem.W.fnOf "word_of" "word_of" (defArgs s_word_of) (defBody s_word_of) (defScope s_word_of) .none kV_word_of dc_word_of pm_word_of an_word_of cd_word_of ct_word_of), sl_word_of⟩)
    (c_word_of : PySem.W.codeIn K cd_word_of "word_of" = true)
    (k_word_of : PySem.W.keepIn K (.ref f_word_of) = true)
    (a_Token__init : PySem.W.findIn K (.ref e_Token) "__init__" = some (some (.ref f_Token__init)))
    (l_Token__init : K.lookup f_Token__init = some ⟨oc_Token__init, od_Token__init, .func (PySem.W.fnOf "__init__" "Token.__init__" (defArgs s_Token__init) (defBody s_Token__init) (defScope s_Token__init) .none kV_Token__init dc_Token__init pm_Token__init an_Token__init cd_Token__init ct_Token__init), sl_Token__init⟩)
    (c_Token__init : PySem.W.codeIn K cd_Token__init "Token.__init__" = true)
    (k_Token__init : PySem.W.keepIn K (.ref f_Token__init) = true)
    (a_Token__words : PySem.W.findIn K (.ref e_Token) "words" = some (some (.ref f_Token__words)))
    (l_Token__words : K.lookup f_Token__words = some ⟨oc_Token__words, od_Token__words, .func (PySem.W.fnOf "words" "Token.words" (defArgs s_Token__words) (defBody s_Token__words) (defScope s_Token__words) .none kV_Token__words dc_Token__words pm_Token__words an_Token__words cd_Token__words ct_Token__words), sl_Token__words⟩)
    (c_Token__words : PySem.W.codeIn K cd_Token__words "Token.words" = true)
    (k_Token__words : PySem.W.keepIn K (.ref f_Token__words) = true)
    (a_BySlots__init : PySem.W.findIn K (.ref e_BySlots) "__init__" = some (some (.ref f_BySlots__init)))
    (l_BySlots__init : K.lookup f_BySlots__init = some ⟨oc_BySlots__init, od_BySlots__init, .func (PySem.W.fnOf "__init__" "BySlots.__init__" (defArgs s_BySlots__init) (defBody s_BySlots__init) (defScope s_BySlots__init) (.ref T_BySlots__init) kV_BySlots__init dc_BySlots__init pm_BySlots__init an_BySlots__init cd_BySlots__init ct_BySlots__init), sl_BySlots__init⟩)
    (c_BySlots__init : PySem.W.codeIn K cd_BySlots__init "BySlots.__init__" = true)
    (k_BySlots__init : PySem.W.keepIn K (.ref f_BySlots__init) = true)
    (dt_BySlots__init : K.lookup T_BySlots__init = some ⟨.type "tuple", dd_BySlots__init, .seq #[.int (0) tk0_BySlots__init, .int (65536) tk1_BySlots__init] dn_BySlots__init, ds_BySlots__init⟩)
    (a_Up__init : PySem.W.findIn K (.ref e_Up) "__init__" = some (some (.ref f_Up__init)))
    (l_Up__init : K.lookup f_Up__init = some ⟨oc_Up__init, od_Up__init, .func (PySem.W.fnOf "__init__" "Up.__init__" (defArgs s_Up__init) (defBody s_Up__init) (defScope s_Up__init) (.ref T_Up__init) kV_Up__init dc_Up__init pm_Up__init an_Up__init cd_Up__init ct_Up__init), sl_Up__init⟩)
    (c_Up__init : PySem.W.codeIn K cd_Up__init "Up.__init__" = true)
    (k_Up__init : PySem.W.keepIn K (.ref f_Up__init) = true)
    (dt_Up__init : K.lookup T_Up__init = some ⟨.type "tuple", dd_Up__init, .seq #[.int (0) tk0_Up__init, .none] dn_Up__init, ds_Up__init⟩)
    (a_Down__init : PySem.W.findIn K (.ref e_Down) "__init__" = some (some (.ref f_Down__init)))
    (l_Down__init : K.lookup f_Down__init = some ⟨oc_Down__init, od_Down__init, .func (PySem.W.fnOf "__init__" "Down.__init__" (defArgs s_Down__init) (defBody s_Down__init) (defScope s_Down__init) (.ref T_Down__init) kV_Down__init dc_Down__init pm_Down__init an_Down__init cd_Down__init ct_Down__init), sl_Down__init⟩)
    (c_Down__init : PySem.W.codeIn K cd_Down__init "Down.__init__" = true)
    (k_Down__init : PySem.W.keepIn K (.ref f_Down__init) = true)
    (dt_Down__init : K.lookup T_Down__init = some ⟨.type "tuple", dd_Down__init, .seq #[.none, .int (0) tk1_Down__init] dn_Down__init, ds_Down__init⟩)
    (a__law_cell_at : PySem.W.nsIn K mainGlobals "_law_cell_at" = some (some (.ref f__law_cell_at)))
    (l__law_cell_at : K.lookup f__law_cell_at = some ⟨oc__law_cell_at, od__law_cell_at, .func (PySem.W.fnOf "_law_cell_at" "_law_cell_at" (defArgs s__law_cell_at) (defBody s__law_cell_at) (defScope s__law_cell_at) .none kV__law_cell_at dc__law_cell_at pm__law_cell_at an__law_cell_at cd__law_cell_at ct__law_cell_at), sl__law_cell_at⟩)
    (c__law_cell_at : PySem.W.codeIn K cd__law_cell_at "_law_cell_at" = true)
    (k__law_cell_at : PySem.W.keepIn K (.ref f__law_cell_at) = true)
    (a__law_made : PySem.W.nsIn K mainGlobals "_law_made" = some (some (.ref f__law_made)))
    (l__law_made : K.lookup f__law_made = some ⟨oc__law_made, od__law_made, .func (PySem.W.fnOf "_law_made" "_law_made" (defArgs s__law_made) (defBody s__law_made) (defScope s__law_made) .none kV__law_made dc__law_made pm__law_made an__law_made cd__law_made ct__law_made), sl__law_made⟩)
    (c__law_made : PySem.W.codeIn K cd__law_made "_law_made" = true)
    (k__law_made : PySem.W.keepIn K (.ref f__law_made) = true)
    (a__law_refused : PySem.W.nsIn K mainGlobals "_law_refused" = some (some (.ref f__law_refused)))
    (l__law_refused : K.lookup f__law_refused = some ⟨oc__law_refused, od__law_refused, .func (PySem.W.fnOf "_law_refused" "_law_refused" (defArgs s__law_refused) (defBody s__law_refused) (defScope s__law_refused) .none kV__law_refused dc__law_refused pm__law_refused an__law_refused cd__law_refused ct__law_refused), sl__law_refused⟩)
    (c__law_refused : PySem.W.codeIn K cd__law_refused "_law_refused" = true)
    (k__law_refused : PySem.W.keepIn K (.ref f__law_refused) = true)
    (a_law : PySem.W.nsIn K mainGlobals "law" = some (some (.ref f_law)))
    (l_law : K.lookup f_law = some ⟨oc_law, od_law, .func (PySem.W.fnOf "law" "law" (defArgs s_law) (defBody s_law) (defScope s_law) .none kV_law dc_law pm_law an_law cd_law ct_law), sl_law⟩)
    (c_law : PySem.W.codeIn K cd_law "law" = true)
    (k_law : PySem.W.keepIn K (.ref f_law) = true)
    (lc_WalkError : K.lookup e_WalkError = some (PySem.excClassObj nm_WalkError qu_WalkError e_WalkError N_WalkError bs_WalkError [.type "ValueError", .type "Exception", .type "BaseException", .type "object"] true sn_WalkError su_WalkError ab_WalkError co_WalkError dd_WalkError k0_WalkError k1_WalkError k2_WalkError k3_WalkError k5_WalkError "ValueError.__new__"))
    (kc_WalkError : PySem.W.keepIn K (.ref e_WalkError) = true)
    (gc_WalkError : PySem.W.findIn K (.ref e_WalkError) "__getattribute__" = some (some (.builtin "BaseException.__getattribute__")))
    (hc_WalkError : PySem.W.findIn K (.ref e_WalkError) "__getattr__" = some none)
    (sc_WalkError : PySem.W.findIn K (.ref e_WalkError) "__setattr__" = some (some (.builtin "object.__setattr__")))
    (lc_NoToken : K.lookup e_NoToken = some (PySem.excClassObj nm_NoToken qu_NoToken e_NoToken N_NoToken bs_NoToken [.ref e_WalkError, .type "ValueError", .type "Exception", .type "BaseException", .type "object"] true sn_NoToken su_NoToken ab_NoToken co_NoToken dd_NoToken k0_NoToken k1_NoToken k2_NoToken k3_NoToken k5_NoToken "ValueError.__new__"))
    (kc_NoToken : PySem.W.keepIn K (.ref e_NoToken) = true)
    (gc_NoToken : PySem.W.findIn K (.ref e_NoToken) "__getattribute__" = some (some (.builtin "BaseException.__getattribute__")))
    (hc_NoToken : PySem.W.findIn K (.ref e_NoToken) "__getattr__" = some none)
    (sc_NoToken : PySem.W.findIn K (.ref e_NoToken) "__setattr__" = some (some (.builtin "object.__setattr__")))
    (xa_NoToken : PySem.W.findIn K (.ref e_NoToken) "__class__" = some (some (.builtin "object.__class__")))
    (xn_NoToken : PySem.W.specialIn K (.builtin "object.__class__") "__get__" = some (some (.builtin "getset_descriptor.__get__")))
    (xt_NoToken : PySem.W.takesIn K (.builtin "object.__class__") = some true)
    (xm_NoToken : PySem.W.mroIn K e_NoToken (.type "object") = some true)
    (ini_NoToken : PySem.W.findIn K (.ref e_NoToken) "__init__" = some (some (.builtin "ValueError.__init__")))
    (lc_NoText : K.lookup e_NoText = some (PySem.excClassObj nm_NoText qu_NoText e_NoText N_NoText bs_NoText [.ref e_WalkError, .type "ValueError", .type "Exception", .type "BaseException", .type "object"] true sn_NoText su_NoText ab_NoText co_NoText dd_NoText k0_NoText k1_NoText k2_NoText k3_NoText k5_NoText "ValueError.__new__"))
    (kc_NoText : PySem.W.keepIn K (.ref e_NoText) = true)
    (gc_NoText : PySem.W.findIn K (.ref e_NoText) "__getattribute__" = some (some (.builtin "BaseException.__getattribute__")))
    (hc_NoText : PySem.W.findIn K (.ref e_NoText) "__getattr__" = some none)
    (sc_NoText : PySem.W.findIn K (.ref e_NoText) "__setattr__" = some (some (.builtin "object.__setattr__")))
    (lc_NoPart : K.lookup e_NoPart = some (PySem.excClassObj nm_NoPart qu_NoPart e_NoPart N_NoPart bs_NoPart [.ref e_WalkError, .type "ValueError", .type "Exception", .type "BaseException", .type "object"] true sn_NoPart su_NoPart ab_NoPart co_NoPart dd_NoPart k0_NoPart k1_NoPart k2_NoPart k3_NoPart k5_NoPart "ValueError.__new__"))
    (kc_NoPart : PySem.W.keepIn K (.ref e_NoPart) = true)
    (gc_NoPart : PySem.W.findIn K (.ref e_NoPart) "__getattribute__" = some (some (.builtin "BaseException.__getattribute__")))
    (hc_NoPart : PySem.W.findIn K (.ref e_NoPart) "__getattr__" = some none)
    (sc_NoPart : PySem.W.findIn K (.ref e_NoPart) "__setattr__" = some (some (.builtin "object.__setattr__")))
    (na_NoKey_key : PySem.W.findIn K (.ref e_NoKey) "key" = some none)
    (lc_NoKey : K.lookup e_NoKey = some (PySem.excClassObj nm_NoKey qu_NoKey e_NoKey N_NoKey bs_NoKey [.ref e_WalkError, .type "ValueError", .type "Exception", .type "BaseException", .type "object"] true sn_NoKey su_NoKey ab_NoKey co_NoKey dd_NoKey k0_NoKey k1_NoKey k2_NoKey k3_NoKey k5_NoKey "ValueError.__new__"))
    (kc_NoKey : PySem.W.keepIn K (.ref e_NoKey) = true)
    (gc_NoKey : PySem.W.findIn K (.ref e_NoKey) "__getattribute__" = some (some (.builtin "BaseException.__getattribute__")))
    (hc_NoKey : PySem.W.findIn K (.ref e_NoKey) "__getattr__" = some none)
    (sc_NoKey : PySem.W.findIn K (.ref e_NoKey) "__setattr__" = some (some (.builtin "object.__setattr__")))
    (na_Token_kind : PySem.W.findIn K (.ref e_Token) "kind" = some none)
    (na_Token_at : PySem.W.findIn K (.ref e_Token) "at" = some none)
    (na_Token_end : PySem.W.findIn K (.ref e_Token) "end" = some none)
    (pg_Token : PySem.W.plainGet K e_Token Str.empty = true)
    (hd_Token : PySem.W.hasDictIn K e_Token = true)
    (po_Token : PySem.W.plainOver K e_Token = true)
    (sa_Token : PySem.W.findIn K (.ref e_Token) "__setattr__" = some (some (.builtin "object.__setattr__")))
    (mk_Token : PySem.W.makesIn K e_Token = true)
    (mi_Token : PySem.W.findIn K (.ref e_Token) "__init__" = some (some (.ref f_Token__init)))
    (mf_Token : PySem.W.isFn K (.ref f_Token__init) = true)
    (mp_Token : PySem.W.keepIn K (.ref e_Token) = true)
    (ma_Token_words : PySem.W.findIn K (.ref e_Token) "words" = some (some (.ref f_Token__words)))
    (mb_Token_words : PySem.W.isFn K (.ref f_Token__words) = true)
    (mc_Token_words : PySem.W.keepIn K (.ref f_Token__words) = true)
    (na_BySlots_kind : PySem.W.findIn K (.ref e_BySlots) "kind" = some none)
    (na_BySlots_at : PySem.W.findIn K (.ref e_BySlots) "at" = some none)
    (na_BySlots_end : PySem.W.findIn K (.ref e_BySlots) "end" = some none)
    (pg_BySlots : PySem.W.plainGet K e_BySlots Str.empty = true)
    (hd_BySlots : PySem.W.hasDictIn K e_BySlots = true)
    (po_BySlots : PySem.W.plainOver K e_BySlots = true)
    (sa_BySlots : PySem.W.findIn K (.ref e_BySlots) "__setattr__" = some (some (.builtin "object.__setattr__")))
    (mk_BySlots : PySem.W.makesIn K e_BySlots = true)
    (mi_BySlots : PySem.W.findIn K (.ref e_BySlots) "__init__" = some (some (.ref f_BySlots__init)))
    (mf_BySlots : PySem.W.isFn K (.ref f_BySlots__init) = true)
    (mp_BySlots : PySem.W.keepIn K (.ref e_BySlots) = true)
    (ma_BySlots_words : PySem.W.findIn K (.ref e_BySlots) "words" = some (some (.ref f_Token__words)))
    (mb_BySlots_words : PySem.W.isFn K (.ref f_Token__words) = true)
    (mc_BySlots_words : PySem.W.keepIn K (.ref f_Token__words) = true)
    (na_Up_kind : PySem.W.findIn K (.ref e_Up) "kind" = some none)
    (na_Up_at : PySem.W.findIn K (.ref e_Up) "at" = some none)
    (na_Up_end : PySem.W.findIn K (.ref e_Up) "end" = some none)
    (pg_Up : PySem.W.plainGet K e_Up Str.empty = true)
    (hd_Up : PySem.W.hasDictIn K e_Up = true)
    (po_Up : PySem.W.plainOver K e_Up = true)
    (sa_Up : PySem.W.findIn K (.ref e_Up) "__setattr__" = some (some (.builtin "object.__setattr__")))
    (mk_Up : PySem.W.makesIn K e_Up = true)
    (mi_Up : PySem.W.findIn K (.ref e_Up) "__init__" = some (some (.ref f_Up__init)))
    (mf_Up : PySem.W.isFn K (.ref f_Up__init) = true)
    (mp_Up : PySem.W.keepIn K (.ref e_Up) = true)
    (ma_Up_words : PySem.W.findIn K (.ref e_Up) "words" = some (some (.ref f_Token__words)))
    (mb_Up_words : PySem.W.isFn K (.ref f_Token__words) = true)
    (mc_Up_words : PySem.W.keepIn K (.ref f_Token__words) = true)
    (na_Down_kind : PySem.W.findIn K (.ref e_Down) "kind" = some none)
    (na_Down_at : PySem.W.findIn K (.ref e_Down) "at" = some none)
    (na_Down_end : PySem.W.findIn K (.ref e_Down) "end" = some none)
    (pg_Down : PySem.W.plainGet K e_Down Str.empty = true)
    (hd_Down : PySem.W.hasDictIn K e_Down = true)
    (po_Down : PySem.W.plainOver K e_Down = true)
    (sa_Down : PySem.W.findIn K (.ref e_Down) "__setattr__" = some (some (.builtin "object.__setattr__")))
    (mk_Down : PySem.W.makesIn K e_Down = true)
    (mi_Down : PySem.W.findIn K (.ref e_Down) "__init__" = some (some (.ref f_Down__init)))
    (mf_Down : PySem.W.isFn K (.ref f_Down__init) = true)
    (mp_Down : PySem.W.keepIn K (.ref e_Down) = true)
    (ma_Down_words : PySem.W.findIn K (.ref e_Down) "words" = some (some (.ref f_Token__words)))
    (mb_Down_words : PySem.W.isFn K (.ref f_Token__words) = true)
    (mc_Down_words : PySem.W.keepIn K (.ref f_Token__words) = true)
    (oa_Token_init : PySem.W.specialIn K (.ref e_Token) "__getattribute__" = some (some (.builtin "type.__getattribute__")))
    (ob_Token_init : PySem.W.readsIn K e_Token (.type "type") = true)
    (oc_Token_init : PySem.W.findCls K (.ref e_Token) (.type "type") "__init__" = some (.val (.ref f_Token__init)))
    (su_NoToken_NoKey : PySem.W.subIn K (.ref e_NoToken) (.ref e_NoKey) = some false)
    (su_NoToken_NoPart : PySem.W.subIn K (.ref e_NoToken) (.ref e_NoPart) = some false)
    (su_NoToken_NoText : PySem.W.subIn K (.ref e_NoToken) (.ref e_NoText) = some false)
    (su_NoToken_NoToken : PySem.W.subIn K (.ref e_NoToken) (.ref e_NoToken) = some true)
    (su_NoToken_WalkError : PySem.W.subIn K (.ref e_NoToken) (.ref e_WalkError) = some true)
    (g_PLACES : PySem.W.nsIn K mainGlobals "PLACES" = some (some (.int 65536 tk_PLACES)))
    (z_ValueError : PySem.W.nsIn K mainGlobals "ValueError" = some none)
    (z_bool : PySem.W.nsIn K mainGlobals "bool" = some none)
    (z_int : PySem.W.nsIn K mainGlobals "int" = some none)
    (z_isinstance : PySem.W.nsIn K mainGlobals "isinstance" = some none)
    (z_len : PySem.W.nsIn K mainGlobals "len" = some none)
    (z_str : PySem.W.nsIn K mainGlobals "str" = some none) : ∃ t, Txt K mg t := by
  have F_NoKey__init := fun_mk (st := s_NoKey__init) l_NoKey__init c_NoKey__init k_NoKey__init
  have b_NoKey__init := F_NoKey__init.binds (ps := ["self", "key"]) fun _ _ _ _ _ _ us hl => match us, hl with | [_, _], _ => rfl
  have F_is_whole := fun_mk (st := s_is_whole) l_is_whole c_is_whole k_is_whole
  have b_is_whole := F_is_whole.binds (ps := ["thing"]) fun _ _ _ _ _ _ us hl => match us, hl with | [_], _ => rfl
  have F_is_from := fun_mk (st := s_is_from) l_is_from c_is_from k_is_from
  have b_is_from := F_is_from.binds (ps := ["thing", "low"]) fun _ _ _ _ _ _ us hl => match us, hl with | [_, _], _ => rfl
  have F_word_of := fun_mk (st := s_word_of) l_word_of c_word_of k_word_of
  have b_word_of := F_word_of.binds (ps := ["bound"]) fun _ _ _ _ _ _ us hl => match us, hl with | [_], _ => rfl
  have F_Token__init := fun_mk (st := s_Token__init) l_Token__init c_Token__init k_Token__init
  have b_Token__init := F_Token__init.binds (ps := ["self", "kind", "at", "end"]) fun _ _ _ _ _ _ us hl => match us, hl with | [_, _, _, _], _ => rfl
  have F_Token__words := fun_mk (st := s_Token__words) l_Token__words c_Token__words k_Token__words
  have b_Token__words := F_Token__words.binds (ps := ["self"]) fun _ _ _ _ _ _ us hl => match us, hl with | [_], _ => rfl
  have F_BySlots__init := funD_mk (st := s_BySlots__init) l_BySlots__init c_BySlots__init k_BySlots__init
  have b_BySlots__init : Binds K _ ["self", "at", "end"] [] := bindsD 3 rfl F_BySlots__init dt_BySlots__init (ps := ["self", "at", "end"]) (ds := []) fun _ _ _ _ _ _ us hl => match us, hl with | [_, _, _], _ => ⟨_, rfl, rfl⟩
  have b1_BySlots__init : BindsV K _ ["self", "at", "end"] [(.int (65536))] := ⟨_, bindsD 2 rfl F_BySlots__init dt_BySlots__init (ps := ["self", "at", "end"]) (ds := [.int (65536) tk1_BySlots__init]) fun _ _ _ _ _ _ us hl => match us, hl with | [_, _], _ => ⟨_, rfl, rfl⟩, (.cons ⟨_, rfl⟩ .nil)⟩
  have b2_BySlots__init : BindsV K _ ["self", "at", "end"] [(.int (0)), (.int (65536))] := ⟨_, bindsD 1 rfl F_BySlots__init dt_BySlots__init (ps := ["self", "at", "end"]) (ds := [.int (0) tk0_BySlots__init, .int (65536) tk1_BySlots__init]) fun _ _ _ _ _ _ us hl => match us, hl with | [_], _ => ⟨_, rfl, rfl⟩, (.cons ⟨_, rfl⟩ (.cons ⟨_, rfl⟩ .nil))⟩
  have F_Up__init := funD_mk (st := s_Up__init) l_Up__init c_Up__init k_Up__init
  have b_Up__init : Binds K _ ["self", "at", "end"] [] := bindsD 3 rfl F_Up__init dt_Up__init (ps := ["self", "at", "end"]) (ds := []) fun _ _ _ _ _ _ us hl => match us, hl with | [_, _, _], _ => ⟨_, rfl, rfl⟩
  have b1_Up__init : BindsV K _ ["self", "at", "end"] [.non] := ⟨_, bindsD 2 rfl F_Up__init dt_Up__init (ps := ["self", "at", "end"]) (ds := [.none]) fun _ _ _ _ _ _ us hl => match us, hl with | [_, _], _ => ⟨_, rfl, rfl⟩, (.cons rfl .nil)⟩
  have b2_Up__init : BindsV K _ ["self", "at", "end"] [(.int (0)), .non] := ⟨_, bindsD 1 rfl F_Up__init dt_Up__init (ps := ["self", "at", "end"]) (ds := [.int (0) tk0_Up__init, .none]) fun _ _ _ _ _ _ us hl => match us, hl with | [_], _ => ⟨_, rfl, rfl⟩, (.cons ⟨_, rfl⟩ (.cons rfl .nil))⟩
  have F_Down__init := funD_mk (st := s_Down__init) l_Down__init c_Down__init k_Down__init
  have b_Down__init : Binds K _ ["self", "at", "end"] [] := bindsD 3 rfl F_Down__init dt_Down__init (ps := ["self", "at", "end"]) (ds := []) fun _ _ _ _ _ _ us hl => match us, hl with | [_, _, _], _ => ⟨_, rfl, rfl⟩
  have b1_Down__init : BindsV K _ ["self", "at", "end"] [(.int (0))] := ⟨_, bindsD 2 rfl F_Down__init dt_Down__init (ps := ["self", "at", "end"]) (ds := [.int (0) tk1_Down__init]) fun _ _ _ _ _ _ us hl => match us, hl with | [_, _], _ => ⟨_, rfl, rfl⟩, (.cons ⟨_, rfl⟩ .nil)⟩
  have b2_Down__init : BindsV K _ ["self", "at", "end"] [.non, (.int (0))] := ⟨_, bindsD 1 rfl F_Down__init dt_Down__init (ps := ["self", "at", "end"]) (ds := [.none, .int (0) tk1_Down__init]) fun _ _ _ _ _ _ us hl => match us, hl with | [_], _ => ⟨_, rfl, rfl⟩, (.cons rfl (.cons ⟨_, rfl⟩ .nil))⟩
  have F__law_cell_at := fun_mk (st := s__law_cell_at) l__law_cell_at c__law_cell_at k__law_cell_at
  have b__law_cell_at := F__law_cell_at.binds (ps := ["_law_script", "_law_k"]) fun _ _ _ _ _ _ us hl => match us, hl with | [_, _], _ => rfl
  have F__law_made := fun_mk (st := s__law_made) l__law_made c__law_made k__law_made
  have b__law_made := F__law_made.binds (ps := ["_law_way", "_law_low", "_law_high"]) fun _ _ _ _ _ _ us hl => match us, hl with | [_, _, _], _ => rfl
  have F__law_refused := fun_mk (st := s__law_refused) l__law_refused c__law_refused k__law_refused
  have b__law_refused := F__law_refused.binds (ps := ["_law_way", "_law_low", "_law_high"]) fun _ _ _ _ _ _ us hl => match us, hl with | [_, _, _], _ => rfl
  have F_law := fun_mk (st := s_law) l_law c_law k_law
  have b_law := F_law.binds (ps := ["_law_script"]) fun _ _ _ _ _ _ us hl => match us, hl with | [_], _ => rfl
  exact ⟨⟨f_NoKey__init, _, f_is_whole, _, f_is_from, _, f_word_of, _, f_Token__init, _, f_Token__words, _, f_BySlots__init, _, f_Up__init, _, f_Down__init, _, f__law_cell_at, _, f__law_made, _, f__law_refused, _, f_law, _, e_WalkError, e_NoToken, e_NoText, e_NoPart, e_NoKey, e_Token, e_BySlots, e_Up, e_Down⟩, ⟨PySem.W.mg_of X G ac_WalkError, PySem.W.mg_of X G ac_NoToken, PySem.W.mg_of X G ac_NoText, PySem.W.mg_of X G ac_NoPart, PySem.W.mg_of X G ac_NoKey, PySem.W.mg_of X G ac_Token, PySem.W.mg_of X G ac_BySlots, PySem.W.mg_of X G ac_Up, PySem.W.mg_of X G ac_Down, F_NoKey__init, b_NoKey__init, PySem.W.mg_of X G a_is_whole, F_is_whole, b_is_whole, PySem.W.mg_of X G a_is_from, F_is_from, b_is_from, PySem.W.mg_of X G a_word_of, F_word_of, b_word_of, F_Token__init, b_Token__init, F_Token__words, b_Token__words, F_BySlots__init.1, b_BySlots__init, b1_BySlots__init, b2_BySlots__init, F_Up__init.1, b_Up__init, b1_Up__init, b2_Up__init, F_Down__init.1, b_Down__init, b1_Down__init, b2_Down__init, PySem.W.mg_of X G a__law_cell_at, F__law_cell_at, b__law_cell_at, PySem.W.mg_of X G a__law_made, F__law_made, b__law_made, PySem.W.mg_of X G a__law_refused, F__law_refused, b__law_refused, PySem.W.mg_of X G a_law, F_law, b_law, ⟨⟨_, _, _, _, _, _, _, _, _, _, _, _, _, _, lc_WalkError⟩, ⟨[], rfl⟩, kc_WalkError, gc_WalkError, hc_WalkError, sc_WalkError⟩, ⟨⟨_, _, _, _, _, _, _, _, _, _, _, _, _, _, lc_NoToken⟩, ⟨[e_WalkError], rfl⟩, kc_NoToken, gc_NoToken, hc_NoToken, sc_NoToken⟩, ⟨xa_NoToken, xn_NoToken, xt_NoToken, xm_NoToken⟩, ini_NoToken, ⟨⟨_, _, _, _, _, _, _, _, _, _, _, _, _, _, lc_NoText⟩, ⟨[e_WalkError], rfl⟩, kc_NoText, gc_NoText, hc_NoText, sc_NoText⟩, ⟨⟨_, _, _, _, _, _, _, _, _, _, _, _, _, _, lc_NoPart⟩, ⟨[e_WalkError], rfl⟩, kc_NoPart, gc_NoPart, hc_NoPart, sc_NoPart⟩, na_NoKey_key, ⟨⟨_, _, _, _, _, _, _, _, _, _, _, _, _, _, lc_NoKey⟩, ⟨[e_WalkError], rfl⟩, kc_NoKey, gc_NoKey, hc_NoKey, sc_NoKey⟩, na_Token_kind, na_Token_at, na_Token_end, ⟨pg_Token, hd_Token, po_Token, sa_Token⟩, ⟨mk_Token, mi_Token, mf_Token, mp_Token⟩, ⟨ma_Token_words, mb_Token_words, mc_Token_words⟩, na_BySlots_kind, na_BySlots_at, na_BySlots_end, ⟨pg_BySlots, hd_BySlots, po_BySlots, sa_BySlots⟩, ⟨mk_BySlots, mi_BySlots, mf_BySlots, mp_BySlots⟩, ⟨ma_BySlots_words, mb_BySlots_words, mc_BySlots_words⟩, na_Up_kind, na_Up_at, na_Up_end, ⟨pg_Up, hd_Up, po_Up, sa_Up⟩, ⟨mk_Up, mi_Up, mf_Up, mp_Up⟩, ⟨ma_Up_words, mb_Up_words, mc_Up_words⟩, na_Down_kind, na_Down_at, na_Down_end, ⟨pg_Down, hd_Down, po_Down, sa_Down⟩, ⟨mk_Down, mi_Down, mf_Down, mp_Down⟩, ⟨ma_Down_words, mb_Down_words, mc_Down_words⟩, ⟨oa_Token_init, ob_Token_init, oc_Token_init⟩, su_NoToken_NoKey, su_NoToken_NoPart, su_NoToken_NoText, su_NoToken_NoToken, su_NoToken_WalkError, ⟨_, PySem.W.mg_of X G g_PLACES⟩, PySem.W.mg_none_of X G z_ValueError, PySem.W.mg_none_of X G z_bool, PySem.W.mg_none_of X G z_int, PySem.W.mg_none_of X G z_isinstance, PySem.W.mg_none_of X G z_len, PySem.W.mg_none_of X G z_str⟩⟩
theorem walk {l : PySem.W.OpenLaw} {q : Program} {loose : List Str} {XP : (Str → Option Value) → Heap → Prop} {YP : World → Heap → Prop} {d : DefRec} {K : Params → PySem.W.Frag} (hn : l.most = some 63) (hdf : d.params.defaults = [])
    (hY : ∀ (w : World) (h : Heap), YP w h → (K w.params).In h) (hd : d.name = "law")
    (F : ∀ (w : World) (mg : Str → Option Value) (h : Heap), (K w.params).In h → h.Ns mainGlobals mg → ∃ t, Txt (K w.params) mg t) :
    PySem.W.WalkO q loose XP YP l.row.toRowW d [] (fun f vs => PySem.call f vs) := by
  refine L2.walk_of (n := 63) (k := 7) (x := "_law_script") (CX := fun _ => CX0) (sp := fun w => sp_law (K w.params)) hn (by decide) hdf ⟨rfl, by decide, by decide⟩ hY (fun w mg fa h KX G hfa => ?_) (fun _ _ a ns hl _ hS => ⟨a, ns, rfl, hS, hl, fun _ => rfl⟩) fun _ _ _ _ _ z => z
  obtain ⟨t, T⟩ := F w mg h KX G
  have e := hfa.symm.trans ((congrArg mg hd).trans T.m_law)
  cases e
  obtain ⟨oc, od, kV, doc, pm, an, cdv, ct, osl, e1, lk, hcd⟩ := T.F_law.ex
  refine ⟨t.d_law, fun s u => ?_, fun base _ _ => ok_law T⟩
  rw [e1]
  exact .of_eq rfl
end SW
open PySem PySem.W PyProof.Rows
set_option maxRecDepth 100000 in
set_option maxHeartbeats 0 in
theorem PySem.Challenge.cw_staywalk_k32_no_tokens_holds : PySem.Challenge.rw_staywalk_k32_no_tokens.Holds := by
  w_on; o_law; k_head; (case hw => w_witness2)
  k_fill
  refine SW.walk (l := PySem.Challenge.rw_staywalk_k32_no_tokens) rfl rfl (fun w h Y => PySem.W.kIn_of Y) rfl ?F
  case F =>
    intro w mg h KX G
    refine' SW.txt_mk KX G ?ac_WalkError ?ac_NoToken ?ac_NoText ?ac_NoPart ?ac_NoKey ?ac_Token ?ac_BySlots ?ac_Up ?ac_Down ?a_NoKey__init ?l_NoKey__init ?c_NoKey__init ?k_NoKey__init ?a_is_whole ?l_is_whole ?c_is_whole ?k_is_whole ?a_is_from ?l_is_from ?c_is_from ?k_is_from ?a_word_of ?l_word_of ?c_word_of ?k_word_of ?a_Token__init ?l_Token__init ?c_Token__init ?k_Token__init ?a_Token__words ?l_Token__words ?c_Token__words ?k_Token__words ?a_BySlots__init ?l_BySlots__init ?c_BySlots__init ?k_BySlots__init ?dt_BySlots__init ?a_Up__init ?l_Up__init ?c_Up__init ?k_Up__init ?dt_Up__init ?a_Down__init ?l_Down__init ?c_Down__init ?k_Down__init ?dt_Down__init ?a__law_cell_at ?l__law_cell_at ?c__law_cell_at ?k__law_cell_at ?a__law_made ?l__law_made ?c__law_made ?k__law_made ?a__law_refused ?l__law_refused ?c__law_refused ?k__law_refused ?a_law ?l_law ?c_law ?k_law ?lc_WalkError ?kc_WalkError ?gc_WalkError ?hc_WalkError ?sc_WalkError ?lc_NoToken ?kc_NoToken ?gc_NoToken ?hc_NoToken ?sc_NoToken ?xa_NoToken ?xn_NoToken ?xt_NoToken ?xm_NoToken ?ini_NoToken ?lc_NoText ?kc_NoText ?gc_NoText ?hc_NoText ?sc_NoText ?lc_NoPart ?kc_NoPart ?gc_NoPart ?hc_NoPart ?sc_NoPart ?na_NoKey_key ?lc_NoKey ?kc_NoKey ?gc_NoKey ?hc_NoKey ?sc_NoKey ?na_Token_kind ?na_Token_at ?na_Token_end ?pg_Token ?hd_Token ?po_Token ?sa_Token ?mk_Token ?mi_Token ?mf_Token ?mp_Token ?ma_Token_words ?mb_Token_words ?mc_Token_words ?na_BySlots_kind ?na_BySlots_at ?na_BySlots_end ?pg_BySlots ?hd_BySlots ?po_BySlots ?sa_BySlots ?mk_BySlots ?mi_BySlots ?mf_BySlots ?mp_BySlots ?ma_BySlots_words ?mb_BySlots_words ?mc_BySlots_words ?na_Up_kind ?na_Up_at ?na_Up_end ?pg_Up ?hd_Up ?po_Up ?sa_Up ?mk_Up ?mi_Up ?mf_Up ?mp_Up ?ma_Up_words ?mb_Up_words ?mc_Up_words ?na_Down_kind ?na_Down_at ?na_Down_end ?pg_Down ?hd_Down ?po_Down ?sa_Down ?mk_Down ?mi_Down ?mf_Down ?mp_Down ?ma_Down_words ?mb_Down_words ?mc_Down_words ?oa_Token_init ?ob_Token_init ?oc_Token_init ?su_NoToken_NoKey ?su_NoToken_NoPart ?su_NoToken_NoText ?su_NoToken_NoToken ?su_NoToken_WalkError ?g_PLACES ?z_ValueError ?z_bool ?z_int ?z_isinstance ?z_len ?z_str
    (case ac_WalkError => k_is)
    (case ac_NoToken => k_is)
    (case ac_NoText => k_is)
    (case ac_NoPart => k_is)
    (case ac_NoKey => k_is)
    (case ac_Token => k_is)
    (case ac_BySlots => k_is)
    (case ac_Up => k_is)
    (case ac_Down => k_is)
    (case a_NoKey__init => k_is)
    (case l_NoKey__init => k_is)
    (case c_NoKey__init => k_is)
    (case k_NoKey__init => k_is)
    (case a_is_whole => k_is)
    (case l_is_whole => k_is)
    (case c_is_whole => k_is)
    (case k_is_whole => k_is)
    (case a_is_from => k_is)
    (case l_is_from => k_is)
    (case c_is_from => k_is)
    (case k_is_from => k_is)
    (case a_word_of => k_is)
    (case l_word_of => k_is)
    (case c_word_of => k_is)
    (case k_word_of => k_is)
    (case a_Token__init => k_is)
    (case l_Token__init => k_is)
    (case c_Token__init => k_is)
    (case k_Token__init => k_is)
    (case a_Token__words => k_is)
    (case l_Token__words => k_is)
    (case c_Token__words => k_is)
    (case k_Token__words => k_is)
    (case a_BySlots__init => k_is)
    (case l_BySlots__init => k_is)
    (case c_BySlots__init => k_is)
    (case k_BySlots__init => k_is)
    (case dt_BySlots__init => k_is)
    (case a_Up__init => k_is)
    (case l_Up__init => k_is)
    (case c_Up__init => k_is)
    (case k_Up__init => k_is)
    (case dt_Up__init => k_is)
    (case a_Down__init => k_is)
    (case l_Down__init => k_is)
    (case c_Down__init => k_is)
    (case k_Down__init => k_is)
    (case dt_Down__init => k_is)
    (case a__law_cell_at => k_is)
    (case l__law_cell_at => k_is)
    (case c__law_cell_at => k_is)
    (case k__law_cell_at => k_is)
    (case a__law_made => k_is)
    (case l__law_made => k_is)
    (case c__law_made => k_is)
    (case k__law_made => k_is)
    (case a__law_refused => k_is)
    (case l__law_refused => k_is)
    (case c__law_refused => k_is)
    (case k__law_refused => k_is)
    (case a_law => k_is)
    (case l_law => k_is)
    (case c_law => k_is)
    (case k_law => k_is)
    (case lc_WalkError => k_is)
    (case kc_WalkError => k_is)
    (case gc_WalkError => k_is)
    (case hc_WalkError => k_is)
    (case sc_WalkError => k_is)
    (case lc_NoToken => k_is)
    (case kc_NoToken => k_is)
    (case gc_NoToken => k_is)
    (case hc_NoToken => k_is)
    (case sc_NoToken => k_is)
    (case xa_NoToken => k_is)
    (case xn_NoToken => k_is)
    (case xt_NoToken => k_is)
    (case xm_NoToken => k_is)
    (case ini_NoToken => k_is)
    (case lc_NoText => k_is)
    (case kc_NoText => k_is)
    (case gc_NoText => k_is)
    (case hc_NoText => k_is)
    (case sc_NoText => k_is)
    (case lc_NoPart => k_is)
    (case kc_NoPart => k_is)
    (case gc_NoPart => k_is)
    (case hc_NoPart => k_is)
    (case sc_NoPart => k_is)
    (case na_NoKey_key => k_is)
    (case lc_NoKey => k_is)
    (case kc_NoKey => k_is)
    (case gc_NoKey => k_is)
    (case hc_NoKey => k_is)
    (case sc_NoKey => k_is)
    (case na_Token_kind => k_is)
    (case na_Token_at => k_is)
    (case na_Token_end => k_is)
    (case pg_Token => k_is)
    (case hd_Token => k_is)
    (case po_Token => k_is)
    (case sa_Token => k_is)
    (case mk_Token => k_is)
    (case mi_Token => k_is)
    (case mf_Token => k_is)
    (case mp_Token => k_is)
    (case ma_Token_words => k_is)
    (case mb_Token_words => k_is)
    (case mc_Token_words => k_is)
    (case na_BySlots_kind => k_is)
    (case na_BySlots_at => k_is)
    (case na_BySlots_end => k_is)
    (case pg_BySlots => k_is)
    (case hd_BySlots => k_is)
    (case po_BySlots => k_is)
    (case sa_BySlots => k_is)
    (case mk_BySlots => k_is)
    (case mi_BySlots => k_is)
    (case mf_BySlots => k_is)
    (case mp_BySlots => k_is)
    (case ma_BySlots_words => k_is)
    (case mb_BySlots_words => k_is)
    (case mc_BySlots_words => k_is)
    (case na_Up_kind => k_is)
    (case na_Up_at => k_is)
    (case na_Up_end => k_is)
    (case pg_Up => k_is)
    (case hd_Up => k_is)
    (case po_Up => k_is)
    (case sa_Up => k_is)
    (case mk_Up => k_is)
    (case mi_Up => k_is)
    (case mf_Up => k_is)
    (case mp_Up => k_is)
    (case ma_Up_words => k_is)
    (case mb_Up_words => k_is)
    (case mc_Up_words => k_is)
    (case na_Down_kind => k_is)
    (case na_Down_at => k_is)
    (case na_Down_end => k_is)
    (case pg_Down => k_is)
    (case hd_Down => k_is)
    (case po_Down => k_is)
    (case sa_Down => k_is)
    (case mk_Down => k_is)
    (case mi_Down => k_is)
    (case mf_Down => k_is)
    (case mp_Down => k_is)
    (case ma_Down_words => k_is)
    (case mb_Down_words => k_is)
    (case mc_Down_words => k_is)
    (case oa_Token_init => k_is)
    (case ob_Token_init => k_is)
    (case oc_Token_init => k_is)
    (case su_NoToken_NoKey => k_is)
    (case su_NoToken_NoPart => k_is)
    (case su_NoToken_NoText => k_is)
    (case su_NoToken_NoToken => k_is)
    (case su_NoToken_WalkError => k_is)
    (case g_PLACES => k_is)
    (case z_ValueError => k_is)
    (case z_bool => k_is)
    (case z_int => k_is)
    (case z_isinstance => k_is)
    (case z_len => k_is)
    (case z_str => k_is)
#print axioms PySem.Challenge.cw_staywalk_k32_no_tokens_holds
