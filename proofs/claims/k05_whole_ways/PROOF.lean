import PyProof.Rows.All
import Wide.All
import OpenK.AllK
import Wide.FinOn
import Lean
import PyProof.EqAt
import PyProof.EqKinds
import PyProof.TupleCall
import PySem.Challenge.RW_forkform_k05_whole_ways
set_option Elab.async false
set_option linter.all false
set_option maxRecDepth 100000
namespace L2
open PySem PySem.Spec PyProof.Rows

/-- a key: an int or a str -/
abbrev Key := Sum Int Str
def keyIs : Key → Value → Bool
  | .inl k, v => Value.isInt k v
  | .inr x, v => Value.isStrOf x v
def keyH (w : World) : Key → Int
  | .inl k => hashInt k
  | .inr x => hashStr w x
theorem keyIs_shape : ∀ {k : Key} {v : Value}, keyIs k v = true → (∃ i t, k = Sum.inl i ∧ v = Value.int i t) ∨ (∃ x t, k = Sum.inr x ∧ v = Value.str x t)
  | .inl i, v, h => by
    obtain ⟨t, e⟩ := Value.isInt_shape (k := i) (v := v) h
    exact .inl ⟨i, t, rfl, e⟩
  | .inr x, v, h => by
    obtain ⟨t, e⟩ := Value.isStrOf_shape (x := x) (v := v) h
    exact .inr ⟨x, t, rfl, e⟩
theorem keyIs_int (i : Int) (t : Tok) : keyIs (.inl i) (.int i t) = true := by simp [keyIs, Value.isInt]
theorem keyIs_str (x : Str) (t : Tok) : keyIs (.inr x) (.str x t) = true := by simp [keyIs, Value.isStrOf]
theorem key_ll (a b : Int) : decide ((Sum.inl a : Key) = Sum.inl b) = (a == b) := by
  by_cases e : a = b
  · subst e; simp
  · have h : ¬ (Sum.inl a : Key) = Sum.inl b := fun q => e (Sum.inl.inj q)
    rw [decide_eq_false h]
    exact (beq_eq_false_iff_ne.mpr e).symm
theorem key_rr (a b : Str) : decide ((Sum.inr a : Key) = Sum.inr b) = decide (a = b) := by
  by_cases e : a = b
  · subst e; simp
  · have h : ¬ (Sum.inr a : Key) = Sum.inr b := fun q => e (Sum.inr.inj q)
    rw [decide_eq_false h, decide_eq_false e]
theorem key_lr (a : Int) (b : Str) : decide ((Sum.inl a : Key) = Sum.inr b) = false := decide_eq_false (fun q => nomatch q)
theorem key_rl (a : Str) (b : Int) : decide ((Sum.inr a : Key) = Sum.inl b) = false := decide_eq_false (fun q => nomatch q)

def mixKind (prog : Program) (w : World) : PySem.KeyKind prog w Key where
  is := keyIs
  hash := keyH w
  inj := fun v a b ha hb => by
    rcases keyIs_shape ha with ⟨i, t, rfl, rfl⟩ | ⟨x, t, rfl, rfl⟩
    · rcases keyIs_shape hb with ⟨j, u, rfl, e⟩ | ⟨y, u, rfl, e⟩
      · injection e with e1 _; rw [e1]
      · exact nomatch e
    · rcases keyIs_shape hb with ⟨j, u, rfl, e⟩ | ⟨y, u, rfl, e⟩
      · exact nomatch e
      · injection e with e1 _; rw [e1]
  byValue := fun k v h => by
    rcases keyIs_shape h with ⟨i, t, rfl, rfl⟩ | ⟨x, t, rfl, rfl⟩ <;> rfl
  pyHash := fun hv h => by
    rcases keyIs_shape hv with ⟨i, t, rfl, rfl⟩ | ⟨x, t, rfl, rfl⟩
    · exact wpAny_pyHash_int h
    · exact wpAny_pyHash_str h
  eqBool := fun hu hv h => by
    rcases keyIs_shape hu with ⟨i, t, rfl, rfl⟩ | ⟨x, t, rfl, rfl⟩
    · rcases keyIs_shape hv with ⟨j, u, rfl, rfl⟩ | ⟨y, u, rfl, rfl⟩
      · rw [key_ll] at h; exact wpAny_eqBool_int h
      · rw [key_lr] at h; exact SeqAt.EqAt.int_str i t y u _ _ _ _ h
    · rcases keyIs_shape hv with ⟨j, u, rfl, rfl⟩ | ⟨y, u, rfl, rfl⟩
      · rw [key_rl] at h; exact SeqAt.EqAt.str_int x t j u _ _ _ _ h
      · rw [key_rr] at h; exact wpAny_eqBool_str h
  «strs» := fun k x t v h => by
    rcases keyIs_shape h with ⟨i, u, rfl, e⟩ | ⟨y, u, rfl, e⟩
    · exact nomatch e
    · injection e with e1 _
      subst e1
      cases v <;> rfl

theorem mixKind_is (prog : Program) (w : World) (k : Key) (v : Value) : (mixKind prog w).is k v = keyIs k v := rfl
theorem mixKind_int (prog : Program) (w : World) (i : Int) (t : Tok) : (mixKind prog w).is (.inl i) (.int i t) = true := keyIs_int i t
theorem mixKind_str (prog : Program) (w : World) (x : Str) (t : Tok) : (mixKind prog w).is (.inr x) (.str x t) = true := keyIs_str x t
end L2

namespace L2
open PySem PySem.Spec PyProof.Rows

/-- a value, without the heap -/
inductive V where
  | non | bl (b : Bool) | int (i : Int) | str (x : Str) | byt (b : Array UInt8) | flt (b : UInt64) | ref (a : Addr) | ty (n : String)
  deriving DecidableEq

def RelV : V → Value → Prop
  | .non, u => u = Value.none
  | .bl b, u => u = Value.bool b
  | .int i, u => ∃ t, u = Value.int i t
  | .str x, u => ∃ t, u = Value.str x t
  | .byt b, u => ∃ t, u = Value.bytes b t
  | .flt b, u => ∃ t, u = Value.float b t
  | .ref a, u => u = Value.ref a
  | .ty n, u => u = Value.type n

abbrev Vals : List V → List Value → Prop := Paired RelV
theorem Vals.length {xs : List V} {us : List Value} (r : Vals xs us) : xs.length = us.length := Paired.length r
theorem Vals.get : ∀ {xs : List V} {us : List Value} {i : Nat} {x : V}, Vals xs us → xs[i]? = some x → ∃ u, us[i]? = some u ∧ RelV x u
  | _, _, _, _, .nil, e => by simp at e
  | _, _, 0, _, .cons r _, e => by simp at e; subst e; exact ⟨_, rfl, r⟩
  | _, _, i + 1, x, .cons _ t, e => by
    obtain ⟨u, h1, h2⟩ := Vals.get (i := i) (x := x) t (by simpa using e)
    exact ⟨u, by simpa using h1, h2⟩
theorem Vals.set {x : V} {u : Value} (r : RelV x u) : ∀ {xs : List V} {us : List Value} (i : Nat), Vals xs us → Vals (xs.set i x) (us.set i u)
  | _, _, _, .nil => .nil
  | _, _, 0, .cons _ t => .cons r t
  | _, _, i + 1, .cons q t => .cons q (Vals.set r i t)
theorem Vals.append : ∀ {xs ys : List V} {us ws : List Value}, Vals xs us → Vals ys ws → Vals (xs ++ ys) (us ++ ws)
  | _, _, _, _, .nil, s => s
  | _, _, _, _, .cons r t, s => .cons r (Vals.append t s)
theorem Vals.take : ∀ {xs : List V} {us : List Value} (n : Nat), Vals xs us → Vals (xs.take n) (us.take n)
  | _, _, 0, _ => .nil
  | _, _, _ + 1, .nil => .nil
  | _, _, n + 1, .cons r t => .cons r (Vals.take n t)
theorem Vals.drop : ∀ {xs : List V} {us : List Value} (n : Nat), Vals xs us → Vals (xs.drop n) (us.drop n)
  | _, _, 0, r => r
  | _, _, _ + 1, .nil => .nil
  | _, _, n + 1, .cons _ t => Vals.drop n t
theorem Vals.none_of : ∀ {xs : List V} {us : List Value} {i : Nat}, Vals xs us → xs[i]? = none → us[i]? = none := fun {xs us i} r e => by
  have h1 := r.length
  have h2 : xs.length ≤ i := List.getElem?_eq_none_iff.mp e
  exact List.getElem?_eq_none_iff.mpr (by omega)

def RelO : Option V → Option Value → Prop
  | some v, some u => RelV v u
  | none, none => True
  | _, _ => False
def KV {κ : Type} : List (κ × V) → List (κ × Value) → Prop := Paired fun (p : κ × V) (q : κ × Value) => p.1 = q.1 ∧ RelV p.2 q.2

/-- a key of a dict (00_mix): an int or a text -/
def kV : Key → V
  | .inl i => .int i
  | .inr x => .str x

/-- what stands at a tracked address -/
inductive HO where
  /-- a list -/
  | lst (xs : List V)
  /-- a tuple (never changes) -/
  | tup (xs : List V)
  /-- a dict whose keys are ints and texts; one whose keys are tuples of ints and texts (the empty one is both) -/
  | dK (kvs : List (Key × V)) | dT (kvs : List (List Key × V))
  /-- a set of ints: its members, its size -/
  | set (S : Int → Bool) (n : Nat)
  /-- an instance of the class at C, its dict at dx, its attributes -/
  | ins (C dx : Addr) (fs : List (Str × V))
  /-- the dict of the instance at x -/
  | own (x : Addr)
  /-- the dict of an exception -/
  | xd (fs : List (Str × V))
  /-- a bound method, f of x -/
  | met (f x : Addr)
  /-- a range object lo, lo + 1, .. below hi -/
  | rng (lo hi : Int)
  /-- a thing that is known to the object (the script; a dict while a loop walks it): read, never written while it is so -/
  | frz (o : Obj) (u : HO)
  /-- a code object's table -/
  | tbl (ps : Array Value)
  /-- any other thing, by what is true of its one object (a def of one's own: SetO a S n := HO.ext fun h => ..) -/
  | ext (φ : Heap → Prop)

abbrev Hp := Addr → Option HO
def upd (H : Hp) (a : Addr) (o : HO) : Hp := fun b => if b = a then some o else H b
theorem upd_same {H : Hp} {a : Addr} {o : HO} : upd H a o a = some o := by unfold upd; rw [if_pos rfl]
theorem upd_ne {H : Hp} {a b : Addr} {o : HO} (h : b ≠ a) : upd H a o b = H b := by unfold upd; rw [if_neg h]
theorem upd_upd {H : Hp} {a : Addr} {o u : HO} : upd (upd H a o) a u = upd H a u := by
  funext b; unfold upd; split <;> rfl
/-- two objects of different content stand apart -/
theorem ne_of {H : Hp} {a b : Addr} {o u : HO} (h : H a = some o) (h' : H b = some u) (d : o ≠ u) : a ≠ b := by
  intro e; subst e; rw [h] at h'; exact d (Option.some.inj h')
theorem ne_of_none {H : Hp} {a b : Addr} {o : HO} (h : H a = some o) (h' : H b = none) : a ≠ b := by
  intro e; subst e; rw [h] at h'; cases h'

section
variable (P : Program) (w : World)
def ObjOk (H : Hp) (h : Heap) (a : Addr) : HO → Prop
  | .lst xs => xs.length ≤ sizeLine ∧ ∃ (its : List Value) (n : Nat), Vals xs its ∧ h.get? a = some { cls := .type "list", data := .seq its.toArray n }
  | .tup xs => xs.length ≤ sizeLine ∧ ∃ its : List Value, Vals xs its ∧ IsTup h a its.toArray
  | .dK kvs => kvs.length ≤ sizeLine ∧ (a == sysModules) = false ∧ ∃ vs, KV kvs vs ∧ h.DictOf (mixKind P w) a vs
  | .dT kvs => kvs.length ≤ sizeLine ∧ (a == sysModules) = false ∧ ∃ xs : List (List Key × Addr × Value),
      Paired (fun (p : List Key × V) (q : List Key × Addr × Value) => p.1 = q.1 ∧ H q.2.1 = some (.tup (p.1.map kV)) ∧ RelV p.2 q.2.2) kvs xs ∧
      ∃ o es ep, h.get? a = some o ∧ o.ExactDict ∧ o.data = .dict es ep ∧ es.toList = xs.map (entryOfKey (tupleKind (mixKind P w))) ∧ (xs.map (·.1)).Nodup
  | .set S n => h.SetOf (intKind P w) a S n
  | .ins C dx fs => H dx = some (.own a) ∧ fs.length ≤ 1000 ∧ dx ≠ a ∧ h.get? a = some (PySem.W.instObj C dx) ∧
      ∃ mA, h.Ns1 dx mA ∧ (∀ f, RelO (fs.lookup f) (mA f)) ∧ PySem.Within mA (fs.map (·.1))
  | .own _ => ∃ o, h.get? a = some o
  | .xd fs => ∃ mA, h.Ns1 a mA ∧ ∀ f, RelO (fs.lookup f) (mA f)
  | .rng lo hi => ∃ t u v, h.get? a = some { cls := .type "range", data := .fields #[.int lo t, .int hi u, .int 1 v] }
  | .frz o u => h.get? a = some o ∧ ObjOk H h a u
  | .tbl ps => h.get? a = some { cls := .none, data := .fields ps }
  | .met f x => h.get? a = some (PySem.W.methodObj (.ref f) (.ref x))
  | .ext φ => φ h ∧ (∃ o, h.get? a = some o) ∧ ∀ h1 h2 : Heap, φ h1 → (∀ o, h1.get? a = some o → h2.get? a = some o) → φ h2
/-- the abstract heap is held -/
def HOk (H : Hp) (h : Heap) : Prop := ∀ a o, H a = some o → ObjOk P w H h a o
end

section
variable {P : Program} {w : World} {H H' : Hp} {h h' : Heap} {a : Addr} {o : HO}
theorem ObjOk.lt (x : ObjOk P w H h a o) : a < h.objs.size := by
  cases o with
  | lst xs => obtain ⟨_, _, _, _, e⟩ := x; exact Heap.lt_size e
  | tup xs => obtain ⟨_, _, _, p⟩ := x; exact p.lt
  | dK kvs => obtain ⟨_, _, _, _, o, _, _, e, _⟩ := x; exact Heap.lt_size e
  | dT kvs => obtain ⟨_, _, _, _, o, _, _, e, _⟩ := x; exact Heap.lt_size e
  | set S n => obtain ⟨o, _, _, _, e, _⟩ := x; exact Heap.lt_size e
  | ins C dx fs => obtain ⟨_, _, _, e, _⟩ := x; exact Heap.lt_size e
  | own y => obtain ⟨_, e⟩ := x; exact Heap.lt_size e
  | xd fs => obtain ⟨_, ⟨_, _, _, e, _⟩, _⟩ := x; exact Heap.lt_size e
  | rng lo hi => obtain ⟨_, _, _, e⟩ := x; exact Heap.lt_size e
  | frz ob u => obtain ⟨e, _⟩ := x; exact Heap.lt_size e
  | tbl ps => exact Heap.lt_size (show h.get? a = some _ from x)
  | met f y => exact Heap.lt_size (show h.get? a = some _ from x)
  | ext φ => obtain ⟨_, ⟨_, e⟩, _⟩ := x; exact Heap.lt_size e
theorem Paired.mapP {α β : Type} {F G : α → β → Prop} : ∀ {l₁ : List α} {l₂ : List β}, Paired F l₁ l₂ → (∀ a b, F a b → G a b) → Paired G l₁ l₂
  | _, _, .nil, _ => .nil
  | _, _, .cons r t, f => .cons (f _ _ r) (Paired.mapP t f)
theorem Paired.imp' {α β : Type} {F G : α → β → Prop} (f : ∀ a b, F a b → G a b) {l₁ : List α} {l₂ : List β} (r : Paired F l₁ l₂) : Paired G l₁ l₂ := Paired.mapP r f
/-- what an object's description leans on: its own object, its own dict, the tuples -/
theorem ObjOk.stay (x : ObjOk P w H h a o) (k : ∀ b u, (b = a ∨ H b = some (.own a)) → h.get? b = some u → h'.get? b = some u)
    (ho : ∀ b, H b = some (.own a) → H' b = some (.own a)) (ht : ∀ b xs, H b = some (.tup xs) → H' b = some (.tup xs)) : ObjOk P w H' h' a o := by
  induction o with
  | lst xs => obtain ⟨z, its, n, r, e⟩ := x; exact ⟨z, its, n, r, k _ _ (.inl rfl) e⟩
  | tup xs => obtain ⟨z, its, r, ob, e, c⟩ := x; exact ⟨z, its, r, ob, k _ _ (.inl rfl) e, c⟩
  | dK kvs => obtain ⟨z, y, vs, r, ob, es, ep, e, c⟩ := x; exact ⟨z, y, vs, r, ob, es, ep, k _ _ (.inl rfl) e, c⟩
  | dT kvs =>
    obtain ⟨z, y, xs, r, ob, es, ep, e, c⟩ := x
    exact ⟨z, y, xs, Paired.mapP r fun p q z => ⟨z.1, ht _ _ z.2.1, z.2.2⟩, ob, es, ep, k _ _ (.inl rfl) e, c⟩
  | set S n => obtain ⟨ob, es, ep, t, e, c⟩ := x; exact ⟨ob, es, ep, t, k _ _ (.inl rfl) e, c⟩
  | ins C dx fs =>
    obtain ⟨d, z, ne, e, mA, ⟨od, es, ep, e2, c⟩, r⟩ := x
    exact ⟨ho _ d, z, ne, k _ _ (.inl rfl) e, mA, ⟨od, es, ep, k _ _ (.inr d) e2, c⟩, r⟩
  | own y => obtain ⟨ob, e⟩ := x; exact ⟨ob, k _ _ (.inl rfl) e⟩
  | xd fs => obtain ⟨mA, ⟨od, es, ep, e, c⟩, r⟩ := x; exact ⟨mA, ⟨od, es, ep, k _ _ (.inl rfl) e, c⟩, r⟩
  | rng lo hi => obtain ⟨t, u, v, e⟩ := x; exact ⟨t, u, v, k _ _ (.inl rfl) e⟩
  | frz ob u ih => obtain ⟨e, q⟩ := x; exact ⟨k _ _ (.inl rfl) e, ih q⟩
  | tbl ps =>
    have e : h.get? a = some { cls := .none, data := .fields ps } := x
    show h'.get? a = some { cls := .none, data := .fields ps }
    exact k a _ (.inl rfl) e
  | met f y =>
    have e : h.get? a = some (PySem.W.methodObj (.ref f) (.ref y)) := x
    show h'.get? a = some (PySem.W.methodObj (.ref f) (.ref y))
    exact k a _ (.inl rfl) e
  | ext φ => obtain ⟨p, ⟨o, e⟩, st⟩ := x; exact ⟨st _ _ p fun o q => k _ _ (.inl rfl) q, ⟨o, k _ _ (.inl rfl) e⟩, st⟩
theorem HOk.lt (x : HOk P w H h) (e : H a = some o) : a < h.objs.size := (x a o e).lt
theorem HOk.fresh (x : HOk P w H h) (e : h.objs.size ≤ a) : H a = none := by
  cases q : H a with
  | none => rfl
  | some u => exact absurd (Nat.lt_of_lt_of_le (x.lt q) e) (Nat.lt_irrefl _)
/-- every object of the heap is kept -/
theorem HOk.kept (x : HOk P w H h) (k : ∀ b u, h.get? b = some u → h'.get? b = some u) : HOk P w H h' := fun a o e =>
  (x a o e).stay (fun b u _ q => k b u q) (fun _ q => q) fun _ _ q => q
/-- a new object is laid and tracked -/
theorem HOk.laid (x : HOk P w H h) (k : ∀ b u, h.get? b = some u → h'.get? b = some u) (hp : h.objs.size ≤ a) (new : ObjOk P w (upd H a o) h' a o) : HOk P w (upd H a o) h' := fun b u e => by
  have hn := x.fresh hp
  by_cases hb : b = a
  · subst hb; rw [upd_same] at e; cases e; exact new
  · rw [upd_ne hb] at e
    exact (x b u e).stay (fun c v _ q => k c v q) (fun c q => by rw [upd_ne (ne_of_none q hn)]; exact q) fun c xs q => by rw [upd_ne (ne_of_none q hn)]; exact q
end

/-- what may be read as u: it is u, or a known u -/
def Rd (H : Hp) (a : Addr) (u : HO) : Prop := H a = some u ∨ ∃ o, H a = some (.frz o u)
theorem Rd.of {H : Hp} {a : Addr} {u : HO} (h : H a = some u) : Rd H a u := .inl h
theorem Rd.ok {P : Program} {w : World} {H : Hp} {h : Heap} {a : Addr} {u : HO} (r : Rd H a u) (x : HOk P w H h) : ObjOk P w H h a u := by
  rcases r with r | ⟨o, r⟩
  · exact x a u r
  · obtain ⟨_, q⟩ := x a _ r
    exact q
/-- what may be written -/
def Mut : Option HO → Prop
  | some (.lst _) => True
  | some (.dK _) => True
  | some (.dT _) => True
  | some (.set _ _) => True
  | some (.ins _ _ _) => True
  | some (.ext _) => True
  | _ => False
section
variable {P : Program} {w : World} {H : Hp} {h h' : Heap} {x e : Addr} {o' : HO}
/-- the object at e is changed: x itself, or the dict of the instance x -/
theorem HOk.write (ok : HOk P w H h) (mu : Mut (H x)) (he : e = x ∨ H e = some (.own x)) (k : ∀ b u, b ≠ e → h.get? b = some u → h'.get? b = some u) (heo : ∃ u, h'.get? e = some u)
    (new : ObjOk P w (upd H x o') h' x o') : HOk P w (upd H x o') h' := fun b u q => by
  have nown : ∀ c y, H c = some (.own y) → c ≠ x := fun c y r z => by subst z; rw [r] at mu; exact mu
  have ntup : ∀ c xs, H c = some (.tup xs) → c ≠ x := fun c xs r z => by subst z; rw [r] at mu; exact mu
  by_cases hb : b = x
  · subst hb; rw [upd_same] at q; cases q; exact new
  · rw [upd_ne hb] at q
    by_cases hbe : b = e
    · have q' : H b = some (.own x) := by
        rcases he with z | z
        · exact absurd (hbe.trans z) hb
        · rw [hbe]; exact z
      rw [q] at q'; cases q'
      obtain ⟨v, hv⟩ := heo
      exact ⟨v, by rw [hbe]; exact hv⟩
    · refine (ok b u q).stay (fun c v hc r => k c v ?_ r) (fun c r => by rw [upd_ne (nown c b r)]; exact r) fun c xs r => by rw [upd_ne (ntup c xs r)]; exact r
      rcases hc with rfl | hc
      · exact hbe
      · rintro rfl
        rcases he with z | z
        · exact nown c b hc z
        · rw [hc] at z; cases z; exact hb rfl
end

/-! ### kept unless tracked; of the frames at fs (the callers') the slots may change (an exception that passes writes there); of the records at ex (iterators) nothing is said -/
structure Un (fs ex : List Addr) (H H' : Hp) (h h' : Heap) : Prop where
  keep : ∀ b o, h.get? b = some o → H b = none → b ∉ fs → b ∉ ex → h'.get? b = some o
  slot : ∀ b o, h.get? b = some o → H b = none → b ∈ fs → b ∉ ex → ∃ sl, h'.get? b = some { o with slots := sl }
  free : ∀ b o, h.get? b = some o → H b = none → b ∉ ex → H' b = none
  there : ∀ b o, h.get? b = some o → b ∉ ex → ∃ o', h'.get? b = some o'
  tups : ∀ b xs, H b = some (.tup xs) → H' b = some (.tup xs)
  frzs : ∀ b o u, H b = some (.frz o u) → H' b = some (.frz o u)
  tbls : ∀ b ps, H b = some (.tbl ps) → ∃ more, H' b = some (.tbl (ps ++ more))
section
variable {fs fs' ex ex' : List Addr} {H H1 H2 : Hp} {h h1 h2 h' : Heap} {a x e : Addr} {o : HO}
theorem Un.any (u : Un fs ex H H1 h h1) {b : Addr} {ob : Obj} (q : h.get? b = some ob) (n : H b = none) (hx : b ∉ ex) : ∃ sl, h1.get? b = some { ob with slots := sl } := by
  by_cases hb : b ∈ fs
  · exact u.slot b ob q n hb hx
  · exact ⟨ob.slots, u.keep b ob q n hb hx⟩
theorem Un.trans (a : Un fs ex H H1 h h1) (b : Un fs ex H1 H2 h1 h2) : Un fs ex H H2 h h2 where
  keep := fun c ob q n hc hx => b.keep c ob (a.keep c ob q n hc hx) (a.free c ob q n hx) hc hx
  slot := fun c ob q n hc hx => by
    obtain ⟨sl, e1⟩ := a.slot c ob q n hc hx
    obtain ⟨sl', e2⟩ := b.slot c _ e1 (a.free c ob q n hx) hc hx
    exact ⟨sl', e2⟩
  free := fun c ob q n hx => by
    obtain ⟨o', e1⟩ := a.there c ob q hx
    exact b.free c o' e1 (a.free c ob q n hx) hx
  there := fun c ob q hx => by
    obtain ⟨o', e1⟩ := a.there c ob q hx
    exact b.there c o' e1 hx
  tups := fun c xs q => b.tups c xs (a.tups c xs q)
  frzs := fun c ob xs q => b.frzs c ob xs (a.frzs c ob xs q)
  tbls := fun c ps q => by
    obtain ⟨m1, e1⟩ := a.tbls c ps q
    obtain ⟨m2, e2⟩ := b.tbls c _ e1
    exact ⟨m1 ++ m2, by rw [e2, Array.append_assoc]⟩
theorem Un.kept (k : ∀ b u, h.get? b = some u → h'.get? b = some u) : Un fs ex H H h h' :=
  ⟨fun b ob q _ _ _ => k b ob q, fun b ob q _ _ _ => ⟨ob.slots, k b ob q⟩, fun _ _ _ n _ => n, fun b ob q _ => ⟨ob, k b ob q⟩, fun _ _ q => q, fun _ _ _ q => q, fun _ ps q => ⟨#[], by rw [q]; simp⟩⟩
theorem Un.refl : Un fs ex H H h h := Un.kept fun _ _ q => q
theorem Un.laid (k : ∀ b u, h.get? b = some u → h'.get? b = some u) (hp : h.objs.size ≤ a) (hn : H a = none) : Un fs ex H (upd H a o) h h' where
  keep := fun b u q _ _ _ => k b u q
  slot := fun b u q _ _ _ => ⟨u.slots, k b u q⟩
  free := fun b u q n _ => by rw [upd_ne (Nat.ne_of_lt (Nat.lt_of_lt_of_le (Heap.lt_size q) hp))]; exact n
  there := fun b u q _ => ⟨u, k b u q⟩
  tups := fun b xs q => by rw [upd_ne (ne_of_none q hn)]; exact q
  frzs := fun b u xs q => by rw [upd_ne (ne_of_none q hn)]; exact q
  tbls := fun b ps q => ⟨#[], by rw [upd_ne (ne_of_none q hn), q]; simp⟩
theorem Un.write (mu : Mut (H x)) (he : e = x ∨ H e = some (.own x)) (k : ∀ b u, b ≠ e → h.get? b = some u → h'.get? b = some u) (heo : ∃ u, h'.get? e = some u) : Un fs ex H (upd H x o) h h' := by
  have hx : ∀ b, H b = none → b ≠ x := fun b n z => by subst z; rw [n] at mu; exact mu
  have hb : ∀ b, H b = none → b ≠ e := fun b n z => by
    subst z
    rcases he with r | r
    · exact hx b n r
    · rw [n] at r; cases r
  have hm : ∀ b u, H b = some u → ¬ Mut (some u) → b ≠ x := fun b u q nm z => by subst z; rw [q] at mu; exact nm mu
  refine ⟨fun b u q n _ _ => k b u (hb b n) q, fun b u q n _ _ => ⟨u.slots, k b u (hb b n) q⟩, fun b u q n _ => by rw [upd_ne (hx b n)]; exact n, fun b u q _ => ?_,
    fun b xs q => by rw [upd_ne (hm b _ q fun z => z)]; exact q, fun b u xs q => by rw [upd_ne (hm b _ q fun z => z)]; exact q, fun b ps q => ⟨#[], by rw [upd_ne (hm b _ q fun z => z), q]; simp⟩⟩
  by_cases hbe : b = e
  · subst hbe; exact heo
  · exact ⟨u, k b u hbe q⟩
theorem Un.mono (u : Un fs ex H H1 h h1) (hs : ∀ b ∈ fs, b ∈ fs') (hx : ∀ b ∈ ex, b ∈ ex') : Un fs' ex' H H1 h h1 :=
  ⟨fun b ob q n hb he => u.keep b ob q n (fun z => hb (hs b z)) fun z => he (hx b z), fun _ _ q n _ he => u.any q n fun z => he (hx _ z), fun b ob q n he => u.free b ob q n fun z => he (hx b z), fun b ob q he => u.there b ob q fun z => he (hx b z), u.tups, u.frzs, u.tbls⟩
end

/-! ### the heap without what is tracked -/
def trk (h : Heap) (H : Hp) : List Addr := (List.range h.objs.size).filter fun a => (H a).isSome
def hidT (h : Heap) (H : Hp) : Heap := PySem.W.hideAll h (trk h H)
theorem hidT_size (h : Heap) (H : Hp) : (hidT h H).objs.size = h.objs.size := PySem.W.hideAll_size _ _
theorem hidT_get {h : Heap} {H : Hp} {b : Addr} {o : Obj} (e : h.get? b = some o) (n : H b = none) : (hidT h H).get? b = some o :=
  PySem.W.hideAll_get _ e fun hm => by
    have q : (H b).isSome = true := (List.mem_filter.mp hm).2
    rw [n] at q; simp at q
theorem of_hidT {h : Heap} {H : Hp} {b : Addr} {o : Obj} (e : (hidT h H).get? b = some o) : h.get? b = some o ∧ H b = none := by
  have e' : h.get? b = some o := PySem.W.of_hideAll (trk h H) e
  refine ⟨e', ?_⟩
  cases q : H b with
  | none => rfl
  | some x =>
    have hm : b ∈ trk h H := List.mem_filter.mpr ⟨List.mem_range.mpr (Heap.lt_size e'), by simp [q]⟩
    have z : (hidT h H).get? b = none := PySem.W.hideAll_none (trk h H) hm
    rw [z] at e; cases e

/-! ### OpenK's ledger, filled with every new object but one -/
def allNews (g h : Heap) (L : Addr) : List (Addr × Obj) := (List.range h.objs.size).filterMap fun a => if a = L ∨ (g.get? a).isSome = true then none else (h.get? a).map fun o => (a, o)
theorem mem_allNews {g h : Heap} {L a : Addr} {o : Obj} (h1 : a ≠ L) (h2 : g.get? a = none) (h3 : h.get? a = some o) : (a, o) ∈ allNews g h L :=
  List.mem_filterMap.mpr ⟨a, List.mem_range.mpr (Heap.lt_size h3), by simp [h1, h2, h3]⟩
theorem of_mem_allNews {g h : Heap} {L : Addr} {p : Addr × Obj} (hp : p ∈ allNews g h L) : p.1 ≠ L ∧ g.get? p.1 = none ∧ h.get? p.1 = some p.2 := by
  obtain ⟨b, _, e⟩ := List.mem_filterMap.mp hp
  split at e
  · cases e
  · rename_i hn
    cases q : h.get? b with
    | none => rw [q] at e; simp at e
    | some u =>
      rw [q] at e
      simp only [Option.map_some, Option.some.injEq] at e
      subst e
      refine ⟨fun z => hn (.inl z), ?_, q⟩
      show g.get? b = none
      cases r : g.get? b with
      | none => rfl
      | some v => exact (hn (.inr (by simp [r]))).elim
def rest (g h : Heap) (L d : Addr) : List (Addr × Obj) := (allNews g h L).filter fun p => decide (p.1 ≠ d)
theorem rest_ne {g h : Heap} {L d : Addr} : ∀ p ∈ rest g h L d, p.1 ≠ d := fun p hp => of_decide_eq_true (List.mem_filter.mp hp).2
theorem mem_rest {g h : Heap} {L d a : Addr} {o : Obj} (h1 : a ≠ L) (h2 : g.get? a = none) (h3 : h.get? a = some o) (h4 : a ≠ d) : (a, o) ∈ rest g h L d :=
  List.mem_filter.mpr ⟨mem_allNews h1 h2 h3, decide_eq_true h4⟩
theorem news_all {g h : Heap} {L : Addr} : News g L h (allNews g h L) := fun p hp => let ⟨a, b, c⟩ := of_mem_allNews hp; ⟨c, a, b⟩
theorem news_at {g h : Heap} {L d : Addr} {o : Obj} (h1 : d ≠ L) (h2 : g.get? d = none) (h3 : h.get? d = some o) : News g L h ((d, o) :: rest g h L d) := fun p hp => by
  rcases List.mem_cons.mp hp with rfl | hp
  · exact ⟨h3, h1, h2⟩
  · exact news_all p (List.mem_filter.mp hp).1
/-- behind a rule that changed d alone: all else but the frame is kept -/
theorem kept_of_news {g h h' : Heap} {L d : Addr} {m : Str → Option Value} (k : ∀ b o, g.get? b = some o → h.get? b = some o) (F : Fr g L h' m) (N : News g L h' (rest g h L d)) :
    ∀ b o, b ≠ L → b ≠ d → h.get? b = some o → h'.get? b = some o := fun b o h1 h2 e => by
  cases q : g.get? b with
  | some u =>
    have := k b u q
    rw [e] at this; cases this
    exact F.keep b _ q
  | none => exact (N (b, o) (mem_rest h1 q e h2)).1
end L2

namespace L2
open PySem PySem.Spec PyProof.Rows

/-- the module's facts, over the base: the heap at the law's entry without what is tracked there -/
structure Mod (K : PySem.W.Frag) (mg : Str → Option Value) (base : Heap) : Prop where
  kin : K.In base
  glob : base.Ns mainGlobals mg
  blt : ∃ mb, base.Ns builtinsNs mb ∧ ∀ x : Str, x ≠ "__name__" → mb x = bootBuiltins x
  nolimit : base.NoLimit

/-- the context: a def's body (or a comprehension's block) running. base: fixed through the whole law; s₀, H₀: the entry; outer: the frames whose slots others may change (a def's callers); stack: all frames that run;
   ex: iterators that were made ahead of the entry and are walked here (a comprehension's); fn: the names whose cells were made at the entry (a def: all; a comprehension's block: its own); calm: not within an except suite; pn: pins that every state bears; xe: what is wanted of an exception that leaves the code -/
structure Cx where
  prog : Program
  w : World
  K : PySem.W.Frag
  mg : Str → Option Value
  base : Heap
  A : Around
  N : List Str
  s₀ : Shared
  H₀ : Hp
  env : Env
  outer : List Env
  stack : List Env
  ex : List Addr
  fn : Str → Bool
  calm : Bool
  pn : List (Addr × Obj)
  xe : Value → Shared → Prop
/-- the callers' frames -/
def frs (l : List Env) : List Addr := l.filterMap (·.frame)
abbrev Cx.fs (X : Cx) : List Addr := frs X.outer

def Vis (sc : Scope) (x : Str) : Prop := sc.names.lookup x = some .local ∨ sc.names.lookup x = some .cell ∨ sc.names.lookup x = some .free
def Loc (sc : Scope) (x : Str) : Prop := sc.names.lookup x = some .local ∨ sc.names.lookup x = some .cell
def Look (env : Env) (h : Heap) (m : Str → Option Value) (x : Str) (u : Value) : Prop :=
  (env.kindOf x = some .local ∧ m x = some u) ∨ ((env.kindOf x = some .cell ∨ env.kindOf x = some .free) ∧ ∃ c, env.cells.lookup x = some c ∧ h.IsCell c (some u))

structure Cx.Ok (X : Cx) : Prop where
  mod : Mod X.K X.mg X.base
  kind : X.env.scope.kind = .function
  glob : X.env.globals = mainGlobals
  blt : X.env.builtins = builtinsNs
  above : X.s₀.heap.objs.size ≤ X.env.locals
  inj : ∀ x y c, X.env.cells.lookup x = some c → X.env.cells.lookup y = some c → x = y
  has : ∀ x, (X.env.kindOf x = some .cell ∨ X.env.kindOf x = some .free) → ∃ c, X.env.cells.lookup x = some c
  cab : ∀ x c, X.fn x = true → X.env.cells.lookup x = some c → X.s₀.heap.objs.size ≤ c
  hd : X.calm = true → X.A.handled = none
  frames : X.A.frames = some X.stack
  stk : X.stack = X.outer ∨ (X.stack = X.env :: X.outer ∧ X.env.frame = some X.env.locals)
  exf : ∀ b ∈ X.ex, b ≠ X.env.locals ∧ ∀ x c, X.env.cells.lookup x = some c → c ≠ b
  bs : ∀ b o, X.base.get? b = some o → X.s₀.heap.get? b = some o ∧ X.H₀ b = none
  bsz : X.base.objs.size ≤ X.s₀.heap.objs.size
  noex : ∀ b o, X.base.get? b = some o → b ∉ X.ex
  exfs : ∀ b ∈ X.ex, b ∉ X.fs
  funs : X.s₀.heap.FunFrames X.base X.outer
  frf : ∀ b ∈ X.fs, X.H₀ b = none

structure Inv (X : Cx) (pins : List (Addr × Obj)) (σ : List (Option V)) (H : Hp) (s : Shared) : Prop where
  ok : X.Ok
  os : s.os = X.s₀.os
  bare : AllBare s.gens
  base : Un X.fs X.ex X.H₀ H X.s₀.heap s.heap
  loc : ∃ m, s.heap.Ns X.env.locals m ∧ ∀ (i : Nat) (x : Str) (v : V), X.N[i]? = some x → σ[i]? = some (some v) → Vis X.env.scope x → ∃ u, RelV v u ∧ Look X.env s.heap m x u
  cell : ∀ x c, X.env.cells.lookup x = some c → ∃ v, s.heap.IsCell c v
  free : H X.env.locals = none
  freeC : ∀ x c, X.env.cells.lookup x = some c → H c = none
  pin : ∀ p ∈ X.pn ++ pins, s.heap.get? p.1 = some p.2 ∧ H p.1 = none ∧ p.1 ≠ X.env.locals ∧ p.1 ∉ X.fs ∧ ∀ v, p.2.data ≠ .cell v
  hok : HOk X.prog X.w H s.heap
  len : σ.length = X.N.length

section
variable {X : Cx} {pins : List (Addr × Obj)} {σ : List (Option V)} {H H' : Hp} {s : Shared} {h' : Heap}

theorem Cx.Ok.nofr (ok : X.Ok) {b : Addr} {o : Obj} (e : X.base.get? b = some o) : b ∉ X.fs := fun hb => by
  have := (ok.funs.mem hb).1
  rw [e] at this; cases this
theorem Inv.bs (I : Inv X pins σ H s) : ∀ b o, X.base.get? b = some o → s.heap.get? b = some o ∧ H b = none := fun b o e =>
  ⟨I.base.keep b o (I.ok.bs b o e).1 (I.ok.bs b o e).2 (I.ok.nofr e) (I.ok.noex b o e), I.base.free b o (I.ok.bs b o e).1 (I.ok.bs b o e).2 (I.ok.noex b o e)⟩
theorem Inv.bk (I : Inv X pins σ H s) : ∀ b o, X.base.get? b = some o → s.heap.get? b = some o := fun b o e => (I.bs b o e).1
theorem Inv.mod (I : Inv X pins σ H s) : Mod X.K X.mg X.base := I.ok.mod
theorem Inv.kIn (I : Inv X pins σ H s) : X.K.In s.heap := I.ok.mod.kin.keeps I.bk
theorem Inv.nolimit (I : Inv X pins σ H s) : s.heap.NoLimit := I.ok.mod.nolimit.keeps I.bk
/-- the frame over the base: for OpenK's rules (K.In X.base is I.mod.kin) -/
theorem Inv.fr (I : Inv X pins σ H s) : ∃ m, Fr X.base X.env.locals s.heap m :=
  let ⟨m, hn, _⟩ := I.loc
  ⟨m, hn, I.bk, Nat.le_trans I.ok.bsz I.ok.above⟩
theorem Inv.lt (I : Inv X pins σ H s) : X.env.locals < s.heap.objs.size := let ⟨_, hn, _⟩ := I.loc; hn.lt
theorem Inv.sz (I : Inv X pins σ H s) : X.s₀.heap.objs.size ≤ s.heap.objs.size := Nat.le_trans I.ok.above (Nat.le_of_lt I.lt)
theorem Inv.nofs (I : Inv X pins σ H s) {a : Addr} (h : s.heap.objs.size ≤ a) : a ∉ X.fs := fun hb => by
  obtain ⟨_, o, ho, _⟩ := I.ok.funs.mem hb
  exact absurd (Nat.lt_of_lt_of_le (Heap.lt_size ho) (Nat.le_trans I.sz h)) (Nat.lt_irrefl _)
theorem Inv.cne (I : Inv X pins σ H s) : ∀ x c, X.env.cells.lookup x = some c → c ≠ X.env.locals := fun x c e z => by
  obtain ⟨v, o, ho, hd⟩ := I.cell x c e
  obtain ⟨m, ⟨o', es, ep, ho', hd', _⟩, _⟩ := I.loc
  rw [z, ho'] at ho; cases ho; rw [hd'] at hd; cases hd
theorem Inv.funs (I : Inv X pins σ H s) : s.heap.FunFrames X.base X.outer := by
  have all : ∀ (l : List Env), (∀ b ∈ frs l, b ∈ X.fs) → X.s₀.heap.FunFrames X.base l → s.heap.FunFrames X.base l := by
    intro l
    induction l with
    | nil => intro _ _; trivial
    | cons env r ih =>
      intro hs hl
      obtain ⟨hk, ⟨L, o, hf, hn, ho, hd⟩, hr⟩ := hl
      have hL : L ∈ X.fs := hs L (by unfold frs; rw [List.filterMap_cons, hf]; exact List.mem_cons_self)
      obtain ⟨sl, e⟩ := I.base.slot L o ho (I.ok.frf L hL) hL fun z => I.ok.exfs L z hL
      exact ⟨hk, ⟨L, _, hf, hn, e, hd⟩, ih (fun b hb => hs b (by unfold frs; rw [List.filterMap_cons, hf]; exact List.mem_cons_of_mem _ hb)) hr⟩
  exact all X.outer (fun _ hb => hb) I.ok.funs

/-- the frames that run, for a call -/
theorem Inv.stack (I : Inv X pins σ H s) : s.heap.FunFrames X.base X.stack := by
  rcases I.ok.stk with e | ⟨e, hf⟩
  · rw [e]; exact I.funs
  · rw [e]
    obtain ⟨m, hn, _⟩ := I.loc
    refine .cons (by rw [I.ok.kind]; decide) hf hn ?_ I.funs
    exact Heap.get?_none_of_le (Nat.le_trans I.ok.bsz I.ok.above)
theorem Inv.stkSub (I : Inv X pins σ H s) : ∀ b ∈ frs X.stack, b ∈ X.env.locals :: X.fs := fun b hb => by
  rcases I.ok.stk with e | ⟨e, hf⟩
  · rw [e] at hb; exact List.mem_cons_of_mem _ hb
  · rw [e] at hb
    unfold frs at hb
    rw [List.filterMap_cons, hf] at hb
    exact hb
theorem Inv.stkFree (I : Inv X pins σ H s) : ∀ b ∈ frs X.stack, H b = none := fun b hb => by
  rcases List.mem_cons.mp (I.stkSub b hb) with e | hb
  · rw [e]; exact I.free
  · obtain ⟨_, o, ho, _⟩ := I.ok.funs.mem hb
    exact I.base.free b o ho (I.ok.frf b hb) fun z => I.ok.exfs b z hb

/-- THE STEP: the untracked objects but the frame and the records at ch are kept (the callers' frames up to slots), the frame's map is kept, the new abstract heap is held -/
theorem Inv.step {g' : Array GenState} {t' : Nat} {d' : Drawn} {ch : List Addr} (I : Inv X pins σ H s)
    (hch : ∀ b ∈ ch, (b ∈ X.ex ∨ X.s₀.heap.objs.size ≤ b) ∧ b ≠ X.env.locals ∧ (∀ x c, X.env.cells.lookup x = some c → c ≠ b) ∧ ∀ p ∈ X.pn ++ pins, p.1 ≠ b)
    (keep : ∀ b o, b ≠ X.env.locals → b ∉ X.fs → b ∉ ch → s.heap.get? b = some o → H b = none → h'.get? b = some o)
    (slot : ∀ b o, b ≠ X.env.locals → b ∈ X.fs → b ∉ ch → s.heap.get? b = some o → H b = none → ∃ sl, h'.get? b = some { o with slots := sl }) (free : ∀ b o, b ∉ ch → s.heap.get? b = some o → H b = none → H' b = none)
    (there : ∀ b o, b ∉ ch → s.heap.get? b = some o → ∃ o', h'.get? b = some o')
    (tups : ∀ b xs, H b = some (.tup xs) → H' b = some (.tup xs)) (frzs : ∀ b o u, H b = some (.frz o u) → H' b = some (.frz o u)) (tbls : ∀ b ps, H b = some (.tbl ps) → ∃ more, H' b = some (.tbl (ps ++ more)))
    (ns : ∀ m, s.heap.Ns X.env.locals m → h'.Ns X.env.locals m) (hok : HOk X.prog X.w H' h') (hg : AllBare g') :
    Inv X pins σ H' { s with heap := h', gens := g', drawn := d', toks := t' } := by
  have neL : ∀ b o, X.s₀.heap.get? b = some o → b ≠ X.env.locals := fun b o e => Nat.ne_of_lt (Nat.lt_of_lt_of_le (Heap.lt_size e) I.ok.above)
  have neC : ∀ b o, X.s₀.heap.get? b = some o → b ∉ X.ex → b ∉ ch := fun b o e hx hb => by
    rcases (hch b hb).1 with z | z
    · exact hx z
    · exact absurd (Nat.lt_of_lt_of_le (Heap.lt_size e) z) (Nat.lt_irrefl _)
  have cellK : ∀ x c, X.env.cells.lookup x = some c → ∀ v, s.heap.IsCell c v → h'.IsCell c v := fun x c e v ⟨o, ho, hd⟩ => by
    have nch : c ∉ ch := fun z => (hch c z).2.2.1 x c e rfl
    by_cases hc : c ∈ X.fs
    · obtain ⟨sl, q⟩ := slot c o (I.cne x c e) hc nch ho (I.freeC x c e)
      exact ⟨_, q, hd⟩
    · exact ⟨o, keep c o (I.cne x c e) hc nch ho (I.freeC x c e), hd⟩
  refine ⟨I.ok, I.os, hg, ⟨fun b o e n hb hx => ?_, fun b o e n hb hx => ?_, fun b o e n hx => ?_, fun b o e hx => ?_, fun b xs e => tups b xs (I.base.tups b xs e), fun b o xs e => frzs b o xs (I.base.frzs b o xs e), fun b ps e => ?_⟩, ?_, fun x c e => ?_, ?_, fun x c e => ?_, fun p hp => ?_, hok, I.len⟩
  · exact keep b o (neL b o e) hb (neC b o e hx) (I.base.keep b o e n hb hx) (I.base.free b o e n hx)
  · obtain ⟨sl, e1⟩ := I.base.slot b o e n hb hx
    obtain ⟨sl', e2⟩ := slot b _ (neL b o e) hb (neC b o e hx) e1 (I.base.free b o e n hx)
    exact ⟨sl', e2⟩
  · obtain ⟨o', e1⟩ := I.base.there b o e hx
    exact free b o' (neC b o e hx) e1 (I.base.free b o e n hx)
  · obtain ⟨o', e1⟩ := I.base.there b o e hx
    exact there b o' (neC b o e hx) e1
  · obtain ⟨m1, e1⟩ := I.base.tbls b ps e
    obtain ⟨m2, e2⟩ := tbls b _ e1
    exact ⟨m1 ++ m2, by rw [e2, Array.append_assoc]⟩
  · obtain ⟨m, hn, hl⟩ := I.loc
    refine ⟨m, ns m hn, fun i x v e1 e2 e3 => ?_⟩
    obtain ⟨u, r, l⟩ := hl i x v e1 e2 e3
    refine ⟨u, r, ?_⟩
    rcases l with l | ⟨k, c, e, z⟩
    · exact .inl l
    · exact .inr ⟨k, c, e, cellK x c e _ z⟩
  · obtain ⟨v, z⟩ := I.cell x c e
    exact ⟨v, cellK x c e v z⟩
  · obtain ⟨m, ⟨o, _, _, ho, _⟩, _⟩ := I.loc
    exact free _ o (fun z => (hch _ z).2.1 rfl) ho I.free
  · obtain ⟨v, o, ho, hd⟩ := I.cell x c e
    exact free c o (fun z => (hch c z).2.2.1 x c e rfl) ho (I.freeC x c e)
  · obtain ⟨e, n, ne, nf, d⟩ := I.pin p hp
    have nch : p.1 ∉ ch := fun z => (hch p.1 z).2.2.2 p hp rfl
    exact ⟨keep p.1 p.2 ne nf nch e n, free p.1 p.2 nch e n, ne, nf, d⟩
/-- .. where the frame's own object is kept too -/
theorem Inv.un {t' : Nat} (I : Inv X pins σ H s) (u : Un X.fs [] H H' s.heap h') (hok : HOk X.prog X.w H' h') : Inv X pins σ H' { s with heap := h', toks := t' } := by
  obtain ⟨m, ⟨o, es, ep, ho, r⟩, _⟩ := id I.loc
  obtain ⟨sl, hL⟩ := u.any ho I.free (by simp)
  exact I.step (g' := s.gens) (d' := s.drawn) (ch := []) (fun _ z => nomatch z) (fun b o _ hb _ e n => u.keep b o e n hb (by simp)) (fun b o _ hb _ e n => u.slot b o e n hb (by simp)) (fun b o _ e n => u.free b o e n (by simp)) (fun b o _ e => u.there b o e (by simp)) u.tups u.frzs u.tbls (fun m' hm => by
    obtain ⟨o', es', ep', ho', r'⟩ := hm
    rw [ho] at ho'; cases ho'
    exact ⟨_, es', ep', hL, r'⟩) hok I.bare
/-- behind a call (or a comprehension's block): the slots of this frame may have changed too, the records at ch may have turned -/
theorem Inv.call {g' : Array GenState} {t' : Nat} {d' : Drawn} {ch : List Addr} (I : Inv X pins σ H s) (u : Un (frs X.stack) ch H H' s.heap h') (hok : HOk X.prog X.w H' h') (hg : AllBare g')
    (hch : ∀ b ∈ ch, (b ∈ X.ex ∨ X.s₀.heap.objs.size ≤ b) ∧ b ≠ X.env.locals ∧ (∀ x c, X.env.cells.lookup x = some c → c ≠ b) ∧ ∀ p ∈ X.pn ++ pins, p.1 ≠ b) :
    Inv X pins σ H' { s with heap := h', gens := g', drawn := d', toks := t' } := by
  obtain ⟨m, ⟨o, es, ep, ho, r⟩, _⟩ := id I.loc
  obtain ⟨sl, hL⟩ := u.any ho I.free fun z => (hch _ z).2.1 rfl
  exact I.step (ch := ch) hch (fun b o hL hb hc e n => u.keep b o e n (fun z => (List.mem_cons.mp (I.stkSub b z)).elim hL hb) hc) (fun b o _ _ hc e n => u.any e n hc) (fun b o hc e n => u.free b o e n hc) (fun b o hc e => u.there b o e hc) u.tups u.frzs u.tbls (fun m' hm => by
    obtain ⟨o', es', ep', ho', r'⟩ := hm
    rw [ho] at ho'; cases ho'
    exact ⟨_, es', ep', hL, r'⟩) hok hg
/-- an untracked record of ours (an iterator) has turned -/
theorem Inv.turned {t' : Nat} {it : Addr} (I : Inv X pins σ H s) (k : ∀ b o, b ≠ it → s.heap.get? b = some o → h'.get? b = some o) (hn : H it = none) (hL : it ≠ X.env.locals)
    (h1 : it ∈ X.ex ∨ X.s₀.heap.objs.size ≤ it) (h2 : ∀ x c, X.env.cells.lookup x = some c → c ≠ it) (h3 : ∀ p ∈ X.pn ++ pins, p.1 ≠ it) : Inv X pins σ H { s with heap := h', toks := t' } := by
  have nit : ∀ b u, H b = some u → b ≠ it := fun b u e z => by rw [z, hn] at e; cases e
  refine I.step (g' := s.gens) (d' := s.drawn) (ch := [it]) (fun b hb => ?_) (fun b o _ _ hc e _ => k b o (fun z => hc (by simp [z])) e) (fun b o _ _ hc e _ => ⟨o.slots, k b o (fun z => hc (by simp [z])) e⟩) (fun _ _ _ _ n => n)
    (fun b o hc e => ⟨o, k b o (fun z => hc (by simp [z])) e⟩) (fun _ _ e => e) (fun _ _ _ e => e) (fun b ps e => ⟨#[], by rw [e]; simp⟩) (fun m hm => ?_) (fun b u e => ?_) I.bare
  · have e : b = it := by simpa using hb
    subst e
    exact ⟨h1, hL, h2, h3⟩
  · obtain ⟨o, es, ep, ho, r⟩ := hm
    exact ⟨o, es, ep, k _ o (Ne.symm hL) ho, r⟩
  · refine (I.hok b u e).stay (fun c v hc q => k c v ?_ q) (fun _ q => q) fun _ _ q => q
    rcases hc with z | z
    · rw [z]; exact nit b u e
    · exact nit c _ z
theorem Inv.tok (I : Inv X pins σ H s) (t : Nat) : Inv X pins σ H { s with toks := t } := I.un (h' := s.heap) (t' := t) Un.refl I.hok
/-- all objects kept -/
theorem Inv.kept {t' : Nat} (I : Inv X pins σ H s) (k : ∀ b u, s.heap.get? b = some u → h'.get? b = some u) : Inv X pins σ H { s with heap := h', toks := t' } := I.un (Un.kept k) (I.hok.kept k)
/-- a new object laid and tracked -/
theorem Inv.laid {a : Addr} {o : HO} {t' : Nat} (I : Inv X pins σ H s) (k : ∀ b u, s.heap.get? b = some u → h'.get? b = some u) (hp : s.heap.objs.size ≤ a) (new : ObjOk X.prog X.w (upd H a o) h' a o) :
    Inv X pins σ (upd H a o) { s with heap := h', toks := t' } := I.un (Un.laid k hp (I.hok.fresh hp)) (I.hok.laid k hp new)
/-- an object written -/
theorem Inv.write {x e : Addr} {o : HO} {t' : Nat} (I : Inv X pins σ H s) (mu : Mut (H x)) (he : e = x ∨ H e = some (.own x)) (k : ∀ b u, b ≠ e → s.heap.get? b = some u → h'.get? b = some u) (heo : ∃ u, h'.get? e = some u)
    (new : ObjOk X.prog X.w (upd H x o) h' x o) : Inv X pins σ (upd H x o) { s with heap := h', toks := t' } := I.un (Un.write mu he k heo) (I.hok.write mu he k heo new)
/-- forgetting slots, pins -/
theorem Inv.weak {σ' : List (Option V)} (I : Inv X pins σ H s) (hl : σ'.length = σ.length) (w : ∀ (i : Nat) v, σ'[i]? = some (some v) → σ[i]? = some (some v)) : Inv X pins σ' H s :=
  ⟨I.ok, I.os, I.bare, I.base, let ⟨m, hn, hl'⟩ := I.loc; ⟨m, hn, fun i x v e1 e2 e3 => hl' i x v e1 (w i v e2) e3⟩, I.cell, I.free, I.freeC, I.pin, I.hok, hl.trans I.len⟩
theorem Inv.pins_of {pins' : List (Addr × Obj)} (I : Inv X pins σ H s) (h : ∀ p ∈ pins', s.heap.get? p.1 = some p.2 ∧ H p.1 = none ∧ p.1 ≠ X.env.locals ∧ p.1 ∉ X.fs ∧ ∀ v, p.2.data ≠ .cell v) : Inv X pins' σ H s :=
  ⟨I.ok, I.os, I.bare, I.base, I.loc, I.cell, I.free, I.freeC, fun p hp => (List.mem_append.mp hp).elim (fun z => I.pin p (List.mem_append_left _ z)) (h p), I.hok, I.len⟩

theorem nodup_ix {N : List Str} (hN : N.Nodup) {i j : Nat} {x : Str} (a : N[i]? = some x) (b : N[j]? = some x) : i = j := by
  obtain ⟨h1, e1⟩ := List.getElem?_eq_some_iff.mp a
  obtain ⟨h2, e2⟩ := List.getElem?_eq_some_iff.mp b
  exact (List.getElem_inj hN).mp (e1.trans e2.symm)

/-- a name is stored; what changed -/
theorem store_ok2 {M : Model} {A : Around} {E : Value → Shared → Prop} {i : Nat} {x : Str} {v : V} {u : Value} {Q : Unit → Shared → Prop} (I : Inv X pins σ H s) (hN : X.N.Nodup) (hi : X.N[i]? = some x) (hx : Loc X.env.scope x) (r : RelV v u)
    (h : ∀ s', Inv X pins (σ.set i (some v)) H s' → (∃ a, Heap.SameBut a s.heap s'.heap ∧ (a = X.env.locals ∨ X.env.cells.lookup x = some a)) → Q () s') (hf : X.fn x = true ∨ X.env.scope.names.lookup x = some .local := by first | exact .inl rfl | exact .inr rfl | assumption) : wpAny M A (storeName X.env x u) Q E s := by
  obtain ⟨m, hn, hl⟩ := id I.loc
  have hcls : (X.env.scope.kind == .class || (X.env.scope.kind == .module && X.env.locals != X.env.globals)) = false := by rw [I.ok.kind]; rfl
  have hiσ : i < σ.length := by rw [I.len]; exact (List.getElem?_eq_some_iff.mp hi).1
  have cne := I.cne
  have tracked : ∀ {a : Addr} {h' : Heap}, (∃ o, s.heap.get? a = some o ∧ H a = none) → Heap.SameBut a s.heap h' → HOk X.prog X.w H h' := fun {a h'} ha hs b ob e => by
    obtain ⟨_, _, hfree⟩ := ha
    refine (I.hok b ob e).stay (fun c w' hc q => (hs.2 c ?_).trans q) (fun _ q => q) fun _ _ q => q
    rintro rfl
    rcases hc with rfl | hc
    · rw [hfree] at e; cases e
    · rw [hfree] at hc; cases hc
  rcases hx with hk | hk
  · refine wpAny_storeName_local hk hn (fun h' hn' hs => ?_) hcls
    obtain ⟨oL, _, _, hoL, _⟩ := id hn
    refine h _ ⟨I.ok, I.os, I.bare, ⟨fun b o e n hb hx => ?_, fun b o e n hb hx => ?_, I.base.free, fun b o e hx => ?_, I.base.tups, I.base.frzs, I.base.tbls⟩, ⟨_, hn', fun j y v' e1 e2 e3 => ?_⟩, fun y c e => ?_, I.free, I.freeC, fun p hp => ?_, tracked ⟨oL, hoL, I.free⟩ hs, by simpa using I.len⟩ ⟨_, hs, .inl rfl⟩
    · exact (hs.2 b (Nat.ne_of_lt (Nat.lt_of_lt_of_le (Heap.lt_size e) I.ok.above))).trans (I.base.keep b o e n hb hx)
    · obtain ⟨sl, e1⟩ := I.base.slot b o e n hb hx
      exact ⟨sl, (hs.2 b (Nat.ne_of_lt (Nat.lt_of_lt_of_le (Heap.lt_size e) I.ok.above))).trans e1⟩
    · obtain ⟨o', e1⟩ := I.base.there b o e hx
      exact ⟨o', (hs.2 b (Nat.ne_of_lt (Nat.lt_of_lt_of_le (Heap.lt_size e) I.ok.above))).trans e1⟩
    · by_cases hj : j = i
      · subst hj
        rw [hi] at e1; cases e1
        rw [List.getElem?_set_self hiσ] at e2
        cases e2
        exact ⟨u, r, .inl ⟨hk, by simp⟩⟩
      · rw [List.getElem?_set_ne (Ne.symm hj)] at e2
        obtain ⟨u', r', q⟩ := hl j y v' e1 e2 e3
        refine ⟨u', r', ?_⟩
        rcases q with ⟨k, e⟩ | ⟨k, c, e, z⟩
        · refine .inl ⟨k, ?_⟩
          have : y ≠ x := fun e => hj (nodup_ix hN e1 (e ▸ hi))
          simp [this, e]
        · exact .inr ⟨k, c, e, z.sameBut hs (cne y c e)⟩
    · obtain ⟨w', z⟩ := I.cell y c e
      exact ⟨w', z.sameBut hs (cne y c e)⟩
    · obtain ⟨e, n, ne, nf, d⟩ := I.pin p hp
      exact ⟨(hs.2 p.1 ne).trans e, n, ne, nf, d⟩
  · have hfn : X.fn x = true := by
      rcases hf with z | z
      · exact z
      · rw [z] at hk; cases hk
    obtain ⟨c, hc⟩ := I.ok.has x (.inl hk)
    obtain ⟨w', z⟩ := I.cell x c hc
    refine wpAny_storeName_cell I.ok.kind hk hc z (fun h' hc' hs => ?_)
    obtain ⟨oc, hoc, hocd⟩ := id z
    refine h { s with heap := h' } ⟨I.ok, I.os, I.bare, ⟨fun b o e n hb hx => ?_, fun b o e n hb hx => ?_, I.base.free, fun b o e hx => ?_, I.base.tups, I.base.frzs, I.base.tbls⟩, ⟨m, hn.sameBut hs (Ne.symm (cne x c hc)), fun j y v' e1 e2 e3 => ?_⟩, fun y c' e => ?_, I.free, I.freeC, fun p hp => ?_, tracked ⟨oc, hoc, I.freeC x c hc⟩ hs, by simpa using I.len⟩ ⟨c, hs, .inr hc⟩
    · exact (hs.2 b (Nat.ne_of_lt (Nat.lt_of_lt_of_le (Heap.lt_size e) (I.ok.cab x c hfn hc)))).trans (I.base.keep b o e n hb hx)
    · obtain ⟨sl, e1⟩ := I.base.slot b o e n hb hx
      exact ⟨sl, (hs.2 b (Nat.ne_of_lt (Nat.lt_of_lt_of_le (Heap.lt_size e) (I.ok.cab x c hfn hc)))).trans e1⟩
    · obtain ⟨o', e1⟩ := I.base.there b o e hx
      exact ⟨o', (hs.2 b (Nat.ne_of_lt (Nat.lt_of_lt_of_le (Heap.lt_size e) (I.ok.cab x c hfn hc)))).trans e1⟩
    · by_cases hj : j = i
      · subst hj
        rw [hi] at e1; cases e1
        rw [List.getElem?_set_self hiσ] at e2
        cases e2
        exact ⟨u, r, .inr ⟨.inl hk, c, hc, hc'⟩⟩
      · rw [List.getElem?_set_ne (Ne.symm hj)] at e2
        obtain ⟨u', r', q⟩ := hl j y v' e1 e2 e3
        refine ⟨u', r', ?_⟩
        rcases q with q | ⟨k, c', e, z'⟩
        · exact .inl q
        · refine .inr ⟨k, c', e, z'.sameBut hs ?_⟩
          rintro rfl
          exact hj (nodup_ix hN e1 (I.ok.inj _ _ _ e hc ▸ hi))
    · by_cases hcc : c' = c
      · subst hcc; exact ⟨_, hc'⟩
      · obtain ⟨w2, z2⟩ := I.cell y c' e
        exact ⟨w2, z2.sameBut hs hcc⟩
    · obtain ⟨e, n, ne, nf, d⟩ := I.pin p hp
      refine ⟨(hs.2 p.1 ?_).trans e, n, ne, nf, d⟩
      intro q
      rw [q, hoc] at e
      have q' : oc = p.2 := Option.some.inj e
      exact d w' (by rw [← q']; exact hocd)
theorem store_ok {M : Model} {A : Around} {E : Value → Shared → Prop} {i : Nat} {x : Str} {v : V} {u : Value} {Q : Unit → Shared → Prop} (I : Inv X pins σ H s) (hN : X.N.Nodup) (hi : X.N[i]? = some x) (hx : Loc X.env.scope x) (r : RelV v u)
    (h : ∀ s', Inv X pins (σ.set i (some v)) H s' → Q () s') (hf : X.fn x = true ∨ X.env.scope.names.lookup x = some .local := by first | exact .inl rfl | exact .inr rfl | assumption) : wpAny M A (storeName X.env x u) Q E s :=
  store_ok2 I hN hi hx r (fun s' I' _ => h s' I') hf
/-- behind a call or a block, the state as it is -/
theorem Inv.call' {s' : Shared} {ch : List Addr} (I : Inv X pins σ H s) (ho : s'.os = s.os) (u : Un (frs X.stack) ch H H' s.heap s'.heap) (hok : HOk X.prog X.w H' s'.heap) (hg : AllBare s'.gens)
    (hch : ∀ b ∈ ch, (b ∈ X.ex ∨ X.s₀.heap.objs.size ≤ b) ∧ b ≠ X.env.locals ∧ (∀ x c, X.env.cells.lookup x = some c → c ≠ b) ∧ ∀ p ∈ X.pn ++ pins, p.1 ≠ b) : Inv X pins σ H' s' := by
  obtain ⟨h', g', d', t', o'⟩ := s'
  have e : o' = s.os := ho
  subst e
  exact I.call (g' := g') (t' := t') (d' := d') u hok hg hch
end

/-! ### the judgements -/
/-- an exception: its class, its own dict's address (where it has one), the abstract heap behind it -/
abbrev XK := Value → Option Addr → Hp → Prop
abbrev St := List (Option V)
abbrev VK := V → Hp → Prop
/-- an expression's reading; a test's; an argument list's -/
abbrev TE := St → Hp → VK → Prop
abbrev TT := St → Hp → (Bool → Hp → Prop) → Prop
abbrev TA := St → Hp → (List V → Hp → Prop) → Prop
/-- what is wanted behind a statement -/
structure Ends where
  nx : St → Hp → Prop
  rt : VK
  bk : St → Hp → Prop := fun _ _ => False
  ct : St → Hp → Prop := fun _ _ => False
abbrev TS := Ends → St → Hp → Prop

def EP (X : Cx) (pins : List (Addr × Obj)) (σ : St) (Q : VK) (u : Value) (s' : Shared) : Prop := ∃ v H', Inv X pins σ H' s' ∧ RelV v u ∧ Q v H'
def TP (X : Cx) (pins : List (Addr × Obj)) (σ : St) (Q : Bool → Hp → Prop) (b : Bool) (s' : Shared) : Prop := ∃ H', Inv X pins σ H' s' ∧ Q b H'
def AP (X : Cx) (pins : List (Addr × Obj)) (σ : St) (Q : List V → Hp → Prop) (us : List Value) (s' : Shared) : Prop := ∃ vs H', Inv X pins σ H' s' ∧ Vals vs us ∧ Q vs H'
def SP (X : Cx) (pins : List (Addr × Obj)) (D : Ends) (f : Flow) (s' : Shared) : Prop :=
  match f with
  | .next => ∃ σ' H', Inv X pins σ' H' s' ∧ D.nx σ' H'
  | .brk => ∃ σ' H', Inv X pins σ' H' s' ∧ D.bk σ' H'
  | .cont => ∃ σ' H', Inv X pins σ' H' s' ∧ D.ct σ' H'
  | .ret u => ∃ v σ' H', Inv X pins σ' H' s' ∧ RelV v u ∧ D.rt v H'

def PE (X : Cx) (e : Expr) (t : TE) : Prop :=
  ∀ (pins : List (Addr × Obj)) (s : Shared) (σ : St) (H : Hp) (Q : VK), Inv X pins σ H s → t σ H Q → wpAny (model X.prog X.w) X.A (eval e X.env) (EP X pins σ Q) X.xe s
def PT (X : Cx) (e : Expr) (t : TT) : Prop :=
  ∀ (pins : List (Addr × Obj)) (s : Shared) (σ : St) (H : Hp) (Q : Bool → Hp → Prop), Inv X pins σ H s → t σ H Q → wpAny (model X.prog X.w) X.A (isTrue e X.env (eval e X.env)) (TP X pins σ Q) X.xe s
/-- a test whatever its 'whole' is (and, or) -/
def PW (X : Cx) (e : Expr) (t : TT) : Prop :=
  ∀ (whole : Sem Value) (pins : List (Addr × Obj)) (s : Shared) (σ : St) (H : Hp) (Q : Bool → Hp → Prop), Inv X pins σ H s → t σ H Q → wpAny (model X.prog X.w) X.A (isTrue e X.env whole) (TP X pins σ Q) X.xe s
theorem PW.pt {X : Cx} {e : Expr} {t : TT} (h : PW X e t) : PT X e t := h _
/-- an argument list (no star), from the left -/
def PA (X : Cx) (es : List Expr) (t : TA) : Prop :=
  ∀ (pos : Pos) (pins : List (Addr × Obj)) (s : Shared) (σ : St) (H : Hp) (Q : List V → Hp → Prop), Inv X pins σ H s → t σ H Q → wpAny (model X.prog X.w) X.A (spliced (backTo pos (starEach es X.env))) (AP X pins σ Q) X.xe s
def PS (X : Cx) (st : Stmt) (t : TS) : Prop :=
  ∀ (pins : List (Addr × Obj)) (s : Shared) (σ : St) (H : Hp) (D : Ends), Inv X pins σ H s → t D σ H → wpAny (model X.prog X.w) X.A (exec st X.env) (SP X pins D) X.xe s
def PSs (X : Cx) (st : List Stmt) (t : TS) : Prop :=
  ∀ (pins : List (Addr × Obj)) (s : Shared) (σ : St) (H : Hp) (D : Ends), Inv X pins σ H s → t D σ H → wpAny (model X.prog X.w) X.A (execs st X.env) (SP X pins D) X.xe s
/-- weaken the end -/
theorem thn {α : Type} {t : Sem α} {Q Q' : α → Shared → Prop} {M : Model} {A : Around} {E : Value → Shared → Prop} {s : Shared} (h : wpAny M A t Q E s) (hQ : ∀ a s, Q a s → Q' a s) : wpAny M A t Q' E s := wpAny_mono h hQ fun _ _ x => x
end L2

namespace L2
open PySem PySem.Spec PyProof.Rows
section
variable {X : Cx}

/-- two expressions in a row -/
theorem bin {a b : Expr} {ta tb : TE} (ha : PE X a ta) (hb : PE X b tb) {pins : List (Addr × Obj)} {s : Shared} {σ : St} {H : Hp} {R : V → V → Hp → Prop} (I : Inv X pins σ H s) (h : ta σ H fun x H1 => tb σ H1 fun y H2 => R x y H2)
    {α : Type} {Q : α → Shared → Prop} {f : Value → Value → Sem α}
    (hf : ∀ v u s2 x y H2, Inv X pins σ H2 s2 → RelV x v → RelV y u → R x y H2 → wpAny (model X.prog X.w) X.A (f v u) Q X.xe s2) :
    wpAny (model X.prog X.w) X.A (eval a X.env) (fun v s₁ => wpAny (model X.prog X.w) X.A (eval b X.env) (fun u s₂ => wpAny (model X.prog X.w) X.A (f v u) Q X.xe s₂) X.xe s₁) X.xe s := by
  refine thn (ha pins s σ H _ I h) fun v s1 ⟨x, H1, I1, r1, q1⟩ => ?_
  refine thn (hb pins s1 σ H1 _ I1 q1) fun u s2 ⟨y, H2, I2, r2, q2⟩ => ?_
  exact hf v u s2 x y H2 I2 r1 r2 q2

/-! ### names and constants -/
def tVar (i : Nat) : TE := fun σ H Q => ∃ v, σ[i]? = some (some v) ∧ Q v H
def tC (v : V) : TE := fun _ H Q => Q v H
theorem pe_var {i : Nat} {x : Str} {pos : Pos} (hN : X.N[i]? = some x) (hv : Vis X.env.scope x) (hd : (x == ("__debug__" : Str)) = false := by decide) (hcd : (x == ("__classdict__" : Str)) = false := by decide) : PE X (.Name x pos) (tVar i) := by
  intro pins s σ H Q I h
  obtain ⟨v, e, h⟩ := h
  obtain ⟨m, hn, hl⟩ := I.loc
  obtain ⟨u, r, l⟩ := hl i x v hN e hv
  have fin : EP X pins σ Q u s := ⟨v, H, I, r, h⟩
  rcases l with ⟨hk, hm⟩ | ⟨hk, c, hc, hcell⟩
  · exact wpAny_Name (wpAny_loadName_local I.ok.kind hk hn hm fin) hd
  · rcases hk with hk | hk
    · exact wpAny_Name (wpAny_loadName_cell I.ok.kind hk hc hcell fin) hd
    · exact wpAny_Name (wpAny_loadName_free I.ok.kind hk hc hcell fin hcd) hd
theorem pe_int {i j pos} : PE X (.Constant (.int i) j pos) (tC (.int i)) := fun _ _ _ H _ I h => wpAny_Constant_int ⟨.int i, H, I.tok _, ⟨_, rfl⟩, h⟩
theorem pe_bl {b j pos} : PE X (.Constant (.bool b) j pos) (tC (.bl b)) := fun _ _ _ H _ I h => Constant_bool ⟨.bl b, H, I, rfl, h⟩
theorem pe_non {j pos} : PE X (.Constant .none j pos) (tC .non) := fun _ _ _ H _ I h => Constant_none ⟨.non, H, I, rfl, h⟩
theorem pe_str {x j pos} : PE X (.Constant (.str x) j pos) (tC (.str x)) := fun _ _ _ H _ I h => Calls.Constant_str ⟨.str x, H, I.tok _, ⟨_, rfl⟩, h⟩

/-- a global name of the def -/
def Gl (X : Cx) (x : Str) : Prop := X.env.kindOf x = some .globalImplicit
theorem ld_glob {E : Value → Shared → Prop} {pins : List (Addr × Obj)} {s : Shared} {σ : St} {H : Hp} {x : Str} {u : Value} {pos : Pos} {Q : Value → Shared → Prop} (I : Inv X pins σ H s) (hg : Gl X x) (hm : X.mg x = some u) (h : Q u s)
    (hd : (x == ("__debug__" : Str)) = false := by decide) : wpAny (model X.prog X.w) X.A (eval (.Name x pos) X.env) Q E s :=
  Calls.Name_function_global I.ok.kind hg (Calls.loadGlobal_global (by rw [I.ok.glob]; exact I.mod.glob.keeps I.bk) hm h) hd
theorem ld_blt {E : Value → Shared → Prop} {pins : List (Addr × Obj)} {s : Shared} {σ : St} {H : Hp} {x : Str} {u : Value} {pos : Pos} {Q : Value → Shared → Prop} (I : Inv X pins σ H s) (hg : Gl X x) (hm : X.mg x = none) (hv : bootBuiltins x = some u) (h : Q u s)
    (hn : x ≠ "__name__" := by decide) (hd : (x == ("__debug__" : Str)) = false := by decide) : wpAny (model X.prog X.w) X.A (eval (.Name x pos) X.env) Q E s := by
  obtain ⟨mb, h1, h2⟩ := I.mod.blt
  exact Calls.Name_function_global I.ok.kind hg (Calls.loadGlobal_builtin (by rw [I.ok.glob]; exact I.mod.glob.keeps I.bk) hm (by rw [I.ok.blt]; exact h1.keeps I.bk) ((h2 x hn).trans hv) h) hd
/-- a module's constant, a class, a function, as a value -/
theorem pe_glob {x : Str} {v : V} {u : Value} {pos : Pos} (hg : Gl X x) (hm : X.mg x = some u) (r : RelV v u) (hd : (x == ("__debug__" : Str)) = false := by decide) : PE X (.Name x pos) (tC v) :=
  fun _ _ _ H _ I h => ld_glob I hg hm ⟨v, H, I, r, h⟩ hd
theorem pe_bltn {x : Str} {v : V} {u : Value} {pos : Pos} (hg : Gl X x) (hm : X.mg x = none) (hv : bootBuiltins x = some u) (r : RelV v u) (hn : x ≠ "__name__" := by decide) (hd : (x == ("__debug__" : Str)) = false := by decide) : PE X (.Name x pos) (tC v) :=
  fun _ _ _ H _ I h => ld_blt I hg hm hv ⟨v, H, I, r, h⟩ hn hd

/-! ### arithmetic -/
/-- two ints -/
def t2I (ta tb : TE) (k : Int → Int → Hp → Prop) : St → Hp → Prop := fun σ H => ta σ H fun x H1 => tb σ H1 fun y H2 => ∃ i j, x = .int i ∧ y = .int j ∧ k i j H2
def tAdd (ta tb : TE) : TE := fun σ H Q => t2I ta tb (fun i j H2 => Q (.int (i + j)) H2) σ H
def tSub (ta tb : TE) : TE := fun σ H Q => t2I ta tb (fun i j H2 => Q (.int (i - j)) H2) σ H
/-- the left factor below 2^64 -/
def tMul (ta tb : TE) : TE := fun σ H Q => t2I ta tb (fun i j H2 => (-(2 ^ 64) < i ∧ i < 2 ^ 64) ∧ Q (.int (i * j)) H2) σ H
variable {a b : Expr} {ta tb : TE} {pos : Pos}
theorem pe_add (ha : PE X a ta) (hb : PE X b tb) : PE X (.BinOp a .Add b pos) (tAdd ta tb) := by
  intro pins s σ H Q I h
  refine wpAny_BinOp (bin ha hb I h fun v u s2 x y H2 I2 rx ry q => ?_)
  obtain ⟨i, j, rfl, rfl, q⟩ := q
  obtain ⟨t, rfl⟩ := rx
  obtain ⟨t', rfl⟩ := ry
  exact add_int ⟨.int _, H2, I2.tok _, ⟨_, rfl⟩, q⟩
theorem pe_sub (ha : PE X a ta) (hb : PE X b tb) : PE X (.BinOp a .Sub b pos) (tSub ta tb) := by
  intro pins s σ H Q I h
  refine wpAny_BinOp (bin ha hb I h fun v u s2 x y H2 I2 rx ry q => ?_)
  obtain ⟨i, j, rfl, rfl, q⟩ := q
  obtain ⟨t, rfl⟩ := rx
  obtain ⟨t', rfl⟩ := ry
  exact sub_int ⟨.int _, H2, I2.tok _, ⟨_, rfl⟩, q⟩
theorem pe_mul (ha : PE X a ta) (hb : PE X b tb) : PE X (.BinOp a .Mult b pos) (tMul ta tb) := by
  intro pins s σ H Q I h
  refine wpAny_BinOp (bin ha hb I h fun v u s2 x y H2 I2 rx ry q => ?_)
  obtain ⟨i, j, rfl, rfl, ⟨q1, q2⟩, q⟩ := q
  obtain ⟨t, rfl⟩ := rx
  obtain ⟨t', rfl⟩ := ry
  exact mul_int ⟨.int _, H2, I2.tok _, ⟨_, rfl⟩, q⟩ (.of_left (intBits_le_64 q1 q2))

/-! ### comparisons -/
def PC (X : Cx) (op : CmpOp) (a b : Expr) (t : TE) : Prop :=
  ∀ (pins : List (Addr × Obj)) (s : Shared) (σ : St) (H : Hp) (Q : VK), Inv X pins σ H s → t σ H Q →
    wpAny (model X.prog X.w) X.A (eval a X.env) (fun v s₁ => wpAny (model X.prog X.w) X.A (eval b X.env) (fun u s₂ => wpAny (model X.prog X.w) X.A (compareOp op v u) (EP X pins σ Q) X.xe s₂) X.xe s₁) X.xe s
theorem nobehind (b : Expr) {op : CmpOp} (h : op ≠ .In) (h2 : op ≠ .NotIn) : behindInMarks op b = false := by
  have e1 : (op == CmpOp.In) = false := by cases op <;> first | rfl | exact absurd rfl h
  have e2 : (op == CmpOp.NotIn) = false := by cases op <;> first | rfl | exact absurd rfl h2
  cases b <;> simp [behindInMarks, e1, e2]
def tCmp (p : Int → Int → Bool) (ta tb : TE) : TE := fun σ H Q => t2I ta tb (fun i j H2 => Q (.bl (p i j)) H2) σ H
abbrev tLt : TE → TE → TE := tCmp fun i j => decide (i < j)
abbrev tLe : TE → TE → TE := tCmp fun i j => decide (i ≤ j)
abbrev tGt : TE → TE → TE := tCmp fun i j => decide (j < i)
abbrev tGe : TE → TE → TE := tCmp fun i j => decide (j ≤ i)
abbrev tEqI : TE → TE → TE := tCmp fun i j => decide (i = j)
abbrev tNeI : TE → TE → TE := tCmp fun i j => !decide (i = j)
/-- a comparison of two ints, by its rule -/
theorem pc_int {op : CmpOp} {p : Int → Int → Bool} (ha : PE X a ta) (hb : PE X b tb)
    (rule : ∀ (i j : Int) (t u : Tok) (Q : Value → Shared → Prop) (s : Shared), Q (.bool (p i j)) s → wpAny (model X.prog X.w) X.A (compareOp op (.int i t) (.int j u)) Q X.xe s) : PC X op a b (tCmp p ta tb) := by
  intro pins s σ H Q I h
  refine bin ha hb I h fun v u s2 x y H2 I2 rx ry q => ?_
  obtain ⟨i, j, rfl, rfl, q⟩ := q
  obtain ⟨t, rfl⟩ := rx
  obtain ⟨t', rfl⟩ := ry
  exact rule i j t t' _ s2 ⟨.bl _, H2, I2, rfl, q⟩
theorem pc_lt (ha : PE X a ta) (hb : PE X b tb) : PC X .Lt a b (tLt ta tb) := pc_int ha hb fun _ _ _ _ _ _ h => lt_int h
theorem pc_le (ha : PE X a ta) (hb : PE X b tb) : PC X .LtE a b (tLe ta tb) := pc_int ha hb fun _ _ _ _ _ _ h => le_int h
theorem pc_gt (ha : PE X a ta) (hb : PE X b tb) : PC X .Gt a b (tGt ta tb) := pc_int ha hb fun _ _ _ _ _ _ h => gt_int h
theorem pc_ge (ha : PE X a ta) (hb : PE X b tb) : PC X .GtE a b (tGe ta tb) := pc_int ha hb fun _ _ _ _ _ _ h => ge_int h
theorem pc_eqI (ha : PE X a ta) (hb : PE X b tb) : PC X .Eq a b (tEqI ta tb) := pc_int ha hb fun _ _ _ _ _ _ h => eq_int (by rw [Bool.beq_eq_decide_eq]; exact h)
theorem pc_neI (ha : PE X a ta) (hb : PE X b tb) : PC X .NotEq a b (tNeI ta tb) := pc_int ha hb fun _ _ _ _ _ _ h => ne_int (by rw [bne, Bool.beq_eq_decide_eq]; exact h)
/-- is None -/
def tIsN (ta : TE) : TE := fun σ H Q => ta σ H fun x H1 => Q (.bl (decide (x = .non))) H1
def tNotN (ta : TE) : TE := fun σ H Q => ta σ H fun x H1 => Q (.bl (!decide (x = .non))) H1
theorem RelV.none_iff {x : V} {v : Value} (r : RelV x v) : (v == Value.none) = decide (x = .non) := by
  cases x with
  | non => cases r; rfl
  | bl _ => cases r; rfl
  | int _ => obtain ⟨t, rfl⟩ := r; rfl
  | str _ => obtain ⟨t, rfl⟩ := r; rfl
  | byt _ => obtain ⟨t, rfl⟩ := r; rfl
  | flt _ => obtain ⟨t, rfl⟩ := r; rfl
  | ref _ => cases r; rfl
  | ty _ => cases r; rfl
theorem pc_isN {j pos'} (ha : PE X a ta) : PC X .Is a (.Constant .none j pos') (tIsN ta) := by
  intro pins s σ H Q I h
  refine thn (ha pins s σ H _ I h) fun v s1 ⟨x, H1, I1, r1, q1⟩ => ?_
  exact Constant_none (is_none_gen ⟨.bl _, H1, I1, by rw [r1.none_iff]; rfl, q1⟩)
theorem pc_notN {j pos'} (ha : PE X a ta) : PC X .IsNot a (.Constant .none j pos') (tNotN ta) := by
  intro pins s σ H Q I h
  refine thn (ha pins s σ H _ I h) fun v s1 ⟨x, H1, I1, r1, q1⟩ => ?_
  exact Constant_none (isnot_none_gen ⟨.bl _, H1, I1, by rw [r1.none_iff]; rfl, q1⟩)
/-- a comparison as a value, as a test -/
def tB (t : TE) : TT := fun σ H Q => t σ H fun x H1 => ∃ c, x = .bl c ∧ Q c H1
theorem pe_cmp {op : CmpOp} {t : TE} (h : PC X op a b t) (h1 : behindInMarks op b = false := by first | exact nobehind _ (by decide) (by decide) | rfl) : PE X (.Compare a [op] [b] pos) t := fun pins s σ H Q I hw => wpAny_Compare1 (h pins s σ H Q I hw) h1
theorem pt_cmp {op : CmpOp} {t : TE} (h : PC X op a b t) (h1 : behindInMarks op b = false := by first | exact nobehind _ (by decide) (by decide) | rfl) : PT X (.Compare a [op] [b] pos) (tB t) := by
  intro pins s σ H Q I hw
  refine wpAny_isTrue_Compare1 (thn (h pins s σ H _ I hw) fun v s1 h1 => thn h1 fun u s2 h2 => thn h2 fun c s3 ⟨x, H1, I1, r1, q1⟩ => ?_) h1
  obtain ⟨d, rfl, q⟩ := q1
  cases r1
  exact wpAny_truthy_bool ⟨H1, I1, q⟩
/-- an expression whose value is a bool, as a test -/
theorem pt_val {e : Expr} {t : TE} (h : PE X e t) (he : ∀ whole, isTrue e X.env whole = (do let v ← whole; standAt e.pos; holding [v] (truthy v)) := by intro _; rfl) : PT X e (tB t) := by
  intro pins s σ H Q I hw
  refine isTrue_plain (thn (h pins s σ H _ I hw) fun v s1 ⟨x, H1, I1, r1, q1⟩ => ?_) (he _)
  obtain ⟨d, rfl, q⟩ := q1
  cases r1
  exact wpAny_truthy_bool ⟨H1, I1, q⟩

/-! ### and, or, not -/
variable {tA tB' : TT} {rest : List Expr}
def tAnd (t u : TT) : TT := fun σ H Q => t σ H fun c H1 => if c = true then u σ H1 Q else Q false H1
def tOr (t u : TT) : TT := fun σ H Q => t σ H fun c H1 => if c = true then Q true H1 else u σ H1 Q
def tNot (t : TT) : TT := fun σ H Q => t σ H fun c H1 => Q (!c) H1
theorem pw_and1 (ha : PT X a tA) : PW X (.BoolOp .And [a] pos) tA := by
  intro wh pins s σ H Q I h
  refine isTrue_and (thn (ha pins s σ H Q I h) fun c s1 e => ?_)
  cases c with
  | true => exact isTrue_and_nil e
  | false => exact e
theorem pw_or1 (ha : PT X a tA) : PW X (.BoolOp .Or [a] pos) tA := by
  intro wh pins s σ H Q I h
  refine isTrue_or (thn (ha pins s σ H Q I h) fun c s1 e => ?_)
  cases c with
  | false => exact isTrue_or_nil e
  | true => exact e
theorem pw_and (ha : PT X a tA) (hb : PW X (.BoolOp .And (b :: rest) pos) tB') : PW X (.BoolOp .And (a :: b :: rest) pos) (tAnd tA tB') := by
  intro wh pins s σ H Q I h
  refine isTrue_and (thn (ha pins s σ H _ I h) fun c s1 ⟨H1, I1, q1⟩ => ?_)
  cases c with
  | true => exact hb wh pins s1 σ H1 Q I1 q1
  | false => exact ⟨H1, I1, q1⟩
theorem pw_or (ha : PT X a tA) (hb : PW X (.BoolOp .Or (b :: rest) pos) tB') : PW X (.BoolOp .Or (a :: b :: rest) pos) (tOr tA tB') := by
  intro wh pins s σ H Q I h
  refine isTrue_or (thn (ha pins s σ H _ I h) fun c s1 ⟨H1, I1, q1⟩ => ?_)
  cases c with
  | true => exact ⟨H1, I1, q1⟩
  | false => exact hb wh pins s1 σ H1 Q I1 q1
theorem pt_not (ha : PT X a tA) : PT X (.UnaryOp .Not a pos) (tNot tA) := by
  intro pins s σ H Q I h
  exact isTrue_not (ha pins s σ H (fun c H1 => Q (!c) H1) I h)
/-- .. as values (bools) -/
def tAndV (ta tb : TE) : TE := fun σ H Q => ta σ H fun x H1 => ∃ c, x = .bl c ∧ if c = true then tb σ H1 Q else Q (.bl false) H1
def tOrV (ta tb : TE) : TE := fun σ H Q => ta σ H fun x H1 => ∃ c, x = .bl c ∧ if c = true then Q (.bl true) H1 else tb σ H1 Q
def tNotV (ta : TE) : TE := fun σ H Q => ta σ H fun x H1 => ∃ c, x = .bl c ∧ Q (.bl (!c)) H1
theorem pe_one {op} {t : TE} (h : PE X a t) : PE X (.BoolOp op [a] pos) t := fun pins s σ H Q I hw => BoolOp_one (h pins s σ H Q I hw)
theorem pe_and (ha : PE X a ta) (hb : PE X (.BoolOp .And (b :: rest) pos) tb) : PE X (.BoolOp .And (a :: b :: rest) pos) (tAndV ta tb) := by
  intro pins s σ H Q I h
  refine BoolOp_and (thn (ha pins s σ H _ I h) fun v s1 ⟨x, H1, I1, r1, q1⟩ => ?_)
  obtain ⟨c, rfl, q1⟩ := q1
  cases r1
  refine wpAny_truthy_bool ?_
  cases c with
  | true => exact hb pins s1 σ H1 Q I1 q1
  | false => exact ⟨.bl false, H1, I1, rfl, q1⟩
theorem pe_or (ha : PE X a ta) (hb : PE X (.BoolOp .Or (b :: rest) pos) tb) : PE X (.BoolOp .Or (a :: b :: rest) pos) (tOrV ta tb) := by
  intro pins s σ H Q I h
  refine BoolOp_or (thn (ha pins s σ H _ I h) fun v s1 ⟨x, H1, I1, r1, q1⟩ => ?_)
  obtain ⟨c, rfl, q1⟩ := q1
  cases r1
  refine wpAny_truthy_bool ?_
  cases c with
  | false => exact hb pins s1 σ H1 Q I1 q1
  | true => exact ⟨.bl true, H1, I1, rfl, q1⟩
theorem pe_not (ha : PE X a ta) : PE X (.UnaryOp .Not a pos) (tNotV ta) := by
  intro pins s σ H Q I h
  refine UnaryOp_ (thn (ha pins s σ H _ I h) fun v s1 ⟨x, H1, I1, r1, q1⟩ => ?_)
  obtain ⟨c, rfl, q1⟩ := q1
  cases r1
  exact not_of (wpAny_truthy_bool ⟨.bl (!c), H1, I1, rfl, q1⟩)
/-- a if t else b -/
def tIf (t : TT) (ta tb : TE) : TE := fun σ H Q => t σ H fun c H1 => if c = true then ta σ H1 Q else tb σ H1 Q
theorem pe_ifExp {c : Expr} (hc : PT X c tA) (ha : PE X a ta) (hb : PE X b tb) : PE X (.IfExp c a b pos) (tIf tA ta tb) := by
  intro pins s σ H Q I h
  refine wpAny_IfExp (thn (hc pins s σ H _ I h) fun d s1 ⟨H1, I1, q1⟩ => ?_)
  cases d with
  | true => exact ha pins s1 σ H1 Q I1 q1
  | false => exact hb pins s1 σ H1 Q I1 q1
end
end L2

namespace L2
open PySem PySem.Spec PyProof.Rows

/-! ### a list, a tuple that is read: tracked, frozen, or an object of the module -/
def SqL (K : PySem.W.Frag) (H : Hp) (a : Addr) (xs : List V) : Prop :=
  Rd H a (.lst xs) ∨
    ∃ (o : Obj) (its : Array Value) (n : Nat), K.lookup a = some o ∧ o.cls = .type "list" ∧ o.dict = none ∧ o.data = .seq its n ∧ its.size ≤ sizeLine ∧ Vals xs its.toList
def SqT (K : PySem.W.Frag) (H : Hp) (a : Addr) (xs : List V) : Prop :=
  Rd H a (.tup xs) ∨
    ∃ (o : Obj) (its : Array Value) (n : Nat), K.lookup a = some o ∧ o.cls = .type "tuple" ∧ o.data = .seq its n ∧ its.size ≤ sizeLine ∧ Vals xs its.toList
def absV : Value → Option V
  | .none => some .non
  | .bool b => some (.bl b)
  | .int i _ => some (.int i)
  | .str x _ => some (.str x)
  | .bytes b _ => some (.byt b)
  | .float b _ => some (.flt b)
  | .ref a => some (.ref a)
  | .type n => some (.ty n)
  | _ => none
theorem RelV.abs {x : V} {u : Value} (r : RelV x u) : absV u = some x := by
  cases x with
  | non => cases r; rfl
  | bl _ => cases r; rfl
  | int _ => obtain ⟨t, rfl⟩ := r; rfl
  | str _ => obtain ⟨t, rfl⟩ := r; rfl
  | byt _ => obtain ⟨t, rfl⟩ := r; rfl
  | flt _ => obtain ⟨t, rfl⟩ := r; rfl
  | ref _ => cases r; rfl
  | ty _ => cases r; rfl
theorem RelV.inj {x y : V} {u : Value} (r : RelV x u) (q : RelV y u) : x = y := Option.some.inj (r.abs.symm.trans q.abs)
theorem Vals.inj : ∀ {xs ys : List V} {us : List Value}, Vals xs us → Vals ys us → xs = ys
  | _, _, _, .nil, .nil => rfl
  | _, _, _, .cons r t, .cons r' t' => by rw [r.inj r', Vals.inj t t']
section
variable {X : Cx} {pins : List (Addr × Obj)} {σ : St} {H : Hp} {s : Shared} {a : Addr} {xs ys : List V}
theorem SqL.of {K : PySem.W.Frag} (h : H a = some (.lst xs)) : SqL K H a xs := .inl (.inl h)
theorem SqT.of {K : PySem.W.Frag} (h : H a = some (.tup xs)) : SqT K H a xs := .inl (.inl h)
theorem Inv.list (I : Inv X pins σ H s) (h : SqL X.K H a xs) : ∃ its : List Value, Vals xs its ∧ PlainL s.heap a its.toArray ∧ xs.length ≤ sizeLine := by
  rcases h with h | ⟨o, its, n, hk, hc, hd, hs, hz, r⟩
  · obtain ⟨z, its, n, r, e⟩ := h.ok I.hok
    exact ⟨its, r, ⟨_, n, e, rfl, rfl, rfl⟩, z⟩
  · refine ⟨its.toList, r, ⟨o, n, I.kIn a o hk, hc, hd, by simpa using hs⟩, ?_⟩
    have e := r.length
    simp only [Array.length_toList] at e
    omega
theorem Inv.tuple (I : Inv X pins σ H s) (h : SqT X.K H a xs) : ∃ its : List Value, Vals xs its ∧ IsTup s.heap a its.toArray ∧ xs.length ≤ sizeLine := by
  rcases h with h | ⟨o, its, n, hk, hc, hs, hz, r⟩
  · obtain ⟨z, its, r, p⟩ := h.ok I.hok
    exact ⟨its, r, p, z⟩
  · refine ⟨its.toList, r, ⟨o, I.kIn a o hk, hc, n, by simpa using hs⟩, ?_⟩
    have e := r.length
    simp only [Array.length_toList] at e
    omega
theorem Inv.list_inj (I : Inv X pins σ H s) (h : SqL X.K H a xs) (h' : SqL X.K H a ys) : xs = ys := by
  obtain ⟨its, r, ⟨o, n, e, _, _, d⟩, _⟩ := I.list h
  obtain ⟨its', r', ⟨o', n', e', _, _, d'⟩, _⟩ := I.list h'
  rw [e] at e'; cases e'
  rw [d] at d'
  injection d' with d1 _
  have : its = its' := by simpa using congrArg Array.toList d1
  subst this
  exact r.inj r'
theorem Inv.tuple_inj (I : Inv X pins σ H s) (h : SqT X.K H a xs) (h' : SqT X.K H a ys) : xs = ys := by
  obtain ⟨its, r, ⟨o, e, _, n, d⟩, _⟩ := I.tuple h
  obtain ⟨its', r', ⟨o', e', _, n', d'⟩, _⟩ := I.tuple h'
  rw [e] at e'; cases e'
  rw [d] at d'
  injection d' with d1 _
  have : its = its' := by simpa using congrArg Array.toList d1
  subst this
  exact r.inj r'
end

/-! ### another wish about exceptions -/
abbrev Cx.wish (X : Cx) (E : Value → Shared → Prop) : Cx := { X with xe := E }
/-- no exception leaves -/
abbrev Cx.nox (X : Cx) : Cx := X.wish fun _ _ => False
theorem Cx.Ok.wish {X : Cx} (ok : X.Ok) (E : Value → Shared → Prop) : (X.wish E).Ok :=
  ⟨ok.mod, ok.kind, ok.glob, ok.blt, ok.above, ok.inj, ok.has, ok.cab, ok.hd, ok.frames, ok.stk, ok.exf, ok.bs, ok.bsz, ok.noex, ok.exfs, ok.funs, ok.frf⟩
theorem Cx.Ok.unwish {X : Cx} {E : Value → Shared → Prop} (ok : (X.wish E).Ok) : X.Ok :=
  ⟨ok.mod, ok.kind, ok.glob, ok.blt, ok.above, ok.inj, ok.has, ok.cab, ok.hd, ok.frames, ok.stk, ok.exf, ok.bs, ok.bsz, ok.noex, ok.exfs, ok.funs, ok.frf⟩
section
variable {X : Cx} {pins : List (Addr × Obj)} {σ : St} {H : Hp} {s : Shared} {E : Value → Shared → Prop}
theorem Inv.wish (I : Inv X pins σ H s) (E : Value → Shared → Prop) : Inv (X.wish E) pins σ H s := ⟨I.ok.wish E, I.os, I.bare, I.base, I.loc, I.cell, I.free, I.freeC, I.pin, I.hok, I.len⟩
theorem Inv.unwish (I : Inv (X.wish E) pins σ H s) : Inv X pins σ H s := ⟨I.ok.unwish, I.os, I.bare, I.base, I.loc, I.cell, I.free, I.freeC, I.pin, I.hok, I.len⟩
theorem SP.unwish {D : Ends} {f : Flow} {s' : Shared} (h : SP (X.wish E) pins D f s') : SP X pins D f s' := by
  cases f with
  | next => obtain ⟨σ', H', I, q⟩ := h; exact ⟨σ', H', I.unwish, q⟩
  | brk => obtain ⟨σ', H', I, q⟩ := h; exact ⟨σ', H', I.unwish, q⟩
  | cont => obtain ⟨σ', H', I, q⟩ := h; exact ⟨σ', H', I.unwish, q⟩
  | ret u => obtain ⟨v, σ', H', I, r, q⟩ := h; exact ⟨v, σ', H', I.unwish, r, q⟩
theorem PE.nox {e : Expr} {t : TE} (h : PE X.nox e t) : PE X e t := fun pins s σ H Q I hw =>
  wpAny_mono (h pins s σ H Q (I.wish _) hw) (fun _ _ ⟨v, H', I', r, q⟩ => ⟨v, H', I'.unwish, r, q⟩) fun _ _ z => False.elim z
theorem PT.nox {e : Expr} {t : TT} (h : PT X.nox e t) : PT X e t := fun pins s σ H Q I hw =>
  wpAny_mono (h pins s σ H Q (I.wish _) hw) (fun _ _ ⟨H', I', q⟩ => ⟨H', I'.unwish, q⟩) fun _ _ z => False.elim z
theorem PSs.nox {st : List Stmt} {t : TS} (h : PSs X.nox st t) : PSs X st t := fun pins s σ H D I hw =>
  wpAny_mono (h pins s σ H D (I.wish _) hw) (fun _ _ q => q.unwish) fun _ _ z => False.elim z
end

/-! ### blocks and small statements -/
section
variable {X : Cx} {st : Stmt} {rest : List Stmt} {t u : TS} {e : Expr} {te : TE} {pos : Pos}
def tNext : TS := fun D σ H => D.nx σ H
def tSeq (t u : TS) : TS := fun D σ H => t { D with nx := u D } σ H
theorem pss_nil : PSs X [] tNext := fun _ _ σ H _ I h => wpAny_execs_nil ⟨σ, H, I, h⟩
theorem pss_cons (h1 : PS X st t) (h2 : PSs X rest u) : PSs X (st :: rest) (tSeq t u) := by
  intro pins s σ H D I h
  refine wpAny_execs_cons (thn (h1 pins s σ H { D with nx := u D } I h) fun f s1 q => ?_)
  cases f with
  | next =>
    obtain ⟨σ', H', I', q⟩ := q
    exact h2 pins s1 σ' H' D I' q
  | ret v => exact q
  | brk => exact q
  | cont => exact q
theorem pss_one (h1 : PS X st t) : PSs X [st] t := by
  intro pins s σ H D I h
  refine wpAny_execs_cons (thn (h1 pins s σ H D I h) fun f s1 q => ?_)
  cases f with
  | next => exact wpAny_execs_nil q
  | ret v => exact q
  | brk => exact q
  | cont => exact q
def tBreak : TS := fun D σ H => D.bk σ H
def tCont : TS := fun D σ H => D.ct σ H
theorem ps_pass : PS X (.Pass pos) tNext := fun _ _ σ H _ I h => wpAny_Pass ⟨σ, H, I, h⟩
theorem ps_break : PS X (.Break pos) tBreak := fun _ _ σ H _ I h => wpAny_Break ⟨σ, H, I, h⟩
theorem ps_continue : PS X (.Continue pos) tCont := fun _ _ σ H _ I h => wpAny_Continue ⟨σ, H, I, h⟩
/-- in a def's body nothing is shown -/
theorem Inv.quiet {pins : List (Addr × Obj)} {σ : St} {H : Hp} {s : Shared} (I : Inv X pins σ H s) : interactive X.env = false := by simp [interactive, I.ok.kind]
/-- a docstring -/
theorem ps_doc {x j pos pos'} : PS X (.Expr (.Constant (.str x) j pos) pos') tNext := fun _ s σ H _ I h => wpAny_Expr (Calls.Constant_str (show SP X _ _ .next { s with toks := s.toks + 1 } from ⟨σ, H, I.tok _, h⟩)) I.quiet
/-- an expression whose value is dropped -/
def tDrop (te : TE) : TS := fun D σ H => te σ H fun _ H1 => D.nx σ H1
theorem ps_expr (he : PE X e te) (hs : swapsWith e none pos.line X.env = pure false := by rfl) : PS X (.Expr e pos) (tDrop te) := by
  intro pins s σ H D I h
  exact wpAny_Expr_any (thn (he pins s σ H _ I h) fun v s1 ⟨x, H1, I1, r1, q1⟩ => ⟨σ, H1, I1, q1⟩) I.quiet hs
def tRet (te : TE) : TS := fun D σ H => te σ H D.rt
theorem ps_ret (he : PE X e te) : PS X (.Return (some e) pos) (tRet te) := by
  intro pins s σ H D I h
  exact wpAny_Return_some (thn (he pins s σ H _ I h) fun v s1 ⟨x, H1, I1, r1, q1⟩ => ⟨x, σ, H1, I1, r1, q1⟩)
def tRetN : TS := fun D _ H => D.rt .non H
theorem ps_retN : PS X (.Return none pos) tRetN := fun _ _ σ H _ I h => wpAny_Return_none ⟨.non, σ, H, I, rfl, h⟩
def tIfS (c : TT) (t u : TS) : TS := fun D σ H => c σ H fun b H1 => if b = true then t D σ H1 else u D σ H1
theorem ps_if {c : Expr} {a b : List Stmt} {tc : TT} (hc : PT X c tc) (ha : PSs X a t) (hb : PSs X b u) : PS X (.If c a b pos) (tIfS tc t u) := by
  intro pins s σ H D I h
  refine wpAny_If (thn (hc pins s σ H _ I h) fun d s1 ⟨H1, I1, q1⟩ => ?_)
  cases d with
  | true => exact ha pins s1 σ H1 D I1 q1
  | false => exact hb pins s1 σ H1 D I1 q1
/-- code that the proof never comes to -/
def tNever : TS := fun _ _ _ => False
theorem ps_never : PS X st tNever := fun _ _ _ _ _ _ h => h.elim
theorem pss_never {sts : List Stmt} : PSs X sts tNever := fun _ _ _ _ _ _ h => h.elim
end

/-! ### targets -/
abbrev TG := V → St → Hp → (St → Hp → Prop) → Prop
abbrev TGs := List V → St → Hp → (St → Hp → Prop) → Prop
def PG (X : Cx) (target : Expr) (t : TG) : Prop :=
  ∀ (pins : List (Addr × Obj)) (s : Shared) (σ : St) (H : Hp) (v : V) (u : Value) (Q : St → Hp → Prop), Inv X pins σ H s → RelV v u → t v σ H Q →
    wpAny (model X.prog X.w) X.A (assign target X.env u) (fun _ s' => ∃ σ' H', Inv X pins σ' H' s' ∧ Q σ' H') X.xe s
/-- several targets, one after another -/
def PGs (X : Cx) (ts : List Expr) (t : TGs) : Prop :=
  ∀ (pins : List (Addr × Obj)) (s : Shared) (σ : St) (H : Hp) (vs : List V) (us : List Value) (Q : St → Hp → Prop), Inv X pins σ H s → Vals vs us → t vs σ H Q →
    wpAny (model X.prog X.w) X.A (assignInOrder ((assignEach ts X.env).map (·.2)) us) (fun _ s' => ∃ σ' H', Inv X pins σ' H' s' ∧ Q σ' H') X.xe s
/-- o[i] = v, by values -/
abbrev TSet := V → V → V → Hp → (Hp → Prop) → Prop
def PSet (X : Cx) (t : TSet) : Prop :=
  ∀ (pins : List (Addr × Obj)) (s : Shared) (σ : St) (H : Hp) (o i v : V) (ov iv u : Value) (Q : Hp → Prop), Inv X pins σ H s → RelV o ov → RelV i iv → RelV v u → t o i v H Q →
    wpAny (model X.prog X.w) X.A (setItem ov iv u) (fun _ s' => ∃ H', Inv X pins σ H' s' ∧ Q H') X.xe s
/-- a op= b, by values -/
abbrev TIp := V → V → Hp → VK → Prop
def PIp (X : Cx) (op : Operator) (t : TIp) : Prop :=
  ∀ (pins : List (Addr × Obj)) (s : Shared) (σ : St) (H : Hp) (x y : V) (v u : Value) (Q : VK), Inv X pins σ H s → RelV x v → RelV y u → t x y H Q →
    wpAny (model X.prog X.w) X.A (inplaceOp op v u) (EP X pins σ Q) X.xe s
section
variable {X : Cx} {pos : Pos}
def gName (i : Nat) : TG := fun v σ H Q => Q (σ.set i (some v)) H
theorem pg_name {i : Nat} {x : Str} (hN : X.N.Nodup) (hi : X.N[i]? = some x) (hx : Loc X.env.scope x) (hf : X.fn x = true ∨ X.env.scope.names.lookup x = some .local := by first | exact .inl rfl | exact .inr rfl | assumption) : PG X (.Name x pos) (gName i) := by
  intro pins s σ H v u Q I r h
  exact wpAny_assign_Name (store_ok I hN hi hx r (fun s' I' => ⟨_, H, I', h⟩) hf)
def gNil : TGs := fun vs σ H Q => vs = [] ∧ Q σ H
def gCons (t : TG) (u : TGs) : TGs := fun vs σ H Q => ∃ v r, vs = v :: r ∧ t v σ H fun σ' H' => u r σ' H' Q
theorem pgs_nil : PGs X [] gNil := by
  intro pins s σ H vs us Q I r h
  obtain ⟨e, h⟩ := h
  subst e
  cases r
  exact assignInOrder_nil ⟨σ, H, I, h⟩
theorem pgs_cons {e : Expr} {es : List Expr} {t : TG} {u : TGs} (h1 : PG X e t) (h2 : PGs X es u)
    (hs : (assignEach (e :: es) X.env).map (·.2) = assign e X.env :: (assignEach es X.env).map (·.2) := by rfl) : PGs X (e :: es) (gCons t u) := by
  intro pins s σ H vs us Q I r h
  obtain ⟨v, vr, e1, h⟩ := h
  subst e1
  cases r with
  | cons r rr =>
    rw [hs]
    refine assignInOrder_cons (thn (h1 pins s σ H _ _ _ I r h) fun _ s1 ⟨σ1, H1, I1, q1⟩ => ?_)
    exact h2 pins s1 σ1 H1 _ _ Q I1 rr q1
/-- (a, b, ..) = a tuple of that length -/
def gTup (K : PySem.W.Frag) (n : Nat) (t : TGs) : TG := fun v σ H Q => ∃ a xs, v = .ref a ∧ SqT K H a xs ∧ xs.length = n ∧ t xs σ H Q
theorem pg_tup {es : List Expr} {k : Nat} {t : TGs} {n : Nat} (hc : X.calm = true) (h : PGs X es t)
    (hn : (assignEach es X.env).length = n := by rfl) (hst : (assignEach es X.env).findIdx? (·.1) = none := by rfl) : PG X (.Tuple es k pos) (gTup X.K n t) := by
  intro pins s σ H v u Q I r hw
  obtain ⟨a, xs, e1, hq, hl, hw⟩ := hw
  subst e1
  cases r
  obtain ⟨its, rv, ht, hz⟩ := I.tuple hq
  refine assign_Tuple_tuple (I.ok.hd hc) ht (by simp [hn, ← hl, rv.length]) hst fun h' hx => ?_
  have I1 : Inv X pins σ H { s with heap := h' } := I.kept (t' := s.toks) fun b o e => hx b o (Nat.ne_of_lt (Heap.lt_size e)) e
  exact h pins _ σ H xs _ Q I1 (by simpa using rv) hw
/-- o[i] = .. -/
def gSub (to ti : TE) (t : TSet) : TG := fun v σ H Q => to σ H fun o H1 => ti σ H1 fun i H2 => t o i v H2 fun H3 => Q σ H3
theorem pg_sub {o i : Expr} {to ti : TE} {t : TSet} (ho : PE X o to) (hi : PE X i ti) (hs : PSet X t)
    (ha : ∀ v, assign (.Subscript o i pos) X.env v = (do
      let ov ← holding [v] (eval o X.env)
      let iv ← holding [v, ov] (eval i X.env)
      standAt pos
      holding [v, ov, iv] (setItem ov iv v)
      release [v, ov, iv] []) := by intro _; rfl) : PG X (.Subscript o i pos) (gSub to ti t) := by
  intro pins s σ H v u Q I r h
  rw [ha]
  refine wpAny_bind (wpAny_holding (thn (ho pins s σ H _ I h) fun ov s1 ⟨x, H1, I1, r1, q1⟩ => ?_))
  refine wpAny_bind (wpAny_holding (thn (hi pins s1 σ H1 _ I1 q1) fun iv s2 ⟨y, H2, I2, r2, q2⟩ => ?_))
  refine wpAny_bind (wpAny_standAt (wpAny_bind (wpAny_holding (thn (hs pins s2 σ H2 x y v ov iv u _ I2 r1 r2 r q2) fun _ s3 ⟨H3, I3, q3⟩ => ?_))))
  exact wpAny_release ⟨σ, H3, I3, q3⟩
/-- target = value -/
def tAsg (te : TE) (g : TG) : TS := fun D σ H => te σ H fun x H1 => g x σ H1 D.nx
theorem ps_asg {tg e : Expr} {te : TE} {g : TG} (he : PE X e te) (hg : PG X tg g) (hs : swapsWithSole [tg] e pos.line X.env = pure false := by rfl) (hw : swappedStores [tg] e X.env = pure none := by rfl)
    (h1 : (assignEach [tg] X.env).map (·.2) = [assign tg X.env] := by rfl) : PS X (.Assign [tg] e pos) (tAsg te g) := by
  intro pins s σ H D I h
  refine wpAny_Assign_stores (thn (he pins s σ H _ I h) fun v s1 ⟨x, H1, I1, r1, q1⟩ => ?_) hs hw
  rw [h1]
  exact thn (hg pins s1 σ H1 x v _ I1 r1 q1) fun _ s2 q => q
/-- name = value -/
theorem ps_set {i : Nat} {x : Str} {e : Expr} {te : TE} {pos' : Pos} (hN : X.N.Nodup) (hi : X.N[i]? = some x) (hx : Loc X.env.scope x) (he : PE X e te) (hs : swapsWith e (some (.Name x pos')) pos.line X.env = pure false := by rfl) (hf : X.fn x = true ∨ X.env.scope.names.lookup x = some .local := by first | exact .inl rfl | exact .inr rfl | assumption) :
    PS X (.Assign [.Name x pos'] e pos) (tAsg te (gName i)) := by
  intro pins s σ H D I h
  refine wpAny_Assign_Name (thn (he pins s σ H _ I h) fun v s1 ⟨y, H1, I1, r1, q1⟩ => ?_) hs
  exact store_ok I1 hN hi hx r1 (fun s2 I2 => ⟨_, H1, I2, q1⟩) hf
/-- a, b = x, y with plain local names: stored from the right; the pair itself is not tracked (the opening rows as in PyProof/Rows/TupAssign.lean:23) -/
def tPar (i j : Nat) (ta : TA) : TS := fun D σ H => ta σ H fun vs H1 => ∃ v w, vs = [v, w] ∧ D.nx ((σ.set i (some v)).set j (some w)) H1
theorem ps_par {i j : Nat} {x y : Str} {a b : Expr} {ta : TA} {px py pt : Pos} {kt k2 pt2} (hc : X.calm = true) (hN : X.N.Nodup) (hi : X.N[i]? = some x) (hj : X.N[j]? = some y) (hij : i ≠ j)
    (hx : X.env.scope.names.lookup x = some .local) (hy : X.env.scope.names.lookup y = some .local) (ha : PA X [a, b] ta)
    (hw : swappedStores [.Tuple [.Name x px, .Name y py] kt pt] (.Tuple [a, b] k2 pt2) X.env = pure (some [x, y]))
    (hs : swapsWithSole [.Tuple [.Name x px, .Name y py] kt pt] (.Tuple [a, b] k2 pt2) pos.line X.env = pure false := by rfl) :
    PS X (.Assign [.Tuple [.Name x px, .Name y py] kt pt] (.Tuple [a, b] k2 pt2) pos) (tPar i j ta) := by
  intro pins s σ H D I h
  rw [exec_Assign_arm]
  refine wpAny_bind (wpAny_standAt ?_)
  rw [hs]
  refine wpAny_bind (wpAny_pure ?_)
  rw [if_neg (by decide)]
  refine wpAny_bind (Tuple_ (thn (ha _ pins s σ H _ I h) fun us s1 ⟨vs, H1, I1, r1, q1⟩ => ?_))
  obtain ⟨v, w, e1, q1⟩ := q1
  subst e1
  obtain ⟨u1, u2, rfl, rv, rw'⟩ : ∃ u1 u2, us = [u1, u2] ∧ RelV v u1 ∧ RelV w u2 := by
    cases r1 with
    | cons p q =>
      cases q with
      | cons p' q' =>
        cases q'
        exact ⟨_, _, rfl, p, p'⟩
  refine wpAny_newObj_type ?_ (by show 2 ≤ sizeLine; decide)
  have I2 : Inv X pins σ H1 { s1 with heap := s1.heap.push { cls := .type "tuple", data := .seq [u1, u2].toArray } } := I1.kept (t' := s1.toks) fun b o e => Heap.get?_push_of_some _ e
  rw [hw]
  refine wpAny_bind (wpAny_pure ?_)
  show wpAny (model X.prog X.w) X.A (do rule "assign.swapped-stores"; let items ← unpackItems (.ref s1.heap.objs.size) 2 none; assignInOrder [fun v => bindName X.env y v, fun v => bindName X.env x v] items.reverse; pure Flow.next) _ _ _
  refine wpAny_bind (wpAny_rule (wpAny_bind (unpackItems_tuple (items := #[u1, u2]) (I.ok.hd hc) (IsTup.new s1.heap _) fun h' hx' => ?_)))
  have I3 := I2.kept (h' := h') (t' := s1.toks) fun b o e => hx' b o (Nat.ne_of_lt (Heap.lt_size e)) e
  show wpAny _ _ (assignInOrder [fun v => bindName X.env y v, fun v => bindName X.env x v] [u2, u1] >>= fun _ => pure Flow.next) _ _ _
  refine wpAny_bind (assignInOrder_cons (wpAny_bindName (store_ok I3 hN hj (.inl hy) rw' (fun s2 I4 => ?_) (.inr hy))))
  refine assignInOrder_cons (wpAny_bindName (store_ok I4 hN hi (.inl hx) rv (fun s3 I5 => assignInOrder_nil (wpAny_pure ?_)) (.inr hx)))
  rw [List.set_comm _ _ (Ne.symm hij)] at I5
  exact ⟨_, H1, I5, q1⟩
/-- name op= e -/
def tAug (i : Nat) (te : TE) (ti : TIp) : TS := fun D σ H => ∃ x, σ[i]? = some (some x) ∧ te σ H fun y H1 => ti x y H1 fun z H2 => D.nx (σ.set i (some z)) H2
theorem ps_aug {i : Nat} {x : Str} {e : Expr} {te : TE} {op : Operator} {ti : TIp} {pos' : Pos} (hN : X.N.Nodup) (hi : X.N[i]? = some x) (hx : Loc X.env.scope x) (he : PE X e te) (ho : PIp X op ti) (hf : X.fn x = true ∨ X.env.scope.names.lookup x = some .local := by first | exact .inl rfl | exact .inr rfl | assumption) :
    PS X (.AugAssign (.Name x pos') op e pos) (tAug i te ti) := by
  intro pins s σ H D I h
  obtain ⟨v, e1, h⟩ := h
  obtain ⟨m, hn, hl⟩ := I.loc
  have vis : Vis X.env.scope x := by rcases hx with k | k; exact .inl k; exact .inr (.inl k)
  obtain ⟨u, r, l⟩ := hl i x v hi e1 vis
  refine wpAny_AugAssign_Name ?_
  have go : wpAny (model X.prog X.w) X.A (eval e X.env) (fun w s₂ => wpAny (model X.prog X.w) X.A (inplaceOp op u w) (fun r s₃ => wpAny (model X.prog X.w) X.A (storeName X.env x r) (fun _ => SP X pins D .next) X.xe s₃) X.xe s₂) X.xe s := by
    refine thn (he pins s σ H _ I h) fun w s1 ⟨y, H1, I1, r1, q1⟩ => ?_
    refine thn (ho pins s1 σ H1 v y u w _ I1 r r1 q1) fun z s2 ⟨zv, H2, I2, r2, q2⟩ => ?_
    exact store_ok I2 hN hi hx r2 (fun s3 I3 => ⟨_, H2, I3, q2⟩) hf
  rcases l with ⟨hk, hm⟩ | ⟨hk, c, hc, hcell⟩
  · exact wpAny_loadName_local I.ok.kind hk hn hm go
  · rcases hk with hk | hk
    · exact wpAny_loadName_cell I.ok.kind hk hc hcell go
    · rcases hx with k | k
      · have : X.env.scope.names.lookup x = some .free := hk
        rw [k] at this; cases this
      · have : X.env.scope.names.lookup x = some .free := hk
        rw [k] at this; cases this
/-- o[i] op= e -/
def tAugS (to ti te : TE) (tget : V → V → Hp → VK → Prop) (tip : TIp) (tset : TSet) : TS := fun D σ H => to σ H fun o H1 => ti σ H1 fun i H2 => tget o i H2 fun x H3 => te σ H3 fun y H4 => tip x y H4 fun z H5 => tset o i z H5 fun H6 => D.nx σ H6
/-- o[i], by values -/
def PGet (X : Cx) (t : V → V → Hp → VK → Prop) : Prop :=
  ∀ (pins : List (Addr × Obj)) (s : Shared) (σ : St) (H : Hp) (o i : V) (ov iv : Value) (Q : VK), Inv X pins σ H s → RelV o ov → RelV i iv → t o i H Q →
    wpAny (model X.prog X.w) X.A (getItem ov iv) (EP X pins σ Q) X.xe s
theorem ps_augS {o i e : Expr} {to ti te : TE} {tget : V → V → Hp → VK → Prop} {tip : TIp} {tset : TSet} {op : Operator} {tpos : Pos} (ho : PE X o to) (hi : PE X i ti) (hg : PGet X tget) (he : PE X e te) (hp : PIp X op tip) (hs : PSet X tset)
    (ha : ∀ ov iv new, augStore i ov iv new = (do holding [new, ov, iv] (setItem ov iv new); release [new, ov, iv] []; pure .next) := by intros; rfl) : PS X (.AugAssign (.Subscript o i tpos) op e pos) (tAugS to ti te tget tip tset) := by
  intro pins s σ H D I h
  refine wpAny_AugAssign_SubscriptAny (thn (ho pins s σ H _ I h) fun ov s1 ⟨x1, H1, I1, r1, q1⟩ => ?_) ha
  refine thn (hi pins s1 σ H1 _ I1 q1) fun iv s2 ⟨x2, H2, I2, r2, q2⟩ => ?_
  refine thn (hg pins s2 σ H2 x1 x2 ov iv _ I2 r1 r2 q2) fun old s3 ⟨x3, H3, I3, r3, q3⟩ => ?_
  refine thn (he pins s3 σ H3 _ I3 q3) fun v s4 ⟨x4, H4, I4, r4, q4⟩ => ?_
  refine thn (hp pins s4 σ H4 x3 x4 old v _ I4 r3 r4 q4) fun new s5 ⟨x5, H5, I5, r5, q5⟩ => ?_
  exact thn (hs pins s5 σ H5 x1 x2 x5 ov iv new _ I5 r1 r2 r5 q5) fun _ s6 ⟨H6, I6, q6⟩ => ⟨σ, H6, I6, q6⟩
/-- ints -/
def ipI (f : Int → Int → Int) : TIp := fun x y H Q => ∃ i j, x = .int i ∧ y = .int j ∧ Q (.int (f i j)) H
theorem ip_add : PIp X .Add (ipI fun i j => i + j) := by
  intro pins s σ H x y v u Q I r1 r2 h
  obtain ⟨i, j, e1, e2, q⟩ := h
  subst e1; subst e2
  obtain ⟨t, rfl⟩ := r1
  obtain ⟨t', rfl⟩ := r2
  exact iadd_int ⟨.int _, H, I.tok _, ⟨_, rfl⟩, q⟩
theorem ip_sub : PIp X .Sub (ipI fun i j => i - j) := by
  intro pins s σ H x y v u Q I r1 r2 h
  obtain ⟨i, j, e1, e2, q⟩ := h
  subst e1; subst e2
  obtain ⟨t, rfl⟩ := r1
  obtain ⟨t', rfl⟩ := r2
  exact isub_int ⟨.int _, H, I.tok _, ⟨_, rfl⟩, q⟩
end

/-! ### while -/
section
variable {X : Cx} {pos : Pos}
/-- the invariant W with its measure -/
def tWhile (c : TT) (tb : TS) : TS := fun D σ H => ∃ W : Nat → St → Hp → Prop, (∃ m, W m σ H) ∧ ∀ m σ H, W m σ H →
  c σ H fun b H1 => if b = true then ∃ N : St → Hp → Prop, (∀ σ' H', N σ' H' → ∃ m', m' < m ∧ W m' σ' H') ∧ tb { D with nx := N, ct := N, bk := D.nx } σ H1 else D.nx σ H1
theorem ps_while {c : Expr} {body : List Stmt} {tc : TT} {tb : TS} (hp : PassesOwn (model X.prog X.w) X.A X.env X.xe) (hc : PT X c tc) (hb : PSs X body tb) : PS X (.While c body [] pos) (tWhile tc tb) := by
  intro pins s σ H D I h
  obtain ⟨W, ⟨m0, w0⟩, turn⟩ := h
  refine wpAny_While (codeAny_whileLoop (fun n s' => ∃ σ' H', Inv X pins σ' H' s' ∧ W n σ' H') ?_ m0 ⟨σ, H, I, w0⟩)
  rintro n s1 ⟨σ1, H1, I1, w1⟩
  refine wpAny_passesOwn hp (thn (hc pins s1 σ1 H1 _ I1 (turn n σ1 H1 w1)) fun b s2 ⟨H2, I2, q2⟩ => ?_)
  cases b with
  | true =>
    obtain ⟨N, hN, q2⟩ := q2
    rw [if_pos rfl]
    refine wpAny_passesOwn hp (thn (hb pins s2 σ1 H2 _ I2 q2) fun f s3 q3 => ?_)
    cases f with
    | next =>
      obtain ⟨σ3, H3, I3, n3⟩ := q3
      obtain ⟨m', hm, w3⟩ := hN σ3 H3 n3
      exact ⟨m', hm, σ3, H3, I3, w3⟩
    | cont =>
      obtain ⟨σ3, H3, I3, n3⟩ := q3
      obtain ⟨m', hm, w3⟩ := hN σ3 H3 n3
      exact ⟨m', hm, σ3, H3, I3, w3⟩
    | brk => exact q3
    | ret v => exact q3
  | false =>
    rw [if_neg Bool.false_ne_true]
    exact wpAny_execs_nil ⟨σ1, H2, I2, q2⟩
end

/-! ### what a loop or a comprehension walks -/
/-- at turn i: it yields x (the heap may grow), or it stops -/
structure It where
  go : Nat → Hp → Prop
  yld : Nat → Hp → V → Hp → Prop
  stop : Nat → Hp → Prop
/-- the iterator's own objects may turn: they are not the frame's, not pinned, younger than the entry (or a comprehension's own) -/
def FpOk (X : Cx) (pins : List (Addr × Obj)) (H : Hp) (b : Addr) : Prop :=
  H b = none ∧ b ≠ X.env.locals ∧ b ∉ X.fs ∧ (b ∈ X.ex ∨ X.s₀.heap.objs.size ≤ b) ∧ (∀ x c, X.env.cells.lookup x = some c → c ≠ b) ∧ ∀ p ∈ X.pn ++ pins, p.1 ≠ b
theorem Inv.fpOk {X : Cx} {pins : List (Addr × Obj)} {σ : St} {H H' : Hp} {s : Shared} {b : Addr} (I : Inv X pins σ H s) (hb : s.heap.objs.size ≤ b) (hn : H' b = none) : FpOk X pins H' b := by
  refine ⟨hn, Nat.ne_of_gt (Nat.lt_of_lt_of_le I.lt hb), I.nofs hb, .inr (Nat.le_trans I.sz hb), fun x c e z => ?_, fun p hp z => ?_⟩
  · obtain ⟨v, q⟩ := I.cell x c e
    exact absurd (Nat.lt_of_lt_of_le q.lt (by rw [z]; exact hb)) (Nat.lt_irrefl _)
  · exact absurd (Nat.lt_of_lt_of_le (Heap.lt_size (I.pin p hp).1) (by rw [z]; exact hb)) (Nat.lt_irrefl _)
structure Turn (P : Program) (w : World) (K : PySem.W.Frag) (tg : Expr) (J : It) (fp : List Addr) (it : Addr) (tn : Nat → Heap → Prop) : Prop where
  mem : it ∈ fp
  obj : ∀ i h, tn i h → ∀ b ∈ fp, ∃ o, h.get? b = some o ∧ ∀ v, o.data ≠ .cell v
  keep : ∀ i h h', tn i h → (∀ b ∈ fp, ∀ o, h.get? b = some o → h'.get? b = some o) → tn i h'
  item : ∀ (X : Cx), X.prog = P → X.w = w → X.K = K → X.calm = true → ∀ (i : Nat) (pins : List (Addr × Obj)) (s : Shared) (σ : St) (H : Hp) (E : Value → Shared → Prop), Inv X pins σ H s → (∀ b ∈ fp, FpOk X pins H b) → tn i s.heap → J.go i H →
    wpAny (model P w) X.A (pyNext (.ref it)) (fun r s1 => ∃ u, r = some u ∧
      wpAny (model P w) X.A (letOwnedTupleGo tg (.ref it) u) (fun _ s2 => ∃ x H', Inv X pins σ H' s2 ∧ RelV x u ∧ J.yld i H x H' ∧ tn (i + 1) s2.heap ∧ ∀ b ∈ fp, H' b = none) E s1) E s
  done : ∀ (X : Cx), X.prog = P → X.w = w → X.K = K → X.calm = true → ∀ (i : Nat) (pins : List (Addr × Obj)) (s : Shared) (σ : St) (H : Hp) (E : Value → Shared → Prop), Inv X pins σ H s → (∀ b ∈ fp, FpOk X pins H b) → tn i s.heap → J.stop i H →
    wpAny (model P w) X.A (pyNext (.ref it)) (fun r s1 => r = none ∧ Inv X pins σ H s1) E s
  self : ∀ (A : Around) (i : Nat) (s : Shared) (Q : Value → Shared → Prop) (E : Value → Shared → Prop), tn i s.heap → Q (.ref it) s → wpAny (model P w) A (pyIter (.ref it)) Q E s
abbrev TI := St → Hp → (It → Hp → Prop) → Prop
/-- an iterator has come -/
def PIE (X : Cx) (pins : List (Addr × Obj)) (σ : St) (tg : Expr) (R : It → Hp → Prop) (itv : Value) (s2 : Shared) : Prop :=
  ∃ (it : Addr) (fp : List Addr) (tn : Nat → Heap → Prop) (J : It) (H' : Hp), itv = .ref it ∧ Inv X pins σ H' s2 ∧ Turn X.prog X.w X.K tg J fp it tn ∧ tn 0 s2.heap ∧ (∀ b ∈ fp, FpOk X pins H' b) ∧ R J H'
def PI (X : Cx) (tg iter : Expr) (wi : TI) : Prop :=
  ∀ (pins : List (Addr × Obj)) (s : Shared) (σ : St) (H : Hp) (R : It → Hp → Prop), Inv X pins σ H s → wi σ H R →
    wpAny (model X.prog X.w) X.A (eval iter X.env) (fun v s1 => wpAny (model X.prog X.w) X.A (pyIter v) (PIE X pins σ tg R) X.xe s1) X.xe s

/-- the step ahead of the store is nothing for an iterator that keeps no tuple -/
theorem go_of {M : Model} {A : Around} {E : Value → Shared → Prop} {s : Shared} {tg : Expr} {it : Addr} {u : Value} {o : Obj} {n : String} {vs : Array Value} {Q : Unit → Shared → Prop} (ho : s.heap.get? it = some o) (hc : o.cls = .type n) (hd : o.data = .fields vs)
    (hn : ["enumerate", "zip", "dict_itemiterator", "dict_reverseitemiterator", "odict_iterator", "itertools.zip_longest", "itertools.pairwise"].contains n = false) (hQ : Q () s) : wpAny M A (letOwnedTupleGo tg (.ref it) u) Q E s := by
  unfold letOwnedTupleGo
  cases tg <;> first
    | exact wpAny_pure hQ
    | (cases u <;> first
        | exact wpAny_pure hQ
        | (refine wpAny_bind (wpAny_load ho ?_)
           rw [hc, hd]
           show wpAny M A (if (["enumerate", "zip", "dict_itemiterator", "dict_reverseitemiterator", "odict_iterator", "itertools.zip_longest", "itertools.pairwise"].contains n && vs[0]? == some (rawInt _)) = true then _ else _) Q E s
           rw [if_neg (by intro h; rw [hn, Bool.false_and] at h; cases h)]
           exact wpAny_pure hQ))

/-- the list at a, as it stands at each turn (a loop may append to it) -/
def Itl (K : PySem.W.Frag) (a : Addr) : It :=
  ⟨fun i H => ∃ xs x, SqL K H a xs ∧ xs[i]? = some x, fun i H x H' => H' = H ∧ ∀ xs, SqL K H a xs → xs[i]? = some x, fun i H => ∃ xs, SqL K H a xs ∧ xs.length ≤ i⟩
def Itt (K : PySem.W.Frag) (a : Addr) : It :=
  ⟨fun i H => ∃ xs x, SqT K H a xs ∧ xs[i]? = some x, fun i H x H' => H' = H ∧ ∀ xs, SqT K H a xs → xs[i]? = some x, fun i H => ∃ xs, SqT K H a xs ∧ xs.length ≤ i⟩
/-- lo, lo + 1, .. (n of them) -/
def Itr (lo : Int) (n : Nat) : It := ⟨fun i _ => i < n, fun i H x H' => H' = H ∧ x = .int (lo + i), fun i _ => n ≤ i⟩
theorem turn_list {P : Program} {w : World} {K : PySem.W.Frag} {tg : Expr} (a it : Addr) : Turn P w K tg (Itl K a) [it] it (fun i h => h.IsListIter it a i) where
  mem := by simp
  obj := fun i h st b hb => by
    have e : b = it := by simpa using hb
    subst e
    obtain ⟨o, e, c, d⟩ := st
    exact ⟨o, e, fun v z => by rw [d] at z; cases z⟩
  keep := fun i h h' st k => st.at fun o e => k it (by simp) o e
  item := by
    intro X hP hw hK hc i pins s σ H E I hf st hg
    subst hP hw hK
    obtain ⟨xs, x, hq, hx⟩ := hg
    obtain ⟨its, rv, p, hz⟩ := I.list hq
    obtain ⟨u, hu, ru⟩ := rv.get hx
    obtain ⟨f0, f1, f2, f3, f4, f5⟩ := hf it (by simp)
    refine wpAny_pyNext_list_item st p.isList (x := u) (by simpa using hu) fun h' st' sb => ?_
    have I1 : Inv X pins σ H { s with heap := h' } := I.turned (t' := s.toks) (fun b o hb e => (sb.2 b hb).trans e) f0 f1 f3 f4 f5
    obtain ⟨o, e, c, d⟩ := id st'
    exact ⟨u, rfl, go_of (s := { s with heap := h' }) e c d (by decide) ⟨x, H, I1, ru, ⟨rfl, fun ys hy => by rw [I.list_inj hy hq]; exact hx⟩, st', fun b hb => (hf b hb).1⟩⟩
  done := by
    intro X hP hw hK hc i pins s σ H E I hf st hg
    subst hP hw hK
    obtain ⟨xs, hq, hx⟩ := hg
    obtain ⟨its, rv, p, hz⟩ := I.list hq
    obtain ⟨f0, f1, f2, f3, f4, f5⟩ := hf it (by simp)
    have hl := rv.length
    exact wpAny_pyNext_list_end (I.ok.hd hc) st p.isList (by simp; omega) fun h' eb => ⟨rfl, I.turned (t' := s.toks) (fun b o hb e => eb b o hb e) f0 f1 f3 f4 f5⟩
  self := fun _ _ _ _ _ st h => wpAny_pyIter_listiter st h
theorem turn_tuple {P : Program} {w : World} {K : PySem.W.Frag} {tg : Expr} (a it : Addr) : Turn P w K tg (Itt K a) [it] it (fun i h => h.IsTupleIter it a i) where
  mem := by simp
  obj := fun i h st b hb => by
    have e : b = it := by simpa using hb
    subst e
    obtain ⟨o, e, c, d⟩ := st
    exact ⟨o, e, fun v z => by rw [d] at z; cases z⟩
  keep := fun i h h' st k => st.at fun o e => k it (by simp) o e
  item := by
    intro X hP hw hK hc i pins s σ H E I hf st hg
    subst hP hw hK
    obtain ⟨xs, x, hq, hx⟩ := hg
    obtain ⟨its, rv, p, hz⟩ := I.tuple hq
    obtain ⟨u, hu, ru⟩ := rv.get hx
    obtain ⟨f0, f1, f2, f3, f4, f5⟩ := hf it (by simp)
    refine wpAny_pyNext_tuple_item st (show s.heap.IsTuple a its.toArray from p) (x := u) (by simpa using hu) fun h' st' sb => ?_
    have I1 : Inv X pins σ H { s with heap := h' } := I.turned (t' := s.toks) (fun b o hb e => (sb.2 b hb).trans e) f0 f1 f3 f4 f5
    obtain ⟨o, e, c, d⟩ := id st'
    exact ⟨u, rfl, go_of (s := { s with heap := h' }) e c d (by decide) ⟨x, H, I1, ru, ⟨rfl, fun ys hy => by rw [I.tuple_inj hy hq]; exact hx⟩, st', fun b hb => (hf b hb).1⟩⟩
  done := by
    intro X hP hw hK hc i pins s σ H E I hf st hg
    subst hP hw hK
    obtain ⟨xs, hq, hx⟩ := hg
    obtain ⟨its, rv, p, hz⟩ := I.tuple hq
    obtain ⟨f0, f1, f2, f3, f4, f5⟩ := hf it (by simp)
    have hl := rv.length
    exact wpAny_pyNext_tuple_end (I.ok.hd hc) st (show s.heap.IsTuple a its.toArray from p) (by simp; omega) fun h' eb => ⟨rfl, I.turned (t' := s.toks) (fun b o hb e => eb b o hb e) f0 f1 f3 f4 f5⟩
  self := fun _ _ _ _ _ st h => wpAny_pyIter_tupleiter st h
theorem turn_range {P : Program} {w : World} {K : PySem.W.Frag} {tg : Expr} (it : Addr) (lo : Int) (n : Nat) : Turn P w K tg (Itr lo n) [it] it (fun i h => IsRangeIter h it (lo + (i : Nat) * 1) ((n : Int) - (i : Nat)) 1) where
  mem := by simp
  obj := fun i h st b hb => by
    have e : b = it := by simpa using hb
    subst e
    exact ⟨_, st, fun v z => by
      have z' : Data.fields _ = Data.cell v := z
      cases z'⟩
  keep := fun i h h' st k => k it (by simp) _ st
  item := by
    intro X hP hw hK hc i pins s σ H E I hf st hg
    subst hP hw hK
    obtain ⟨f0, f1, f2, f3, f4, f5⟩ := hf it (by simp)
    have W := Walks.range (prog := X.prog) (w := X.w) (I.ok.hd hc) it lo 1 n
    refine W.item i s _ _ hg st fun v h' tk hv st' kk => ?_
    obtain ⟨t, rfl⟩ := hv
    have I1 : Inv X pins σ H { s with heap := h', toks := tk } := I.turned (fun b o hb e => kk b o (by simpa using hb) e) f0 f1 f3 f4 f5
    refine ⟨_, rfl, go_of (s := { s with heap := h', toks := tk }) (n := "range_iterator") st' rfl rfl (by decide) ⟨.int (lo + i), H, I1, ⟨t, ?_⟩, ⟨rfl, rfl⟩, st', fun b hb => (hf b hb).1⟩⟩
    rw [Int.mul_one]
  done := by
    intro X hP hw hK hc i pins s σ H E I hf st hg
    subst hP hw hK
    obtain ⟨f0, f1, f2, f3, f4, f5⟩ := hf it (by simp)
    exact wpAny_pyNext_range_end (I.ok.hd hc) st (by have : n ≤ i := hg; omega) fun h' eb => ⟨rfl, I.turned (t' := s.toks) (fun b o hb e => eb b o hb e) f0 f1 f3 f4 f5⟩
  self := fun _ _ _ _ _ st h => wpAny_pyIter_rangeiter st h
end L2

namespace L2
open PySem PySem.Spec PyProof.Rows
section
variable {X : Cx} {tg : Expr}
def iList (K : PySem.W.Frag) (tl : TE) : TI := fun σ H R => tl σ H fun x H1 => ∃ a, x = .ref a ∧ (∃ xs, SqL K H1 a xs) ∧ R (Itl K a) H1
def iTup (K : PySem.W.Frag) (tl : TE) : TI := fun σ H R => tl σ H fun x H1 => ∃ a, x = .ref a ∧ (∃ xs, SqT K H1 a xs) ∧ R (Itt K a) H1
theorem pi_list {l : Expr} {tl : TE} (hl : PE X l tl) : PI X tg l (iList X.K tl) := by
  intro pins s σ H R I h
  refine thn (hl pins s σ H _ I h) fun v s1 ⟨x, H1, I1, r1, q1⟩ => ?_
  obtain ⟨a, e, ⟨xs, hq⟩, q⟩ := q1
  subst e
  cases r1
  obtain ⟨its, rv, p, hz⟩ := I1.list hq
  refine wpAny_pyIter_list p.isList ?_
  refine ⟨s1.heap.objs.size, [s1.heap.objs.size], _, _, H1, rfl, I1.kept (t' := s1.toks) fun b o e => Heap.get?_push_of_some _ e, turn_list a _, ⟨_, Heap.get?_push_size _ rfl, rfl, rfl⟩, fun b hb => ?_, q⟩
  have e : b = s1.heap.objs.size := by simpa using hb
  subst e
  exact I1.fpOk (Nat.le_refl _) (I1.hok.fresh (Nat.le_refl _))
theorem pi_tup {l : Expr} {tl : TE} (hl : PE X l tl) : PI X tg l (iTup X.K tl) := by
  intro pins s σ H R I h
  refine thn (hl pins s σ H _ I h) fun v s1 ⟨x, H1, I1, r1, q1⟩ => ?_
  obtain ⟨a, e, ⟨xs, hq⟩, q⟩ := q1
  subst e
  cases r1
  obtain ⟨its, rv, p, hz⟩ := I1.tuple hq
  refine wpAny_pyIter_tuple (show s1.heap.IsTuple a its.toArray from p) ?_
  refine ⟨s1.heap.objs.size, [s1.heap.objs.size], _, _, H1, rfl, I1.kept (t' := s1.toks) fun b o e => Heap.get?_push_of_some _ e, turn_tuple a _, ⟨_, Heap.get?_push_size _ rfl, rfl, rfl⟩, fun b hb => ?_, q⟩
  have e : b = s1.heap.objs.size := by simpa using hb
  subst e
  exact I1.fpOk (Nat.le_refl _) (I1.hok.fresh (Nat.le_refl _))
/-- a range object just made, walked -/
theorem range_it {pins : List (Addr × Obj)} {σ : St} {H : Hp} {s : Shared} {R : It → Hp → Prop} {E : Value → Shared → Prop} {lo hi : Int} {t u v : Tok} {tk : Nat} (I : Inv X pins σ H s) (h1 : -(2 ^ 62) ≤ lo) (h2 : lo < 2 ^ 62) (h3 : -(2 ^ 62) ≤ hi) (h4 : hi < 2 ^ 62)
    (q : R (Itr lo (hi - lo).toNat) H) : wpAny (model X.prog X.w) X.A (pyIter (.ref s.heap.objs.size)) (PIE X pins σ tg R) E { s with heap := s.heap.push { cls := .type "range", data := .fields #[.int lo t, .int hi u, .int 1 v] }, toks := tk } := by
  refine wpAny_pyIter_range (IsRange.new ..) (small_one h1 h2 h3 h4) ?_
  have I1 : Inv X pins σ H { s with heap := s.heap.push { cls := .type "range", data := .fields #[.int lo t, .int hi u, .int 1 v] }, toks := tk } := I.kept fun b o e => Heap.get?_push_of_some _ e
  refine ⟨(s.heap.push { cls := .type "range", data := .fields #[.int lo t, .int hi u, .int 1 v] }).objs.size, [(s.heap.push { cls := .type "range", data := .fields #[.int lo t, .int hi u, .int 1 v] }).objs.size], _, _, H, rfl,
    I1.kept (t' := tk) fun b o e => Heap.get?_push_of_some _ e, turn_range _ lo (hi - lo).toNat, ?_, fun b hb => ?_, q⟩
  · have e1 : lo + ((0 : Nat) : Int) * 1 = lo := by simp
    have e2 : (((hi - lo).toNat : Nat) : Int) - ((0 : Nat) : Int) = Builtin.Range.rangeSize lo hi 1 := by rw [rangeSize_one]; split <;> omega
    show IsRangeIter _ _ (lo + ((0 : Nat) : Int) * 1) ((((hi - lo).toNat : Nat) : Int) - ((0 : Nat) : Int)) 1
    rw [e1, e2]
    exact Heap.get?_push_size _ rfl
  · have e : b = (s.heap.push { cls := .type "range", data := .fields #[.int lo t, .int hi u, .int 1 v] }).objs.size := by simpa using hb
    subst e
    exact I1.fpOk (Nat.le_refl _) (I1.hok.fresh (Nat.le_refl _))
def iRng1 (ta : TA) : TI := fun σ H R => ta σ H fun vs H1 => ∃ j : Int, vs = [.int j] ∧ -(2 ^ 62) ≤ j ∧ j < 2 ^ 62 ∧ R (Itr 0 j.toNat) H1
def iRng2 (ta : TA) : TI := fun σ H R => ta σ H fun vs H1 => ∃ i j : Int, vs = [.int i, .int j] ∧ (-(2 ^ 62) ≤ i ∧ i < 2 ^ 62 ∧ -(2 ^ 62) ≤ j ∧ j < 2 ^ 62) ∧ R (Itr i (j - i).toNat) H1
theorem pi_range1 {a : Expr} {ta : TA} {p pos : Pos} (hg : Gl X "range") (hm : X.mg "range" = none) (ha : PA X [a] ta) (hs : starEach [a] X.env = [(false, eval a X.env)] := by rfl) : PI X tg (.Call (.Name "range" p) [a] [] pos) (iRng1 ta) := by
  intro pins s σ H R I h
  refine Call_ (ld_blt I hg hm boot_range (PyProof.Rows.callWith_type1 (thn (ha pos pins s σ H _ I h) fun us s1 ⟨vs, H1, I1, r1, q1⟩ => ?_) hs rfl))
  obtain ⟨j, e, q1, q2, q⟩ := q1
  subst e
  cases r1 with
  | cons r rr =>
    cases rr
    obtain ⟨t, rfl⟩ := r
    exact call_range_1 (range_it I1 (by omega) (by omega) q1 q2 (by simpa using q))
theorem pi_range2 {a b : Expr} {ta : TA} {p pos : Pos} (hg : Gl X "range") (hm : X.mg "range" = none) (ha : PA X [a, b] ta) (hs : starEach [a, b] X.env = [(false, eval a X.env), (false, eval b X.env)] := by rfl) (hs2 : starEach [b] X.env = [(false, eval b X.env)] := by rfl) :
    PI X tg (.Call (.Name "range" p) [a, b] [] pos) (iRng2 ta) := by
  intro pins s σ H R I h
  refine Call_ (ld_blt I hg hm boot_range (PyProof.Rows.callWith_type1 (thn (ha pos pins s σ H _ I h) fun us s1 ⟨vs, H1, I1, r1, q1⟩ => ?_) (by rw [hs, hs2]) (by rw [hs2]; rfl)))
  obtain ⟨i, j, e, ⟨q1, q2, q3, q4⟩, q⟩ := q1
  subst e
  cases r1 with
  | cons r rr =>
    cases rr with
    | cons r' rr =>
      cases rr
      obtain ⟨t, rfl⟩ := r
      obtain ⟨t', rfl⟩ := r'
      exact call_range_2 (range_it I1 q1 q2 q3 q4 q)

/-! ### for -/
/-- W: the invariant by the turn and a measure; N: what the body is to reach -/
def tFor (wi : TI) (g : TG) (tb : TS) : TS := fun D σ H => wi σ H fun J H1 => ∃ W : Nat → Nat → St → Hp → Prop, (∃ m, W 0 m σ H1) ∧ ∀ i m σ H, W i m σ H →
  (J.stop i H ∧ D.nx σ H) ∨ (J.go i H ∧ ∃ N : St → Hp → Prop, (∀ σ' H', N σ' H' → ∃ m', m' < m ∧ W (i + 1) m' σ' H') ∧ ∀ x H', J.yld i H x H' → g x σ H' fun σ2 H2 => tb { D with nx := N, ct := N, bk := D.nx } σ2 H2)
/-- the records at fp as they stand -/
def pinsAt (fp : List Addr) (h : Heap) : List (Addr × Obj) := fp.filterMap fun b => (h.get? b).map fun o => (b, o)
theorem mem_pinsAt {fp : List Addr} {h : Heap} {b : Addr} {o : Obj} (hb : b ∈ fp) (e : h.get? b = some o) : (b, o) ∈ pinsAt fp h := List.mem_filterMap.mpr ⟨b, hb, by rw [e]; rfl⟩
theorem of_pinsAt {fp : List Addr} {h : Heap} {p : Addr × Obj} (hp : p ∈ pinsAt fp h) : p.1 ∈ fp ∧ h.get? p.1 = some p.2 := by
  obtain ⟨b, hb, e⟩ := List.mem_filterMap.mp hp
  cases q : h.get? b with
  | none => rw [q] at e; cases e
  | some o =>
    rw [q] at e
    have e' : (b, o) = p := Option.some.inj e
    subst e'
    exact ⟨hb, q⟩
theorem Inv.pinned {pins : List (Addr × Obj)} {σ : St} {H : Hp} {s : Shared} {fp : List Addr} (I : Inv X pins σ H s) (hf : ∀ b ∈ fp, FpOk X pins H b) (ho : ∀ b ∈ fp, ∃ o, s.heap.get? b = some o ∧ ∀ v, o.data ≠ .cell v) : Inv X (pins ++ pinsAt fp s.heap) σ H s :=
  I.pins_of fun p hp => (List.mem_append.mp hp).elim (fun z => I.pin p (List.mem_append_right _ z)) fun z => by
    obtain ⟨hb, e⟩ := of_pinsAt z
    obtain ⟨f0, f1, f2, _⟩ := hf p.1 hb
    obtain ⟨o, e', d⟩ := ho p.1 hb
    rw [e] at e'; cases e'
    exact ⟨e, f0, f1, f2, d⟩
theorem Inv.unpinned {pins pl : List (Addr × Obj)} {σ : St} {H : Hp} {s : Shared} (I : Inv X (pins ++ pl) σ H s) : Inv X pins σ H s := I.pins_of fun p hp => I.pin p (List.mem_append_right _ (List.mem_append_left _ hp))
theorem ps_for {iter : Expr} {body : List Stmt} {wi : TI} {g : TG} {tb : TS} {pos : Pos} (hp : PassesOwn (model X.prog X.w) X.A X.env X.xe) (hc : X.calm = true) (hi : PI X tg iter wi) (hg : PG X tg g) (hb : PSs X body tb)
    (hs : ∀ x, foldedSetIterable iter X.env x = pure x := by intro _; rfl) : PS X (.For tg iter body [] pos) (tFor wi g tb) := by
  intro pins s σ H D I h
  refine wpAny_For (thn (hi pins s σ H _ I h) fun v s1 h1 => thn h1 fun itv s2 h2 => ?_) hs
  obtain ⟨it, fp, tn, J, H2, e, I2, T, st2, f2, W, ⟨m0, w0⟩, turn⟩ := h2
  subst e
  -- what stays true of the iterator's objects through the loop
  have stat : ∀ {H' : Hp}, (∀ b ∈ fp, H' b = none) → ∀ b ∈ fp, FpOk X pins H' b := fun hn b hb => ⟨hn b hb, (f2 b hb).2⟩
  refine codeAny_forLoop_any (fun n s' => ∃ i σ' H', Inv X pins σ' H' s' ∧ tn i s'.heap ∧ (∀ b ∈ fp, H' b = none) ∧ W i n σ' H') ?_ m0 ⟨0, σ, H2, I2, st2, fun b hb => (f2 b hb).1, w0⟩
  rintro n s3 ⟨i, σ3, H3, I3, st3, fr3, w3⟩
  rcases turn i n σ3 H3 w3 with ⟨stop, qn⟩ | ⟨go, N, hN, step⟩
  · refine wpAny_passesOwn hp (thn (T.done X rfl rfl rfl hc i pins s3 σ3 H3 X.xe I3 (stat fr3) st3 stop) fun r s4 ⟨hr, I4⟩ => ?_)
    subst hr
    exact wpAny_execs_nil ⟨σ3, H3, I4, qn⟩
  · refine wpAny_passesOwn hp (thn (T.item X rfl rfl rfl hc i pins s3 σ3 H3 X.xe I3 (stat fr3) st3 go) fun r s4 ⟨u, hr, h4⟩ => ?_)
    subst hr
    refine wpAny_passesOwn hp (thn h4 fun _ s5 ⟨x, H5, I5, r5, y5, st5, fr5⟩ => ?_)
    have I5' := I5.pinned (stat fr5) (T.obj _ _ st5)
    refine wpAny_passesOwn hp (thn (hg _ s5 σ3 H5 x u _ I5' r5 (step x H5 y5)) fun _ s6 ⟨σ6, H6, I6, q6⟩ => ?_)
    refine wpAny_passesOwn hp (thn (hb _ s6 σ6 H6 _ I6 q6) fun f s7 q7 => ?_)
    have again : ∀ {σ7 : St} {H7 : Hp}, Inv X (pins ++ pinsAt fp s5.heap) σ7 H7 s7 → N σ7 H7 → ∃ m, m < n ∧ ∃ i σ' H', Inv X pins σ' H' s7 ∧ tn i s7.heap ∧ (∀ b ∈ fp, H' b = none) ∧ W i m σ' H' := fun {σ7 H7} I7 n7 => by
      obtain ⟨m', hm, w7⟩ := hN σ7 H7 n7
      refine ⟨m', hm, i + 1, σ7, H7, I7.unpinned, T.keep _ _ _ st5 fun b hb o e => (I7.pin (b, o) (List.mem_append_right _ (List.mem_append_right _ (mem_pinsAt hb e)))).1, fun b hb => ?_, w7⟩
      obtain ⟨o, e, d⟩ := T.obj _ _ st5 b hb
      exact (I7.pin (b, o) (List.mem_append_right _ (List.mem_append_right _ (mem_pinsAt hb e)))).2.1
    cases f with
    | next => obtain ⟨σ7, H7, I7, n7⟩ := q7; exact again I7 n7
    | cont => obtain ⟨σ7, H7, I7, n7⟩ := q7; exact again I7 n7
    | brk => obtain ⟨σ7, H7, I7, q7⟩ := q7; exact ⟨σ7, H7, I7.unpinned, q7⟩
    | ret v => obtain ⟨x7, σ7, H7, I7, r7, q7⟩ := q7; exact ⟨x7, σ7, H7, I7.unpinned, r7, q7⟩
end

/-! ### the forms one uses -/
/-- over a list that the body leaves as it is -/
theorem for_list {K : PySem.W.Frag} {a : Addr} {xs : List V} {g : TG} {tb : TS} {D : Ends} {σ : St} {H : Hp} (Pv : Nat → St → Hp → Prop) (h0 : Pv 0 σ H) (hl : ∀ i σ H, i ≤ xs.length → Pv i σ H → SqL K H a xs)
    (hs : ∀ i x σ H, xs[i]? = some x → Pv i σ H → g x σ H fun σ2 H2 => tb { D with nx := Pv (i + 1), ct := Pv (i + 1), bk := D.nx } σ2 H2) (hd : ∀ σ H, Pv xs.length σ H → D.nx σ H) :
    ∃ W : Nat → Nat → St → Hp → Prop, (∃ m, W 0 m σ H) ∧ ∀ i m σ H, W i m σ H →
      ((Itl K a).stop i H ∧ D.nx σ H) ∨ ((Itl K a).go i H ∧ ∃ N : St → Hp → Prop, (∀ σ' H', N σ' H' → ∃ m', m' < m ∧ W (i + 1) m' σ' H') ∧ ∀ x H', (Itl K a).yld i H x H' → g x σ H' fun σ2 H2 => tb { D with nx := N, ct := N, bk := D.nx } σ2 H2) := by
  refine ⟨fun i m σ H => m = xs.length - i ∧ i ≤ xs.length ∧ Pv i σ H, ⟨xs.length, by simp, Nat.zero_le _, h0⟩, ?_⟩
  rintro i m σ H ⟨rfl, hi, p⟩
  have q := hl i σ H hi p
  by_cases hlt : i < xs.length
  · refine .inr ⟨⟨xs, xs[i], q, by simp [hlt]⟩, Pv (i + 1), fun σ' H' p' => ⟨xs.length - (i + 1), by omega, rfl, hlt, p'⟩, fun x H' y => ?_⟩
    obtain ⟨e, y⟩ := y
    subst e
    exact hs i x σ _ (y xs q) p
  · have e : i = xs.length := by omega
    subst e
    exact .inl ⟨⟨xs, q, Nat.le_refl _⟩, hd σ H p⟩
theorem for_tup {K : PySem.W.Frag} {a : Addr} {xs : List V} {g : TG} {tb : TS} {D : Ends} {σ : St} {H : Hp} (Pv : Nat → St → Hp → Prop) (h0 : Pv 0 σ H) (hl : ∀ i σ H, i ≤ xs.length → Pv i σ H → SqT K H a xs)
    (hs : ∀ i x σ H, xs[i]? = some x → Pv i σ H → g x σ H fun σ2 H2 => tb { D with nx := Pv (i + 1), ct := Pv (i + 1), bk := D.nx } σ2 H2) (hd : ∀ σ H, Pv xs.length σ H → D.nx σ H) :
    ∃ W : Nat → Nat → St → Hp → Prop, (∃ m, W 0 m σ H) ∧ ∀ i m σ H, W i m σ H →
      ((Itt K a).stop i H ∧ D.nx σ H) ∨ ((Itt K a).go i H ∧ ∃ N : St → Hp → Prop, (∀ σ' H', N σ' H' → ∃ m', m' < m ∧ W (i + 1) m' σ' H') ∧ ∀ x H', (Itt K a).yld i H x H' → g x σ H' fun σ2 H2 => tb { D with nx := N, ct := N, bk := D.nx } σ2 H2) := by
  refine ⟨fun i m σ H => m = xs.length - i ∧ i ≤ xs.length ∧ Pv i σ H, ⟨xs.length, by simp, Nat.zero_le _, h0⟩, ?_⟩
  rintro i m σ H ⟨rfl, hi, p⟩
  have q := hl i σ H hi p
  by_cases hlt : i < xs.length
  · refine .inr ⟨⟨xs, xs[i], q, by simp [hlt]⟩, Pv (i + 1), fun σ' H' p' => ⟨xs.length - (i + 1), by omega, rfl, hlt, p'⟩, fun x H' y => ?_⟩
    obtain ⟨e, y⟩ := y
    subst e
    exact hs i x σ _ (y xs q) p
  · have e : i = xs.length := by omega
    subst e
    exact .inl ⟨⟨xs, q, Nat.le_refl _⟩, hd σ H p⟩
theorem for_range {lo : Int} {n : Nat} {g : TG} {tb : TS} {D : Ends} {σ : St} {H : Hp} (Pv : Nat → St → Hp → Prop) (h0 : Pv 0 σ H)
    (hs : ∀ i σ H, i < n → Pv i σ H → g (.int (lo + i)) σ H fun σ2 H2 => tb { D with nx := Pv (i + 1), ct := Pv (i + 1), bk := D.nx } σ2 H2) (hd : ∀ σ H, Pv n σ H → D.nx σ H) :
    ∃ W : Nat → Nat → St → Hp → Prop, (∃ m, W 0 m σ H) ∧ ∀ i m σ H, W i m σ H →
      ((Itr lo n).stop i H ∧ D.nx σ H) ∨ ((Itr lo n).go i H ∧ ∃ N : St → Hp → Prop, (∀ σ' H', N σ' H' → ∃ m', m' < m ∧ W (i + 1) m' σ' H') ∧ ∀ x H', (Itr lo n).yld i H x H' → g x σ H' fun σ2 H2 => tb { D with nx := N, ct := N, bk := D.nx } σ2 H2) := by
  refine ⟨fun i m σ H => m = n - i ∧ i ≤ n ∧ Pv i σ H, ⟨n, by simp, Nat.zero_le _, h0⟩, ?_⟩
  rintro i m σ H ⟨rfl, hi, p⟩
  by_cases hlt : i < n
  · refine .inr ⟨hlt, Pv (i + 1), fun σ' H' p' => ⟨n - (i + 1), by omega, rfl, hlt, p'⟩, fun x H' y => ?_⟩
    obtain ⟨e, y⟩ := y
    subst e y
    exact hs i σ _ hlt p
  · have e : i = n := by omega
    subst e
    exact .inl ⟨Nat.le_refl _, hd σ H p⟩
/-- while, by a word and a measure of the state -/
theorem while_by {c : TT} {tb : TS} {D : Ends} {σ : St} {H : Hp} (Pv : St → Hp → Prop) (μ : St → Hp → Nat) (h0 : Pv σ H)
    (hs : ∀ σ H, Pv σ H → c σ H fun b H1 => if b = true then tb { D with nx := fun σ' H' => Pv σ' H' ∧ μ σ' H' < μ σ H, ct := fun σ' H' => Pv σ' H' ∧ μ σ' H' < μ σ H, bk := D.nx } σ H1 else D.nx σ H1)
    (mono : ∀ σ H Q Q', (∀ b H1, Q b H1 → Q' b H1) → c σ H Q → c σ H Q') : tWhile c tb D σ H := by
  refine ⟨fun m σ H => m = μ σ H ∧ Pv σ H, ⟨_, rfl, h0⟩, ?_⟩
  rintro m σ H ⟨rfl, p⟩
  refine mono σ H _ _ (fun b H1 q => ?_) (hs σ H p)
  cases b with
  | true => exact ⟨_, fun σ' H' ⟨p', l⟩ => ⟨_, l, rfl, p'⟩, q⟩
  | false => exact q
end L2

namespace L2
open PySem PySem.Spec PyProof.Rows

abbrev R2 := V → V → Hp → VK → Prop
/-- a two-place operation on values: f is binaryOp op, inplaceOp op or compareOp op -/
def OpR (X : Cx) (f : Value → Value → Sem Value) (r : R2) : Prop :=
  ∀ (pins : List (Addr × Obj)) (s : Shared) (σ : St) (H : Hp) (x y : V) (v u : Value) (Q : VK), Inv X pins σ H s → RelV x v → RelV y u → r x y H Q →
    wpAny (model X.prog X.w) X.A (f v u) (EP X pins σ Q) X.xe s
/-- a one-place operation -/
def UnR (X : Cx) (f : Value → Sem Value) (r : V → Hp → VK → Prop) : Prop :=
  ∀ (pins : List (Addr × Obj)) (s : Shared) (σ : St) (H : Hp) (x : V) (v : Value) (Q : VK), Inv X pins σ H s → RelV x v → r x H Q →
    wpAny (model X.prog X.w) X.A (f v) (EP X pins σ Q) X.xe s
/-- a call of a value that is known (a builtin, a type) with values -/
def CallR (X : Cx) (f : Value) (r : List V → Hp → VK → Prop) : Prop :=
  ∀ (pins : List (Addr × Obj)) (s : Shared) (σ : St) (H : Hp) (xs : List V) (us : List Value) (Q : VK), Inv X pins σ H s → Vals xs us → r xs H Q →
    wpAny (model X.prog X.w) X.A (call f us) (EP X pins σ Q) X.xe s
/-- a value's truth -/
def TruR (X : Cx) (r : V → Hp → (Bool → Hp → Prop) → Prop) : Prop :=
  ∀ (pins : List (Addr × Obj)) (s : Shared) (σ : St) (H : Hp) (x : V) (v : Value) (Q : Bool → Hp → Prop), Inv X pins σ H s → RelV x v → r x H Q →
    wpAny (model X.prog X.w) X.A (truthy v) (TP X pins σ Q) X.xe s

def tOp (r : R2) (ta tb : TE) : TE := fun σ H Q => ta σ H fun x H1 => tb σ H1 fun y H2 => r x y H2 Q
def tUn (r : V → Hp → VK → Prop) (ta : TE) : TE := fun σ H Q => ta σ H fun x H1 => r x H1 Q
/-- ints in, under C, and a value out -/
def rI (C : Int → Int → Prop) (g : Int → Int → V) : R2 := fun x y H Q => ∃ i j, x = .int i ∧ y = .int j ∧ C i j ∧ Q (g i j) H
def rI0 (g : Int → Int → V) : R2 := fun x y H Q => ∃ i j, x = .int i ∧ y = .int j ∧ Q (g i j) H
def rU (g : Int → V) : V → Hp → VK → Prop := fun x H Q => ∃ i, x = .int i ∧ Q (g i) H

section
variable {X : Cx} {a b c : Expr} {ta tb tc : TE} {pos : Pos}

theorem binT (ha : PE X a ta) (hb : PE X b tb) {pins : List (Addr × Obj)} {s : Shared} {σ : St} {H : Hp} {R : V → V → Hp → Prop} (I : Inv X pins σ H s)
    (h : ta σ H fun x H1 => tb σ H1 fun y H2 => R x y H2) {Q : Value → Shared → Prop} {f : Value → Value → Sem Value}
    (hf : ∀ v u s2 x y H2, Inv X pins σ H2 s2 → RelV x v → RelV y u → R x y H2 → wpAny (model X.prog X.w) X.A (f v u) Q X.xe s2) :
    wpAny (model X.prog X.w) X.A (eval a X.env) (fun v s₁ => wpAny (model X.prog X.w) X.A (eval b X.env) (fun u s₂ => wpAny (model X.prog X.w) X.A (f v u) Q X.xe s₂) X.xe s₁) X.xe s := by
  refine thn (ha pins s σ H _ I h) fun v s1 ⟨x, H1, I1, r1, q1⟩ => ?_
  refine thn (hb pins s1 σ H1 _ I1 q1) fun u s2 ⟨y, H2, I2, r2, q2⟩ => ?_
  exact hf v u s2 x y H2 I2 r1 r2 q2

theorem pe_op {op : Operator} {r : R2} (ho : OpR X (binaryOp op) r) (ha : PE X a ta) (hb : PE X b tb) : PE X (.BinOp a op b pos) (tOp r ta tb) := by
  intro pins s σ H Q I h
  exact wpAny_BinOp (binT ha hb I h fun v u s2 x y H2 I2 rx ry q => ho pins s2 σ H2 x y v u Q I2 rx ry q)
theorem pe_un {op : UnaryOp} {r : V → Hp → VK → Prop} (ho : UnR X (unaryOp op) r) (ha : PE X a ta) : PE X (.UnaryOp op a pos) (tUn r ta) := by
  intro pins s σ H Q I h
  exact UnaryOp_ (thn (ha pins s σ H _ I h) fun v s1 ⟨x, H1, I1, r1, q1⟩ => ho pins s1 σ H1 x v Q I1 r1 q1)
/-- a op= e at a name: the name's slot i -/
theorem augR {op : Operator} {r : R2} (ho : OpR X (inplaceOp op) r) {pins : List (Addr × Obj)} {s : Shared} {σ : St} {H : Hp} {x y : V} {v u : Value} {Q : VK} (I : Inv X pins σ H s)
    (rx : RelV x v) (ry : RelV y u) (q : r x y H Q) : wpAny (model X.prog X.w) X.A (inplaceOp op v u) (EP X pins σ Q) X.xe s := ho pins s σ H x y v u Q I rx ry q

/-! ### ints -/
theorem opI {f : Value → Value → Sem Value} {C : Int → Int → Prop} {g : Int → Int → Int}
    (rule : ∀ (i j : Int) (t u : Tok) (s : Shared) (Q : Value → Shared → Prop) (E : Value → Shared → Prop), C i j → Q (.int (g i j) s.toks) { s with toks := s.toks + 1 } → wpAny (model X.prog X.w) X.A (f (.int i t) (.int j u)) Q E s) :
    OpR X f (rI C fun i j => .int (g i j)) := by
  intro pins s σ H x y v u Q I rx ry h
  obtain ⟨i, j, rfl, rfl, hc, q⟩ := h
  obtain ⟨t, rfl⟩ := rx
  obtain ⟨t', rfl⟩ := ry
  exact rule i j t t' s _ _ hc ⟨.int (g i j), H, I.tok _, ⟨_, rfl⟩, q⟩
theorem opI0 {f : Value → Value → Sem Value} {g : Int → Int → Int}
    (rule : ∀ (i j : Int) (t u : Tok) (s : Shared) (Q : Value → Shared → Prop) (E : Value → Shared → Prop), Q (.int (g i j) s.toks) { s with toks := s.toks + 1 } → wpAny (model X.prog X.w) X.A (f (.int i t) (.int j u)) Q E s) :
    OpR X f (rI0 fun i j => .int (g i j)) := by
  intro pins s σ H x y v u Q I rx ry h
  obtain ⟨i, j, rfl, rfl, q⟩ := h
  obtain ⟨t, rfl⟩ := rx
  obtain ⟨t', rfl⟩ := ry
  exact rule i j t t' s _ _ ⟨.int (g i j), H, I.tok _, ⟨_, rfl⟩, q⟩
theorem opB0 {f : Value → Value → Sem Value} {g : Int → Int → Bool}
    (rule : ∀ (i j : Int) (t u : Tok) (s : Shared) (Q : Value → Shared → Prop) (E : Value → Shared → Prop), Q (.bool (g i j)) s → wpAny (model X.prog X.w) X.A (f (.int i t) (.int j u)) Q E s) :
    OpR X f (rI0 fun i j => .bl (g i j)) := by
  intro pins s σ H x y v u Q I rx ry h
  obtain ⟨i, j, rfl, rfl, q⟩ := h
  obtain ⟨t, rfl⟩ := rx
  obtain ⟨t', rfl⟩ := ry
  exact rule i j t t' s _ _ ⟨.bl (g i j), H, I, rfl, q⟩

def CDiv (i j : Int) : Prop := 0 < j ∧ j < 1073741824
def CDivN (i j : Int) : Prop := j ≠ 0 ∧ j.natAbs < 1073741824
def CPow (i j : Int) : Prop := 0 ≤ j ∧ j ≤ 1000000 ∧ i.natAbs < 2 ^ 64
def CMul (i j : Int) : Prop := (-(2 ^ 64) < i ∧ i < 2 ^ 64) ∨ (-(2 ^ 64) < j ∧ j < 2 ^ 64)
theorem CMul.ok {i j : Int} (h : CMul i j) : IntMulOk i j := by
  rcases h with ⟨h1, h2⟩ | ⟨h1, h2⟩
  · exact .of_left (intBits_le_64 h1 h2)
  · exact .of_right (intBits_le_64 h1 h2)
theorem two_pow_nn (k : Nat) : (0 : Int) ≤ 2 ^ k := by
  rw [two_pow_cast]
  exact Int.natCast_nonneg _

theorem op_add : OpR X (binaryOp .Add) (rI0 fun i j => .int (i + j)) := opI0 fun _ _ _ _ _ _ _ q => add_int q
theorem op_sub : OpR X (binaryOp .Sub) (rI0 fun i j => .int (i - j)) := opI0 fun _ _ _ _ _ _ _ q => sub_int q
theorem op_mul : OpR X (binaryOp .Mult) (rI CMul fun i j => .int (i * j)) := opI fun _ _ _ _ _ _ _ hc q => mul_int q hc.ok
/-- // by a positive divisor -/
theorem op_fdiv : OpR X (binaryOp .FloorDiv) (rI CDiv fun i j => .int (i / j)) := opI fun i j _ _ _ _ _ hc q => by
  have h1 : (0 : Int) < j := hc.1
  have h2 : j < 1073741824 := hc.2
  exact floordiv_int (by omega) (by rw [Int.fdiv_eq_ediv_of_nonneg i (by omega)]; exact q) (.inl (PyProof.noPylong_small (by omega)))
theorem op_fdivN : OpR X (binaryOp .FloorDiv) (rI CDivN fun i j => .int (i.fdiv j)) := opI fun _ _ _ _ _ _ _ hc q => floordiv_int hc.1 q (.inl (PyProof.noPylong_small hc.2))
/-- % by a positive divisor of any size -/
theorem op_mod : OpR X (binaryOp .Mod) (rI (fun _ j => 0 < j) fun i j => .int (i % j)) := opI fun i j _ _ _ _ _ hc q => by
  have h1 : (0 : Int) < j := hc
  exact mod_int' (by omega) (by rw [Int.fmod_eq_emod_of_nonneg i (by omega)]; exact q)
theorem op_modN : OpR X (binaryOp .Mod) (rI (fun _ j => j ≠ 0) fun i j => .int (i.fmod j)) := opI fun _ _ _ _ _ _ _ hc q => mod_int' hc q
theorem op_pow : OpR X (binaryOp .Pow) (rI CPow fun i j => .int (i ^ j.toNat)) := opI fun _ _ _ _ _ _ _ hc q => pow_int_small hc.1 hc.2.1 hc.2.2 q
theorem op_shl : OpR X (binaryOp .LShift) (rI CPow fun i j => .int (i * 2 ^ j.toNat)) := opI fun _ _ _ _ _ _ _ hc q => lshift_int_small hc.1 hc.2.1 hc.2.2 q
theorem op_shr : OpR X (binaryOp .RShift) (rI (fun _ j => 0 ≤ j) fun i j => .int (i / 2 ^ j.toNat)) := opI fun i j _ _ _ _ _ hc q =>
  rshift_int hc (by rw [Int.fdiv_eq_ediv_of_nonneg i (two_pow_nn _)]; exact q)
theorem op_and : OpR X (binaryOp .BitAnd) (rI0 fun i j => .int (Builtin.bitAnd i j)) := opI0 fun _ _ _ _ _ _ _ q => and_int q
theorem op_or : OpR X (binaryOp .BitOr) (rI0 fun i j => .int (Builtin.bitOr i j)) := opI0 fun _ _ _ _ _ _ _ q => or_int q
theorem op_xor : OpR X (binaryOp .BitXor) (rI0 fun i j => .int (Builtin.bitXor i j)) := opI0 fun _ _ _ _ _ _ _ q => xor_int q

theorem iop_add : OpR X (inplaceOp .Add) (rI0 fun i j => .int (i + j)) := opI0 fun _ _ _ _ _ _ _ q => iadd_int q
theorem iop_sub : OpR X (inplaceOp .Sub) (rI0 fun i j => .int (i - j)) := opI0 fun _ _ _ _ _ _ _ q => isub_int q
theorem iop_mul : OpR X (inplaceOp .Mult) (rI CMul fun i j => .int (i * j)) := opI fun _ _ _ _ _ _ _ hc q => imul_int q hc.ok
theorem iop_fdiv : OpR X (inplaceOp .FloorDiv) (rI CDiv fun i j => .int (i / j)) := opI fun i j _ _ _ _ _ hc q => by
  have h1 : (0 : Int) < j := hc.1
  have h2 : j < 1073741824 := hc.2
  exact ifloordiv_int (by omega) (by rw [Int.fdiv_eq_ediv_of_nonneg i (by omega)]; exact q) (.inl (PyProof.noPylong_small (by omega)))
theorem iop_mod : OpR X (inplaceOp .Mod) (rI (fun _ j => 0 < j) fun i j => .int (i % j)) := opI fun i j _ _ _ _ _ hc q => by
  have h1 : (0 : Int) < j := hc
  exact imod_int (by omega) (by rw [Int.fmod_eq_emod_of_nonneg i (by omega)]; exact q)
theorem iop_shl : OpR X (inplaceOp .LShift) (rI CPow fun i j => .int (i * 2 ^ j.toNat)) := opI fun _ _ _ _ _ _ _ hc q => ilshift_int_small hc.1 hc.2.1 hc.2.2 q
theorem iop_shr : OpR X (inplaceOp .RShift) (rI (fun _ j => 0 ≤ j) fun i j => .int (i / 2 ^ j.toNat)) := opI fun i j _ _ _ _ _ hc q =>
  irshift_int hc (by rw [Int.fdiv_eq_ediv_of_nonneg i (two_pow_nn _)]; exact q)
theorem iop_and : OpR X (inplaceOp .BitAnd) (rI0 fun i j => .int (Builtin.bitAnd i j)) := opI0 fun _ _ _ _ _ _ _ q => iand_int q
theorem iop_or : OpR X (inplaceOp .BitOr) (rI0 fun i j => .int (Builtin.bitOr i j)) := opI0 fun _ _ _ _ _ _ _ q => ior_int q
theorem iop_xor : OpR X (inplaceOp .BitXor) (rI0 fun i j => .int (Builtin.bitXor i j)) := opI0 fun _ _ _ _ _ _ _ q => ixor_int q

theorem unI {f : Value → Sem Value} {g : Int → Int}
    (rule : ∀ (i : Int) (t : Tok) (s : Shared) (Q : Value → Shared → Prop) (E : Value → Shared → Prop), Q (.int (g i) s.toks) { s with toks := s.toks + 1 } → wpAny (model X.prog X.w) X.A (f (.int i t)) Q E s) :
    UnR X f (rU fun i => .int (g i)) := by
  intro pins s σ H x v Q I rx h
  obtain ⟨i, rfl, q⟩ := h
  obtain ⟨t, rfl⟩ := rx
  exact rule i t s _ _ ⟨.int (g i), H, I.tok _, ⟨_, rfl⟩, q⟩
theorem un_neg : UnR X (unaryOp .USub) (rU fun i => .int (-i)) := unI fun _ _ _ _ _ q => neg_int q
theorem un_inv : UnR X (unaryOp .Invert) (rU fun i => .int (Builtin.bitNot i)) := unI fun _ _ _ _ _ q => invert_int q

/-! ### bools among ints: n += (a < b) -/
theorem op_add_ib : OpR X (binaryOp .Add) (fun x y H Q => ∃ i k, x = .int i ∧ y = .bl k ∧ Q (.int (i + b2i k)) H) := by
  intro pins s σ H x y v u Q I rx ry h
  obtain ⟨i, k, rfl, rfl, q⟩ := h
  obtain ⟨t, rfl⟩ := rx
  cases ry
  exact add_int_bool ⟨.int (i + b2i k), H, I.tok _, ⟨_, rfl⟩, q⟩
end

/-! ### comparisons -/
/-- the scalars that == tells apart as data does -/
def scal : V → V → Bool
  | .non, .non => true | .non, .int _ => true | .int _, .non => true | .non, .bl _ => true | .bl _, .non => true | .non, .str _ => true | .str _, .non => true
  | .int _, .int _ => true | .bl _, .bl _ => true | .str _, .str _ => true | .byt _, .byt _ => true
  | .int _, .str _ => true | .str _, .int _ => true | .bl _, .str _ => true | .str _, .bl _ => true
  | _, _ => false
def rEq : R2 := fun x y H Q => scal x y = true ∧ Q (.bl (decide (x = y))) H
def rNe : R2 := fun x y H Q => scal x y = true ∧ Q (.bl (!decide (x = y))) H

theorem dec_int {i j : Int} : decide (V.int i = V.int j) = (i == j) := by
  rw [Bool.eq_iff_iff]
  simp
theorem dec_bl {i j : Bool} : decide (V.bl i = V.bl j) = (i == j) := by
  rw [Bool.eq_iff_iff]
  simp
theorem dec_str {i j : Str} : decide (V.str i = V.str j) = (i == j) := by
  rw [Bool.eq_iff_iff]
  simp
theorem dec_byt {i j : Array UInt8} : decide (V.byt i = V.byt j) = (i.toList == j.toList) := by
  rw [Bool.eq_iff_iff]
  cases i
  cases j
  simp

section
variable {X : Cx} {a b c : Expr} {ta tb tc : TE} {pos : Pos}
theorem fin_bl {pins : List (Addr × Obj)} {σ : St} {H : Hp} {s : Shared} {Q : VK} {k k' : Bool} (I : Inv X pins σ H s) (q : Q (.bl k) H) (e : k = k') : EP X pins σ Q (.bool k') s := by
  subst e
  exact ⟨.bl k, H, I, rfl, q⟩
theorem op_eq : OpR X (compareOp .Eq) rEq := by
  intro pins s σ H x y v u Q I rx ry h
  obtain ⟨hs, q⟩ := h
  cases x with
  | non =>
    cases rx
    cases y with
    | non => cases ry; exact PySem.EqNone.eq_none_none (fin_bl I q (by simp))
    | bl j => cases ry; exact PySem.EqNone.eq_none_bool (fin_bl I q (by simp))
    | int j => obtain ⟨t', rfl⟩ := ry; exact PySem.EqNone.eq_none_int (fin_bl I q (by simp))
    | str j => obtain ⟨t', rfl⟩ := ry; exact PySem.EqNone.eq_none_str (fin_bl I q (by simp))
    | _ => exact absurd (show false = true from hs) Bool.false_ne_true
  | bl i =>
    cases rx
    cases y with
    | non => cases ry; exact PySem.EqNone.eq_bool_none (fin_bl I q (by simp))
    | bl j => cases ry; exact eq_bool (fin_bl I q dec_bl)
    | str j => obtain ⟨t', rfl⟩ := ry; exact PySem.EqMixed.eq_bool_str (fin_bl I q (by simp))
    | _ => exact absurd (show false = true from hs) Bool.false_ne_true
  | int i =>
    obtain ⟨t, rfl⟩ := rx
    cases y with
    | non => cases ry; exact PySem.EqNone.eq_int_none (fin_bl I q (by simp))
    | int j => obtain ⟨t', rfl⟩ := ry; exact eq_int (fin_bl I q dec_int)
    | str j => obtain ⟨t', rfl⟩ := ry; exact PySem.EqMixed.eq_int_str (fin_bl I q (by simp))
    | _ => exact absurd (show false = true from hs) Bool.false_ne_true
  | str i =>
    obtain ⟨t, rfl⟩ := rx
    cases y with
    | non => cases ry; exact PySem.EqNone.eq_str_none (fin_bl I q (by simp))
    | bl j => cases ry; exact PySem.EqMixed.eq_str_bool (fin_bl I q (by simp))
    | int j => obtain ⟨t', rfl⟩ := ry; exact PySem.EqMixed.eq_str_int (fin_bl I q (by simp))
    | str j => obtain ⟨t', rfl⟩ := ry; exact eq_str (fin_bl I q dec_str)
    | _ => exact absurd (show false = true from hs) Bool.false_ne_true
  | byt i =>
    obtain ⟨t, rfl⟩ := rx
    cases y with
    | byt j => obtain ⟨t', rfl⟩ := ry; exact PySem.W.eq_bytes (fin_bl I q dec_byt)
    | _ => exact absurd (show false = true from hs) Bool.false_ne_true
  | _ => cases y <;> exact absurd (show false = true from hs) Bool.false_ne_true
theorem op_ne : OpR X (compareOp .NotEq) rNe := by
  intro pins s σ H x y v u Q I rx ry h
  obtain ⟨hs, q⟩ := h
  cases x with
  | non =>
    cases rx
    cases y with
    | non => cases ry; exact PySem.EqNone.ne_none_none (fin_bl I q (by simp))
    | bl j => cases ry; exact PySem.EqNone.ne_none_bool (fin_bl I q (by simp))
    | int j => obtain ⟨t', rfl⟩ := ry; exact PySem.EqNone.ne_none_int (fin_bl I q (by simp))
    | str j => obtain ⟨t', rfl⟩ := ry; exact PySem.EqNone.ne_none_str (fin_bl I q (by simp))
    | _ => exact absurd (show false = true from hs) Bool.false_ne_true
  | bl i =>
    cases rx
    cases y with
    | non => cases ry; exact PySem.EqNone.ne_bool_none (fin_bl I q (by simp))
    | bl j => cases ry; exact ne_bool (fin_bl I q (congrArg not dec_bl))
    | str j => obtain ⟨t', rfl⟩ := ry; exact PySem.EqMixed.ne_bool_str (fin_bl I q (by simp))
    | _ => exact absurd (show false = true from hs) Bool.false_ne_true
  | int i =>
    obtain ⟨t, rfl⟩ := rx
    cases y with
    | non => cases ry; exact PySem.EqNone.ne_int_none (fin_bl I q (by simp))
    | int j => obtain ⟨t', rfl⟩ := ry; exact ne_int (fin_bl I q (congrArg not dec_int))
    | str j => obtain ⟨t', rfl⟩ := ry; exact PySem.EqMixed.ne_int_str (fin_bl I q (by simp))
    | _ => exact absurd (show false = true from hs) Bool.false_ne_true
  | str i =>
    obtain ⟨t, rfl⟩ := rx
    cases y with
    | non => cases ry; exact PySem.EqNone.ne_str_none (fin_bl I q (by simp))
    | bl j => cases ry; exact PySem.EqMixed.ne_str_bool (fin_bl I q (by simp))
    | int j => obtain ⟨t', rfl⟩ := ry; exact PySem.EqMixed.ne_str_int (fin_bl I q (by simp))
    | str j => obtain ⟨t', rfl⟩ := ry; exact ne_str (fin_bl I q (congrArg not dec_str))
    | _ => exact absurd (show false = true from hs) Bool.false_ne_true
  | byt i =>
    obtain ⟨t, rfl⟩ := rx
    cases y with
    | byt j => obtain ⟨t', rfl⟩ := ry; exact PySem.W.ne_bytes (fin_bl I q (congrArg not dec_byt))
    | _ => exact absurd (show false = true from hs) Bool.false_ne_true
  | _ => cases y <;> exact absurd (show false = true from hs) Bool.false_ne_true

theorem op_lt : OpR X (compareOp .Lt) (rI0 fun i j => .bl (decide (i < j))) := opB0 fun _ _ _ _ _ _ _ q => lt_int q
theorem op_le : OpR X (compareOp .LtE) (rI0 fun i j => .bl (decide (i ≤ j))) := opB0 fun _ _ _ _ _ _ _ q => le_int q
theorem op_gt : OpR X (compareOp .Gt) (rI0 fun i j => .bl (decide (j < i))) := opB0 fun _ _ _ _ _ _ _ q => gt_int q
theorem op_ge : OpR X (compareOp .GtE) (rI0 fun i j => .bl (decide (j ≤ i))) := opB0 fun _ _ _ _ _ _ _ q => ge_int q
theorem op_lt_str : OpR X (compareOp .Lt) (fun x y H Q => ∃ i j, x = .str i ∧ y = .str j ∧ Q (.bl (decide (i.cps.toList < j.cps.toList))) H) := by
  intro pins s σ H x y v u Q I rx ry h
  obtain ⟨i, j, rfl, rfl, q⟩ := h
  obtain ⟨t, rfl⟩ := rx
  obtain ⟨t', rfl⟩ := ry
  exact lt_str (fin_bl I q rfl)
/-- the one string within the other -/
theorem op_in_str : OpR X (compareOp .In) (fun x y H Q => ∃ i j, x = .str i ∧ y = .str j ∧ Q (.bl (!(Builtin.Str.occurrences j i 0 j.length 1).isEmpty)) H) := by
  intro pins s σ H x y v u Q I rx ry h
  obtain ⟨i, j, rfl, rfl, q⟩ := h
  obtain ⟨t, rfl⟩ := rx
  obtain ⟨t', rfl⟩ := ry
  exact in_str (fin_bl I q rfl)

/-- is None, is not None: the right side a value none -/
theorem op_isN : OpR X (compareOp .Is) (fun x y H Q => y = .non ∧ Q (.bl (decide (x = .non))) H) := by
  intro pins s σ H x y v u Q I rx ry h
  obtain ⟨rfl, q⟩ := h
  cases ry
  refine is_none_gen (fin_bl I q ?_)
  cases x <;> first
    | (cases rx; rfl)
    | (obtain ⟨t, rfl⟩ := rx; rfl)
theorem op_notN : OpR X (compareOp .IsNot) (fun x y H Q => y = .non ∧ Q (.bl (!decide (x = .non))) H) := by
  intro pins s σ H x y v u Q I rx ry h
  obtain ⟨rfl, q⟩ := h
  cases ry
  refine isnot_none_gen (fin_bl I q ?_)
  cases x <;> first
    | (cases rx; rfl)
    | (obtain ⟨t, rfl⟩ := rx; rfl)

theorem op_notin_str : OpR X (compareOp .NotIn) (fun x y H Q => ∃ i j, x = .str i ∧ y = .str j ∧ Q (.bl (!(!(Builtin.Str.occurrences j i 0 j.length 1).isEmpty))) H) := by
  intro pins s σ H x y v u Q I rx ry h
  obtain ⟨i, j, rfl, rfl, q⟩ := h
  obtain ⟨t, rfl⟩ := rx
  obtain ⟨t', rfl⟩ := ry
  exact notIn_str (fin_bl I q rfl)
/-- is, is not of two objects that are tracked lists or instances -/
def isObj : HO → Bool
  | .lst _ => true
  | .ins _ _ _ => true
  | _ => false
theorem obj_there {pins : List (Addr × Obj)} {s : Shared} {σ : St} {H : Hp} {a : Addr} {o : HO} (I : Inv X pins σ H s) (h : H a = some o) (p : isObj o = true) : ∃ ob, s.heap.get? a = some ob ∧ ob.cls ≠ .type "tuple" := by
  cases o with
  | lst xs =>
    obtain ⟨_, its, n, _, e⟩ : xs.length ≤ sizeLine ∧ ∃ (its : List Value) (n : Nat), Vals xs its ∧ s.heap.get? a = some { cls := .type "list", data := .seq its.toArray n } := I.hok a _ h
    exact ⟨_, e, (by show Value.type "list" ≠ .type "tuple"; decide +kernel)⟩
  | ins C dx fs =>
    have x := I.hok a _ h
    obtain ⟨_, _, _, e, _⟩ := x
    exact ⟨_, e, (by show Value.ref C ≠ .type "tuple"; exact fun z => by cases z)⟩
  | _ => exact absurd (show false = true from p) Bool.false_ne_true
theorem op_is_ref : OpR X (compareOp .Is) (fun x y H Q => ∃ a b oa ob, x = .ref a ∧ y = .ref b ∧ H a = some oa ∧ isObj oa = true ∧ H b = some ob ∧ isObj ob = true ∧ Q (.bl (decide (a = b))) H) := by
  intro pins s σ H x y v u Q I rx ry h
  obtain ⟨a, b, oa, ob, rfl, rfl, ha, pa, hb, pb, q⟩ := h
  cases rx
  cases ry
  obtain ⟨o1, e1, n1⟩ := obj_there I ha pa
  obtain ⟨o2, e2, _⟩ := obj_there I hb pb
  by_cases z : a = b
  · subst z
    exact wpAny_is_ref_self (fin_bl I q (by simp))
  · exact wpAny_is_ref_other z e1 e2 n1 (fin_bl I q (by simp [z]))
theorem op_isnot_ref : OpR X (compareOp .IsNot) (fun x y H Q => ∃ a b oa ob, x = .ref a ∧ y = .ref b ∧ H a = some oa ∧ isObj oa = true ∧ H b = some ob ∧ isObj ob = true ∧ Q (.bl (!decide (a = b))) H) := by
  intro pins s σ H x y v u Q I rx ry h
  obtain ⟨a, b, oa, ob, rfl, rfl, ha, pa, hb, pb, q⟩ := h
  cases rx
  cases ry
  obtain ⟨o1, e1, n1⟩ := obj_there I ha pa
  obtain ⟨o2, e2, _⟩ := obj_there I hb pb
  by_cases z : a = b
  · subst z
    exact wpAny_isNot_ref_self (fin_bl I q (by simp))
  · exact wpAny_isNot_ref_other z e1 e2 n1 (fin_bl I q (by simp [z]))

/-- two rules for one operation: by cases -/
theorem OpR.or {f : Value → Value → Sem Value} {r r' : R2} (h : OpR X f r) (h' : OpR X f r') : OpR X f (fun x y H Q => r x y H Q ∨ r' x y H Q) := by
  intro pins s σ H x y v u Q I rx ry q
  rcases q with q | q
  · exact h pins s σ H x y v u Q I rx ry q
  · exact h' pins s σ H x y v u Q I rx ry q

theorem nomark (b : Expr) {op : CmpOp} (h : op ≠ .In := by decide) (h2 : op ≠ .NotIn := by decide) : behindInMarks op b = false := by
  have e1 : (op == CmpOp.In) = false := by cases op <;> first | rfl | exact absurd rfl h
  have e2 : (op == CmpOp.NotIn) = false := by cases op <;> first | rfl | exact absurd rfl h2
  cases b <;> simp [behindInMarks, e1, e2]
/-- a comparison as a value; hm: nomark b, or (for in, not in) by with_unfolding_all rfl -/
theorem pe_cmpR {op : CmpOp} {r : R2} (ho : OpR X (compareOp op) r) (ha : PE X a ta) (hb : PE X b tb) (hm : behindInMarks op b = false) : PE X (.Compare a [op] [b] pos) (tOp r ta tb) := by
  intro pins s σ H Q I h
  exact wpAny_Compare1 (binT ha hb I h fun v u s2 x y H2 I2 rx ry q => ho pins s2 σ H2 x y v u Q I2 rx ry q) hm
/-- a reading of a value as a test -/
def tTest (t : TE) : TT := fun σ H Q => t σ H fun x H' => ∃ k, x = .bl k ∧ Q k H'
theorem pt_cmpR {op : CmpOp} {r : R2} (ho : OpR X (compareOp op) r) (ha : PE X a ta) (hb : PE X b tb) (hm : behindInMarks op b = false) : PT X (.Compare a [op] [b] pos) (tTest (tOp r ta tb)) := by
  intro pins s σ H Q I h
  refine wpAny_isTrue_Compare1 (thn (ha pins s σ H _ I h) fun v s1 ⟨x, H1, I1, r1, q1⟩ => thn (hb pins s1 σ H1 _ I1 q1) fun u s2 ⟨y, H2, I2, r2, q2⟩ =>
    thn (ho pins s2 σ H2 x y v u _ I2 r1 r2 q2) fun c s3 ⟨z, H3, I3, r3, k, e, q3⟩ => ?_) hm
  subst e
  cases r3
  exact wpAny_truthy_bool ⟨H3, I3, q3⟩
/-- a op1 b op2 c -/
def tChain (r r' : R2) (ta tb tc : TE) : TE := fun σ H Q => ta σ H fun x H1 => tb σ H1 fun y H2 => r x y H2 fun z H3 => ∃ k, z = .bl k ∧
  (if k = true then tc σ H3 fun w' H4 => r' y w' H4 Q else Q (.bl false) H3)
theorem pe_chain {op op' : CmpOp} {r r' : R2} (ho : OpR X (compareOp op) r) (ho' : OpR X (compareOp op') r') (ha : PE X a ta) (hb : PE X b tb) (hc : PE X c tc)
    (hm : lastMarks [op, op'] [b, c] = false := by with_unfolding_all rfl) : PE X (.Compare a [op, op'] [b, c] pos) (tChain r r' ta tb tc) := by
  intro pins s σ H Q I h
  refine Compare_chain (thn (ha pins s σ H _ I h) fun v s1 ⟨x, H1, I1, r1, q1⟩ => chain_link (thn (hb pins s1 σ H1 _ I1 q1) fun u s2 ⟨y, H2, I2, r2, q2⟩ =>
    thn (ho pins s2 σ H2 x y v u _ I2 r1 r2 q2) fun d s3 ⟨z, H3, I3, r3, k, e, q3⟩ => ?_)) hm
  subst e
  cases r3
  refine wpAny_truthy_bool ?_
  cases k with
  | false => exact ite_ff ⟨.bl false, H3, I3, rfl, q3⟩
  | true => exact ite_tt (chain_last (thn (hc pins s3 σ H3 _ I3 q3) fun w' s4 ⟨z', H4, I4, r4, q4⟩ => ho' pins s4 σ H4 y z' u w' Q I4 r2 r4 q4))
theorem pt_chain {op op' : CmpOp} {r r' : R2} (ho : OpR X (compareOp op) r) (ho' : OpR X (compareOp op') r') (ha : PE X a ta) (hb : PE X b tb) (hc : PE X c tc)
    (hm : lastMarks [op, op'] [b, c] = false := by with_unfolding_all rfl) : PT X (.Compare a [op, op'] [b, c] pos) (tTest (tChain r r' ta tb tc)) := by
  intro pins s σ H Q I h
  refine isTrue_chain (thn (ha pins s σ H _ I h) fun v s1 ⟨x, H1, I1, r1, q1⟩ => test_link (thn (hb pins s1 σ H1 _ I1 q1) fun u s2 ⟨y, H2, I2, r2, q2⟩ =>
    thn (ho pins s2 σ H2 x y v u _ I2 r1 r2 q2) fun d s3 ⟨z, H3, I3, r3, k, e, q3⟩ => ?_)) hm
  subst e
  cases r3
  refine wpAny_truthy_bool ?_
  cases k with
  | false =>
    obtain ⟨k', e', q'⟩ := q3
    cases e'
    exact ite_ff ⟨H3, I3, q'⟩
  | true =>
    refine ite_tt (test_last (thn (hc pins s3 σ H3 _ I3 q3) fun w' s4 ⟨z', H4, I4, r4, q4⟩ => thn (ho' pins s4 σ H4 y z' u w' _ I4 r2 r4 q4) fun d' s5 ⟨z2, H5, I5, r5, k2, e2, q5⟩ => ?_))
    subst e2
    cases r5
    exact wpAny_truthy_bool ⟨H5, I5, q5⟩

/-! ### truth -/
/-- a value's truth by the abstract heap -/
def TruV (K : PySem.W.Frag) (x : V) (H : Hp) (k : Bool) : Prop :=
  match x with
  | .non => k = false
  | .bl b => k = b
  | .int i => k = (i != 0)
  | .str y => y.length ≤ sizeLine ∧ k = ((y.length : Int) != 0)
  | .byt y => y.size ≤ sizeLine ∧ k = ((y.size : Int) != 0)
  | .ref p => (∃ xs, SqL K H p xs ∧ k = !xs.isEmpty) ∨ (∃ xs, SqT K H p xs ∧ k = !xs.isEmpty) ∨ ∃ kvs, H p = some (.dK kvs) ∧ k = !kvs.isEmpty
  | _ => False
theorem isEmpty_kv {κ : Type} {kvs : List (κ × V)} {vs : List (κ × Value)} (r : KV kvs vs) : (!vs.isEmpty) = !kvs.isEmpty := by
  cases r <;> rfl
theorem isEmpty_of {xs : List V} {its : List Value} (r : Vals xs its) : (!its.toArray.isEmpty) = !xs.isEmpty := by
  cases r <;> simp
theorem line63 : (sizeLine : Nat) < 2 ^ 63 := by rw [sizeLine_eq]; decide
theorem tru_ok : TruR X (fun x H Q => ∃ k, TruV X.K x H k ∧ Q k H) := by
  intro pins s σ H x v Q I rx h
  obtain ⟨k, e, q⟩ := h
  have hl := line63
  have hs : sizeLine = 16777216 := sizeLine_eq
  cases x with
  | non =>
    cases rx
    have e' : k = false := e
    subst e'
    exact truthy_none ⟨H, I, q⟩
  | bl b =>
    cases rx
    have e' : k = b := e
    subst e'
    exact wpAny_truthy_bool ⟨H, I, q⟩
  | int i =>
    obtain ⟨t, rfl⟩ := rx
    have e' : k = (i != 0) := e
    subst e'
    exact PySem.P.truthy_int ⟨H, I, q⟩
  | str y =>
    obtain ⟨t, rfl⟩ := rx
    obtain ⟨hy, e'⟩ : y.length ≤ sizeLine ∧ k = ((y.length : Int) != 0) := e
    subst e'
    exact PySem.P.truthy_str (by omega) ⟨H, I.tok _, q⟩
  | byt y =>
    obtain ⟨t, rfl⟩ := rx
    obtain ⟨hy, e'⟩ : y.size ≤ sizeLine ∧ k = ((y.size : Int) != 0) := e
    subst e'
    exact PySem.W.truthy_bytes (by omega) ⟨H, I.tok _, q⟩
  | ref p =>
    cases rx
    have e' : (∃ xs, SqL X.K H p xs ∧ k = !xs.isEmpty) ∨ (∃ xs, SqT X.K H p xs ∧ k = !xs.isEmpty) ∨ ∃ kvs, H p = some (.dK kvs) ∧ k = !kvs.isEmpty := e
    rcases e' with ⟨xs, hx, e'⟩ | ⟨xs, hx, e'⟩ | ⟨kvs, hx, e'⟩
    · subst e'
      obtain ⟨its, r, pl, hz⟩ := I.list hx
      have hlen := r.length
      exact wpAny_truthy_list pl.isList (by simp only [List.size_toArray]; omega) ⟨H, I.tok _, by rw [isEmpty_of r]; exact q⟩
    · subst e'
      obtain ⟨its, r, pl, hz⟩ := I.tuple hx
      have hlen := r.length
      exact truthy_tuple pl (by simp only [List.size_toArray]; omega) ⟨H, I.tok _, by rw [isEmpty_of r]; exact q⟩
    · subst e'
      obtain ⟨hz, hS, vs, r, m⟩ : kvs.length ≤ sizeLine ∧ (p == sysModules) = false ∧ ∃ vs, KV kvs vs ∧ s.heap.DictOf (mixKind X.prog X.w) p vs := I.hok p _ hx
      have hlen : kvs.length = vs.length := Paired.length r
      exact wpAny_truthy_dict hS m (by omega) ⟨H, I.tok _, by rw [isEmpty_kv r]; exact q⟩
  | _ => exact (show False from e).elim
/-- any expression whose test is its value's truth (a name, a call, a subscript, a field ..: he by fun _ => rfl) -/
theorem pt_truth (ha : PE X a ta) (he : ∀ whole, isTrue a X.env whole = (do let v ← whole; standAt a.pos; holding [v] (truthy v))) :
    PT X a (fun σ H Q => ta σ H fun x H' => ∃ k, TruV X.K x H' k ∧ Q k H') := by
  intro pins s σ H Q I h
  exact isTrue_plain (thn (ha pins s σ H _ I h) fun v s1 ⟨x, H1, I1, r1, q1⟩ => tru_ok pins s1 σ H1 x v Q I1 r1 q1) (he _)

/-! ### strs and bytes -/
theorem pe_byt {x : List UInt8} {k : Nat} : PE X (.Constant (.bytes x) k pos) (fun _ H Q => Q (.byt x.toArray) H) := fun _ _ _ H _ I h => PySem.W.Constant_bytes ⟨.byt x.toArray, H, I.tok _, ⟨_, rfl⟩, h⟩
theorem op_add_str : OpR X (binaryOp .Add) (fun x y H Q => ∃ i j, x = .str i ∧ y = .str j ∧ i.length + j.length ≤ sizeLine ∧ Q (.str (i ++ j)) H) := by
  intro pins s σ H x y v u Q I rx ry h
  obtain ⟨i, j, rfl, rfl, hz, q⟩ := h
  obtain ⟨t, rfl⟩ := rx
  obtain ⟨t', rfl⟩ := ry
  exact add_str (fun t' tk => ⟨.str (i ++ j), H, I.tok _, ⟨_, rfl⟩, q⟩) hz
theorem iop_add_str : OpR X (inplaceOp .Add) (fun x y H Q => ∃ i j, x = .str i ∧ y = .str j ∧ i.length + j.length ≤ sizeLine ∧ Q (.str (i ++ j)) H) := by
  intro pins s σ H x y v u Q I rx ry h
  obtain ⟨i, j, rfl, rfl, hz, q⟩ := h
  obtain ⟨t, rfl⟩ := rx
  obtain ⟨t', rfl⟩ := ry
  exact iadd_str (fun t' tk => ⟨.str (i ++ j), H, I.tok _, ⟨_, rfl⟩, q⟩) hz
theorem op_add_byt : OpR X (binaryOp .Add) (fun x y H Q => ∃ i j, x = .byt i ∧ y = .byt j ∧ i.size + j.size ≤ 16777216 ∧ Q (.byt (i ++ j)) H) := by
  intro pins s σ H x y v u Q I rx ry h
  obtain ⟨i, j, rfl, rfl, hz, q⟩ := h
  obtain ⟨t, rfl⟩ := rx
  obtain ⟨t', rfl⟩ := ry
  exact PySem.W.KBy.add_bytes hz (fun t' tk => ⟨.byt (i ++ j), H, I.tok _, ⟨_, rfl⟩, q⟩)

def PlainIxT (b : Expr) : Prop := ∀ o i, subscripted b false o i = operate [o, i] (getItem o i)
/-- s[i], 0 ≤ i < len -/
theorem pe_item_str (ha : PE X a ta) (hb : PE X b tb) (hs : PlainIxT b) :
    PE X (.Subscript a b pos) (tOp (fun x y H Q => ∃ z i c, x = .str z ∧ y = .int i ∧ 0 ≤ i ∧ i < 2 ^ 63 ∧ i < z.length ∧ z.cps[i.toNat]? = some c ∧ Q (.str ⟨#[c]⟩) H) ta tb) := by
  intro pins s σ H Q I h
  refine Subscript_ (binT ha hb I h fun v u s2 x y H2 I2 rx ry q => ?_)
  obtain ⟨z, i, c, rfl, rfl, h0, h63, h1, hc, q⟩ := q
  obtain ⟨t, rfl⟩ := rx
  obtain ⟨t', rfl⟩ := ry
  have e : seqIndex? i z.length = some i.toNat := PySem.StrLaws.seqIndex_nonneg h0 h1
  exact tail_any (typeIs_str s2 z t) slot_str_getitem.lookup (getItem_str (c := c) (by
    have e1 : decide (i < -(2 ^ 63 : Int)) = false := decide_eq_false (by omega)
    have e2 : decide (i ≥ 2 ^ 63) = false := decide_eq_false (by omega)
    rw [e1, e2] <;> rfl) (by rw [e]; exact hc) ⟨.str ⟨#[c]⟩, H2, I2.tok _, ⟨_, rfl⟩, q⟩) (hs _ _)
/-- b[i], 0 ≤ i < len -/
theorem pe_item_byt (ha : PE X a ta) (hb : PE X b tb) (hs : PlainIxT b) :
    PE X (.Subscript a b pos) (tOp (fun x y H Q => ∃ (z : List UInt8) (i : Int), x = .byt z.toArray ∧ y = .int i ∧ z.length ≤ sizeLine ∧ 0 ≤ i ∧ i < z.length ∧ Q (.int ((z.getD i.toNat 0).toNat : Nat)) H) ta tb) := by
  intro pins s σ H Q I h
  refine Subscript_ (binT ha hb I h fun v u s2 x y H2 I2 rx ry q => ?_)
  obtain ⟨z, i, rfl, rfl, hz, h0, h1, q⟩ := q
  obtain ⟨t, rfl⟩ := rx
  obtain ⟨t', rfl⟩ := ry
  have hl : sizeLine = 16777216 := sizeLine_eq
  exact tail_any (PySem.W.typeIs_bytes s2 z.toArray t) PySem.W.FB.slot_bytes_getitem.lookup (PySem.W.getItem_bytes (by omega) h0 h1 ⟨.int ((z.getD i.toNat 0).toNat : Nat), H2, I2.tok _, ⟨_, rfl⟩, q⟩) (hs _ _)

/-! ### scalar builtins, by CallR -/
theorem vals1 {x : V} {us : List Value} (r : Vals [x] us) : ∃ u, us = [u] ∧ RelV x u := by
  cases r with
  | cons r1 r2 => cases r2; exact ⟨_, rfl, r1⟩
theorem vals2 {x y : V} {us : List Value} (r : Vals [x, y] us) : ∃ u w', us = [u, w'] ∧ RelV x u ∧ RelV y w' := by
  cases r with
  | cons r1 r2 =>
    cases r2 with
    | cons r3 r4 => cases r4; exact ⟨_, _, rfl, r1, r3⟩
theorem call_abs : CallR X (.builtin "abs") (fun xs H Q => ∃ i, xs = [.int i] ∧ Q (.int (if i < 0 then -i else i)) H) := by
  intro pins s σ H xs us Q I r h
  obtain ⟨i, rfl, q⟩ := h
  obtain ⟨u, rfl, t, rfl⟩ := vals1 r
  exact call_abs_int fun u tk => ⟨.int (if i < 0 then -i else i), H, I.tok _, ⟨_, rfl⟩, q⟩
theorem call_max2 (hc : X.calm = true) : CallR X (.builtin "max") (fun xs H Q => ∃ i j, xs = [.int i, .int j] ∧ Q (.int (if j > i then j else i)) H) := by
  intro pins s σ H xs us Q I r h
  obtain ⟨i, j, rfl, q⟩ := h
  obtain ⟨u, w', rfl, ⟨t, rfl⟩, ⟨t', rfl⟩⟩ := vals2 r
  refine max_two_ints (I.ok.hd hc) fun h' tk k => ⟨_, H, I.kept k, ?_, q⟩
  by_cases hj : j > i
  · rw [if_pos hj, if_pos hj]; exact ⟨_, rfl⟩
  · rw [if_neg hj, if_neg hj]; exact ⟨_, rfl⟩
theorem call_min2 (hc : X.calm = true) : CallR X (.builtin "min") (fun xs H Q => ∃ i j, xs = [.int i, .int j] ∧ Q (.int (if j < i then j else i)) H) := by
  intro pins s σ H xs us Q I r h
  obtain ⟨i, j, rfl, q⟩ := h
  obtain ⟨u, w', rfl, ⟨t, rfl⟩, ⟨t', rfl⟩⟩ := vals2 r
  refine min_two_ints (I.ok.hd hc) fun h' tk k => ⟨_, H, I.kept k, ?_, q⟩
  by_cases hj : j < i
  · rw [if_pos hj, if_pos hj]; exact ⟨_, rfl⟩
  · rw [if_neg hj, if_neg hj]; exact ⟨_, rfl⟩
theorem call_int1 : CallR X (.type "int") (fun xs H Q => (∃ i, xs = [.int i] ∧ Q (.int i) H) ∨ ∃ k, xs = [.bl k] ∧ Q (.int (if k then 1 else 0)) H) := by
  intro pins s σ H xs us Q I r h
  rcases h with ⟨i, rfl, q⟩ | ⟨k, rfl, q⟩
  · obtain ⟨u, rfl, t, rfl⟩ := vals1 r
    exact call_int_int ⟨.int i, H, I, ⟨_, rfl⟩, q⟩
  · obtain ⟨u, rfl, r1⟩ := vals1 r
    cases r1
    exact call_int_bool ⟨.int (if k then 1 else 0), H, I.tok _, ⟨_, rfl⟩, q⟩
theorem call_bool1 : CallR X (.type "bool") (fun xs H Q => (∃ i, xs = [.int i] ∧ Q (.bl (i != 0)) H) ∨ ∃ k, xs = [.bl k] ∧ Q (.bl k) H) := by
  intro pins s σ H xs us Q I r h
  rcases h with ⟨i, rfl, q⟩ | ⟨k, rfl, q⟩
  · obtain ⟨u, rfl, t, rfl⟩ := vals1 r
    exact call_bool_int ⟨.bl (i != 0), H, I, rfl, q⟩
  · obtain ⟨u, rfl, r1⟩ := vals1 r
    cases r1
    exact call_bool_bool ⟨.bl k, H, I, rfl, q⟩
theorem call_str_int : CallR X (.type "str") (fun xs H Q => ∃ i, xs = [.int i] ∧ i.natAbs.log2 < 1920 ∧ Q (.str (toString i)) H) := by
  intro pins s σ H xs us Q I r h
  obtain ⟨i, rfl, hz, q⟩ := h
  obtain ⟨u, rfl, t, rfl⟩ := vals1 r
  exact PySem.P.str_of_int hz ⟨.str _, H, I.tok _, ⟨_, rfl⟩, q⟩
theorem call_ord : CallR X (.builtin "ord") (fun xs H Q => ∃ x, xs = [.str x] ∧ x.length = 1 ∧ Q (.int (x.cps.getD 0 0 : Nat)) H) := by
  intro pins s σ H xs us Q I r h
  obtain ⟨x, rfl, hz, q⟩ := h
  obtain ⟨u, rfl, t, rfl⟩ := vals1 r
  exact ord_of_one hz ⟨.int _, H, I.tok _, ⟨_, rfl⟩, q⟩
theorem call_chr : CallR X (.builtin "chr") (fun xs H Q => ∃ i, xs = [.int i] ∧ 0 ≤ i ∧ i ≤ 1114111 ∧ Q (.str ⟨#[i.toNat]⟩) H) := by
  intro pins s σ H xs us Q I r h
  obtain ⟨i, rfl, h0, h1, q⟩ := h
  obtain ⟨u, rfl, t, rfl⟩ := vals1 r
  exact chr_of_range h0 h1 ⟨.str _, H, I.tok _, ⟨_, rfl⟩, q⟩
/-- len of a str, a bytes, a list, a tuple -/
def LenV (K : PySem.W.Frag) (x : V) (H : Hp) (n : Nat) : Prop :=
  match x with
  | .str y => y.length ≤ sizeLine ∧ n = y.length
  | .byt y => y.size ≤ sizeLine ∧ n = y.size
  | .ref p => (∃ xs, SqL K H p xs ∧ n = xs.length) ∨ ∃ xs, SqT K H p xs ∧ n = xs.length
  | _ => False
theorem call_len : CallR X (.builtin "len") (fun xs H Q => ∃ x n, xs = [x] ∧ LenV X.K x H n ∧ Q (.int n) H) := by
  intro pins s σ H xs us Q I r h
  obtain ⟨x, n, rfl, e, q⟩ := h
  obtain ⟨u, rfl, rx⟩ := vals1 r
  have hl := line63
  have hs : sizeLine = 16777216 := sizeLine_eq
  cases x with
  | str y =>
    obtain ⟨t, rfl⟩ := rx
    obtain ⟨hy, e'⟩ : y.length ≤ sizeLine ∧ n = y.length := e
    subst e'
    exact len_str (by omega) ⟨.int _, H, I.tok _, ⟨_, rfl⟩, q⟩
  | byt y =>
    obtain ⟨t, rfl⟩ := rx
    obtain ⟨hy, e'⟩ : y.size ≤ sizeLine ∧ n = y.size := e
    subst e'
    exact PySem.W.len_bytes (by omega) ⟨.int _, H, I.tok _, ⟨_, rfl⟩, q⟩
  | ref p =>
    cases rx
    have e' : (∃ xs, SqL X.K H p xs ∧ n = xs.length) ∨ ∃ xs, SqT X.K H p xs ∧ n = xs.length := e
    rcases e' with ⟨xs, hx, e'⟩ | ⟨xs, hx, e'⟩
    · subst e'
      obtain ⟨its, r', pl, hz⟩ := I.list hx
      have hlen := r'.length
      exact Calls.call_len_list pl.isList (by simp only [List.size_toArray]; omega) ⟨.int xs.length, H, I.tok _, ⟨_, by simp only [List.size_toArray]; rw [hlen]⟩, q⟩
    · subst e'
      obtain ⟨its, r', pl, hz⟩ := I.tuple hx
      have hlen := r'.length
      exact len_tuple pl (by simp only [List.size_toArray]; omega) ⟨.int xs.length, H, I.tok _, ⟨_, by simp only [List.size_toArray]; rw [hlen]⟩, q⟩
  | _ => exact (show False from e).elim
/-- divmod: a new tuple -/
theorem call_divmod : CallR X (.builtin "divmod") (fun xs H Q => ∃ i j, xs = [.int i, .int j] ∧ CDiv i j ∧ ∀ p, H p = none → Q (.ref p) (upd H p (.tup [.int (i / j), .int (i % j)]))) := by
  intro pins s σ H xs us Q I r h
  obtain ⟨i, j, rfl, ⟨h1, h2⟩, q⟩ := h
  obtain ⟨u, w', rfl, ⟨t, rfl⟩, ⟨t', rfl⟩⟩ := vals2 r
  refine divmod_int (by omega) ?_ (.inl (PyProof.noPylong_small (by omega)))
  rw [Int.fdiv_eq_ediv_of_nonneg i (by omega), Int.fmod_eq_emod_of_nonneg i (by omega)]
  have hn : H s.heap.objs.size = none := I.hok.fresh (Nat.le_refl _)
  refine ⟨.ref s.heap.objs.size, _, ?_, rfl, q _ hn⟩
  refine I.laid (fun b o e => Heap.get?_push_of_some _ e) (Nat.le_refl _) ⟨by simp only [List.length_cons, List.length_nil]; rw [sizeLine_eq]; decide, [.int (i / j) s.toks, .int (i % j) (s.toks + 1)], .cons ⟨_, rfl⟩ (.cons ⟨_, rfl⟩ .nil), ?_⟩
  exact ⟨_, Heap.get?_push_size s.heap rfl, rfl, 0, rfl⟩
end
end L2

namespace L2
open PySem PySem.Spec PyProof.Rows

/-! ### an instance, its attributes a map -/
structure ObjM (h : Heap) (x dx C : Addr) (mA : Str → Option Value) : Prop where
  obj : h.get? x = some (PySem.W.instObj C dx)
  ns : h.Ns1 dx mA
  ne : dx ≠ x

theorem lookIn_ns {h : Heap} {dx : Addr} {mA : Str → Option Value} (n : h.Ns1 dx mA) : ∃ od, h.get? dx = some od ∧ ∀ name, PySem.W.lookIn name od = some (mA name) := by
  obtain ⟨o, es, ep, ho, hd, hk, _, hm⟩ := n
  refine ⟨o, ho, fun name => ?_⟩
  have e := hm name
  unfold nsFind findBy at e
  rw [← Array.find?_toList] at e
  unfold PySem.W.lookIn
  rw [hd]
  dsimp only
  split
  · rename_i y q
    rw [q] at e
    exact congrArg some e
  · rename_i q
    rw [q] at e
    have a : es.toList.any (·.refKey) = false := by
      rw [List.any_eq_false]
      intro y hy
      obtain ⟨z, t, hkey⟩ := hk y (Array.mem_toList_iff.mp hy)
      simp [DictEntry.refKey, hkey]
    have a' : ¬ es.toList.any (·.refKey) = true := by rw [a]; exact Bool.false_ne_true
    rw [if_neg a']
    exact congrArg some e

theorem ObjM.look {h : Heap} {x dx C : Addr} {mA : Str → Option Value} (I : ObjM h x dx C mA) : ∃ od, PySem.W.InstAt h x (PySem.W.instObj C dx) C (some od) ∧ ∀ name, PySem.W.lookIn name od = some (mA name) :=
  let ⟨od, ho, hl⟩ := lookIn_ns I.ns
  ⟨od, ⟨I.obj, rfl, rfl, ho⟩, hl⟩

section
variable {prog : Program} {w : World} {A : Around} {E : Value → Shared → Prop} {s : Shared} {K : PySem.W.Frag} {x dx C f : Addr} {mA : Str → Option Value} {name : Str} {v : Value}

theorem get_map {expr : Bool} {Q : Value → Shared → Prop} (X : K.In s.heap) (I : ObjM s.heap x dx C mA) (hg : PySem.W.plainGet K C name = true) (hh : PySem.W.hasDictIn K C = true)
    (ha : PySem.W.findIn K (.ref C) name = some none) (hv : mA name = some v) (hv' : PySem.W.handedIn v = true) (h : Q v { s with toks := s.toks + 1 }) :
    wpAny (model prog w) A (getAttr (.ref x) name expr) Q E s := by
  obtain ⟨od, J, hl⟩ := I.look
  exact PySem.W.get_value X J (PySem.W.plainGet_of hg).1 (PySem.W.findObj_own hh ha rfl (by rw [hl, hv])) hv' h

theorem get_const {expr : Bool} {a : Value} {Q : Value → Shared → Prop} (X : K.In s.heap) (I : ObjM s.heap x dx C mA) (hg : PySem.W.plainGet K C name = true) (hh : PySem.W.hasDictIn K C = true)
    (ha : PySem.W.findIn K (.ref C) name = some (some a)) (hn : PySem.W.specialIn K a "__get__" = some none) (hc : PySem.W.copiedNames.contains name = false) (hv : mA name = none) (hv' : PySem.W.handedIn a = true)
    (h : Q a { s with toks := s.toks + 1 }) : wpAny (model prog w) A (getAttr (.ref x) name expr) Q E s := by
  obtain ⟨od, J, hl⟩ := I.look
  exact PySem.W.get_value X J (PySem.W.plainGet_of hg).1 (PySem.W.findObj_cls hh ha hn hv' hc (by rw [hl, hv])) hv' h

theorem get_meth {pl : Sem Bool} {Q : Value × List Value → Shared → Prop} (X : K.In s.heap) (I : ObjM s.heap x dx C mA) (hg : PySem.W.plainGet K C name = true)
    (hf : PySem.W.findIn K (.ref C) name = some (some (.ref f))) (ht : PySem.W.isFn K (.ref f) = true) (hv : mA name = none) (h : Q (.ref f, [.ref x]) s) :
    wpAny (model prog w) A (getMethod (.ref x) name pl) Q E s := by
  obtain ⟨od, J, hl⟩ := I.look
  exact PySem.W.method_fn X J (PySem.W.plainGet_of hg).1 (PySem.W.plainGet_of hg).2 hf (beq_iff_eq.mp ht) (by show (PySem.W.lookIn name od).map (·.isSome) = some false; rw [hl, hv]; rfl) h

theorem set_map {ns : List Str} {Q : Unit → Shared → Prop} (X : K.In s.heap) (I : ObjM s.heap x dx C mA)
    (hs : PySem.W.findIn K (.ref C) "__setattr__" = some (some (.builtin "object.__setattr__"))) (hp : PySem.W.plainOver K C = true) (ht : PySem.W.takerIn K C name = some none) (hh : PySem.W.hasDictIn K C = true)
    (hw : PySem.Within mA ns) (hsz : ns.length ≤ sizeLine)
    (h : ∀ h', ObjM h' x dx C (fun y => if y = name then some v else mA y) → Heap.SameBut dx s.heap h' → Q () { s with heap := h', toks := s.toks + 2 }) :
    wpAny (model prog w) A (setAttr (.ref x) name v) Q E s := by
  obtain ⟨od, J, hl⟩ := I.look
  refine PySem.W.set_plain X J hs (PySem.W.osa_open (s := { s with toks := s.toks + 1 }) (r := none) X J hp ht fun b => ?_)
  obtain ⟨cd, hc, hd'⟩ := PySem.W.any_some hh
  have hx : s.heap.get? x = some ⟨.ref C, some dx, .plain, #[]⟩ := I.obj
  refine wpAny_bind (wpAny_pure (wpAny_bind (wpAny_bind (wpAny_loadPart hx (wpAny_bind (PySem.W.Looks.here (s := { s with toks := s.toks + 1 }) (PySem.W.looks_clsIn X hc) ?_))))))
  rw [hd']
  refine wpAny_pure (a := some dx) (wpAny_bind (wpAny_pure (wpAny_bind ?_)))
  refine wpAny_nsSet1 (s := { s with toks := s.toks + 1 }) I.ns fun h' hn2 hs2 => ?_
  obtain ⟨oD, esD, epD, hoD, hdD, hcD⟩ := hn2.count (PySem.Within.cons name v hw)
  refine wpAny_bind (wpAny_lookBehind hoD (by rw [hdD]; exact pastItsLine_dict (Nat.le_trans hcD (by rw [List.length_cons]; omega))) ?_)
  exact wpAny_pure (h _ ⟨(hs2.2 _ (Ne.symm I.ne)).trans I.obj, hn2, I.ne⟩ hs2)

/-- C(..): the dict at the heap's end, the instance behind it; then its __init__ -/
theorem make_map {R : Result → Shared → Prop} {vs : List Value} {kw : List (Str × Value)} (X : K.In s.heap) (hm : PySem.W.makesIn K C = true)
    (hi : PySem.W.findIn K (.ref C) "__init__" = some (some (.ref f))) (hf : PySem.W.typeIn K (.ref f) = some (.type "function"))
    (h : codeAny (model prog w) (A.under (.builtin "type.__call__" ⟨.ref C :: vs, kw⟩)) (.call (.ref f) ⟨.ref (s.heap.objs.size + 1) :: vs, kw⟩) (PySem.W.InitBack (s.heap.objs.size + 1) R)
      { s with heap := (s.heap.push PySem.W.emptyDict).push (PySem.W.instObj C s.heap.objs.size) }) :
    codeAny (model prog w) A (.call (.ref C) ⟨vs, kw⟩) R s := by
  obtain ⟨hh, g, d, t, os⟩ := s
  exact PySem.W.make_core (PySem.W.makes_of X hm) (PySem.W.looks_findIn X hi) (fun self => PySem.W.bind_fn X self hf) (.inl rfl) h
/-- C() where there is no __init__ but object's -/
theorem make_map0 {R : Result → Shared → Prop} (X : K.In s.heap) (hm : PySem.W.makesIn K C = true)
    (hi : PySem.W.findIn K (.ref C) "__init__" = some (some (.builtin "object.__init__")))
    (hb : ∀ self, PySem.W.Looks (model prog w) s.heap (bindSpecial (.builtin "object.__init__") self) (.builtin "object.__init__", [self]))
    (h : codeAny (model prog w) (A.under (.builtin "type.__call__" ⟨[.ref C], []⟩)) (.call (.builtin "object.__init__") ⟨[.ref (s.heap.objs.size + 1)], []⟩) (PySem.W.InitBack (s.heap.objs.size + 1) R)
      { s with heap := (s.heap.push PySem.W.emptyDict).push (PySem.W.instObj C s.heap.objs.size) }) :
    codeAny (model prog w) A (.call (.ref C) ⟨[], []⟩) R s := by
  obtain ⟨hh, g, d, t, os⟩ := s
  exact PySem.W.make_core (PySem.W.makes_of X hm) (PySem.W.looks_findIn X hi) hb (.inr ⟨rfl, rfl⟩) h
end

/-! ### the attributes as a list of pairs -/
def putF (f : Str) (v : V) : List (Str × V) → List (Str × V)
  | [] => [(f, v)]
  | (g, x) :: r => if g = f then (g, v) :: r else (g, x) :: putF f v r
theorem lookup_putF (f g : Str) (v : V) : ∀ fs : List (Str × V), (putF f v fs).lookup g = if g = f then some v else fs.lookup g
  | [] => by
    show List.lookup g [(f, v)] = _
    by_cases h : g = f
    · have hb : (g == f) = true := beq_iff_eq.mpr h
      simp only [List.lookup, hb, if_pos h]
    · have hb : (g == f) = false := beq_eq_false_iff_ne.mpr h
      simp only [List.lookup, hb, if_neg h]
  | (k, x) :: r => by
    have ih := lookup_putF f g v r
    rw [show putF f v ((k, x) :: r) = (if k = f then (k, v) :: r else (k, x) :: putF f v r) from rfl]
    by_cases hk : k = f
    · rw [if_pos hk]
      by_cases h : g = k
      · have hb : (g == k) = true := beq_iff_eq.mpr h
        simp only [List.lookup, hb, if_pos (h.trans hk)]
      · have hb : (g == k) = false := beq_eq_false_iff_ne.mpr h
        simp only [List.lookup, hb, if_neg (fun e : g = f => h (e.trans hk.symm))]
    · rw [if_neg hk]
      by_cases h : g = k
      · have hb : (g == k) = true := beq_iff_eq.mpr h
        simp only [List.lookup, hb, if_neg (fun e : g = f => hk (h.symm.trans e))]
      · have hb : (g == k) = false := beq_eq_false_iff_ne.mpr h
        simp only [List.lookup, hb]
        exact ih
theorem keys_putF (f : Str) (v : V) : ∀ fs : List (Str × V), f ∈ (putF f v fs).map (·.1) ∧ ∀ g, g ∈ fs.map (·.1) → g ∈ (putF f v fs).map (·.1)
  | [] => ⟨by simp [putF], fun g h => by simp at h⟩
  | (k, x) :: r => by
    obtain ⟨i1, i2⟩ := keys_putF f v r
    rw [show putF f v ((k, x) :: r) = (if k = f then (k, v) :: r else (k, x) :: putF f v r) from rfl]
    by_cases hk : k = f
    · rw [if_pos hk]
      subst hk
      exact ⟨by simp, fun g h => by simpa using h⟩
    · rw [if_neg hk]
      refine ⟨?_, fun g h => ?_⟩
      · rw [List.map_cons]
        exact List.mem_cons_of_mem _ i1
      · rw [List.map_cons] at h ⊢
        rcases List.mem_cons.mp h with e | e
        · exact List.mem_cons.mpr (.inl e)
        · exact List.mem_cons_of_mem _ (i2 g e)
theorem length_putF (f : Str) (v : V) : ∀ fs : List (Str × V), (putF f v fs).length ≤ fs.length + 1
  | [] => by simp [putF]
  | (k, x) :: r => by
    have ih := length_putF f v r
    rw [show putF f v ((k, x) :: r) = (if k = f then (k, v) :: r else (k, x) :: putF f v r) from rfl]
    by_cases hk : k = f
    · rw [if_pos hk, List.length_cons, List.length_cons]; omega
    · rw [if_neg hk, List.length_cons, List.length_cons]; omega

theorem RelO.some_of {v : V} {o : Option Value} (r : RelO (some v) o) : ∃ u, o = some u ∧ RelV v u := by
  cases o with
  | none => exact (show False from r).elim
  | some u => exact ⟨u, rfl, r⟩
theorem RelO.none_of {o : Option Value} (r : RelO none o) : o = none := by
  cases o with
  | none => rfl
  | some u => exact (show False from r).elim
theorem handed_of {v : V} {u : Value} (r : RelV v u) : PySem.W.handedIn u = true := by
  cases v with
  | non => cases (show u = Value.none from r); rfl
  | bl b => cases (show u = Value.bool b from r); rfl
  | int i => obtain ⟨t, e⟩ := (show ∃ t, u = Value.int i t from r); cases e; rfl
  | str x => obtain ⟨t, e⟩ := (show ∃ t, u = Value.str x t from r); cases e; rfl
  | byt b => obtain ⟨t, e⟩ := (show ∃ t, u = Value.bytes b t from r); cases e; rfl
  | flt b => obtain ⟨t, e⟩ := (show ∃ t, u = Value.float b t from r); cases e; rfl
  | ref a => cases (show u = Value.ref a from r); rfl
  | ty n => cases (show u = Value.type n from r); rfl

section
variable {P : Program} {w : World} {H H' : Hp} {h h' : Heap} {a C dx : Addr} {fs fs' : List (Str × V)}
theorem ins_get (hok : HOk P w H h) (e : H a = some (.ins C dx fs)) : ∃ mA, ObjM h a dx C mA ∧ (∀ f, RelO (fs.lookup f) (mA f)) ∧ PySem.Within mA (fs.map (·.1)) ∧ fs.length ≤ 1000 ∧ H dx = some (.own a) := by
  obtain ⟨d, z, ne, ob, mA, n, r, q⟩ := (show ObjOk P w H h a (.ins C dx fs) from hok a _ e)
  exact ⟨mA, ⟨ob, n, ne⟩, r, q, z, d⟩
end

/-! ### what of the text a class must have -/
structure Cls (K : PySem.W.Frag) (C : Addr) : Prop where
  pg : PySem.W.plainGet K C Str.empty = true
  hd : PySem.W.hasDictIn K C = true
  po : PySem.W.plainOver K C = true
  sa : PySem.W.findIn K (.ref C) "__setattr__" = some (some (.builtin "object.__setattr__"))
theorem Cls.get {K : PySem.W.Frag} {C : Addr} (c : Cls K C) (f : Str) : PySem.W.plainGet K C f = true := c.pg
/-- no class of it has the name -/
def NoAttr (K : PySem.W.Frag) (C : Addr) (f : Str) : Prop := PySem.W.findIn K (.ref C) f = some none
theorem NoAttr.taker {K : PySem.W.Frag} {C : Addr} {f : Str} (n : NoAttr K C f) : PySem.W.takerIn K C f = some none := by
  unfold PySem.W.takerIn
  rw [show PySem.W.findIn K (.ref C) f = some none from n]
  rfl
/-- a constant of the class -/
structure Con (K : PySem.W.Frag) (C : Addr) (f : Str) (v : V) (u : Value) : Prop where
  at_ : PySem.W.findIn K (.ref C) f = some (some u)
  rel : RelV v u
  get : PySem.W.specialIn K u "__get__" = some none
  cp : PySem.W.copiedNames.contains f = false
/-- a method: a plain def of the class or of one above it -/
structure Meth (K : PySem.W.Frag) (C : Addr) (m : Str) (f : Addr) : Prop where
  at_ : PySem.W.findIn K (.ref C) m = some (some (.ref f))
  fn : PySem.W.isFn K (.ref f) = true
  kp : PySem.W.keepIn K (.ref f) = true

section
variable {X : Cx} {pins : List (Addr × Obj)} {σ : St} {H : Hp} {s : Shared} {a C dx : Addr} {fs : List (Str × V)} {f : Str} {v : V} {A : Around} {E : Value → Shared → Prop}

theorem getattr_ok {b : Bool} {Q : Value → Shared → Prop} (I : Inv X pins σ H s) (e : H a = some (.ins C dx fs)) (c : Cls X.K C) (n : NoAttr X.K C f) (l : fs.lookup f = some v)
    (h : ∀ u s', Inv X pins σ H s' → RelV v u → Q u s') : wpAny (model X.prog X.w) A (getAttr (.ref a) f b) Q E s := by
  obtain ⟨mA, O, r, _, _, _⟩ := ins_get I.hok e
  obtain ⟨u, hu, ru⟩ := RelO.some_of (v := v) (o := mA f) (by rw [← l]; exact r f)
  exact get_map I.kIn O (c.get f) c.hd n hu (handed_of ru) (h u _ (I.tok _) ru)

theorem getcon_ok {b : Bool} {u : Value} {Q : Value → Shared → Prop} (I : Inv X pins σ H s) (e : H a = some (.ins C dx fs)) (c : Cls X.K C) (k : Con X.K C f v u) (l : fs.lookup f = none)
    (h : ∀ s', Inv X pins σ H s' → Q u s') : wpAny (model X.prog X.w) A (getAttr (.ref a) f b) Q E s := by
  obtain ⟨mA, O, r, _, _, _⟩ := ins_get I.hok e
  have hn : mA f = none := RelO.none_of (by rw [← l]; exact r f)
  exact get_const I.kIn O (c.get f) c.hd k.at_ k.get k.cp hn (handed_of k.rel) (h _ (I.tok _))

theorem getmeth_ok {m : Str} {g : Addr} {pl : Sem Bool} {Q : Value × List Value → Shared → Prop} (I : Inv X pins σ H s) (e : H a = some (.ins C dx fs)) (c : Cls X.K C) (k : Meth X.K C m g) (l : fs.lookup m = none)
    (h : Q (.ref g, [.ref a]) s) : wpAny (model X.prog X.w) A (getMethod (.ref a) m pl) Q E s := by
  obtain ⟨mA, O, r, _, _, _⟩ := ins_get I.hok e
  have hn : mA m = none := RelO.none_of (by rw [← l]; exact r m)
  exact get_meth I.kIn O (c.get m) k.at_ k.fn hn h

theorem setattr_ok {y : V} {u : Value} {Q : Unit → Shared → Prop} (I : Inv X pins σ H s) (e : H a = some (.ins C dx fs)) (c : Cls X.K C) (n : NoAttr X.K C f) (hl : fs.length < 1000) (ry : RelV y u)
    (h : ∀ s', Inv X pins σ (upd H a (.ins C dx (putF f y fs))) s' → Q () s') : wpAny (model X.prog X.w) A (setAttr (.ref a) f u) Q E s := by
  obtain ⟨mA, O, r, wi, _, ho⟩ := ins_get I.hok e
  have hz : (fs.map (·.1)).length ≤ sizeLine := by rw [List.length_map, sizeLine_eq]; omega
  refine set_map I.kIn O c.sa c.po n.taker c.hd wi hz fun h' O' sb => h _ ?_
  have hd : ∃ o, h'.get? dx = some o := let ⟨o, _, _, e', _⟩ := O'.ns; ⟨o, e'⟩
  refine I.write (x := a) (e := dx) (by rw [e]; exact True.intro) (.inr ho) (fun b q hb z => (sb.2 b hb).trans z) hd ?_
  refine ⟨by rw [upd_ne O.ne]; exact ho, ?_, O.ne, O'.obj, _, O'.ns, fun g => ?_, fun g hg => ?_⟩
  · have := length_putF f y fs; omega
  · show RelO ((putF f y fs).lookup g) (if g = f then some u else mA g)
    rw [lookup_putF]
    by_cases q : g = f
    · rw [if_pos q, if_pos q]; exact ry
    · rw [if_neg q, if_neg q]; exact r g
  · by_cases q : g = f
    · rw [q]; exact (keys_putF f y fs).1
    · refine (keys_putF f y fs).2 g (wi g fun z => hg ?_)
      show (if g = f then some u else mA g) = none
      rw [if_neg q]; exact z

/-- a new instance, tracked, without attributes -/
theorem Inv.made (I : Inv X pins σ H s) : Inv X pins σ (upd (upd H s.heap.objs.size (.own (s.heap.objs.size + 1))) (s.heap.objs.size + 1) (.ins C s.heap.objs.size []))
    { s with heap := (s.heap.push PySem.W.emptyDict).push (PySem.W.instObj C s.heap.objs.size) } := by
  have e1 : (s.heap.push PySem.W.emptyDict).get? s.heap.objs.size = some PySem.W.emptyDict := Heap.get?_push_size s.heap rfl
  have e2 : ((s.heap.push PySem.W.emptyDict).push (PySem.W.instObj C s.heap.objs.size)).get? (s.heap.objs.size + 1) = some (PySem.W.instObj C s.heap.objs.size) := by
    have := Heap.get?_push_size (s.heap.push PySem.W.emptyDict) (o := PySem.W.instObj C s.heap.objs.size) rfl
    rwa [Heap.size_push] at this
  have e3 : (s.heap.push PySem.W.emptyDict).Ns s.heap.objs.size (fun _ => none) := ⟨PySem.W.emptyDict, #[], _, e1, rfl, (fun e he => absurd he (by simp)), fun _ => rfl⟩
  have I1 := I.laid (a := s.heap.objs.size) (o := .own (s.heap.objs.size + 1)) (h' := s.heap.push PySem.W.emptyDict) (t' := s.toks) (fun b u q => Heap.get?_push_of_some _ q) (Nat.le_refl _) ⟨_, e1⟩
  refine I1.laid (a := s.heap.objs.size + 1) (o := .ins C s.heap.objs.size []) (t' := s.toks) (fun b u q => Heap.get?_push_of_some _ q) (Nat.le_of_eq (Heap.size_push _ _)) ?_
  have ne : s.heap.objs.size ≠ s.heap.objs.size + 1 := Nat.ne_of_lt (Nat.lt_succ_self _)
  refine ⟨by rw [upd_ne ne, upd_same], Nat.zero_le _, ne, e2, fun _ => none, (Heap.Ns1.of_empty e3).at fun o q => Heap.get?_push_of_some _ q, fun _ => True.intro, fun y hy => absurd rfl hy⟩

/-- e.f where nothing but the object is asked: through attributeBase (super) and the last hold -/
theorem attr_of {prog : Program} {w : World} {env : Env} {e : Expr} {f : Str} {pos : Pos} {s : Shared} {Q : Value → Shared → Prop} (hb : attributeBase e f env (eval e env) = eval e env)
    (h : wpAny (model prog w) A (eval e env) (fun o s₁ => wpAny (model prog w) A (getAttr o f true) Q E s₁) E s) : wpAny (model prog w) A (eval (.Attribute e f pos) env) Q E s :=
  Attribute_any_ h (by rw [arm_eval_Attribute, hb])
end

/-! ### readings and rules -/
/-- e.f, an attribute of the instance -/
def tFld (K : PySem.W.Frag) (ta : TE) (f : Str) : TE := fun σ H Q => ta σ H fun x H1 => ∃ a C dx fs v, x = .ref a ∧ H1 a = some (.ins C dx fs) ∧ Cls K C ∧ NoAttr K C f ∧ fs.lookup f = some v ∧ Q v H1
/-- e.f, a constant of the class -/
def tCon (K : PySem.W.Frag) (ta : TE) (f : Str) : TE := fun σ H Q => ta σ H fun x H1 => ∃ a C dx fs v u, x = .ref a ∧ H1 a = some (.ins C dx fs) ∧ Cls K C ∧ Con K C f v u ∧ fs.lookup f = none ∧ Q v H1
/-- e.f = value -/
def sFld (K : PySem.W.Frag) (ta tv : TE) (f : Str) : TS := fun D σ H => tv σ H fun y H1 => ta σ H1 fun x H2 => ∃ a C dx fs, x = .ref a ∧ H2 a = some (.ins C dx fs) ∧ Cls K C ∧ NoAttr K C f ∧ fs.length < 1000 ∧
  D.nx σ (upd H2 a (.ins C dx (putF f y fs)))
/-- an augmented operator on two values -/
def InOp (X : Cx) (op : Operator) (rd : V → V → Hp → VK → Prop) : Prop :=
  ∀ (pins : List (Addr × Obj)) (s : Shared) (σ : St) (H : Hp) (x y : V) (u v : Value) (Q : VK), Inv X pins σ H s → RelV x u → RelV y v → rd x y H Q → wpAny (model X.prog X.w) X.A (inplaceOp op u v) (EP X pins σ Q) X.xe s
/-- e.f op= value -/
def sFldAug (K : PySem.W.Frag) (ta tv : TE) (rd : V → V → Hp → VK → Prop) (f : Str) : TS := fun D σ H => ta σ H fun x H1 => ∃ a C dx fs v, x = .ref a ∧ H1 a = some (.ins C dx fs) ∧ Cls K C ∧ NoAttr K C f ∧ fs.lookup f = some v ∧
  tv σ H1 fun y H2 => rd v y H2 fun z H3 => ∃ dx' fs', H3 a = some (.ins C dx' fs') ∧ fs'.length < 1000 ∧ D.nx σ (upd H3 a (.ins C dx' (putF f z fs')))

section
variable {X : Cx} {o e value : Expr} {f : Str} {pos pos' tpos : Pos} {ta tv : TE}
theorem pe_fld (he : PE X e ta) (hb : attributeBase e f X.env (eval e X.env) = eval e X.env) : PE X (.Attribute e f pos) (tFld X.K ta f) := by
  intro pins s σ H Q I h
  refine attr_of hb (thn (he pins s σ H _ I h) fun u s1 ⟨x, H1, I1, rx, a, C, dx, fs, v, ex, ea, c, n, l, q⟩ => ?_)
  subst ex
  obtain rfl : u = Value.ref a := rx
  exact getattr_ok I1 ea c n l fun u' s2 I2 ru => ⟨v, H1, I2, ru, q⟩
theorem pe_con (he : PE X e ta) (hb : attributeBase e f X.env (eval e X.env) = eval e X.env) : PE X (.Attribute e f pos) (tCon X.K ta f) := by
  intro pins s σ H Q I h
  refine attr_of hb (thn (he pins s σ H _ I h) fun u s1 ⟨x, H1, I1, rx, a, C, dx, fs, v, u0, ex, ea, c, k, l, q⟩ => ?_)
  subst ex
  obtain rfl : u = Value.ref a := rx
  exact getcon_ok I1 ea c k l fun s2 I2 => ⟨v, H1, I2, k.rel, q⟩
theorem ps_fld (ha : PE X o ta) (hv : PE X value tv) (hs : swapsWith value (some (.Attribute o f pos')) pos.line X.env = pure false) : PS X (.Assign [.Attribute o f pos'] value pos) (sFld X.K ta tv f) := by
  intro pins s σ H D I h
  refine plainObj_wpAny_Assign_Attribute (thn (hv pins s σ H _ I h) fun u s1 ⟨y, H1, I1, ry, q⟩ => thn (ha pins s1 σ H1 _ I1 q) fun ov s2 ⟨x, H2, I2, rx, a, C, dx, fs, ex, ea, c, n, l, q2⟩ => ?_) hs
  subst ex
  obtain rfl : ov = Value.ref a := rx
  exact setattr_ok I2 ea c n l ry fun s3 I3 => ⟨σ, _, I3, q2⟩
theorem ps_fldaug {op : Operator} {rd : V → V → Hp → VK → Prop} (ha : PE X o ta) (hv : PE X value tv) (hop : InOp X op rd) : PS X (.AugAssign (.Attribute o f tpos) op value pos) (sFldAug X.K ta tv rd f) := by
  intro pins s σ H D I h
  refine wpAny_AugAssign_AttributeAny (thn (ha pins s σ H _ I h) fun ov s1 ⟨x, H1, I1, rx, a, C, dx, fs, v, ex, ea, c, n, l, q⟩ => ?_)
  subst ex
  obtain rfl : ov = Value.ref a := rx
  refine getattr_ok I1 ea c n l fun u s2 I2 ru => thn (hv pins s2 σ H1 _ I2 q) fun w3 s3 ⟨y, H2, I3, ry, q3⟩ => thn (hop pins s3 σ H2 v y u w3 _ I3 ru ry q3) fun w4 s4 ⟨z, H3, I4, rz, dx', fs', ea', l', q4⟩ => ?_
  exact setattr_ok I4 ea' c n l' rz fun s5 I5 => ⟨σ, _, I5, q4⟩
def rAdd : V → V → Hp → VK → Prop := fun x y H Q => ∃ i j, x = .int i ∧ y = .int j ∧ Q (.int (i + j)) H
def rSub : V → V → Hp → VK → Prop := fun x y H Q => ∃ i j, x = .int i ∧ y = .int j ∧ Q (.int (i - j)) H
theorem in_add : InOp X .Add rAdd := by
  rintro pins s σ H x y u v Q I rx ry ⟨i, j, rfl, rfl, q⟩
  obtain ⟨t, rfl⟩ := (show ∃ t, u = Value.int i t from rx)
  obtain ⟨t', rfl⟩ := (show ∃ t', v = Value.int j t' from ry)
  exact PyProof.Rows.iadd_int ⟨.int (i + j), H, I.tok _, ⟨_, rfl⟩, q⟩
theorem in_sub : InOp X .Sub rSub := by
  rintro pins s σ H x y u v Q I rx ry ⟨i, j, rfl, rfl, q⟩
  obtain ⟨t, rfl⟩ := (show ∃ t, u = Value.int i t from rx)
  obtain ⟨t', rfl⟩ := (show ∃ t', v = Value.int j t' from ry)
  exact PyProof.Rows.isub_int ⟨.int (i - j), H, I.tok _, ⟨_, rfl⟩, q⟩

/-- what is between an instance and its method: the tree of a method call -/
theorem methcall_of {pl : Sem Bool} {m : Str} {apos : Pos} {args : List Expr} {pins : List (Addr × Obj)} {s : Shared} {σ : St} {H : Hp} {Q : Value → Shared → Prop} {te : TE} (he : PE X e te) (I : Inv X pins σ H s)
    (h : te σ H fun x H1 => ∃ a C dx fs g, x = .ref a ∧ H1 a = some (.ins C dx fs) ∧ Cls X.K C ∧ Meth X.K C m g ∧ fs.lookup m = none ∧
      ∀ s1, Inv X pins σ H1 s1 → wpAny (model X.prog X.w) X.A (callWith pos (.ref g) [.ref a] (backTo pos (starEach args X.env)) (backToKw pos (keywordEach [] X.env))) Q X.xe s1)
    (ht : eval (.Call (.Attribute e m apos) args [] pos) X.env = (do
      let ov ← eval e X.env
      standAt apos.atName
      let (f, first) ← holding [ov] (getMethod ov m pl)
      callWith pos f first (backTo pos (starEach args X.env)) (backToKw pos (keywordEach [] X.env)))) :
    wpAny (model X.prog X.w) X.A (eval (.Call (.Attribute e m apos) args [] pos) X.env) Q X.xe s := by
  refine PySem.W.methodCall_KW (pl := pl) (thn (he pins s σ H _ I h) fun u s1 ⟨x, H1, I1, rx, a, C, dx, fs, g, ex, ea, c, k, l, q⟩ => ?_) ht
  subst ex
  obtain rfl : u = Value.ref a := rx
  exact getmeth_ok I1 ea c k l (q s1 I1)
end

/-! ### isinstance -/
section
variable {X : Cx} {pins : List (Addr × Obj)} {σ : St} {H : Hp} {s : Shared} {A : Around} {E : Value → Shared → Prop} {Q : Value → Shared → Prop} {c : Value} {b : Bool}
/-- the type of a value, as the fragment's deciders take it; for an instance its class -/
inductive TyOf (K : PySem.W.Frag) (H : Hp) : V → Value → Prop where
  | non : TyOf K H .non (.type "NoneType")
  | bl (x : Bool) : TyOf K H (.bl x) (.type "bool")
  | int (i : Int) : TyOf K H (.int i) (.type "int")
  | str (x : Str) : TyOf K H (.str x) (.type "str")
  | flt (x : UInt64) : TyOf K H (.flt x) (.type "float")
  | lst {a : Addr} {xs : List V} (e : H a = some (.lst xs)) : TyOf K H (.ref a) (.type "list")
  | frz {a : Addr} {o : Obj} {xs : List V} (e : H a = some (.frz o (.lst xs))) : TyOf K H (.ref a) (.type "list")
  | tup {a : Addr} {xs : List V} (e : H a = some (.tup xs)) : TyOf K H (.ref a) (.type "tuple")
  | dK {a : Addr} {kvs : List (Key × V)} (e : H a = some (.dK kvs)) : TyOf K H (.ref a) (.type "dict")
  | dT {a : Addr} {kvs : List (List Key × V)} (e : H a = some (.dT kvs)) : TyOf K H (.ref a) (.type "dict")
  | ins {a C dx : Addr} {fs : List (Str × V)} (e : H a = some (.ins C dx fs)) (cl : Cls K C) (ha : PySem.W.findIn K (.ref C) "__class__" = some (some (.builtin "object.__class__")))
      (hn : PySem.W.specialIn K (.builtin "object.__class__") "__get__" = some (some (.builtin "getset_descriptor.__get__"))) (htk : PySem.W.takesIn K (.builtin "object.__class__") = some true)
      (hm : PySem.W.mroIn K C (.type "object") = some true) : TyOf K H (.ref a) (.ref C)
/-- isinstance(x, c) for one class c, a built-in or an own one: kitOne's answer -/
theorem isinst_ok {x : V} {u t : Value} (I : Inv X pins σ H s) (rx : RelV x u) (ty : TyOf X.K H x t) (e : PySem.W.kitOne X.K t c = some b) (h : ∀ tk, Q (.bool b) { s with toks := tk }) :
    wpAny (model X.prog X.w) A (call (.builtin "isinstance") [u, c]) Q E s := by
  cases ty with
  | non => cases (show u = Value.none from rx); exact PySem.W.kia_one PySem.W.kitx_none I.kIn True.intro e (fun z => nomatch z) h
  | bl y => cases (show u = Value.bool y from rx); exact PySem.W.kia_one PySem.W.kitx_bool I.kIn True.intro e (fun z => nomatch z) h
  | int i => obtain ⟨t, q⟩ := (show ∃ t, u = Value.int i t from rx); cases q; exact PySem.W.kia_one PySem.W.kitx_int I.kIn True.intro e (fun z => nomatch z) h
  | str y => obtain ⟨t, q⟩ := (show ∃ t, u = Value.str y t from rx); cases q; exact PySem.W.kia_one PySem.W.kitx_str I.kIn True.intro e (fun z => nomatch z) h
  | flt y => obtain ⟨t, q⟩ := (show ∃ t, u = Value.float y t from rx); cases q; exact PySem.W.kia_one PySem.W.kitx_float I.kIn True.intro e (fun z => nomatch z) h
  | @lst a xs ea =>
    cases (show u = Value.ref a from rx)
    obtain ⟨_, _, n, _, h1⟩ := (show ObjOk X.prog X.w H s.heap a (.lst xs) from I.hok a _ ea)
    exact PySem.W.kia_one PySem.W.kitx_list I.kIn ⟨_, h1, rfl⟩ e (fun z => nomatch z) h
  | @frz a ob xs ea =>
    cases (show u = Value.ref a from rx)
    obtain ⟨_, _, _, n, _, h1⟩ := (show ObjOk X.prog X.w H s.heap a (.frz ob (.lst xs)) from I.hok a _ ea)
    exact PySem.W.kia_one PySem.W.kitx_list I.kIn ⟨_, h1, rfl⟩ e (fun z => nomatch z) h
  | @tup a xs ea =>
    cases (show u = Value.ref a from rx)
    obtain ⟨_, _, _, p⟩ := (show ObjOk X.prog X.w H s.heap a (.tup xs) from I.hok a _ ea)
    obtain ⟨o, h1, h2, _⟩ := p
    exact PySem.W.kia_one PySem.W.kitx_tuple I.kIn ⟨o, h1, h2⟩ e (fun z => nomatch z) h
  | @dK a kvs ea =>
    cases (show u = Value.ref a from rx)
    obtain ⟨_, _, vs, _, p⟩ := (show ObjOk X.prog X.w H s.heap a (.dK kvs) from I.hok a _ ea)
    obtain ⟨o, es, ep, h1, h2, _⟩ := p
    exact PySem.W.kia_one PySem.W.kitx_dict I.kIn ⟨o, h1, h2.1⟩ e (fun z => nomatch z) h
  | @dT a kvs ea =>
    cases (show u = Value.ref a from rx)
    obtain ⟨_, _, xs, _, o, es, ep, h1, h2, _⟩ := (show ObjOk X.prog X.w H s.heap a (.dT kvs) from I.hok a _ ea)
    exact PySem.W.kia_one PySem.W.kitx_dict I.kIn ⟨o, h1, h2.1⟩ e (fun z => nomatch z) h
  | @ins a C dx fs ea cl ha hn htk hm =>
    cases (show u = Value.ref a from rx)
    obtain ⟨mA, O, _⟩ := ins_get I.hok ea
    obtain ⟨od, J, _⟩ := O.look
    exact PySem.W.kia_one (PySem.W.kitx_own (cl.get _) cl.hd ha hn htk hm) I.kIn J e (fun z => nomatch z) h
end
end L2

namespace L2
open PySem PySem.Spec PyProof.Rows

/-! ### room -/
structure Room (k : Nat) (A : Around) : Prop where
  hd : A.handled = none
  dp : A.depth + 3 * k + 5 < recursionLimit
  un : A.units + 16 * k + 200 < cLine
theorem Room.mono {j k : Nat} {A : Around} (r : Room k A) (h : j ≤ k) : Room j A := ⟨r.hd, by have := r.dp; omega, by have := r.un; omega⟩
theorem Room.deeper {k : Nat} {A : Around} (r : Room (k + 1) A) (env : Env) : Room k (A.deeper env) :=
  ⟨r.hd, by have := r.dp; show A.depth + 1 + 3 * k + 5 < _; omega, by have := r.un; show A.units + 3 + 16 * k + 200 < _; omega⟩
theorem Room.in1 {k : Nat} {A : Around} (r : Room (k + 1) A) : Room k A.in1 :=
  ⟨r.hd, by have := r.dp; show A.depth + 3 * k + 5 < _; omega, by have := r.un; show A.units + 1 + 16 * k + 200 < _; omega⟩
theorem make_depth {A : Around} {C : Addr} {us : List Value} {kw : List (Str × Value)} : (A.under (.builtin "type.__call__" ⟨.ref C :: us, kw⟩)).depth = A.depth + 1 := by
  first | rfl | simp [Around.under, Code.weight, Code.isCreation, Code.isGuard, Code.isCaller, Code.frames, Code.isFrame, guardIds]
theorem make_units {A : Around} {C : Addr} {us : List Value} {kw : List (Str × Value)} : (A.under (.builtin "type.__call__" ⟨.ref C :: us, kw⟩)).units = A.units + 1 := by
  first | rfl | simp [Around.under, Code.cUnits, Code.frames, Code.isFrame]
theorem Room.make {k : Nat} {A : Around} (r : Room (k + 1) A) (C : Addr) (us : List Value) (kw : List (Str × Value)) : Room k (A.under (.builtin "type.__call__" ⟨.ref C :: us, kw⟩)) :=
  ⟨r.hd, by have := r.dp; rw [make_depth]; omega, by have := r.un; rw [make_units]; omega⟩
theorem Room.depth {k : Nat} {A : Around} (r : Room k A) : A.depth < recursionLimit := by have := r.dp; omega
theorem Room.units {k : Nat} {A : Around} (r : Room k A) : A.units + 64 < cLine := by have := r.un; omega
theorem Room.units0 {k : Nat} {A : Around} (r : Room k A) : A.units < cLine := by have := r.un; omega

/-! ### argument lists and displays -/
def tNil : TA := fun _ H Q => Q [] H
def tCons (ta : TE) (tr : TA) : TA := fun σ H Q => ta σ H fun x H1 => tr σ H1 fun xs H2 => Q (x :: xs) H2
section
variable {X : Cx} {e : Expr} {es : List Expr} {te : TE} {t : TA} {pos : Pos}
theorem pa_nil : PA X [] tNil := fun _ _ _ _ H Q I h => Calls.spliced_nil ⟨[], H, I, .nil, h⟩
theorem pa_cons (ha : PE X e te) (hr : PA X es t) (hs : starEach (e :: es) X.env = (false, eval e X.env) :: starEach es X.env := by rfl) : PA X (e :: es) (tCons te t) := by
  intro pos pins s σ H Q I h
  rw [hs]
  show wpAny _ _ (spliced ((false, eval e X.env) :: backTo pos (starEach es X.env))) _ _ s
  refine Calls.spliced_cons (thn (ha pins s σ H _ I h) fun u s1 ⟨x, H1, I1, r1, q1⟩ => ?_)
  exact thn (hr pos pins s1 σ H1 _ I1 q1) fun us s2 ⟨xs, H2, I2, r2, q2⟩ => ⟨x :: xs, H2, I2, .cons r1 r2, q2⟩

/-- a tuple, a list of written items -/
def tTup (t : TA) : TE := fun σ H Q => t σ H fun xs H1 => xs.length ≤ sizeLine ∧ ∀ p, H1 p = none → Q (.ref p) (upd H1 p (.tup xs))
def tLst (t : TA) : TE := fun σ H Q => t σ H fun xs H1 => xs.length ≤ sizeLine ∧ ∀ p, H1 p = none → Q (.ref p) (upd H1 p (.lst xs))
theorem pe_tup {x1} (h : PA X es t) : PE X (.Tuple es x1 pos) (tTup t) := by
  intro pins s σ H Q I hq
  refine wpAny_Tuple_spliced (thn (h pos pins s σ H _ I hq) fun us s1 ⟨xs, H1, I1, r, z, q⟩ => ⟨by rw [← r.length]; exact z, ?_⟩)
  have hf : H1 s1.heap.objs.size = none := I1.hok.fresh (Nat.le_refl _)
  refine ⟨.ref s1.heap.objs.size, upd H1 s1.heap.objs.size (.tup xs), I1.laid (t' := s1.toks) (fun b u e => Heap.get?_push_of_some _ e) (Nat.le_refl _) ?_, rfl, q _ hf⟩
  exact ⟨z, us, r, ⟨_, Heap.get?_push_size _ rfl, rfl, _, rfl⟩⟩
theorem pe_lst (h : PA X es t) : PE X (.List es pos) (tLst t) := by
  intro pins s σ H Q I hq
  refine wpAny_List_spliced (thn (h pos pins s σ H _ I hq) fun us s1 ⟨xs, H1, I1, r, z, q⟩ => ⟨by rw [← r.length]; exact z, ?_⟩)
  have hf : H1 s1.heap.objs.size = none := I1.hok.fresh (Nat.le_refl _)
  refine ⟨.ref s1.heap.objs.size, upd H1 s1.heap.objs.size (.lst xs), I1.laid (t' := s1.toks) (fun b u e => Heap.get?_push_of_some _ e) (Nat.le_refl _) ?_, rfl, q _ hf⟩
  exact ⟨z, us, 0, r, Heap.get?_push_size _ rfl⟩
end

/-! ### what a def promises -/
/-- a def's promise: the bound arguments in the parameters' order, the heap, the wanted end, the wanted exception -/
abbrev Sp := List V → Hp → VK → XK → Prop
/-- how an exception lies behind a call (file 08 gives it): the callers' frames, abstract heap and state ahead of the call, the wish, the exception, the state -/
abbrev CXT := List Env → Hp → Shared → XK → Value → Shared → Prop

/-- the state at a call -/
structure Env0 (P : Program) (w : World) (K : PySem.W.Frag) (mg : Str → Option Value) (base : Heap) (A : Around) (outer : List Env) (s : Shared) (H : Hp) : Prop where
  frames : A.frames = some outer
  mod : Mod K mg base
  bs : ∀ b o, base.get? b = some o → s.heap.get? b = some o ∧ H b = none
  bsz : base.objs.size ≤ s.heap.objs.size
  funs : s.heap.FunFrames base outer
  frf : ∀ b ∈ frs outer, H b = none
  hok : HOk P w H s.heap
  bare : AllBare s.gens
/-- a call's end -/
def CE (outer : List Env) (P : Program) (w : World) (H : Hp) (s : Shared) (Q : VK) (u : Value) (s' : Shared) : Prop :=
  ∃ v H', s'.os = s.os ∧ AllBare s'.gens ∧ Un (frs outer) [] H H' s.heap s'.heap ∧ HOk P w H' s'.heap ∧ RelV v u ∧ Q v H'
def CR (CX : CXT) (outer : List Env) (P : Program) (w : World) (H : Hp) (s : Shared) (Q : VK) (E : XK) (r : Result) (s' : Shared) : Prop :=
  match r with
  | .ok (.ret u) => CE outer P w H s Q u s'
  | .ok _ => False
  | .error e => CX outer H s E e s'
structure FnOk (P : Program) (w : World) (K : PySem.W.Frag) (mg : Str → Option Value) (base : Heap) (CX : CXT) (k : Nat) (f : Addr) (fd : FuncData) (ps : List Str) (sp : Sp) : Prop where
  len : ∀ vs H Q E, sp vs H Q E → vs.length = ps.length
  run : ∀ (A : Around) (outer : List Env) (s : Shared) (H : Hp) (args : Args) (us : List Value) (vs : List V) (Q : VK) (E : XK), Room k A → Env0 P w K mg base A outer s H → BindsTo s fd args (ps.zip us) → Vals vs us → sp vs H Q E →
    codeAny (model P w) A (.call (.ref f) args) (CR CX outer P w H s Q E) s
theorem FnOk.mono {P : Program} {w : World} {K : PySem.W.Frag} {mg : Str → Option Value} {base : Heap} {CX : CXT} {j k : Nat} {f : Addr} {fd : FuncData} {ps : List Str} {sp : Sp} (F : FnOk P w K mg base CX j f fd ps sp) (h : j ≤ k) :
    FnOk P w K mg base CX k f fd ps sp := ⟨F.len, fun A outer s H args us vs Q E hr => F.run A outer s H args us vs Q E (hr.mono h)⟩
/-- a weaker promise -/
theorem FnOk.imp {P : Program} {w : World} {K : PySem.W.Frag} {mg : Str → Option Value} {base : Heap} {CX : CXT} {k : Nat} {f : Addr} {fd : FuncData} {ps : List Str} {sp sp' : Sp} (F : FnOk P w K mg base CX k f fd ps sp)
    (h : ∀ vs H Q E, sp' vs H Q E → sp vs H Q E) : FnOk P w K mg base CX k f fd ps sp' :=
  ⟨fun vs H Q E q => F.len vs H Q E (h _ _ _ _ q), fun A outer s H args us vs Q E hr he hb hv hs => F.run A outer s H args us vs Q E hr he hb hv (h _ _ _ _ hs)⟩

theorem Env0.make {P : Program} {w : World} {K : PySem.W.Frag} {mg : Str → Option Value} {base : Heap} {A : Around} {outer : List Env} {s : Shared} {H : Hp} (e : Env0 P w K mg base A outer s H) (C : Addr) (us : List Value) (kw : List (Str × Value)) :
    Env0 P w K mg base (A.under (.builtin "type.__call__" ⟨.ref C :: us, kw⟩)) outer s H := ⟨by first | exact e.frames | (simpa [Around.under, Code.envs, Code.isFrame, pushEnvs] using e.frames), e.mod, e.bs, e.bsz, e.funs, e.frf, e.hok, e.bare⟩
theorem Env0.in1 {P : Program} {w : World} {K : PySem.W.Frag} {mg : Str → Option Value} {base : Heap} {A : Around} {outer : List Env} {s : Shared} {H : Hp} (e : Env0 P w K mg base A outer s H) :
    Env0 P w K mg base A.in1 outer s H := ⟨e.frames, e.mod, e.bs, e.bsz, e.funs, e.frf, e.hok, e.bare⟩

section
variable {X : Cx} {pins : List (Addr × Obj)} {σ : St} {H : Hp} {s s' : Shared}
/-- from a body: what a callee wants -/
theorem Inv.env0 (I : Inv X pins σ H s) : Env0 X.prog X.w X.K X.mg X.base X.A X.stack s H :=
  ⟨I.ok.frames, I.ok.mod, I.bs, Nat.le_trans I.ok.bsz I.sz, I.stack, I.stkFree, I.hok, I.bare⟩
/-- behind a call -/
theorem Inv.after {Q : VK} {u : Value} (I : Inv X pins σ H s) (h : CE X.stack X.prog X.w H s Q u s') : EP X pins σ Q u s' := by
  obtain ⟨v, H', os, bare, un, hok, r, q⟩ := h
  obtain ⟨hh, g, d, t, os'⟩ := s'
  obtain rfl : os' = s.os := os
  exact ⟨v, H', I.call (h' := hh) (g' := g) (d' := d) (t' := t) (ch := []) un hok bare (fun b z => absurd z (by simp)), r, q⟩
end

/-! ### calls -/
/-- f(..): the written arguments, then the defaults dvs; E: what is wanted of an exception -/
def tCall (sp : Sp) (dvs : List V) (E : XK) (t : TA) : TE := fun σ H Q => t σ H fun vs H1 => sp (vs ++ dvs) H1 Q E
/-- o.m(..) of an instance of the class at C -/
def tMeth (C : Addr) (m : Str) (sp : Sp) (dvs : List V) (E : XK) (ta : TE) (t : TA) : TE := fun σ H Q => ta σ H fun x H1 => ∃ a dx fs, x = .ref a ∧ H1 a = some (.ins C dx fs) ∧ fs.lookup m = none ∧
  t σ H1 fun vs H2 => sp (x :: (vs ++ dvs)) H2 Q E
/-- C(..): a new instance and its dict, then __init__ -/
def tMake (C : Addr) (sp : Sp) (dvs : List V) (E : XK) (t : TA) : TE := fun σ H Q => t σ H fun vs H1 => ∀ x dx, H1 x = none → H1 dx = none → dx ≠ x →
  sp (.ref x :: (vs ++ dvs)) (upd (upd H1 dx (.own x)) x (.ins C dx [])) (fun v H2 => v = .non ∧ Q (.ref x) H2) E

/-- how the parameters are bound: us the positional arguments, kw the keywords' values by name, ds the defaults that fill up -/
def Binds (K : PySem.W.Frag) (fd : FuncData) (ps : List Str) (ds : List Value) : Prop :=
  ∀ (s : Shared) (us : List Value), K.In s.heap → (us ++ ds).length = ps.length → BindsTo s fd ⟨us, []⟩ (ps.zip (us ++ ds))
/-- every parameter is given -/
theorem Binds.all {K : PySem.W.Frag} {fd : FuncData} {ps : List Str} (h : ∀ us : List Value, us.length = ps.length → bindArgs fd ⟨us, []⟩ = pure (ps.zip us)) : Binds K fd ps [] := fun s us _ hl => by
  rw [List.append_nil] at hl ⊢
  exact .of_eq (h us hl)

/-- an exception of a callee reaches what this body wants of exceptions -/
def Passes (CX : CXT) (X : Cx) (E : XK) : Prop := ∀ (pins : List (Addr × Obj)) (σ : St) (H : Hp) (s : Shared) (e : Value) (s' : Shared), Inv X pins σ H s → CX X.stack H s E e s' → X.xe e s'

section
variable {X : Cx} {CX : CXT} {k : Nat} {f C : Addr} {fd : FuncData} {ps : List Str} {sp : Sp} {dvs : List V} {ds : List Value} {E : XK} {x m : Str} {p pos apos : Pos} {e o : Expr} {es : List Expr} {ta : TE} {t : TA}

/-- the callee runs -/
theorem run_fn {pins : List (Addr × Obj)} {σ : St} {H : Hp} {s : Shared} {Q : VK} {us : List Value} {vs : List V} (F : FnOk X.prog X.w X.K X.mg X.base CX k f fd ps sp) (hr : Room k X.A) (hb : Binds X.K fd ps ds) (hd : Vals dvs ds) (hx : Passes CX X E)
    (I : Inv X pins σ H s) (r : Vals vs us) (h : sp (vs ++ dvs) H Q E) : wpAny (model X.prog X.w) X.A (call (.ref f) us) (EP X pins σ Q) X.xe s := by
  have r2 : Vals (vs ++ dvs) (us ++ ds) := r.append hd
  have hl : (us ++ ds).length = ps.length := by rw [← r2.length]; exact F.len _ _ _ _ h
  refine wpAny_call (codeAny_mono (F.run X.A X.stack s H ⟨us, []⟩ (us ++ ds) (vs ++ dvs) Q E hr I.env0 (hb s us I.kIn hl) r2 h) fun r s' hq => ?_)
  cases r with
  | error e => exact hx pins σ H s e s' I hq
  | ok fl =>
    cases fl with
    | ret u => exact I.after hq
    | next => exact False.elim hq
    | brk => exact False.elim hq
    | cont => exact False.elim hq

theorem pe_call (F : FnOk X.prog X.w X.K X.mg X.base CX k f fd ps sp) (hr : Room k X.A) (hg : Gl X x) (hm : X.mg x = some (.ref f)) (hk : PySem.W.keepIn X.K (.ref f) = true) (hb : Binds X.K fd ps ds) (hd : Vals dvs ds) (hx : Passes CX X E)
    (ha : PA X (e :: es) t) (hdb : (x == ("__debug__" : Str)) = false := by decide) (he : starEach (e :: es) X.env = (false, eval e X.env) :: starEach es X.env := by rfl) (hpl : (backTo pos (starEach es X.env)).any (·.1) = false := by rfl) :
    PE X (.Call (.Name x p) (e :: es) [] pos) (tCall sp dvs E t) := by
  intro pins s σ H Q I h
  refine wpAny_Call_Name_kw (ld_glob I hg hm ?_ hdb)
  refine PySem.W.callWith_K (h₀ := X.base) I.ok.mod.kin hk (thn (ha pos pins s σ H _ I h) fun us s1 ⟨vs, H1, I1, r, q⟩ => ⟨I1.kIn, ?_⟩) he hpl
  exact run_fn F hr hb hd hx I1 r q
theorem pe_call0 (F : FnOk X.prog X.w X.K X.mg X.base CX k f fd ps sp) (hr : Room k X.A) (hg : Gl X x) (hm : X.mg x = some (.ref f)) (hk : PySem.W.keepIn X.K (.ref f) = true) (hb : Binds X.K fd ps ds) (hd : Vals dvs ds) (hx : Passes CX X E)
    (hdb : (x == ("__debug__" : Str)) = false := by decide) : PE X (.Call (.Name x p) [] [] pos) (tCall sp dvs E tNil) := by
  intro pins s σ H Q I h
  refine wpAny_Call_Name_kw (ld_glob I hg hm ?_ hdb)
  exact PySem.W.callWith_K0 I.kIn hk (run_fn (us := []) F hr hb hd hx I .nil h)

/-- o.m(e, ..) -/
theorem pe_meth {pl : Sem Bool} (he : PE X o ta) (c : Cls X.K C) (hm : Meth X.K C m f) (F : FnOk X.prog X.w X.K X.mg X.base CX k f fd ps sp) (hr : Room k X.A) (hb : Binds X.K fd ps ds) (hd : Vals dvs ds) (hx : Passes CX X E) (ha : PA X (e :: es) t)
    (hst : starEach (e :: es) X.env = (false, eval e X.env) :: starEach es X.env := by rfl) (hpl : (backTo pos (starEach es X.env)).any (·.1) = false := by rfl)
    (ht : eval (.Call (.Attribute o m apos) (e :: es) [] pos) X.env = (do
      let ov ← eval o X.env
      standAt apos.atName
      let (f, first) ← holding [ov] (getMethod ov m pl)
      callWith pos f first (backTo pos (starEach (e :: es) X.env)) (backToKw pos (keywordEach [] X.env))) := by rfl) :
    PE X (.Call (.Attribute o m apos) (e :: es) [] pos) (tMeth C m sp dvs E ta t) := by
  intro pins s σ H Q I h
  refine PySem.W.methodCall_KW (pl := pl) (thn (he pins s σ H _ I h) fun u s1 ⟨x, H1, I1, rx, a, dx, fs, ex, ea, l, q⟩ => ?_) ht
  subst ex
  obtain rfl : u = Value.ref a := rx
  refine getmeth_ok I1 ea c hm l ?_
  refine PySem.W.callWith_K (first := [.ref a]) (h₀ := X.base) I.ok.mod.kin hm.kp (thn (ha pos pins s1 σ H1 _ I1 q) fun us s2 ⟨vs, H2, I2, r, q2⟩ => ⟨I2.kIn, ?_⟩) hst hpl
  exact run_fn (us := .ref a :: us) (vs := .ref a :: vs) F hr hb hd hx I2 (.cons rfl r) q2
/-- o.m() -/
theorem pe_meth0 {pl : Sem Bool} (he : PE X o ta) (c : Cls X.K C) (hm : Meth X.K C m f) (F : FnOk X.prog X.w X.K X.mg X.base CX k f fd ps sp) (hr : Room k X.A) (hb : Binds X.K fd ps ds) (hd : Vals dvs ds) (hx : Passes CX X E)
    (ht : eval (.Call (.Attribute o m apos) [] [] pos) X.env = (do
      let ov ← eval o X.env
      standAt apos.atName
      let (f, first) ← holding [ov] (getMethod ov m pl)
      callWith pos f first (backTo pos (starEach [] X.env)) (backToKw pos (keywordEach [] X.env))) := by rfl) :
    PE X (.Call (.Attribute o m apos) [] [] pos) (tMeth C m sp dvs E ta tNil) := by
  intro pins s σ H Q I h
  refine PySem.W.methodCall_KW (pl := pl) (thn (he pins s σ H _ I h) fun u s1 ⟨x, H1, I1, rx, a, dx, fs, ex, ea, l, q⟩ => ?_) ht
  subst ex
  obtain rfl : u = Value.ref a := rx
  refine getmeth_ok I1 ea c hm l ?_
  exact PySem.W.callWith_K0 (first := [.ref a]) I1.kIn hm.kp (run_fn (us := [.ref a]) (vs := [.ref a]) F hr hb hd hx I1 (.cons rfl .nil) q)

/-- what a class must have to be made -/
structure Mk (K : PySem.W.Frag) (C f : Addr) : Prop where
  makes : PySem.W.makesIn K C = true
  init : PySem.W.findIn K (.ref C) "__init__" = some (some (.ref f))
  fn : PySem.W.isFn K (.ref f) = true
  kp : PySem.W.keepIn K (.ref C) = true

theorem run_make {pins : List (Addr × Obj)} {σ : St} {H : Hp} {s : Shared} {Q : VK} {us : List Value} {vs : List V} (M : Mk X.K C f) (F : FnOk X.prog X.w X.K X.mg X.base CX k f fd ps sp) (hr : Room (k + 1) X.A) (hb : Binds X.K fd ps ds) (hd : Vals dvs ds)
    (hx : Passes CX X E) (I : Inv X pins σ H s) (r : Vals vs us)
    (h : ∀ x dx, H x = none → H dx = none → dx ≠ x → sp (.ref x :: (vs ++ dvs)) (upd (upd H dx (.own x)) x (.ins C dx [])) (fun v H2 => v = .non ∧ Q (.ref x) H2) E) :
    wpAny (model X.prog X.w) X.A (call (.ref C) us) (EP X pins σ Q) X.xe s := by
  have hq := h (s.heap.objs.size + 1) s.heap.objs.size (I.hok.fresh (Nat.le_succ _)) (I.hok.fresh (Nat.le_refl _)) (Nat.ne_of_lt (Nat.lt_succ_self _))
  have I2 := Inv.made (C := C) I
  have r2 : Vals (V.ref (s.heap.objs.size + 1) :: (vs ++ dvs)) (Value.ref (s.heap.objs.size + 1) :: (us ++ ds)) := .cons rfl (r.append hd)
  have hl : (Value.ref (s.heap.objs.size + 1) :: us ++ ds).length = ps.length := by
    have e := r2.length
    rw [F.len _ _ _ _ hq] at e
    exact e.symm
  refine wpAny_call (make_map (f := f) I.kIn M.makes M.init (beq_iff_eq.mp M.fn) (codeAny_mono (F.run _ X.stack _ _ ⟨Value.ref (s.heap.objs.size + 1) :: us, []⟩ (Value.ref (s.heap.objs.size + 1) :: (us ++ ds)) _ _ E (hr.make C us [])
    (I2.env0.make C us []) (hb _ (Value.ref (s.heap.objs.size + 1) :: us) I2.kIn hl) r2 hq) fun r s' hq' => ?_))
  cases r with
  | error e => exact hx pins σ _ _ e s' I2 hq'
  | ok fl =>
    cases fl with
    | ret u =>
      obtain ⟨v, H', I3, rv, ev, q3⟩ := I2.after hq'
      subst ev
      exact ⟨rv, ⟨V.ref (s.heap.objs.size + 1), H', I3, rfl, q3⟩⟩
    | next => exact False.elim hq'
    | brk => exact False.elim hq'
    | cont => exact False.elim hq'
theorem pe_make (M : Mk X.K C f) (F : FnOk X.prog X.w X.K X.mg X.base CX k f fd ps sp) (hr : Room (k + 1) X.A) (hg : Gl X x) (hm : X.mg x = some (.ref C)) (hb : Binds X.K fd ps ds) (hd : Vals dvs ds) (hx : Passes CX X E)
    (ha : PA X (e :: es) t) (hdb : (x == ("__debug__" : Str)) = false := by decide) (he : starEach (e :: es) X.env = (false, eval e X.env) :: starEach es X.env := by rfl) (hpl : (backTo pos (starEach es X.env)).any (·.1) = false := by rfl) :
    PE X (.Call (.Name x p) (e :: es) [] pos) (tMake C sp dvs E t) := by
  intro pins s σ H Q I h
  refine wpAny_Call_Name_kw (ld_glob I hg hm ?_ hdb)
  refine PySem.W.callWith_K (h₀ := X.base) I.ok.mod.kin M.kp (thn (ha pos pins s σ H _ I h) fun us s1 ⟨vs, H1, I1, r, q⟩ => ⟨I1.kIn, ?_⟩) he hpl
  exact run_make M F hr hb hd hx I1 r q
theorem pe_make0 (M : Mk X.K C f) (F : FnOk X.prog X.w X.K X.mg X.base CX k f fd ps sp) (hr : Room (k + 1) X.A) (hg : Gl X x) (hm : X.mg x = some (.ref C)) (hb : Binds X.K fd ps ds) (hd : Vals dvs ds) (hx : Passes CX X E)
    (hdb : (x == ("__debug__" : Str)) = false := by decide) : PE X (.Call (.Name x p) [] [] pos) (tMake C sp dvs E tNil) := by
  intro pins s σ H Q I h
  refine wpAny_Call_Name_kw (ld_glob I hg hm ?_ hdb)
  exact PySem.W.callWith_K0 I.kIn M.kp (run_make (us := []) M F hr hb hd hx I .nil h)
end

/-! ### keywords -/
/-- the values of the keywords, from the left -/
def PK (X : Cx) (kws : List Keyword) (t : TA) : Prop :=
  ∀ (pos : Pos) (pins : List (Addr × Obj)) (s : Shared) (σ : St) (H : Hp) (Q : List V → Hp → Prop), Inv X pins σ H s → t σ H Q → wpAny (model X.prog X.w) X.A (evalAll ((backToKw pos (keywordEach kws X.env)).map (·.2))) (AP X pins σ Q) X.xe s
section
variable {X : Cx} {CX : CXT} {k : Nat} {f C : Addr} {fd : FuncData} {ps ks : List Str} {sp : Sp} {E : XK} {x m : Str} {p pos apos kpos : Pos} {e o : Expr} {es : List Expr} {kws : List Keyword} {te ta : TE} {t tk : TA} {nm : Option Str}
theorem pk_nil : PK X [] tNil := fun _ _ _ _ H Q I h => wpAny_evalAll_nil ⟨[], H, I, .nil, h⟩
theorem pk_cons (ha : PE X e te) (hr : PK X kws t) : PK X (⟨nm, e, kpos⟩ :: kws) (tCons te t) := by
  intro pos pins s σ H Q I h
  show wpAny _ _ (evalAll ((do let v ← eval e X.env; standAt pos; pure v) :: (backToKw pos (keywordEach kws X.env)).map (·.2))) _ _ s
  refine wpAny_evalAll_cons (wpAny_bind (thn (ha pins s σ H _ I h) fun u s1 ⟨x, H1, I1, r1, q1⟩ => wpAny_bind (wpAny_standAt (wpAny_pure ?_))))
  exact thn (hr pos pins s1 σ H1 _ I1 q1) fun us s2 ⟨xs, H2, I2, r2, q2⟩ => ⟨x :: xs, H2, I2, .cons r1 r2, q2⟩

/-- how a call with keywords binds: g puts the positional values us and the keywords' values ws (names ks) in the parameters' order, defaults among them -/
structure KBinds (K : PySem.W.Frag) (fd : FuncData) (ps ks : List Str) (g : List Value → List Value → List Value) (gV : List V → List V → List V) : Prop where
  to : ∀ (s : Shared) (us ws : List Value), K.In s.heap → (g us ws).length = ps.length → BindsTo s fd ⟨us, ks.zip ws⟩ (ps.zip (g us ws))
  rel : ∀ {vs : List V} {us : List Value} {zs : List V} {ws : List Value}, Vals vs us → Vals zs ws → Vals (gV vs zs) (g us ws)
def tCallK (sp : Sp) (gV : List V → List V → List V) (E : XK) (t tk : TA) : TE := fun σ H Q => t σ H fun vs H1 => tk σ H1 fun zs H2 => sp (gV vs zs) H2 Q E
variable {g : List Value → List Value → List Value} {gV : List V → List V → List V}
theorem run_fnk {pins : List (Addr × Obj)} {σ : St} {H : Hp} {s : Shared} {Q : VK} {us ws : List Value} {vs zs : List V} (F : FnOk X.prog X.w X.K X.mg X.base CX k f fd ps sp) (hr : Room k X.A) (hb : KBinds X.K fd ps ks g gV) (hx : Passes CX X E)
    (I : Inv X pins σ H s) (r : Vals vs us) (rz : Vals zs ws) (h : sp (gV vs zs) H Q E) : wpAny (model X.prog X.w) X.A (call (.ref f) us (ks.zip ws)) (EP X pins σ Q) X.xe s := by
  have r2 := hb.rel r rz
  have hl : (g us ws).length = ps.length := by rw [← r2.length]; exact F.len _ _ _ _ h
  refine wpAny_call (codeAny_mono (F.run X.A X.stack s H ⟨us, ks.zip ws⟩ (g us ws) (gV vs zs) Q E hr I.env0 (hb.to s us ws I.kIn hl) r2 h) fun r s' hq => ?_)
  cases r with
  | error e => exact hx pins σ H s e s' I hq
  | ok fl =>
    cases fl with
    | ret u => exact I.after hq
    | next => exact False.elim hq
    | brk => exact False.elim hq
    | cont => exact False.elim hq
/-- f(e, .., k = v, ..) -/
theorem pe_callK (F : FnOk X.prog X.w X.K X.mg X.base CX k f fd ps sp) (hr : Room k X.A) (hg : Gl X x) (hm : X.mg x = some (.ref f)) (hk : PySem.W.keepIn X.K (.ref f) = true) (hb : KBinds X.K fd ps ks g gV) (hx : Passes CX X E)
    (ha : PA X (e :: es) t) (hkw : PK X kws tk) (hall : (backToKw pos (keywordEach kws X.env)).all (·.1.isSome) = true := by rfl) (hks : (backToKw pos (keywordEach kws X.env)).filterMap (·.1) = ks := by rfl)
    (hdb : (x == ("__debug__" : Str)) = false := by decide) (he : starEach (e :: es) X.env = (false, eval e X.env) :: starEach es X.env := by rfl)
    (hpl : ((backTo pos (starEach (e :: es) X.env)).any (·.1) || (backToKw pos (keywordEach kws X.env)).any (·.1.isNone)) = false := by rfl) :
    PE X (.Call (.Name x p) (e :: es) kws pos) (tCallK sp gV E t tk) := by
  intro pins s σ H Q I h
  refine wpAny_Call_Name_kw (ld_glob I hg hm ?_ hdb)
  refine PySem.W.callWith_KW (h₀ := X.base) I.ok.mod.kin hk hall (thn (ha pos pins s σ H _ I h) fun us s1 ⟨vs, H1, I1, r, q⟩ => ?_) hpl he
  refine thn (hkw pos pins s1 σ H1 _ I1 q) fun ws s2 ⟨zs, H2, I2, rz, q2⟩ => ⟨I2.kIn, ?_⟩
  rw [hks]
  exact run_fnk F hr hb hx I2 r rz q2
end

/-! ### a def's body keeps its promise -/
/-- names: the parameters first -/
structure FnScope (N P : List Str) (sc : Scope) : Prop where
  kind : sc.kind = .function
  co : sc.isCoroutine = false
  gen : sc.isGenerator = false
  nd : N.Nodup
  pre : N.take P.length = P
  par : ∀ x ∈ P, sc.names.lookup x = some .local ∨ sc.names.lookup x = some .cell
  nofree : ∀ y ∈ sc.names, y.2 ≠ .free

theorem bindL_out {kindOf : Str → Option NameKind} {x : Str} : ∀ {binds : List (Str × Value)} {m : Str → Option Value}, (∀ v, (x, v) ∉ binds) → bindL kindOf binds m x = m x
  | [], _, _ => rfl
  | (n, v) :: r, m, h => by
    unfold bindL
    rw [bindL_out fun w hw => h w (List.mem_cons_of_mem _ hw)]
    split
    · have : x ≠ n := by rintro rfl; exact h v List.mem_cons_self
      simp [this]
    · rfl
theorem bindC_out {kindOf : Str → Option NameKind} {x : Str} : ∀ {binds : List (Str × Value)} {m : Str → Option Value}, (∀ v, (x, v) ∉ binds) → bindC kindOf binds m x = m x
  | [], _, _ => rfl
  | (n, v) :: r, m, h => by
    unfold bindC
    rw [bindC_out fun w hw => h w (List.mem_cons_of_mem _ hw)]
    split
    · rfl
    · have : x ≠ n := by rintro rfl; exact h v List.mem_cons_self
      simp [this]
theorem bindL_get {kindOf : Str → Option NameKind} {x : Str} {v : Value} : ∀ {P : List Str} {vs : List Value} {i : Nat} {m : Str → Option Value}, P.Nodup → P[i]? = some x → vs[i]? = some v → kindOf x = some .local →
    bindL kindOf (P.zip vs) m x = some v
  | [], _, _, _, _, h, _, _ => by simp at h
  | _ :: _, [], _, _, _, _, h, _ => by simp at h
  | p :: P, w :: vs, 0, m, nd, h1, h2, hk => by
    simp at h1 h2; subst h1; subst h2
    show bindL kindOf ((p, w) :: P.zip vs) m p = _
    unfold bindL
    rw [bindL_out fun v hv => (List.nodup_cons.mp nd).1 (List.of_mem_zip hv).1, if_pos hk]
    simp
  | p :: P, w :: vs, i + 1, m, nd, h1, h2, hk => by
    show bindL kindOf ((p, w) :: P.zip vs) m x = _
    unfold bindL
    exact bindL_get (i := i) (List.nodup_cons.mp nd).2 (by simpa using h1) (by simpa using h2) hk
theorem bindC_get {kindOf : Str → Option NameKind} {x : Str} {v : Value} : ∀ {P : List Str} {vs : List Value} {i : Nat} {m : Str → Option Value}, P.Nodup → P[i]? = some x → vs[i]? = some v → kindOf x ≠ some .local →
    bindC kindOf (P.zip vs) m x = some v
  | [], _, _, _, _, h, _, _ => by simp at h
  | _ :: _, [], _, _, _, _, h, _ => by simp at h
  | p :: P, w :: vs, 0, m, nd, h1, h2, hk => by
    simp at h1 h2; subst h1; subst h2
    show bindC kindOf ((p, w) :: P.zip vs) m p = _
    unfold bindC
    rw [bindC_out fun v hv => (List.nodup_cons.mp nd).1 (List.of_mem_zip hv).1, if_neg hk]
    simp
  | p :: P, w :: vs, i + 1, m, nd, h1, h2, hk => by
    show bindC kindOf ((p, w) :: P.zip vs) m x = _
    unfold bindC
    exact bindC_get (i := i) (List.nodup_cons.mp nd).2 (by simpa using h1) (by simpa using h2) hk

/-- the names' values at the entry -/
def start (N : List Str) (vs : List V) : St := vs.map some ++ List.replicate (N.length - vs.length) none

/-- the context of a def's body, at its entry; an exception leaves the frame, then lies as CX says -/
def cxOf (CX : CXT) (P : Program) (w : World) (K : PySem.W.Frag) (mg : Str → Option Value) (base : Heap) (N : List Str) (qual : Str) (scope : Scope) (f : Addr) (cd : Value) (A : Around) (outer : List Env) (s : Shared) (H : Hp) (E : XK) : Cx where
  prog := P
  w := w
  K := K
  mg := mg
  base := base
  A := A.deeper (envOfC qual scope s.heap.objs.size f cd)
  N := N
  s₀ := s
  H₀ := H
  env := envOfC qual scope s.heap.objs.size f cd
  outer := outer
  stack := envOfC qual scope s.heap.objs.size f cd :: outer
  ex := []
  calm := true
  fn := fun _ => true
  pn := []
  xe := fun e s' => wpAny (model P w) (A.deeper (envOfC qual scope s.heap.objs.size f cd)) (leaving (envOfC qual scope s.heap.objs.size f cd) e) (fun _ s'' => CX outer H s E e s'') (fun e' s'' => CX outer H s E e' s'') s'

theorem cell_has {sc : Scope} {n : Nat} {x : Str} (h : sc.names.lookup x = some .cell) : ∃ c, (cellsFrom n sc.names []).lookup x = some c := by
  have q := PySem.W.cellsFrom_some sc.names n [] (.inl h)
  exact Option.isSome_iff_exists.mp q

theorem inv_start {CX : CXT} {P : Program} {w : World} {K : PySem.W.Frag} {mg : Str → Option Value} {base : Heap} {N ps : List Str} {qual : Str} {scope : Scope} {f : Addr} {cd : Value} {A : Around} {outer : List Env} {s s1 : Shared} {H : Hp} {E : XK} {us : List Value} {vs : List V}
    (S : FnScope N ps scope) (hd : A.handled = none) (e0 : Env0 P w K mg base A outer s H) (hl : vs.length = ps.length) (r : Vals vs us)
    (x : InCallC s s.heap.objs.size (bindL (envOfC qual scope s.heap.objs.size f cd).kindOf (ps.zip us) fun _ => none) (cellsFrom (s.heap.objs.size + 1) scope.names []) (bindC (envOfC qual scope s.heap.objs.size f cd).kindOf (ps.zip us) fun _ => none) s1) :
    Inv (cxOf CX P w K mg base N qual scope f cd A outer s H E) [] (start N vs) H s1 := by
  have hpl : ps.length ≤ N.length := by have := congrArg List.length S.pre; rw [List.length_take] at this; omega
  obtain ⟨h1, tk, rfl, hk⟩ := x.done
  have noA : ∀ b : Addr, b ∉ (cxOf CX P w K mg base N qual scope f cd A outer s H E).ex := fun b z => absurd (show b ∈ ([] : List Addr) from z) (by simp)
  refine ⟨⟨e0.mod, S.kind, rfl, rfl, Nat.le_refl _, fun y z c h1 h2 => ?_, fun y hy => ?_, fun y c _ h => ?_, fun _ => hd, Around.frames_deeper e0.frames, .inr ⟨rfl, rfl⟩, fun b z => absurd z (noA b), e0.bs, e0.bsz, fun b _ _ => noA b, fun b z => absurd z (noA b), e0.funs, e0.frf⟩,
    rfl, e0.bare, Un.kept hk, ⟨_, x.toInCall.ns, fun i y v h1 h2 h3 => ?_⟩, fun y c h => ⟨_, x.cell y c h⟩, e0.hok.fresh (Nat.le_refl _), fun y c h => ?_, fun p hp => absurd (show p ∈ ([] : List (Addr × Obj)) from hp) (by simp), e0.hok.kept hk, ?_⟩
  · exact name_of_addr x.apart (PySem.mem_of_lookup h1) (PySem.mem_of_lookup h2)
  · have hy : scope.names.lookup y = some .cell ∨ scope.names.lookup y = some .free := hy
    rcases hy with hy | hy
    · exact cell_has hy
    · exact absurd rfl (S.nofree _ (PySem.mem_of_lookup hy))
  · exact Nat.le_of_lt (x.above y c (PySem.mem_of_lookup h))
  · have hi : i < vs.length := by
      unfold start at h2
      by_cases hi : i < vs.length
      · exact hi
      · rw [List.getElem?_append_right (by simpa using hi)] at h2
        rw [List.getElem?_replicate] at h2
        split at h2 <;> cases h2
    have ha : vs[i]? = some v := by
      unfold start at h2
      rw [List.getElem?_append_left (by simpa using hi), List.getElem?_map] at h2
      cases e : vs[i]? with
      | none => rw [e] at h2; cases h2
      | some a => rw [e] at h2; cases h2; rfl
    obtain ⟨u, hu, rv⟩ := r.get ha
    have hp : ps[i]? = some y := by
      rw [← S.pre, List.getElem?_take_of_lt (by omega)]; exact h1
    have ndP : ps.Nodup := by rw [← S.pre]; exact S.nd.sublist (List.take_sublist _ _)
    refine ⟨u, rv, ?_⟩
    rcases S.par y (List.mem_of_getElem? hp) with k | k
    · exact .inl ⟨k, bindL_get ndP hp hu k⟩
    · obtain ⟨c, e⟩ := cell_has (n := s.heap.objs.size + 1) k
      refine .inr ⟨.inl k, c, e, ?_⟩
      have q := x.cell y c e
      rw [bindC_get ndP hp hu (by show scope.names.lookup y ≠ _; rw [k]; decide)] at q
      exact q
  · exact e0.hok.fresh (Nat.le_of_lt (x.above y c (PySem.mem_of_lookup h)))
  · unfold start
    show _ = N.length
    rw [List.length_append, List.length_map, List.length_replicate]
    omega

/-- THE RULE: a def (or a method) of the text, by its body. The body's reading t is chosen for each entry; it is run at the parameters' values -/
theorem fn_of {CX : CXT} {P : Program} {w : World} {K : PySem.W.Frag} {mg : Str → Option Value} {base : Heap} {k : Nat} {f : Addr} {name qual : Str} {params : Arguments} {body : List Stmt} {scope : Scope} {dV kV doc pm cdv ct oc : Value} {an od : Option Addr}
    {osl : Array (Option Value)} {N ps : List Str} {sp : Sp} (lk : K.lookup f = some ⟨oc, od, .func (PySem.W.fnOf name qual params body scope dV kV doc pm an cdv ct), osl⟩) (hcd : PySem.W.codeIn K cdv qual = true) (S : FnScope N ps scope)
    (len : ∀ vs H Q E, sp vs H Q E → vs.length = ps.length)
    (hbody : ∀ (A : Around) (outer : List Env) (s : Shared) (H : Hp) (vs : List V) (Q : VK) (E : XK), Room k (A.deeper (envOfC qual scope s.heap.objs.size f cdv)) → sp vs H Q E →
      ∃ t, PSs (cxOf CX P w K mg base N qual scope f cdv A outer s H E) body t ∧ t { nx := fun _ H' => Q .non H', rt := Q } (start N vs) H) :
    FnOk P w K mg base CX (k + 1) f (PySem.W.fnOf name qual params body scope dV kV doc pm an cdv ct) ps sp := by
  refine ⟨len, fun A outer s H args us vs Q E hr e0 hb r hsp => ?_⟩
  have hl := len _ _ _ _ hsp
  have KX : K.In s.heap := e0.mod.kin.keeps fun b o e => (e0.bs b o e).1
  have lim : s.heap.NoLimit := e0.mod.nolimit.keeps fun b o e => (e0.bs b o e).1
  have hkind : ∀ y ∈ ps.zip us, scope.names.lookup y.1 = some .local ∨ (scope.names.lookup y.1 = some .cell ∧ ((cellsFrom (s.heap.objs.size + 1) scope.names []).lookup y.1).isSome = true) := fun ⟨n, v⟩ hy => by
    rcases S.par n (List.of_mem_zip hy).1 with q | q
    · exact .inl q
    · exact .inr ⟨q, PySem.W.cellsFrom_some _ _ _ (.inl q)⟩
  refine codeAny_call_function hr.depth (KX _ _ lk) rfl S.co S.gen rfl (PySem.W.codeRec_of KX hcd) (hb _ _ _ _ ?_)
  refine wpAny_newFunctionEnv_cells S.kind hkind fun env he s1 x => ?_
  subst he
  refine ⟨lim.keeps x.toInCall.keep, codeAny_func ?_⟩
  obtain ⟨t, ht, hq⟩ := hbody A outer s H vs Q E (hr.deeper _) hsp
  have I : Inv (cxOf CX P w K mg base N qual scope f cdv A outer s H E) [] (start N vs) H s1 := inv_start S hr.hd e0 hl r x
  refine wpAny_mono (ht [] s1 (start N vs) H _ I hq) (fun fl s' hs => ?_) fun e s' hs => hs
  have fin : ∀ {σ' : St} {H' : Hp} {v : V} {u : Value}, Inv (cxOf CX P w K mg base N qual scope f cdv A outer s H E) [] σ' H' s' → RelV v u → Q v H' → CE outer P w H s Q u s' :=
    fun {σ' H' v u} J rv q => ⟨v, H', J.os, J.bare, J.base, J.hok, rv, q⟩
  cases fl with
  | ret u =>
    obtain ⟨v, σ', H', J, rv, q⟩ := hs
    exact fin J rv q
  | next =>
    obtain ⟨σ', H', J, q⟩ := hs
    exact fin (v := V.non) (u := Value.none) J rfl q
  | brk =>
    obtain ⟨_, _, _, q⟩ := hs
    exact False.elim q
  | cont =>
    obtain ⟨_, _, _, q⟩ := hs
    exact False.elim q
end L2

namespace L2
open PySem PySem.Spec PyProof.Rows
section
variable {X : Cx} {x : Str} {p pos : Pos} {e : Expr} {es : List Expr} {t : TA} {id T : String} {r : List V → Hp → VK → Prop}

def tCB (r : List V → Hp → VK → Prop) (t : TA) : TE := fun σ H Q => t σ H fun vs H1 => r vs H1 Q
/-- f(e, ..), f a built-in function -/
theorem pe_callB (hc : CallR X (.builtin id) r) (hg : Gl X x) (hm : X.mg x = none) (hv : bootBuiltins x = some (.builtin id)) (ha : PA X (e :: es) t) (hn : x ≠ "__name__" := by decide) (hdb : (x == ("__debug__" : Str)) = false := by decide)
    (he : starEach (e :: es) X.env = (false, eval e X.env) :: starEach es X.env := by rfl) (hpl : (backTo pos (starEach es X.env)).any (·.1) = false := by rfl) : PE X (.Call (.Name x p) (e :: es) [] pos) (tCB r t) := by
  intro pins s σ H Q I h
  refine wpAny_Call_Name_kw (ld_blt I hg hm hv ?_ hn hdb)
  exact PyProof.Rows.callWith_builtin1 (thn (ha pos pins s σ H _ I h) fun us s1 ⟨vs, H1, I1, r1, q1⟩ => hc pins s1 σ H1 vs us Q I1 r1 q1) he hpl
/-- T(e, ..), T a built-in type -/
theorem pe_callTy (hc : CallR X (.type T) r) (hg : Gl X x) (hm : X.mg x = none) (hv : bootBuiltins x = some (.type T)) (ha : PA X (e :: es) t) (hn : x ≠ "__name__" := by decide) (hdb : (x == ("__debug__" : Str)) = false := by decide)
    (he : starEach (e :: es) X.env = (false, eval e X.env) :: starEach es X.env := by rfl) (hpl : (backTo pos (starEach es X.env)).any (·.1) = false := by rfl) : PE X (.Call (.Name x p) (e :: es) [] pos) (tCB r t) := by
  intro pins s σ H Q I h
  refine wpAny_Call_Name_kw (ld_blt I hg hm hv ?_ hn hdb)
  exact PyProof.Rows.callWith_type1 (thn (ha pos pins s σ H _ I h) fun us s1 ⟨vs, H1, I1, r1, q1⟩ => hc pins s1 σ H1 vs us Q I1 r1 q1) he hpl
/-- T() -/
theorem pe_callTy0 (hc : CallR X (.type T) r) (hg : Gl X x) (hm : X.mg x = none) (hv : bootBuiltins x = some (.type T)) (hn : x ≠ "__name__" := by decide) (hdb : (x == ("__debug__" : Str)) = false := by decide) :
    PE X (.Call (.Name x p) [] [] pos) (tCB r tNil) := by
  intro pins s σ H Q I h
  refine wpAny_Call_Name_kw (ld_blt I hg hm hv ?_ hn hdb)
  exact PyProof.Rows.callWith_type0 (hc pins s σ H [] [] Q I .nil h)
end
end L2

namespace HT
open PySem PyProof.Rows

/-- t < u of tuples of ints -/
def lexLt : List Int → List Int → Bool
  | [], [] => false
  | [], _ :: _ => true
  | _ :: _, [] => false
  | x :: xs, y :: ys => if x = y then lexLt xs ys else decide (x < y)
theorem lexLt_cons (x y : Int) (xs ys : List Int) : lexLt (x :: xs) (y :: ys) = if x = y then lexLt xs ys else decide (x < y) := rfl
theorem lexLt_nil_nil : lexLt [] [] = false := rfl
theorem lexLt_nil_cons (y : Int) (ys : List Int) : lexLt [] (y :: ys) = true := rfl
theorem lexLt_cons_nil (x : Int) (xs : List Int) : lexLt (x :: xs) [] = false := rfl

theorem eqAt_int (A : Around) (s : Shared) (a : Int) (t : Tok) (c : Int) (u : Tok) : ∃ e, SeqAt.EqAt A s (.int a t) (.int c u) e ∧ (e = true ↔ a = c) :=
  ⟨(a == c), SeqAt.EqAt.int_int a t c u, by simp⟩
theorem rcLt_int (A : Around) (s : Shared) (a : Int) (t : Tok) (c : Int) (u : Tok) (prog : Program) (w : World) (E : Value → Shared → Prop) (Q : Value → Shared → Prop) (h : Q (.bool (decide (a < c))) s) :
    wpAny (model prog w) A (richCompare .Lt (.int a t) (.int c u)) Q E s :=
  (PyProof.Rows.lt_int h : wpAny (model prog w) A (compareOp .Lt (.int a t) (.int c u)) Q E s)

section
open PySem.SeqAt
open PySem.AutoSeq1 (wpAny_loadPart')
open PySem.MeetsSeq PySem.MeetsSeq2 PySem.MeetsSeq3

theorem tuple_lt_ints (l b : Addr) (items items2 : Array Value) (n n2 : Nat) (dd dd2 : Option Addr) (sl sl2 : Array (Option Value)) (ns ms : List Int) (hi : IntsAre items.toList ns) (hj : IntsAre items2.toList ms) :
    Meets (Builtin.«tuple.__lt__» ⟨[.ref l, .ref b], []⟩)
      (fun _ R s => s.heap.get? l = some { cls := .type "tuple", dict := dd, data := .seq items n, slots := sl } ∧ s.heap.get? b = some { cls := .type "tuple", dict := dd2, data := .seq items2 n2, slots := sl2 } ∧
        R (.ok (.ret (.bool (lexLt ns ms)))) s) :=
  .of_wp fun prog w A R s h => by
    obtain ⟨hp, g, d, tk, os⟩ := s; obtain ⟨hl, hb, h⟩ := h
    have f2 := AutoSeq1.sub_tuple_tuple
    have z1 : items.size = ns.length := by rw [← hi.length]; simp
    have z2 : items2.size = ms.length := by rw [← hj.length]; simp
    wp_walk using wpAny_loadPart' hl, wpAny_loadPart' hb, wpAny_forIn_list _ (fun rest b s' => b.1 = none ∧ s' = ⟨hp, g, d, tk, os⟩ ∧ ∃ (vs ws : List Value) (ns' ms' : List Int), rest = vs.zip ws ∧
      IntsAre vs ns' ∧ IntsAre ws ms' ∧ ns'.length + items2.size = ms'.length + items.size ∧ R (.ok (.ret (.bool (lexLt ns' ms')))) ⟨hp, g, d, tk, os⟩) _
    case turn =>
      rintro ⟨y, x⟩ rest b s' ⟨hb', rfl, vs, ws, ns', ms', hz, hvi, hwi, hlen, hR⟩
      cases hvi with
      | nil => rw [List.zip_nil_left] at hz; cases hz
      | cons a t hvi' =>
        cases hwi with
        | nil => rw [List.zip_nil_right] at hz; cases hz
        | cons c u hwi' =>
          rw [List.zip_cons_cons] at hz
          injection hz with hyx hrest
          injection hyx with hy hx
          subst hy hx
          rw [lexLt_cons] at hR
          simp only [List.length_cons] at hlen
          obtain ⟨e, he, hiff⟩ := eqAt_int A.in1 ⟨hp, g, d, tk, os⟩ a t c u
          refine wpAny_bind (he prog w _ _ ?_)
          cases e with
          | true =>
            rw [if_pos (hiff.mp rfl)] at hR
            wp_walk
            exact ⟨rfl, rfl, _, _, _, _, hrest, hvi', hwi', by omega, hR⟩
          | false =>
            rw [if_neg (fun q => absurd (hiff.mpr q) Bool.false_ne_true)] at hR
            have hri := rcLt_int A.in1 ⟨hp, g, d, tk, os⟩ a t c u prog w
            wp_walk using hri
            exact ⟨_, rfl, by simpa using hR⟩
    case fin =>
      rintro ⟨b1, b2⟩ s' ⟨hb', rfl, vs, ws, ns', ms', hz, hvi, hwi, hlen, hR⟩
      simp only at hb'
      subst hb'
      have hv : lexLt ns' ms' = decide (items.size < items2.size) := by
        cases hvi with
        | nil =>
          cases hwi with
          | nil =>
            simp only [List.length_nil] at hlen
            rw [lexLt_nil_nil]
            exact (decide_eq_false (by omega)).symm
          | cons c u hw =>
            simp only [List.length_nil, List.length_cons] at hlen
            rw [lexLt_nil_cons]
            exact (decide_eq_true (by omega)).symm
        | cons a t hv =>
          cases hwi with
          | nil =>
            simp only [List.length_nil, List.length_cons] at hlen
            rw [lexLt_cons_nil]
            exact (decide_eq_false (by omega)).symm
          | cons c u hw =>
            rw [List.zip_cons_cons] at hz
            cases hz
      rw [hv] at hR
      wp_walk
      exact ⟨_, rfl, by simpa [Builtin.Tuple.tupleCompareSizes] using hR⟩
    case h =>
      exact ⟨rfl, rfl, items.toList, items2.toList, ns, ms, rfl, hi, hj, by omega, h⟩
end

section
variable {prog : Program} {w : World} {A : Around} {E : Value → Shared → Prop} {s : Shared}

theorem lt_tupInts {l b : Addr} {items items2 : Array Value} {ns ms : List Int} {Q : Value → Shared → Prop} (hl : IsTup s.heap l items) (hb : IsTup s.heap b items2) (hi : IntsAre items.toList ns) (hj : IntsAre items2.toList ms)
    (hu : A.units < cLine) (h : Q (.bool (lexLt ns ms)) s) : wpAny (model prog w) A (compareOp .Lt (.ref l) (.ref b)) Q E s := by
  obtain ⟨⟨cls, dd, data, sl⟩, ho, hc, n, hd⟩ := id hl
  obtain ⟨⟨cls2, dd2, data2, sl2⟩, ho2, hc2, n2, hd2⟩ := id hb
  simp only at hc hd hc2 hd2
  subst hc hd hc2 hd2
  exact richCompare_meets_room (op := .Lt) ⟨_, ho, rfl⟩ ⟨_, ho2, rfl⟩ PySem.F.slot_tuple_lt PySem.F.entry_tuple_lt (PySem.F.args_tuple_lt_2 _ _) (tuple_lt_ints l b items items2 n n2 dd dd2 sl sl2 ns ms hi hj)
    ⟨ho, ho2, show Value.bool (lexLt ns ms) ≠ Value.notImplemented ∧ Q (.bool (lexLt ns ms)) s from ⟨(fun x => nomatch x), h⟩⟩ hu

/-- t + u, t not empty -/
theorem cat_tup {t b : Addr} {vs ws : List Value} {Q : Value → Shared → Prop} (ht : IsTup s.heap t vs.toArray) (hb : IsTup s.heap b ws.toArray) (hv : vs ≠ [])
    (h1 : ws = [] → Q (.ref t) s) (h2 : ws ≠ [] → Q (.ref s.heap.objs.size) { s with heap := s.heap.push { cls := .type "tuple", data := .seq (vs ++ ws).toArray } })
    (hsz : vs.length + ws.length ≤ sizeLine) : wpAny (model prog w) A (binaryOp .Add (.ref t) (.ref b)) Q E s := by
  obtain ⟨⟨cls, dd, data, sl⟩, ho, hc, n, hd⟩ := id ht
  obtain ⟨⟨cls2, dd2, data2, sl2⟩, ho2, hc2, n2, hd2⟩ := id hb
  simp only at hc hd hc2 hd2
  subst hc hd hc2 hd2
  have e : vs.toArray ++ ws.toArray = (vs ++ ws).toArray := by simp
  by_cases hw : ws = []
  · exact concat_meets ⟨_, ho, rfl⟩ ⟨_, ho2, rfl⟩ noFill_tuple_add seq_tuple_add PySem.F.slot_tuple_add PySem.F.entry_tuple_add (PySem.F.args_tuple_add_2 _ _)
      (tuple_addW1 t b vs.toArray ws.toArray n n2 dd dd2 sl sl2 (by simpa using hv) (by simp [hw])) ⟨ho, ho2, h1 hw⟩
  · refine concat_meets ⟨_, ho, rfl⟩ ⟨_, ho2, rfl⟩ noFill_tuple_add seq_tuple_add PySem.F.slot_tuple_add PySem.F.entry_tuple_add (PySem.F.args_tuple_add_2 _ _)
      (tuple_addW2 t b vs.toArray ws.toArray n n2 dd dd2 sl sl2 (by simpa using hv) (by simpa using hw) (by rw [List.size_toArray, List.size_toArray]; exact hsz)) ⟨ho, ho2, ?_⟩
    rw [e]
    exact h2 hw

/-! ### t[a:b], not the whole -/
/-- a slice's bound as a place among n (d where it is left out) -/
def sIx (n d : Nat) : Option Int → Nat
  | none => d
  | some v => if v < 0 then (v + (n : Int)).toNat else min v.toNat n
theorem sIx_none (n d : Nat) : sIx n d none = d := rfl
theorem sIx_nat (n d k : Nat) : sIx n d (some (k : Int)) = min k n := by
  show (if (k : Int) < 0 then ((k : Int) + (n : Int)).toNat else min (k : Int).toNat n) = min k n
  rw [if_neg (by omega), Int.toNat_natCast]
theorem sIx_le (n d : Nat) (hd : d ≤ n) (o : Option Int) : sIx n d o ≤ n := by
  cases o with
  | none => exact hd
  | some v =>
    show (if v < 0 then (v + (n : Int)).toNat else min v.toNat n) ≤ n
    by_cases hv : v < 0
    · rw [if_pos hv]; omega
    · rw [if_neg hv]; exact Nat.min_le_right _ _
theorem clip_eq (v : Int) (n d : Nat) : (if v < 0 then max (v + (n : Int)) 0 else min v (n : Int)) = ((sIx n d (some v) : Nat) : Int) := by
  show (if v < 0 then max (v + (n : Int)) 0 else min v (n : Int)) = (((if v < 0 then (v + (n : Int)).toNat else min v.toNat n) : Nat) : Int)
  by_cases hv : v < 0
  · simp only [if_pos hv]; omega
  · simp only [if_neg hv]; omega
theorem adjust_gen (lo hi : Option Int) (n : Nat) : Builtin.Slice.sliceAdjust lo hi 1 (n : Int) = (((sIx n 0 lo : Nat) : Int), ((sIx n n hi : Nat) : Int)) := by
  have h1 : ¬ ((1 : Int) < 0) := by omega
  unfold Builtin.Slice.sliceAdjust
  simp only [h1, if_false]
  refine Prod.ext ?_ ?_
  · cases lo with
    | none => rfl
    | some v => exact clip_eq v n 0
  · cases hi with
    | none => rfl
    | some v => exact clip_eq v n n
theorem places_gen (i j : Nat) : Builtin.Slice.slicePlaces (i : Int) (j : Int) 1 = j - i := by
  unfold Builtin.Slice.slicePlaces
  have h1 : (1 : Int) > 0 := by omega
  simp only [h1, if_true, Int.ediv_one]
  split <;> omega
theorem slicePart_ {v : Value} {o : Option Int} {Q : Option Int → Shared → Prop} (p : IsPart v o) (h : Q o s) : wpAny (model prog w) A (Builtin.Slice.slicePartIndex v) Q E s := by
  cases p with
  | none => exact slicePart_none h
  | int i t => exact slicePart_int h
theorem sliceApplied_gen {sl : Addr} {vl vu : Value} {lo hi : Option Int} {n : Nat} {Q : Int × Int × Nat → Shared → Prop} (hs : s.heap.IsSliceOf sl vl vu .none) (pl : IsPart vl lo) (pu : IsPart vu hi)
    (h : Q (((sIx n 0 lo : Nat) : Int), 1, sIx n n hi - sIx n 0 lo) s) : wpAny (model prog w) A (Builtin.Slice.sliceApplied (.ref sl) (pure (n : Int))) Q E s := by
  obtain ⟨os, hos, hcs, hds⟩ := id hs
  unfold Builtin.Slice.sliceApplied Builtin.Slice.sliceFields
  refine wpAny_bind (wpAny_bind (wpAny_field hos hds (x := vl) rfl (wpAny_bind (wpAny_field hos hds (x := vu) rfl (wpAny_bind (wpAny_field hos hds (x := .none) rfl (wpAny_pure ?_)))))))
  refine wpAny_bind (slicePart_none ?_)
  show wpAny _ _ (if ((1 : Int) == 0) = true then _ else _) _ _ s
  rw [if_neg (by decide)]
  refine wpAny_bind (slicePart_ pl (wpAny_bind (slicePart_ pu (wpAny_bind (wpAny_pure ?_)))))
  show wpAny _ _ (match Builtin.Slice.sliceAdjust lo hi 1 (n : Int) with | (lo, hi) => pure (lo, (1 : Int), Builtin.Slice.slicePlaces lo hi 1)) _ _ s
  rw [adjust_gen lo hi n]
  show wpAny _ _ (pure (((sIx n 0 lo : Nat) : Int), (1 : Int), Builtin.Slice.slicePlaces ((sIx n 0 lo : Nat) : Int) ((sIx n n hi : Nat) : Int) 1)) _ _ s
  rw [places_gen]
  exact wpAny_pure h
theorem pick_gen (xs : Array Value) (i k : Nat) : ((List.range k).filterMap fun (m : Nat) => xs[((i : Int) + (m : Int) * 1).toNat]?).toArray = ((xs.toList.drop i).take k).toArray := by
  have e : (fun (m : Nat) => xs[((i : Int) + (m : Int) * 1).toNat]?) = fun m => xs[i + m]? := by
    funext m
    have : ((i : Int) + (m : Int) * 1).toNat = i + m := by omega
    rw [this]
  rw [e]
  have := pick_run xs i k
  rw [List.filterMap_map] at this
  have e2 : ((fun x => xs[x]?) ∘ fun x => i + x) = fun m => xs[i + m]? := rfl
  rw [e2] at this
  rw [this]

theorem getItem_tuple_cut {t sl : Addr} {items : Array Value} {vl vu : Value} {lo hi : Option Int} {Q : Value → Shared → Prop} (ht : IsTup s.heap t items) (hs : s.heap.IsSliceOf sl vl vu .none) (pl : IsPart vl lo) (pu : IsPart vu hi)
    (hw : ¬ (sIx items.size 0 lo = 0 ∧ sIx items.size items.size hi = items.size))
    (h : Q (.ref s.heap.objs.size) { s with heap := s.heap.push { cls := .type "tuple", data := .seq ((items.toList.drop (sIx items.size 0 lo)).take (sIx items.size items.size hi - sIx items.size 0 lo)).toArray } })
    (hsz : items.size ≤ sizeLine) : wpAny (model prog w) A (getItem (.ref t) (.ref sl)) Q E s := by
  have htake : sizeOk (.seq ((items.toList.drop (sIx items.size 0 lo)).take (sIx items.size items.size hi - sIx items.size 0 lo)).toArray) := by
    show ((items.toList.drop (sIx items.size 0 lo)).take (sIx items.size items.size hi - sIx items.size 0 lo)).toArray.size ≤ sizeLine
    rw [List.size_toArray, List.length_take, List.length_drop, Array.length_toList]
    omega
  have hj : sIx items.size items.size hi ≤ items.size := sIx_le _ _ (Nat.le_refl _) hi
  obtain ⟨os, hos, hcs, hds⟩ := id hs
  have hTs : s.TypeIs (.ref sl) "slice" := ⟨os, hos, hcs⟩
  unfold getItem
  try with_reducible refine wpAny_holding ?_
  first | refine wpAny_bind (wpAny_pure ?_) | skip
  refine wpAny_bind (wpAny_sequenceKey ht.typeIs (by decide) ?_)
  refine wpAny_bind (wpAny_callSpecial?_slot (name := Str.ofString "__getitem__") ht.typeIs PyProof.Rows.slot_tuple_getitem
    (wpAny_call_entry PyProof.Rows.slot_tuple_getitem ht.typeIs entry_tuple_getitem ?_ (args_tuple_getitem _ _)))
  show wpAny _ _ (Builtin.Tuple.tupleItemsOf (.ref t) >>= _) _ _ s
  refine wpAny_bind (tupleItemsOf_ ht ?_)
  refine wpAny_bind (wpAny_typeOf hTs ?_)
  rw [if_pos (by decide)]
  refine wpAny_bind (sliceApplied_gen hs pl pu ?_)
  have hno : ¬ ((((sIx items.size 0 lo : Nat) : Int) == 0 && (1 : Int) == 1 && (sIx items.size items.size hi - sIx items.size 0 lo) == items.size) = true) := by
    intro q
    rw [Bool.and_eq_true, Bool.and_eq_true] at q
    have q1 : ((sIx items.size 0 lo : Nat) : Int) = 0 := eq_of_beq q.1.1
    have q2 : sIx items.size items.size hi - sIx items.size 0 lo = items.size := eq_of_beq q.2
    exact hw ⟨by omega, by omega⟩
  show wpAny _ _ (if (((sIx items.size 0 lo : Nat) : Int) == 0 && (1 : Int) == 1 && (sIx items.size items.size hi - sIx items.size 0 lo) == items.size) = true then _ else _) _ _ s
  rw [if_neg hno, pick_gen]
  first
    | exact wpAny_bind (m := Builtin.Tuple.tupleExact _) (wpAny_newObj_type (wpAny_pure ⟨_, rfl, wpAny_pure h⟩) htake)
    | exact wpAny_bind (m := Builtin.Tuple.tupleExact _) (wpAny_newObj_type (wpAny_bind (wpAny_pure (wpAny_pure ⟨_, rfl, wpAny_pure h⟩))) htake)
    | exact wpAny_bind (wpAny_bind (m := Builtin.Tuple.tupleExact _) (wpAny_newObj_type (wpAny_pure (wpAny_pure ⟨_, rfl, wpAny_pure h⟩)) htake))
    | exact wpAny_bind (wpAny_bind (m := Builtin.Tuple.tupleExact _) (wpAny_newObj_type (wpAny_pure ⟨_, rfl, wpAny_pure h⟩) htake))
end
end HT

namespace L2
open PySem PySem.Spec PyProof.Rows

/-! ### the parts of a slice -/
abbrev TO := St → Hp → (Option Int → Hp → Prop) → Prop
/-- a slice's part (left out, or an int) -/
def PO (X : Cx) (e : Option Expr) (t : TO) : Prop :=
  ∀ (pins : List (Addr × Obj)) (s : Shared) (σ : St) (H : Hp) (Q : Option Int → Hp → Prop), Inv X pins σ H s → t σ H Q →
    wpAny (model X.prog X.w) X.A (evalPart e X.env) (fun u s' => ∃ o H', Inv X pins σ H' s' ∧ IsPart u o ∧ Q o H') X.xe s
def tNoPart : TO := fun _ H Q => Q none H
def tPart (t : TE) : TO := fun σ H Q => t σ H fun x H1 => ∃ i, x = .int i ∧ Q (some i) H1

theorem intsAre_of {ns : List Int} : ∀ {us : List Value}, Vals (ns.map V.int) us → IntsAre us ns := by
  induction ns with
  | nil => intro us r; rw [List.map_nil] at r; cases r; exact .nil
  | cons n ns ih =>
    intro us r
    rw [List.map_cons] at r
    cases r with
    | cons r1 r2 =>
      obtain ⟨t, e⟩ := r1
      subst e
      exact .cons n t (ih r2)

section
variable {X : Cx} {e : Expr} {te : TE} {lo hi : Option Expr} {tl th : TO} {pos p2 : Pos}

theorem po_none : PO X none tNoPart := by
  intro pins s σ H Q I h
  rw [evalPart_none]
  exact wpAny_pure ⟨none, H, I, .none, h⟩
theorem po_some (h : PE X e te) : PO X (some e) (tPart te) := by
  intro pins s σ H Q I hw
  rw [evalPart_some]
  refine thn (h pins s σ H _ I hw) fun u s1 ⟨x, H1, I1, r1, q1⟩ => ?_
  obtain ⟨i, rfl, q⟩ := q1
  obtain ⟨t, rfl⟩ := r1
  exact ⟨some i, H1, I1, .int i t, q⟩

/-- what a slice of a value is, by values: the slice object stands at sl -/
def SlR (X : Cx) (r : V → Option Int → Option Int → Hp → VK → Prop) : Prop :=
  ∀ (pins : List (Addr × Obj)) (s : Shared) (σ : St) (H : Hp) (x : V) (v vl vu : Value) (lo hi : Option Int) (sl : Addr) (Q : VK), Inv X pins σ H s → RelV x v → s.heap.IsSliceOf sl vl vu .none → IsPart vl lo → IsPart vu hi → r x lo hi H Q →
    ∃ T id, typeLookup (.type T) "__getitem__" = pure (some (.builtin id)) ∧ s.TypeIs v T ∧ wpAny (model X.prog X.w) X.A (getItem v (.ref sl)) (EP X pins σ Q) X.xe s
theorem SlR.or {r r' : V → Option Int → Option Int → Hp → VK → Prop} (h : SlR X r) (h' : SlR X r') : SlR X (fun x lo hi H Q => r x lo hi H Q ∨ r' x lo hi H Q) := by
  intro pins s σ H x v vl vu lo hi sl Q I rx hs pl pu q
  rcases q with q | q
  · exact h pins s σ H x v vl vu lo hi sl Q I rx hs pl pu q
  · exact h' pins s σ H x v vl vu lo hi sl Q I rx hs pl pu q
def tSl (r : V → Option Int → Option Int → Hp → VK → Prop) (te : TE) (tl th : TO) : TE := fun σ H Q => te σ H fun x H1 => tl σ H1 fun l H2 => th σ H2 fun u H3 => r x l u H3 Q
/-- a[lo:hi], any a -/
theorem pe_slice {r : V → Option Int → Option Int → Hp → VK → Prop} (hr : SlR X r) (he : PE X e te) (hl : PO X lo tl) (hu : PO X hi th) : PE X (.Subscript e (.Slice lo hi none p2) pos) (tSl r te tl th) := by
  intro pins s σ H Q I h
  refine Subscript_ (thn (he pins s σ H _ I h) fun v s1 ⟨x, H1, I1, r1, q1⟩ => ?_)
  refine wpAny_Slice (thn (hl pins s1 σ H1 _ I1 q1) fun vl s2 ⟨l, H2, I2, pl, q2⟩ => thn (hu pins s2 σ H2 _ I2 q2) fun vu s3 ⟨u, H3, I3, pu, q3⟩ => ?_)
  rw [evalPart_none]
  refine wpAny_pure ?_
  have I4 : Inv X pins σ H3 { s3 with heap := s3.heap.push { cls := .type "slice", data := .fields #[vl, vu, .none] } } := I3.kept (t' := s3.toks) fun b ob q => Heap.get?_push_of_some _ q
  obtain ⟨T, id, hT, ht, hg⟩ := hr pins { s3 with heap := s3.heap.push { cls := .type "slice", data := .fields #[vl, vu, .none] } } σ H3 x v vl vu l u s3.heap.objs.size Q I4 r1 (Heap.IsSliceOf.new ..) pl pu q3
  show wpAny (model X.prog X.w) X.A (subscriptTail e (.Slice lo hi none p2) v (.ref s3.heap.objs.size)) (EP X pins σ Q) X.xe { s3 with heap := s3.heap.push { cls := .type "slice", data := .fields #[vl, vu, .none] } }
  exact tail_any (ops := [.ref s3.heap.objs.size, v]) ht hT hg (by with_unfolding_all rfl)

/-- the items of xs[lo:hi] -/
def cutV (xs : List V) (lo hi : Option Int) : List V := (xs.drop (HT.sIx xs.length 0 lo)).take (HT.sIx xs.length xs.length hi - HT.sIx xs.length 0 lo)
theorem cutV_length (xs : List V) (lo hi : Option Int) : (cutV xs lo hi).length ≤ xs.length := by
  unfold cutV
  rw [List.length_take, List.length_drop]
  omega
/-- t[lo:hi], not the whole of it (the whole would be t itself) -/
def rSlT (K : PySem.W.Frag) : V → Option Int → Option Int → Hp → VK → Prop := fun x lo hi H Q => ∃ a xs, x = .ref a ∧ SqT K H a xs ∧
  ¬ (HT.sIx xs.length 0 lo = 0 ∧ HT.sIx xs.length xs.length hi = xs.length) ∧ ∀ p, H p = none → Q (.ref p) (upd H p (.tup (cutV xs lo hi)))
theorem sl_tup : SlR X (rSlT X.K) := by
  intro pins s σ H x v vl vu lo hi sl Q I rx hs pl pu h
  obtain ⟨a, xs, rfl, hx, hw, q⟩ := h
  cases rx
  obtain ⟨its, r, ht, hz⟩ := I.tuple hx
  have hlen : its.toArray.size = xs.length := by rw [List.size_toArray]; exact r.length.symm
  refine ⟨"tuple", _, PyProof.Rows.slot_tuple_getitem.lookup, ht.typeIs, ?_⟩
  refine HT.getItem_tuple_cut ht hs pl pu (by rw [hlen]; exact hw) ?_ (by rw [hlen]; exact hz)
  rw [hlen]
  refine ⟨.ref s.heap.objs.size, _, I.laid (t' := s.toks) (o := .tup (cutV xs lo hi)) (fun b ob q => Heap.get?_push_of_some _ q) (Nat.le_refl _) ?_, rfl, q _ (I.hok.fresh (Nat.le_refl _))⟩
  exact ⟨Nat.le_trans (cutV_length xs lo hi) hz, _, (r.drop (HT.sIx xs.length 0 lo)).take (HT.sIx xs.length xs.length hi - HT.sIx xs.length 0 lo), IsTup.new _ _⟩

/-! ### t < u, t + u -/
def rLtT (K : PySem.W.Frag) : R2 := fun x y H Q => ∃ a b ns ms, x = .ref a ∧ y = .ref b ∧ SqT K H a (ns.map V.int) ∧ SqT K H b (ms.map V.int) ∧ Q (.bl (HT.lexLt ns ms)) H
theorem op_ltT (hu : X.A.units < cLine) : OpR X (compareOp .Lt) (rLtT X.K) := by
  intro pins s σ H x y v u Q I rx ry h
  obtain ⟨a, b, ns, ms, rfl, rfl, ha, hb, q⟩ := h
  cases rx
  cases ry
  obtain ⟨its, r1, p1, _⟩ := I.tuple ha
  obtain ⟨its2, r2, p2, _⟩ := I.tuple hb
  have i1 : IntsAre its.toArray.toList ns := intsAre_of r1
  have i2 : IntsAre its2.toArray.toList ms := intsAre_of r2
  exact HT.lt_tupInts p1 p2 i1 i2 hu ⟨.bl (HT.lexLt ns ms), H, I, rfl, q⟩
/-- t + u, t not empty: u empty gives t itself -/
def rCatT (K : PySem.W.Frag) : R2 := fun x y H Q => ∃ a b xs ys, x = .ref a ∧ y = .ref b ∧ SqT K H a xs ∧ SqT K H b ys ∧ xs ≠ [] ∧ xs.length + ys.length ≤ sizeLine ∧
  (ys = [] → Q (.ref a) H) ∧ (ys ≠ [] → ∀ p, H p = none → Q (.ref p) (upd H p (.tup (xs ++ ys))))
theorem Vals.nil_iff {xs : List V} {us : List Value} (r : Vals xs us) : us = [] ↔ xs = [] := by
  cases r with
  | nil => simp
  | cons _ _ => simp
theorem op_catT : OpR X (binaryOp .Add) (rCatT X.K) := by
  intro pins s σ H x y v u Q I rx ry h
  obtain ⟨a, b, xs, ys, rfl, rfl, ha, hb, hx, hz, q1, q2⟩ := h
  cases rx
  cases ry
  obtain ⟨its, r1, p1, _⟩ := I.tuple ha
  obtain ⟨its2, r2, p2, _⟩ := I.tuple hb
  refine HT.cat_tup p1 p2 (fun z => hx (r1.nil_iff.mp z)) (fun z => ⟨.ref a, H, I, rfl, q1 (r2.nil_iff.mp z)⟩) (fun z => ?_) (by rw [← r1.length, ← r2.length]; exact hz)
  refine ⟨.ref s.heap.objs.size, _, I.laid (t' := s.toks) (o := .tup (xs ++ ys)) (fun b ob q => Heap.get?_push_of_some _ q) (Nat.le_refl _) ?_, rfl, q2 (fun w => z (r2.nil_iff.mpr w)) _ (I.hok.fresh (Nat.le_refl _))⟩
  exact ⟨by rw [List.length_append]; exact hz, _, r1.append r2, IsTup.new _ _⟩
/-- tuple(t) -/
theorem call_tupleT : CallR X (.type "tuple") (fun xs H Q => ∃ a ys, xs = [.ref a] ∧ SqT X.K H a ys ∧ Q (.ref a) H) := by
  intro pins s σ H xs us Q I r h
  obtain ⟨a, ys, rfl, ha, q⟩ := h
  obtain ⟨u, rfl, ru⟩ := vals1 r
  cases ru
  obtain ⟨its, _, p1, _⟩ := I.tuple ha
  exact call_tuple_same (items := its.toArray) p1 ⟨.ref a, H, I, rfl, q⟩
end
end L2

namespace L2
open PySem PySem.Spec PyProof.Rows

/-! ### places -/
/-- the place that an index of any sign means -/
def ixN (n : Nat) (i : Int) : Option Nat := if 0 ≤ i then (if i < n then some i.toNat else none) else if -(n : Int) ≤ i then some (i + n).toNat else none
def atI {α : Type} (xs : List α) (i : Int) : Option α := (ixN xs.length i).bind fun j => xs[j]?
theorem ixN_seq {n : Nat} {i : Int} {j : Nat} (h : ixN n i = some j) : seqIndex? i n = some j ∧ j < n ∧ -(n : Int) ≤ i ∧ i < n := by
  unfold ixN at h
  by_cases h0 : 0 ≤ i
  · rw [if_pos h0] at h
    by_cases h1 : i < n
    · rw [if_pos h1] at h
      have e : i.toNat = j := Option.some.inj h
      exact ⟨by rw [seqIndex_of h0 h1, e], by omega, by omega, h1⟩
    · rw [if_neg h1] at h; cases h
  · rw [if_neg h0] at h
    by_cases h1 : -(n : Int) ≤ i
    · rw [if_pos h1] at h
      have e : (i + n).toNat = j := Option.some.inj h
      exact ⟨by rw [seqIndex_neg (by omega) h1, e], by omega, h1, by omega⟩
    · rw [if_neg h1] at h; cases h
theorem atI_get {α : Type} {xs : List α} {i : Int} {v : α} (h : atI xs i = some v) : ∃ j, seqIndex? i xs.length = some j ∧ xs[j]? = some v ∧ j < xs.length ∧ -(xs.length : Int) ≤ i ∧ i < xs.length := by
  unfold atI at h
  cases e : ixN xs.length i with
  | none => rw [e] at h; cases h
  | some j =>
    rw [e] at h
    obtain ⟨h1, h2, h3, h4⟩ := ixN_seq e
    exact ⟨j, h1, h, h2, h3, h4⟩
theorem atI_nat {α : Type} {xs : List α} {j : Nat} {v : α} (h : xs[j]? = some v) : atI xs (j : Int) = some v := by
  have hj : j < xs.length := (List.getElem?_eq_some_iff.mp h).1
  have e : ixN xs.length (j : Int) = some j := by
    unfold ixN
    rw [if_pos (by omega), if_pos (by omega)]; simp
  unfold atI; rw [e]; exact h
theorem atI_last {α : Type} (xs : List α) (v : α) : atI (xs ++ [v]) (-1) = some v := by
  have hl : (xs ++ [v]).length = xs.length + 1 := by simp
  have e : ixN (xs ++ [v]).length (-1) = some xs.length := by
    unfold ixN
    rw [hl, if_neg (by decide), if_pos (by omega)]
    congr 1
    omega
  unfold atI
  rw [e]
  show (xs ++ [v])[xs.length]? = some v
  simp

/-! ### what may be subscripted -/
/-- what stands as an index of a plain subscript -/
def PlainIx (b : Expr) : Prop := ∀ o i, subscripted b false o i = operate [o, i] (getItem o i)
/-- a subscript by values -/
def IxR (X : Cx) (r : R2) : Prop :=
  ∀ (value slice : Expr) (pins : List (Addr × Obj)) (s : Shared) (σ : St) (H : Hp) (x y : V) (v u : Value) (Q : VK), Inv X pins σ H s → RelV x v → RelV y u → r x y H Q →
    subscripted slice false v u = operate [v, u] (getItem v u) → wpAny (model X.prog X.w) X.A (subscriptTail value slice v u) (EP X pins σ Q) X.xe s
/-- a call of a builtin's method by values: the receiver, the arguments -/
def MtR (X : Cx) (id : String) (r : V → List V → Hp → VK → Prop) : Prop :=
  ∀ (pins : List (Addr × Obj)) (s : Shared) (σ : St) (H : Hp) (x : V) (xs : List V) (v : Value) (us : List Value) (Q : VK), Inv X pins σ H s → RelV x v → Vals xs us → r x xs H Q →
    wpAny (model X.prog X.w) X.A (call (.builtin id) (v :: us)) (EP X pins σ Q) X.xe s
section
variable {X : Cx} {a b : Expr} {ta tb : TE} {pos : Pos}
theorem IxR.or {r r' : R2} (h : IxR X r) (h' : IxR X r') : IxR X (fun x y H Q => r x y H Q ∨ r' x y H Q) := by
  intro value slice pins s σ H x y v u Q I rx ry q hs
  rcases q with q | q
  · exact h value slice pins s σ H x y v u Q I rx ry q hs
  · exact h' value slice pins s σ H x y v u Q I rx ry q hs
theorem MtR.or {id : String} {r r' : V → List V → Hp → VK → Prop} (h : MtR X id r) (h' : MtR X id r') : MtR X id (fun x xs H Q => r x xs H Q ∨ r' x xs H Q) := by
  intro pins s σ H x xs v us Q I rx rs q
  rcases q with q | q
  · exact h pins s σ H x xs v us Q I rx rs q
  · exact h' pins s σ H x xs v us Q I rx rs q
/-- a[b] -/
theorem pe_ix {r : R2} (hr : IxR X r) (ha : PE X a ta) (hb : PE X b tb) (hs : PlainIx b) : PE X (.Subscript a b pos) (tOp r ta tb) := by
  intro pins s σ H Q I h
  exact Subscript_ (binT ha hb I h fun v u s2 x y H2 I2 rx ry q => hr a b pins s2 σ H2 x y v u Q I2 rx ry q (hs _ _))

def rIxL (K : PySem.W.Frag) : R2 := fun x y H Q => ∃ p xs i v, x = .ref p ∧ y = .int i ∧ SqL K H p xs ∧ atI xs i = some v ∧ Q v H
def rIxT (K : PySem.W.Frag) : R2 := fun x y H Q => ∃ p xs i v, x = .ref p ∧ y = .int i ∧ SqT K H p xs ∧ atI xs i = some v ∧ Q v H
def rIxS : R2 := fun x y H Q => ∃ z i c, x = .str z ∧ y = .int i ∧ z.length ≤ sizeLine ∧ atI z.cps.toList i = some c ∧ Q (.str ⟨#[c]⟩) H
theorem ix_list : IxR X (rIxL X.K) := by
  intro value slice pins s σ H x y v u Q I rx ry h hs
  obtain ⟨p, xs, i, z, rfl, rfl, hq, he, q⟩ := h
  cases rx
  obtain ⟨t, rfl⟩ := ry
  obtain ⟨its, r, pl, hz⟩ := I.list hq
  obtain ⟨j, h1, h2, h3, h4, h5⟩ := atI_get he
  obtain ⟨w, ew, rw'⟩ := r.get h2
  have hl := r.length
  have hn := line63
  have fin : EP X pins σ Q w s := ⟨z, H, I, rw', q⟩
  by_cases h0 : 0 ≤ i
  · have hj : i.toNat = j := by
      rw [seqIndex_of h0 h5] at h1
      exact Option.some.inj h1
    exact item_listR pl.isList h0 (by omega) (by rw [hj]; simpa using ew) fin hs
  · have hj : (i + (its.toArray.size : Int)).toNat = j := by
      rw [seqIndex_neg (by omega) h4] at h1
      rw [List.size_toArray, ← hl]
      exact Option.some.inj h1
    exact subscriptTail_builtinR (x := w) pl.isList.typeIs slot_list_getitem.lookup
      (wpAny_getItem_list_neg (Q := fun r s' => r = w ∧ EP X pins σ Q r s') pl.isList (by omega) (by rw [List.size_toArray] <;> omega) (by omega) (by rw [hj]; simpa using ew) ⟨rfl, fin⟩) hs
theorem ix_tup : IxR X (rIxT X.K) := by
  intro value slice pins s σ H x y v u Q I rx ry h hs
  obtain ⟨p, xs, i, z, rfl, rfl, hq, he, q⟩ := h
  cases rx
  obtain ⟨t, rfl⟩ := ry
  obtain ⟨its, r, pl, hz⟩ := I.tuple hq
  obtain ⟨j, h1, h2, h3, h4, h5⟩ := atI_get he
  obtain ⟨w, ew, rw'⟩ := r.get h2
  have hl := r.length
  have hn := line63
  have fin : EP X pins σ Q w s := ⟨z, H, I, rw', q⟩
  exact subscriptTail_builtinR (x := w) pl.typeIs slot_tuple_getitem.lookup
    (getItem_tuple (j := j) (Q := fun r s' => r = w ∧ EP X pins σ Q r s') pl (by omega) (by omega) (by rw [List.size_toArray, ← hl]; exact h1) (by simpa using ew) ⟨rfl, fin⟩) hs
theorem ix_str : IxR X rIxS := by
  intro value slice pins s σ H x y v u Q I rx ry h hs
  obtain ⟨z, i, c, rfl, rfl, hz, he, q⟩ := h
  obtain ⟨t, rfl⟩ := rx
  obtain ⟨t', rfl⟩ := ry
  obtain ⟨j, h1, h2, h3, h4, h5⟩ := atI_get he
  have hl : z.cps.toList.length = z.length := by simp [Str.length]
  rw [hl] at h1 h4 h5
  have hn := line63
  exact tail_any (typeIs_str s z t) slot_str_getitem.lookup (getItem_str (c := c) (by
    have e1 : decide (i < -(2 ^ 63 : Int)) = false := decide_eq_false (by omega)
    have e2 : decide (i ≥ 2 ^ 63) = false := decide_eq_false (by omega)
    rw [e1, e2, Bool.or_false]) (by rw [h1]; simpa using h2) ⟨.str ⟨#[c]⟩, H, I.tok _, ⟨_, rfl⟩, q⟩) hs
/-- list, tuple or str -/
def rIx (K : PySem.W.Frag) : R2 := fun x y H Q => rIxL K x y H Q ∨ rIxT K x y H Q ∨ rIxS x y H Q
theorem ix_seq : IxR X (rIx X.K) := ix_list.or (ix_tup.or ix_str)

/-! ### xs[i] = v, any sign -/
/-- the list's object behind a store -/
theorem mapSeq_set (its : List Value) (n j : Nat) (u : Value) : Obj.mapSeq (·.setIfInBounds j u) { cls := .type "list", data := .seq its.toArray n } = { cls := .type "list", data := .seq (its.set j u).toArray n } := by
  simp [Obj.mapSeq]
theorem Inv.lst {pins : List (Addr × Obj)} {σ : St} {H : Hp} {s : Shared} {p : Addr} {xs : List V} (I : Inv X pins σ H s) (h : H p = some (.lst xs)) :
    ∃ (its : List Value) (n : Nat), Vals xs its ∧ s.heap.get? p = some { cls := .type "list", data := .seq its.toArray n } ∧ xs.length ≤ sizeLine := by
  obtain ⟨z, its, n, r, e⟩ := I.hok p _ h
  exact ⟨its, n, r, e, z⟩
/-- the list at p is written by an update of its object -/
theorem Inv.lstUpd {pins : List (Addr × Obj)} {σ : St} {H : Hp} {s : Shared} {p : Addr} {xs ys : List V} {its its' : List Value} {n n' : Nat} {f : Obj → Obj} (I : Inv X pins σ H s) (h : H p = some (.lst xs))
    (ho : s.heap.get? p = some { cls := .type "list", data := .seq its.toArray n }) (hf : f { cls := .type "list", data := .seq its.toArray n } = { cls := .type "list", data := .seq its'.toArray n' }) (r : Vals ys its') (hz : ys.length ≤ sizeLine) (t : Nat) :
    Inv X pins σ (upd H p (.lst ys)) { s with heap := s.heap.update p f, toks := t } := by
  have e : (s.heap.update p f).get? p = some { cls := .type "list", data := .seq its'.toArray n' } := by
    rw [Heap.get?_update_self f ho (by rw [hf] <;> rfl), hf]
  refine I.write (x := p) (e := p) (by rw [h]; trivial) (.inl rfl) (fun b u hb q => (Heap.get?_update_other _ _ (Ne.symm hb)).trans q) ⟨_, e⟩ ?_
  exact ⟨hz, its', n', r, e⟩
def rSetL : V → V → V → Hp → (Hp → Prop) → Prop := fun o i v H Q => ∃ p xs k j, o = .ref p ∧ i = .int k ∧ H p = some (.lst xs) ∧ ixN xs.length k = some j ∧ Q (upd H p (.lst (xs.set j v)))
theorem set_list : PSet X rSetL := by
  intro pins s σ H o i v ov iv u Q I ro ri rv h
  obtain ⟨p, xs, k, j, rfl, rfl, hp, hj, q⟩ := h
  cases ro
  obtain ⟨t, rfl⟩ := ri
  obtain ⟨its, n, r, ho, hz⟩ := I.lst hp
  obtain ⟨h1, h2, h3, h4⟩ := ixN_seq hj
  have hl := r.length
  have hn := line63
  have I' : Inv X pins σ (upd H p (.lst (xs.set j v))) { s with heap := s.heap.update p (Obj.mapSeq (·.setIfInBounds j u)) } :=
    I.lstUpd hp ho (mapSeq_set its n j u) (r.set rv j) (by rw [List.length_set]; exact hz) s.toks
  by_cases h0 : 0 ≤ k
  · have hk : k.toNat = j := by
      rw [seqIndex_of h0 h4] at h1
      exact Option.some.inj h1
    exact PySem.W.ki_setAt ho h0 (by omega) (by rw [List.size_toArray, ← hl]; exact h4) (by rw [hk]; exact ⟨_, I', q⟩)
  · have hk : (k + (its.toArray.size : Int)).toNat = j := by
      rw [seqIndex_neg (by omega) h3] at h1
      rw [List.size_toArray, ← hl]
      exact Option.some.inj h1
    exact PySem.W.ki_setBack ho (by omega) (by rw [List.size_toArray, ← hl]; exact h3) (by omega) (by rw [hk]; exact ⟨_, I', q⟩)

/-! ### slices -/
theorem slice_bounds (lo hi : Option Int) (n : Nat) : (sliceBounds lo hi none n).1 = ((HT.sIx n 0 lo : Nat) : Int) ∧ (sliceBounds lo hi none n).2.1 = ((HT.sIx n n hi : Nat) : Int) ∧ (sliceBounds lo hi none n).2.2 = 1 := by
  refine ⟨?_, ?_, rfl⟩
  · cases lo with
    | none => simp [sliceBounds, HT.sIx]
    | some i =>
      simp only [sliceBounds, HT.sIx, Option.getD_none, show (1 : Int) > 0 by decide, if_true]
      by_cases h : i < 0
      · simp only [h, if_true] <;> omega
      · simp only [h, if_false] <;> omega
  · cases hi with
    | none => simp [sliceBounds, HT.sIx]
    | some i =>
      simp only [sliceBounds, HT.sIx, Option.getD_none, show (1 : Int) > 0 by decide, if_true]
      by_cases h : i < 0
      · simp only [h, if_true] <;> omega
      · simp only [h, if_false] <;> omega
theorem slicePick_cut (its : List Value) (lo hi : Option Int) : slicePick its.toArray lo hi none = ((its.drop (HT.sIx its.length 0 lo)).take (HT.sIx its.length its.length hi - HT.sIx its.length 0 lo)).toArray := by
  obtain ⟨h1, h2, h3⟩ := slice_bounds lo hi its.toArray.size
  unfold slicePick
  rw [h1, h2, h3]
  simp only [sliceRange_one, pick_run, List.size_toArray] <;> rfl
/-- xs[lo:hi] of a list: a new list -/
def rSlL (K : PySem.W.Frag) : V → Option Int → Option Int → Hp → VK → Prop := fun x lo hi H Q => ∃ a xs, x = .ref a ∧ SqL K H a xs ∧ ∀ p, H p = none → Q (.ref p) (upd H p (.lst (cutV xs lo hi)))
theorem sl_list : SlR X (rSlL X.K) := by
  intro pins s σ H x v vl vu lo hi sl Q I rx hs pl pu h
  obtain ⟨a, xs, rfl, hx, q⟩ := h
  cases rx
  obtain ⟨its, r, ht, hz⟩ := I.list hx
  have hlen := r.length
  refine ⟨"list", _, slot_list_getitem.lookup, ht.isList.typeIs, ?_⟩
  refine wpAny_getItem_list_slice ht.isList hs pl pu .none (by simp) ?_ (by rw [List.size_toArray] <;> omega)
  rw [slicePick_cut, ← hlen]
  refine ⟨.ref s.heap.objs.size, _, I.laid (t' := s.toks) (o := .lst (cutV xs lo hi)) (fun b ob q => Heap.get?_push_of_some _ q) (Nat.le_refl _) ?_, rfl, q _ (I.hok.fresh (Nat.le_refl _))⟩
  exact ⟨Nat.le_trans (cutV_length xs lo hi) hz, _, 0, (r.drop (HT.sIx xs.length 0 lo)).take (HT.sIx xs.length xs.length hi - HT.sIx xs.length 0 lo), Heap.get?_push_size _ rfl⟩

/-! ### in, not in: flat items -/
def flatV : V → Bool
  | .non => true
  | .bl _ => true
  | .int _ => true
  | .str _ => true
  | _ => false
/-- == of flat values -/
def eqV : V → V → Bool
  | .non, .non => true
  | .bl a, .bl b => a == b
  | .bl a, .int b => (if a then 1 else 0) == b
  | .int a, .bl b => a == (if b then 1 else 0)
  | .int a, .int b => a == b
  | .str a, .str b => a == b
  | _, _ => false
theorem eqAt_V {A : Around} {s : Shared} {y x : V} {u v : Value} (ry : RelV y u) (rx : RelV x v) (fy : flatV y = true) (fx : flatV x = true) : SeqAt.EqAt A s u v (eqV y x) := by
  cases y with
  | non =>
    cases ry
    cases x with
    | non => cases rx; exact SeqAt.EqAt.same _
    | bl b => cases rx; exact SeqAt.EqAt.none_bool b
    | int b => obtain ⟨t, rfl⟩ := rx; exact SeqAt.EqAt.none_int b t
    | str b => obtain ⟨t, rfl⟩ := rx; exact SeqAt.EqAt.none_str b t
    | _ => exact absurd (show false = true from fx) Bool.false_ne_true
  | bl a =>
    cases ry
    cases x with
    | non => cases rx; exact SeqAt.EqAt.bool_none a
    | bl b => cases rx; exact SeqAt.EqAt.bool_bool a b
    | int b => obtain ⟨t, rfl⟩ := rx; exact SeqAt.EqAt.bool_int a b t
    | str b => obtain ⟨t, rfl⟩ := rx; exact SeqAt.EqAt.bool_str a b t
    | _ => exact absurd (show false = true from fx) Bool.false_ne_true
  | int a =>
    obtain ⟨t', rfl⟩ := ry
    cases x with
    | non => cases rx; exact SeqAt.EqAt.int_none a t'
    | bl b => cases rx; exact SeqAt.EqAt.int_bool a t' b
    | int b => obtain ⟨t, rfl⟩ := rx; exact SeqAt.EqAt.int_int a t' b t
    | str b => obtain ⟨t, rfl⟩ := rx; exact SeqAt.EqAt.int_str a t' b t
    | _ => exact absurd (show false = true from fx) Bool.false_ne_true
  | str a =>
    obtain ⟨t', rfl⟩ := ry
    cases x with
    | non => cases rx; exact SeqAt.EqAt.str_none a t'
    | bl b => cases rx; exact SeqAt.EqAt.str_bool a t' b
    | int b => obtain ⟨t, rfl⟩ := rx; exact SeqAt.EqAt.str_int a t' b t
    | str b => obtain ⟨t, rfl⟩ := rx; exact SeqAt.EqAt.str_str a t' b t
    | _ => exact absurd (show false = true from fx) Bool.false_ne_true
  | _ => exact absurd (show false = true from fy) Bool.false_ne_true
/-- the items' answers, read off the values (a value's own answer does not lean on its token) -/
def eqU (x : V) (u : Value) : Bool := match u with
  | .none => eqV .non x
  | .bool b => eqV (.bl b) x
  | .int i _ => eqV (.int i) x
  | .str z _ => eqV (.str z) x
  | _ => false
theorem eqU_of {x y : V} {u : Value} (r : RelV y u) (f : flatV y = true) : eqU x u = eqV y x := by
  cases y with
  | non => cases r; rfl
  | bl b => cases r; rfl
  | int i => obtain ⟨t, rfl⟩ := r; rfl
  | str z => obtain ⟨t, rfl⟩ := r; rfl
  | _ => exact absurd (show false = true from f) Bool.false_ne_true
theorem any_eqU {x : V} : ∀ {xs : List V} {us : List Value}, Vals xs us → xs.all flatV = true → us.any (eqU x) = xs.any fun y => eqV y x
  | _, _, .nil, _ => rfl
  | y :: xs, u :: us, .cons r t, f => by
    rw [List.all_cons, Bool.and_eq_true] at f
    rw [List.any_cons, List.any_cons, eqU_of r f.1, any_eqU t f.2]
theorem mem_eqAt {A : Around} {s : Shared} {x : V} {v : Value} (rx : RelV x v) (fx : flatV x = true) : ∀ {xs : List V} {us : List Value}, Vals xs us → xs.all flatV = true → ∀ u ∈ us, SeqAt.EqAt A s u v (eqU x u)
  | _, _, .nil, _ => fun u hu => by cases hu
  | y :: xs, u :: us, .cons r t, f => fun u' hu => by
    rw [List.all_cons, Bool.and_eq_true] at f
    rcases List.mem_cons.mp hu with rfl | hu
    · rw [eqU_of r f.1]; exact eqAt_V r rx f.1 fx
    · exact mem_eqAt rx fx t f.2 u' hu
def inV (x : V) (xs : List V) : Bool := xs.any fun y => eqV y x
/-- x in a list or tuple of flat items -/
def rIn (K : PySem.W.Frag) (neg : Bool) : R2 := fun x y H Q => ∃ p xs, y = .ref p ∧ (SqL K H p xs ∨ SqT K H p xs) ∧ flatV x = true ∧ xs.all flatV = true ∧ Q (.bl (if neg then !inV x xs else inV x xs)) H
theorem op_in_seq : OpR X (compareOp .In) (rIn X.K false) := by
  intro pins s σ H x y v u Q I rx ry h
  obtain ⟨p, xs, rfl, hq, fx, fs, q⟩ := h
  cases ry
  rcases hq with hq | hq
  · obtain ⟨its, r, pl, hz⟩ := I.list hq
    refine SeqAt.in_listAt (eqU x) pl.isList (fun w hw => mem_eqAt rx fx r fs w (by simpa using hw)) ⟨.bl _, H, I, rfl, ?_⟩
    rw [show its.toArray.any (eqU x) = its.any (eqU x) by simp, any_eqU r fs]
    exact q
  · obtain ⟨its, r, pl, hz⟩ := I.tuple hq
    refine SeqAt.in_tupleAt (eqU x) pl (fun w hw => mem_eqAt rx fx r fs w (by simpa using hw)) ⟨.bl _, H, I, rfl, ?_⟩
    rw [show its.toArray.any (eqU x) = its.any (eqU x) by simp, any_eqU r fs]
    exact q
theorem op_notIn_seq : OpR X (compareOp .NotIn) (rIn X.K true) := by
  intro pins s σ H x y v u Q I rx ry h
  obtain ⟨p, xs, rfl, hq, fx, fs, q⟩ := h
  cases ry
  rcases hq with hq | hq
  · obtain ⟨its, r, pl, hz⟩ := I.list hq
    refine SeqAt.notIn_listAt (eqU x) pl.isList (fun w hw => mem_eqAt rx fx r fs w (by simpa using hw)) ⟨.bl _, H, I, rfl, ?_⟩
    rw [show its.toArray.any (eqU x) = its.any (eqU x) by simp, any_eqU r fs]
    exact q
  · obtain ⟨its, r, pl, hz⟩ := I.tuple hq
    refine SeqAt.notIn_tupleAt (eqU x) pl (fun w hw => mem_eqAt rx fx r fs w (by simpa using hw)) ⟨.bl _, H, I, rfl, ?_⟩
    rw [show its.toArray.any (eqU x) = its.any (eqU x) by simp, any_eqU r fs]
    exact q
theorem op_notIn_str : OpR X (compareOp .NotIn) (fun x y H Q => ∃ i j, x = .str i ∧ y = .str j ∧ Q (.bl (!(!(Builtin.Str.occurrences j i 0 j.length 1).isEmpty))) H) := by
  intro pins s σ H x y v u Q I rx ry h
  obtain ⟨i, j, rfl, rfl, q⟩ := h
  obtain ⟨t, rfl⟩ := rx
  obtain ⟨t', rfl⟩ := ry
  exact notIn_str ⟨.bl _, H, I, rfl, q⟩

/-! ### len, list(x), tuple(x) of any list or tuple that is read -/
theorem call_len_seq : CallR X (.builtin "len") (fun xs H Q => ∃ p ys, xs = [.ref p] ∧ (SqL X.K H p ys ∨ SqT X.K H p ys) ∧ Q (.int ys.length) H) := by
  intro pins s σ H xs us Q I r h
  obtain ⟨p, ys, rfl, hq, q⟩ := h
  obtain ⟨u, rfl, rx⟩ := vals1 r
  cases rx
  have hn := line63
  rcases hq with hq | hq
  · obtain ⟨its, r', pl, hz⟩ := I.list hq
    have hlen := r'.length
    exact Calls.call_len_list pl.isList (by simp only [List.size_toArray] <;> omega) ⟨.int ys.length, H, I.tok _, ⟨s.toks + 1, by rw [List.size_toArray, hlen]⟩, q⟩
  · obtain ⟨its, r', pl, hz⟩ := I.tuple hq
    have hlen := r'.length
    exact len_tuple pl (by simp only [List.size_toArray] <;> omega) ⟨.int ys.length, H, I.tok _, ⟨s.toks + 1, by rw [List.size_toArray, hlen]⟩, q⟩
theorem call_len_str : CallR X (.builtin "len") (fun xs H Q => ∃ z, xs = [.str z] ∧ z.length ≤ sizeLine ∧ Q (.int z.length) H) := by
  intro pins s σ H xs us Q I r h
  obtain ⟨z, rfl, hz, q⟩ := h
  obtain ⟨u, rfl, t, rfl⟩ := vals1 r
  have hn := line63
  exact len_str (by omega) ⟨.int z.length, H, I.tok _, ⟨_, rfl⟩, q⟩
theorem CallR.or {f : Value} {r r' : List V → Hp → VK → Prop} (h : CallR X f r) (h' : CallR X f r') : CallR X f (fun xs H Q => r xs H Q ∨ r' xs H Q) := by
  intro pins s σ H xs us Q I rs q
  rcases q with q | q
  · exact h pins s σ H xs us Q I rs q
  · exact h' pins s σ H xs us Q I rs q
theorem call_list_of : CallR X (.type "list") (fun xs H Q => ∃ p ys, xs = [.ref p] ∧ (SqL X.K H p ys ∨ SqT X.K H p ys) ∧ ∀ l, H l = none → Q (.ref l) (upd H l (.lst ys))) := by
  intro pins s σ H xs us Q I r h
  obtain ⟨p, ys, rfl, hq, q⟩ := h
  obtain ⟨u, rfl, rx⟩ := vals1 r
  cases rx
  have fin : ∀ (its : List Value), Vals ys its → ys.length ≤ sizeLine → ∀ (h' : Heap) (c' : Nat), (∀ b o', s.heap.get? b = some o' → h'.get? b = some o') →
      h'.get? s.heap.objs.size = some { cls := .type "list", dict := none, data := .seq its.toArray c', slots := #[] } → EP X pins σ Q (.ref s.heap.objs.size) { s with heap := h' } := fun its r' hz h' c' kp e =>
    ⟨.ref s.heap.objs.size, _, I.laid (t' := s.toks) kp (Nat.le_refl _) (show ObjOk X.prog X.w _ h' _ (.lst ys) from ⟨hz, its, c', r', e⟩), rfl, q _ (I.hok.fresh (Nat.le_refl _))⟩
  rcases hq with hq | hq
  · obtain ⟨its, r', pl, hz⟩ := I.list hq
    have hlen := r'.length
    obtain ⟨o, ho, hc, n, hd⟩ := pl.isList
    exact call_list_seq p (.inl rfl) ho hc hd (fun h' c' kp e => fin its r' hz h' c' kp e) (by simp only [List.size_toArray] <;> omega)
  · obtain ⟨its, r', pl, hz⟩ := I.tuple hq
    have hlen := r'.length
    obtain ⟨o, ho, hc, n, hd⟩ := pl
    exact call_list_seq p (.inr rfl) ho hc hd (fun h' c' kp e => fin its r' hz h' c' kp e) (by simp only [List.size_toArray] <;> omega)
theorem call_tuple_of : CallR X (.type "tuple") (fun xs H Q => ∃ p ys, xs = [.ref p] ∧ ((SqL X.K H p ys ∧ ∀ l, H l = none → Q (.ref l) (upd H l (.tup ys))) ∨ (SqT X.K H p ys ∧ Q (.ref p) H))) := by
  intro pins s σ H xs us Q I r h
  obtain ⟨p, ys, rfl, h⟩ := h
  obtain ⟨u, rfl, rx⟩ := vals1 r
  cases rx
  rcases h with ⟨hq, q⟩ | ⟨hq, q⟩
  · obtain ⟨its, r', pl, hz⟩ := I.list hq
    have hlen := r'.length
    refine call_tuple_list pl.isList (fun h' kp => ?_) (by simp only [List.size_toArray] <;> omega)
    have I1 : Inv X pins σ H { s with heap := h' } := I.kept (t' := s.toks) kp
    have I2 : Inv X pins σ (upd H h'.objs.size (.tup ys)) { s with heap := h'.push { cls := .type "tuple", data := .seq its.toArray } } :=
      I1.laid (t' := s.toks) (fun b o e => Heap.get?_push_of_some _ e) (Nat.le_refl _) (show ObjOk X.prog X.w _ _ _ (.tup ys) from ⟨hz, its, r', IsTup.new _ _⟩)
    exact ⟨.ref h'.objs.size, _, I2, rfl, q _ (I1.hok.fresh (Nat.le_refl _))⟩
  · obtain ⟨its, r', pl, hz⟩ := I.tuple hq
    exact call_tuple_same pl ⟨.ref p, H, I, rfl, q⟩

/-! ### the call of a builtin's method: o.m(..) -/
/-- the value is of that builtin type -/
def tyV (K : PySem.W.Frag) (T : String) (x : V) (H : Hp) : Prop := match x with
  | .str _ => T = "str"
  | .int _ => T = "int"
  | .ref p => (T = "list" ∧ ∃ xs, SqL K H p xs) ∨ (T = "tuple" ∧ ∃ o, K.lookup p = some o ∧ o.cls = .type "tuple" ∧ o.dict = none) ∨
      (T = "dict" ∧ ((∃ kvs, H p = some (.dK kvs)) ∨ ∃ kvs, H p = some (.dT kvs))) ∨ (T = "set" ∧ ∃ S n, H p = some (.set S n))
  | _ => False
theorem tyV_is {pins : List (Addr × Obj)} {σ : St} {H : Hp} {s : Shared} {T : String} {x : V} {v : Value} (I : Inv X pins σ H s) (r : RelV x v) (ty : tyV X.K T x H) :
    s.TypeIs v T ∧ ∀ a, v = .ref a → ∃ ob, s.heap.get? a = some ob ∧ ob.dict = none := by
  cases x with
  | str z =>
    obtain ⟨t, rfl⟩ := r
    cases (show T = "str" from ty)
    exact ⟨typeIs_str s z t, fun _ e => nomatch e⟩
  | int i =>
    obtain ⟨t, rfl⟩ := r
    cases (show T = "int" from ty)
    exact ⟨typeIs_int s i t, fun _ e => nomatch e⟩
  | ref p =>
    cases r
    rcases ty with ⟨rfl, xs, hq⟩ | ⟨rfl, o, hk, hc, hd⟩ | ⟨rfl, hk⟩ | ⟨rfl, S, n, hk⟩
    · obtain ⟨its, _, pl, _⟩ := I.list hq
      refine ⟨pl.isList.typeIs, fun a e => ?_⟩
      cases e
      obtain ⟨o, n, e, c, hd, _⟩ := pl
      exact ⟨o, e, hd⟩
    · refine ⟨⟨o, I.kIn p o hk, hc⟩, fun a e => ?_⟩
      cases e
      exact ⟨o, I.kIn _ o hk, hd⟩
    · have z : ∃ o, s.heap.get? p = some o ∧ o.ExactDict := by
        rcases hk with ⟨kvs, hk⟩ | ⟨kvs, hk⟩
        · obtain ⟨_, _, _, _, o, _, _, e, ex, _⟩ := I.hok p _ hk
          exact ⟨o, e, ex⟩
        · obtain ⟨_, _, _, _, o, _, _, e, ex, _⟩ := I.hok p _ hk
          exact ⟨o, e, ex⟩
      obtain ⟨o, e, ex⟩ := z
      refine ⟨⟨o, e, ex.1⟩, fun a e2 => ?_⟩
      cases e2
      exact ⟨o, e, ex.2.1⟩
    · obtain ⟨o, _, _, _, e, ex, _⟩ := I.hok p _ hk
      refine ⟨⟨o, e, ex.1⟩, fun a e2 => ?_⟩
      cases e2
      exact ⟨o, e, ex.2.1⟩
  | _ => exact False.elim ty
def tBM0 (K : PySem.W.Frag) (T : String) (r : V → List V → Hp → VK → Prop) (to : TE) : TE := fun σ H Q => to σ H fun x H1 => tyV K T x H1 ∧ r x [] H1 Q
def tBM (K : PySem.W.Frag) (T : String) (r : V → List V → Hp → VK → Prop) (to : TE) (t : TA) : TE := fun σ H Q => to σ H fun x H1 => tyV K T x H1 ∧ t σ H1 fun xs H2 => r x xs H2 Q
variable {o e : Expr} {es : List Expr} {to : TE} {t : TA} {name : Str} {apos cpos : Pos} {T id : String} {r : V → List V → Hp → VK → Prop}
theorem pe_bm0 (pa : PlainAttrs T) (slot : Slot T name id) (hty : typeOf (.builtin id) = pure (.type "method_descriptor")) (hm : MtR X id r) (ho : PE X o to)
    (hbase : attributeBase o name X.env (eval o X.env) = eval o X.env := by rfl) (hline : (apos.endLine == cpos.line) = true := by rfl) : PE X (.Call (.Attribute o name apos) [] [] cpos) (tBM0 X.K T r to) := by
  intro pins s σ H Q I h
  refine wpAny_Call_method0_late hbase hline (thn (ho pins s σ H _ I h) fun v s1 ⟨x, H1, I1, r1, ty, q1⟩ => ?_)
  obtain ⟨h1, h2⟩ := tyV_is I1 r1 ty
  exact ⟨T, id, pa, slot, hty, h1, h2, Calls.callWith_builtin rfl (PySem.evalArgs_none (hm pins s1 σ H1 x [] v [] Q I1 r1 .nil q1))⟩
theorem pe_bm (pa : PlainAttrs T) (slot : Slot T name id) (hty : typeOf (.builtin id) = pure (.type "method_descriptor")) (hm : MtR X id r) (ho : PE X o to) (ha : PA X (e :: es) t)
    (hbase : attributeBase o name X.env (eval o X.env) = eval o X.env := by rfl)
    (hfew : ((backTo cpos (starEach (e :: es) X.env)).all (fun x => !x.1) && (backToKw cpos (keywordEach [] X.env)).all (fun x => x.1.isSome)
      && decide ((e :: es).length + ([] : List Keyword).length + (if ([] : List Keyword).isEmpty then 0 else 1) < 30)) = true := by rfl)
    (hline : (apos.endLine == cpos.line) = true := by rfl) (hs : starEach (e :: es) X.env = (false, eval e X.env) :: starEach es X.env := by rfl) (hplain : (backTo cpos (starEach es X.env)).any (·.1) = false := by rfl) :
    PE X (.Call (.Attribute o name apos) (e :: es) [] cpos) (tBM X.K T r to t) := by
  intro pins s σ H Q I h
  refine wpAny_Call_method_late hbase hfew hline rfl (thn (ho pins s σ H _ I h) fun v s1 ⟨x, H1, I1, r1, ty, q1⟩ => ?_)
  obtain ⟨h1, h2⟩ := tyV_is I1 r1 ty
  refine ⟨T, id, pa, slot, hty, h1, h2, ?_⟩
  have hA := ha cpos pins s1 σ H1 _ I1 q1
  rw [hs] at hA ⊢
  refine Calls.callWith_builtin (by show (false || (backTo cpos (starEach es X.env)).any (·.1)) = false; rw [hplain] <;> rfl) (Calls.evalArgs_plain ?_)
  exact thn hA fun us s2 ⟨vs, H2, I2, r2, q2⟩ => hm pins s2 σ H2 x vs v us Q I2 r1 r2 q2
/- xs.append(e), list.index on a module's tuple .. are MtR facts of 06m -/
end
end L2

namespace L2
open PySem PySem.Spec PyProof.Rows

def MtM (X : Cx) (id : String) (r : V → List V → Hp → VK → Prop) : Prop :=
  ∀ (pins : List (Addr × Obj)) (s : Shared) (σ : St) (H : Hp) (x : V) (xs : List V) (v : Value) (us : List Value) (Q : VK), Inv X pins σ H s → RelV x v → Vals xs us → r x xs H Q →
    wpAny (model X.prog X.w) X.A (call (.builtin id) (v :: us)) (EP X pins σ Q) X.xe s

/-! ### lists of values -/
theorem Vals.one : ∀ {x : V} {us : List Value}, Vals [x] us → ∃ u, us = [u] ∧ RelV x u
  | _, _, .cons r .nil => ⟨_, rfl, r⟩
theorem Vals.two : ∀ {x y : V} {us : List Value}, Vals [x, y] us → ∃ u v, us = [u, v] ∧ RelV x u ∧ RelV y v
  | _, _, _, .cons r (.cons q .nil) => ⟨_, _, rfl, r, q⟩
theorem Vals.zero : ∀ {us : List Value}, Vals [] us → us = []
  | _, .nil => rfl
theorem Vals.dropLast {xs : List V} {us : List Value} (h : Vals xs us) : Vals xs.dropLast us.dropLast := by
  induction h with
  | nil => exact .nil
  | cons r t ih =>
    cases t with
    | nil => exact .nil
    | cons q t' => exact .cons r ih
theorem Vals.eraseIdx : ∀ {xs : List V} {us : List Value} (i : Nat), Vals xs us → Vals (xs.eraseIdx i) (us.eraseIdx i)
  | _, _, _, .nil => .nil
  | _, _, 0, .cons _ t => t
  | _, _, i + 1, .cons r t => .cons r (Vals.eraseIdx i t)
theorem Vals.reverse {xs : List V} {us : List Value} (h : Vals xs us) : Vals xs.reverse us.reverse := by
  induction h with
  | nil => exact .nil
  | cons r t ih => rw [List.reverse_cons, List.reverse_cons]; exact Vals.append ih (.cons r .nil)
theorem Vals.rep {xs : List V} {us : List Value} (h : Vals xs us) : ∀ k : Nat, Vals (List.replicate k xs).flatten (List.replicate k us).flatten
  | 0 => .nil
  | k + 1 => by
    rw [List.replicate_succ, List.replicate_succ, List.flatten_cons, List.flatten_cons]
    exact Vals.append h (Vals.rep h k)
theorem erase_last {α : Type} (l : List α) : l.eraseIdx (l.length - 1) = l.dropLast := by
  induction l with
  | nil => rfl
  | cons a r ih =>
    cases r with
    | nil => rfl
    | cons b r =>
      have e : (a :: b :: r).length - 1 = ((b :: r).length - 1) + 1 := by
        have h1 : (a :: b :: r).length = r.length + 2 := rfl
        have h2 : (b :: r).length = r.length + 1 := rfl
        omega
      rw [e, List.eraseIdx_cons_succ, ih]
      all_goals rfl
theorem len_erase {α : Type} : ∀ (l : List α) (i : Nat), (l.eraseIdx i).length ≤ l.length
  | [], _ => Nat.le_refl _
  | _ :: _, 0 => Nat.le_succ _
  | _ :: r, i + 1 => Nat.succ_le_succ (len_erase r i)
theorem foldl_rep (its : List Value) : ∀ (k : Nat) (acc : List Value),
    List.foldl (fun x1 x2 => x1 ++ x2) acc.toArray (List.replicate k its.toArray) = (acc ++ (List.replicate k its).flatten).toArray
  | 0, acc => by simp
  | k + 1, acc => by
    have e : acc.toArray ++ its.toArray = (acc ++ its).toArray := by simp
    have e2 : (acc ++ its) ++ (List.replicate k its).flatten = acc ++ (List.replicate (k + 1) its).flatten := by
      rw [List.replicate_succ, List.flatten_cons, List.append_assoc]
    rw [← e2, ← foldl_rep its k (acc ++ its), ← e, List.replicate_succ, List.foldl_cons]

section
variable {X : Cx} {pins : List (Addr × Obj)} {σ : St} {H : Hp} {s : Shared} {l b : Addr} {xs ys zs : List V}

/-! ### the two steps: a tracked list is rewritten, a new list is laid -/
theorem Inv.lset {its its' : List Value} {n : Nat} {f : Array Value → Array Value} {t' : Nat} (I : Inv X pins σ H s) (hH : H l = some (.lst xs))
    (e : s.heap.get? l = some { cls := .type "list", data := .seq its.toArray n }) (hf : f its.toArray = its'.toArray) (hv : Vals ys its') (hz : ys.length ≤ sizeLine) :
    Inv X pins σ (upd H l (.lst ys)) { s with heap := s.heap.update l (Obj.mapSeq f), toks := t' } := by
  have q := PySem.IsL.update e f
  rw [hf] at q
  refine I.write (x := l) (e := l) (by rw [hH]; exact trivial) (.inl rfl) (fun b' u hb hu => (Heap.get?_update_other s.heap (Obj.mapSeq f) (Ne.symm hb)).trans hu) ⟨_, q⟩ ?_
  exact ⟨hz, its', _, hv, q⟩
theorem Inv.lnew {its : List Value} {t' : Nat} (I : Inv X pins σ H s) (hv : Vals ys its) (hz : ys.length ≤ sizeLine) :
    Inv X pins σ (upd H s.heap.objs.size (.lst ys)) { s with heap := s.heap.push { cls := .type "list", data := .seq its.toArray }, toks := t' } :=
  I.laid (fun _ _ q => Heap.get?_push_of_some _ q) (Nat.le_refl _) ⟨hz, its, 0, hv, Heap.get?_push_size _ rfl⟩
theorem Inv.fresh (I : Inv X pins σ H s) : H s.heap.objs.size = none := I.hok.fresh (Nat.le_refl _)
theorem Inv.lstM (I : Inv X pins σ H s) (hH : H l = some (.lst xs)) : xs.length ≤ sizeLine ∧ ∃ (its : List Value) (n : Nat), Vals xs its ∧ xs.length = its.length ∧ s.heap.get? l = some { cls := .type "list", data := .seq its.toArray n } := by
  obtain ⟨z, its, n, r, e⟩ := I.hok l _ hH
  exact ⟨z, its, n, r, r.length, e⟩

theorem notLongL {n : Nat} (h : n ≤ sizeLine) : Builtin.List.listTooLong n = false := by
  unfold Builtin.List.listTooLong
  exact decide_eq_false (by omega)
end

section
variable {X : Cx}

/-! ### methods -/
def rAppend : V → List V → Hp → VK → Prop := fun x vs H Q => ∃ l xs y, x = .ref l ∧ vs = [y] ∧ H l = some (.lst xs) ∧ xs.length < sizeLine ∧ Q .non (upd H l (.lst (xs ++ [y])))
theorem mt_append : MtM X "list.append" rAppend := by
  intro pins s σ H x vs v us Q I rx rv h
  obtain ⟨l, xs, y, rfl, rfl, hH, hz, q⟩ := h
  cases rx
  obtain ⟨u, rfl, ru⟩ := rv.one
  obtain ⟨z, its, n, r, hl, e⟩ := I.lstM hH
  refine call_meets F.slot_list_append ⟨_, e, rfl⟩ F.entry_list_append (F.args_list_append_2 _ _) (PySem.list_append l its.toArray n u (by rw [List.size_toArray]; omega)) ⟨e, ?_⟩
  refine ⟨.non, _, I.lset (its' := its ++ [u]) hH e (by simp) (r.append (.cons ru .nil)) ?_, rfl, q⟩
  rw [List.length_append, List.length_singleton]
  omega

def rExtend : V → List V → Hp → VK → Prop := fun x vs H Q => ∃ l b xs zs, x = .ref l ∧ vs = [.ref b] ∧ H l = some (.lst xs) ∧ H b = some (.lst zs) ∧ xs.length + zs.length ≤ sizeLine ∧ Q .non (upd H l (.lst (xs ++ zs)))
theorem mt_extend : MtM X "list.extend" rExtend := by
  intro pins s σ H x vs v us Q I rx rv h
  obtain ⟨l, b, xs, zs, rfl, rfl, hH, hB, hz, q⟩ := h
  cases rx
  obtain ⟨u, rfl, ru⟩ := rv.one
  cases ru
  obtain ⟨z, its, n, r, hl, e⟩ := I.lstM hH
  obtain ⟨z2, its2, n2, r2, hl2, e2⟩ := I.lstM hB
  have hsz : its.toArray.size + its2.toArray.size ≤ sizeLine := by rw [List.size_toArray, List.size_toArray]; omega
  have hlong : ¬ (!its.toArray.isEmpty && Builtin.List.listTooLong (its.toArray.size + its2.toArray.size)) = true := by
    rw [notLongL hsz, Bool.and_false]
    exact Bool.false_ne_true
  refine call_meets F.slot_list_extend ⟨_, e, rfl⟩ F.entry_list_extend (F.args_list_extend_2 _ _)
    (AutoSeq1.list_extend_list_list_0 l its.toArray n b its2.toArray n2 hlong (by rw [List.size_toArray]; omega) (by omega)) ⟨e, e2, ?_⟩
  refine ⟨.non, _, I.lset (its' := its ++ its2) hH e (by simp) (r.append r2) ?_, rfl, q⟩
  rw [List.length_append]
  omega

def rPop : V → List V → Hp → VK → Prop := fun x vs H Q => ∃ l xs y, x = .ref l ∧ vs = [] ∧ H l = some (.lst xs) ∧ xs[xs.length - 1]? = some y ∧ Q y (upd H l (.lst xs.dropLast))
theorem mt_pop : MtM X "list.pop" rPop := by
  intro pins s σ H x vs v us Q I rx rv h
  obtain ⟨l, xs, y, rfl, rfl, hH, hy, q⟩ := h
  cases rx
  have hus := rv.zero
  subst hus
  obtain ⟨z, its, n, r, hl, e⟩ := I.lstM hH
  obtain ⟨u, hu, ru⟩ := r.get hy
  have hy' : its.toArray[its.toArray.size - 1]? = some u := by
    show its.toArray[its.length - 1]? = some u
    rw [← Array.getElem?_toList, ← hl]
    exact hu
  refine call_meets F.slot_list_pop ⟨_, e, rfl⟩ F.entry_list_pop (F.args_list_pop_1 _) (MeetsSeq.list_pop_last l its.toArray n u hy' (by rw [List.size_toArray]; omega)) ⟨e, ?_⟩
  refine ⟨y, _, I.lset (its' := its.dropLast) hH e ?_ r.dropLast ?_, ru, q⟩
  · show its.toArray.eraseIdxIfInBounds (its.toArray.size - 1) = its.dropLast.toArray
    rw [List.size_toArray, List.eraseIdxIfInBounds_toArray, erase_last]
  · rw [List.length_dropLast]
    omega

def rPopAt : V → List V → Hp → VK → Prop := fun x vs H Q => ∃ l xs i k y, x = .ref l ∧ vs = [.int i] ∧ H l = some (.lst xs) ∧ -(2 ^ 63) ≤ i ∧ i < 2 ^ 63 ∧ seqIndex? i xs.length = some k ∧ xs[k]? = some y ∧ Q y (upd H l (.lst (xs.eraseIdx k)))
theorem mt_popAt : MtM X "list.pop" rPopAt := by
  intro pins s σ H x vs v us Q I rx rv h
  obtain ⟨l, xs, i, k, y, rfl, rfl, hH, h1, h2, hk, hy, q⟩ := h
  cases rx
  obtain ⟨u, rfl, ru⟩ := rv.one
  obtain ⟨t, rfl⟩ := ru
  obtain ⟨z, its, n, r, hl, e⟩ := I.lstM hH
  obtain ⟨w, hw, rw'⟩ := r.get hy
  refine call_meets F.slot_list_pop ⟨_, e, rfl⟩ F.entry_list_pop (F.args_list_pop_2 _ _)
    (MeetsSeq.list_pop_at l its.toArray n i t k w (fitsIndex_both h1 h2) (by rw [List.size_toArray, ← hl]; exact hk) (by rw [← Array.getElem?_toList]; exact hw) (by rw [List.size_toArray]; omega)) ⟨e, ?_⟩
  refine ⟨y, _, I.lset (its' := its.eraseIdx k) hH e ?_ (r.eraseIdx k) ?_, rw', q⟩
  · show its.toArray.eraseIdxIfInBounds k = (its.eraseIdx k).toArray
    rw [List.eraseIdxIfInBounds_toArray]
  · have := len_erase xs k
    omega

def rReverse : V → List V → Hp → VK → Prop := fun x vs H Q => ∃ l xs, x = .ref l ∧ vs = [] ∧ H l = some (.lst xs) ∧ Q .non (upd H l (.lst xs.reverse))
theorem mt_reverse : MtM X "list.reverse" rReverse := by
  intro pins s σ H x vs v us Q I rx rv h
  obtain ⟨l, xs, rfl, rfl, hH, q⟩ := h
  cases rx
  have hus := rv.zero
  subst hus
  obtain ⟨z, its, n, r, hl, e⟩ := I.lstM hH
  refine call_meets F.slot_list_reverse ⟨_, e, rfl⟩ F.entry_list_reverse (F.args_list_reverse_1 _) (AutoSeq1.list_reverse_list_0 l its.toArray n (by rw [List.size_toArray]; omega)) ⟨e, ?_⟩
  refine ⟨.non, _, I.lset (its' := its.reverse) hH e (by simp) r.reverse ?_, rfl, q⟩
  rw [List.length_reverse]
  omega

def rClear : V → List V → Hp → VK → Prop := fun x vs H Q => ∃ l xs, x = .ref l ∧ vs = [] ∧ H l = some (.lst xs) ∧ Q .non (upd H l (.lst []))
theorem mt_clear : MtM X "list.clear" rClear := by
  intro pins s σ H x vs v us Q I rx rv h
  obtain ⟨l, xs, rfl, rfl, hH, q⟩ := h
  cases rx
  have hus := rv.zero
  subst hus
  obtain ⟨z, its, n, r, hl, e⟩ := I.lstM hH
  refine call_meets F.slot_list_clear ⟨_, e, rfl⟩ F.entry_list_clear (F.args_list_clear_1 _) (AutoSeq1.list_clear_list_0 l its.toArray n (by rw [List.size_toArray]; omega)) ⟨e, ?_⟩
  exact ⟨.non, _, I.lset (its' := []) (ys := []) hH e rfl .nil (Nat.zero_le _), rfl, q⟩

/-! ### list + list, list += list, list * int -/
def rCat : R2 := fun x y H Q => ∃ l b xs zs, x = .ref l ∧ y = .ref b ∧ H l = some (.lst xs) ∧ H b = some (.lst zs) ∧ xs.length + zs.length ≤ sizeLine ∧ ∀ p, H p = none → Q (.ref p) (upd H p (.lst (xs ++ zs)))
theorem op_cat : OpR X (binaryOp .Add) rCat := by
  intro pins s σ H x y v u Q I rx ry h
  obtain ⟨l, b, xs, zs, rfl, rfl, hH, hB, hz, q⟩ := h
  cases rx
  cases ry
  obtain ⟨z, its, n, r, hl, e⟩ := I.lstM hH
  obtain ⟨z2, its2, n2, r2, hl2, e2⟩ := I.lstM hB
  refine PySem.P.add_list e e2 ?_ (by rw [List.size_toArray, List.size_toArray]; omega)
  have ea : its.toArray ++ its2.toArray = (its ++ its2).toArray := by simp
  rw [ea]
  exact ⟨.ref _, _, I.lnew (t' := s.toks) (r.append r2) (by rw [List.length_append]; omega), rfl, q _ I.fresh⟩
/-- a list times an int (a negative one is nothing) -/
def rRep : R2 := fun x y H Q => ∃ l k xs, x = .ref l ∧ y = .int k ∧ H l = some (.lst xs) ∧ -(2 ^ 63) ≤ k ∧ k < 2 ^ 63 ∧ xs.length * k.toNat ≤ sizeLine ∧
  ∀ p, H p = none → Q (.ref p) (upd H p (.lst (List.replicate k.toNat xs).flatten))
theorem len_rep {α : Type} (xs : List α) (k : Nat) : (List.replicate k xs).flatten.length = k * xs.length := by
  induction k with
  | zero => simp
  | succ k ih => rw [List.replicate_succ, List.flatten_cons, List.length_append, ih, Nat.succ_mul, Nat.add_comm]
theorem op_rep : OpR X (binaryOp .Mult) rRep := by
  intro pins s σ H x y v u Q I rx ry h
  obtain ⟨l, k, xs, rfl, rfl, hH, h1, h2, hz, q⟩ := h
  cases rx
  obtain ⟨t, rfl⟩ := ry
  obtain ⟨z, its, n, r, hl, e⟩ := I.lstM hH
  have hlen : its.toArray.size * k.toNat ≤ sizeLine := by rw [List.size_toArray, ← hl]; exact hz
  have hcap : ¬ its.toArray.size * k.toNat > (2 ^ 63 - 1) / 8 := by
    have : (sizeLine : Nat) ≤ (2 ^ 63 - 1) / 8 := by decide
    omega
  have hfit : ¬ (!Builtin.List.listFitsIndex k) = true := by
    rw [fitsIndex_both h1 h2]
    exact Bool.false_ne_true
  have hlong : ¬ Builtin.List.listTooLong (its.toArray.size * k.toNat) = true := by
    rw [notLongL hlen]
    exact Bool.false_ne_true
  have hnew : List.foldl (fun x1 x2 => x1 ++ x2) #[] (List.replicate (if its.toArray.isEmpty = true then 0 else k.toNat) its.toArray) = (List.replicate k.toNat its).flatten.toArray := by
    have f0 : ∀ m : Nat, List.foldl (fun x1 x2 => x1 ++ x2) #[] (List.replicate m its.toArray) = (List.replicate m its).flatten.toArray := fun m => by
      have := foldl_rep its m []
      rw [List.nil_append] at this
      exact this
    rw [f0]
    cases its with
    | nil => simp
    | cons a r' => rw [if_neg (by simp)]
  refine wpAny_binaryOp_repeat_ref (T := "list") (U := "int") (by decide) ⟨_, e, rfl⟩ (fun s' => typeIs_int s' k t) noFill_list_mul F.fills_int_mul F.slot_int_rmul repeat_list F.slot_int_index.lookup
    (call_meets F.slot_int_rmul (typeIs_int s k t) F.entry_int_rmul (F.args_int_rmul_2 _ _) (int___rmul___int_list k t l its.toArray n)
      ⟨e, rfl, ⟨_, e, rfl⟩, call_meets F.slot_list_mul ⟨_, e, rfl⟩ F.entry_list_mul (F.args_list_mul_2 _ _) (AutoListH.list___mul___list_int_3 l its.toArray n k t hfit hcap hlong) ⟨e, ?_⟩⟩)
  rw [hnew]
  exact ⟨.ref _, _, I.lnew (t' := s.toks) (r.rep k.toNat) (by rw [len_rep, Nat.mul_comm]; exact hz), rfl, q _ I.fresh⟩

/-! ### del xs[i] -/
theorem del_list {pins : List (Addr × Obj)} {s : Shared} {σ : St} {H : Hp} {l : Addr} {xs : List V} {i : Int} {t : Tok} {k : Nat} {Q : Unit → Shared → Prop} (I : Inv X pins σ H s) (hH : H l = some (.lst xs))
    (h1 : -(2 ^ 63) ≤ i) (h2 : i < 2 ^ 63) (hk : seqIndex? i xs.length = some k) (h : ∀ s', Inv X pins σ (upd H l (.lst (xs.eraseIdx k))) s' → Q () s') :
    wpAny (model X.prog X.w) X.A (delItem (.ref l) (.int i t)) Q X.xe s := by
  obtain ⟨z, its, n, r, hl, e⟩ := I.lstM hH
  refine PySem.P.delItem_list (k := k) e (fitsIndex_both h1 h2) (by rw [List.size_toArray, ← hl]; exact hk) (h _ ?_) (by rw [List.size_toArray]; omega)
  refine I.lset (its' := its.eraseIdx k) (t' := s.toks) hH e ?_ (r.eraseIdx k) ?_
  · show its.toArray.eraseIdxIfInBounds k = (its.eraseIdx k).toArray
    rw [List.eraseIdxIfInBounds_toArray]
  · have := len_erase xs k
    omega
end

/-! ### xs[a:b] = ys -/
section
variable {prog : Program} {w : World} {A : Around} {E : Value → Shared → Prop} {s : Shared}
theorem splice_eq (its its2 : List Value) (a c : Nat) : its.toArray.extract 0 a ++ its2.toArray ++ its.toArray.extract c its.toArray.size = (its.take a ++ its2 ++ its.drop c).toArray := by
  apply Array.toList_inj.mp
  first
    | (simp
       exact List.take_of_length_le (by simp))
    | simp [List.take_of_length_le]
    | simp
theorem bounds_run {a c n : Nat} (hac : a ≤ c) (hc : c ≤ n) : sliceBounds (some (a : Int)) (some (c : Int)) none n = ((a : Int), (c : Int), 1) := by
  simp only [sliceBounds, Option.getD_none]
  have h1 : ¬ ((a : Int) < 0) := by omega
  have h2 : ¬ ((c : Int) < 0) := by omega
  simp only [h1, h2, if_false, show (1 : Int) > 0 by decide, if_true]
  congr 1
  · omega
  · congr 1; omega
set_option maxRecDepth 100000 in
/-- list.__setitem__ with a slice of step one and another list -/
theorem setItem_slice {l b sl : Addr} {items new : Array Value} {n n2 : Nat} {vl vu : Value} {a c : Nat} {Q : Unit → Shared → Prop}
    (e : s.heap.get? l = some { cls := .type "list", data := .seq items n }) (e2 : s.heap.get? b = some { cls := .type "list", data := .seq new n2 }) (hne : l ≠ b)
    (hs : s.heap.IsSliceOf sl vl vu .none) (pl : IsPart vl (some (a : Int))) (pu : IsPart vu (some (c : Int))) (hac : a ≤ c) (hc : c ≤ items.size)
    (hsz : items.size + new.size ≤ sizeLine) (h : Q () { s with heap := s.heap.update l (Obj.mapSeq fun xs => xs.extract 0 a ++ new ++ xs.extract c xs.size) }) :
    wpAny (model prog w) A (setItem (.ref l) (.ref sl) (.ref b)) Q E s := by
  have hl : s.heap.IsList l items := PySem.IsL.isList e
  have hb : s.heap.IsList b new := PySem.IsL.isList e2
  obtain ⟨os, hos, hcs, hds⟩ := id hs
  have hTs : s.TypeIs (.ref sl) "slice" := ⟨os, hos, hcs⟩
  have hstep : ¬ ((rawPart none == rawInt 0) = true) := Bool.false_ne_true
  have hsame : Builtin.List.listSameRef (.ref l) (.ref b) = false := by
    unfold Builtin.List.listSameRef
    exact beq_eq_false_iff_ne.mpr hne
  have hmax : (max (a : Int) (c : Int)).toNat = c := by omega
  have hz' : ((fun xs : Array Value => xs.extract 0 a ++ new ++ xs.extract c xs.size) items).size ≤ sizeLine + 1 := by
    simp only [Array.size_append, Array.size_extract]
    omega
  unfold setItem
  try with_reducible refine wpAny_holding ?_
  first | refine wpAny_bind (wpAny_pure ?_) | skip
  refine wpAny_bind (wpAny_sequenceKey hl.typeIs (by decide) ?_)
  refine wpAny_bind (wpAny_callSpecial?_slot (name := Str.ofString "__setitem__") hl.typeIs slot_list_setitem
    (wpAny_call_entry slot_list_setitem hl.typeIs entry_list_setitem ?_ (args_list_setitem _ _ _)))
  show wpAny _ _ (Builtin.List.listSubscript? (.ref sl) >>= _) _ _ s
  refine wpAny_bind ?_
  unfold Builtin.List.listSubscript?
  refine wpAny_bind (wpAny_specialOf hTs slice_no_index ?_)
  simp only [Option.isNone_none, if_true]
  refine wpAny_pure ?_
  show wpAny _ _ (typeOf (.ref sl) >>= _) _ _ s
  refine wpAny_bind (wpAny_typeOf hTs ?_)
  first
    | rw [if_neg (by decide)]
    | refine PySem.W.KFB.if_not (by decide) ?_
  rw [listSliceParts_eq]
  refine wpAny_bind (wpAny_bind (wpAny_field hos hds (x := .none) rfl (wpAny_bind (wpAny_listPart .none ?_))))
  rw [if_neg hstep]
  refine wpAny_bind (wpAny_field hos hds (x := vl) rfl (wpAny_bind (wpAny_listPart pl ?_)))
  refine wpAny_bind (wpAny_field hos hds (x := vu) rfl (wpAny_bind (wpAny_listPart pu (wpAny_pure ?_))))
  first
    | simp only [hsame, Bool.false_eq_true, if_false]
    | refine PySem.W.KFB.if_not hsame ?_
    | (dsimp only
       rw [if_neg (by rw [hsame]; exact Bool.false_ne_true)])
  refine wpAny_bind (m := Builtin.List.listAllItems (.ref b) "must assign iterable to extended slice") ?_
  unfold Builtin.List.listAllItems
  refine wpAny_bind (wpAny_typeOf hb.typeIs ?_)
  first
    | refine PySem.W.KFB.if_so (by decide) ?_
    | rw [if_pos (by decide)]
    | simp only [beq_self_eq_true, Bool.true_or, if_true]
  unfold Builtin.List.listItems
  refine wpAny_bind (wpAny_seqItems e2 rfl (wpAny_pure ?_))
  refine wpAny_bind (wpAny_bind (wpAny_seqItems e rfl (wpAny_pure ?_)))
  refine wpAny_bind (wpAny_of_eq ((sliceIndices_raw (some (a : Int)) (some (c : Int)) none items.size (by simp)).trans (congrArg (pure : Int × Int × Int → Sem (Int × Int × Int)) (bounds_run hac hc))) ?_)
  show wpAny _ _ (if ((1 : Int) == 1) = true then _ else _) _ _ s
  rw [if_pos (by decide)]
  refine wpAny_bind (wpAny_rule ?_)
  first
    | simp only [notLongL hsz, Bool.false_eq_true, if_false]
    | refine PySem.W.KFB.if_not (notLongL hsz) ?_
  first | refine wpAny_bind (wpAny_pure ?_) | skip
  show wpAny _ _ (updateSeq l (fun xs => xs.extract 0 ((a : Int)).toNat ++ new ++ xs.extract (max (a : Int) (c : Int)).toNat xs.size) >>= _) _ _ s
  rw [hmax, Int.toNat_natCast]
  refine wpAny_bind (wpAny_updateSeq (hz := Nat.le_trans (Nat.le_add_right _ _) hsz) (_hz' := hz') e rfl ?_)
  refine wpAny_bind (wpAny_letGo ?_)
  first
    | exact wpAny_bind (wpAny_pure (wpAny_pure ⟨.none, rfl, wpAny_pure h⟩))
    | exact wpAny_pure ⟨.none, rfl, wpAny_pure h⟩
end

section
variable {X : Cx}
/-- xs[a:c] = ys of another list, at the value level: sl is the slice object that was just made -/
theorem set_slice {pins : List (Addr × Obj)} {s : Shared} {σ : St} {H : Hp} {l b sl : Addr} {xs ys : List V} {a c : Int} {vl vu : Value} {Q : Unit → Shared → Prop} (I : Inv X pins σ H s)
    (hH : H l = some (.lst xs)) (hB : H b = some (.lst ys)) (hne : l ≠ b) (hs : s.heap.IsSliceOf sl vl vu .none) (ra : RelV (.int a) vl) (rc : RelV (.int c) vu) (h0 : 0 ≤ a) (hac : a ≤ c) (hc : c ≤ xs.length)
    (hz : xs.length + ys.length ≤ sizeLine) (h : ∀ s', Inv X pins σ (upd H l (.lst (xs.take a.toNat ++ ys ++ xs.drop c.toNat))) s' → Q () s') :
    wpAny (model X.prog X.w) X.A (setItem (.ref l) (.ref sl) (.ref b)) Q X.xe s := by
  obtain ⟨ta, rfl⟩ := ra
  obtain ⟨tc, rfl⟩ := rc
  obtain ⟨z, its, n, r, hl, e⟩ := I.lstM hH
  obtain ⟨z2, its2, n2, r2, hl2, e2⟩ := I.lstM hB
  obtain ⟨a', rfl⟩ := Int.eq_ofNat_of_zero_le h0
  obtain ⟨c', rfl⟩ := Int.eq_ofNat_of_zero_le (Int.le_trans h0 hac)
  simp only [Int.toNat_natCast] at h
  refine setItem_slice (a := a') (c := c') e e2 hne hs (.int _ _) (.int _ _) (by omega) (by rw [List.size_toArray]; omega) (by rw [List.size_toArray, List.size_toArray]; omega) (h _ ?_)
  refine I.lset (its' := its.take a' ++ its2 ++ its.drop c') (t' := s.toks) hH e ?_ (Vals.append (Vals.append (r.take _) r2) (r.drop _)) ?_
  · exact splice_eq its its2 a' c'
  · rw [List.length_append, List.length_append, List.length_take, List.length_drop]
    omega
end
end L2

namespace Att
open PySem PySem.W PySem.Calls PyProof.Rows

/-! ### the script -/
theorem ints_of_wellAll {P : Params} {h : Heap} : ∀ (ns : List Int) (vs : List Value), WellAll P h vs (ns.map WData.int) → IntsAre vs ns := by
  intro ns
  induction ns with
  | nil =>
    intro vs w
    rw [List.map_nil] at w
    cases w
    exact .nil
  | cons n ns ih =>
    intro vs w
    rw [List.map_cons] at w
    cases w with
    | cons a b =>
      cases a
      exact .cons _ _ (ih _ b)

theorem script_of {l : OpenLaw} {n : Nat} (hn : l.most = some n) {P : Params} {h : Heap} {args : List WData} {vals : List Value}
    (hpre : l.row.toRowW.claim.pre args = true) (hwl : WellAll P h vals args) :
    ∃ a vs ns, vals = [Value.ref a] ∧ args = [WData.list (ns.map WData.int)] ∧ h.get? a = some { cls := .type "list", data := .seq vs.toArray } ∧ IntsAre vs ns ∧ ns.length ≤ n := by
  have hsh : WShape.hasAll [] args [.list .int] = true := (pre_splitW hpre).1
  have hc : l.pre.holds [] { args := args } = true := (pre_splitW hpre).2
  obtain ⟨d, r, rfl, h1, h2⟩ := hasAllW_cons hsh
  obtain rfl := hasAllW_nil h2
  obtain ⟨xs, rfl, h3⟩ := hasW_list h1
  obtain ⟨ns, rfl⟩ := items_int h3
  have hlen : ns.length ≤ n := by
    unfold OpenLaw.pre at hc
    have h4 : (WTm.not (.lt (.lit (.int (n : Int))) (.len (.arg 0)))).holds [] { args := [.list (ns.map .int)] } = true := by
      have h4 := (holds_andW hc).1
      rw [hn] at h4
      exact h4
    have h5 := condW_of h4 (w_not (w_lt w_lit (w_len_list (w_arg rfl))))
    rw [List.length_map] at h5
    refine Nat.le_of_not_lt fun q => ?_
    have q' : (n : Int) < ((ns.length : Nat) : Int) := by omega
    first
      | (rw [decide_eq_true q'] at h5; exact absurd h5 (by decide))
      | (simp at h5; omega)
  cases hwl with
  | cons w1 w2 =>
    cases w2
    cases w1 with
    | list ho hall => exact ⟨_, _, ns, rfl, rfl, ho, ints_of_wellAll ns _ hall, hlen⟩

theorem post_true (l : OpenLaw) (args : List WData) : l.row.toRowW.claim.post args (.bool true) args = true :=
  postW_of (r := l.row.toRowW) (X := (true == true))
    (show WShape.has [] (.bool true) .bool = true by first | rfl | decide | simp [WShape.has, WShape.arms, WShape.armsAll])
    (show (WTm.eq .res (.lit (.bool true))).value [] { args := args, res := some (.bool true), after := args } = some (.bool (true == true)) from w_eq_bool (w_res rfl) w_lit) rfl

/-! ### the attachment: holds_open's last premise (the goal 'hc' behind k_head) from a wpAny of the law's body -/
theorem attach {l : OpenLaw} {n : Nat} {q : Program} {loose : List Str} {XP : (Str → Option Value) → Heap → Prop} {YP : World → Heap → Prop} {d : DefRec} {x : Str}
    (hn : l.most = some n) (hdf : d.params.defaults = [])
    (hbind : ∀ pm cd doc v : Value, bindArgs (docDef d.name d.params d.body d.scope pm cd doc) ⟨[v], []⟩ = pure [(x, v)])
    (hx : d.scope.names.lookup x = some .local ∨ d.scope.names.lookup x = some .cell)
    (hk : d.scope.kind = .function) (hco : d.scope.isCoroutine = false) (hgen : d.scope.isGenerator = false)
    (body : ∀ (w : World) (s₀ s₁ s : Shared) (mg mb : Str → Option Value) (fa : Addr) (o : Obj) (pm cd doc : Value) (a : Addr) (vs : List Value) (ns : List Int),
      Ground q loose [] XP w s₀ mg mb s₁.heap → YP w s₁.heap →
      s₁.heap.get? fa = some o → o.data = .func (docDef d.name d.params d.body d.scope pm cd doc) → s₁.heap.CodeRec cd d.name → mg d.name = some (.ref fa) →
      s₁.heap.get? a = some { cls := .type "list", data := .seq vs.toArray } → IntsAre vs ns → ns.length ≤ n →
      s.gens = #[] → s.os = s₁.os →
      Fr s₁.heap s₁.heap.objs.size s.heap (bindL (envOfC d.name d.scope s₁.heap.objs.size fa cd).kindOf [(x, .ref a)] fun _ => none) →
      Cl s₁.heap.objs.size (cellsFrom (s₁.heap.objs.size + 1) d.scope.names []) s.heap (bindC (envOfC d.name d.scope s₁.heap.objs.size fa cd).kindOf [(x, .ref a)] fun _ => none) →
      wpAny (model l.prog w) (callerA.deeper (envOfC d.name d.scope s₁.heap.objs.size fa cd)) (execs d.body (envOfC d.name d.scope s₁.heap.objs.size fa cd))
        (fun f s' => f = .ret (.bool true) ∧ OldK s₁.heap s'.heap ∧ s'.os = s₁.os ∧ AllBare s'.gens) (fun _ _ => False) s) :
    WalkO q loose XP YP l.row.toRowW d [] (fun f vs => PySem.call f vs) := by
  intro w s₀ s₁ mg mb G Y fa o pm cd doc dV kV ho hd hcd hD hmg hg args vals as hpre hlay hrd hwl hlo
  obtain rfl : dV = .none := Dflts.none hD hdf
  obtain rfl : kV = .none := Dflts.noKw hD
  obtain ⟨a, vs, ns, rfl, rfl, hobj, hints, hlen⟩ := script_of hn hpre hwl
  refine enter_call ?_
  refine call_cells_ret (o := o) (by rw [depth_caller]; decide) ho (fd_plain hd) G.T.nolimit hcd (hbind pm cd doc (.ref a)) (fun y hy => ?_) (fun h₁ tk F X => ?_) hco hgen hk
  · obtain rfl : y = (x, Value.ref a) := List.mem_singleton.mp hy
    rcases hx with e | e
    · exact .inl e
    · exact .inr ⟨e, cellsFrom_some _ _ _ (.inl e)⟩
  · refine wpAny_mono (body w s₀ s₁ { s₁ with heap := h₁, toks := tk } mg mb fa o pm cd doc a vs ns G Y ho (fd_plain hd) hcd hmg hobj hints hlen hg rfl F X) (fun f s' hq => ?_) (fun _ _ hq => hq)
    obtain ⟨rfl, h2, h3, h4⟩ := hq
    exact ⟨.inl ⟨.bool true, .bool true, [], rfl, fun _ => rfl, .bool true, post_true l _, fun _ => ⟨List.Pairwise.nil, fun _ hm => (nomatch hm)⟩⟩, h2, h3, h4⟩

/-- the same from a codeAny of the CALL (for a layer whose function contracts speak of calls) -/
theorem attach_call {l : OpenLaw} {n : Nat} {q : Program} {loose : List Str} {XP : (Str → Option Value) → Heap → Prop} {YP : World → Heap → Prop} {d : DefRec}
    (hn : l.most = some n) (hdf : d.params.defaults = [])
    (call : ∀ (w : World) (s₀ s₁ : Shared) (mg mb : Str → Option Value) (fa : Addr) (o : Obj) (pm cd doc : Value) (a : Addr) (vs : List Value) (ns : List Int),
      Ground q loose [] XP w s₀ mg mb s₁.heap → YP w s₁.heap →
      s₁.heap.get? fa = some o → o.data = .func (docDef d.name d.params d.body d.scope pm cd doc) → s₁.heap.CodeRec cd d.name → mg d.name = some (.ref fa) →
      s₁.heap.get? a = some { cls := .type "list", data := .seq vs.toArray } → IntsAre vs ns → ns.length ≤ n → s₁.gens = #[] →
      codeAny (model l.prog w) callerA (.call (.ref fa) ⟨[.ref a], []⟩) (fun r s' => r = .ok (.ret (.bool true)) ∧ OldK s₁.heap s'.heap ∧ s'.os = s₁.os ∧ AllBare s'.gens) s₁) :
    WalkO q loose XP YP l.row.toRowW d [] (fun f vs => PySem.call f vs) := by
  intro w s₀ s₁ mg mb G Y fa o pm cd doc dV kV ho hd hcd hD hmg hg args vals as hpre hlay hrd hwl hlo
  obtain rfl : dV = .none := Dflts.none hD hdf
  obtain rfl : kV = .none := Dflts.noKw hD
  obtain ⟨a, vs, ns, rfl, rfl, hobj, hints, hlen⟩ := script_of hn hpre hwl
  refine enter_call (codeAny_mono (call w s₀ s₁ mg mb fa o pm cd doc a vs ns G Y ho (fd_plain hd) hcd hmg hobj hints hlen hg) fun r s' hq => ?_)
  obtain ⟨rfl, h2, h3, h4⟩ := hq
  exact ⟨.inl ⟨.bool true, .bool true, [], rfl, fun _ => rfl, .bool true, post_true l _, fun _ => ⟨List.Pairwise.nil, fun _ hm => (nomatch hm)⟩⟩, h2, h3, h4⟩

/-- the same where the top left finished generators (o_head chose holds_openN): nothing may have changed at all and no generator may be left -/
theorem attachN {l : OpenLaw} {n : Nat} {q : Program} {loose : List Str} {XP : (Str → Option Value) → Heap → Prop} {YP : World → Heap → Prop} {d : DefRec} {x : Str}
    (hn : l.most = some n) (hdf : d.params.defaults = [])
    (hbind : ∀ pm cd doc v : Value, bindArgs (docDef d.name d.params d.body d.scope pm cd doc) ⟨[v], []⟩ = pure [(x, v)])
    (hx : d.scope.names.lookup x = some .local ∨ d.scope.names.lookup x = some .cell)
    (hk : d.scope.kind = .function) (hco : d.scope.isCoroutine = false) (hgen : d.scope.isGenerator = false)
    (body : ∀ (w : World) (s₀ s₁ s : Shared) (mg mb : Str → Option Value) (fa : Addr) (o : Obj) (pm cd doc : Value) (a : Addr) (vs : List Value) (ns : List Int),
      Ground q loose [] XP w s₀ mg mb s₁.heap → YP w s₁.heap →
      s₁.heap.get? fa = some o → o.data = .func (docDef d.name d.params d.body d.scope pm cd doc) → s₁.heap.CodeRec cd d.name → mg d.name = some (.ref fa) →
      s₁.heap.get? a = some { cls := .type "list", data := .seq vs.toArray } → IntsAre vs ns → ns.length ≤ n →
      s.gens = #[] → s.os = s₁.os →
      Fr s₁.heap s₁.heap.objs.size s.heap (bindL (envOfC d.name d.scope s₁.heap.objs.size fa cd).kindOf [(x, .ref a)] fun _ => none) →
      Cl s₁.heap.objs.size (cellsFrom (s₁.heap.objs.size + 1) d.scope.names []) s.heap (bindC (envOfC d.name d.scope s₁.heap.objs.size fa cd).kindOf [(x, .ref a)] fun _ => none) →
      wpAny (model l.prog w) (callerA.deeper (envOfC d.name d.scope s₁.heap.objs.size fa cd)) (execs d.body (envOfC d.name d.scope s₁.heap.objs.size fa cd))
        (fun f s' => f = .ret (.bool true) ∧ (∀ b o, s₁.heap.get? b = some o → s'.heap.get? b = some o) ∧ s'.os = s₁.os ∧ s'.gens = #[]) (fun _ _ => False) s) :
    WalkN q loose XP YP l.row.toRowW d [] (fun f vs => PySem.call f vs) := by
  intro w s₀ s₁ mg mb G Y fa o pm cd doc dV kV ho hd hcd hD hmg hg args vals as hpre hlay hrd hwl hlo
  obtain rfl : dV = .none := Dflts.none hD hdf
  obtain rfl : kV = .none := Dflts.noKw hD
  obtain ⟨a, vs, ns, rfl, rfl, hobj, hints, hlen⟩ := script_of hn hpre hwl
  refine enter_callW ?_
  refine call_cells_ret (o := o) (by rw [depth_caller]; decide) ho (fd_plain hd) G.T.nolimit hcd (hbind pm cd doc (.ref a)) (fun y hy => ?_) (fun h₁ tk F X => ?_) hco hgen hk
  · obtain rfl : y = (x, Value.ref a) := List.mem_singleton.mp hy
    rcases hx with e | e
    · exact .inl e
    · exact .inr ⟨e, cellsFrom_some _ _ _ (.inl e)⟩
  · refine wpAny_mono (body w s₀ s₁ { s₁ with heap := h₁, toks := tk } mg mb fa o pm cd doc a vs ns G Y ho (fd_plain hd) hcd hmg hobj hints hlen hg rfl F X) (fun f s' hq => ?_) (fun _ _ hq => hq)
    obtain ⟨rfl, h2, h3, h4⟩ := hq
    exact ⟨.inl ⟨.bool true, .bool true, [], rfl, fun _ => rfl, .bool true, post_true l _, fun _ => ⟨List.Pairwise.nil, fun _ hm => (nomatch hm)⟩⟩, h2, h3, h4⟩

/-! ### rules over ANY heap (no ledger) from facts about the written part K: the library's own take a ledger (News) for what they write -/
section
variable {prog : Program} {w : World} {A : Around} {E : Value → Shared → Prop} {s : Shared} {K : Frag}

/-- a def of the module, or a method (qual 'C.m'), entered: the frame is the next address; cells behind it -/
theorem call_fn {R : Result → Shared → Prop} {name qual : Str} {params : Arguments} {body : List Stmt} {scope : Scope} {dV kV doc pm cdv ct oc : Value} {an od : Option Addr} {osl : Array (Option Value)} {f : Addr} {args : Args} {binds : List (Str × Value)}
    (X : K.In s.heap) (hlim : s.heap.NoLimit) (ho : K.lookup f = some ⟨oc, od, .func (fnOf name qual params body scope dV kV doc pm an cdv ct), osl⟩) (hcd : codeIn K cdv qual = true) (hroom : A.depth < recursionLimit)
    (hbind : BindsTo s (fnOf name qual params body scope dV kV doc pm an cdv ct) args binds)
    (hkind : (binds.all fun y => scope.names.lookup y.1 == some .local || scope.names.lookup y.1 == some .cell) = true)
    (h : ∀ s₁, InCallC s s.heap.objs.size (bindL (envOfC qual scope s.heap.objs.size f cdv).kindOf binds fun _ => none) (cellsFrom (s.heap.objs.size + 1) scope.names [])
        (bindC (envOfC qual scope s.heap.objs.size f cdv).kindOf binds fun _ => none) s₁ →
      wpAny (model prog w) (A.deeper (envOfC qual scope s.heap.objs.size f cdv)) (execs body (envOfC qual scope s.heap.objs.size f cdv))
        (fun fl s' => R (.ok (.ret (match fl with | .ret v => v | _ => .none))) s')
        (fun e s' => wpAny (model prog w) (A.deeper (envOfC qual scope s.heap.objs.size f cdv)) (leaving (envOfC qual scope s.heap.objs.size f cdv) e) (fun _ s'' => R (.error e) s'') (fun e' s'' => R (.error e') s'') s') s₁)
    (hco : scope.isCoroutine = false) (hgen : scope.isGenerator = false) (hk : scope.kind = .function) : codeAny (model prog w) A (.call (.ref f) args) R s := by
  refine codeAny_call_function hroom (X _ _ ho) rfl hco hgen rfl (codeRec_of X hcd) (hbind _ _ _ _ ?_)
  refine wpAny_newFunctionEnv_cells hk (kindsX hkind _) fun env he s₁ x => ?_
  subst he
  exact ⟨hlim.keeps x.toInCall.keep, codeAny_func (h s₁ x)⟩

/-- C(..): dict at size, instance at size + 1, then __init__ -/
theorem make_obj {R : Result → Shared → Prop} {C fI : Addr} {rest : List Value} {kw : List (Str × Value)}
    (X : K.In s.heap) (hm : makesIn K C = true) (hi : findIn K (.ref C) "__init__" = some (some (.ref fI))) (hf : isFn K (.ref fI) = true)
    (h : codeAny (model prog w) (A.under (.builtin "type.__call__" ⟨.ref C :: rest, kw⟩)) (.call (.ref fI) ⟨.ref (s.heap.objs.size + 1) :: rest, kw⟩) (InitBack (s.heap.objs.size + 1) R)
      { s with heap := (s.heap.push emptyDict).push (instObj C s.heap.objs.size) }) : codeAny (model prog w) A (.call (.ref C) ⟨rest, kw⟩) R s := by
  obtain ⟨hh, g, d, t, os⟩ := s
  exact make_core (makes_of X hm) (looks_findIn X hi) (fun self => bind_fn X self (beq_iff_eq.mp hf)) (.inl rfl) h

/-- x.name where the instance's dict holds the name and the class does not -/
theorem get_field {x C : Addr} {ox : Obj} {es : List DictEntry} {n : Nat} {name : Str} {expr : Bool} {v : Value} {Q : Value → Shared → Prop}
    (X : K.In s.heap) (I : PySem.W.InstAt s.heap x ox C (some (dictOf es n))) (hg : plainGet K C name = true) (hh : hasDictIn K C = true) (ha : findIn K (.ref C) name = some none)
    (hl : getL name es = some (some v)) (hv : handedIn v = true) (h : Q v { s with toks := s.toks + 1 }) : wpAny (model prog w) A (getAttr (.ref x) name expr) Q E s :=
  get_value X I (plainGet_of hg).1 (findObj_own hh ha rfl hl) hv h

/-- x.m(..): the method found in the class -/
theorem get_method {x C f : Addr} {ox : Obj} {es : List DictEntry} {n : Nat} {name : Str} {pl : Sem Bool} {Q : Value × List Value → Shared → Prop}
    (X : K.In s.heap) (I : PySem.W.InstAt s.heap x ox C (some (dictOf es n))) (hg : plainGet K C name = true) (hf : findIn K (.ref C) name = some (some (.ref f))) (ht : isFn K (.ref f) = true)
    (hl : getL name es = some none) (h : Q (.ref f, [.ref x]) s) : wpAny (model prog w) A (getMethod (.ref x) name pl) Q E s :=
  method_fn X I (plainGet_of hg).1 (plainGet_of hg).2 hf (beq_iff_eq.mp ht) (by show (lookIn name (dictOf es n)).map _ = _; rw [lookIn_dict, hl]; rfl) h

/-! the whole heap as the ledger: makes every rule that writes through a ledger a rule over any heap -/
def noObjs (h : Heap) : Heap := { h with objs := #[] }
theorem noObjs_get (h : Heap) (b : Addr) : (noObjs h).get? b = none := by
  cases e : (noObjs h).get? b with
  | none => rfl
  | some o => exact absurd (Heap.lt_size e) (Nat.not_lt_zero _)
def ledger (h : Heap) (L d : Addr) : List (Addr × Obj) := (List.range h.objs.size).filterMap fun a => if a = L ∨ a = d then none else (h.get? a).map fun o => (a, o)
theorem mem_ledger {h : Heap} {L d a : Addr} {o : Obj} : (a, o) ∈ ledger h L d ↔ a ≠ L ∧ a ≠ d ∧ h.get? a = some o := by
  unfold ledger
  rw [List.mem_filterMap]
  constructor
  · rintro ⟨b, _, e⟩
    split at e
    · cases e
    · rename_i hb
      obtain ⟨o', ho, e'⟩ := Option.map_eq_some_iff.mp e
      cases e'
      exact ⟨fun q => hb (.inl q), fun q => hb (.inr q), ho⟩
  · rintro ⟨n1, n2, ho⟩
    refine ⟨a, List.mem_range.mpr (Heap.lt_size ho), ?_⟩
    rw [if_neg (show ¬ (a = L ∨ a = d) from fun q => q.elim n1 n2), ho] <;> rfl
theorem news_ledger {h : Heap} {L d : Addr} {od : Obj} (hne : d ≠ L) (ho : h.get? d = some od) : News (noObjs h) L h ([] ++ (d, od) :: ledger h L d) := by
  rintro ⟨a, o⟩ hp
  rcases List.mem_cons.mp hp with e | hp
  · cases e
    exact ⟨ho, hne, noObjs_get _ _⟩
  · obtain ⟨n1, n2, e⟩ := mem_ledger.mp hp
    exact ⟨e, n1, noObjs_get _ _⟩
theorem fr_all {h : Heap} {L : Addr} {m : Str → Option Value} (n : h.Ns L m) : Fr (noObjs h) L h m :=
  ⟨n, fun b o e => (by rw [noObjs_get] at e; cases e), Nat.zero_le _⟩
/-- Upd of the head entry (for append_K, setItem_K ..) -/
theorem upd_ledger {h : Heap} {L d : Addr} {o o' : Obj} : Upd d o o' ((d, o) :: ledger h L d) ((d, o') :: ledger h L d) :=
  .head fun ⟨_, _⟩ hp => (mem_ledger.mp hp).2.1

/-- x.name = v over any heap: L is any namespace of the heap (the frame's, say): its map stays, its object is not told; all else but the dict stays -/
theorem set_field {x C dx L : Addr} {ox : Obj} {m : Str → Option Value} {es es' : List DictEntry} {n n' : Nat} {name : Str} {v : Value} {Q : Unit → Shared → Prop}
    (X : K.In s.heap) (I : PySem.W.InstAt s.heap x ox C (some (dictOf es n))) (hd : ox.dict = some dx) (hL : s.heap.Ns L m) (hne : dx ≠ L)
    (hs : findIn K (.ref C) "__setattr__" = some (some (.builtin "object.__setattr__"))) (hp : plainOver K C = true) (ht : takerIn K C name = some none) (hh : hasDictIn K C = true) (hl : (getL name es).isSome = true)
    (e : (putL name (PyData.keyHash w.params name) (.str name (s.toks + 1)) v es, putN name es n) = (es', n')) (hz : es'.length ≤ 1000)
    (h : ∀ h' : Heap, h'.Ns L m → h'.get? dx = some (dictOf es' n') → (∀ b o, b ≠ dx → b ≠ L → s.heap.get? b = some o → h'.get? b = some o) → Q () { s with heap := h', toks := s.toks + 2 }) :
    wpAny (model prog w) A (setAttr (.ref x) name v) Q E s := by
  obtain ⟨e1, e2⟩ := Prod.mk.inj e
  have hdx : s.heap.get? dx = some (dictOf es n) := by
    have := I.dict
    rw [hd] at this
    exact this
  refine set_plain X I hs (osa_dict (s := { s with toks := s.toks + 1 }) (h₀ := noObjs s.heap) (L := L) (m := m) (od := dictOf es n) (od' := dictOf es' n') (es := es') (n := n') (pre := []) (post := ledger s.heap L dx)
    (fr_all hL) (news_ledger hne hdx) X I hd hp ht hh hl (fun _ q => nomatch q) (fun ⟨_, _⟩ q => (mem_ledger.mp q).2.1) (by rw [putName_dict, e1, e2]) rfl hz fun h' F' N' => ?_)
  exact h h' F'.ns (N'.get (List.Mem.head _)) fun b o n1 n2 ho => N'.get (List.Mem.tail _ (mem_ledger.mpr ⟨n2, n1, ho⟩))
end
end Att

namespace L2
open PySem PySem.Spec PyProof.Rows

theorem vals_ints : ∀ {vs : List Value} {ns : List Int}, IntsAre vs ns → Vals (ns.map V.int) vs
  | _, _, .nil => .nil
  | _, _, .cons n t h => .cons ⟨t, rfl⟩ (vals_ints h)

/-- nothing is tracked but the script, known to the object (or it is an object of the module) -/
def Only (H : Hp) : Prop := ∀ b, H b = none ∨ ∃ o xs, H b = some (.frz o (.lst xs))

/-- THE HEAD: the law's promise, at the heap behind the top. F, the promise of the law's def, may use that base is part of the heap (so K.In base, base.Ns mainGlobals mg stand in Mod) -/
theorem law_call {P : Program} {w : World} {K : PySem.W.Frag} {mg mb : Str → Option Value} {CX : CXT} {k : Nat} {fa a : Addr} {fd : FuncData} {x : Str} {sp : Sp} {s₁ : Shared} {vs : List Value} {ns : List Int}
    (KX : K.In s₁.heap) (hns : s₁.heap.Ns mainGlobals mg) (hb : s₁.heap.Ns builtinsNs mb) (hbb : ∀ x : Str, x ≠ "__name__" → mb x = bootBuiltins x) (hlim : s₁.heap.NoLimit) (hg : s₁.gens = #[])
    (ha : s₁.heap.get? a = some { cls := .type "list", data := .seq vs.toArray }) (hi : IntsAre vs ns) (hl : ns.length ≤ sizeLine) (hr : Room k callerA)
    (F : ∀ base : Heap, K.In base → base.Ns mainGlobals mg → FnOk P w K mg base CX k fa fd [x] sp) (hbind : ∀ (s : Shared) (u : Value), BindsTo s fd ⟨[u], []⟩ [(x, u)])
    (hsp : ∀ H : Hp, Only H → SqL K H a (ns.map V.int) → sp [.ref a] H (fun v _ => v = .bl true) fun _ _ _ => False)
    (hCX : ∀ H e s', CX [] H s₁ (fun _ _ _ => False) e s' → False) :
    codeAny (model P w) callerA (.call (.ref fa) ⟨[.ref a], []⟩) (fun r s' => r = .ok (.ret (.bool true)) ∧ OldK s₁.heap s'.heap ∧ s'.os = s₁.os ∧ AllBare s'.gens) s₁ := by
  have rv := vals_ints hi
  have lenV := hi.length
  -- from an abstract heap in which nothing but the script may be tracked
  have core : ∀ H : Hp, Only H → SqL K H a (ns.map V.int) → HOk P w H s₁.heap → (∀ b, H b ≠ none → b = a) → (H a ≠ none → K.lookup a = none) →
      codeAny (model P w) callerA (.call (.ref fa) ⟨[.ref a], []⟩) (fun r s' => r = .ok (.ret (.bool true)) ∧ OldK s₁.heap s'.heap ∧ s'.os = s₁.os ∧ AllBare s'.gens) s₁ := by
    intro H hO hS hok hA hK
    have base_of : ∀ {b : Addr} {o : Obj}, s₁.heap.get? b = some o → H b = none → (hidT s₁.heap H).get? b = some o := fun e n => hidT_get e n
    have noA : ∀ {b : Addr} {o : Obj} {es : Array DictEntry} {ep : Nat}, s₁.heap.get? b = some o → o.data = .dict es ep → H b = none := fun {b o es ep} e d => by
      cases q : H b with
      | none => rfl
      | some u =>
        have e' : b = a := hA b (by rw [q]; simp)
        subst e'
        rw [ha] at e; cases e
        have d' : Data.seq vs.toArray _ = Data.dict es ep := d
        cases d'
    have nsK : ∀ {b : Addr} {m : Str → Option Value}, s₁.heap.Ns b m → (hidT s₁.heap H).Ns b m := fun {b m} ⟨o, es, ep, e, d, r⟩ => ⟨o, es, ep, base_of e (noA e d), d, r⟩
    have hKb : K.In (hidT s₁.heap H) := fun b o e => base_of (KX b o e) (by
      cases q : H b with
      | none => rfl
      | some u =>
        have e' : b = a := hA b (by rw [q]; simp)
        subst e'
        rw [hK (by rw [q]; simp)] at e; cases e)
    have hM : Mod K mg (hidT s₁.heap H) := ⟨hKb, nsK hns, ⟨mb, nsK hb, hbb⟩, let ⟨mc, h1, h2⟩ := hlim; ⟨mc, nsK h1, h2⟩⟩
    have e0 : Env0 P w K mg (hidT s₁.heap H) callerA [] s₁ H := ⟨rfl, hM, fun b o e => of_hidT e, Nat.le_of_eq (hidT_size _ _), trivial, fun b hb => absurd (show b ∈ ([] : List Addr) from hb) (by simp), hok, .of_eq hg⟩
    refine codeAny_mono ((F _ hKb (nsK hns)).run callerA [] s₁ H ⟨[.ref a], []⟩ [.ref a] [.ref a] _ _ hr e0 (hbind s₁ (.ref a)) (.cons rfl .nil) (hsp H hO hS)) fun r s' h => ?_
    cases r with
    | error e => exact (hCX H e s' h).elim
    | ok fl =>
      cases fl with
      | next => exact False.elim h
      | brk => exact False.elim h
      | cont => exact False.elim h
      | ret u =>
        obtain ⟨v, H', os, bare, un, hok', r', q⟩ := h
        have q' : v = .bl true := q
        subst q'
        obtain rfl : u = Value.bool true := r'
        refine ⟨rfl, OldK.of_keep fun b o e => ?_, os, bare⟩
        cases q : H b with
        | none => exact un.keep b o e q (by intro z; exact absurd (show b ∈ ([] : List Addr) from z) (by simp)) (by simp)
        | some u =>
          rcases hO b with z | ⟨ob, xs, z⟩
          · rw [q] at z; cases z
          · have z2 := un.frzs b ob _ z
            obtain ⟨e1, _⟩ := hok b _ z
            obtain ⟨e2, _⟩ := hok' b _ z2
            rw [e] at e1; cases e1
            exact e2
  cases hk : K.lookup a with
  | some o =>
    -- the script is one of the module's own objects
    have e := KX a o hk
    rw [ha] at e
    cases e
    refine core (fun _ => none) (fun _ => .inl rfl) (.inr ⟨_, vs.toArray, _, hk, rfl, rfl, rfl, by rw [List.size_toArray, lenV]; exact hl, by simpa using rv⟩) (fun b u z => by have z' : (none : Option HO) = some u := z; cases z') (fun b z => absurd rfl z) fun z => absurd rfl z
  | none =>
    refine core (fun b => if b = a then some (.frz { cls := .type "list", data := .seq vs.toArray } (.lst (ns.map V.int))) else none) (fun b => ?_) (.inl (.inr ⟨{ cls := .type "list", data := .seq vs.toArray }, if_pos rfl⟩)) (fun b u z => ?_) (fun b z => ?_) fun _ => hk
    · by_cases hb : b = a
      · exact .inr ⟨_, _, if_pos hb⟩
      · exact .inl (if_neg hb)
    · by_cases hb : b = a
      · have z' := (if_pos hb).symm.trans z
        cases z'
        subst hb
        exact ⟨ha, by rw [List.length_map]; exact hl, vs, _, rv, ha⟩
      · have z' := (if_neg hb).symm.trans z
        cases z'
    · by_cases hb : b = a
      · exact hb
      · exact absurd (if_neg hb) z
end L2

namespace L2
open PySem PySem.Spec PyProof.Rows

abbrev KOf {K : PySem.W.Frag} {h : Heap} (_ : K.In h) : PySem.W.Frag := K

/-- the goal that k_head leaves (case hc), from the law's promise. F gives the function object fd (K's own) once, then the promise over every base -/
theorem walk_of {l : PySem.W.OpenLaw} {n k : Nat} {q : Program} {loose : List Str} {XP : (Str → Option Value) → Heap → Prop} {YP : World → Heap → Prop} {d : DefRec} {K : Params → PySem.W.Frag} {CX : World → CXT} {sp : World → Sp} {x : Str}
    (hn : l.most = some n) (hn2 : n ≤ sizeLine) (hdf : d.params.defaults = []) (hr : Room k callerA)
    (hY : ∀ (w : World) (h : Heap), YP w h → (K w.params).In h)
    (F : ∀ (w : World) (mg : Str → Option Value) (fa : Addr) (h : Heap), (K w.params).In h → h.Ns mainGlobals mg → mg d.name = some (.ref fa) →
      ∃ fd : FuncData, (∀ (s : Shared) (u : Value), BindsTo s fd ⟨[u], []⟩ [(x, u)]) ∧
        ∀ base : Heap, (K w.params).In base → base.Ns mainGlobals mg → FnOk l.prog w (K w.params) mg base (CX w) k fa fd [x] (sp w))
    (hsp : ∀ (w : World) (H : Hp) (a : Addr) (ns : List Int), ns.length ≤ n → Only H → SqL (K w.params) H a (ns.map V.int) → sp w [.ref a] H (fun v _ => v = .bl true) fun _ _ _ => False)
    (hCX : ∀ (w : World) (H : Hp) (s : Shared) (e : Value) (s' : Shared), CX w [] H s (fun _ _ _ => False) e s' → False) :
    PySem.W.WalkO q loose XP YP l.row.toRowW d [] (fun f vs => PySem.call f vs) := by
  refine Att.attach_call hn hdf fun w s₀ s₁ mg mb fa o pm cd doc a vs ns G Y ho hd hcd hmg hobj hints hlen hg => ?_
  have KX := hY w _ Y
  obtain ⟨fd, hb, hF⟩ := F w mg fa _ KX G.T.g hmg
  exact law_call KX G.T.g G.T.b G.T.builtins G.T.nolimit hg hobj hints (Nat.le_trans hlen hn2) hr hF hb (fun H hO hS => hsp w H a ns hlen hO hS) fun H e s' => hCX w H s₁ e s'
/-- the same where the promise hangs on the written part alone: (sp := My.sp_law), no hole under a binder -/
theorem walk_ofK {l : PySem.W.OpenLaw} {n k : Nat} {q : Program} {loose : List Str} {XP : (Str → Option Value) → Heap → Prop} {YP : World → Heap → Prop} {d : DefRec} {K : Params → PySem.W.Frag} {CX : CXT} {sp : PySem.W.Frag → Sp} {x : Str}
    (hn : l.most = some n) (hn2 : n ≤ sizeLine) (hdf : d.params.defaults = []) (hr : Room k callerA)
    (hY : ∀ (w : World) (h : Heap), YP w h → (K w.params).In h)
    (F : ∀ (w : World) (mg : Str → Option Value) (fa : Addr) (h : Heap), (K w.params).In h → h.Ns mainGlobals mg → mg d.name = some (.ref fa) →
      ∃ fd : FuncData, (∀ (s : Shared) (u : Value), BindsTo s fd ⟨[u], []⟩ [(x, u)]) ∧
        ∀ base : Heap, (K w.params).In base → base.Ns mainGlobals mg → FnOk l.prog w (K w.params) mg base CX k fa fd [x] (sp (K w.params)))
    (hsp : ∀ (K : PySem.W.Frag) (H : Hp) (a : Addr) (ns : List Int), ns.length ≤ n → Only H → SqL K H a (ns.map V.int) → sp K [.ref a] H (fun v _ => v = .bl true) fun _ _ _ => False)
    (hCX : ∀ (H : Hp) (s : Shared) (e : Value) (s' : Shared), CX [] H s (fun _ _ _ => False) e s' → False) :
    PySem.W.WalkO q loose XP YP l.row.toRowW d [] (fun f vs => PySem.call f vs) :=
  walk_of (K := K) (CX := fun _ => CX) (sp := fun w => sp (K w.params)) hn hn2 hdf hr hY F (fun w H a ns h1 h2 h3 => hsp (K w.params) H a ns h1 h2 h3) fun _ H s e s' => hCX H s e s'
end L2

/- THE LAST THEOREM (shape; LID, My.* are yours):
   My.Adr: a structure of the addresses that your layer names (classes, functions); My.Txt K t: a structure (Prop) of the equations over K;
   My.txt_mk : {K} {implicit addresses ..} (e1 : nsIn K mainGlobals "law" = some (some (.ref f))) (e2 : K.lookup f = some ⟨oc, od, .func (fnOf "law" "law" params body scope dV kV doc pm an cdv ct), sl⟩) (e3 : codeIn K cdv "law" = true) .. : ∃ t, My.Txt K t

set_option maxRecDepth 100000 in
set_option maxHeartbeats 0 in
theorem PySem.Challenge.cw_LID_holds : PySem.Challenge.rw_LID.Holds := by
  w_on; o_law; k_head; (case hw => w_witness2)
  k_fill
  refine L2.walk_of (l := PySem.Challenge.rw_LID) (n := 63) (k := 40) (x := "script") (CX := fun w => ..) (sp := fun _ => My.sp_law) rfl (by decide) rfl ⟨rfl, by decide, by decide⟩ (fun w h Y => PySem.W.kIn_of Y) ?F ?S ?C
  case F =>
    intro w mg fa h KX G hmg
    have T : ∃ t, My.Txt (L2.KOf KX) t := by
      dsimp only [L2.KOf]                          -- K must stand as «<heap const> w.params» for k_is
      refine' My.txt_mk ?e1 ?e2 ?e3 ..
      (case e1 => PySem.W.k_is)                    -- in the order: a name -> its address -> its object -> its parts
      (case e2 => PySem.W.k_is)
      ..
    obtain ⟨t, T⟩ := T
    have e0 := hmg.symm.trans (PySem.W.mg_of KX G T.law)
    cases e0                                       -- fa is the law's own address
    exact ⟨_, fun s u => .of_eq rfl, fun base kb nb => My.law_fn T kb nb⟩     -- if «.of_eq rfl» comes too early: refine' ⟨_, ?b, fun base kb nb => My.law_fn T kb nb⟩; exact fun s u => .of_eq rfl
  case S => exact fun w H a ns hl hO hS => ..
  case C => exact ..
(the tactic k_is has no namespace: write k_is) -/

/-! SHORT WORDS over the layer: a def of the text, its body, what a loop and a test want. -/
namespace L2
open PySem PySem.Spec PyProof.Rows

/-! ### the text by places -/
/-- the j-th statement of a class's body -/
def inClass (s : Stmt) (j : Nat) : Stmt := match s with
  | .ClassDef _ _ _ body _ _ _ _ _ _ _ => body.getD j (.Pass ⟨0, 0, 0, 0⟩)
  | _ => .Pass ⟨0, 0, 0, 0⟩
def defArgs (s : Stmt) : Arguments := match s with
  | .FunctionDef _ a _ _ _ _ _ _ _ _ => a
  | _ => { posonlyargs := [], args := [], vararg := none, kwonlyargs := [], kw_defaults := [], kwarg := none, defaults := [] }
def defBody (s : Stmt) : List Stmt := match s with
  | .FunctionDef _ _ b _ _ _ _ _ _ _ => b
  | _ => []
def defScope (s : Stmt) : Scope := match s with
  | .FunctionDef _ _ _ _ _ _ sc _ _ _ => sc
  | _ => { kind := .function, names := [], isGenerator := false, isCoroutine := false }

/-! ### no exception leaves a def -/
abbrev CX0 : CXT := fun _ _ _ _ _ _ => False
abbrev E0 : XK := fun _ _ _ => False
theorem pass0 {X : Cx} : Passes CX0 X E0 := fun _ _ _ _ _ _ _ h => h.elim

/-! ### a def (or method) of the text as it stands behind the top -/
structure Fun (K : PySem.W.Frag) (x qual : Str) (st : Stmt) (f : Addr) (fd : FuncData) : Prop where
  ex : ∃ (oc : Value) (od : Option Addr) (kV doc pm : Value) (an : Option Addr) (cdv ct : Value) (osl : Array (Option Value)),
    fd = PySem.W.fnOf x qual (defArgs st) (defBody st) (defScope st) .none kV doc pm an cdv ct ∧ K.lookup f = some ⟨oc, od, .func fd, osl⟩ ∧ PySem.W.codeIn K cdv qual = true
  kp : PySem.W.keepIn K (.ref f) = true
section
variable {P : Program} {w : World} {K : PySem.W.Frag} {mg : Str → Option Value} {base : Heap}
/-- THE RULE for a def: its body as a term of rules, and the reading of that term -/
theorem Fun.ok {x qual : Str} {st : Stmt} {f : Addr} {fd : FuncData} {N ps : List Str} {k : Nat} {sp : Sp} (F : Fun K x qual st f fd) (S : FnScope N ps (defScope st)) (len : ∀ vs H Q E, sp vs H Q E → vs.length = ps.length)
    (hbody : ∀ (cdv : Value) (A : Around) (outer : List Env) (s : Shared) (H : Hp) (vs : List V) (Q : VK) (E : XK), Room k (A.deeper (envOfC qual (defScope st) s.heap.objs.size f cdv)) → sp vs H Q E →
      ∃ t, PSs (cxOf CX0 P w K mg base N qual (defScope st) f cdv A outer s H E).nox (defBody st) t ∧ t { nx := fun _ H' => Q .non H', rt := Q } (start N vs) H) : FnOk P w K mg base CX0 (k + 1) f fd ps sp := by
  obtain ⟨oc, od, kV, doc, pm, an, cdv, ct, osl, rfl, lk, hcd⟩ := F.ex
  refine fn_of lk hcd S len fun A outer s H vs Q E hr hsp => ?_
  obtain ⟨t, h, q⟩ := hbody cdv A outer s H vs Q E hr hsp
  exact ⟨t, h.nox, q⟩
/-- how its arguments bind (no defaults): h is «fun _ _ _ _ _ _ us hl => match us, hl with | [_, _], _ => rfl», one _ a parameter -/
theorem Fun.binds {x qual : Str} {st : Stmt} {f : Addr} {fd : FuncData} {ps : List Str} (F : Fun K x qual st f fd)
    (h : ∀ (kV doc pm : Value) (an : Option Addr) (cdv ct : Value) (us : List Value), us.length = ps.length → bindArgs (PySem.W.fnOf x qual (defArgs st) (defBody st) (defScope st) .none kV doc pm an cdv ct) ⟨us, []⟩ = pure (ps.zip us)) : Binds K fd ps [] := by
  obtain ⟨oc, od, kV, doc, pm, an, cdv, ct, osl, rfl, lk, hcd⟩ := F.ex
  exact .all (h kV doc pm an cdv ct)
theorem fun_mk {x qual : Str} {st : Stmt} {f : Addr} {oc : Value} {od an : Option Addr} {osl : Array (Option Value)} {kV doc pm cdv ct : Value} (l : K.lookup f = some ⟨oc, od, .func (PySem.W.fnOf x qual (defArgs st) (defBody st) (defScope st) .none kV doc pm an cdv ct), osl⟩)
    (c : PySem.W.codeIn K cdv qual = true) (k : PySem.W.keepIn K (.ref f) = true) : Fun K x qual st f (PySem.W.fnOf x qual (defArgs st) (defBody st) (defScope st) .none kV doc pm an cdv ct) := ⟨⟨oc, od, kV, doc, pm, an, cdv, ct, osl, rfl, l, c⟩, k⟩
end
theorem hu_of {A : Around} {k : Nat} (hr : Room k A) : A.units + 1 < cLine := Nat.lt_of_le_of_lt (Nat.add_le_add_left (by decide : 1 ≤ 64) _) hr.units
theorem small1000 {n : Nat} (h : n ≤ 1000) : n < sizeLine := Nat.lt_of_le_of_lt h (by decide)

/-! ### expressions in short: the name that stands in the i-th slot -/
section
variable {X : Cx}
theorem pv (i : Nat) {x : Str} {pos : Pos} (hN : X.N[i]? = some x := by rfl) (hv : Vis X.env.scope x := by first | exact Or.inl rfl | exact Or.inr (Or.inl rfl) | exact Or.inr (Or.inr rfl)) (hd : (x == ("__debug__" : Str)) = false := by decide)
    (hcd : (x == ("__classdict__" : Str)) = false := by decide) : PE X (.Name x pos) (tVar i) := pe_var hN hv hd hcd
end

/-! ### tests -/
theorem iteF {A B : Prop} (h : B) : if false = true then A else B := by
  rw [if_neg Bool.false_ne_true]
  exact h
theorem iteT {A B : Prop} (h : A) : if true = true then A else B := by
  rw [if_pos rfl]
  exact h
theorem ite2 {c A B : Prop} [Decidable c] (h1 : c → A) (h2 : ¬ c → B) : if c then A else B := by
  by_cases h : c
  · rw [if_pos h]
    exact h1 h
  · rw [if_neg h]
    exact h2 h
theorem iteNS {c A B : Prop} [Decidable c] (hc : c) (h : B) : if (!decide c) = true then A else B := by
  rw [decide_eq_true hc]
  exact iteF h

/-! ### heaps -/
/-- all that was tracked is as it was -/
def Same (H H' : Hp) : Prop := ∀ b o, H b = some o → H' b = some o
theorem Same.refl (H : Hp) : Same H H := fun _ _ h => h
theorem Same.trans {H H1 H2 : Hp} (a : Same H H1) (b : Same H1 H2) : Same H H2 := fun c o h => b c o (a c o h)
theorem Same.free {H H' : Hp} (e : Same H H') {l : Addr} (h : H' l = Option.none) : H l = Option.none := by
  cases q : H l with
  | none => rfl
  | some o =>
    rw [e l o q] at h
    cases h
theorem Same.seq {K : PySem.W.Frag} {H H' : Hp} {a : Addr} {xs : List V} (e : Same H H') (h : SqL K H a xs) : SqL K H' a xs := by
  rcases h with (h | ⟨o, h⟩) | h
  · exact .inl (.inl (e _ _ h))
  · exact .inl (.inr ⟨o, e _ _ h⟩)
  · exact .inr h

end L2

set_option maxHeartbeats 4000000
namespace L2
open PySem PySem.Spec PyProof.Rows
section
variable {X : Cx} {H : Hp} {k : Nat}

/-! ### isinstance with a built-in type -/
theorem call_isinst : CallR X (.builtin "isinstance") (fun xs H Q => ∃ x T t b, xs = [x, .ty T] ∧ TyOf X.K H x t ∧ PySem.W.kitOne X.K t (.type T) = some b ∧ Q (.bl b) H) := by
  intro pins s σ H xs us Q I r h
  obtain ⟨x, T, t, b, rfl, ty, e, q⟩ := h
  obtain ⟨u, u2, rfl, ru, r2⟩ := vals2 r
  cases r2
  exact isinst_ok I ru ty e fun tk => ⟨.bl b, H, I.tok tk, rfl, q⟩
theorem kit_same (K : PySem.W.Frag) (t : Value) : PySem.W.kitOne K t t = some true := by
  unfold PySem.W.kitOne
  rw [if_pos (beq_self_eq_true t)]
theorem kit_str_tuple (K : PySem.W.Frag) : PySem.W.kitOne K (.type "str") (.type "tuple") = some false := by kernel_rfl
theorem kit_int_tuple (K : PySem.W.Frag) : PySem.W.kitOne K (.type "int") (.type "tuple") = some false := by kernel_rfl
theorem kit_bool_tuple (K : PySem.W.Frag) : PySem.W.kitOne K (.type "bool") (.type "tuple") = some false := by kernel_rfl

/-! ### == of two values as they stand, wherever k units of room are left -/
def EqO (X : Cx) (H : Hp) (k : Nat) (y x : V) (b : Bool) : Prop :=
  ∀ (pins : List (Addr × Obj)) (s : Shared) (σ : St), Inv X pins σ H s → ∀ (u v : Value), RelV y u → RelV x v → ∀ A : Around, A.units + k < cLine → SeqAt.EqAt A s u v b
theorem EqO.flat {y x : V} (fy : flatV y = true) (fx : flatV x = true) : EqO X H k y x (eqV y x) := fun _ _ _ _ _ _ ry rx _ _ => eqAt_V ry rx fy fx
theorem EqO.flatTup {y : V} {a : Addr} {xs : List V} (fy : flatV y = true) (h : SqT X.K H a xs) : EqO X H k y (.ref a) false := by
  intro pins s σ I u v ry rx A hu
  cases rx
  obtain ⟨its, _, ht, _⟩ := I.tuple h
  have hu' : A.units < cLine := by omega
  cases y with
  | non => cases ry; exact SeqAt.EqAt.none_tuple ht hu'
  | bl b => cases ry; exact SeqAt.EqAt.bool_tuple b ht hu'
  | int b => obtain ⟨t, rfl⟩ := ry; exact SeqAt.EqAt.int_tuple b t ht hu'
  | str b => obtain ⟨t, rfl⟩ := ry; exact SeqAt.EqAt.str_tuple b t ht hu'
  | _ => exact absurd (show false = true from fy) Bool.false_ne_true
theorem EqO.tupFlat {y : V} {a : Addr} {xs : List V} (fy : flatV y = true) (h : SqT X.K H a xs) : EqO X H k (.ref a) y false := by
  intro pins s σ I v u rx ry A hu
  cases rx
  obtain ⟨its, _, ht, _⟩ := I.tuple h
  have hu' : A.units < cLine := by omega
  cases y with
  | non => cases ry; exact SeqAt.EqAt.tuple_none ht hu'
  | bl b => cases ry; exact SeqAt.EqAt.tuple_bool b ht hu'
  | int b => obtain ⟨t, rfl⟩ := ry; exact SeqAt.EqAt.tuple_int b t ht hu'
  | str b => obtain ⟨t, rfl⟩ := ry; exact SeqAt.EqAt.tuple_str b t ht hu'
  | _ => exact absurd (show false = true from fy) Bool.false_ne_true
theorem EqO.tups {a b : Addr} {xs ys : List V} {e : Nat → Bool} (ha : SqT X.K H a xs) (hb : SqT X.K H b ys) (hne : ∀ (pins : List (Addr × Obj)) (s : Shared) (σ : St), Inv X pins σ H s → a ≠ b)
    (he : ∀ j x y, xs[j]? = some x → ys[j]? = some y → EqO X H k x y (e j)) : EqO X H (k + 1) (.ref a) (.ref b) ((List.range (min xs.length ys.length)).all e && xs.length == ys.length) := by
  intro pins s σ I u v ru rv A hu
  cases ru
  cases rv
  obtain ⟨its, r, ht, _⟩ := I.tuple ha
  obtain ⟨its2, r2, ht2, _⟩ := I.tuple hb
  have l1 : its.toArray.size = xs.length := by rw [List.size_toArray]; exact r.length.symm
  have l2 : its2.toArray.size = ys.length := by rw [List.size_toArray]; exact r2.length.symm
  have key : ∀ j (h1 : j < its.toArray.size) (h2 : j < its2.toArray.size), SeqAt.EqAt A.in1 s its.toArray[j] its2.toArray[j] (e j) := fun j h1 h2 => by
    have g1 : j < xs.length := by omega
    have g2 : j < ys.length := by omega
    obtain ⟨u, hu1, ru⟩ := r.get (List.getElem?_eq_getElem g1)
    obtain ⟨v, hv1, rv⟩ := r2.get (List.getElem?_eq_getElem g2)
    have e1 : its.toArray[j] = u := by
      rw [List.getElem_toArray]
      exact (List.getElem?_eq_some_iff.mp hu1).2
    have e2 : its2.toArray[j] = v := by
      rw [List.getElem_toArray]
      exact (List.getElem?_eq_some_iff.mp hv1).2
    rw [e1, e2]
    refine he j _ _ (List.getElem?_eq_getElem g1) (List.getElem?_eq_getElem g2) pins s σ I u v ru rv A.in1 ?_
    show A.units + 1 + k < cLine
    omega
  have q := SeqAt.RcAt.tuples (A := A) (e := e) ht ht2 (by omega) key
  rw [l1, l2] at q
  exact SeqAt.EqAt.of_refs (hne pins s σ I) q

/-! ### x in a list or a tuple of any items, each compared as told -/
def liftE (e : V → Bool) (u : Value) : Bool := match absV u with
  | some y => e y
  | none => false
theorem liftE_of {e : V → Bool} {y : V} {u : Value} (r : RelV y u) : liftE e u = e y := by
  unfold liftE
  rw [r.abs]
theorem any_lift {e : V → Bool} : ∀ {ys : List V} {us : List Value}, Vals ys us → us.any (liftE e) = ys.any e
  | _, _, .nil => rfl
  | _, _, .cons r t => by rw [List.any_cons, List.any_cons, liftE_of r, any_lift t]
theorem mem_lift {e : V → Bool} {A : Around} {s : Shared} {v : Value} : ∀ {ys : List V} {us : List Value}, Vals ys us → (∀ z ∈ ys, ∀ u, RelV z u → SeqAt.EqAt A s u v (e z)) → ∀ u ∈ us, SeqAt.EqAt A s u v (liftE e u)
  | _, _, .nil, _ => fun u hu => by cases hu
  | y :: ys, u :: us, .cons r t, f => fun u' hu => by
    rcases List.mem_cons.mp hu with rfl | hu
    · rw [liftE_of r]
      exact f y (List.mem_cons_self ..) _ r
    · exact mem_lift t (fun z hz => f z (List.mem_cons_of_mem _ hz)) u' hu
def rInG (X : Cx) : R2 := fun x y H Q => ∃ p ys e, y = .ref p ∧ (SqL X.K H p ys ∨ SqT X.K H p ys) ∧ (∀ z ∈ ys, EqO X H 8 z x (e z)) ∧ Q (.bl (ys.any e)) H
theorem op_inG (hu : X.A.units + 64 < cLine) : OpR X (compareOp .In) (rInG X) := by
  intro pins s σ H x y v u Q I rx ry h
  obtain ⟨p, ys, e, rfl, hq, he, q⟩ := h
  cases ry
  have hu2 : X.A.in1.units + 8 < cLine := by
    show X.A.units + 1 + 8 < cLine
    omega
  have hm : ∀ z ∈ ys, ∀ u, RelV z u → SeqAt.EqAt X.A.in1 s u v (e z) := fun z hz u ru => he z hz pins s σ I u v ru rx X.A.in1 hu2
  rcases hq with hq | hq
  · obtain ⟨its, r, pl, hz⟩ := I.list hq
    refine SeqAt.in_listAt (liftE e) pl.isList (fun w hw => mem_lift r hm w (by simpa using hw)) ⟨.bl _, H, I, rfl, ?_⟩
    rw [show its.toArray.any (liftE e) = its.any (liftE e) by simp, any_lift r]
    exact q
  · obtain ⟨its, r, pl, hz⟩ := I.tuple hq
    refine SeqAt.in_tupleAt (liftE e) pl (fun w hw => mem_lift r hm w (by simpa using hw)) ⟨.bl _, H, I, rfl, ?_⟩
    rw [show its.toArray.any (liftE e) = its.any (liftE e) by simp, any_lift r]
    exact q

/-! ### xs.extend(a tuple) -/
theorem list_extend_tup (l : Addr) (items : Array Value) (n : Nat) (b : Addr) (items2 : Array Value) (n2 : Nat) (dd : Option Addr) (sl : Array (Option Value))
    (h0 : ¬(!items.isEmpty && Builtin.List.listTooLong (items.size + items2.size)) = true) (h1 : items.size ≤ sizeLine) (h2 : items.size + items2.size ≤ sizeLine + 1) :
    Meets (Builtin.«list.extend» ⟨[.ref l, .ref b], []⟩) (fun _ R s => s.heap.get? l = some ⟨.type "list", none, .seq items n, #[]⟩ ∧
      s.heap.get? b = some ⟨.type "tuple", dd, .seq items2 n2, sl⟩ ∧
      R (.ok (.ret Value.none)) { s with heap := s.heap.update l (Obj.mapSeq fun x => x ++ items2), toks := s.toks }) :=
  .of_wp fun prog w A R s h => by
    obtain ⟨hp, g, d, tk, os⟩ := s
    obtain ⟨hl, hb, h⟩ := h
    have f1 := AutoSeq1.idx_int
    have f2 := AutoSeq1.sub_tuple_tuple
    have f3 := AutoSeq1.sub_list_list
    have f4 := AutoSeq1.sub_tuple_list
    have f5 := AutoSeq1.sub_list_tuple
    have hz' : (items ++ items2).size ≤ sizeLine + 1 := by
      rw [Array.size_append]
      exact h2
    wp_walk using (wpAny_updateSeq hl rfl (hz := h1) (_hz' := hz')), AutoSeq1.wpAny_loadPart' hl, AutoSeq1.wpAny_loadPart' hb
    exact ⟨_, rfl, h⟩
def rExtendT (K : PySem.W.Frag) : V → List V → Hp → VK → Prop := fun x vs H Q => ∃ l b xs zs, x = .ref l ∧ vs = [.ref b] ∧ H l = some (.lst xs) ∧ SqT K H b zs ∧ xs.length + zs.length ≤ sizeLine ∧ Q .non (upd H l (.lst (xs ++ zs)))
theorem mt_extendT : MtM X "list.extend" (rExtendT X.K) := by
  intro pins s σ H x vs v us Q I rx rv h
  obtain ⟨l, b, xs, zs, rfl, rfl, hH, hB, hz, q⟩ := h
  cases rx
  obtain ⟨u, rfl, ru⟩ := rv.one
  cases ru
  obtain ⟨z, its, n, r, hl, e⟩ := I.lstM hH
  obtain ⟨its2, r2, ⟨⟨c2, dd, dt, sl⟩, e2, hc, n2, hd⟩, z2⟩ := I.tuple hB
  have hl2 := r2.length
  simp only at hc hd
  subst hc hd
  have hsz : its.toArray.size + its2.toArray.size ≤ sizeLine := by rw [List.size_toArray, List.size_toArray]; omega
  have hlong : ¬ (!its.toArray.isEmpty && Builtin.List.listTooLong (its.toArray.size + its2.toArray.size)) = true := by
    rw [notLongL hsz, Bool.and_false]
    exact Bool.false_ne_true
  refine call_meets F.slot_list_extend ⟨_, e, rfl⟩ F.entry_list_extend (F.args_list_extend_2 _ _)
    (list_extend_tup l its.toArray n b its2.toArray n2 dd sl hlong (by rw [List.size_toArray]; omega) (by omega)) ⟨e, e2, ?_⟩
  refine ⟨.non, _, I.lset (its' := its ++ its2) hH e (by simp) (r.append r2) ?_, rfl, q⟩
  rw [List.length_append]
  omega
end
/-! ### short words for lists' methods -/
section
variable {X : Cx} {o e : Expr} {to te : TE} {apos cpos : Pos}
theorem same_new {H : Hp} {p : Addr} (h : H p = none) (o : HO) : Same H (upd H p o) := fun b u q => by
  rw [upd_ne (ne_of_none q h)]
  exact q
theorem small {n : Nat} (h : n ≤ 100000) : n < sizeLine := Nat.lt_of_le_of_lt h (by decide)
/-- tuples stay tuples -/
def Tk (H H' : Hp) : Prop := ∀ a xs, H a = some (.tup xs) → H' a = some (.tup xs)
theorem Tk.refl (H : Hp) : Tk H H := fun _ _ h => h
theorem Tk.trans {H H1 H2 : Hp} (a : Tk H H1) (b : Tk H1 H2) : Tk H H2 := fun c xs h => b c xs (a c xs h)
theorem Same.tk {H H' : Hp} (s : Same H H') : Tk H H' := fun a xs h => s a _ h
theorem Tk.lst {H : Hp} {l : Addr} {xs ys : List V} (h : H l = some (.lst xs)) : Tk H (upd H l (.lst ys)) := fun a zs q => by
  rw [upd_ne (ne_of q h (by intro z; cases z))]
  exact q
theorem Tk.new {H : Hp} {p : Addr} (h : H p = none) (o : HO) : Tk H (upd H p o) := (same_new h o).tk
end
end L2
namespace L2
open PySem PySem.Spec PyProof.Rows
/-! ### a comprehension's loop, where no exception leaves -/
section
variable {prog : Program} {w : World} {A : Around} {R : Result → Shared → Prop} {s : Shared}
theorem compLoop_any {elt target iter : Expr} {ifs : List Expr} {scope : Scope} {pos : Pos} {it acc : Value} {env : Env} (Iv : Nat → Shared → Prop)
    (turn : ∀ n s, Iv n s → wpAny (model prog w) A (pyNext it) (fun r s1 => match r with
      | none => R (.ok .next) s1
      | some v => wpAny (model prog w) A (letOwnedTupleGo target it v) (fun _ s2 => wpAny (model prog w) A (assign target env v) (fun _ s3 =>
          wpAny (model prog w) A (forIn ifs true fun c r => if r = true then do let ok ← isTrue c env (eval c env); pure (ForInStep.yield ok) else pure (ForInStep.yield r)) (fun ok s4 =>
            if ok = true then wpAny (model prog w) A (eval elt env) (fun x s5 => wpAny (model prog w) A (call (.builtin "list.append") [acc, x]) (fun _ s6 => ∃ m, m < n ∧ Iv m s6) (fun _ _ => False) s5) (fun _ _ => False) s4
            else ∃ m, m < n ∧ Iv m s4) (fun _ _ => False) s3) (fun _ _ => False) s2) (fun _ _ => False) s1) (fun _ _ => False) s)
    (n : Nat) (h : Iv n s) : codeAny (model prog w) A (.compLoop (.ListComp elt [⟨target, iter, ifs, 0⟩] scope pos) 0 it acc env) R s := by
  refine codeAny_loop rfl Iv (fun n s hI => ?_) n h
  show wpAny _ A ((compTurn (.ListComp elt [⟨target, iter, ifs, 0⟩] scope pos) 0 it acc env).onRaise (fun x => do noteFrame x env; theTreesLotGoes x)) _ _ s
  refine wpAny_noted ?_
  rw [compTurn_list]
  refine wpAny_bind (wpAny_standAt (wpAny_bind (wpAny_mono (turn n s hI) (fun r s1 h1 => ?_) fun _ _ z => z.elim)))
  cases r with
  | none => exact wpAny_pure h1
  | some v =>
    refine wpAny_bind (wpAny_mono h1 (fun _ s2 h2 => ?_) fun _ _ z => z.elim)
    refine wpAny_bind (wpAny_mono h2 (fun _ s3 h3 => wpAny_bind (wpAny_mono h3 (fun ok s4 h4 => ?_) fun _ _ z => z.elim)) fun _ _ z => z.elim)
    cases ok with
    | false => exact wpAny_pure ⟨rfl, h4⟩
    | true =>
      exact wpAny_bind (wpAny_bind (wpAny_mono h4 (fun x s5 h5 => wpAny_bind (wpAny_mono h5 (fun _ s6 h6 => wpAny_pure (wpAny_pure ⟨rfl, h6⟩)) fun _ _ z => z.elim)) fun _ _ z => z.elim))
end
/-- an object that stands untracked is tracked -/
theorem HOk.track {P : Program} {w : World} {H : Hp} {h : Heap} {a : Addr} {o : HO} (x : HOk P w H h) (hn : H a = none) (new : ObjOk P w (upd H a o) h a o) : HOk P w (upd H a o) h := fun b u e => by
  by_cases hb : b = a
  · subst hb
    rw [upd_same] at e
    cases e
    exact new
  · rw [upd_ne hb] at e
    exact (x b u e).stay (fun _ _ _ q => q) (fun c q => by rw [upd_ne (ne_of_none q hn)]; exact q) fun c xs q => by rw [upd_ne (ne_of_none q hn)]; exact q
theorem HOk.other {P : Program} {w : World} {H : Hp} {h h' : Heap} {a : Addr} (x : HOk P w H h) (hn : H a = none) (k : ∀ b u, b ≠ a → h.get? b = some u → h'.get? b = some u) : HOk P w H h' := fun b u e => by
  have hb : ∀ c v, H c = some v → c ≠ a := fun c v q => ne_of_none q hn
  refine (x b u e).stay (fun c v hc q => k c v ?_ q) (fun _ q => q) fun _ _ q => q
  rcases hc with z | z
  · rw [z]; exact hb b u e
  · exact hb c _ z
/-- the context of a comprehension's block: the iterator's records fp were made ahead, its own dict stands at C -/
def cxC (X : Cx) (N : List Str) (scope : Scope) (cl : List (Str × Addr)) (C : Addr) (fp : List Addr) (s : Shared) (H : Hp) : Cx where
  prog := X.prog
  w := X.w
  K := X.K
  mg := X.mg
  base := X.base
  A := X.A
  N := N
  s₀ := s
  H₀ := H
  env := compEnvC scope cl C X.env
  outer := X.stack
  stack := X.stack
  ex := fp
  fn := fun _ => false
  calm := X.calm
  pn := []
  xe := fun _ _ => False
/-- the tests of a comprehension -/
def PTs (X : Cx) (ifs : List Expr) (t : TT) : Prop :=
  ∀ (pins : List (Addr × Obj)) (s : Shared) (σ : St) (H : Hp) (Q : Bool → Hp → Prop), Inv X pins σ H s → t σ H Q →
    wpAny (model X.prog X.w) X.A (forIn ifs true fun c r => if r = true then do let ok ← isTrue c X.env (eval c X.env); pure (ForInStep.yield ok) else pure (ForInStep.yield r)) (TP X pins σ Q) X.xe s
def tYes : TT := fun _ H Q => Q true H
theorem yes {σ : St} {H : Hp} {A B : Hp → Prop} (h : A H) : tYes σ H (fun b H4 => if b = true then A H4 else B H4) := by
  show if true = true then A H else B H
  exact iteT h
theorem pts_nil {X : Cx} : PTs X [] tYes := fun pins s σ H Q I h => wpAny_tests_nil ⟨H, I, h⟩
theorem pts_one {X : Cx} {c : Expr} {t : TT} (h : PT X c t) : PTs X [c] t := fun pins s σ H Q I q => wpAny_tests_one (h pins s σ H Q I q)
def tComp (wi : TI) (init : St → St) (g : TG) (tc : TT) (te : TE) : TE := fun σ H Q => wi σ H fun J H1 => ∃ W : Nat → Nat → St → List V → Hp → Prop, (∃ m, W 0 m (init σ) [] H1) ∧ ∀ i m σ' ys H', W i m σ' ys H' → ys.length < sizeLine ∧
  ((J.stop i H' ∧ ∀ D, H' D = none → Q (.ref D) (upd H' D (.lst ys))) ∨
   (J.go i H' ∧ ∃ N : St → List V → Hp → Prop, (∀ σ' ys' H', N σ' ys' H' → ∃ m', m' < m ∧ W (i + 1) m' σ' ys' H') ∧
     ∀ x H2, J.yld i H' x H2 → g x σ' H2 fun σ2 H3 => tc σ2 H3 fun b H4 => if b = true then te σ2 H4 fun v H5 => N σ2 (ys ++ [v]) H5 else N σ2 ys H4))
/-- the values of the block's names at its start: its own are not bound, the others stand in the slots of the def -/
def capN (loc : List Str) (cap : List (Str × Nat)) : List Str := loc ++ cap.map (·.1)
def capS (loc : List Str) (cap : List (Str × Nat)) (σ : St) : St := loc.map (fun _ => none) ++ cap.map fun p => (σ[p.2]?).getD none
def lobj (its : List Value) (n : Nat) : Obj := { cls := .type "list", data := .seq its.toArray n }
section
variable {X : Cx} {elt target iter : Expr} {ifs : List Expr} {scope : Scope} {cl : List (Str × Addr)} {pos : Pos} {wi : TI} {g : TG} {tc : TT} {te : TE}
/-- what is asked of a comprehension's scope and of what it catches -/
structure CompOk (X : Cx) (scope : Scope) (cl : List (Str × Addr)) (cap : List (Str × Nat)) : Prop where
  calm : X.calm = true
  clos : closureFor scope X.env = pure cl
  cell : ∀ y ∈ scope.names, y.2 ≠ .cell
  kind : scope.kind = .function
  names : ∀ y ∈ scope.names, y.2 = .local → scope.names.lookup y.1 = some .local
  sub : ∀ x c, cl.lookup x = some c → X.env.cells.lookup x = some c
  has : ∀ x, ((relabel scope X.env).names.lookup x = some .cell ∨ (relabel scope X.env).names.lookup x = some .free) → ∃ c, cl.lookup x = some c
  cap : ∀ p ∈ cap, X.N[p.2]? = some p.1 ∧ X.env.scope.names.lookup p.1 = some .cell ∧ (relabel scope X.env).names.lookup p.1 = some .cell
theorem comp_block {loc : List Str} {cap : List (Str × Nat)} (O : CompOk X scope cl cap)
    (hg : ∀ C fp s H, PG (cxC X (capN loc cap) scope cl C fp s H) target g) (ht : ∀ C fp s H, PTs (cxC X (capN loc cap) scope cl C fp s H) ifs tc) (he : ∀ C fp s H, PE (cxC X (capN loc cap) scope cl C fp s H) elt te)
    {pins : List (Addr × Obj)} {σ : St} {H2 : Hp} {s2 : Shared} {it : Addr} {fp : List Addr} {tn : Nat → Heap → Prop} {J : It} {E : Value → Shared → Prop} (I2 : Inv X pins σ H2 s2) (T : Turn X.prog X.w X.K target J fp it tn) (st2 : tn 0 s2.heap) (f2 : ∀ b ∈ fp, FpOk X pins H2 b)
    (W : Nat → Nat → St → List V → Hp → Prop) (m0 : Nat) (w0 : W 0 m0 (capS loc cap σ) [] H2) (Q : VK)
    (turn : ∀ i m σ' ys H', W i m σ' ys H' → ys.length < sizeLine ∧ ((J.stop i H' ∧ ∀ D, H' D = none → Q (.ref D) (upd H' D (.lst ys))) ∨
      (J.go i H' ∧ ∃ N : St → List V → Hp → Prop, (∀ σ' ys' H', N σ' ys' H' → ∃ m', m' < m ∧ W (i + 1) m' σ' ys' H') ∧
     ∀ x H2, J.yld i H' x H2 → g x σ' H2 fun σ2 H3 => tc σ2 H3 fun b H4 => if b = true then te σ2 H4 fun v H5 => N σ2 (ys ++ [v]) H5 else N σ2 ys H4)))
    {RR : Value → Addr → Result → Shared → Prop}
    (hRR : ∀ D C ys H3 s4 m, Inv X pins σ (upd H3 D (.lst ys)) s4 → s4.heap.Ns C m → s2.heap.objs.size ≤ C → (upd H3 D (.lst ys)) C = none → Q (.ref D) (upd H3 D (.lst ys)) → RR (.ref D) C (.ok .next) s4) :
    wpAny (model X.prog X.w) X.A (newList []) (fun acc s3 => wpAny (model X.prog X.w) X.A (newFunctionEnv scope X.env.globals cl [] X.env.qual none .none (some X.env)) (fun cenv s4 =>
      codeAny (model X.prog X.w) X.A (.compStart (.ListComp elt [⟨target, iter, ifs, 0⟩] scope pos) 0 (.ref it) acc { cenv with scope := relabel scope X.env }) (RR acc cenv.locals) s4) E s3) E s2 := by
  have hc := O.calm
  have hcell := O.cell
  have hkind := O.kind
  have hsub := O.sub
  have hhas := O.has
  have hcap := O.cap
  refine wpAny_newObj_type (wpAny_newFunctionEnv hcell (by intro y hy; simp at hy) (fun h1 hns1 hsb1 => ?_) hkind)
  dsimp only at hns1 hsb1 ⊢
  generalize hG2 : s2.heap.push { cls := .type "list", dict := none, data := .seq ([] : List Value).toArray } = G2 at hns1 hsb1 ⊢
  have hC : G2.objs.size = s2.heap.objs.size + 1 := by rw [← hG2, Heap.size_push]
  generalize hCc : G2.objs.size = C at hns1 hsb1 hC ⊢
  have hDC : s2.heap.objs.size ≠ C := by rw [hC]; exact Nat.ne_of_lt (Nat.lt_succ_self _)
  have old : ∀ b o, s2.heap.get? b = some o → h1.get? b = some o := fun b o q => by
    have hb : b < s2.heap.objs.size := Heap.lt_size q
    have hbC : b ≠ C := by rw [hC]; exact Nat.ne_of_lt (Nat.lt_succ_of_lt hb)
    exact hsb1.extBut b o hbC (Heap.get?_push_of_some _ (hG2 ▸ Heap.get?_push_of_some _ q))
  have hD1 : h1.get? s2.heap.objs.size = some (lobj [] 0) := hsb1.extBut _ _ hDC (Heap.get?_push_of_some _ (hG2 ▸ Heap.get?_push_size _ rfl))
  have fplt : ∀ b ∈ fp, b < s2.heap.objs.size := fun b hb => by
    obtain ⟨o, q, _⟩ := T.obj 0 _ st2 b hb
    exact Heap.lt_size q
  have clt : ∀ x c, cl.lookup x = some c → c < s2.heap.objs.size := fun x c q => by
    obtain ⟨v, z⟩ := I2.cell x c (hsub x c q)
    exact z.lt
  have stklt : ∀ b ∈ frs X.stack, b < s2.heap.objs.size := fun b hb => by
    obtain ⟨_, o, ho, _⟩ := I2.stack.mem hb
    exact Heap.lt_size ho
  have okC : (cxC X (capN loc cap) scope cl C fp s2 H2).Ok := by
    refine ⟨I2.ok.mod, hkind, I2.ok.glob, I2.ok.blt, (by rw [hC]; exact Nat.le_succ _ : s2.heap.objs.size ≤ C), fun x y c q1 q2 => I2.ok.inj x y c (hsub x c q1) (hsub y c q2), hhas, (fun x c z => Bool.noConfusion (show false = true from z)), I2.ok.hd, I2.ok.frames, .inl rfl, fun b hb => ⟨?_, fun x c q => ?_⟩, I2.bs, Nat.le_trans I2.ok.bsz I2.sz, fun b o q hb => ?_, fun b hb z => ?_, I2.stack, I2.stkFree⟩
    · show b ≠ C
      exact Nat.ne_of_lt (Nat.lt_trans (fplt b hb) (by rw [hC]; exact Nat.lt_succ_self _))
    · exact (f2 b hb).2.2.2.2.1 x c (hsub x c q)
    · rcases (f2 b hb).2.2.2.1 with z | z
      · exact I2.ok.noex b o q z
      · exact absurd (Nat.lt_of_lt_of_le (Heap.lt_size q) (Nat.le_trans I2.ok.bsz z)) (Nat.lt_irrefl _)
    · rcases List.mem_cons.mp (I2.stkSub b z) with e | e
      · exact (f2 b hb).2.1 e
      · exact (f2 b hb).2.2.1 e
  have nD : ∀ {H' : Hp}, HOk X.prog X.w H' s2.heap → H' s2.heap.objs.size = none := fun x => x.fresh (Nat.le_refl _)
  have I0 : Inv (cxC X (capN loc cap) scope cl C fp s2 H2) [(s2.heap.objs.size, lobj [] 0)] (capS loc cap σ) H2 { s2 with heap := h1, toks := s2.toks + ([] : List (Str × Value)).length } := by
    refine ⟨okC, rfl, I2.bare, Un.kept old, ⟨_, hns1, fun i x v e1 e2 e3 => ?_⟩, fun x c q => ?_, I2.hok.fresh (by rw [hC]; exact Nat.le_succ _ : s2.heap.objs.size ≤ C), fun x c q => I2.freeC x c (hsub x c q), fun p hp => ?_, I2.hok.kept old, ?_⟩
    · -- a name that was caught
      have e1' : (loc ++ cap.map (·.1))[i]? = some x := e1
      have e2' : (loc.map (fun _ => (none : Option V)) ++ cap.map fun p => (σ[p.2]?).getD none)[i]? = some (some v) := e2
      by_cases hl : i < loc.length
      · rw [List.getElem?_append_left (by rw [List.length_map]; exact hl), List.getElem?_map, List.getElem?_eq_getElem hl] at e2'
        cases e2'
      · rw [List.getElem?_append_right (by omega), List.getElem?_map] at e1'
        rw [List.getElem?_append_right (by rw [List.length_map]; omega), List.length_map, List.getElem?_map] at e2'
        cases e : cap[i - loc.length]? with
        | none => rw [e] at e1'; cases e1'
        | some p =>
          rw [e] at e1' e2'
          have e1'' : p.1 = x := Option.some.inj e1'
          have e2'' : (σ[p.2]?).getD none = some v := Option.some.inj e2'
          subst e1''
          obtain ⟨c1, c2, c3⟩ := hcap p (List.mem_of_getElem? e)
          have e4 : σ[p.2]? = some (some v) := by
            cases q : σ[p.2]? with
            | none => rw [q] at e2''; cases e2''
            | some o => rw [q] at e2''; exact congrArg some e2''
          obtain ⟨m, _, hl2⟩ := I2.loc
          obtain ⟨u, ru, lk⟩ := hl2 p.2 p.1 v c1 e4 (.inr (.inl c2))
          refine ⟨u, ru, .inr ⟨.inl c3, ?_⟩⟩
          obtain ⟨c, qc⟩ := hhas p.1 (.inl c3)
          refine ⟨c, qc, ?_⟩
          rcases lk with ⟨k, _⟩ | ⟨_, c', q', z⟩
          · have k' : X.env.scope.names.lookup p.1 = some .local := k
            rw [c2] at k'
            cases k'
          · rw [hsub p.1 c qc] at q'
            cases q'
            obtain ⟨o, ho, hd⟩ := z
            exact ⟨o, old _ _ ho, hd⟩
    · obtain ⟨v, o, ho, hd⟩ := I2.cell x c (hsub x c q)
      exact ⟨v, o, old _ _ ho, hd⟩
    · have e : p = (s2.heap.objs.size, lobj [] 0) := by simpa [cxC] using hp
      subst e
      exact ⟨hD1, nD I2.hok, hDC, fun z => Nat.lt_irrefl _ (stklt _ z), fun v z => nomatch z⟩
    · show (capS loc cap σ).length = (capN loc cap).length
      simp [capS, capN]
  -- the loop
  have loop : ∀ s3 : Shared, s3 = { s2 with heap := h1, toks := s2.toks + ([] : List (Str × Value)).length } →
      codeAny (model X.prog X.w) X.A (.compLoop (.ListComp elt [⟨target, iter, ifs, 0⟩] scope pos) 0 (.ref it) (.ref s2.heap.objs.size) (compEnvC scope cl C X.env)) (RR (.ref s2.heap.objs.size) C) s3 := by
    rintro s3 rfl
    have stat : ∀ {pins' : List (Addr × Obj)} {H' : Hp}, (∀ b ∈ fp, H' b = none) → (∀ p ∈ pins', p.1 = s2.heap.objs.size) → ∀ b ∈ fp, FpOk (cxC X (capN loc cap) scope cl C fp s2 H2) pins' H' b := fun {pins' H'} hn hp b hb => by
      have hb2 := fplt b hb
      refine ⟨hn b hb, ?_, fun z => ?_, .inl hb, fun x c q => (f2 b hb).2.2.2.2.1 x c (hsub x c q), fun p hpp => ?_⟩
      · show b ≠ C
        exact Nat.ne_of_lt (Nat.lt_trans hb2 (by rw [hC]; exact Nat.lt_succ_self _))
      · rcases List.mem_cons.mp (I2.stkSub b z) with e | e
        · exact (f2 b hb).2.1 e
        · exact (f2 b hb).2.2.1 e
      · have hpp' : p ∈ pins' := by simpa [cxC] using hpp
        have h3 := hp p hpp'
        intro z
        rw [← z, h3] at hb2
        exact Nat.lt_irrefl _ hb2
    refine compLoop_any (fun n s' => ∃ (i : Nat) (σ' : St) (ys : List V) (H' : Hp) (its : List Value) (k : Nat), Inv (cxC X (capN loc cap) scope cl C fp s2 H2) [(s2.heap.objs.size, lobj its k)] σ' H' s' ∧ Vals ys its ∧ tn i s'.heap ∧ (∀ b ∈ fp, H' b = none) ∧ W i n σ' ys H') ?_ m0
      ⟨0, _, [], H2, [], 0, I0, .nil, T.keep _ _ _ st2 fun b _ o q => old b o q, fun b hb => (f2 b hb).1, w0⟩
    rintro n s3 ⟨i, σ3, ys, H3, its, k, I3, r3, st3, fr3, w3⟩
    obtain ⟨hlen, tt⟩ := turn i n σ3 ys H3 w3
    have hlen2 := r3.length
    have pin1 : ∀ p ∈ ([(s2.heap.objs.size, lobj its k)] : List (Addr × Obj)), p.1 = s2.heap.objs.size := fun p hp => by
      have e : p = (s2.heap.objs.size, lobj its k) := by simpa using hp
      rw [e]
    rcases tt with ⟨stop, qn⟩ | ⟨go, NN, hNN, step⟩
    · -- the end
      refine wpAny_mono (T.done (cxC X (capN loc cap) scope cl C fp s2 H2) rfl rfl rfl hc i _ s3 σ3 H3 (fun _ _ => False) I3 (stat fr3 pin1) st3 stop) (fun r s4 ⟨hr, I4⟩ => ?_) fun _ _ z => z
      subst hr
      obtain ⟨m4, hn4, _⟩ := I4.loc
      obtain ⟨pD, nD4, _⟩ := I4.pin (s2.heap.objs.size, lobj its k) (by simp [cxC])
      have freeC : H3 C = none := I4.free
      have ub : Un (frs X.stack) fp H2 H3 s2.heap s4.heap := I4.base
      have ltD : ∀ b o, s2.heap.get? b = some o → b ≠ s2.heap.objs.size := fun b o q => Nat.ne_of_lt (Heap.lt_size q)
      have u' : Un (frs X.stack) fp H2 (upd H3 s2.heap.objs.size (.lst ys)) s2.heap s4.heap := by
        refine ⟨ub.keep, ub.slot, fun b o q n hx => ?_, ub.there, fun b xs q => ?_, fun b o u q => ?_, fun b ps q => ?_⟩
        · rw [upd_ne (ltD b o q)]
          exact ub.free b o q n hx
        · have z := ub.tups b xs q
          rw [upd_ne (ne_of_none z nD4)]
          exact z
        · have z := ub.frzs b o u q
          rw [upd_ne (ne_of_none z nD4)]
          exact z
        · obtain ⟨more, z⟩ := ub.tbls b ps q
          exact ⟨more, by rw [upd_ne (ne_of_none z nD4)]; exact z⟩
      have I5 : Inv X pins σ (upd H3 s2.heap.objs.size (.lst ys)) s4 :=
        I2.call' (s' := s4) (ch := fp) I4.os u' (HOk.track I4.hok nD4 ⟨Nat.le_of_lt hlen, its, k, r3, pD⟩) I4.bare fun b hb => ⟨(f2 b hb).2.2.2.1, (f2 b hb).2.1, (f2 b hb).2.2.2.2.1, (f2 b hb).2.2.2.2.2⟩
      exact hRR _ C ys H3 s4 m4 I5 hn4 (by rw [hC]; exact Nat.le_succ _) (by rw [upd_ne (Ne.symm hDC)]; exact freeC) (qn _ nD4)
    · -- a turn
      refine wpAny_mono (T.item (cxC X (capN loc cap) scope cl C fp s2 H2) rfl rfl rfl hc i _ s3 σ3 H3 (fun _ _ => False) I3 (stat fr3 pin1) st3 go) (fun r s4 ⟨u, hr, h4⟩ => ?_) fun _ _ z => z
      subst hr
      refine wpAny_mono h4 (fun _ s5 ⟨x, H5, I5, r5, y5, st5, fr5⟩ => ?_) fun _ _ z => z
      have I5' := I5.pinned (stat fr5 pin1) (T.obj _ _ st5)
      refine wpAny_mono (hg C fp s2 H2 _ s5 σ3 H5 x u _ I5' r5 (step x H5 y5)) (fun _ s6 ⟨σ6, H6, I6, q6⟩ => ?_) fun _ _ z => z
      refine wpAny_mono (ht C fp s2 H2 _ s6 σ6 H6 _ I6 q6) (fun ok s7 ⟨H7, I7, q7⟩ => ?_) fun _ _ z => z
      have back : ∀ {s8 : Shared} {H8 : Hp}, Inv (cxC X (capN loc cap) scope cl C fp s2 H2) ([(s2.heap.objs.size, lobj its k)] ++ pinsAt fp s5.heap) σ6 H8 s8 → tn (i + 1) s8.heap ∧ (∀ b ∈ fp, H8 b = none) ∧ s8.heap.get? s2.heap.objs.size = some (lobj its k) ∧ H8 s2.heap.objs.size = none := fun {s8 H8} I8 => by
        refine ⟨T.keep _ _ _ st5 fun b hb o q => (I8.pin (b, o) (List.mem_append_right _ (List.mem_append_right _ (mem_pinsAt hb q)))).1, fun b hb => ?_, ?_⟩
        · obtain ⟨o, q, _⟩ := T.obj _ _ st5 b hb
          exact (I8.pin (b, o) (List.mem_append_right _ (List.mem_append_right _ (mem_pinsAt hb q)))).2.1
        · obtain ⟨z1, z2, _⟩ := I8.pin (s2.heap.objs.size, lobj its k) (by simp [cxC])
          exact ⟨z1, z2⟩
      cases ok with
      | false =>
        obtain ⟨m', hm, w7⟩ : ∃ m', m' < n ∧ W (i + 1) m' σ6 ys H7 := hNN _ _ _ (by simpa using q7)
        obtain ⟨b1, b2, _⟩ := back I7
        refine ⟨m', hm, i + 1, σ6, ys, H7, its, k, I7.unpinned, r3, b1, b2, w7⟩
      | true =>
        have q7' : te σ6 H7 fun v H5 => NN σ6 (ys ++ [v]) H5 := by simpa using q7
        refine wpAny_mono (he C fp s2 H2 _ s7 σ6 H7 _ I7 q7') (fun xv s8 ⟨v, H8, I8, rv, q8⟩ => ?_) fun _ _ z => z
        obtain ⟨m', hm, w8⟩ := hNN _ _ _ q8
        obtain ⟨b1, b2, b3, b4⟩ := back I8
        have hacc : ∀ (s9 : Shared), s9 = { s8 with heap := s8.heap.update s2.heap.objs.size (Obj.mapSeq (·.push xv)), toks := s8.toks } → ∃ m, m < n ∧ ∃ (i : Nat) (σ' : St) (ys : List V) (H' : Hp) (its : List Value) (k : Nat), Inv (cxC X (capN loc cap) scope cl C fp s2 H2) [(s2.heap.objs.size, lobj its k)] σ' H' s9 ∧ Vals ys its ∧ tn i s9.heap ∧ (∀ b ∈ fp, H' b = none) ∧ W i m σ' ys H' := by
          rintro s9 rfl
          have I8' : Inv (cxC X (capN loc cap) scope cl C fp s2 H2) (pinsAt fp s5.heap) σ6 H8 s8 := I8.pins_of fun p hp => I8.pin p (List.mem_append_right _ (List.mem_append_right _ hp))
          have hpin : ∀ p ∈ (cxC X (capN loc cap) scope cl C fp s2 H2).pn ++ pinsAt fp s5.heap, p.1 ≠ s2.heap.objs.size := fun p hp => by
            have hp' : p ∈ pinsAt fp s5.heap := by simpa [cxC] using hp
            exact Nat.ne_of_lt (fplt p.1 (of_pinsAt hp').1)
          have e9 : its.toArray.push xv = (its ++ [xv]).toArray := by simp
          obtain ⟨n9, q9⟩ : ∃ n9, (s8.heap.update s2.heap.objs.size (Obj.mapSeq (·.push xv))).get? s2.heap.objs.size = some (lobj (its ++ [xv]) n9) := by
            have z := PySem.IsL.update (show s8.heap.get? s2.heap.objs.size = some { cls := .type "list", data := .seq its.toArray k } from b3) (·.push xv)
            rw [e9] at z
            exact ⟨_, z⟩
          have I9 := I8'.turned (t' := s8.toks) (h' := s8.heap.update s2.heap.objs.size (Obj.mapSeq (·.push xv))) (it := s2.heap.objs.size) (fun b o hb q => (Heap.get?_update_other _ _ (Ne.symm hb)).trans q) b4 hDC (.inr (Nat.le_refl _)) (fun x c q => Nat.ne_of_lt (clt x c q)) hpin
          refine ⟨m', hm, i + 1, σ6, ys ++ [v], H8, its ++ [xv], n9, I9.pins_of fun p hp => ?_, r3.append (.cons rv .nil), T.keep _ _ _ b1 fun b hb o q => (Heap.get?_update_other _ _ (Nat.ne_of_gt (fplt b hb))).trans q, b2, w8⟩
          have e : p = (s2.heap.objs.size, lobj (its ++ [xv]) n9) := List.mem_singleton.mp hp
          subst e
          exact ⟨q9, b4, hDC, fun z => Nat.lt_irrefl _ (stklt _ z), fun v z => nomatch z⟩
        refine call_meets F.slot_list_append ⟨_, b3, rfl⟩ F.entry_list_append (F.args_list_append_2 _ _) (PySem.list_append s2.heap.objs.size its.toArray k xv (by rw [List.size_toArray]; omega)) ⟨b3, ?_⟩
        exact hacc _ rfl
  exact codeAny_compStart_list (loop _ rfl) (T.self _ 0 _ _ _ (T.keep _ _ _ st2 fun b _ o q => old b o q) (loop _ rfl))

/-- a block's own dict has turned -/
theorem Inv.dictOf {pins : List (Addr × Obj)} {σ σ' : St} {H2 H : Hp} {s2 s : Shared} {C : Addr} {h' : Heap} (I2 : Inv X pins σ H2 s2) (I : Inv X pins σ' H s) (hC : s2.heap.objs.size ≤ C) (hn : H C = none) (hs : Heap.SameBut C s.heap h') : Inv X pins σ' H { s with heap := h' } := by
  refine I.turned (t' := s.toks) (it := C) (fun b o hb q => (hs.2 b hb).trans q) hn (Nat.ne_of_gt (Nat.lt_of_lt_of_le I2.lt hC)) (.inr (Nat.le_trans I2.sz hC)) (fun x c q => ?_) fun p hp => ?_
  · obtain ⟨v, z⟩ := I2.cell x c q
    exact Nat.ne_of_lt (Nat.lt_of_lt_of_le z.lt hC)
  · exact Nat.ne_of_lt (Nat.lt_of_lt_of_le (Heap.lt_size (I2.pin p hp).1) hC)
/-- [e for t in it if c] -/
theorem pe_comp (loc : List Str) (cap : List (Str × Nat)) (O : CompOk X scope cl cap) (hi : PI X target iter wi) (hg : ∀ C fp s H, PG (cxC X (capN loc cap) scope cl C fp s H) target g)
    (ht : ∀ C fp s H, PTs (cxC X (capN loc cap) scope cl C fp s H) ifs tc) (he : ∀ C fp s H, PE (cxC X (capN loc cap) scope cl C fp s H) elt te)
    (hs : ∀ x, foldedSetIterable iter X.env x = pure x := by intro _; rfl) : PE X (.ListComp elt [⟨target, iter, ifs, 0⟩] scope pos) (tComp wi (capS loc cap) g tc te) := by
  intro pins s σ H Q I h
  rw [eval_ListComp]
  refine wpAny_comprehension_free (use := none) rfl hs O.clos O.kind O.names (wpAny_mono (hi pins s σ H _ I h) (fun xv s1 h1 => wpAny_mono h1 (fun itv s2 h2 => ?_) fun _ _ e => e) fun _ _ e => e)
  obtain ⟨it, fp, tn, J, H2, e, I2, T, st2, f2, W, ⟨m0, w0⟩, turn⟩ := h2
  subst e
  refine comp_block O hg ht he I2 T st2 f2 W m0 w0 Q turn (RR := fun acc C => compPost (model X.prog X.w) X.A X.xe none (EP X pins σ Q) acc C) fun D C ys H3 s4 m I4 hn hC nC q => ?_
  exact ⟨m, hn, fun h' hs' => ⟨.ref D, _, Inv.dictOf I2 I4 hC nC hs', rfl, q⟩⟩
/-- name = [e for t in it if c], stored ahead of the block's end -/
theorem ps_comp {i : Nat} {y : Str} {py spos : Pos} (loc : List Str) (cap : List (Str × Nat)) (O : CompOk X scope cl cap) (hN : X.N.Nodup) (hiN : X.N[i]? = some y) (hy : Loc X.env.scope y) (hi : PI X target iter wi) (hg : ∀ C fp s H, PG (cxC X (capN loc cap) scope cl C fp s H) target g)
    (ht : ∀ C fp s H, PTs (cxC X (capN loc cap) scope cl C fp s H) ifs tc) (he : ∀ C fp s H, PE (cxC X (capN loc cap) scope cl C fp s H) elt te)
    (hsw : swapsWith (.ListComp elt [⟨target, iter, ifs, 0⟩] scope pos) (some (.Name y py)) spos.line X.env = pure true := by rfl)
    (hs : ∀ x, foldedSetIterable iter X.env x = pure x := by intro _; rfl) (hf : X.fn y = true ∨ X.env.scope.names.lookup y = some .local := by first | exact .inl rfl | exact .inr rfl | assumption) :
    PS X (.Assign [.Name y py] (.ListComp elt [⟨target, iter, ifs, 0⟩] scope pos) spos) (tAsg (tComp wi (capS loc cap) g tc te) (gName i)) := by
  intro pins s σ H D I h
  rw [exec_Assign_Name_used _ _ _ _ hsw]
  refine wpAny_bind (wpAny_standAt (wpAny_bind ?_))
  show wpAny _ X.A (do let _ ← comprehension (.ListComp elt [⟨target, iter, ifs, 0⟩] scope pos) scope X.env _ (newList []) false (eval iter X.env) (some (assign (.Name y py) X.env))) _ _ s
  refine wpAny_bind (wpAny_mono (wpAny_comprehension_free (use := some (assign (.Name y py) X.env)) (Q := fun _ s' => SP X pins D .next s') rfl hs O.clos O.kind O.names
    (wpAny_mono (hi pins s σ H _ I h) (fun xv s1 h1 => wpAny_mono h1 (fun itv s2 h2 => ?_) fun _ _ e => e) fun _ _ e => e)) (fun _ s' hq => wpAny_pure (wpAny_pure hq)) fun _ _ e => e)
  obtain ⟨it, fp, tn, J, H2, e, I2, T, st2, f2, W, ⟨m0, w0⟩, turn⟩ := h2
  subst e
  refine comp_block O hg ht he I2 T st2 f2 W m0 w0 (fun x H1 => gName i x σ H1 D.nx) turn (RR := fun acc C => compPost (model X.prog X.w) X.A X.xe (some (assign (.Name y py) X.env)) (fun _ s' => SP X pins D .next s') acc C) fun D2 C ys H3 s4 m I4 hn hC nC q => ?_
  show wpAny _ X.A (assign (.Name y py) X.env (.ref D2)) _ _ s4
  refine wpAny_assign_Name (store_ok2 I4 hN hiN hy (v := .ref D2) rfl (fun s5 I5 ⟨a, hsa, ha⟩ => ?_) hf)
  have hCa : C ≠ a := by
    rcases ha with z | z
    · rw [z]
      exact Nat.ne_of_gt (Nat.lt_of_lt_of_le I2.lt hC)
    · obtain ⟨v, z2⟩ := I2.cell y a z
      exact Nat.ne_of_gt (Nat.lt_of_lt_of_le z2.lt hC)
  exact ⟨m, hn.sameBut hsa hCa, fun h' hs' => ⟨_, _, Inv.dictOf I2 I5 hC nC hs', q⟩⟩
end
/-! ### the forms one uses -/
theorem comp_range {lo : Int} {n : Nat} {g : TG} {tc : TT} {te : TE} {σ : St} {H : Hp} {Q : VK} (Pv : Nat → St → List V → Hp → Prop) (h0 : Pv 0 σ [] H) (hl : ∀ i σ ys H, Pv i σ ys H → ys.length < sizeLine)
    (hs : ∀ i σ ys H, i < n → Pv i σ ys H → g (.int (lo + i)) σ H fun σ2 H3 => tc σ2 H3 fun b H4 => if b = true then te σ2 H4 fun v H5 => Pv (i + 1) σ2 (ys ++ [v]) H5 else Pv (i + 1) σ2 ys H4)
    (hd : ∀ σ ys H, Pv n σ ys H → ∀ D, H D = none → Q (.ref D) (upd H D (.lst ys))) :
    ∃ W : Nat → Nat → St → List V → Hp → Prop, (∃ m, W 0 m σ [] H) ∧ ∀ i m σ' ys H', W i m σ' ys H' → ys.length < sizeLine ∧ (((Itr lo n).stop i H' ∧ ∀ D, H' D = none → Q (.ref D) (upd H' D (.lst ys))) ∨
      ((Itr lo n).go i H' ∧ ∃ N : St → List V → Hp → Prop, (∀ σ' ys' H', N σ' ys' H' → ∃ m', m' < m ∧ W (i + 1) m' σ' ys' H') ∧
        ∀ x H2, (Itr lo n).yld i H' x H2 → g x σ' H2 fun σ2 H3 => tc σ2 H3 fun b H4 => if b = true then te σ2 H4 fun v H5 => N σ2 (ys ++ [v]) H5 else N σ2 ys H4)) := by
  refine ⟨fun i m σ ys H => m = n - i ∧ i ≤ n ∧ Pv i σ ys H, ⟨n, by simp, Nat.zero_le _, h0⟩, ?_⟩
  rintro i m σ ys H ⟨rfl, hi, p⟩
  refine ⟨hl i σ ys H p, ?_⟩
  by_cases hlt : i < n
  · refine .inr ⟨hlt, Pv (i + 1), fun σ' ys' H' p' => ⟨n - (i + 1), by omega, rfl, hlt, p'⟩, fun x H' y => ?_⟩
    obtain ⟨e, y⟩ := y
    subst e y
    exact hs i σ ys _ hlt p
  · have e : i = n := by omega
    subst e
    exact .inl ⟨Nat.le_refl _, hd σ ys H p⟩
theorem comp_list {K : PySem.W.Frag} {a : Addr} {xs : List V} {g : TG} {tc : TT} {te : TE} {σ : St} {H : Hp} {Q : VK} (Pv : Nat → St → List V → Hp → Prop) (h0 : Pv 0 σ [] H) (hl : ∀ i σ ys H, Pv i σ ys H → ys.length < sizeLine ∧ SqL K H a xs)
    (hs : ∀ i x σ ys H, xs[i]? = some x → Pv i σ ys H → g x σ H fun σ2 H3 => tc σ2 H3 fun b H4 => if b = true then te σ2 H4 fun v H5 => Pv (i + 1) σ2 (ys ++ [v]) H5 else Pv (i + 1) σ2 ys H4)
    (hd : ∀ σ ys H, Pv xs.length σ ys H → ∀ D, H D = none → Q (.ref D) (upd H D (.lst ys))) :
    ∃ W : Nat → Nat → St → List V → Hp → Prop, (∃ m, W 0 m σ [] H) ∧ ∀ i m σ' ys H', W i m σ' ys H' → ys.length < sizeLine ∧ (((Itl K a).stop i H' ∧ ∀ D, H' D = none → Q (.ref D) (upd H' D (.lst ys))) ∨
      ((Itl K a).go i H' ∧ ∃ N : St → List V → Hp → Prop, (∀ σ' ys' H', N σ' ys' H' → ∃ m', m' < m ∧ W (i + 1) m' σ' ys' H') ∧
        ∀ x H2, (Itl K a).yld i H' x H2 → g x σ' H2 fun σ2 H3 => tc σ2 H3 fun b H4 => if b = true then te σ2 H4 fun v H5 => N σ2 (ys ++ [v]) H5 else N σ2 ys H4)) := by
  refine ⟨fun i m σ ys H => m = xs.length - i ∧ i ≤ xs.length ∧ Pv i σ ys H, ⟨xs.length, by simp, Nat.zero_le _, h0⟩, ?_⟩
  rintro i m σ ys H ⟨rfl, hi, p⟩
  obtain ⟨l1, q⟩ := hl i σ ys H p
  refine ⟨l1, ?_⟩
  by_cases hlt : i < xs.length
  · refine .inr ⟨⟨xs, xs[i], q, by simp [hlt]⟩, Pv (i + 1), fun σ' ys' H' p' => ⟨xs.length - (i + 1), by omega, rfl, hlt, p'⟩, fun x H' y => ?_⟩
    obtain ⟨e, y⟩ := y
    subst e
    exact hs i x σ ys _ (y xs q) p
  · have e : i = xs.length := by omega
    subst e
    exact .inl ⟨⟨xs, q, Nat.le_refl _⟩, hd σ ys H p⟩
/-! ### what a comprehension's scope is asked, by a look -/
def compLook (scope : Scope) : Bool := (scope.names.all fun y => y.2 != .cell) && (scope.kind == .function) && (scope.names.all fun y => y.2 != .local || scope.names.lookup y.1 == some .local)
theorem CompOk.by_look {X : Cx} {scope : Scope} {cl : List (Str × Addr)} {cap : List (Str × Nat)} (hc : X.calm = true) (hclos : closureFor scope X.env = pure cl) (hl : compLook scope = true)
    (hsub : ∀ x c, cl.lookup x = some c → X.env.cells.lookup x = some c) (hhas : ((relabel scope X.env).names.all fun p => (p.2 != .cell && p.2 != .free) || (cl.lookup p.1).isSome) = true)
    (hcap : ∀ p ∈ cap, X.N[p.2]? = some p.1 ∧ X.env.scope.names.lookup p.1 = some .cell ∧ (relabel scope X.env).names.lookup p.1 = some .cell) : CompOk X scope cl cap := by
  unfold compLook at hl
  rw [Bool.and_eq_true, Bool.and_eq_true] at hl
  obtain ⟨⟨h1, h2⟩, h3⟩ := hl
  refine ⟨hc, hclos, fun y hy e => ?_, by simpa using h2, fun y hy e => ?_, hsub, fun x h => ?_, hcap⟩
  · have := List.all_eq_true.mp h1 y hy
    rw [e] at this
    simp at this
  · have := List.all_eq_true.mp h3 y hy
    rw [e] at this
    simpa using this
  · have key : ∀ k, (relabel scope X.env).names.lookup x = some k → (k = .cell ∨ k = .free) → ∃ c, cl.lookup x = some c := fun k e hk => by
      have := List.all_eq_true.mp hhas (x, k) (PySem.mem_of_lookup e)
      have h4 : (cl.lookup x).isSome = true := by
        rcases hk with rfl | rfl
        · exact this
        · exact this
      exact Option.isSome_iff_exists.mp h4
    rcases h with h | h
    · exact key _ h (.inl rfl)
    · exact key _ h (.inr rfl)
end L2
namespace L2
open PySem PySem.Spec PyProof.Rows
/-! ### list(reversed(xs)) -/
theorem nolen_lri : typeLookup (.type "list_reverseiterator") "__len__" = pure none := by rw [typeLookup_type, builtinLookup_eq_fast]; kernel_rfl
theorem hint_lri : typeLookup (.type "list_reverseiterator") "__length_hint__" = pure (some (.builtin "list_reverseiterator.__length_hint__")) := by rw [typeLookup_type, builtinLookup_eq_fast]; kernel_rfl
section
variable {prog : Program} {w : World} {A : Around} {E : Value → Shared → Prop} {s : Shared}
theorem extend_rev {R : Result → Shared → Prop} (hh : A.handled = none) (I l : Addr) (hne : l ≠ I) (items : Array Value) (S : Addr) (res : Value) (c₀ : Nat) (hS : s.heap.get? S = some ⟨.type "list", none, .seq #[] c₀, #[]⟩) (hSI : S ≠ I) (hSl : S ≠ l)
    (hit : s.heap.IsRevIter I l ((items.size : Int) - 1)) (hl : s.heap.IsList l items) (hn : items.size ≤ sizeLine)
    (hR : ∀ h' tk acc' c', (∀ b o, b ≠ S → b ≠ I → s.heap.get? b = some o → h'.get? b = some o) → h'.get? S = some ⟨.type "list", none, .seq acc' c', #[]⟩ →
      ItemsOf (fun i v => items[items.size - 1 - i]? = some v) acc' items.size → R (.ok (.ret res)) { s with heap := h', toks := tk }) :
    wpAny (model prog w) A.in1 (Builtin.List.listExtendWith (.ref S) (.ref I) res)
      (fun fin s' => match fin with | .done f => R (.ok f) s' | .again c' => c'.quiet = true ∧ codeAny (model prog w) A c' R s') (fun e s' => R (.error e) s') s := by
  have hSf : S ∉ [I, l] := fun hm => by
    rcases List.mem_cons.mp hm with e | e
    · exact hSI e
    · exact hSl (List.mem_singleton.mp e)
  have W := Walks.listRev (prog := prog) (w := w) (A := A.in1) hh I l hne items
  have hst : (0 ≤ items.size ∧ s.heap.IsRevIter I l ((items.size : Int) - 1 - ((0 : Nat) : Int)) ∧ s.heap.IsList l items) := ⟨Nat.zero_le _, by simpa using hit, hl⟩
  unfold Builtin.List.listExtendWith
  refine wpAny_bind (wpAny_typeOf hit.typeIs ?_)
  have h1 : Builtin.List.listSameRef (.ref S) (.ref I) = false := by simp [Builtin.List.listSameRef, hSI]
  rw [if_neg (by rw [h1]; decide)]
  refine wpAny_bind (W.self 0 _ _ _ hst ?_)
  refine wpAny_bind (wpAny_holding ?_)
  unfold Builtin.List.listLengthHint
  refine wpAny_bind (wpAny_specialOf hit.typeIs nolen_lri ?_)
  show wpAny _ A.in1 (specialOf (Value.ref I) (Str.ofString "__length_hint__") >>= _) _ _ _
  refine wpAny_bind (wpAny_specialOf hit.typeIs hint_lri ?_)
  generalize hid : ("list_reverseiterator.__length_hint__" : String) = id0
  wp_delta
  rw [show splitId id0 = some ("list_reverseiterator", "__length_hint__") from by subst hid; decide +kernel]
  subst hid
  refine wpAny_bind (wpAny_isInstance (b := true) hit.typeIs (by rw [isSubtype_type]; kernel_rfl) ?_)
  refine wpAny_pure ?_
  rw [if_neg (by decide)]
  refine wpAny_pure ⟨plainId_quiet F.plain_extend_loop _, codeAny_extend_loopS W.toS hn _ hSf _ items.size 0 _ _ _ rfl (Nat.zero_le _) hst hS (ItemsOf.nil _) fun s' acc' c' hm hS' hacc => ?_⟩
  rw [Moved.eq_with hm]
  refine hR s'.heap s'.toks acc' c' (fun b o hb hb2 e => hm.heap b o (fun hmem => ?_) e) hS' hacc
  · rcases List.mem_cons.mp hmem with e' | hmem
    · exact hb e'
    · exact hb2 (List.mem_singleton.mp hmem)
theorem init_rev {R : Result → Shared → Prop} (hh : A.handled = none) (I l : Addr) (hne : l ≠ I) (items : Array Value) (S : Addr) (hS : s.heap.get? S = some ⟨.type "list", none, .seq #[] 0, #[]⟩) (hSI : S ≠ I) (hSl : S ≠ l)
    (hit : s.heap.IsRevIter I l ((items.size : Int) - 1)) (hl : s.heap.IsList l items) (hn : items.size ≤ sizeLine)
    (hR : ∀ h' tk acc' c', (∀ b o, b ≠ S → b ≠ I → s.heap.get? b = some o → h'.get? b = some o) → h'.get? S = some ⟨.type "list", none, .seq acc' c', #[]⟩ →
      ItemsOf (fun i v => items[items.size - 1 - i]? = some v) acc' items.size → R (.ok (.ret .none)) { s with heap := h', toks := tk }) :
    wpAny (model prog w) A.in1 (Builtin.«list.__init__» ⟨[.ref S, .ref I], []⟩)
      (fun fin s' => match fin with | .done f => R (.ok f) s' | .again c' => c'.quiet = true ∧ codeAny (model prog w) A c' R s') (fun e s' => R (.error e) s') s := by
  show wpAny _ _ (do let old ← Builtin.List.listItems (.ref S); Builtin.List.listUpdate (.ref S) (fun _ => #[]); letGo old.toList.reverse; Builtin.List.listExtendWith (.ref S) (.ref I) .none) _ _ s
  refine wpAny_bind ?_
  unfold Builtin.List.listItems
  refine wpAny_bind (wpAny_seqItems hS rfl (wpAny_pure ?_))
  show wpAny _ _ (updateSeq S (fun _ => #[]) >>= fun _ => letGo (#[] : Array Value).toList.reverse >>= fun _ => Builtin.List.listExtendWith (.ref S) (.ref I) .none) _ _ s
  refine wpAny_bind (wpAny_updateSeq hS rfl ?_)
  have hS2 := Heap.get?_update_self (Obj.mapSeq (fun _ => (#[] : Array Value))) hS rfl
  have oth : ∀ b o, b ≠ S → s.heap.get? b = some o → (s.heap.update S (Obj.mapSeq (fun _ => (#[] : Array Value)))).get? b = some o :=
    fun b o hb e => (Heap.get?_update_other _ _ (Ne.symm hb)).trans e
  refine wpAny_bind (wpAny_letGo ?_)
  refine extend_rev hh I l hne items S .none _ hS2 hSI hSl (hit.at fun o e => oth _ o (Ne.symm hSI) e) (hl.at fun o e => oth _ o (Ne.symm hSl) e) hn fun h' tk acc' c' hk hS' hacc => ?_
  exact hR h' tk acc' c' (fun b o hb hb2 e => hk b o hb hb2 (oth b o hb e)) hS' hacc
theorem call_list_revIter {Q : Value → Shared → Prop} (hh : A.handled = none) (I l : Addr) (hne : l ≠ I) (items : Array Value) (hit : s.heap.IsRevIter I l ((items.size : Int) - 1)) (hl : s.heap.IsList l items) (hn : items.size ≤ sizeLine)
    (hQ : ∀ h' tk acc' c', (∀ b o, b ≠ I → s.heap.get? b = some o → h'.get? b = some o) → h'.get? s.heap.objs.size = some ⟨.type "list", none, .seq acc' c', #[]⟩ →
      ItemsOf (fun i v => items[items.size - 1 - i]? = some v) acc' items.size → Q (.ref s.heap.objs.size) { s with heap := h', toks := tk }) :
    wpAny (model prog w) A (call (.type "list") [.ref I]) Q E s := by
  refine callType_codes (Q₁ := fun obj s1 => obj = .ref s.heap.objs.size ∧ s1 = { s with heap := s.heap.push { cls := .type "list", data := .seq #[] } }) F.called_list (F.typeCall_list_1 _) F.entry_list_init
    (code_list_new _ ⟨rfl, rfl⟩) fun obj s1 h1 => ?_
  obtain ⟨rfl, rfl⟩ := h1
  have hS : (s.heap.push { cls := .type "list", data := .seq #[] }).get? s.heap.objs.size = some { cls := .type "list", data := .seq #[] } := Heap.get?_push_size _ rfl
  have hI : s.heap.objs.size ≠ I := fun e => by
    obtain ⟨o, ho, _⟩ := hit
    exact Nat.lt_irrefl _ (e ▸ Heap.lt_size ho)
  have hL : s.heap.objs.size ≠ l := fun e => by
    obtain ⟨o, ho, _⟩ := hl
    exact Nat.lt_irrefl _ (e ▸ Heap.lt_size ho)
  refine ⟨⟨_, hS, rfl⟩, F.args_list_init_2 _ _, init_rev (A := A.in1) hh I l hne items _ hS hI hL (hit.at fun o e => Heap.get?_push_of_some _ e) (hl.at fun o e => Heap.get?_push_of_some _ e) hn fun h' tk acc' c' hk hS' hacc => ?_⟩
  exact ⟨rfl, hQ h' tk acc' c' (fun b o hb e => hk b o (Nat.ne_of_lt (Heap.lt_size e)) hb (Heap.get?_push_of_some _ e)) hS' hacc⟩
end
theorem items_rev {items : Array Value} {acc : Array Value} (h : ItemsOf (fun i v => items[items.size - 1 - i]? = some v) acc items.size) : acc.toList = items.toList.reverse := by
  apply List.ext_getElem?
  intro i
  obtain ⟨h1, h2⟩ := h
  by_cases hi : i < items.size
  · have e : acc[i]? = some (acc[i]'(by omega)) := Array.getElem?_eq_getElem (by omega)
    have q := h2 i _ e
    rw [List.getElem?_reverse (by simpa using hi)]
    simp only [Array.getElem?_toList, Array.length_toList]
    rw [e, q]
  · rw [List.getElem?_eq_none (by simp; omega), List.getElem?_eq_none (by simp; omega)]
def del (H : Hp) (r : Addr) : Hp := fun b => if b = r then none else H b
theorem del_upd {H : Hp} {r : Addr} {o : HO} (h : H r = none) : del (upd H r o) r = H := by
  funext b
  unfold del upd
  by_cases e : b = r
  · subst e
    rw [if_pos rfl, h]
  · rw [if_neg e, if_neg e]
section
variable {X : Cx}
def RevO (X : Cx) (r p : Addr) (n : Nat) : HO := .ext fun h => h.IsRevIter r p ((n : Int) - 1) ∧ X.s₀.heap.objs.size ≤ r
theorem call_reversed : CallR X (.type "reversed") (fun xs H Q => ∃ p ys, xs = [.ref p] ∧ SqL X.K H p ys ∧ ∀ r, H r = none → Q (.ref r) (upd H r (RevO X r p ys.length))) := by
  intro pins s σ H xs us Q I r h
  obtain ⟨p, ys, rfl, hq, q⟩ := h
  obtain ⟨u, rfl, rx⟩ := vals1 r
  cases rx
  obtain ⟨its, r', pl, hz⟩ := I.list hq
  have hlen := r'.length
  refine call_reversed_list pl.isList ?_
  refine ⟨.ref s.heap.objs.size, _, I.laid (t' := s.toks) (o := RevO X s.heap.objs.size p ys.length) (fun b ob q => Heap.get?_push_of_some _ q) (Nat.le_refl _) ?_, rfl, q _ (I.hok.fresh (Nat.le_refl _))⟩
  refine ⟨⟨⟨_, Heap.get?_push_size _ rfl, rfl, ?_⟩, I.sz⟩, ⟨_, Heap.get?_push_size _ rfl⟩, fun h1 h2 a b => ⟨a.1.at b, a.2⟩⟩
  show Data.fields _ = _
  rw [List.size_toArray, hlen]
theorem call_list_rev (hc : X.calm = true) : CallR X (.type "list") (fun xs H Q => ∃ r p ys, xs = [.ref r] ∧ H r = some (RevO X r p ys.length) ∧ SqL X.K H p ys ∧ ∀ l, del H r l = none → Q (.ref l) (upd (del H r) l (.lst ys.reverse))) := by
  intro pins s σ H xs us Q I rv h
  obtain ⟨r, p, ys, rfl, hr, hq, q⟩ := h
  obtain ⟨u, rfl, rx⟩ := vals1 rv
  cases rx
  obtain ⟨its, r', pl, hz⟩ := I.list hq
  have hlen := r'.length
  obtain ⟨⟨hit, hs0⟩, _, _⟩ := (show ObjOk X.prog X.w H s.heap r (RevO X r p ys.length) from I.hok r _ hr)
  have hpr : p ≠ r := fun e => by
    subst e
    obtain ⟨o, h1, h2, _⟩ := hit
    obtain ⟨o', h1', h2', _⟩ := pl.isList
    rw [h1] at h1'
    cases h1'
    rw [h2] at h2'
    injection h2' with h3
    exact absurd h3 (by decide)
  have hsz : its.toArray.size = ys.length := by rw [List.size_toArray]; exact hlen.symm
  refine call_list_revIter (I.ok.hd hc) r p hpr its.toArray (by rw [hsz]; exact hit) pl.isList (by rw [hsz]; exact hz) fun h' tk acc' c' hk hS' hacc => ?_
  have eacc := items_rev hacc
  have hl0 : del H r s.heap.objs.size = none := by
    unfold del
    split
    · rfl
    · exact I.fresh
  have nl : s.heap.objs.size ≠ r := fun e => by
    obtain ⟨o, h1, _⟩ := hit
    exact Nat.lt_irrefl _ (e ▸ Heap.lt_size h1)
  have dl : ∀ b u, H b = some u → b ≠ r → del H r b = some u := fun b u e ne => by
    unfold del
    rw [if_neg ne]
    exact e
  have ok1 : HOk X.prog X.w (del H r) h' := fun b u e => by
    unfold del at e
    split at e
    · cases e
    · rename_i ne
      refine (I.hok b u e).stay (fun c v hc' e2 => hk c v ?_ e2) (fun c e2 => dl c _ e2 ?_) fun c xs e2 => dl c _ e2 ?_
      · rcases hc' with z | z
        · rw [z]; exact ne
        · rintro rfl
          rw [hr] at z
          cases z
      · rintro rfl
        rw [hr] at e2
        cases e2
      · rintro rfl
        rw [hr] at e2
        cases e2
  have dn : ∀ b, H b = none → (upd (del H r) s.heap.objs.size (.lst ys.reverse)) b = none ∨ b = s.heap.objs.size := fun b e => by
    by_cases hb : b = s.heap.objs.size
    · exact .inr hb
    · left
      rw [upd_ne hb]
      unfold del
      split
      · rfl
      · exact e
  have dk : ∀ b u, H b = some u → b ≠ r → (upd (del H r) s.heap.objs.size (.lst ys.reverse)) b = some u := fun b u e ne => by
    rw [upd_ne (fun z => by rw [z, I.fresh] at e; cases e)]
    exact dl b u e ne
  have ok2 : HOk X.prog X.w (upd (del H r) s.heap.objs.size (.lst ys.reverse)) h' := HOk.track ok1 hl0 ⟨by rw [List.length_reverse]; exact hz, acc'.toList, c', by rw [eacc]; exact r'.reverse, by rw [hS', Array.toArray_toList]⟩
  have nr : ∀ b, H b = none → b ≠ r := fun b e z => by
    rw [z, hr] at e
    cases e
  have nt : ∀ b u, H b = some u → (∀ φ, u ≠ HO.ext φ) → b ≠ r := fun b u e hu z => by
    rw [z, hr] at e
    exact hu _ (Option.some.inj e).symm
  have I2 : Inv X pins σ (upd (del H r) s.heap.objs.size (.lst ys.reverse)) { s with heap := h', gens := s.gens, drawn := s.drawn, toks := tk } := by
    refine I.step (g' := s.gens) (d' := s.drawn) (ch := [r]) (fun b hb => ?_) (fun b o _ _ _ e n => hk b o (nr b n) e) (fun b o _ _ _ e n => ⟨o.slots, hk b o (nr b n) e⟩) (fun b o _ e n => ?_) (fun b o hb e => ⟨o, hk b o (fun z => hb (by simp [z])) e⟩) (fun b xs e => dk b _ e (nt b _ e fun _ z => nomatch z)) (fun b o u e => dk b _ e (nt b _ e fun _ z => nomatch z)) (fun b ps e => ⟨#[], by rw [dk b _ e (nt b _ e fun _ z => nomatch z)]; simp⟩) (fun m hm => ?_) ok2 I.bare
    · have e : b = r := by simpa using hb
      subst e
      exact ⟨.inr hs0, (fun z => by rw [z, I.free] at hr; cases hr), (fun x c e2 z => by rw [← z, I.freeC x c e2] at hr; cases hr), (fun p2 hp z => by rw [← z, (I.pin p2 hp).2.1] at hr; cases hr)⟩
    · rcases dn b n with z | z
      · exact z
      · exact absurd (Heap.lt_size e) (by rw [z]; exact Nat.lt_irrefl _)
    · obtain ⟨o, es, ep, ho, z⟩ := hm
      exact ⟨o, es, ep, hk _ o (nr _ I.free) ho, z⟩
  exact ⟨.ref s.heap.objs.size, _, I2, rfl, q _ hl0⟩
end
end L2
namespace L2
open PySem PySem.Spec PyProof.Rows
/-! ### zip of two tracked lists, its pairs unpacked -/
def Itz (l1 l2 : Addr) : It :=
  ⟨fun i H => ∃ xs ys x y, H l1 = some (.lst xs) ∧ H l2 = some (.lst ys) ∧ xs[i]? = some x ∧ ys[i]? = some y,
   fun i H v H' => ∃ T, v = .ref T ∧ H T = none ∧ ∀ xs ys x y, H l1 = some (.lst xs) → H l2 = some (.lst ys) → xs[i]? = some x → ys[i]? = some y → H' = upd H T (.tup [x, y]),
   fun i H => ∃ xs ys, H l1 = some (.lst xs) ∧ H l2 = some (.lst ys) ∧ (xs.length ≤ i ∨ ys.length ≤ i)⟩
def ZipSt (l1 l2 : Addr) (n : Nat) (i : Nat) (h : Heap) : Prop := IsZip h (n + 4) (n + 2) (n + 3) .none ∧ IsPair h (n + 2) (.ref n) (.ref (n + 1)) ∧ (∃ a b, IsPair h (n + 3) a b) ∧ h.IsListIter n l1 i ∧ h.IsListIter (n + 1) l2 i
theorem ane {a b : Nat} (h : ¬ a = b) : @Ne Addr a b := h
theorem zip_apart {n : Nat} {l1 l2 : Addr} (h1 : ∀ k : Nat, k < 5 → @Ne Nat l1 (n + k)) (h2 : ∀ k : Nat, k < 5 → @Ne Nat l2 (n + k)) : ZipApart (n + 4) (n + 2) (n + 3) n (n + 1) l1 l2 where
  TIz := ane (by omega)
  TOz := ane (by omega)
  i1z := ane (by omega)
  i2z := ane (by omega)
  TITO := ane (by omega)
  TIi1 := ane (by omega)
  TIi2 := ane (by omega)
  TOi1 := ane (by omega)
  TOi2 := ane (by omega)
  i12 := ane (by omega)
  l1z := h1 4 (by omega)
  l1TO := h1 3 (by omega)
  l1i1 := h1 0 (by omega)
  l1i2 := h1 1 (by omega)
  l2z := h2 4 (by omega)
  l2TO := h2 3 (by omega)
  l2i1 := h2 0 (by omega)
  l2i2 := h2 1 (by omega)
theorem turn_zip {P : Program} {w : World} {K : PySem.W.Frag} {es : List Expr} {k : Nat} {tpos : Pos} (l1 l2 : Addr) (n : Nat) : Turn P w K (.Tuple es k tpos) (Itz l1 l2) [n + 4, n + 2, n + 3, n, n + 1] (n + 4) (ZipSt l1 l2 n) where
  mem := by simp
  obj := fun i h st b hb => by
    obtain ⟨hz, hTI, ⟨a, c, hTO⟩, h1, h2⟩ := st
    simp only [List.mem_cons, List.not_mem_nil, or_false] at hb
    rcases hb with rfl | rfl | rfl | rfl | rfl
    · exact ⟨_, hz, fun v z => nomatch z⟩
    · exact ⟨_, hTI, fun v z => nomatch z⟩
    · exact ⟨_, hTO, fun v z => nomatch z⟩
    · obtain ⟨o, e, c, d⟩ := h1
      exact ⟨o, e, fun v z => by rw [d] at z; cases z⟩
    · obtain ⟨o, e, c, d⟩ := h2
      exact ⟨o, e, fun v z => by rw [d] at z; cases z⟩
  keep := fun i h h' st kp => by
    obtain ⟨hz, hTI, ⟨a, c, hTO⟩, h1, h2⟩ := st
    exact ⟨kp _ (by simp) _ hz, kp _ (by simp) _ hTI, ⟨a, c, kp _ (by simp) _ hTO⟩, h1.at fun o e => kp _ (by simp) o e, h2.at fun o e => kp _ (by simp) o e⟩
  item := by
    intro X hP hw hK hc i pins s σ H E I hf st hg
    subst hP hw hK
    obtain ⟨hz, hTI, ⟨a, c, hTO⟩, hi1, hi2⟩ := st
    obtain ⟨xs, ys, x, y, hx1, hy1, hx, hy⟩ := hg
    have nf : ∀ j : Nat, j < 5 → (n + j : Nat) ∈ ([n + 4, n + 2, n + 3, n, n + 1] : List Nat) := fun j hj => by
      have : j = 0 ∨ j = 1 ∨ j = 2 ∨ j = 3 ∨ j = 4 := by omega
      rcases this with rfl | rfl | rfl | rfl | rfl <;> simp
    have D := zip_apart (n := n) (l1 := l1) (l2 := l2) (fun j hj => ne_of_none hx1 (hf _ (nf j hj)).1) (fun j hj => ne_of_none hy1 (hf _ (nf j hj)).1)
    obtain ⟨its1, rv1, p1, hz1⟩ := I.list (SqL.of hx1)
    obtain ⟨its2, rv2, p2, hz2⟩ := I.list (SqL.of hy1)
    obtain ⟨u1, hu1, ru1⟩ := rv1.get hx
    obtain ⟨u2, hu2, ru2⟩ := rv2.get hy
    refine wpAny_pyNext_zip_item D hz hTI hTO hi1 hi2 p1.isList p2.isList (x := u1) (y := u2) (by simpa using hu1) (by simpa using hu2) fun h' a1 a2 a3 a4 a5 a6 a7 => ?_
    refine ⟨_, rfl, wpAny_letOwnedTupleGo_zip (s := { s with heap := h' }) a1 fun h2 hz' hs' => ?_⟩
    have hTn : H s.heap.objs.size = none := I.fresh
    have kept : ∀ b o, b ∉ [n + 4, n + 3, n, n + 1] → s.heap.get? b = some o → h2.get? b = some o := fun b o hb e => by
      simp only [List.mem_cons, List.not_mem_nil, or_false, not_or] at hb
      exact (hs'.2 b hb.1).trans (a7 b o hb.1 hb.2.1 hb.2.2.1 hb.2.2.2 e)
    have sub4 : ∀ b ∈ [n + 4, n + 3, n, n + 1], b ∈ [n + 4, n + 2, n + 3, n, n + 1] := fun b hb => by
      simp only [List.mem_cons, List.not_mem_nil, or_false] at hb ⊢
      rcases hb with rfl | rfl | rfl | rfl <;> simp
    have notch : ∀ b u, H b = some u → b ∉ [n + 4, n + 3, n, n + 1] := fun b u e hb => by
      have := (hf b (sub4 b hb)).1
      rw [e] at this
      cases this
    have zlt : n + 4 < s.heap.objs.size := Heap.lt_size hz
    have hTz : s.heap.objs.size ≠ n + 4 := Nat.ne_of_gt zlt
    have hT5 : h2.get? s.heap.objs.size = some { cls := .type "tuple", data := .seq #[u1, u2] } := (hs'.2 _ hTz).trans a5
    have ok1 : HOk X.prog X.w H h2 := fun b u e => by
      refine (I.hok b u e).stay (fun c v hc q => kept c v ?_ q) (fun _ q => q) fun _ _ q => q
      rcases hc with z | z
      · rw [z]; exact notch b u e
      · exact notch c _ z
    have ok2 : HOk X.prog X.w (upd H s.heap.objs.size (.tup [x, y])) h2 := HOk.track ok1 hTn ⟨by show 2 ≤ sizeLine; decide, [u1, u2], .cons ru1 (.cons ru2 .nil), ⟨_, hT5, rfl, _, rfl⟩⟩
    have lt : ∀ b o, s.heap.get? b = some o → b ≠ s.heap.objs.size := fun b o e => Nat.ne_of_lt (Heap.lt_size e)
    have kt : ∀ b u, H b = some u → (upd H s.heap.objs.size (.tup [x, y])) b = some u := fun b u e => by
      rw [upd_ne (ne_of_none e hTn)]
      exact e
    have I2 : Inv X pins σ (upd H s.heap.objs.size (.tup [x, y])) { s with heap := h2, gens := s.gens, drawn := s.drawn, toks := s.toks } := by
      refine I.step (g' := s.gens) (d' := s.drawn) (t' := s.toks) (ch := [n + 4, n + 3, n, n + 1]) (fun b hb => ?_) (fun b o _ _ hb e _ => kept b o hb e) (fun b o _ _ hb e _ => ⟨o.slots, kept b o hb e⟩) (fun b o _ e nn => by rw [upd_ne (lt b o e)]; exact nn) (fun b o hb e => ⟨o, kept b o hb e⟩) (fun b zs e => kt b _ e) (fun b o u e => kt b _ e) (fun b ps e => ⟨#[], by rw [kt b _ e]; simp⟩) (fun m hm => ?_) ok2 I.bare
      · obtain ⟨f0, f1, f2, f3, f4, f5⟩ := hf b (sub4 b hb)
        exact ⟨f3, f1, f4, f5⟩
      · obtain ⟨o, e, ep, ho, r⟩ := hm
        exact ⟨o, e, ep, kept _ o (fun hb => (hf _ (sub4 _ hb)).2.1 rfl) ho, r⟩
    refine ⟨.ref s.heap.objs.size, _, I2, rfl, ⟨_, rfl, hTn, fun xs' ys' x' y' e1 e2 e3 e4 => ?_⟩, ⟨hz', ?_, ⟨u1, u2, (hs'.2 _ (ane (by omega))).trans a2⟩, a3.at fun o e => (hs'.2 _ (ane (by omega))).trans e, a4.at fun o e => (hs'.2 _ (ane (by omega))).trans e⟩, fun b hb => ?_⟩
    · rw [hx1] at e1
      rw [hy1] at e2
      cases e1
      cases e2
      rw [hx] at e3
      rw [hy] at e4
      cases e3
      cases e4
      rfl
    · refine kept _ _ (fun hb => ?_) hTI
      have hb' : (n + 2 : Nat) ∈ ([n + 4, n + 3, n, n + 1] : List Nat) := hb
      simp only [List.mem_cons, List.not_mem_nil, or_false] at hb'
      omega
    · have hbn := (hf b hb).1
      have hbl : b ≠ s.heap.objs.size := fun z => by
        have hb' : (s.heap.objs.size : Nat) ∈ ([n + 4, n + 2, n + 3, n, n + 1] : List Nat) := by rw [← z]; exact hb
        simp only [List.mem_cons, List.not_mem_nil, or_false] at hb'
        omega
      rw [upd_ne hbl]
      exact hbn
  done := by
    intro X hP hw hK hc i pins s σ H E I hf st hg
    subst hP hw hK
    obtain ⟨hz, hTI, ⟨a, c, hTO⟩, hi1, hi2⟩ := st
    obtain ⟨xs, ys, hx1, hy1, hend⟩ := hg
    have nf : ∀ j : Nat, j < 5 → (n + j : Nat) ∈ ([n + 4, n + 2, n + 3, n, n + 1] : List Nat) := fun j hj => by
      have : j = 0 ∨ j = 1 ∨ j = 2 ∨ j = 3 ∨ j = 4 := by omega
      rcases this with rfl | rfl | rfl | rfl | rfl <;> simp
    have D := zip_apart (n := n) (l1 := l1) (l2 := l2) (fun j hj => ne_of_none hx1 (hf _ (nf j hj)).1) (fun j hj => ne_of_none hy1 (hf _ (nf j hj)).1)
    obtain ⟨its1, rv1, p1, hz1⟩ := I.list (SqL.of hx1)
    obtain ⟨its2, rv2, p2, hz2⟩ := I.list (SqL.of hy1)
    have hl1 := rv1.length
    have hl2 := rv2.length
    refine wpAny_pyNext_zip_end (I.ok.hd hc) D hz hTI hTO hi1 hi2 p1.isList p2.isList ?_ fun h' a7 => ⟨rfl, ?_⟩
    · rcases hend with z | z
      · exact .inl (by simp; omega)
      · exact .inr (by simp; omega)
    have kept : ∀ b o, b ∉ [n + 4, n + 3, n, n + 1] → s.heap.get? b = some o → h'.get? b = some o := fun b o hb e => by
      simp only [List.mem_cons, List.not_mem_nil, or_false, not_or] at hb
      exact a7 b o hb.1 hb.2.1 hb.2.2.1 hb.2.2.2 e
    have sub4 : ∀ b ∈ [n + 4, n + 3, n, n + 1], b ∈ [n + 4, n + 2, n + 3, n, n + 1] := fun b hb => by
      simp only [List.mem_cons, List.not_mem_nil, or_false] at hb ⊢
      rcases hb with rfl | rfl | rfl | rfl <;> simp
    have notch : ∀ b u, H b = some u → b ∉ [n + 4, n + 3, n, n + 1] := fun b u e hb => by
      have := (hf b (sub4 b hb)).1
      rw [e] at this
      cases this
    refine I.step (g' := s.gens) (d' := s.drawn) (t' := s.toks) (ch := [n + 4, n + 3, n, n + 1]) (fun b hb => ?_) (fun b o _ _ hb e _ => kept b o hb e) (fun b o _ _ hb e _ => ⟨o.slots, kept b o hb e⟩) (fun b o _ e nn => nn) (fun b o hb e => ⟨o, kept b o hb e⟩) (fun b zs e => e) (fun b o u e => e) (fun b ps e => ⟨#[], by rw [e]; simp⟩) (fun m hm => ?_) ?_ I.bare
    · obtain ⟨f0, f1, f2, f3, f4, f5⟩ := hf b (sub4 b hb)
      exact ⟨f3, f1, f4, f5⟩
    · obtain ⟨o, e, ep, ho, r⟩ := hm
      exact ⟨o, e, ep, kept _ o (fun hb => (hf _ (sub4 _ hb)).2.1 rfl) ho, r⟩
    · exact fun b u e => by
        refine (I.hok b u e).stay (fun c v hc q => kept c v ?_ q) (fun _ q => q) fun _ _ q => q
        rcases hc with z | z
        · rw [z]; exact notch b u e
        · exact notch c _ z
  self := fun _ _ _ _ _ st h => wpAny_pyIter_zip st.1 h
section
variable {X : Cx}
def iZip (ta : TA) : TI := fun σ H R => ta σ H fun vs H1 => ∃ l1 l2 xs ys, vs = [.ref l1, .ref l2] ∧ H1 l1 = some (.lst xs) ∧ H1 l2 = some (.lst ys) ∧ R (Itz l1 l2) H1
theorem pi_zip {a b : Expr} {ta : TA} {p pos : Pos} {es : List Expr} {k : Nat} {tpos : Pos} (hg : Gl X "zip") (hm : X.mg "zip" = none) (ha : PA X [a, b] ta) (hbz : bootBuiltins "zip" = some (.type "zip") := by decide +kernel)
    (hs : starEach [a, b] X.env = [(false, eval a X.env), (false, eval b X.env)] := by rfl) (hs2 : starEach [b] X.env = [(false, eval b X.env)] := by rfl) : PI X (.Tuple es k tpos) (.Call (.Name "zip" p) [a, b] [] pos) (iZip ta) := by
  intro pins s σ H R I h
  refine Call_ (ld_blt I hg hm hbz (PyProof.Rows.callWith_type1 (thn (ha pos pins s σ H _ I h) fun us s1 ⟨vs, H1, I1, r1, q1⟩ => ?_) (by rw [hs, hs2]) (by rw [hs2]; rfl)))
  obtain ⟨l1, l2, xs, ys, e, h1, h2, q⟩ := q1
  subst e
  obtain ⟨u, u', rfl, e1, e2⟩ := r1.two
  cases e1
  cases e2
  obtain ⟨its1, rv1, p1, hz1⟩ := I1.list (SqL.of h1)
  obtain ⟨its2, rv2, p2, hz2⟩ := I1.list (SqL.of h2)
  refine call_zip_2 p1.isList p2.isList fun h' a1 a2 a3 a4 a5 a6 a7 => ?_
  have I2 : Inv X pins σ H1 { s1 with heap := h' } := I1.kept (t' := s1.toks) a7
  refine wpAny_pyIter_zip (s := { s1 with heap := h' }) a1 ?_
  refine ⟨s1.heap.objs.size + 4, _, _, _, H1, rfl, I2, turn_zip l1 l2 s1.heap.objs.size, ⟨a1, a2, ⟨_, _, a3⟩, a4, a5⟩, fun b hb => ?_, q⟩
  have hb2 : s1.heap.objs.size ≤ b := by
    simp only [List.mem_cons, List.not_mem_nil, or_false] at hb
    rcases hb with rfl | rfl | rfl | rfl | rfl
    · exact Nat.le_add_right _ 4
    · exact Nat.le_add_right _ 2
    · exact Nat.le_add_right _ 3
    · exact Nat.le_refl _
    · exact Nat.le_add_right _ 1
  have f := I1.fpOk hb2 (I1.hok.fresh hb2)
  exact f
theorem pg_tupK {K : PySem.W.Frag} {es : List Expr} {k : Nat} {t : TGs} {n : Nat} {pos : Pos} (hK : X.K = K) (hc : X.calm = true) (h : PGs X es t)
    (hn : (assignEach es X.env).length = n := by rfl) (hst : (assignEach es X.env).findIdx? (·.1) = none := by rfl) : PG X (.Tuple es k pos) (gTup K n t) := by
  subst hK
  exact pg_tup hc h hn hst
theorem comp_zip {l1 l2 : Addr} {xs ys : List V} {g : TG} {tc : TT} {te : TE} {σ : St} {H : Hp} {Q : VK} (Pv : Nat → St → List V → Hp → Prop) (h0 : Pv 0 σ [] H) (hxy : xs.length = ys.length) (hl : ∀ i σ zs H, Pv i σ zs H → zs.length < sizeLine ∧ H l1 = some (.lst xs) ∧ H l2 = some (.lst ys))
    (hs : ∀ i x y σ zs H T, xs[i]? = some x → ys[i]? = some y → H T = none → Pv i σ zs H → g (.ref T) σ (upd H T (.tup [x, y])) fun σ2 H3 => tc σ2 H3 fun b H4 => if b = true then te σ2 H4 fun v H5 => Pv (i + 1) σ2 (zs ++ [v]) H5 else Pv (i + 1) σ2 zs H4)
    (hd : ∀ σ zs H, Pv xs.length σ zs H → ∀ D, H D = none → Q (.ref D) (upd H D (.lst zs))) :
    ∃ W : Nat → Nat → St → List V → Hp → Prop, (∃ m, W 0 m σ [] H) ∧ ∀ i m σ' zs H', W i m σ' zs H' → zs.length < sizeLine ∧ (((Itz l1 l2).stop i H' ∧ ∀ D, H' D = none → Q (.ref D) (upd H' D (.lst zs))) ∨
      ((Itz l1 l2).go i H' ∧ ∃ N : St → List V → Hp → Prop, (∀ σ' ys' H', N σ' ys' H' → ∃ m', m' < m ∧ W (i + 1) m' σ' ys' H') ∧
        ∀ x H2, (Itz l1 l2).yld i H' x H2 → g x σ' H2 fun σ2 H3 => tc σ2 H3 fun b H4 => if b = true then te σ2 H4 fun v H5 => N σ2 (zs ++ [v]) H5 else N σ2 zs H4)) := by
  refine ⟨fun i m σ zs H => m = xs.length - i ∧ i ≤ xs.length ∧ Pv i σ zs H, ⟨xs.length, by simp, Nat.zero_le _, h0⟩, ?_⟩
  rintro i m σ zs H ⟨rfl, hi, p⟩
  obtain ⟨z1, z2, z3⟩ := hl i σ zs H p
  refine ⟨z1, ?_⟩
  by_cases hlt : i < xs.length
  · have hlt2 : i < ys.length := by omega
    refine .inr ⟨⟨xs, ys, xs[i], ys[i], z2, z3, List.getElem?_eq_getElem hlt, List.getElem?_eq_getElem hlt2⟩, Pv (i + 1), fun σ' ys' H' p' => ⟨xs.length - (i + 1), by omega, rfl, hlt, p'⟩, fun x H' y => ?_⟩
    obtain ⟨T, rfl, hT, hh⟩ := y
    rw [hh xs ys _ _ z2 z3 (List.getElem?_eq_getElem hlt) (List.getElem?_eq_getElem hlt2)]
    exact hs i _ _ σ zs H T (List.getElem?_eq_getElem hlt) (List.getElem?_eq_getElem hlt2) hT p
  · have e : i = xs.length := by omega
    subst e
    exact .inl ⟨⟨xs, ys, z2, z3, .inl (Nat.le_refl _)⟩, hd σ zs H p⟩
end
end L2
namespace L2
open PySem PySem.Spec PyProof.Rows
section
variable {X : Cx} {H : Hp} {k : Nat}
/-! ### == and != as they stand -/
def RcO (X : Cx) (H : Hp) (k : Nat) (y x : V) (b : Bool) : Prop :=
  ∀ (pins : List (Addr × Obj)) (s : Shared) (σ : St), Inv X pins σ H s → ∀ (u v : Value), RelV y u → RelV x v → ∀ A : Around, A.units + k < cLine → SeqAt.RcAt A s u v b
def RnO (X : Cx) (H : Hp) (k : Nat) (y x : V) (b : Bool) : Prop :=
  ∀ (pins : List (Addr × Obj)) (s : Shared) (σ : St), Inv X pins σ H s → ∀ (u v : Value), RelV y u → RelV x v → ∀ A : Around, A.units + k < cLine → SeqAt.RcNeAt A s u v b
def rEqG (X : Cx) : R2 := fun x y H Q => ∃ b, RcO X H 32 x y b ∧ Q (.bl b) H
def rNeG (X : Cx) : R2 := fun x y H Q => ∃ b, RnO X H 32 x y b ∧ Q (.bl b) H
theorem op_eqG (hu : X.A.units + 64 < cLine) : OpR X (compareOp .Eq) (rEqG X) := by
  intro pins s σ H x y v u Q I rx ry h
  obtain ⟨b, hb, q⟩ := h
  exact (hb pins s σ I v u rx ry X.A (by omega)) _ _ _ _ ⟨.bl b, H, I, rfl, q⟩
theorem op_neG (hu : X.A.units + 64 < cLine) : OpR X (compareOp .NotEq) (rNeG X) := by
  intro pins s σ H x y v u Q I rx ry h
  obtain ⟨b, hb, q⟩ := h
  exact (hb pins s σ I v u rx ry X.A (by omega)) _ _ _ _ ⟨.bl b, H, I, rfl, q⟩
theorem RcO.bls (p q : Bool) : RcO X H k (.bl p) (.bl q) (p == q) := fun _ _ _ _ _ _ ru rv _ _ => by
  cases ru; cases rv; exact SeqAt.RcAt.bool_bool p q
theorem RcO.tupBl {a : Addr} {xs : List V} {q : Bool} (h : SqT X.K H a xs) : RcO X H k (.ref a) (.bl q) false := fun pins s σ I _ _ ru rv A hu => by
  cases ru; cases rv
  obtain ⟨its, _, ht, _⟩ := I.tuple h
  exact SeqAt.RcAt.tuple_bool q ht (by omega)
theorem RcO.blTup {a : Addr} {xs : List V} {q : Bool} (h : SqT X.K H a xs) : RcO X H k (.bl q) (.ref a) false := fun pins s σ I _ _ ru rv A hu => by
  cases ru; cases rv
  obtain ⟨its, _, ht, _⟩ := I.tuple h
  exact SeqAt.RcAt.bool_tuple q ht (by omega)
theorem items_get {xs : List V} {its : List Value} (r : Vals xs its) {j : Nat} (h : j < its.toArray.size) : ∃ x, xs[j]? = some x ∧ RelV x its.toArray[j] := by
  have h' : j < its.length := by simpa using h
  have g : j < xs.length := by rw [r.length]; exact h'
  obtain ⟨u, hu, ru⟩ := r.get (List.getElem?_eq_getElem g)
  refine ⟨_, List.getElem?_eq_getElem g, ?_⟩
  have e1 : its.toArray[j] = u := by
    rw [List.getElem_toArray]
    exact (List.getElem?_eq_some_iff.mp hu).2
  rw [e1]
  exact ru
theorem RcO.tups {a b : Addr} {xs ys : List V} {e : Nat → Bool} (ha : SqT X.K H a xs) (hb : SqT X.K H b ys)
    (he : ∀ j x y, xs[j]? = some x → ys[j]? = some y → EqO X H k x y (e j)) : RcO X H (k + 1) (.ref a) (.ref b) ((List.range (min xs.length ys.length)).all e && xs.length == ys.length) := by
  intro pins s σ I u v ru rv A hu
  cases ru
  cases rv
  obtain ⟨its, r, ht, _⟩ := I.tuple ha
  obtain ⟨its2, r2, ht2, _⟩ := I.tuple hb
  have l1 : its.toArray.size = xs.length := by rw [List.size_toArray]; exact r.length.symm
  have l2 : its2.toArray.size = ys.length := by rw [List.size_toArray]; exact r2.length.symm
  have q := SeqAt.RcAt.tuples (A := A) (e := e) ht ht2 (by omega) (fun j h1 h2 => by
    obtain ⟨x, hx, rx⟩ := items_get r h1
    obtain ⟨y, hy, ry⟩ := items_get r2 h2
    exact he j x y hx hy pins s σ I _ _ rx ry A.in1 (by show A.units + 1 + k < cLine; omega))
  rw [l1, l2] at q
  exact q
theorem RcO.lists {a b : Addr} {xs ys : List V} {e : Nat → Bool} (ha : SqL X.K H a xs) (hb : SqL X.K H b ys) (hl : xs.length = ys.length)
    (he : ∀ j x y, xs[j]? = some x → ys[j]? = some y → EqO X H k x y (e j)) : RcO X H (k + 1) (.ref a) (.ref b) ((List.range xs.length).all e) := by
  intro pins s σ I u v ru rv A hu
  cases ru
  cases rv
  obtain ⟨its, r, ht, _⟩ := I.list ha
  obtain ⟨its2, r2, ht2, _⟩ := I.list hb
  have l1 : its.toArray.size = xs.length := by rw [List.size_toArray]; exact r.length.symm
  have l2 : its2.toArray.size = ys.length := by rw [List.size_toArray]; exact r2.length.symm
  have q := SeqAt.RcAt.lists (A := A) (e := e) ht.isList ht2.isList (by omega) (by omega) (fun j h1 h2 => by
    obtain ⟨x, hx, rx⟩ := items_get r h1
    obtain ⟨y, hy, ry⟩ := items_get r2 h2
    exact he j x y hx hy pins s σ I _ _ rx ry A.in1 (by show A.units + 1 + k < cLine; omega))
  rw [l1] at q
  exact q
theorem RcO.listsLen {a b : Addr} {xs ys : List V} (ha : SqL X.K H a xs) (hb : SqL X.K H b ys) (hl : xs.length ≠ ys.length) : RcO X H k (.ref a) (.ref b) false := by
  intro pins s σ I u v ru rv A hu
  cases ru
  cases rv
  obtain ⟨its, r, ht, _⟩ := I.list ha
  obtain ⟨its2, r2, ht2, _⟩ := I.list hb
  have l1 : its.toArray.size = xs.length := by rw [List.size_toArray]; exact r.length.symm
  have l2 : its2.toArray.size = ys.length := by rw [List.size_toArray]; exact r2.length.symm
  exact SeqAt.RcAt.lists_lengths ht.isList ht2.isList (by rw [l1, l2]; simpa using hl) (by omega)
theorem RnO.listsLen {a b : Addr} {xs ys : List V} (ha : SqL X.K H a xs) (hb : SqL X.K H b ys) (hl : xs.length ≠ ys.length) : RnO X H k (.ref a) (.ref b) true := by
  intro pins s σ I u v ru rv A hu
  cases ru
  cases rv
  obtain ⟨its, r, ht, _⟩ := I.list ha
  obtain ⟨its2, r2, ht2, _⟩ := I.list hb
  have l1 : its.toArray.size = xs.length := by rw [List.size_toArray]; exact r.length.symm
  have l2 : its2.toArray.size = ys.length := by rw [List.size_toArray]; exact r2.length.symm
  exact SeqAt.RcNeAt.lists_lengths ht.isList ht2.isList (by rw [l1, l2]; simpa using hl) (by omega)
/-- xs != [] -/
theorem RnO.empty {a b : Addr} {xs : List V} (ha : SqL X.K H a xs) (hb : SqL X.K H b []) : RnO X H k (.ref a) (.ref b) (!xs.isEmpty) := by
  cases xs with
  | cons x r => exact RnO.listsLen ha hb (by simp)
  | nil =>
    intro pins s σ I u v ru rv A hu
    cases ru
    cases rv
    obtain ⟨its, r, ht, _⟩ := I.list ha
    obtain ⟨its2, r2, ht2, _⟩ := I.list hb
    cases r
    cases r2
    exact SeqAt.RcNeAt.lists (A := A) (e := fun _ => true) ht.isList ht2.isList rfl (by omega) (fun j h1 h2 => absurd h1 (by simp))
/-- items of a tuple of tuples: the same object is equal to itself -/
theorem EqO.refs {a b : Addr} {r : Bool} (h : RcO X H k (.ref a) (.ref b) r) (hs : a = b → r = true) : EqO X H k (.ref a) (.ref b) r := by
  intro pins s σ I u v ru rv A hu
  by_cases e : a = b
  · subst e
    rw [hs rfl]
    cases ru
    cases rv
    exact SeqAt.EqAt.same _
  · cases ru
    cases rv
    exact SeqAt.EqAt.of_refs e (h pins s σ I _ _ rfl rfl A hu)
/-! ### "abcd".index(x) -/
theorem mt_index : MtR X "str.index" (fun x vs H Q => ∃ z y i rest, x = .str z ∧ vs = [.str y] ∧ Builtin.Str.occurrences z y 0 z.length 1 = i :: rest ∧ Q (.int i) H) := by
  intro pins s σ H x vs v us Q I rx rv h
  obtain ⟨z, y, i, rest, rfl, rfl, ho, q⟩ := h
  obtain ⟨t, rfl⟩ := rx
  obtain ⟨u, rfl, ru⟩ := rv.one
  obtain ⟨t2, rfl⟩ := ru
  exact call_gives F.slot_str_index (typeIs_str _ _ _) F.entry_str_index (F.args_str_index_2 _ _) (gives_str_index z y t t2 i rest ho) ⟨.int i, H, I.tok _, ⟨_, rfl⟩, q⟩
end
/-! ### a statement, with a fact of one's own behind it -/
section
variable {X : Cx} {st : Stmt} {rest : List Stmt} {t u : TS}
def tMid (t u : TS) : TS := fun D σ H => ∃ M : St → Hp → Prop, t { D with nx := M } σ H ∧ ∀ σ' H', M σ' H' → u D σ' H'
theorem pss_mid (h1 : PS X st t) (h2 : PSs X rest u) : PSs X (st :: rest) (tMid t u) := by
  intro pins s σ H D I h
  obtain ⟨M, h, hm⟩ := h
  refine wpAny_execs_cons (thn (h1 pins s σ H { D with nx := M } I h) fun f s1 q => ?_)
  cases f with
  | next =>
    obtain ⟨σ', H', I', q⟩ := q
    exact h2 pins s1 σ' H' D I' (hm _ _ q)
  | ret v => exact q
  | brk => exact q
  | cont => exact q
end
end L2
namespace L2
open PySem PySem.Spec PyProof.Rows
/-! ### range with a step -/
def It3 (lo c : Int) (n : Nat) : It := ⟨fun i _ => i < n, fun i H x H' => H' = H ∧ x = .int (lo + i * c), fun i _ => n ≤ i⟩
theorem turn_range3 {P : Program} {w : World} {K : PySem.W.Frag} {tg : Expr} (it : Addr) (lo c : Int) (n : Nat) : Turn P w K tg (It3 lo c n) [it] it (fun i h => IsRangeIter h it (lo + (i : Nat) * c) ((n : Int) - (i : Nat)) c) where
  mem := by simp
  obj := fun i h st b hb => by
    have e : b = it := by simpa using hb
    subst e
    exact ⟨_, st, fun v z => by
      have z' : Data.fields _ = Data.cell v := z
      cases z'⟩
  keep := fun i h h' st k => k it (by simp) _ st
  item := by
    intro X hP hw hK hc i pins s σ H E I hf st hg
    subst hP hw hK
    obtain ⟨f0, f1, f2, f3, f4, f5⟩ := hf it (by simp)
    have W := Walks.range (prog := X.prog) (w := X.w) (I.ok.hd hc) it lo c n
    refine W.item i s _ _ hg st fun v h' tk hv st' kk => ?_
    obtain ⟨t, rfl⟩ := hv
    have I1 : Inv X pins σ H { s with heap := h', toks := tk } := I.turned (fun b o hb e => kk b o (by simpa using hb) e) f0 f1 f3 f4 f5
    exact ⟨_, rfl, go_of (s := { s with heap := h', toks := tk }) (n := "range_iterator") st' rfl rfl (by decide) ⟨.int (lo + i * c), H, I1, ⟨t, rfl⟩, ⟨rfl, rfl⟩, st', fun b hb => (hf b hb).1⟩⟩
  done := by
    intro X hP hw hK hc i pins s σ H E I hf st hg
    subst hP hw hK
    obtain ⟨f0, f1, f2, f3, f4, f5⟩ := hf it (by simp)
    exact wpAny_pyNext_range_end (I.ok.hd hc) st (by have : n ≤ i := hg; omega) fun h' eb => ⟨rfl, I.turned (t' := s.toks) (fun b o hb e => eb b o hb e) f0 f1 f3 f4 f5⟩
  self := fun _ _ _ _ _ st h => wpAny_pyIter_rangeiter st h
def rsz (lo hi c : Nat) : Nat := (hi + c - 1 - lo) / c
section
variable {X : Cx} {tg : Expr}
theorem range_it3 {pins : List (Addr × Obj)} {σ : St} {H : Hp} {s : Shared} {R : It → Hp → Prop} {E : Value → Shared → Prop} {lo hi c : Int} {n : Nat} {t u v : Tok} {tk : Nat} (I : Inv X pins σ H s) (hsm : Builtin.Range.small lo hi c = true) (hn : (n : Int) = Builtin.Range.rangeSize lo hi c)
    (q : R (It3 lo c n) H) : wpAny (model X.prog X.w) X.A (pyIter (.ref s.heap.objs.size)) (PIE X pins σ tg R) E { s with heap := s.heap.push { cls := .type "range", data := .fields #[.int lo t, .int hi u, .int c v] }, toks := tk } := by
  refine wpAny_pyIter_range (IsRange.new ..) hsm ?_
  have I1 : Inv X pins σ H { s with heap := s.heap.push { cls := .type "range", data := .fields #[.int lo t, .int hi u, .int c v] }, toks := tk } := I.kept fun b o e => Heap.get?_push_of_some _ e
  refine ⟨(s.heap.push { cls := .type "range", data := .fields #[.int lo t, .int hi u, .int c v] }).objs.size, [(s.heap.push { cls := .type "range", data := .fields #[.int lo t, .int hi u, .int c v] }).objs.size], _, _, H, rfl,
    I1.kept (t' := tk) fun b o e => Heap.get?_push_of_some _ e, turn_range3 _ lo c n, ?_, fun b hb => ?_, q⟩
  · have e1 : lo + ((0 : Nat) : Int) * c = lo := by simp
    have e2 : (n : Int) - ((0 : Nat) : Int) = Builtin.Range.rangeSize lo hi c := by rw [← hn]; simp
    show IsRangeIter _ _ (lo + ((0 : Nat) : Int) * c) ((n : Int) - ((0 : Nat) : Int)) c
    rw [e1, e2]
    exact Heap.get?_push_size _ rfl
  · have e : b = (s.heap.push { cls := .type "range", data := .fields #[.int lo t, .int hi u, .int c v] }).objs.size := by simpa using hb
    subst e
    exact I1.fpOk (Nat.le_refl _) (I1.hok.fresh (Nat.le_refl _))
def iRng3 (ta : TA) : TI := fun σ H R => ta σ H fun vs H1 => ∃ (i j c : Int) (n : Nat), vs = [.int i, .int j, .int c] ∧ 0 < c ∧ Builtin.Range.small i j c = true ∧ Builtin.divisionGoesByPylong (j - i) c = false ∧ (n : Int) = Builtin.Range.rangeSize i j c ∧ R (It3 i c n) H1
theorem pi_range3 {a b c : Expr} {ta : TA} {p pos : Pos} (hg : Gl X "range") (hm : X.mg "range" = none) (ha : PA X [a, b, c] ta) (hs : starEach [a, b, c] X.env = [(false, eval a X.env), (false, eval b X.env), (false, eval c X.env)] := by rfl) (hs2 : starEach [b, c] X.env = [(false, eval b X.env), (false, eval c X.env)] := by rfl) :
    PI X tg (.Call (.Name "range" p) [a, b, c] [] pos) (iRng3 ta) := by
  intro pins s σ H R I h
  refine Call_ (ld_blt I hg hm boot_range (PyProof.Rows.callWith_type1 (thn (ha pos pins s σ H _ I h) fun us s1 ⟨vs, H1, I1, r1, q1⟩ => ?_) (by rw [hs, hs2]) (by rw [hs2]; rfl)))
  obtain ⟨i, j, k, n, e, q1, q2, q3, q4, q⟩ := q1
  subst e
  cases r1 with
  | cons r rr =>
    cases rr with
    | cons r' rr =>
      cases rr with
      | cons r'' rr =>
        cases rr
        obtain ⟨t, rfl⟩ := r
        obtain ⟨t', rfl⟩ := r'
        obtain ⟨t'', rfl⟩ := r''
        exact call_range_3 (by omega) (range_it3 I1 q2 q4 q) (Or.inl q3)
theorem comp_range3 {lo c : Int} {n : Nat} {g : TG} {tc : TT} {te : TE} {σ : St} {H : Hp} {Q : VK} (Pv : Nat → St → List V → Hp → Prop) (h0 : Pv 0 σ [] H) (hl : ∀ i σ ys H, Pv i σ ys H → ys.length < sizeLine)
    (hs : ∀ i σ ys H, i < n → Pv i σ ys H → g (.int (lo + i * c)) σ H fun σ2 H3 => tc σ2 H3 fun b H4 => if b = true then te σ2 H4 fun v H5 => Pv (i + 1) σ2 (ys ++ [v]) H5 else Pv (i + 1) σ2 ys H4)
    (hd : ∀ σ ys H, Pv n σ ys H → ∀ D, H D = none → Q (.ref D) (upd H D (.lst ys))) :
    ∃ W : Nat → Nat → St → List V → Hp → Prop, (∃ m, W 0 m σ [] H) ∧ ∀ i m σ' ys H', W i m σ' ys H' → ys.length < sizeLine ∧ (((It3 lo c n).stop i H' ∧ ∀ D, H' D = none → Q (.ref D) (upd H' D (.lst ys))) ∨
      ((It3 lo c n).go i H' ∧ ∃ N : St → List V → Hp → Prop, (∀ σ' ys' H', N σ' ys' H' → ∃ m', m' < m ∧ W (i + 1) m' σ' ys' H') ∧
        ∀ x H2, (It3 lo c n).yld i H' x H2 → g x σ' H2 fun σ2 H3 => tc σ2 H3 fun b H4 => if b = true then te σ2 H4 fun v H5 => N σ2 (ys ++ [v]) H5 else N σ2 ys H4)) := by
  refine ⟨fun i m σ ys H => m = n - i ∧ i ≤ n ∧ Pv i σ ys H, ⟨n, by simp, Nat.zero_le _, h0⟩, ?_⟩
  rintro i m σ ys H ⟨rfl, hi, p⟩
  refine ⟨hl i σ ys H p, ?_⟩
  by_cases hlt : i < n
  · refine .inr ⟨hlt, Pv (i + 1), fun σ' ys' H' p' => ⟨n - (i + 1), by omega, rfl, hlt, p'⟩, fun x H' y => ?_⟩
    obtain ⟨e, y⟩ := y
    subst e y
    exact hs i σ ys _ hlt p
  · have e : i = n := by omega
    subst e
    exact .inl ⟨Nat.le_refl _, hd σ ys H p⟩
end
end L2
/-! ### reversed(a tuple): the iterator's record -/
namespace PySem
namespace F
theorem owner_rvd : Manifest.owners.lookup (String.ofList ['d', 'e', 's', 'r', 'e', 'v', 'e', 'r'].reverse) = some Manifest.sig_reversed := by kernel_rfl
theorem slot_rvd_next : Slot "reversed" "__next__" "reversed.__next__" := by
  refine .of (owner := "reversed") (n := "__next__") ?_ (by decide +kernel) (by decide +kernel) (by decide +kernel) (by first | exact .inl (by decide +kernel) | exact .inr (by decide +kernel)) ?_
  · rw [typeLookup_type, builtinLookup_eq_fast]; kernel_rfl
  · rw [isSubtype_type]; kernel_rfl
theorem slot_rvd_iter : Slot "reversed" "__iter__" "reversed.__iter__" := by
  refine .of (owner := "reversed") (n := "__iter__") ?_ (by decide +kernel) (by decide +kernel) (by decide +kernel) (by first | exact .inl (by decide +kernel) | exact .inr (by decide +kernel)) ?_
  · rw [typeLookup_type, builtinLookup_eq_fast]; kernel_rfl
  · rw [isSubtype_type]; kernel_rfl
theorem slot_rvd_init : Slot "reversed" "__init__" "object.__init__" := by
  refine .of (owner := "object") (n := "__init__") ?_ (by decide +kernel) (by decide +kernel) (by decide +kernel) (by first | exact .inl (by decide +kernel) | exact .inr (by decide +kernel)) ?_
  · rw [typeLookup_type, builtinLookup_eq_fast]; kernel_rfl
  · rw [isSubtype_type]; kernel_rfl
theorem entry_rvd_next : entryFor table "reversed.__next__" = some Builtin.«reversed.__next__» := entryFor_of_tree (by kernel_rfl)
theorem entry_rvd_iter : entryFor table "reversed.__iter__" = some Builtin.«dict_keyiterator.__iter__» := by
  refine entryFor_alias (id' := "dict_keyiterator.__iter__") (by kernel_rfl) ?_ (by decide +kernel) (by kernel_rfl)
  first
    | rfl
    | decide +kernel
    | (unfold String.splitOn; simp +decide [String.splitOnAux])
theorem args_rvd_next (a : Value) : argsOk "reversed.__next__" ⟨[a], []⟩ := by
  unfold argsOk
  rw [signature?_of (id := "reversed.__next__") (n := ['_', '_', 't', 'x', 'e', 'n', '_', '_']) (o := ['d', 'e', 's', 'r', 'e', 'v', 'e', 'r']) (by kernel_rfl) owner_rvd]
  kernel_rfl
theorem args_rvd_iter (a : Value) : argsOk "reversed.__iter__" ⟨[a], []⟩ := by
  unfold argsOk
  rw [signature?_of (id := "reversed.__iter__") (n := ['_', '_', 'r', 'e', 't', 'i', '_', '_']) (o := ['d', 'e', 's', 'r', 'e', 'v', 'e', 'r']) (by kernel_rfl) owner_rvd]
  kernel_rfl
theorem called_rvd : TypeCalled "reversed" "reversed.__new__" "object.__init__" := ⟨by decide +kernel, by decide +kernel, ⟨_, _, mro_reversed⟩, made_reversed, by decide +kernel, sub_reversed_self, slot_rvd_init⟩
theorem tuple_norev : typeLookup (.type "tuple") "__reversed__" = pure none := by
  rw [typeLookup_type, builtinLookup_eq_fast]
  kernel_rfl
theorem tuple_nodict : isSubtype (.type "tuple") (.type "dict") = pure false := by
  rw [isSubtype_type]
  kernel_rfl
end F
def RvdAt (h : Heap) (it t : Addr) (i : Int) : Prop := ∃ o, h.get? it = some o ∧ o.cls = .type "reversed" ∧ o.data = .fields #[.ref t, rawInt i]
section
variable {prog : Program} {w : World} {A : Around} {E : Value → Shared → Prop} {s : Shared}
theorem RvdAt.ty {it t : Addr} {i : Int} (x : RvdAt s.heap it t i) : s.TypeIs (.ref it) "reversed" := by
  obtain ⟨o, h1, h2, _⟩ := x
  exact ⟨o, h1, h2⟩
theorem RvdAt.stays {h h' : Heap} {it t : Addr} {i : Int} (x : RvdAt h it t i) (e : ∀ o, h.get? it = some o → h'.get? it = some o) : RvdAt h' it t i := by
  obtain ⟨o, h1, h2⟩ := x
  exact ⟨o, e o h1, h2⟩
theorem rvd_made (t : Addr) (items : Array Value) : Meets (Builtin.«reversed.__new__» ⟨[.type "reversed", .ref t], []⟩) (fun _ R s => PyProof.Rows.IsTup s.heap t items ∧ items.size ≤ 100000 ∧
    ∀ tk, R (.ok (.ret (.ref s.heap.objs.size))) { s with heap := s.heap.push { cls := .type "reversed", data := .fields #[.ref t, rawInt ((items.size : Int) - 1)] }, toks := tk }) :=
  .of_wp fun prog w A R s h => by
    obtain ⟨ht, hn, h⟩ := h
    unfold Builtin.«reversed.__new__»
    refine (wpAny_bind (wpAny_of_eq (newClass_reversed (.ref t)) ?_))
    try dsimp only
    refine (wpAny_bind (wpAny_of_eq (a := ()) (by first | kernel_rfl | rfl) ?_))
    refine (wpAny_bind (wpAny_of_eq (a := ()) (by first | kernel_rfl | rfl) ?_))
    try dsimp only
    refine (wpAny_bind (wpAny_specialOf ht.typeIs F.tuple_norev ?_))
    try dsimp only
    refine wpAny_bind ?_
    wp_delta
    refine (wpAny_bind (wpAny_isInstance (T := "tuple") (U := "dict") (b := false) ht.typeIs F.tuple_nodict ?_))
    try dsimp only
    simp only [Bool.false_eq_true, if_false]
    refine (wpAny_bind (wpAny_specialOf ht.typeIs PyProof.Rows.slot_tuple_getitem.lookup ?_))
    try dsimp only
    rw [if_pos (by decide +kernel)]
    refine wpAny_pure ?_
    simp only [Bool.not_true, Bool.false_eq_true, if_false]
    refine (wpAny_bind (PyProof.Rows.len_tuple ht (by omega) ?_))
    refine (wpAny_bind (wpAny_of_eq (a := some ((items.size : Nat) : Int)) rfl ?_))
    try dsimp only
    refine (wpAny_bind ?_)
    show wpAny _ _ (newObj (.type "reversed") (.fields #[.ref t, rawInt (((items.size : Nat) : Int) - 1)])) _ _ _
    refine (wpAny_newObj_type ?_)
    exact wpAny_pure ⟨_, rfl, h _⟩
theorem call_reversed_tup {t : Addr} {items : Array Value} {Q : Value → Shared → Prop} (ht : PyProof.Rows.IsTup s.heap t items) (hn : items.size ≤ 100000)
    (h : ∀ tk, Q (.ref s.heap.objs.size) { s with heap := s.heap.push { cls := .type "reversed", data := .fields #[.ref t, rawInt ((items.size : Int) - 1)] }, toks := tk }) : wpAny (model prog w) A (call (.type "reversed") [.ref t]) Q E s :=
  callType_new F.called_rvd (by decide) (F.typeCall_reversed_1 _) (F.newCall_reversed_1 _) (fun obj => F.args_object_init_2 obj _) F.entry_reversed_new (rvd_made t items) ⟨ht, hn, fun tk => ⟨⟨_, Heap.get?_push_size _ rfl, rfl⟩, h tk⟩⟩
theorem rvd_iter {it t : Addr} {i : Int} {Q : Value → Shared → Prop} (hit : RvdAt s.heap it t i) (h : Q (.ref it) s) : wpAny (model prog w) A (pyIter (.ref it)) Q E s := by
  refine wpAny_pyIter_slot hit.ty F.slot_rvd_iter (wpAny_call_entry F.slot_rvd_iter hit.ty F.entry_rvd_iter ?_ (F.args_rvd_iter _))
  show wpAny _ _ (ret (.ref it)) _ _ s
  exact wpAny_pure ⟨_, rfl, "reversed", _, hit.ty, F.slot_rvd_next.lookup, h⟩
theorem rvd_item {it t : Addr} {i : Nat} {items : Array Value} {x : Value} {Q : Option Value → Shared → Prop} (hit : RvdAt s.heap it t (i : Int)) (ht : PyProof.Rows.IsTup s.heap t items) (hx : items[i]? = some x) (hi : i < 100000)
    (hQ : ∀ h' tk, RvdAt h' it t ((i : Int) - 1) → Heap.SameBut it s.heap h' → Q (some x) { s with heap := h', toks := tk }) : wpAny (model prog w) A (pyNext (.ref it)) Q E s := by
  obtain ⟨o, ho, hc, hd⟩ := id hit
  have hsz : i < items.size := (Array.getElem?_eq_some_iff.mp hx).1
  unfold pyNext
  refine (wpAny_bind (wpAny_attempt (wpAny_callSpecial?_slot (name := Str.ofString "__next__") hit.ty F.slot_rvd_next (wpAny_call_entry F.slot_rvd_next hit.ty F.entry_rvd_next ?_ (F.args_rvd_next _)))))
  unfold Builtin.«reversed.__next__»
  refine (wpAny_bind (wpAny_of_eq (a := (Value.ref it, ([] : List Value))) rfl ?_))
  try dsimp only
  refine (wpAny_bind (wpAny_field ho hd (x := .ref t) rfl ?_))
  refine (wpAny_bind (wpAny_field ho hd (x := rawInt ((i : Nat) : Int)) rfl ?_))
  show wpAny _ _ (if ((i : Nat) : Int) < 0 then _ else _) _ _ s
  rw [if_neg (show ¬ ((i : Nat) : Int) < 0 by omega)]
  refine (wpAny_bind (wpAny_specialOf ht.typeIs PyProof.Rows.slot_tuple_getitem.lookup ?_))
  try dsimp only
  simp only [Option.isNone_some, Bool.false_eq_true, if_false]
  refine (wpAny_bind (wpAny_mkInt ?_))
  have ht' : PyProof.Rows.IsTup ({ s with toks := s.toks + 1 } : Shared).heap t items := ht
  refine (wpAny_bind (wpAny_attempt (PyProof.Rows.getItem_tuple (s := { s with toks := s.toks + 1 }) ht' (by omega) (by omega) (j := i) ?_ hx ?_)))
  · have h0 : ¬ ((i : Nat) : Int) < 0 := by omega
    simp only [seqIndex?, if_neg h0]
    rw [if_pos (by simp; omega)]
    simp
  try dsimp only
  refine (wpAny_bind (wpAny_field (s := { s with toks := s.toks + 1 }) ho hd (x := rawInt ((i : Nat) : Int)) rfl ?_))
  show wpAny _ _ (setField (.ref it) 1 (rawInt (((i : Nat) : Int) - 1)) >>= fun _ => ret x) _ _ _
  refine (wpAny_bind (wpAny_setField (s := { s with toks := s.toks + 1 }) ho hd (by simp) ?_))
  refine (wpAny_pure ⟨x, rfl, wpAny_pure (hQ _ _ ?_ (Heap.SameBut.update ..))⟩)
  refine ⟨_, Heap.get?_update_self _ ho (Obj.isFreed_of_fields (Obj.data_mapFields hd _)), (Obj.cls_mapFields ..).trans hc, ?_⟩
  rw [Obj.data_mapFields hd]
  simp
theorem rvd_end {it t : Addr} {i : Int} {Q : Option Value → Shared → Prop} (hh : A.handled = none) (hit : RvdAt s.heap it t i) (hi : i < 0)
    (hQ : ∀ h', Heap.ExtBut it s.heap h' → Q none { s with heap := h' }) : wpAny (model prog w) A (pyNext (.ref it)) Q E s := by
  obtain ⟨o, ho, hc, hd⟩ := id hit
  unfold pyNext
  refine (wpAny_bind (wpAny_attempt (wpAny_callSpecial?_slot (name := Str.ofString "__next__") hit.ty F.slot_rvd_next (wpAny_call_entry F.slot_rvd_next hit.ty F.entry_rvd_next ?_ (F.args_rvd_next _)))))
  unfold Builtin.«reversed.__next__»
  refine (wpAny_bind (wpAny_of_eq (a := (Value.ref it, ([] : List Value))) rfl ?_))
  try dsimp only
  refine (wpAny_bind (wpAny_field ho hd (x := .ref t) rfl ?_))
  refine (wpAny_bind (wpAny_field ho hd (x := rawInt i) rfl ?_))
  show wpAny _ _ (if i < 0 then _ else _) _ _ s
  rw [if_pos hi]
  refine (wpAny_bind (wpAny_rule ?_))
  refine (wpAny_bind ?_)
  wp_delta
  refine (wpAny_bind (wpAny_setField ho hd (by simp) ?_))
  have ho1 := Heap.get?_update_self _ ho (Obj.isFreed_of_fields (Obj.data_mapFields hd fun vs => vs.setIfInBounds 1 (rawInt (-1))))
  refine (wpAny_setField (s := { s with heap := _ }) ho1 (Obj.data_mapFields hd _) (by simp) ?_)
  refine (wpAny_bind ?_)
  show wpAny _ _ ((newExc (.type "StopIteration") []) >>= _) _ _ _
  refine (wpAny_bind ?_)
  simp only [newTuple, newExc]
  refine (wpAny_bind (wpAny_newObj_type ?_ (by size_fits)))
  refine (wpAny_bind (m := firstArgMember _ _) (wpAny_of_eq (a := Value.none) (by first | (simp only [firstArgMember]; rfl) | rfl) ?_))
  refine (wpAny_newObj_type ?_ (by size_fits))
  simp only [raiseNew]
  refine (wpAny_bind (wpAny_handled ?_))
  first
    | rw [hh]
    | rw [show A.in1.handled = none from hh]
  refine (wpAny_bind (wpAny_pure (wpAny_throw ?_)))
  refine (wpAny_bind (wpAny_isInstance (b := true) (T := "StopIteration") ⟨_, Heap.get?_push_size _ rfl, rfl⟩ isSubtype_stop ?_))
  exact wpAny_pure (hQ _ fun b o hb e => Heap.get?_push_of_some _ (Heap.get?_push_of_some _ ((Heap.SameBut.update ..).extBut b o hb ((Heap.SameBut.update ..).extBut b o hb e))))
end
end PySem
namespace L2
open PySem PySem.Spec PyProof.Rows
/-! ### for x in reversed(a tuple) -/
def Itv (K : PySem.W.Frag) (a : Addr) (n : Nat) : It := ⟨fun i H => i < n ∧ ∃ xs, SqT K H a xs ∧ xs.length = n, fun i H x H' => H' = H ∧ ∀ xs, SqT K H a xs → xs[n - 1 - i]? = some x, fun i H => n ≤ i⟩
theorem turn_rev {P : Program} {w : World} {K : PySem.W.Frag} {tg : Expr} (a it : Addr) (n : Nat) (hn : n ≤ 100000) : Turn P w K tg (Itv K a n) [it] it (fun i h => RvdAt h it a ((n : Int) - 1 - (i : Nat))) where
  mem := by simp
  obj := fun i h st b hb => by
    have e : b = it := by simpa using hb
    subst e
    obtain ⟨o, e, c, d⟩ := st
    exact ⟨o, e, fun v z => by rw [d] at z; cases z⟩
  keep := fun i h h' st k => st.stays fun o e => k it (by simp) o e
  item := by
    intro X hP hw hK hc i pins s σ H E I hf st hg
    subst hP hw hK
    obtain ⟨hi, xs, hq, hlen⟩ := hg
    obtain ⟨its, rv, p, hz⟩ := I.tuple hq
    have hl := rv.length
    have hx : xs[n - 1 - i]? = some (xs[n - 1 - i]'(by omega)) := List.getElem?_eq_getElem (by omega)
    obtain ⟨u, hu, ru⟩ := rv.get hx
    obtain ⟨f0, f1, f2, f3, f4, f5⟩ := hf it (by simp)
    have ei : (n : Int) - 1 - ((i : Nat) : Int) = ((n - 1 - i : Nat) : Int) := by omega
    rw [ei] at st
    refine rvd_item st p (x := u) (by simpa using hu) (by omega) fun h' tk st' sb => ?_
    have I1 : Inv X pins σ H { s with heap := h', toks := tk } := I.turned (t' := tk) (fun b o hb e => (sb.2 b hb).trans e) f0 f1 f3 f4 f5
    obtain ⟨o, e, c, d⟩ := id st'
    refine ⟨u, rfl, go_of (s := { s with heap := h', toks := tk }) e c d (by decide) ⟨_, H, I1, ru, ⟨rfl, fun ys hy => by rw [I.tuple_inj hy hq]; exact hx⟩, ?_, fun b hb => (hf b hb).1⟩⟩
    rw [show (n : Int) - 1 - ((i + 1 : Nat) : Int) = ((n - 1 - i : Nat) : Int) - 1 by omega]
    exact st'
  done := by
    intro X hP hw hK hc i pins s σ H E I hf st hg
    subst hP hw hK
    have hi : n ≤ i := hg
    obtain ⟨f0, f1, f2, f3, f4, f5⟩ := hf it (by simp)
    exact rvd_end (I.ok.hd hc) st (by omega) fun h' eb => ⟨rfl, I.turned (t' := s.toks) (fun b o hb e => eb b o hb e) f0 f1 f3 f4 f5⟩
  self := fun _ _ _ _ _ st h => rvd_iter st h
section
variable {X : Cx} {tg : Expr}
def iRev (K : PySem.W.Frag) (ta : TA) : TI := fun σ H R => ta σ H fun vs H1 => ∃ a xs, vs = [.ref a] ∧ SqT K H1 a xs ∧ xs.length ≤ 100000 ∧ R (Itv K a xs.length) H1
theorem pi_rev {e : Expr} {ta : TA} {p pos : Pos} (hg : Gl X "reversed") (hm : X.mg "reversed" = none) (ha : PA X [e] ta) (hb : bootBuiltins "reversed" = some (.type "reversed") := by decide +kernel) (hs : starEach [e] X.env = [(false, eval e X.env)] := by rfl) : PI X tg (.Call (.Name "reversed" p) [e] [] pos) (iRev X.K ta) := by
  intro pins s σ H R I h
  refine Call_ (ld_blt I hg hm hb (PyProof.Rows.callWith_type1 (thn (ha pos pins s σ H _ I h) fun us s1 ⟨vs, H1, I1, r1, q1⟩ => ?_) hs rfl))
  obtain ⟨a, xs, e, hq, hn, q⟩ := q1
  subst e
  obtain ⟨u, rfl, ru⟩ := r1.one
  cases ru
  obtain ⟨its, rv, pl, hz⟩ := I1.tuple hq
  have hl := rv.length
  refine call_reversed_tup pl (by rw [List.size_toArray]; omega) fun tk => ?_
  have I2 : Inv X pins σ H1 { s1 with heap := s1.heap.push { cls := .type "reversed", data := .fields #[.ref a, rawInt ((its.toArray.size : Int) - 1)] }, toks := tk } := I1.kept fun b o e => Heap.get?_push_of_some _ e
  have st : RvdAt (s1.heap.push { cls := .type "reversed", data := .fields #[.ref a, rawInt ((its.toArray.size : Int) - 1)] }) s1.heap.objs.size a ((xs.length : Int) - 1 - ((0 : Nat) : Int)) := by
    refine ⟨_, Heap.get?_push_size _ rfl, rfl, ?_⟩
    rw [List.size_toArray, ← hl]
    simp
  refine rvd_iter (s := { s1 with heap := s1.heap.push { cls := .type "reversed", data := .fields #[.ref a, rawInt ((its.toArray.size : Int) - 1)] }, toks := tk }) st ?_
  refine ⟨s1.heap.objs.size, [s1.heap.objs.size], _, _, H1, rfl, I2, turn_rev a _ xs.length hn, st, fun b hb => ?_, q⟩
  have e : b = s1.heap.objs.size := by simpa using hb
  subst e
  exact I1.fpOk (Nat.le_refl _) (I1.hok.fresh (Nat.le_refl _))
theorem for_rev {K : PySem.W.Frag} {a : Addr} {xs : List V} {g : TG} {tb : TS} {D : Ends} {σ : St} {H : Hp} (hq : ∀ H, SqT K H a xs) (Pv : Nat → St → Hp → Prop) (h0 : Pv 0 σ H)
    (hs : ∀ i x σ H, i < xs.length → xs[xs.length - 1 - i]? = some x → Pv i σ H → g x σ H fun σ2 H2 => tb { D with nx := Pv (i + 1), ct := Pv (i + 1), bk := D.nx } σ2 H2) (hd : ∀ σ H, Pv xs.length σ H → D.nx σ H) :
    ∃ W : Nat → Nat → St → Hp → Prop, (∃ m, W 0 m σ H) ∧ ∀ i m σ H, W i m σ H →
      ((Itv K a xs.length).stop i H ∧ D.nx σ H) ∨ ((Itv K a xs.length).go i H ∧ ∃ N : St → Hp → Prop, (∀ σ' H', N σ' H' → ∃ m', m' < m ∧ W (i + 1) m' σ' H') ∧ ∀ x H', (Itv K a xs.length).yld i H x H' → g x σ H' fun σ2 H2 => tb { D with nx := N, ct := N, bk := D.nx } σ2 H2) := by
  refine ⟨fun i m σ H => m = xs.length - i ∧ i ≤ xs.length ∧ Pv i σ H, ⟨xs.length, rfl, Nat.zero_le _, h0⟩, ?_⟩
  rintro i m σ H ⟨rfl, hi, p⟩
  by_cases hlt : i < xs.length
  · refine .inr ⟨⟨hlt, xs, hq H, rfl⟩, Pv (i + 1), fun σ' H' p' => ⟨xs.length - (i + 1), by omega, rfl, hlt, p'⟩, fun x H' y => ?_⟩
    obtain ⟨e, y⟩ := y
    subst e
    exact hs i x σ _ hlt (y xs (hq _)) p
  · have e : i = xs.length := by omega
    subst e
    exact .inl ⟨Nat.le_refl _, hd σ H p⟩
/-! ### for x, y in zip(two lists) -/
theorem for_zip {l1 l2 : Addr} {xs ys : List V} {g : TG} {tb : TS} {D : Ends} {σ : St} {H : Hp} (Pv : Nat → St → Hp → Prop) (h0 : Pv 0 σ H) (hxy : xs.length = ys.length) (hl : ∀ i σ H, Pv i σ H → H l1 = some (.lst xs) ∧ H l2 = some (.lst ys))
    (hs : ∀ i x y σ H T, xs[i]? = some x → ys[i]? = some y → H T = none → Pv i σ H → g (.ref T) σ (upd H T (.tup [x, y])) fun σ2 H2 => tb { D with nx := Pv (i + 1), ct := Pv (i + 1), bk := D.nx } σ2 H2) (hd : ∀ σ H, Pv xs.length σ H → D.nx σ H) :
    ∃ W : Nat → Nat → St → Hp → Prop, (∃ m, W 0 m σ H) ∧ ∀ i m σ H, W i m σ H →
      ((Itz l1 l2).stop i H ∧ D.nx σ H) ∨ ((Itz l1 l2).go i H ∧ ∃ N : St → Hp → Prop, (∀ σ' H', N σ' H' → ∃ m', m' < m ∧ W (i + 1) m' σ' H') ∧ ∀ x H', (Itz l1 l2).yld i H x H' → g x σ H' fun σ2 H2 => tb { D with nx := N, ct := N, bk := D.nx } σ2 H2) := by
  refine ⟨fun i m σ H => m = xs.length - i ∧ i ≤ xs.length ∧ Pv i σ H, ⟨xs.length, rfl, Nat.zero_le _, h0⟩, ?_⟩
  rintro i m σ H ⟨rfl, hi, p⟩
  obtain ⟨z2, z3⟩ := hl i σ H p
  by_cases hlt : i < xs.length
  · have hlt2 : i < ys.length := by omega
    refine .inr ⟨⟨xs, ys, xs[i], ys[i], z2, z3, List.getElem?_eq_getElem hlt, List.getElem?_eq_getElem hlt2⟩, Pv (i + 1), fun σ' H' p' => ⟨xs.length - (i + 1), by omega, rfl, hlt, p'⟩, fun x H' y => ?_⟩
    obtain ⟨T, rfl, hT, hh⟩ := y
    rw [hh xs ys _ _ z2 z3 (List.getElem?_eq_getElem hlt) (List.getElem?_eq_getElem hlt2)]
    exact hs i _ _ σ H T (List.getElem?_eq_getElem hlt) (List.getElem?_eq_getElem hlt2) hT p
  · have e : i = xs.length := by omega
    subst e
    exact .inl ⟨⟨xs, ys, z2, z3, .inl (Nat.le_refl _)⟩, hd σ H p⟩
/-! ### x is True, x is False -/
theorem op_isB : OpR X (compareOp .Is) (fun x y H Q => ∃ b, y = .bl b ∧ ((∃ c, x = .bl c ∧ Q (.bl (c == b)) H) ∨ ∃ a, x = .ref a ∧ Q (.bl false) H)) := by
  intro pins s σ H x y v u Q I rx ry h
  obtain ⟨b, rfl, h⟩ := h
  cases ry
  rcases h with ⟨c, rfl, q⟩ | ⟨a, rfl, q⟩
  · cases rx
    exact wpAny_is_plain rfl (fin_bl I q (by cases b <;> cases c <;> rfl))
  · cases rx
    exact wpAny_is_plain rfl (fin_bl I q rfl)
/-! ### xs.count(True), all(xs) -/
theorem count_lift {e : V → Bool} : ∀ {ys : List V} {us : List Value}, Vals ys us → us.countP (liftE e) = ys.countP e
  | _, _, .nil => rfl
  | _, _, .cons r t => by rw [List.countP_cons, List.countP_cons, liftE_of r, count_lift t]
theorem count_bl (b : Bool) : ∀ bs : List Bool, (bs.map V.bl).countP (fun z => eqV z (.bl b)) = (bs.filter fun x => x == b).length
  | [] => rfl
  | c :: bs => by
    rw [List.map_cons, List.countP_cons, List.filter_cons, count_bl b bs]
    cases c <;> cases b <;> rfl
theorem mt_countB : MtR X "list.count" (fun x vs H Q => ∃ (l : Addr) (bs : List Bool) (b : Bool), x = .ref l ∧ vs = [.bl b] ∧ H l = some (.lst (bs.map V.bl)) ∧ Q (.int (((bs.filter fun x => x == b).length : Nat) : Int)) H) := by
  intro pins s σ H x vs v us Q I rx rv h
  obtain ⟨l, bs, b, rfl, rfl, hH, q⟩ := h
  cases rx
  obtain ⟨u, rfl, ru⟩ := rv.one
  obtain ⟨z, its, n, r, hl, e⟩ := I.lstM hH
  refine call_meets F.slot_list_count ⟨_, e, rfl⟩ F.entry_list_count (F.args_list_count_2 _ _) (SeqAt.list_countAt l its.toArray n none #[] u (liftE fun z => eqV z (.bl b))) ⟨e, fun y hy => ?_, ?_⟩
  · refine mem_lift (e := fun z => eqV z (.bl b)) r (fun z hz w rw => ?_) y (by simpa using hy)
    obtain ⟨c, _, rfl⟩ := List.mem_map.mp hz
    exact eqAt_V rw ru rfl rfl
  · refine ⟨.int _, H, I.tok _, ⟨_, rfl⟩, ?_⟩
    rw [show its.toArray.toList = its from rfl, count_lift r, count_bl]
    exact q
theorem bt_all : bootBuiltins "all" = some (.builtin "all") := by decide +kernel
theorem call_allB (hc : X.calm = true) : CallR X (.builtin "all") (fun xs H Q => ∃ (l : Addr) (bs : List Bool), xs = [.ref l] ∧ H l = some (.lst (bs.map V.bl)) ∧ Q (.bl (bs.all fun x => x)) H) := by
  intro pins s σ H xs us Q I rv h
  obtain ⟨l, bs, rfl, hH, q⟩ := h
  obtain ⟨u, rfl, ru⟩ := rv.one
  cases ru
  obtain ⟨its, r, pl, hz⟩ := I.list (SqL.of hH)
  have hl := r.length
  refine call_all_walkS (wpAny_pyIter_list pl.isList ?_)
  have hne : l ≠ s.heap.objs.size := ne_of_none hH I.fresh
  refine ⟨s.heap.objs.size, [s.heap.objs.size, l], [s.heap.objs.size], fun a b => b = a, its.toArray.size, _, _, fun i => bs.getD i false, rfl, (Walks.list (prog := X.prog) (w := X.w) (A := X.A.in1) (I.ok.hd hc) s.heap.objs.size l hne its.toArray).toS, ⟨⟨_, Heap.get?_push_size _ rfl, rfl, rfl⟩, pl.isList.at fun o e => Heap.get?_push_of_some _ e⟩, ?_, fun s' hm => ?_⟩
  · intro i v s1 R E hv hR
    obtain ⟨x, hx, rx⟩ := items_get r (j := i) (Array.getElem?_eq_some_iff.mp hv).1
    have ev := (Array.getElem?_eq_some_iff.mp hv).2
    rw [ev] at rx
    rw [List.getElem?_map] at hx
    cases e : bs[i]? with
    | none => rw [e] at hx; cases hx
    | some c =>
      rw [e] at hx
      have hx' : V.bl c = x := Option.some.inj hx
      subst hx'
      cases rx
      have e2 : bs.getD i false = c := by rw [List.getD_eq_getElem?_getD, e]; rfl
      replace hR : R c s1 := e2 ▸ hR
      exact wpAny_truthy_bool hR
  · rw [Moved.eq_with hm]
    refine ⟨.bl _, H, I.kept (t' := s'.toks) fun b o e => hm.heap b o (fun z => ?_) (Heap.get?_push_of_some _ e), rfl, ?_⟩
    · have z' : b = s.heap.objs.size := by simpa using z
      exact absurd (Heap.lt_size e) (by rw [z']; exact Nat.lt_irrefl _)
    · rw [List.size_toArray, ← hl, List.length_map]
      have e : (List.range bs.length).all (fun i => bs.getD i false) = bs.all fun x => x := by
        rw [Bool.eq_iff_iff, List.all_eq_true, List.all_eq_true]
        constructor
        · intro h x hx
          obtain ⟨i, hi, rfl⟩ := List.mem_iff_getElem.mp hx
          have := h i (List.mem_range.mpr hi)
          rwa [List.getD_eq_getElem?_getD, List.getElem?_eq_getElem hi] at this
        · intro h i hi
          have hi := List.mem_range.mp hi
          rw [List.getD_eq_getElem?_getD, List.getElem?_eq_getElem hi]
          exact h _ (List.getElem_mem hi)
      rw [e]
      exact q
end
end L2
namespace FG
open PySem L2
/-! ### statements -/
inductive S where
  | lt (j : Nat)
  | no (s : S)
  | two (w : Nat) (l r : S)
def jn (w : Nat) (a b : Bool) : Bool := if w = 0 then a && b else if w = 1 then a || b else !a || b
def bit (j n : Nat) : Bool := decide (n / 2 ^ j % 2 = 1)
def val : S → Nat → Bool
  | .lt j, n => bit j n
  | .no s, n => !val s n
  | .two w l r, n => jn w (val l n) (val r n)
def tab (s : S) : List Bool := (List.range 16).map (val s)
def sz : S → Nat
  | .lt _ => 1
  | .no s => sz s + 1
  | .two _ l r => sz l + sz r + 1
def ok : S → Prop
  | .lt j => j < 4
  | .no s => ok s
  | .two w l r => w < 3 ∧ ok l ∧ ok r
def ltr (j : Nat) : Str := ⟨#[97 + j]⟩
def wd (n : Nat) : Str := ([("and" : Str), "or", "if"] : List Str).getD n "if"
/-- the words of a statement, each behind its parts -/
def post : S → List Str
  | .lt j => [ltr j]
  | .no s => post s ++ [("not" : Str)]
  | .two w l r => post l ++ post r ++ [wd w]
/-- the walk's order: the word, then the right part, then the left -/
def pre : S → List Str
  | .lt j => [ltr j]
  | .no s => ("not" : Str) :: pre s
  | .two w l r => wd w :: (pre r ++ pre l)
theorem pre_post : ∀ s, (pre s).reverse = post s
  | .lt j => rfl
  | .no s => by simp [pre, post, pre_post s]
  | .two w l r => by simp [pre, post, pre_post l, pre_post r]
theorem sz_pos : ∀ s, 0 < sz s
  | .lt _ => by simp [sz]
  | .no s => by simp [sz]
  | .two _ l r => by simp [sz]
/-- what is left to do, with the pile of truths, ends at b -/
inductive Run (n : Nat) : List Str → List Bool → Bool → Prop where
  | done (b : Bool) : Run n [] [b] b
  | ltr {j : Nat} {r : List Str} {st : List Bool} {b : Bool} : j < 4 → Run n r (st ++ [bit j n]) b → Run n (ltr j :: r) st b
  | no {p : Bool} {r : List Str} {st : List Bool} {b : Bool} : Run n r (st ++ [!p]) b → Run n (("not" : Str) :: r) (st ++ [p]) b
  | two {w : Nat} {p q : Bool} {r : List Str} {st : List Bool} {b : Bool} : w < 3 → Run n r (st ++ [jn w p q]) b → Run n (wd w :: r) (st ++ [p] ++ [q]) b
theorem run_post (n : Nat) : ∀ (s : S) (r : List Str) (st : List Bool) (b : Bool), ok s → Run n r (st ++ [val s n]) b → Run n (post s ++ r) st b
  | .lt j, r, st, b, h, q => .ltr h q
  | .no s, r, st, b, h, q => by
    have z : Run n ("not" :: r) (st ++ [val s n]) b := .no (by simpa [val] using q)
    have := run_post n s ("not" :: r) st b h z
    simpa [post] using this
  | .two w l r', r, st, b, h, q => by
    have z : Run n (wd w :: r) (st ++ [val l n] ++ [val r' n]) b := .two h.1 (by simpa [val] using q)
    have z2 := run_post n r' (wd w :: r) (st ++ [val l n]) b h.2.2 z
    have := run_post n l (post r' ++ wd w :: r) st b h.2.1 z2
    simpa [post] using this
theorem run_whole (n : Nat) (s : S) (h : ok s) : Run n (post s) [] (val s n) := by
  have := run_post n s [] [] (val s n) h (.done _)
  simpa using this
theorem post_len : ∀ s, (post s).length = sz s
  | .lt j => rfl
  | .no s => by simp [post, sz, post_len s]
  | .two w l r => by simp [post, sz, post_len l, post_len r]; omega
/-- the pile never holds more truths than words were read -/
theorem tab_len (s : S) : (tab s).length = 16 := by simp [tab]
theorem tab_get (s : S) (n : Nat) (h : n < 16) : (tab s)[n]? = some (val s n) := by simp [tab, h]
end FG
namespace FG
open PySem L2
theorem bt_len : bootBuiltins "len" = some (.builtin "len") := by decide +kernel
theorem bt_isi : bootBuiltins "isinstance" = some (.builtin "isinstance") := by decide +kernel
theorem bt_tuple : bootBuiltins "tuple" = some (.type "tuple") := by decide +kernel
theorem bt_bool : bootBuiltins "bool" = some (.type "bool") := by decide +kernel
theorem bt_list : bootBuiltins "list" = some (.type "list") := by decide +kernel
theorem bt_str : bootBuiltins "str" = some (.type "str") := by decide +kernel
theorem bt_rev : bootBuiltins "reversed" = some (.type "reversed") := by decide +kernel
theorem snoc_of {α : Type} {ws : List α} (h : 0 < ws.length) : ∃ us v, ws = us ++ [v] := by
  cases e : ws.reverse with
  | nil =>
    have : ws = [] := by simpa using congrArg List.reverse e
    subst this
    simp at h
  | cons v r => exact ⟨r.reverse, v, by simpa using congrArg List.reverse e⟩
theorem snoc_get {α : Type} (us : List α) (v : α) : (us ++ [v])[(us ++ [v]).length - 1]? = some v := by simp
theorem two_of {α : Type} {ws : List α} (h : 1 < ws.length) : ∃ us u v, ws = us ++ [u] ++ [v] := by
  obtain ⟨us, v, rfl⟩ := snoc_of (ws := ws) (by omega)
  obtain ⟨us', u, rfl⟩ := snoc_of (ws := us) (by simp at h; omega)
  exact ⟨us', u, v, rfl⟩
theorem iteAnd {t : TE} {σ : St} {H : Hp} {Q : Bool → Hp → Prop} {c1 c2 : Bool} (h2 : ∀ R : Bool → Hp → Prop, R c2 H → tTest t σ H R) (h : Q (c1 && c2) H) : if c1 = true then tTest t σ H Q else Q false H := by
  cases c1 with
  | true => exact iteT (h2 _ h)
  | false => exact iteF h
theorem ite_bl {c : Prop} [Decidable c] {A B : Prop} (h1 : c → A) (h2 : ¬ c → B) : if decide c = true then A else B := by
  by_cases h : c
  · rw [decide_eq_true h]; exact iteT (h1 h)
  · rw [decide_eq_false h]; exact iteF (h2 h)
theorem nameYes {i : Nat} {x : V} {σ : St} {H : Hp} {A B : St → Hp → Prop} (h : A (σ.set i (some x)) H) : gName i x σ H fun σ2 H3 => tYes σ2 H3 fun b H4 => if b = true then A σ2 H4 else B σ2 H4 := by
  show if true = true then A (σ.set i (some x)) H else B (σ.set i (some x)) H
  exact iteT h
/-! ### what the module holds -/
def TupK (K : PySem.W.Frag) (a : Addr) (xs : List V) : Prop := ∃ (o : Obj) (its : Array Value) (n : Nat), K.lookup a = some o ∧ o.cls = .type "tuple" ∧ o.data = .seq its n ∧ its.size ≤ sizeLine ∧ Vals xs its.toList
theorem TupK.sq {K : PySem.W.Frag} {a : Addr} {xs : List V} (h : TupK K a xs) {H : Hp} : SqT K H a xs := .inr h
theorem TupK.of {K : PySem.W.Frag} {a : Addr} {o : Option Addr} {i : Array Value} {n : Nat} {q : Array (Option Value)} {xs : List V} (hl : K.lookup a = some ⟨.type "tuple", o, .seq i n, q⟩) (hv : Vals xs i.toList) (hn : xs.length ≤ 10) : TupK K a xs := by
  have h1 := hv.length
  have h2 : i.toList.length = i.size := by simp
  exact ⟨_, i, n, hl, rfl, rfl, Nat.le_of_lt (small (by omega)), hv⟩
/-! ### a statement in the heap -/
def Rep (H : Hp) : S → V → Prop
  | .lt j, v => j < 4 ∧ v = .str (ltr j)
  | .no s, v => ∃ a u, v = .ref a ∧ H a = some (.tup [.str "not", u]) ∧ Rep H s u
  | .two w l r, v => w < 3 ∧ ∃ a u1 u2, v = .ref a ∧ H a = some (.tup [.str (wd w), u1, u2]) ∧ Rep H l u1 ∧ Rep H r u2
theorem Rep.mono {H H' : Hp} (k : Tk H H') : ∀ {s : S} {v : V}, Rep H s v → Rep H' s v
  | .lt j, v, h => h
  | .no s, v, h => by
    obtain ⟨a, u, e, q, r⟩ := h
    exact ⟨a, u, e, k _ _ q, Rep.mono k r⟩
  | .two w l r, v, h => by
    obtain ⟨hw, a, u1, u2, e, q, r1, r2⟩ := h
    exact ⟨hw, a, u1, u2, e, k _ _ q, Rep.mono k r1, Rep.mono k r2⟩
theorem Rep.ok {H : Hp} : ∀ {s : S} {v : V}, Rep H s v → FG.ok s
  | .lt j, v, h => h.1
  | .no s, v, h => by
    obtain ⟨a, u, e, q, r⟩ := h
    have z : FG.ok s := Rep.ok r
    exact z
  | .two w l r, v, h => by
    obtain ⟨hw, a, u1, u2, e, q, r1, r2⟩ := h
    exact ⟨hw, Rep.ok r1, Rep.ok r2⟩
/-- a pair: the statement, and the list of its truths at c -/
def Pair (H : Hp) (s : S) (v : V) (c : Addr) : Prop := ∃ a u, v = .ref a ∧ H a = some (.tup [u, .ref c]) ∧ Rep H s u ∧ H c = some (.lst ((tab s).map V.bl))
theorem Pair.mono {H H' : Hp} {s : S} {v : V} {c : Addr} (p : Pair H s v c) (k : Tk H H') (hc : H' c = H c) : Pair H' s v c := by
  obtain ⟨a, u, e, h1, r, h2⟩ := p
  exact ⟨a, u, e, k _ _ h1, r.mono k, by rw [hc]; exact h2⟩
theorem Pair.same {H H' : Hp} {s : S} {v : V} {c : Addr} (p : Pair H s v c) (e : Same H H') : Pair H' s v c := by
  obtain ⟨a, u, rfl, h1, r, h2⟩ := p
  exact ⟨a, u, rfl, e _ _ h1, r.mono e.tk, e _ _ h2⟩
/-- the pile: pairs, none of whose lists of truths is the pile itself -/
def Pairs (H : Hp) (l : Addr) : List S → List V → Prop
  | [], vs => vs = []
  | s :: r, vs => ∃ v us c, vs = v :: us ∧ Pair H s v c ∧ c ≠ l ∧ Pairs H l r us
theorem Pairs.mono {H H' : Hp} {l : Addr} (k : Tk H H') (kl : ∀ c xs, c ≠ l → H c = some (.lst xs) → H' c = some (.lst xs)) : ∀ {ss : List S} {vs : List V}, Pairs H l ss vs → Pairs H' l ss vs
  | [], vs, h => h
  | s :: r, vs, h => by
    obtain ⟨v, us, c, e, p, ne, q⟩ := h
    obtain ⟨a, u, e2, h1, rr, h2⟩ := p
    exact ⟨v, us, c, e, ⟨a, u, e2, k _ _ h1, rr.mono k, kl _ _ ne h2⟩, ne, Pairs.mono k kl q⟩
theorem Pairs.length {H : Hp} {l : Addr} : ∀ {ss : List S} {vs : List V}, Pairs H l ss vs → vs.length = ss.length
  | [], vs, h => by rw [show vs = [] from h]; rfl
  | s :: r, vs, h => by
    obtain ⟨v, us, c, rfl, _, _, q⟩ := h
    simp [Pairs.length q]
theorem Pairs.append {H : Hp} {l : Addr} : ∀ {xs ys : List S} {us vs : List V}, Pairs H l xs us → Pairs H l ys vs → Pairs H l (xs ++ ys) (us ++ vs)
  | [], ys, us, vs, h, h2 => by rw [show us = [] from h]; exact h2
  | s :: r, ys, us, vs, h, h2 => by
    obtain ⟨v, us', c, rfl, p, ne, q⟩ := h
    exact ⟨v, us' ++ vs, c, rfl, p, ne, Pairs.append q h2⟩
theorem Pairs.split {H : Hp} {l : Addr} : ∀ {us vs : List V} {ss : List S}, Pairs H l ss (us ++ vs) → ∃ xs ys, ss = xs ++ ys ∧ Pairs H l xs us ∧ Pairs H l ys vs
  | [], vs, ss, h => ⟨[], ss, rfl, rfl, h⟩
  | u :: us, vs, [], h => by cases (show u :: us ++ vs = [] from h)
  | u :: us, vs, s :: r, h => by
    obtain ⟨v, w, c, e, p, ne, q⟩ := h
    rw [List.cons_append] at e
    injection e with e1 e2
    subst e1 e2
    obtain ⟨xs, ys, e, a, b⟩ := Pairs.split q
    exact ⟨s :: xs, ys, by rw [e, List.cons_append], ⟨u, us, c, rfl, p, ne, a⟩, b⟩
theorem Pairs.last {H : Hp} {l : Addr} {us : List V} {v : V} {ss : List S} (h : Pairs H l ss (us ++ [v])) : ∃ xs s c, ss = xs ++ [s] ∧ Pairs H l xs us ∧ Pair H s v c ∧ c ≠ l := by
  obtain ⟨xs, ys, e, a, b⟩ := h.split
  cases ys with
  | nil => cases (show [v] = [] from b)
  | cons s r =>
    obtain ⟨w, u, c, e2, p, ne, q⟩ := b
    injection e2 with e3 e4
    subst e3 e4
    cases r with
    | nil => exact ⟨xs, s, c, e, a, p, ne⟩
    | cons _ _ =>
      obtain ⟨_, _, _, e5, _⟩ := q
      cases e5
theorem Pairs.one {H : Hp} {l : Addr} {s : S} {v : V} {c : Addr} (p : Pair H s v c) (h : c ≠ l) : Pairs H l [s] [v] := ⟨v, [], c, rfl, p, h, rfl⟩
def szs : List S → Nat
  | [] => 0
  | s :: r => sz s + szs r
theorem szs_append : ∀ xs ys, szs (xs ++ ys) = szs xs + szs ys
  | [], ys => by simp [szs]
  | x :: xs, ys => by simp [szs, szs_append xs ys]; omega
theorem szs_one (s : S) : szs [s] = sz s := by simp [szs]
theorem szs_len : ∀ xs, xs.length ≤ szs xs
  | [] => by simp [szs]
  | x :: xs => by have := sz_pos x; have := szs_len xs; simp [szs]; omega
/-! ### small tables -/
theorem wd_at {k : Nat} (h : k < 3) : atI ([.str "and", .str "or", .str "if"] : List V) (k : Int) = some (.str (wd k)) := by
  have : k = 0 ∨ k = 1 ∨ k = 2 := by omega
  rcases this with rfl | rfl | rfl <;> rfl
theorem wt_at {k : Nat} (h : k < 4) : atI ([.int 1, .int 2, .int 4, .int 8] : List V) (k : Int) = some (.int ((2 ^ k : Nat) : Int)) := by
  have : k = 0 ∨ k = 1 ∨ k = 2 ∨ k = 3 := by omega
  rcases this with rfl | rfl | rfl | rfl <;> rfl
theorem abcd_at {k : Nat} (h : k < 4) : atI ("abcd" : Str).cps.toList (k : Int) = some (97 + k) := by
  have : k = 0 ∨ k = 1 ∨ k = 2 ∨ k = 3 := by omega
  rcases this with rfl | rfl | rfl | rfl <;> decide +kernel
theorem wt_pos (k : Nat) : 0 < 2 ^ k := Nat.pos_of_ne_zero (by simp)
theorem wt_small {k : Nat} (h : k < 4) : (0 : Int) < ((2 ^ k : Nat) : Int) ∧ ((2 ^ k : Nat) : Int) < 1073741824 := by
  have : k = 0 ∨ k = 1 ∨ k = 2 ∨ k = 3 := by omega
  rcases this with rfl | rfl | rfl | rfl <;> decide
theorem bit_int (j n : Nat) : decide (V.int ((n : Int) / ((2 ^ j : Nat) : Int) % 2) = V.int 1) = bit j n := by
  unfold bit
  have e : ((n : Int) / ((2 ^ j : Nat) : Int) % 2) = ((n / 2 ^ j % 2 : Nat) : Int) := by
    rw [Int.natCast_emod, Int.natCast_ediv]
    rfl
  rw [e]
  by_cases h : n / 2 ^ j % 2 = 1
  · rw [decide_eq_true h, decide_eq_true (by rw [h]; rfl)]
  · rw [decide_eq_false h, decide_eq_false]
    intro z
    injection z with z
    exact h (by omega)
end FG
namespace FG
open PySem L2
/-! ### forms -/
inductive Fm where
  | lf (b : Bool)
  | fk (j : Nat) (so ot : Fm)
  deriving DecidableEq
def fend : Fm → Nat → Bool
  | .lf b, _ => b
  | .fk j s o, n => if bit j n then fend s n else fend o n
/-- letters from lo on, rising, no two sides the same -/
def fok : Nat → Fm → Prop
  | _, .lf _ => True
  | lo, .fk j s o => lo ≤ j ∧ j < 4 ∧ s ≠ o ∧ fok (j + 1) s ∧ fok (j + 1) o
def fsz : Fm → Nat
  | .lf _ => 1
  | .fk _ s o => fsz s + fsz o + 1
def fdep : Fm → Nat
  | .lf _ => 0
  | .fk _ s o => max (fdep s) (fdep o) + 1
theorem fok_dep : ∀ (f : Fm) (lo : Nat), lo ≤ 4 → fok lo f → fdep f ≤ 4 - lo
  | .lf _, lo, _, _ => by simp [fdep]
  | .fk j s o, lo, hl, h => by
    obtain ⟨h1, h2, _, h3, h4⟩ := h
    have e1 := fok_dep s (j + 1) (by omega) h3
    have e2 := fok_dep o (j + 1) (by omega) h4
    simp only [fdep]
    omega
theorem fsz_le : ∀ (f : Fm), fsz f + 1 ≤ 2 ^ (fdep f + 1)
  | .lf _ => by simp [fsz, fdep]
  | .fk j s o => by
    have e1 := fsz_le s
    have e2 := fsz_le o
    have m1 : 2 ^ (fdep s + 1) ≤ 2 ^ (max (fdep s) (fdep o) + 1) := Nat.pow_le_pow_right (by decide) (by omega)
    have m2 : 2 ^ (fdep o + 1) ≤ 2 ^ (max (fdep s) (fdep o) + 1) := Nat.pow_le_pow_right (by decide) (by omega)
    simp only [fsz, fdep]
    rw [Nat.pow_succ 2 (max (fdep s) (fdep o) + 1)]
    omega
theorem fok_sz {f : Fm} (h : fok 0 f) : fsz f ≤ 31 := by
  have e1 := fok_dep f 0 (by decide) h
  have e2 := fsz_le f
  have e3 : 2 ^ (fdep f + 1) ≤ 2 ^ 5 := Nat.pow_le_pow_right (by decide) (by omega)
  omega
theorem fsz_pos : ∀ f, 0 < fsz f
  | .lf _ => by simp [fsz]
  | .fk _ s o => by simp [fsz]
theorem ltr_inj {i j : Nat} (h : ltr i = ltr j) : i = j := by
  have e : (ltr i).cps[0]! = (ltr j).cps[0]! := by rw [h]
  have e2 : 97 + i = 97 + j := e
  omega
def RepF (H : Hp) : Fm → V → Prop
  | .lf b, v => v = .bl b
  | .fk j s o, v => ∃ a u1 u2, v = .ref a ∧ H a = some (.tup [.str (ltr j), u1, u2]) ∧ RepF H s u1 ∧ RepF H o u2
theorem RepF.mono {H H' : Hp} (k : Tk H H') : ∀ {f : Fm} {v : V}, RepF H f v → RepF H' f v
  | .lf b, v, h => h
  | .fk j s o, v, h => by
    obtain ⟨a, u1, u2, e, q, r1, r2⟩ := h
    exact ⟨a, u1, u2, e, k _ _ q, RepF.mono k r1, RepF.mono k r2⟩
theorem RepF.inj {H : Hp} : ∀ {f g : Fm} {v : V}, RepF H f v → RepF H g v → f = g
  | .lf b, .lf c, v, h, h2 => by
    have e : V.bl b = V.bl c := (show v = .bl b from h).symm.trans h2
    cases e
    rfl
  | .lf b, .fk _ _ _, v, h, h2 => by
    obtain ⟨a, u1, u2, e, _⟩ := h2
    cases (show v = .bl b from h).symm.trans e
  | .fk _ _ _, .lf b, v, h, h2 => by
    obtain ⟨a, u1, u2, e, _⟩ := h
    cases (show v = .bl b from h2).symm.trans e
  | .fk j s o, .fk j2 s2 o2, v, h, h2 => by
    obtain ⟨a, u1, u2, e, q, r1, r2⟩ := h
    obtain ⟨a', u1', u2', e', q', r1', r2'⟩ := h2
    cases e.symm.trans e'
    have z := Option.some.inj (q.symm.trans q')
    injection z with z
    injection z with z1 z
    injection z with z2 z
    injection z with z3 _
    injection z1 with z1
    subst z2 z3
    rw [ltr_inj z1, RepF.inj r1 r1', RepF.inj r2 r2']
section
variable {X : Cx} {H : Hp}
def fe (j1 j2 : Nat) (s1 s2 o1 o2 : Fm) : Nat → Bool
  | 0 => decide (j1 = j2)
  | 1 => decide (s1 = s2)
  | _ => decide (o1 = o2)
theorem fe_all (j1 j2 : Nat) (s1 s2 o1 o2 : Fm) (n : Nat) (hn : n = 3) : ((List.range (min n n)).all (fe j1 j2 s1 s2 o1 o2) && n == n) = decide (Fm.fk j1 s1 o1 = Fm.fk j2 s2 o2) := by
  subst hn
  rw [show List.range (min 3 3) = [0, 1, 2] from rfl]
  simp [fe]
theorem str_eqO {i j : Nat} {k : Nat} : EqO X H k (.str (ltr i)) (.str (ltr j)) (decide (i = j)) := by
  have e : eqV (.str (ltr i)) (.str (ltr j)) = decide (i = j) := by
    show (ltr i == ltr j) = decide (i = j)
    by_cases h : i = j
    · subst h
      simp
    · rw [decide_eq_false h]
      exact beq_false_of_ne fun z => h (ltr_inj z)
  rw [← e]
  exact EqO.flat rfl rfl
theorem bl_eqO {b c : Bool} {k : Nat} : EqO X H k (.bl b) (.bl c) (decide (Fm.lf b = Fm.lf c)) := by
  have e : eqV (.bl b) (.bl c) = decide (Fm.lf b = Fm.lf c) := by cases b <;> cases c <;> rfl
  rw [← e]
  exact EqO.flat rfl rfl
theorem rcFk {j j2 : Nat} {s o s2 o2 : Fm} {a b : Addr} {u1 u2 w1 w2 : V} {k : Nat} (ha : H a = some (.tup [.str (ltr j), u1, u2])) (hb : H b = some (.tup [.str (ltr j2), w1, w2]))
    (h1 : EqO X H k u1 w1 (decide (s = s2))) (h2 : EqO X H k u2 w2 (decide (o = o2))) : RcO X H (k + 1) (.ref a) (.ref b) (decide (Fm.fk j s o = Fm.fk j2 s2 o2)) := by
  have q := RcO.tups (X := X) (H := H) (k := k) (e := fe j j2 s s2 o o2) (SqT.of ha) (SqT.of hb) (fun i x y hx hy => by
    match i with
    | 0 => cases hx; cases hy; exact str_eqO
    | 1 => cases hx; cases hy; exact h1
    | 2 => cases hx; cases hy; exact h2
    | i + 3 => cases hx)
  rw [show ([.str (ltr j), u1, u2] : List V).length = 3 from rfl, show ([.str (ltr j2), w1, w2] : List V).length = 3 from rfl, fe_all _ _ _ _ _ _ 3 rfl] at q
  exact q
theorem eqO_mono {k k' : Nat} {x y : V} {b : Bool} (h : EqO X H k x y b) (hk : k ≤ k') : EqO X H k' x y b := fun pins s σ I u v ru rv A hu => h pins s σ I u v ru rv A (by omega)
theorem rcO_mono {k k' : Nat} {x y : V} {b : Bool} (h : RcO X H k x y b) (hk : k ≤ k') : RcO X H k' x y b := fun pins s σ I u v ru rv A hu => h pins s σ I u v ru rv A (by omega)
theorem eqF : ∀ (f g : Fm) {u v : V}, RepF H f u → RepF H g v → EqO X H (fdep f) u v (decide (f = g))
  | .lf b, .lf c, u, v, h, h2 => by
    cases (show u = .bl b from h)
    cases (show v = .bl c from h2)
    exact bl_eqO
  | .lf b, .fk _ _ _, u, v, h, h2 => by
    cases (show u = .bl b from h)
    obtain ⟨a, u1, u2, rfl, q, _⟩ := h2
    exact EqO.flatTup rfl (SqT.of q)
  | .fk _ _ _, .lf b, u, v, h, h2 => by
    cases (show v = .bl b from h2)
    obtain ⟨a, u1, u2, rfl, q, _⟩ := h
    exact EqO.tupFlat rfl (SqT.of q)
  | .fk j s o, .fk j2 s2 o2, u, v, h, h2 => by
    have hh := h
    obtain ⟨a, u1, u2, rfl, q, r1, r2⟩ := h
    obtain ⟨a', w1, w2, rfl, q', r1', r2'⟩ := id h2
    refine EqO.refs (rcFk q q' (eqO_mono (eqF s s2 r1 r1') (Nat.le_max_left _ _)) (eqO_mono (eqF o o2 r2 r2') (Nat.le_max_right _ _))) (fun e => ?_)
    subst e
    exact decide_eq_true (RepF.inj hh h2)
/-- the very == of two forms -/
theorem rcF : ∀ (f g : Fm) {u v : V}, RepF H f u → RepF H g v → RcO X H (fdep f) u v (decide (f = g))
  | .lf b, .lf c, u, v, h, h2 => by
    cases (show u = .bl b from h)
    cases (show v = .bl c from h2)
    have e : (b == c) = decide (Fm.lf b = Fm.lf c) := by cases b <;> cases c <;> rfl
    rw [← e]
    exact RcO.bls b c
  | .lf b, .fk _ _ _, u, v, h, h2 => by
    cases (show u = .bl b from h)
    obtain ⟨a, u1, u2, rfl, q, _⟩ := h2
    exact RcO.blTup (SqT.of q)
  | .fk _ _ _, .lf b, u, v, h, h2 => by
    cases (show v = .bl b from h2)
    obtain ⟨a, u1, u2, rfl, q, _⟩ := h
    exact RcO.tupBl (SqT.of q)
  | .fk j s o, .fk j2 s2 o2, u, v, h, h2 => by
    obtain ⟨a, u1, u2, rfl, q, r1, r2⟩ := h
    obtain ⟨a', w1, w2, rfl, q', r1', r2'⟩ := h2
    exact rcFk q q' (eqO_mono (eqF s s2 r1 r1') (Nat.le_max_left _ _)) (eqO_mono (eqF o o2 r2 r2') (Nat.le_max_right _ _))
end
/-! ### lists, pair by pair -/
inductive All2 {α β : Type} (R : α → β → Prop) : List α → List β → Prop where
  | nil : All2 R [] []
  | cons {x : α} {y : β} {xs : List α} {ys : List β} : R x y → All2 R xs ys → All2 R (x :: xs) (y :: ys)
theorem All2.mono {α β : Type} {R R' : α → β → Prop} (k : ∀ x y, R x y → R' x y) : ∀ {xs : List α} {ys : List β}, All2 R xs ys → All2 R' xs ys
  | _, _, .nil => .nil
  | _, _, .cons a b => .cons (k _ _ a) (b.mono k)
theorem All2.length {α β : Type} {R : α → β → Prop} : ∀ {xs : List α} {ys : List β}, All2 R xs ys → ys.length = xs.length
  | _, _, .nil => rfl
  | _, _, .cons a b => by simp [b.length]
theorem All2.append {α β : Type} {R : α → β → Prop} : ∀ {xs xs' : List α} {ys ys' : List β}, All2 R xs ys → All2 R xs' ys' → All2 R (xs ++ xs') (ys ++ ys')
  | _, _, _, _, .nil, h => h
  | _, _, _, _, .cons a b, h => .cons a (b.append h)
theorem All2.last {α β : Type} {R : α → β → Prop} : ∀ {ys : List β} {y : β} {xs : List α}, All2 R xs (ys ++ [y]) → ∃ xs' x, xs = xs' ++ [x] ∧ All2 R xs' ys ∧ R x y
  | [], y, _, .cons a .nil => ⟨[], _, rfl, .nil, a⟩
  | _ :: ys, y, _, .cons a b => by
    obtain ⟨xs', x, rfl, h, r⟩ := b.last
    exact ⟨_ :: xs', x, rfl, .cons a h, r⟩
def sum2 {α : Type} (g : α → Nat) : List α → Nat
  | [] => 0
  | x :: r => g x + sum2 g r
theorem sum2_append {α : Type} (g : α → Nat) : ∀ xs ys, sum2 g (xs ++ ys) = sum2 g xs + sum2 g ys
  | [], ys => by simp [sum2]
  | x :: xs, ys => by simp [sum2, sum2_append g xs ys]; omega
theorem sum2_len {α : Type} (g : α → Nat) (h : ∀ x, 0 < g x) : ∀ xs, xs.length ≤ sum2 g xs
  | [] => by simp [sum2]
  | x :: xs => by have := h x; have := sum2_len g h xs; simp [sum2]; omega
/-- a form in the heap, its letters rising -/
def RepG (H : Hp) (f : Fm) (v : V) : Prop := RepF H f v ∧ ∃ lo, fok lo f
theorem kit_tup_bool (K : PySem.W.Frag) : PySem.W.kitOne K (.type "tuple") (.type "bool") = some false := by kernel_rfl
theorem occ_at {j : Nat} (h : j < 4) : ∃ rest, Builtin.Str.occurrences ("abcd" : Str) (ltr j) 0 ("abcd" : Str).length 1 = j :: rest := by
  have : j = 0 ∨ j = 1 ∨ j = 2 ∨ j = 3 := by omega
  rcases this with rfl | rfl | rfl | rfl
  · exact ⟨[], by decide +kernel⟩
  · exact ⟨[], by decide +kernel⟩
  · exact ⟨[], by decide +kernel⟩
  · exact ⟨[], by decide +kernel⟩
end FG
namespace FG
open PySem L2
/-! ### the ways of a form, and the table halved -/
def wy : Fm → List (List (Nat × Bool))
  | .lf true => [[]]
  | .lf false => []
  | .fk j s o => (wy s).map ((j, true) :: ·) ++ (wy o).map ((j, false) :: ·)
theorem bit_up : ∀ n, n < 16 → ∀ j, j < 4 → ∀ k, k < 4 → j < k → bit j n = false → bit k (n + 2 ^ j) = bit k n := by decide
theorem bit_cls : ∀ j, j < 4 → ∀ n, n < 16 → n % 2 ^ (j + 1) = n % 2 ^ j + (if bit j n then 2 ^ j else 0) := by decide
theorem add_lt : ∀ j, j < 4 → ∀ n, n < 16 → bit j n = false → n + 2 ^ j < 16 := by decide
/-- bits below the first letter do not count -/
theorem fend_up : ∀ (f : Fm) (j n : Nat), fok (j + 1) f → j < 4 → n < 16 → bit j n = false → fend f (n + 2 ^ j) = fend f n
  | .lf _, _, _, _, _, _, _ => rfl
  | .fk k s o, j, n, h, hj, hn, hb => by
    obtain ⟨h1, h2, _, h3, h4⟩ := h
    simp only [fend]
    rw [bit_up n hn j hj k h2 (by omega) hb]
    have w : ∀ (g : Fm) (a b : Nat), a ≤ b → fok b g → fok a g := by
      intro g a b hab hg
      cases g with
      | lf _ => trivial
      | fk _ _ _ => exact ⟨Nat.le_trans hab hg.1, hg.2⟩
    rw [fend_up s j n (w s _ _ (by omega) h3) hj hn hb, fend_up o j n (w o _ _ (by omega) h4) hj hn hb]
theorem fok_low {f : Fm} {a b : Nat} (hab : a ≤ b) (h : fok b f) : fok a f := by
  cases f with
  | lf _ => trivial
  | fk _ _ _ => exact ⟨Nat.le_trans hab h.1, h.2⟩
/-- the root's letter is j, or all letters are behind j -/
theorem fok_root {f : Fm} {j : Nat} (h : fok j f) : (∃ s o, f = .fk j s o) ∨ fok (j + 1) f := by
  cases f with
  | lf _ => exact .inr trivial
  | fk k s o =>
    by_cases e : k = j
    · subst e
      exact .inl ⟨s, o, rfl⟩
    · obtain ⟨h1, h2⟩ := h
      exact .inr ⟨by omega, h2⟩
def Cls (j st n : Nat) : Prop := n < 16 ∧ n % 2 ^ j = st
theorem cls_so {j st n : Nat} (hj : j < 4) (hst : st < 2 ^ j) (h : Cls (j + 1) (st + 2 ^ j) n) : Cls j st n ∧ bit j n = true := by
  obtain ⟨h1, h2⟩ := h
  have e := bit_cls j hj n h1
  have m := Nat.mod_lt n (Nat.two_pow_pos j)
  cases hb : bit j n with
  | true => rw [hb] at e; simp at e; exact ⟨⟨h1, by omega⟩, rfl⟩
  | false => rw [hb] at e; simp at e; omega
theorem cls_ot {j st n : Nat} (hj : j < 4) (hst : st < 2 ^ j) (h : Cls (j + 1) st n) : Cls j st n ∧ bit j n = false := by
  obtain ⟨h1, h2⟩ := h
  have e := bit_cls j hj n h1
  cases hb : bit j n with
  | true => rw [hb] at e; simp at e; omega
  | false => rw [hb] at e; simp at e; exact ⟨⟨h1, by omega⟩, rfl⟩
theorem form_uniq : ∀ (d j st : Nat) (f g : Fm), j + d = 4 → st < 2 ^ j → fok j f → fok j g → (∀ n, Cls j st n → fend f n = fend g n) → f = g
  | 0, j, st, f, g, hd, hst, hf, hg, h => by
    have hj : j = 4 := by omega
    subst hj
    have e := h st ⟨by simpa using hst, Nat.mod_eq_of_lt hst⟩
    cases f with
    | fk k _ _ => exact absurd hf.1 (by have := hf.2.1; omega)
    | lf b =>
      cases g with
      | fk k _ _ => exact absurd hg.1 (by have := hg.2.1; omega)
      | lf c => rw [show b = c from e]
  | d + 1, j, st, f, g, hd, hst, hf, hg, h => by
    have hj : j < 4 := by omega
    have p2 : 2 ^ (j + 1) = 2 ^ j + 2 ^ j := by rw [Nat.pow_succ]; omega
    have so : ∀ f' g', fok (j + 1) f' → fok (j + 1) g' → (∀ n, Cls j st n → bit j n = true → fend f' n = fend g' n) → f' = g' := fun f' g' hf' hg' h' =>
      form_uniq d (j + 1) (st + 2 ^ j) f' g' (by omega) (by omega) hf' hg' fun n hn => h' n (cls_so hj hst hn).1 (cls_so hj hst hn).2
    have ot : ∀ f' g', fok (j + 1) f' → fok (j + 1) g' → (∀ n, Cls j st n → bit j n = false → fend f' n = fend g' n) → f' = g' := fun f' g' hf' hg' h' =>
      form_uniq d (j + 1) st f' g' (by omega) (by omega) hf' hg' fun n hn => h' n (cls_ot hj hst hn).1 (cls_ot hj hst hn).2
    rcases fok_root hf with ⟨s, o, rfl⟩ | hf1 <;> rcases fok_root hg with ⟨s2, o2, rfl⟩ | hg1
    · obtain ⟨_, _, _, k1, k2⟩ := hf
      obtain ⟨_, _, _, k3, k4⟩ := hg
      rw [so s s2 k1 k3 fun n hn hb => by have := h n hn; simpa [fend, hb] using this, ot o o2 k2 k4 fun n hn hb => by have := h n hn; simpa [fend, hb] using this]
    · obtain ⟨_, _, ne, k1, k2⟩ := hf
      have a := so s g k1 hg1 fun n hn hb => by have := h n hn; simpa [fend, hb] using this
      have b := ot o g k2 hg1 fun n hn hb => by have := h n hn; simpa [fend, hb] using this
      exact absurd (a.trans b.symm) ne
    · obtain ⟨_, _, ne, k1, k2⟩ := hg
      have a := so f s2 hf1 k1 fun n hn hb => by have := h n hn; simpa [fend, hb] using this
      have b := ot f o2 hf1 k2 fun n hn hb => by have := h n hn; simpa [fend, hb] using this
      exact absurd (a.symm.trans b) ne
    · exact ot f g hf1 hg1 fun n hn _ => h n hn
/-- the table t, halved: d letters are left, the next is j -/
def allc (t : Nat → Bool) (c : Bool) (j st : Nat) : Bool := (List.range 16).all fun n => if n % 2 ^ j = st then t n == c else true
def samec (t : Nat → Bool) (j st : Nat) : Bool := (List.range 16).all fun n => if n % 2 ^ (j + 1) = st then t n == t (n + 2 ^ j) else true
def hv (t : Nat → Bool) : Nat → Nat → Nat → List (Nat × Bool) → List (List (Nat × Bool))
  | d, j, st, pre => if allc t true j st then [pre] else if allc t false j st then [] else match d with
    | 0 => []
    | d + 1 => if samec t j st then hv t d (j + 1) st pre else hv t d (j + 1) (st + 2 ^ j) (pre ++ [(j, true)]) ++ hv t d (j + 1) st (pre ++ [(j, false)])
theorem allc_iff {t : Nat → Bool} {c : Bool} {j st : Nat} : allc t c j st = true ↔ ∀ n, Cls j st n → t n = c := by
  unfold allc Cls
  rw [List.all_eq_true]
  constructor
  · intro h n hn
    have := h n (List.mem_range.mpr hn.1)
    rw [if_pos hn.2] at this
    exact eq_of_beq this
  · intro h n hn
    split
    · rename_i e
      rw [h n ⟨List.mem_range.mp hn, e⟩]
      exact beq_self_eq_true _
    · rfl
theorem samec_iff {t : Nat → Bool} {j st : Nat} : samec t j st = true ↔ ∀ n, Cls (j + 1) st n → t n = t (n + 2 ^ j) := by
  unfold samec Cls
  rw [List.all_eq_true]
  constructor
  · intro h n hn
    have := h n (List.mem_range.mpr hn.1)
    rw [if_pos hn.2] at this
    exact eq_of_beq this
  · intro h n hn
    split
    · rename_i e
      rw [← h n ⟨List.mem_range.mp hn, e⟩]
      exact beq_self_eq_true _
    · rfl
theorem bit_add : ∀ j, j < 4 → ∀ n, n < 16 → bit j n = false → bit j (n + 2 ^ j) = true ∧ (n + 2 ^ j) % 2 ^ j = n % 2 ^ j := by decide
theorem hv_wy (t : Nat → Bool) : ∀ (d j st : Nat) (f : Fm) (pre : List (Nat × Bool)), j + d = 4 → st < 2 ^ j → fok j f → (∀ n, Cls j st n → fend f n = t n) → hv t d j st pre = (wy f).map (pre ++ ·) := by
  intro d
  induction d with
  | zero =>
    intro j st f pre hd hst hf h
    have hj : j = 4 := by omega
    subst hj
    cases f with
    | fk k _ _ => exact absurd hf.1 (by have := hf.2.1; omega)
    | lf b =>
      unfold hv
      cases b with
      | true =>
        rw [if_pos (allc_iff.mpr fun n hn => (h n hn).symm)]
        simp [wy]
      | false =>
        have z : ¬ allc t true 4 st = true := fun z => by
          have e1 := allc_iff.mp z st ⟨by simpa using hst, Nat.mod_eq_of_lt hst⟩
          have e2 := h st ⟨by simpa using hst, Nat.mod_eq_of_lt hst⟩
          rw [e1] at e2
          cases e2
        rw [if_neg z, if_pos (allc_iff.mpr fun n hn => (h n hn).symm)]
        simp [wy]
  | succ d ih =>
    intro j st f pre hd hst hf h
    have hj : j < 4 := by omega
    have p2 : 2 ^ (j + 1) = 2 ^ j + 2 ^ j := by rw [Nat.pow_succ]; omega
    unfold hv
    by_cases z1 : allc t true j st = true
    · rw [if_pos z1]
      have e : f = .lf true := form_uniq (d + 1) j st f (.lf true) hd hst hf trivial fun n hn => (h n hn).trans (allc_iff.mp z1 n hn)
      subst e
      simp [wy]
    by_cases z2 : allc t false j st = true
    · rw [if_neg z1, if_pos z2]
      have e : f = .lf false := form_uniq (d + 1) j st f (.lf false) hd hst hf trivial fun n hn => (h n hn).trans (allc_iff.mp z2 n hn)
      subst e
      simp [wy]
    rw [if_neg z1, if_neg z2]
    rcases fok_root hf with ⟨s, o, rfl⟩ | hf1
    · obtain ⟨_, _, ne, k1, k2⟩ := hf
      have z3 : ¬ samec t j st = true := fun z3 => ne (form_uniq d (j + 1) st s o (by omega) (by omega) k1 k2 fun n hn => by
        obtain ⟨c1, hb⟩ := cls_ot hj hst hn
        obtain ⟨b1, b2⟩ := bit_add j hj n hn.1 hb
        have c2 : Cls j st (n + 2 ^ j) := ⟨add_lt j hj n hn.1 hb, by rw [b2]; exact c1.2⟩
        have e1 := h n c1
        have e2 := h _ c2
        have e3 := samec_iff.mp z3 n hn
        simp only [fend, hb, b1, if_true] at e1 e2
        rw [fend_up s j n k1 hj hn.1 hb] at e2
        rw [e2, ← e3, ← e1]
        rfl)
      show (if samec t j st = true then _ else _) = _
      rw [if_neg z3, ih (j + 1) (st + 2 ^ j) s _ (by omega) (by omega) k1 fun n hn => by
          obtain ⟨c1, hb⟩ := cls_so hj hst hn
          have := h n c1
          simpa [fend, hb] using this, ih (j + 1) st o _ (by omega) (by omega) k2 fun n hn => by
          obtain ⟨c1, hb⟩ := cls_ot hj hst hn
          have := h n c1
          simpa [fend, hb] using this]
      simp [wy, List.map_append, List.map_map, Function.comp_def]
    · have z3 : samec t j st = true := samec_iff.mpr fun n hn => by
        obtain ⟨c1, hb⟩ := cls_ot hj hst hn
        obtain ⟨b1, b2⟩ := bit_add j hj n hn.1 hb
        have c2 : Cls j st (n + 2 ^ j) := ⟨add_lt j hj n hn.1 hb, by rw [b2]; exact c1.2⟩
        rw [← h n c1, ← h _ c2, fend_up f j n hf1 hj hn.1 hb]
      show (if samec t j st = true then _ else _) = _
      rw [if_pos z3]
      exact ih (j + 1) st f pre (by omega) (by omega) hf1 fun n hn => h n (cls_ot hj hst hn).1
/-- the ways of a statement's form are the halved table's -/
theorem ways_are {f : Fm} {t : Nat → Bool} (hf : fok 0 f) (h : ∀ n, n < 16 → fend f n = t n) : hv t 4 0 0 [] = wy f := by
  rw [hv_wy t 4 0 0 f [] rfl (by decide) hf fun n hn => h n hn.1]
  simp
/-- each setting goes one way of the form, if it ends at True, else none -/
theorem wy_fits : ∀ (f : Fm) (n : Nat), ((wy f).filter fun x => x.all fun y => bit y.1 n == y.2).length = if fend f n then 1 else 0
  | .lf true, n => rfl
  | .lf false, n => rfl
  | .fk j s o, n => by
    have e1 := wy_fits s n
    have e2 := wy_fits o n
    simp only [wy, List.filter_append, List.length_append, List.filter_map, List.length_map]
    by_cases hb : bit j n = true
    · have a1 : ((fun x : List (Nat × Bool) => x.all fun y => bit y.1 n == y.2) ∘ ((j, true) :: ·)) = fun x => x.all fun y => bit y.1 n == y.2 := by funext x; simp [hb]
      have a2 : ((fun x : List (Nat × Bool) => x.all fun y => bit y.1 n == y.2) ∘ ((j, false) :: ·)) = fun _ => false := by funext x; simp [hb]
      have ef : fend (.fk j s o) n = fend s n := by simp [fend, hb]
      rw [a1, a2, e1, ef]
      simp
    · have hb : bit j n = false := by simpa using hb
      have a1 : ((fun x : List (Nat × Bool) => x.all fun y => bit y.1 n == y.2) ∘ ((j, true) :: ·)) = fun _ => false := by funext x; simp [hb]
      have a2 : ((fun x : List (Nat × Bool) => x.all fun y => bit y.1 n == y.2) ∘ ((j, false) :: ·)) = fun x => x.all fun y => bit y.1 n == y.2 := by funext x; simp [hb]
      have ef : fend (.fk j s o) n = fend o n := by simp [fend, hb]
      rw [a1, a2, e2, ef]
      simp
end FG
namespace FG
open PySem L2
theorem lk2 {a b : Str} {x y : Addr} (h : ¬ a = b) : ∀ z c, List.lookup z [(a, x), (b, y)] = some c → List.lookup z [(b, y), (a, x)] = some c := by
  intro z c e
  simp only [List.lookup_cons, List.lookup_nil] at e ⊢
  by_cases h1 : z == a
  · have e1 : z = a := by simpa using h1
    have h2 : (z == b) = false := by simp [e1, h]
    simp [h1, h2] at e ⊢
    exact e
  · have h1' : (z == a) = false := by simpa using h1
    simp [h1'] at e ⊢
    cases h2 : z == b with
    | true => simp [h2] at e ⊢; exact e
    | false => simp [h2] at e
/-! ### the settings in the program's order, by their letters -/
def es : Nat → List (List Nat)
  | 0 => [[]]
  | i + 1 => (es i).map ((3 - i) :: ·) ++ es i
def wsum : List Nat → Nat
  | [] => 0
  | j :: r => 2 ^ j + wsum r
def lts (js : List Nat) : List V := js.map fun j => V.str (ltr j)
def ord : List Nat := (es 4).map wsum
def od (p : Nat) : Nat := ord.getD p 0
theorem es_len : ∀ i, (es i).length = 2 ^ i
  | 0 => rfl
  | i + 1 => by
    simp only [es, List.length_append, List.length_map, es_len i, Nat.pow_succ]
    omega
theorem es_small : ∀ i js, js ∈ es i → js.length ≤ i
  | 0, js, h => by
    have e : js = [] := by simpa [es] using h
    subst e
    exact Nat.le_refl _
  | i + 1, js, h => by
    rcases List.mem_append.mp (show js ∈ (es i).map ((3 - i) :: ·) ++ es i from h) with h | h
    · obtain ⟨ks, hk, rfl⟩ := List.mem_map.mp h
      have := es_small i ks hk
      simp
      omega
    · have := es_small i js h
      omega
theorem es4_bits : ∀ js ∈ es 4, ∀ j, j < 4 → inV (.str (ltr j)) ((js.map ltr).map V.str) = bit j (wsum js) := by decide +kernel
theorem es4_good : ∀ js ∈ es 4, js.Nodup ∧ (∀ j ∈ js, j < 4) ∧ wsum js < 16 ∧ js.length ≤ 4 := by decide +kernel
theorem od_bits : ∀ i, i < 4 → ∀ p, p < 16 → bit (3 - i) (od p) = decide (p / 2 ^ i % 2 = 0) := by decide +kernel
theorem od_lt : ∀ p, p < 16 → od p < 16 := by decide +kernel
theorem od_all : ∀ n, n < 16 → ∃ p, p < 16 ∧ od p = n := by decide +kernel
theorem ord_eq : ord = (List.range 16).map od := by decide +kernel
theorem ord_len : ord.length = 16 := by decide +kernel
/-! ### forms, from the inside out -/
def fkk (j : Nat) (a b : Fm) : Fm := if a = b then a else .fk j a b
def fks (j : Nat) (fs : List Fm) : List Fm := (List.range (fs.length / 2)).map fun p => fkk j (fs.getD (2 * p) (.lf true)) (fs.getD (2 * p + 1) (.lf true))
theorem fkk_end (j : Nat) (a b : Fm) (n : Nat) : fend (fkk j a b) n = if bit j n then fend a n else fend b n := by
  unfold fkk
  by_cases e : a = b
  · rw [if_pos e, e]
    simp
  · rw [if_neg e]
    rfl
theorem fok_down {f : Fm} {a b : Nat} (hab : a ≤ b) (h : fok b f) : fok a f := by
  cases f with
  | lf _ => trivial
  | fk _ _ _ => exact ⟨Nat.le_trans hab h.1, h.2⟩
theorem fkk_ok {j : Nat} {a b : Fm} (hj : j < 4) (ha : fok (j + 1) a) (hb : fok (j + 1) b) : fok j (fkk j a b) := by
  unfold fkk
  by_cases e : a = b
  · rw [if_pos e]
    exact fok_down (by omega) ha
  · rw [if_neg e]
    exact ⟨Nat.le_refl _, hj, e, ha, hb⟩
theorem fok_deep {f : Fm} (h : ∃ lo, fok lo f) : fdep f ≤ 4 := by
  obtain ⟨lo, h⟩ := h
  have := fok_dep f 0 (by decide) (fok_down (Nat.zero_le _) h)
  omega
/-- the forms behind i letters: each ends right at the settings of its stretch -/
def Stage (t : Nat → Bool) (i : Nat) (fs : List Fm) : Prop := fs.length = 2 ^ (4 - i) ∧ ∀ p f, fs[p]? = some f → fok (4 - i) f ∧ ∀ q, q < 2 ^ i → fend f (od (p * 2 ^ i + q)) = t (od (p * 2 ^ i + q))
theorem stage_zero (t : Nat → Bool) : Stage t 0 (ord.map fun n => Fm.lf (t n)) := by
  refine ⟨by simp [ord_len], fun p f h => ?_⟩
  rw [List.getElem?_map] at h
  cases e : ord[p]? with
  | none => rw [e] at h; cases h
  | some n =>
    rw [e] at h
    have h' : Fm.lf (t n) = f := Option.some.inj h
    subst h'
    refine ⟨trivial, fun q hq => ?_⟩
    have hq0 : q = 0 := by simpa using hq
    subst hq0
    have eo : od (p * 2 ^ 0 + 0) = n := by
      unfold od
      simp [List.getD_eq_getElem?_getD, e]
    rw [eo]
    rfl
theorem div_two (p i q : Nat) (hq : q < 2 ^ i) : (p * 2 ^ i + q) / 2 ^ i = p := by
  rw [Nat.add_comm, Nat.add_mul_div_right _ _ (Nat.two_pow_pos i), Nat.div_eq_of_lt hq, Nat.zero_add]
theorem stage_next {t : Nat → Bool} {i : Nat} {fs : List Fm} (hi : i < 4) (h : Stage t i fs) : Stage t (i + 1) (fks (3 - i) fs) := by
  obtain ⟨hl, h⟩ := h
  have e4 : 4 - i = (4 - (i + 1)) + 1 := by omega
  have e2 : 2 ^ (4 - i) = 2 * 2 ^ (4 - (i + 1)) := by rw [e4, Nat.pow_succ]; omega
  refine ⟨by simp [fks, hl, e2], fun p f hp => ?_⟩
  have hp' := (List.getElem?_eq_some_iff.mp hp).1
  have hpl : p < fs.length / 2 := by simpa [fks] using hp'
  have hp1 : 2 * p + 1 < fs.length := by omega
  have ef : fkk (3 - i) fs[2 * p] fs[2 * p + 1] = f := by
    have := hp
    simp only [fks, List.getElem?_map, List.getElem?_range hpl] at this
    have := Option.some.inj this
    rw [← this]
    simp [List.getD_eq_getElem?_getD, List.getElem?_eq_getElem hp1, List.getElem?_eq_getElem (show 2 * p < fs.length by omega)]
  obtain ⟨a1, a2⟩ := h (2 * p) _ (List.getElem?_eq_getElem (by omega))
  obtain ⟨b1, b2⟩ := h (2 * p + 1) _ (List.getElem?_eq_getElem hp1)
  have e3 : 4 - i = (3 - i) + 1 := by omega
  rw [e3] at a1 b1
  refine ⟨?_, fun q hq => ?_⟩
  · rw [← ef, show 4 - (i + 1) = 3 - i by omega]
    exact fkk_ok (by omega) a1 b1
  have hpw : 2 ^ (i + 1) = 2 * 2 ^ i := by rw [Nat.pow_succ]; omega
  have h16 : 2 ^ (i + 1) * 2 ^ (4 - (i + 1)) = 16 := by rw [← Nat.pow_add, show i + 1 + (4 - (i + 1)) = 4 by omega]
  have hpp : p < 2 ^ (4 - (i + 1)) := by omega
  have hlt : p * 2 ^ (i + 1) + q < 16 := by
    have : (p + 1) * 2 ^ (i + 1) ≤ 2 ^ (4 - (i + 1)) * 2 ^ (i + 1) := Nat.mul_le_mul_right _ hpp
    rw [Nat.mul_comm (2 ^ (4 - (i + 1))), h16, Nat.add_mul, Nat.one_mul] at this
    omega
  rw [← ef, fkk_end, od_bits i hi _ hlt]
  by_cases hq2 : q < 2 ^ i
  · have ep : p * 2 ^ (i + 1) + q = (2 * p) * 2 ^ i + q := by rw [hpw, ← Nat.mul_assoc, Nat.mul_comm p 2]
    rw [ep, div_two _ _ _ hq2, decide_eq_true (by omega), if_pos rfl]
    exact a2 q hq2
  · have ep : p * 2 ^ (i + 1) + q = (2 * p + 1) * 2 ^ i + (q - 2 ^ i) := by
      rw [hpw, ← Nat.mul_assoc, Nat.mul_comm p 2, Nat.add_mul, Nat.one_mul]
      omega
    rw [ep, div_two _ _ _ (by omega), decide_eq_false (by omega), if_neg (by decide)]
    exact b2 _ (by omega)
theorem stage_last {t : Nat → Bool} {fs : List Fm} (h : Stage t 4 fs) : ∃ f, fs = [f] ∧ fok 0 f ∧ ∀ n, n < 16 → fend f n = t n := by
  obtain ⟨hl, h⟩ := h
  match fs, hl with
  | [f], _ =>
    obtain ⟨h1, h2⟩ := h 0 f rfl
    refine ⟨f, rfl, h1, fun n hn => ?_⟩
    obtain ⟨p, hp, e⟩ := od_all n hn
    have := h2 p (by simpa using hp)
    rw [Nat.zero_mul, Nat.zero_add, e] at this
    exact this
theorem stage_dep {t : Nat → Bool} {i : Nat} {fs : List Fm} (h : Stage t i fs) : ∀ f ∈ fs, fdep f ≤ 4 := by
  intro f hf
  obtain ⟨p, hp, e⟩ := List.mem_iff_getElem.mp hf
  exact fok_deep ⟨_, (h.2 p f (by rw [List.getElem?_eq_getElem hp, e])).1⟩
theorem ord_tab (s : S) : (∀ s2 : S, decide (tab s = tab s2) = decide ((ord.map fun n => val s n) = ord.map fun n => val s2 n)) := by
  intro s2
  have k : tab s = tab s2 ↔ (ord.map fun n => val s n) = ord.map fun n => val s2 n := by
    constructor
    · intro h
      refine List.map_congr_left fun n hn => ?_
      have hn16 : n < 16 := by
        rw [ord_eq] at hn
        obtain ⟨p, hp, rfl⟩ := List.mem_map.mp hn
        exact od_lt p (List.mem_range.mp hp)
      have e1 := tab_get s n hn16
      have e2 := tab_get s2 n hn16
      rw [h, e2] at e1
      exact (Option.some.inj e1).symm
    · intro h
      refine List.map_congr_left fun n hn => ?_
      obtain ⟨p, hp, e⟩ := od_all n (List.mem_range.mp hn)
      have hp1 : p < ord.length := by rw [ord_len]; exact hp
      have eo : ord[p]? = some n := by
        rw [← e]
        unfold od
        rw [List.getD_eq_getElem?_getD, List.getElem?_eq_getElem hp1]
        rfl
      have e3 : (ord.map fun n => val s n)[p]? = (ord.map fun n => val s2 n)[p]? := by rw [h]
      rw [List.getElem?_map, List.getElem?_map, eo] at e3
      exact Option.some.inj e3
  by_cases h : tab s = tab s2
  · rw [decide_eq_true h, decide_eq_true (k.mp h)]
  · rw [decide_eq_false h, decide_eq_false fun z => h (k.mpr z)]
end FG
namespace FG
open PySem L2
/-! ### a table, read in steps -/
def colz (t : Nat → Bool) (lo stp n : Nat) : List Bool := (List.range n).map fun i => t (lo + i * stp)
theorem p16 {j : Nat} (hj : j ≤ 4) : 2 ^ j * 2 ^ (4 - j) = 16 := by rw [← Nat.pow_add, show j + (4 - j) = 4 by omega]
theorem cls_get {j st n : Nat} (hj : j ≤ 4) (hst : st < 2 ^ j) : Cls j st n ↔ ∃ i, i < 2 ^ (4 - j) ∧ n = st + i * 2 ^ j := by
  have h16 := p16 hj
  constructor
  · rintro ⟨h1, h2⟩
    refine ⟨n / 2 ^ j, Nat.div_lt_of_lt_mul (by omega), ?_⟩
    have := Nat.div_add_mod n (2 ^ j)
    rw [Nat.mul_comm] at this
    omega
  · rintro ⟨i, hi, rfl⟩
    refine ⟨?_, by rw [Nat.add_mul_mod_self_right]; exact Nat.mod_eq_of_lt hst⟩
    have : (i + 1) * 2 ^ j ≤ 2 ^ (4 - j) * 2 ^ j := Nat.mul_le_mul_right _ hi
    rw [Nat.mul_comm (2 ^ (4 - j)), h16, Nat.add_mul, Nat.one_mul] at this
    omega
theorem colz_lt {j st i : Nat} (hj : j ≤ 4) (hst : st < 2 ^ j) (hi : i < 2 ^ (4 - j)) : st + i * 2 ^ j < 16 := ((cls_get (n := st + i * 2 ^ j) hj hst).mpr ⟨i, hi, rfl⟩).1
theorem colz_has (t : Nat → Bool) (b : Bool) {j st : Nat} (hj : j ≤ 4) (hst : st < 2 ^ j) : (colz t st (2 ^ j) (2 ^ (4 - j))).contains b = !allc t (!b) j st := by
  have k : b ∈ colz t st (2 ^ j) (2 ^ (4 - j)) ↔ ¬ allc t (!b) j st = true := by
    rw [allc_iff]
    constructor
    · intro hm hall
      obtain ⟨i, hi, e⟩ := List.mem_map.mp hm
      have z := hall (st + i * 2 ^ j) ((cls_get hj hst).mpr ⟨i, List.mem_range.mp hi, rfl⟩)
      rw [e] at z
      cases b <;> cases z
    · intro hn
      refine Classical.byContradiction fun hm => hn fun n hc => ?_
      obtain ⟨i, hi, rfl⟩ := (cls_get hj hst).mp hc
      have z : t (st + i * 2 ^ j) ≠ b := fun e => hm (List.mem_map.mpr ⟨i, List.mem_range.mpr hi, e⟩)
      cases b <;> cases hh : t (st + i * 2 ^ j) <;> simp_all
  cases h : allc t (!b) j st with
  | true =>
    rw [Bool.not_true, Bool.eq_false_iff]
    intro z
    exact k.mp (by simpa using z) h
  | false =>
    rw [Bool.not_false]
    have := k.mpr (by rw [h]; decide)
    simpa using this
theorem colz_same (t : Nat → Bool) {j st : Nat} (hj : j < 4) (hst : st < 2 ^ j) : decide (colz t st (2 * 2 ^ j) (2 ^ (3 - j)) = colz t (st + 2 ^ j) (2 * 2 ^ j) (2 ^ (3 - j))) = samec t j st := by
  have p2 : 2 ^ (j + 1) = 2 * 2 ^ j := by rw [Nat.pow_succ]; omega
  have hst2 : st < 2 ^ (j + 1) := by omega
  have k : colz t st (2 * 2 ^ j) (2 ^ (3 - j)) = colz t (st + 2 ^ j) (2 * 2 ^ j) (2 ^ (3 - j)) ↔ samec t j st = true := by
    rw [samec_iff]
    constructor
    · intro h n hn
      obtain ⟨i, hi, rfl⟩ := (cls_get (j := j + 1) (by omega) hst2).mp hn
      have hi' : i < 2 ^ (3 - j) := by rwa [show 4 - (j + 1) = 3 - j by omega] at hi
      have e : (colz t st (2 * 2 ^ j) (2 ^ (3 - j)))[i]? = (colz t (st + 2 ^ j) (2 * 2 ^ j) (2 ^ (3 - j)))[i]? := by rw [h]
      simp only [colz, List.getElem?_map, List.getElem?_range hi', Option.map_some] at e
      have e := Option.some.inj e
      rw [p2, e]
      congr 1
      omega
    · intro h
      refine List.map_congr_left fun i hi => ?_
      have := h (st + i * 2 ^ (j + 1)) ((cls_get (j := j + 1) (by omega) hst2).mpr ⟨i, by rw [show 4 - (j + 1) = 3 - j by omega]; exact List.mem_range.mp hi, rfl⟩)
      rw [p2] at this
      rw [this]
      congr 1
      omega
  cases h : samec t j st with
  | true => exact decide_eq_true (k.mpr h)
  | false => exact decide_eq_false fun z => by rw [k.mp z] at h; cases h
theorem one_left (t : Nat → Bool) {st : Nat} (hst : st < 2 ^ 4) (h1 : allc t true 4 st = false) (h2 : allc t false 4 st = false) : False := by
  have one : ∀ n, Cls 4 st n → n = st := fun n hn => by
    have := hn.2
    rw [Nat.mod_eq_of_lt hn.1] at this
    exact this
  cases hv : t st with
  | true =>
    rw [allc_iff.mpr fun n hn => by rw [one n hn]; exact hv] at h1
    cases h1
  | false =>
    rw [allc_iff.mpr fun n hn => by rw [one n hn]; exact hv] at h2
    cases h2
theorem hv_true {t : Nat → Bool} {d j st : Nat} {pre : List (Nat × Bool)} (h : allc t true j st = true) : hv t d j st pre = [pre] := by
  unfold hv
  rw [if_pos h]
theorem hv_false {t : Nat → Bool} {d j st : Nat} {pre : List (Nat × Bool)} (h1 : allc t true j st = false) (h2 : allc t false j st = true) : hv t d j st pre = [] := by
  unfold hv
  rw [if_neg (by rw [h1]; decide), if_pos h2]
theorem hv_same {t : Nat → Bool} {d j st : Nat} {pre : List (Nat × Bool)} (h1 : allc t true j st = false) (h2 : allc t false j st = false) (h3 : samec t j st = true) : hv t (d + 1) j st pre = hv t d (j + 1) st pre := by
  rw [hv, if_neg (by rw [h1]; decide), if_neg (by rw [h2]; decide)]
  show (if samec t j st = true then _ else _) = _
  rw [if_pos h3]
theorem hv_split {t : Nat → Bool} {d j st : Nat} {pre : List (Nat × Bool)} (h1 : allc t true j st = false) (h2 : allc t false j st = false) (h3 : samec t j st = false) : hv t (d + 1) j st pre = hv t d (j + 1) (st + 2 ^ j) (pre ++ [(j, true)]) ++ hv t d (j + 1) st (pre ++ [(j, false)]) := by
  rw [hv, if_neg (by rw [h1]; decide), if_neg (by rw [h2]; decide)]
  show (if samec t j st = true then _ else _) = _
  rw [if_neg (by rw [h3]; decide)]
theorem hv_len (t : Nat → Bool) : ∀ (d j st : Nat) (pre : List (Nat × Bool)), (hv t d j st pre).length ≤ 2 ^ d := by
  intro d
  induction d with
  | zero =>
    intro j st pre
    unfold hv
    split
    · simp
    · split <;> simp
  | succ d ih =>
    intro j st pre
    have p2 : 2 ^ (d + 1) = 2 ^ d + 2 ^ d := by rw [Nat.pow_succ]; omega
    have pp := Nat.two_pow_pos d
    cases h1 : allc t true j st with
    | true => rw [hv_true h1]; simp; omega
    | false =>
      cases h2 : allc t false j st with
      | true => rw [hv_false h1 h2]; simp
      | false =>
        cases h3 : samec t j st with
        | true =>
          rw [hv_same h1 h2 h3]
          have := ih (j + 1) st pre
          omega
        | false =>
          rw [hv_split h1 h2 h3, List.length_append]
          have a := ih (j + 1) (st + 2 ^ j) (pre ++ [(j, true)])
          have b := ih (j + 1) st (pre ++ [(j, false)])
          omega
/-! ### its ranges -/
theorem rg1 : ∀ j, j < 5 → ∀ st, st < 16 → st < 2 ^ j → Builtin.Range.small ((st : Nat) : Int) 16 ((2 ^ j : Nat) : Int) = true ∧ Builtin.divisionGoesByPylong (16 - ((st : Nat) : Int)) ((2 ^ j : Nat) : Int) = false ∧ ((2 ^ (4 - j) : Nat) : Int) = Builtin.Range.rangeSize ((st : Nat) : Int) 16 ((2 ^ j : Nat) : Int) := by decide +kernel
theorem rg2 : ∀ j, j < 4 → ∀ st, st < 16 → st < 2 * 2 ^ j → Builtin.Range.small ((st : Nat) : Int) 16 ((2 * 2 ^ j : Nat) : Int) = true ∧ Builtin.divisionGoesByPylong (16 - ((st : Nat) : Int)) ((2 * 2 ^ j : Nat) : Int) = false ∧ ((2 ^ (3 - j) : Nat) : Int) = Builtin.Range.rangeSize ((st : Nat) : Int) 16 ((2 * 2 ^ j : Nat) : Int) := by decide +kernel
theorem wt5_at {k : Nat} (h : k ≤ 4) : atI ([.int 1, .int 2, .int 4, .int 8, .int 16] : List V) (k : Int) = some (.int ((2 ^ k : Nat) : Int)) := by
  have : k = 0 ∨ k = 1 ∨ k = 2 ∨ k = 3 ∨ k = 4 := by omega
  rcases this with rfl | rfl | rfl | rfl | rfl <;> rfl
/-- the comprehension over a table -/
theorem col_go {K : PySem.W.Frag} {c : Addr} {t : Nat → Bool} {lo' c' : Int} {lo stp n : Nat} {H : Hp} (Q : VK) (hlo : lo' = ((lo : Nat) : Int)) (hcc : c' = ((stp : Nat) : Int)) (hc : H c = some (.lst (((List.range 16).map t).map V.bl))) (hb : ∀ i, i < n → lo + i * stp < 16) (hn : n ≤ 16)
    (q : ∀ D, H D = none → Q (.ref D) (upd H D (.lst ((colz t lo stp n).map V.bl)))) :
    ∃ W : Nat → Nat → St → List V → Hp → Prop, (∃ m, W 0 m [none, some (.ref c)] [] H) ∧ ∀ i m σ' ys H', W i m σ' ys H' → ys.length < sizeLine ∧ (((It3 lo' c' n).stop i H' ∧ ∀ D, H' D = none → Q (.ref D) (upd H' D (.lst ys))) ∨
      ((It3 lo' c' n).go i H' ∧ ∃ N : St → List V → Hp → Prop, (∀ σ' ys' H', N σ' ys' H' → ∃ m', m' < m ∧ W (i + 1) m' σ' ys' H') ∧
        ∀ x H2, (It3 lo' c' n).yld i H' x H2 → gName 0 x σ' H2 fun σ2 H3 => tYes σ2 H3 fun b H4 => if b = true then tOp (rIxL K) (tVar 1) (tVar 0) σ2 H4 fun v H5 => N σ2 (ys ++ [v]) H5 else N σ2 ys H4)) := by
  subst hlo hcc
  refine comp_range3 (fun i σ ys H' => ∃ o, σ = [o, some (.ref c)] ∧ H' = H ∧ i ≤ n ∧ ys = (colz t lo stp i).map V.bl) ⟨none, rfl, rfl, Nat.zero_le _, rfl⟩ (fun i σ ys H' ⟨o, _, _, hi, hy⟩ => ?_) ?_ ?_
  · rw [hy, List.length_map, colz, List.length_map, List.length_range]
    exact small (by omega)
  · rintro i σ ys H' hi ⟨o, rfl, rfl, _, rfl⟩
    refine nameYes ?_
    refine ⟨_, rfl, _, rfl, c, _, _, .bl (t (lo + i * stp)), rfl, rfl, SqL.of hc, ?_, _, rfl, rfl, hi, ?_⟩
    · rw [show ((lo : Nat) : Int) + (i : Int) * ((stp : Nat) : Int) = ((lo + i * stp : Nat) : Int) by rw [Int.natCast_add, Int.natCast_mul]]
      exact atI_nat (by rw [List.getElem?_map, List.getElem?_map, List.getElem?_range (hb i hi)]; rfl)
    · rw [colz, colz, List.range_succ, List.map_append, List.map_append]
      rfl
  · rintro σ ys H' ⟨o, rfl, rfl, _, rfl⟩ D hD
    exact q D hD
theorem flat_bools (zs : List Bool) : (zs.map V.bl).all flatV = true := by
  rw [List.all_eq_true]
  intro x hx
  obtain ⟨z, _, rfl⟩ := List.mem_map.mp hx
  rfl
theorem in_bools (b : Bool) : ∀ zs : List Bool, inV (.bl b) (zs.map V.bl) = zs.contains b
  | [] => rfl
  | z :: zs => by
    have e := in_bools b zs
    unfold inV at e ⊢
    rw [List.map_cons, List.any_cons, e, List.contains_cons]
    show (z == b || zs.contains b) = (b == z || zs.contains b)
    cases z <;> cases b <;> rfl
theorem all_alike (as bs : List Bool) (h : as.length = bs.length) : ((List.range as.length).all fun j => as[j]? == bs[j]?) = decide (as = bs) := by
  by_cases e : as = bs
  · subst e
    rw [decide_eq_true rfl, List.all_eq_true]
    intro j _
    exact beq_self_eq_true _
  · rw [decide_eq_false e, Bool.eq_false_iff]
    intro z
    rw [List.all_eq_true] at z
    refine e (List.ext_getElem? fun j => ?_)
    by_cases hj : j < as.length
    · exact eq_of_beq (z j (List.mem_range.mpr hj))
    · rw [List.getElem?_eq_none (by omega), List.getElem?_eq_none (by omega)]
theorem bool_get {as : List Bool} {j : Nat} {x : V} (h : (as.map V.bl)[j]? = some x) : ∃ c, as[j]? = some c ∧ x = .bl c := by
  rw [List.getElem?_map] at h
  cases e : as[j]? with
  | none => rw [e] at h; cases h
  | some c => rw [e] at h; exact ⟨c, rfl, (Option.some.inj h).symm⟩
theorem rc_bools {X : Cx} {H : Hp} {a b : Addr} {as bs : List Bool} (h1 : H a = some (.lst (as.map V.bl))) (h2 : H b = some (.lst (bs.map V.bl))) (hl : as.length = bs.length) : RcO X H 32 (.ref a) (.ref b) (decide (as = bs)) := by
  have q := RcO.lists (X := X) (H := H) (k := 31) (e := fun j => as[j]? == bs[j]?) (SqL.of h1) (SqL.of h2) (by rw [List.length_map, List.length_map]; exact hl) (fun j x y hx hy => by
    obtain ⟨a, ha, rfl⟩ := bool_get hx
    obtain ⟨b, hb, rfl⟩ := bool_get hy
    have e : (as[j]? == bs[j]?) = eqV (.bl a) (.bl b) := by
      rw [ha, hb]
      cases a <;> cases b <;> rfl
    simp only [e]
    exact EqO.flat rfl rfl)
  rw [List.length_map, all_alike _ _ hl] at q
  exact q
end FG
namespace FG
open PySem L2
def top (i : Nat) : Stmt := PySem.Challenge.pw_forkform_k05_whole_ways.main.body.getD i (.Pass ⟨0, 0, 0, 0⟩)
abbrev sTold : Stmt := top 2
abbrev sEverySetting : Stmt := top 3
abbrev sToldEverywhere : Stmt := top 4
abbrev sSteps : Stmt := top 5
abbrev sHolds : Stmt := top 6
abbrev sJoined : Stmt := top 7
abbrev sForked : Stmt := top 9
abbrev sForksOver : Stmt := top 10
abbrev sForkOf : Stmt := top 11
abbrev sWays : Stmt := top 13
abbrev sWaysOf : Stmt := top 14
abbrev sWaysOn : Stmt := top 15
abbrev sWeight : Stmt := top 17
abbrev sSet : Stmt := top 18
abbrev sLeaf : Stmt := top 19
abbrev sTurned : Stmt := top 20
abbrev sTwo : Stmt := top 21
abbrev sBuilt : Stmt := top 22
abbrev sIsWay : Stmt := top 23
abbrev sFits : Stmt := top 24
abbrev sHalved : Stmt := top 25
abbrev sLaw : Stmt := top 26
theorem ltr_in {j : Nat} (h : j < 4) : inV (.str (ltr j)) [.str "a", .str "b", .str "c", .str "d"] = true := by
  have : j = 0 ∨ j = 1 ∨ j = 2 ∨ j = 3 := by omega
  rcases this with rfl | rfl | rfl | rfl <;> decide +kernel
theorem not_in : inV (.str "not") [.str "a", .str "b", .str "c", .str "d"] = false := by decide +kernel
theorem wd_in {w : Nat} (h : w < 3) : inV (.str (wd w)) [.str "a", .str "b", .str "c", .str "d"] = false := by
  have : w = 0 ∨ w = 1 ∨ w = 2 := by omega
  rcases this with rfl | rfl | rfl <;> decide +kernel
theorem wd_not {w : Nat} (h : w < 3) : ¬ V.str (wd w) = V.str "not" := by
  have : w = 0 ∨ w = 1 ∨ w = 2 := by omega
  rcases this with rfl | rfl | rfl <;> decide +kernel
theorem flat_strs (zs : List Str) : (zs.map V.str).all flatV = true := by
  rw [List.all_eq_true]
  intro x hx
  obtain ⟨z, _, rfl⟩ := List.mem_map.mp hx
  rfl
section
variable {P : Program} {w : World} {K : PySem.W.Frag} {mg : Str → Option Value} {base : Heap}
/-! ### joined -/
def spJoined : Sp := fun vs H Q _ => ∃ (k : Nat) (p q : Bool), vs = [.str (wd k), .bl p, .bl q] ∧ k < 3 ∧ Q (.bl (jn k p q)) H
theorem scJoined : FnScope ["word", "left", "right"] ["word", "left", "right"] (defScope sJoined) := ⟨rfl, rfl, rfl, by decide +kernel, rfl, by decide +kernel, by decide +kernel⟩
theorem ok_joined {f : Addr} {fd : FuncData} (F : Fun K "joined" "joined" sJoined f fd) : FnOk P w K mg base CX0 1 f fd ["word", "left", "right"] spJoined := by
  refine F.ok scJoined (fun vs H Q E h => ?_) (fun cdv A outer s H vs Q E hr h => ?_)
  · obtain ⟨k, p, q, rfl, _⟩ := h
    rfl
  obtain ⟨k, p, q, rfl, hk, h⟩ := h
  refine ⟨_, (pss_cons (ps_if (pt_cmpR op_eq (pv 0) pe_str (nomark _)) (pss_one (ps_ret (pe_and (pv 1) (pe_one (pv 2))))) pss_nil)
      (pss_cons (ps_if (pt_cmpR op_eq (pv 0) pe_str (nomark _)) (pss_one (ps_ret (pe_or (pv 1) (pe_one (pv 2))))) pss_nil)
      (pss_one (ps_ret (pe_or (pe_not (pv 1)) (pe_one (pv 2))))))), ?_⟩
  have hk3 : k = 0 ∨ k = 1 ∨ k = 2 := by omega
  refine ⟨_, rfl, rfl, _, rfl, ?_⟩
  rcases hk3 with rfl | rfl | rfl
  · refine ite_bl (fun _ => ?_) (fun z => absurd rfl z)
    refine ⟨_, rfl, _, rfl, ?_⟩
    cases p with
    | true => exact iteT ⟨_, rfl, by simpa [jn] using h⟩
    | false => exact iteF (by simpa [jn] using h)
  · refine ite_bl (fun z => absurd z (by decide +kernel)) (fun _ => ?_)
    refine ⟨_, rfl, rfl, _, rfl, ?_⟩
    refine ite_bl (fun _ => ?_) (fun z => absurd rfl z)
    refine ⟨_, rfl, _, rfl, ?_⟩
    cases p with
    | true => exact iteT (by simpa [jn] using h)
    | false => exact iteF ⟨_, rfl, by simpa [jn] using h⟩
  · refine ite_bl (fun z => absurd z (by decide +kernel)) (fun _ => ?_)
    refine ⟨_, rfl, rfl, _, rfl, ?_⟩
    refine ite_bl (fun z => absurd z (by decide +kernel)) (fun _ => ?_)
    refine ⟨_, rfl, _, rfl, _, rfl, ?_⟩
    cases p with
    | true => exact iteF ⟨_, rfl, by simpa [jn] using h⟩
    | false => exact iteT (by simpa [jn] using h)
/-! ### holds -/
def spHolds (K : PySem.W.Frag) : Sp := fun vs H Q _ => ∃ (a b : Addr) (ws zs : List Str) (n : Nat) (r : Bool), vs = [.ref a, .ref b] ∧ SqL K H a (ws.map V.str) ∧ SqL K H b (zs.map V.str) ∧ (∀ j, j < 4 → inV (.str (ltr j)) (zs.map V.str) = bit j n) ∧
  Run n ws [] r ∧ ws.length ≤ 10000 ∧ ∀ H', Same H H' → Q (.bl r) H'
theorem scHolds : FnScope ["steps", "setting", "told", "step", "right", "left"] ["steps", "setting"] (defScope sHolds) := ⟨rfl, rfl, rfl, by decide +kernel, rfl, by decide +kernel, by decide +kernel⟩
theorem ok_holds {f fJ aL : Addr} {fd dJ : FuncData} (F : Fun K "holds" "holds" sHolds f fd) (mL : mg "LETTERS" = some (.ref aL)) (kL : TupK K aL [.str "a", .str "b", .str "c", .str "d"])
    (GJ : FnOk P w K mg base CX0 1 fJ dJ ["word", "left", "right"] spJoined) (kJ : PySem.W.keepIn K (.ref fJ) = true) (bJ : Binds K dJ ["word", "left", "right"] []) (mJ : mg "joined" = some (.ref fJ)) : FnOk P w K mg base CX0 2 f fd ["steps", "setting"] (spHolds K) := by
  refine F.ok scHolds (fun vs H Q E h => ?_) (fun cdv A outer s H vs Q E hr h => ?_)
  · obtain ⟨a, b, ws, zs, n, r, rfl, _⟩ := h
    rfl
  obtain ⟨a, b, ws, zs, n, r, rfl, hA, hB, hbit, hrun, hlen, q⟩ := h
  refine ⟨_, (pss_cons (ps_set (i := 2) scHolds.nd rfl (Or.inl rfl) (pe_lst pa_nil))
      (pss_cons (ps_for PassesOwn.never rfl (pi_list (pv 0)) (pg_name (i := 3) scHolds.nd rfl (Or.inl rfl)) (pss_one (ps_if (pt_cmpR op_in_seq (pv 3) (pe_glob (v := .ref aL) rfl mL rfl) (by with_unfolding_all rfl)) (pss_one (ps_expr (pe_bm PySem.F.plainAttrs_list PySem.F.slot_list_append PySem.F.type_list_append mt_append (pv 2) (pa_cons (pe_cmpR op_in_seq (pv 3) (pv 1) (by with_unfolding_all rfl)) pa_nil)))) (pss_one (ps_if (pt_cmpR op_eq (pv 3) pe_str (nomark _)) (pss_one (ps_expr (pe_bm PySem.F.plainAttrs_list PySem.F.slot_list_append PySem.F.type_list_append mt_append (pv 2) (pa_cons (pe_not (pe_bm0 PySem.F.plainAttrs_list PySem.F.slot_list_pop PySem.F.type_list_pop mt_pop (pv 2))) pa_nil)))) (pss_cons (ps_set (i := 4) scHolds.nd rfl (Or.inl rfl) (pe_bm0 PySem.F.plainAttrs_list PySem.F.slot_list_pop PySem.F.type_list_pop mt_pop (pv 2)))
      (pss_cons (ps_set (i := 5) scHolds.nd rfl (Or.inl rfl) (pe_bm0 PySem.F.plainAttrs_list PySem.F.slot_list_pop PySem.F.type_list_pop mt_pop (pv 2)))
      (pss_one (ps_expr (pe_bm PySem.F.plainAttrs_list PySem.F.slot_list_append PySem.F.type_list_append mt_append (pv 2) (pa_cons (pe_call GJ hr rfl mJ kJ bJ .nil pass0 (pa_cons (pv 3) (pa_cons (pv 5) (pa_cons (pv 4) pa_nil)))) pa_nil)))))))))))
      (pss_one (ps_ret (pe_bm0 PySem.F.plainAttrs_list PySem.F.slot_list_pop PySem.F.type_list_pop mt_pop (pv 2)))))), ?_⟩
  refine ⟨(by show 0 ≤ sizeLine; decide), fun l hl => ?_⟩
  have e0 := same_new hl (.lst [])
  refine ⟨_, rfl, a, rfl, ⟨_, e0.seq hA⟩, for_list (K := K) (a := a) (xs := ws.map V.str) (fun i σ H2 => ∃ (st : List Bool) (o3 o4 o5 : Option V), σ = [some (.ref a), some (.ref b), some (.ref l), o3, o4, o5] ∧ Same H H2 ∧ H2 l = some (.lst (st.map V.bl)) ∧ st.length ≤ i ∧ Run n (ws.drop i) st r)
    ⟨[], none, none, none, rfl, e0, upd_same, Nat.le_refl _, hrun⟩ (fun i σ H2 _ ⟨_, _, _, _, _, e2, _⟩ => e2.seq hA) ?_ ?_⟩
  · rintro i x σ H2 hi ⟨st, o3, o4, o5, rfl, e2, hl2, hst, hr2⟩
    have hiw : i < ws.length := by
      have := (List.getElem?_eq_some_iff.mp hi).1
      rwa [List.length_map] at this
    have hx : x = .str ws[i] := by
      rw [List.getElem?_map, List.getElem?_eq_getElem hiw] at hi
      exact (Option.some.inj hi).symm
    subst hx
    rw [List.drop_eq_getElem_cons hiw] at hr2
    generalize ws[i] = x at hr2 ⊢
    have same3 : ∀ xs, Same H (upd H2 l (.lst xs)) := fun xs c o hc => by rw [upd_ne (ne_of_none hc hl)]; exact e2 c o hc
    -- step in LETTERS
    refine ⟨_, rfl, aL, _, rfl, .inr kL.sq, rfl, rfl, _, rfl, ?_⟩
    cases hr2 with
    | @ltr j _ _ _ hj hr3 =>
      rw [show (if false = true then !inV (V.str (ltr j)) [.str "a", .str "b", .str "c", .str "d"] else inV (V.str (ltr j)) [.str "a", .str "b", .str "c", .str "d"]) = true from ltr_in hj]
      refine iteT ?_
      refine ⟨_, rfl, .inl ⟨rfl, _, SqL.of hl2⟩, _, rfl, _, rfl, b, _, rfl, .inl (e2.seq hB), rfl, flat_strs zs, l, _, _, rfl, rfl, hl2, small (by rw [List.length_map]; omega), ?_⟩
      refine ⟨st ++ [bit j n], _, _, _, rfl, same3 _, ?_, by simp; omega, hr3⟩
      rw [upd_same, List.map_append, ← hbit j hj]
      rfl
    | @no p _ st' _ hr3 =>
      rw [show (if false = true then !inV (V.str "not") [.str "a", .str "b", .str "c", .str "d"] else inV (V.str "not") [.str "a", .str "b", .str "c", .str "d"]) = false from not_in]
      refine iteF ?_
      refine ⟨_, rfl, rfl, _, rfl, ?_⟩
      refine ite_bl (fun _ => ?_) (fun z => absurd rfl z)
      have hl3 : H2 l = some (.lst (st'.map V.bl ++ [V.bl p])) := by rw [hl2, List.map_append]; rfl
      refine ⟨_, rfl, .inl ⟨rfl, _, SqL.of hl3⟩, _, rfl, .inl ⟨rfl, _, SqL.of hl3⟩, l, _, _, rfl, rfl, hl3, snoc_get _ _, _, rfl, l, _, _, rfl, rfl, upd_same, ?_, ?_⟩
      · rw [List.dropLast_concat, List.length_map]
        simp at hst
        exact small (by omega)
      · refine ⟨st' ++ [!p], _, _, _, rfl, ?_, ?_, by simpa using Nat.le_succ_of_le hst, hr3⟩
        · rw [upd_upd]
          exact same3 _
        · rw [upd_same, List.dropLast_concat, List.map_append]
          rfl
    | @two k p p2 _ st' _ hk hr3 =>
      rw [show (if false = true then !inV (V.str (wd k)) [.str "a", .str "b", .str "c", .str "d"] else inV (V.str (wd k)) [.str "a", .str "b", .str "c", .str "d"]) = false from wd_in hk]
      refine iteF ?_
      refine ⟨_, rfl, rfl, _, rfl, ?_⟩
      refine ite_bl (fun z => absurd z (wd_not hk)) (fun _ => ?_)
      have hl3 : H2 l = some (.lst (st'.map V.bl ++ [V.bl p] ++ [V.bl p2])) := by rw [hl2, List.map_append, List.map_append]; rfl
      refine ⟨_, rfl, .inl ⟨rfl, _, SqL.of hl3⟩, l, _, _, rfl, rfl, hl3, snoc_get _ _, ?_⟩
      have hl4 : (upd H2 l (.lst (st'.map V.bl ++ [V.bl p] ++ [V.bl p2]).dropLast)) l = some (.lst (st'.map V.bl ++ [V.bl p])) := by rw [upd_same, List.dropLast_concat]
      refine ⟨_, rfl, .inl ⟨rfl, _, SqL.of hl4⟩, l, _, _, rfl, rfl, hl4, snoc_get _ _, ?_⟩
      refine ⟨_, rfl, .inl ⟨rfl, _, SqL.of upd_same⟩, _, rfl, _, rfl, _, rfl, k, p, p2, rfl, hk, l, _, _, rfl, rfl, upd_same, ?_, ?_⟩
      · rw [List.dropLast_concat, List.length_map]
        simp at hst
        exact small (by omega)
      · refine ⟨st' ++ [jn k p p2], _, _, _, rfl, ?_, ?_, by simp at hst ⊢; omega, hr3⟩
        · rw [upd_upd, upd_upd]
          exact same3 _
        · rw [upd_same, List.dropLast_concat, List.map_append]
          rfl
  · rintro σ H2 ⟨st, o3, o4, o5, rfl, e2, hl2, hst, hr2⟩
    rw [List.length_map, List.drop_length] at hr2
    cases hr2
    refine ⟨_, rfl, .inl ⟨rfl, _, SqL.of hl2⟩, l, _, _, rfl, rfl, hl2, rfl, ?_⟩
    exact q _ fun c o hc => by rw [upd_ne (ne_of_none hc hl)]; exact e2 c o hc
end
end FG
namespace FG
open PySem L2
/-! ### steps_of -/
def Reps (H : Hp) : List S → List V → Prop
  | [], vs => vs = []
  | s :: r, vs => ∃ v us, vs = v :: us ∧ Rep H s v ∧ Reps H r us
theorem Reps.mono {H H' : Hp} (k : Tk H H') : ∀ {ss : List S} {vs : List V}, Reps H ss vs → Reps H' ss vs
  | [], vs, h => h
  | s :: r, vs, h => by
    obtain ⟨v, us, e, p, q⟩ := h
    exact ⟨v, us, e, p.mono k, Reps.mono k q⟩
theorem Reps.length {H : Hp} : ∀ {ss : List S} {vs : List V}, Reps H ss vs → vs.length = ss.length
  | [], vs, h => by rw [show vs = [] from h]; rfl
  | s :: r, vs, h => by
    obtain ⟨v, us, rfl, _, q⟩ := h
    simp [Reps.length q]
theorem Reps.append {H : Hp} : ∀ {xs ys : List S} {us vs : List V}, Reps H xs us → Reps H ys vs → Reps H (xs ++ ys) (us ++ vs)
  | [], ys, us, vs, h, h2 => by rw [show us = [] from h]; exact h2
  | s :: r, ys, us, vs, h, h2 => by
    obtain ⟨v, us', rfl, p, q⟩ := h
    exact ⟨v, us' ++ vs, rfl, p, Reps.append q h2⟩
theorem Reps.split {H : Hp} : ∀ {us vs : List V} {ss : List S}, Reps H ss (us ++ vs) → ∃ xs ys, ss = xs ++ ys ∧ Reps H xs us ∧ Reps H ys vs
  | [], vs, ss, h => ⟨[], ss, rfl, rfl, h⟩
  | u :: us, vs, [], h => by cases (show u :: us ++ vs = [] from h)
  | u :: us, vs, s :: r, h => by
    obtain ⟨v, w, e, p, q⟩ := h
    rw [List.cons_append] at e
    injection e with e1 e2
    subst e1 e2
    obtain ⟨xs, ys, e, a, b⟩ := Reps.split q
    exact ⟨s :: xs, ys, by rw [e, List.cons_append], ⟨u, us, rfl, p, a⟩, b⟩
theorem Reps.last {H : Hp} {us : List V} {v : V} {ss : List S} (h : Reps H ss (us ++ [v])) : ∃ xs s, ss = xs ++ [s] ∧ Reps H xs us ∧ Rep H s v := by
  obtain ⟨xs, ys, e, a, b⟩ := h.split
  cases ys with
  | nil => cases (show [v] = [] from b)
  | cons s r =>
    obtain ⟨w, u, e2, p, q⟩ := b
    injection e2 with e3 e4
    subst e3 e4
    cases r with
    | nil => exact ⟨xs, s, e, a, p⟩
    | cons _ _ =>
      obtain ⟨_, _, e5, _⟩ := q
      cases e5
def fl (ss : List S) : List Str := (ss.reverse.map pre).flatten
theorem fl_last (xs : List S) (x : S) : fl (xs ++ [x]) = pre x ++ fl xs := by simp [fl]
theorem cut1 (x : V) (xs : List V) : cutV (x :: xs) (some 1) none = xs := by
  have e : HT.sIx (x :: xs).length 0 (some ((1 : Nat) : Int)) = 1 := by rw [HT.sIx_nat]; simp
  unfold cutV
  rw [show (some (1 : Int)) = some ((1 : Nat) : Int) from rfl, e, HT.sIx_none]
  simp
theorem nowhole (x : V) (xs : List V) : ¬ (HT.sIx (x :: xs).length 0 (some 1) = 0 ∧ HT.sIx (x :: xs).length (x :: xs).length none = (x :: xs).length) := by
  have e : HT.sIx (x :: xs).length 0 (some ((1 : Nat) : Int)) = 1 := by rw [HT.sIx_nat]; simp
  rintro ⟨h, _⟩
  rw [show (some (1 : Int)) = some ((1 : Nat) : Int) from rfl, e] at h
  cases h
section
variable {P : Program} {w : World} {K : PySem.W.Frag} {mg : Str → Option Value} {base : Heap}
def spSteps : Sp := fun vs H Q _ => ∃ (s : S) (v : V), vs = [v] ∧ Rep H s v ∧ sz s ≤ 10000 ∧ ∀ l H', Same H H' → H' l = some (.lst ((post s).map V.str)) → Q (.ref l) H'
theorem scSteps : FnScope ["statement", "waiting", "steps", "part"] ["statement"] (defScope sSteps) := ⟨rfl, rfl, rfl, by decide +kernel, rfl, by decide +kernel, by decide +kernel⟩
theorem ok_steps {f : Addr} {fd : FuncData} (F : Fun K "steps_of" "steps_of" sSteps f fd) (ml : mg "len" = none) (mI : mg "isinstance" = none) (mT : mg "tuple" = none) (mLi : mg "list" = none) (mR : mg "reversed" = none) : FnOk P w K mg base CX0 1 f fd ["statement"] spSteps := by
  refine F.ok scSteps (fun vs H Q E h => ?_) (fun cdv A outer s H vs Q E hr h => ?_)
  · obtain ⟨s, v, rfl, _⟩ := h
    rfl
  obtain ⟨s0, v, rfl, hR, hz, q⟩ := h
  refine ⟨_, (pss_cons (ps_set (i := 1) scSteps.nd rfl (Or.inl rfl) (pe_lst (pa_cons (pv 0) pa_nil)))
      (pss_cons (ps_set (i := 2) scSteps.nd rfl (Or.inl rfl) (pe_lst pa_nil))
      (pss_cons (ps_while PassesOwn.never (pt_cmpR op_gt (pe_callB call_len_seq rfl ml bt_len (pa_cons (pv 1) pa_nil)) pe_int (nomark _)) (pss_cons (ps_set (i := 3) scSteps.nd rfl (Or.inl rfl) (pe_bm0 PySem.F.plainAttrs_list PySem.F.slot_list_pop PySem.F.type_list_pop mt_pop (pv 1)))
      (pss_one (ps_if (pt_val (pe_callB call_isinst rfl mI bt_isi (pa_cons (pv 3) (pa_cons (pe_bltn (v := .ty "tuple") rfl mT bt_tuple rfl) pa_nil)))) (pss_cons (ps_expr (pe_bm PySem.F.plainAttrs_list PySem.F.slot_list_append PySem.F.type_list_append mt_append (pv 2) (pa_cons (pe_ix ix_tup (pv 3) pe_int (fun _ _ => rfl)) pa_nil)))
      (pss_one (ps_expr (pe_bm PySem.F.plainAttrs_list PySem.F.slot_list_extend PySem.F.type_list_extend mt_extendT (pv 1) (pa_cons (pe_slice sl_tup (pv 3) (po_some pe_int) po_none) pa_nil))))) (pss_one (ps_expr (pe_bm PySem.F.plainAttrs_list PySem.F.slot_list_append PySem.F.type_list_append mt_append (pv 2) (pa_cons (pv 3) pa_nil))))))))
      (pss_one (ps_ret (pe_callTy (call_list_rev rfl) rfl mLi bt_list (pa_cons (pe_callTy call_reversed rfl mR bt_rev (pa_cons (pv 2) pa_nil)) pa_nil))))))), ?_⟩
  refine ⟨_, rfl, (by show 1 ≤ sizeLine; decide), fun l hl => ?_⟩
  refine ⟨(by show 0 ≤ sizeLine; decide), fun d hd => ?_⟩
  have hdn : H d = none := (same_new hl (.lst [v])).free hd
  have hne : l ≠ d := ne_of_none (upd_same (H := H) (o := .lst [v])) hd
  refine ⟨fun m σ H2 => ∃ (ws : List V) (ss : List S) (ds : List Str) (pt : Option V), σ = [some v, some (.ref l), some (.ref d), pt] ∧ Same H H2 ∧ l ≠ d ∧ H2 l = some (.lst ws) ∧ Reps H2 ss ws ∧ H2 d = some (.lst (ds.map V.str)) ∧ ds ++ fl ss = pre s0 ∧ szs ss + ds.length ≤ sz s0 ∧ m = szs ss,
    ⟨_, [v], [s0], [], none, rfl, (same_new hl _).trans (same_new hd _), hne, by rw [upd_ne hne, upd_same], ⟨v, [], rfl, (hR.mono (Tk.new hl _)).mono (Tk.new hd _), rfl⟩, upd_same, by simp [fl], by simp [szs], rfl⟩, ?_⟩
  rintro m σ H2 ⟨ws, ss, ds, pt, rfl, e2, _, hw, hr2, hd2, hfl, hz2, rfl⟩
  refine ⟨_, rfl, l, ws, rfl, .inl (SqL.of hw), _, _, rfl, rfl, _, rfl, ?_⟩
  refine ite2 (fun c => ?_) (fun c => ?_)
  · have c1 : (0 : Int) < (ws.length : Int) := of_decide_eq_true c
    obtain ⟨us, u, rfl⟩ := snoc_of (ws := ws) (by omega)
    obtain ⟨xs, x, rfl, hxs, hx⟩ := hr2.last
    rw [szs_append, szs_one] at hz2
    have hul := hxs.length
    have hxl := szs_len xs
    refine ⟨_, fun σ' H' h => h, ?_⟩
    refine ⟨_, rfl, .inl ⟨rfl, _, SqL.of hw⟩, l, us ++ [u], u, rfl, rfl, hw, snoc_get us u, ?_⟩
    obtain ⟨H3, hH3⟩ : ∃ H3, H3 = upd H2 l (.lst (us ++ [u]).dropLast) := ⟨_, rfl⟩
    rw [← hH3]
    have h3 : H3 l = some (.lst us) := by rw [hH3, upd_same, List.dropLast_concat]
    have t3 : Tk H2 H3 := by rw [hH3]; exact Tk.lst hw
    have e3 : Same H H3 := fun b o hb => by rw [hH3, upd_ne (ne_of_none hb hl)]; exact e2 b o hb
    have hd3 : H3 d = some (.lst (ds.map V.str)) := by rw [hH3, upd_ne (Ne.symm hne)]; exact hd2
    have hx3 := hx.mono t3
    have hxs3 := hxs.mono t3
    cases x with
    | lt j =>
      obtain ⟨hj, rfl⟩ := hx3
      refine ⟨_, rfl, _, _, _, _, rfl, TyOf.str _, kit_str_tuple _, _, rfl, ?_⟩
      refine iteF ?_
      refine ⟨_, rfl, .inl ⟨rfl, _, SqL.of hd3⟩, _, rfl, d, _, _, rfl, rfl, hd3, small (by rw [List.length_map]; omega), ?_⟩
      refine ⟨szs xs, ?_, us, xs, ds ++ [ltr j], _, rfl, fun c o hc => ?_, hne, by rw [upd_ne hne]; exact h3, hxs3.mono (Tk.lst hd3), ?_, ?_, ?_, rfl⟩
      · rw [szs_append, szs_one]
        simp [sz]
      · rw [upd_ne (ne_of_none hc hdn)]
        exact e3 c o hc
      · rw [upd_same, List.map_append]
        rfl
      · rw [← hfl, fl_last]
        simp [pre]
      · simp [sz] at hz2 ⊢
        omega
    | no s' =>
      obtain ⟨a, u', rfl, ha, hu'⟩ := hx3
      refine ⟨_, rfl, _, _, _, _, rfl, TyOf.tup ha, kit_same _ _, _, rfl, ?_⟩
      refine iteT ?_
      -- steps.append(part[0])
      refine ⟨_, rfl, .inl ⟨rfl, _, SqL.of hd3⟩, _, rfl, a, _, 0, _, rfl, rfl, SqT.of ha, atI_nat (j := 0) rfl, d, _, _, rfl, rfl, hd3, small (by rw [List.length_map]; omega), ?_⟩
      have nda : a ≠ d := ne_of ha hd3 (by intro z; cases z)
      have hw4 : (upd H3 d (.lst (ds.map V.str ++ [.str ("not" : Str)]))) l = some (.lst us) := by rw [upd_ne hne]; exact h3
      have ha4 : (upd H3 d (.lst (ds.map V.str ++ [.str ("not" : Str)]))) a = some (.tup [.str "not", u']) := by rw [upd_ne nda]; exact ha
      -- waiting.extend(part[1:])
      refine ⟨_, rfl, .inl ⟨rfl, _, SqL.of hw4⟩, _, rfl, _, rfl, a, _, rfl, SqT.of ha4, nowhole _ _, fun p hp => ?_⟩
      rw [cut1]
      have np : l ≠ p := ne_of_none hw4 hp
      have npd : d ≠ p := ne_of_none (upd_same (H := H3) (o := .lst (ds.map V.str ++ [.str ("not" : Str)]))) hp
      refine ⟨l, p, us, _, rfl, rfl, by rw [upd_ne np]; exact hw4, SqT.of upd_same, Nat.le_of_lt (small (by simp; omega)), ?_⟩
      have T4 : Tk H3 (upd (upd (upd H3 d (.lst (ds.map V.str ++ [.str ("not" : Str)]))) p (.tup [u'])) l (.lst (us ++ [u']))) :=
        ((Tk.lst hd3).trans (Tk.new hp _)).trans (Tk.lst (xs := us) (by rw [upd_ne np]; exact hw4))
      refine ⟨szs (xs ++ [s']), ?_, us ++ [u'], xs ++ [s'], ds ++ [("not" : Str)], _, rfl, fun c o hc => ?_, hne, upd_same, ?_, ?_, ?_, ?_, rfl⟩
      · rw [szs_append, szs_append, szs_one]
        simp [szs, sz] <;> omega
      · have h5 := e3 c o hc
        have h6 : (upd H3 d (.lst (ds.map V.str ++ [.str ("not" : Str)]))) c = some o := by
          rw [upd_ne (ne_of_none hc hdn)]
          exact h5
        rw [upd_ne (ne_of_none hc hl), upd_ne (ne_of_none h6 hp)]
        exact h6
      · exact (hxs3.mono T4).append ⟨u', [], rfl, hu'.mono T4, rfl⟩
      · rw [upd_ne (Ne.symm hne), upd_ne npd, upd_same, List.map_append]
        rfl
      · rw [← hfl, fl_last]
        simp [pre, fl]
      · rw [szs_append]
        simp [szs, sz] at hz2 ⊢ <;> omega
    | two k s1 s2 =>
      obtain ⟨hk, a, u1, u2, rfl, ha, hu1, hu2⟩ := hx3
      refine ⟨_, rfl, _, _, _, _, rfl, TyOf.tup ha, kit_same _ _, _, rfl, ?_⟩
      refine iteT ?_
      -- steps.append(part[0])
      refine ⟨_, rfl, .inl ⟨rfl, _, SqL.of hd3⟩, _, rfl, a, _, 0, _, rfl, rfl, SqT.of ha, atI_nat (j := 0) rfl, d, _, _, rfl, rfl, hd3, small (by rw [List.length_map]; omega), ?_⟩
      have nda : a ≠ d := ne_of ha hd3 (by intro z; cases z)
      have hw4 : (upd H3 d (.lst (ds.map V.str ++ [.str (wd k)]))) l = some (.lst us) := by rw [upd_ne hne]; exact h3
      have ha4 : (upd H3 d (.lst (ds.map V.str ++ [.str (wd k)]))) a = some (.tup [.str (wd k), u1, u2]) := by rw [upd_ne nda]; exact ha
      -- waiting.extend(part[1:])
      refine ⟨_, rfl, .inl ⟨rfl, _, SqL.of hw4⟩, _, rfl, _, rfl, a, _, rfl, SqT.of ha4, nowhole _ _, fun p hp => ?_⟩
      rw [cut1]
      have np : l ≠ p := ne_of_none hw4 hp
      have npd : d ≠ p := ne_of_none (upd_same (H := H3) (o := .lst (ds.map V.str ++ [.str (wd k)]))) hp
      refine ⟨l, p, us, _, rfl, rfl, by rw [upd_ne np]; exact hw4, SqT.of upd_same, Nat.le_of_lt (small (by simp [sz] at hz2 ⊢; have p1 := sz_pos s1; have p2 := sz_pos s2; omega)), ?_⟩
      have T4 : Tk H3 (upd (upd (upd H3 d (.lst (ds.map V.str ++ [.str (wd k)]))) p (.tup [u1, u2])) l (.lst (us ++ [u1, u2]))) :=
        ((Tk.lst hd3).trans (Tk.new hp _)).trans (Tk.lst (xs := us) (by rw [upd_ne np]; exact hw4))
      refine ⟨szs (xs ++ [s1, s2]), ?_, us ++ [u1, u2], xs ++ [s1, s2], ds ++ [wd k], _, rfl, fun c o hc => ?_, hne, upd_same, ?_, ?_, ?_, ?_, rfl⟩
      · rw [szs_append, szs_append, szs_one]
        simp [szs, sz] <;> omega
      · have h5 := e3 c o hc
        have h6 : (upd H3 d (.lst (ds.map V.str ++ [.str (wd k)]))) c = some o := by
          rw [upd_ne (ne_of_none hc hdn)]
          exact h5
        rw [upd_ne (ne_of_none hc hl), upd_ne (ne_of_none h6 hp)]
        exact h6
      · exact (hxs3.mono T4).append ⟨u1, [u2], rfl, hu1.mono T4, u2, [], rfl, hu2.mono T4, rfl⟩
      · rw [upd_ne (Ne.symm hne), upd_ne npd, upd_same, List.map_append]
        rfl
      · rw [← hfl, fl_last]
        simp [pre, fl]
      · rw [szs_append]
        simp [szs, sz] at hz2 ⊢ <;> omega
  · have c1 : ¬ (0 : Int) < (ws.length : Int) := of_decide_eq_false (Bool.eq_false_iff.mpr c)
    have z : ws = [] := List.length_eq_zero_iff.mp (by omega)
    subst z
    have z2 : ss = [] := List.length_eq_zero_iff.mp hr2.length.symm
    subst z2
    have z3 : ds = pre s0 := by simpa [fl] using hfl
    refine ⟨_, rfl, d, _, rfl, SqL.of hd2, fun r hr' => ?_⟩
    have ndr : d ≠ r := ne_of_none hd2 hr'
    refine ⟨r, d, _, rfl, upd_same, SqL.of (by rw [upd_ne ndr]; exact hd2), fun t ht => ?_⟩
    rw [del_upd hr'] at ht ⊢
    refine q t _ (e2.trans (same_new ht _)) ?_
    rw [upd_same, z3, ← List.map_reverse, pre_post]
/-! ### told_at -/
/-- a setting: a list of letters, by the bits of n -/
def SetAt (H : Hp) (a : Addr) (n : Nat) : Prop := ∃ zs : List Str, H a = some (.lst (zs.map V.str)) ∧ ∀ j, j < 4 → inV (.str (ltr j)) (zs.map V.str) = bit j n
def SetsAt (H : Hp) (gs : List Addr) (ns : List Nat) : Prop := Paired (SetAt H) gs ns
theorem SetsAt.get {H : Hp} : ∀ {gs : List Addr} {ns : List Nat} {i : Nat} {g : Addr}, SetsAt H gs ns → gs[i]? = some g → ∃ n, ns[i]? = some n ∧ SetAt H g n
  | _, _, _, _, .nil, e => by simp at e
  | _, _, 0, _, .cons r _, e => by simp at e; subst e; exact ⟨_, rfl, r⟩
  | _, _, i + 1, g, .cons _ t, e => by
    obtain ⟨n, h1, h2⟩ := SetsAt.get (i := i) (g := g) t (by simpa using e)
    exact ⟨n, by simpa using h1, h2⟩
def spTold (K : PySem.W.Frag) : Sp := fun vs H Q _ => ∃ (s : S) (v : V) (g : Addr) (gs : List Addr) (ns : List Nat), vs = [v, .ref g] ∧ Rep H s v ∧ sz s ≤ 10000 ∧ H g = some (.lst (gs.map V.ref)) ∧ SetsAt H gs ns ∧ gs.length ≤ 100 ∧
  ∀ l H', Same H H' → H l = none → H' l = some (.lst (ns.map fun n => V.bl (val s n))) → Q (.ref l) H'
theorem scTold : FnScope ["statement", "settings", "steps"] ["statement", "settings"] (defScope sTold) := ⟨rfl, rfl, rfl, by decide +kernel, rfl, by decide +kernel, by decide +kernel⟩
theorem ok_told {f fS fH : Addr} {fd dS dH : FuncData} (F : Fun K "told_at" "told_at" sTold f fd)
    (GS : FnOk P w K mg base CX0 1 fS dS ["statement"] spSteps) (kS : PySem.W.keepIn K (.ref fS) = true) (bS : Binds K dS ["statement"] []) (mS : mg "steps_of" = some (.ref fS))
    (GH : FnOk P w K mg base CX0 2 fH dH ["steps", "setting"] (spHolds K)) (kH : PySem.W.keepIn K (.ref fH) = true) (bH : Binds K dH ["steps", "setting"] []) (mH : mg "holds" = some (.ref fH)) : FnOk P w K mg base CX0 3 f fd ["statement", "settings"] (spTold K) := by
  refine F.ok scTold (fun vs H Q E h => ?_) (fun cdv A outer s H vs Q E hr h => ?_)
  · obtain ⟨s, v, g, gs, ns, rfl, _⟩ := h
    rfl
  obtain ⟨s0, v, g, gs, ns, rfl, hR, hz, hg, hS, hgl, q⟩ := h
  have hrS : Room 1 _ := hr.mono (by decide)
  refine ⟨_, (pss_cons (ps_set (i := 2) scTold.nd rfl (Or.inr rfl) (pe_call GS hrS rfl mS kS bS .nil pass0 (pa_cons (pv 0) pa_nil)))
      (pss_one (ps_ret (pe_comp ["setting"] [("steps", 2)] (CompOk.by_look rfl rfl (by decide +kernel) (fun _ _ z => z) rfl (fun p hp => by have e := List.mem_singleton.mp hp; subst e; exact ⟨rfl, rfl, rfl⟩)) (pi_list (pv 1)) (fun C fp s H => pg_name (i := 0) (show ([("setting" : Str), ("steps" : Str)] : List Str).Nodup by decide +kernel) rfl (Or.inl rfl)) (fun C fp s H => pts_nil) (fun C fp s H => (pe_call GH hr rfl mH kH bH .nil pass0 (pa_cons (pv 1) (pa_cons (pv 0) pa_nil)))))))), ?_⟩
  refine ⟨_, rfl, s0, v, rfl, hR, hz, fun d H1 e1 hd => ?_⟩
  have hnl : gs.length = ns.length := Paired.length hS
  refine ⟨_, rfl, g, rfl, ⟨_, SqL.of (e1 _ _ hg)⟩, comp_list (K := K) (a := g) (xs := gs.map V.ref) (fun i σ ys H2 => ∃ o, σ = [o, some (.ref d)] ∧ Same H1 H2 ∧ i ≤ ns.length ∧ ys = (ns.take i).map fun n => V.bl (val s0 n))
    ⟨none, rfl, Same.refl _, Nat.zero_le _, rfl⟩ (fun i σ ys H2 ⟨o, _, e2, hi, hy⟩ => ⟨by rw [hy, List.length_map, List.length_take]; exact small (by omega), SqL.of (e2 _ _ (e1 _ _ hg))⟩) ?_ ?_⟩
  · rintro i x σ ys H2 hi ⟨o, rfl, e2, hin, rfl⟩
    have hil : i < gs.length := by
      have := (List.getElem?_eq_some_iff.mp hi).1
      rwa [List.length_map] at this
    obtain ⟨a, ha, rfl⟩ : ∃ a, gs[i]? = some a ∧ x = V.ref a := by
      rw [List.getElem?_map, List.getElem?_eq_getElem hil] at hi
      exact ⟨_, List.getElem?_eq_getElem hil, (Option.some.inj hi).symm⟩
    obtain ⟨n, hn, zs, hz1, hz2⟩ := hS.get ha
    refine nameYes ?_
    refine ⟨_, rfl, _, rfl, d, a, post s0, zs, n, val s0 n, rfl, SqL.of (e2 _ _ hd), SqL.of (e2 _ _ (e1 _ _ hz1)), hz2, run_whole n s0 hR.ok, by rw [post_len]; exact hz, fun H3 e3 => ?_⟩
    refine ⟨_, rfl, e2.trans e3, by omega, ?_⟩
    have hil2 : i < ns.length := by omega
    rw [List.take_succ, hn]
    simp
  · rintro σ ys H2 ⟨o, rfl, e2, hin, rfl⟩ D hD
    have hDn : H D = none := e1.free (e2.free hD)
    refine q D _ ((e1.trans e2).trans (same_new hD _)) hDn ?_
    rw [upd_same, List.length_map, hnl, List.take_length]
end
end FG
namespace FG
open PySem L2
section
variable {P : Program} {w : World} {K : PySem.W.Frag} {mg : Str → Option Value} {base : Heap}
/-! ### weight -/
def spWeight : Sp := fun vs H Q _ => ∃ j : Nat, vs = [.int j] ∧ j < 4 ∧ ∀ H', Same H H' → Q (.int ((2 ^ j : Nat) : Int)) H'
theorem scWeight : FnScope ["_law_j"] ["_law_j"] (defScope sWeight) := ⟨rfl, rfl, rfl, by decide +kernel, rfl, by decide +kernel, by decide +kernel⟩
theorem ok_weight {f : Addr} {fd : FuncData} (F : Fun K "_law_weight" "_law_weight" sWeight f fd) : FnOk P w K mg base CX0 1 f fd ["_law_j"] spWeight := by
  refine F.ok scWeight (fun vs H Q E h => ?_) (fun cdv A outer s H vs Q E hr h => ?_)
  · obtain ⟨j, rfl, _⟩ := h
    rfl
  obtain ⟨j, rfl, hj, q⟩ := h
  refine ⟨_, (pss_one (ps_ret (pe_ix ix_list (pe_lst (pa_cons pe_int (pa_cons pe_int (pa_cons pe_int (pa_cons pe_int pa_nil))))) (pv 0) (fun _ _ => rfl)))), ?_⟩
  refine ⟨(by show 4 ≤ sizeLine; decide), fun p hp => ⟨_, rfl, p, _, _, _, rfl, rfl, SqL.of upd_same, wt_at hj, ?_⟩⟩
  exact q _ (same_new hp _)
/-! ### set_at -/
def setL (n : Nat) : List Str := ((List.range 4).filter fun j => bit j n).map ltr
def spSet : Sp := fun vs H Q _ => ∃ n : Nat, vs = [.int n] ∧ n < 16 ∧ ∀ l H', Same H H' → H l = none → H' l = some (.lst ((setL n).map V.str)) → Q (.ref l) H'
theorem scSet : FnScope ["_law_n"] ["_law_n"] (defScope sSet) := ⟨rfl, rfl, rfl, by decide +kernel, rfl, by decide +kernel, by decide +kernel⟩
theorem ok_set {f fW : Addr} {fd dW : FuncData} (F : Fun K "_law_set_at" "_law_set_at" sSet f fd) (mr : mg "range" = none) (GW : FnOk P w K mg base CX0 1 fW dW ["_law_j"] spWeight) (kW : PySem.W.keepIn K (.ref fW) = true) (bW : Binds K dW ["_law_j"] []) (mW : mg "_law_weight" = some (.ref fW)) : FnOk P w K mg base CX0 2 f fd ["_law_n"] spSet := by
  refine F.ok scSet (fun vs H Q E h => ?_) (fun cdv A outer s H vs Q E hrW h => ?_)
  · obtain ⟨n, rfl, _⟩ := h
    rfl
  obtain ⟨n, rfl, hn, q⟩ := h
  refine ⟨_, (pss_one (ps_ret (pe_comp ["_law_j"] [("_law_n", 0)] (CompOk.by_look rfl rfl (by decide +kernel) (fun _ _ z => z) rfl (fun p hp => by have e := List.mem_singleton.mp hp; subst e; exact ⟨rfl, rfl, rfl⟩)) (pi_range1 rfl mr (pa_cons pe_int pa_nil)) (fun C fp s H => pg_name (i := 0) (show ([("_law_j" : Str), ("_law_n" : Str)] : List Str).Nodup by decide +kernel) rfl (Or.inl rfl)) (fun C fp s H => pts_one (pt_cmpR op_eq (pe_op op_mod (pe_op op_fdiv (pv 1) (pe_call GW hrW rfl mW kW bW .nil pass0 (pa_cons (pv 0) pa_nil))) pe_int) pe_int (nomark _))) (fun C fp s H => (pe_ix ix_str pe_str (pv 0) (fun _ _ => rfl)))))), ?_⟩
  refine ⟨4, rfl, by decide, by decide, comp_range (lo := 0) (n := (4 : Int).toNat) (fun i σ ys H2 => ∃ o, σ = [o, some (.int n)] ∧ Same H H2 ∧ i ≤ 4 ∧ ys = (((List.range i).filter fun j => bit j n).map ltr).map V.str)
    ⟨none, rfl, Same.refl _, Nat.zero_le _, rfl⟩ (fun i σ ys H2 ⟨o, _, _, hi, hy⟩ => ?_) ?_ ?_⟩
  · rw [hy, List.length_map, List.length_map]
    have := List.length_filter_le (fun j => bit j n) (List.range i)
    rw [List.length_range] at this
    exact small (by omega)
  · rintro i σ ys H2 hi ⟨o, rfl, e2, _, rfl⟩
    have hi4 : i < 4 := hi
    refine ⟨_, rfl, _, rfl, i, by simp, hi4, fun H3 e3 => ?_⟩
    refine ⟨_, _, rfl, rfl, wt_small hi4, _, _, rfl, rfl, (by show (0 : Int) < 2; decide), rfl, _, rfl, ?_⟩
    refine ite2 (fun c => ?_) (fun c => ?_)
    · have c1 : bit i n = true := by rw [← bit_int]; exact c
      refine ⟨_, rfl, "abcd", _, _, rfl, rfl, (by decide +kernel), (by rw [Int.zero_add]; exact abcd_at hi4), ?_⟩
      refine ⟨_, rfl, e2.trans e3, hi4, ?_⟩
      rw [List.range_succ, List.filter_append]
      simp [c1, ltr]
    · have c1 : bit i n = false := by
        rw [← bit_int]
        exact Bool.eq_false_iff.mpr c
      refine ⟨_, rfl, e2.trans e3, hi4, ?_⟩
      rw [List.range_succ, List.filter_append]
      simp [c1]
  · rintro σ ys H2 ⟨o, rfl, e2, _, rfl⟩ D hD
    exact q D _ (e2.trans (same_new hD _)) (e2.free hD) upd_same
/-! ### leaf -/
def spLeaf : Sp := fun vs H Q _ => ∃ j : Nat, vs = [.int j] ∧ j < 4 ∧ ∀ v c H', Same H H' → H c = none → Pair H' (.lt j) v c → Q v H'
theorem scLeaf : FnScope ["_law_j"] ["_law_j"] (defScope sLeaf) := ⟨rfl, rfl, rfl, by decide +kernel, rfl, by decide +kernel, by decide +kernel⟩
theorem ok_leaf {f fW : Addr} {fd dW : FuncData} (F : Fun K "_law_leaf" "_law_leaf" sLeaf f fd) (mr : mg "range" = none) (GW : FnOk P w K mg base CX0 1 fW dW ["_law_j"] spWeight) (kW : PySem.W.keepIn K (.ref fW) = true) (bW : Binds K dW ["_law_j"] []) (mW : mg "_law_weight" = some (.ref fW)) : FnOk P w K mg base CX0 2 f fd ["_law_j"] spLeaf := by
  refine F.ok scLeaf (fun vs H Q E h => ?_) (fun cdv A outer s H vs Q E hrW h => ?_)
  · obtain ⟨j, rfl, _⟩ := h
    rfl
  obtain ⟨j, rfl, hj, q⟩ := h
  refine ⟨_, (pss_one (ps_ret (pe_tup (pa_cons (pe_ix ix_str pe_str (pv 0) (fun _ _ => rfl)) (pa_cons (pe_comp ["_law_n"] [("_law_j", 0)] (CompOk.by_look rfl rfl (by decide +kernel) (fun _ _ z => z) rfl (fun p hp => by have e := List.mem_singleton.mp hp; subst e; exact ⟨rfl, rfl, rfl⟩)) (pi_range1 rfl mr (pa_cons pe_int pa_nil)) (fun C fp s H => pg_name (i := 0) (show ([("_law_n" : Str), ("_law_j" : Str)] : List Str).Nodup by decide +kernel) rfl (Or.inl rfl)) (fun C fp s H => pts_nil) (fun C fp s H => (pe_cmpR op_eq (pe_op op_mod (pe_op op_fdiv (pv 0) (pe_call GW hrW rfl mW kW bW .nil pass0 (pa_cons (pv 1) pa_nil))) pe_int) pe_int (nomark _)))) pa_nil))))), ?_⟩
  refine ⟨_, rfl, "abcd", _, _, rfl, rfl, (by decide +kernel), abcd_at hj, 16, rfl, by decide, by decide, comp_range (lo := 0) (n := (16 : Int).toNat) (Q := fun x H1 => ([.str (ltr j), x] : List V).length ≤ sizeLine ∧ ∀ p, H1 p = none → Q (.ref p) (upd H1 p (.tup [.str (ltr j), x]))) (fun i σ ys H2 => ∃ o, σ = [o, some (.int j)] ∧ Same H H2 ∧ i ≤ 16 ∧ ys = ((List.range i).map (val (.lt j))).map V.bl)
    ⟨none, rfl, Same.refl _, Nat.zero_le _, rfl⟩ (fun i σ ys H2 ⟨o, _, _, hi, hy⟩ => ?_) ?_ ?_⟩
  · rw [hy, List.length_map, List.length_map, List.length_range]
    exact small (by omega)
  · rintro i σ ys H2 hi ⟨o, rfl, e2, _, rfl⟩
    refine nameYes ?_
    refine ⟨_, rfl, _, rfl, j, rfl, hj, fun H3 e3 => ?_⟩
    refine ⟨_, _, rfl, rfl, wt_small hj, _, _, rfl, rfl, (by show (0 : Int) < 2; decide), rfl, ?_⟩
    refine ⟨_, rfl, e2.trans e3, hi, ?_⟩
    have e : decide (V.int ((0 + (i : Int)) / ((2 ^ j : Nat) : Int) % 2) = V.int 1) = bit j i := by rw [Int.zero_add]; exact bit_int j i
    show _ ++ [V.bl (decide (V.int ((0 + (i : Int)) / ((2 ^ j : Nat) : Int) % 2) = V.int 1))] = _
    rw [e, List.range_succ, List.map_append, List.map_append]
    rfl
  · rintro σ ys H2 ⟨o, rfl, e2, _, rfl⟩ D hD
    refine ⟨(by show 2 ≤ sizeLine; decide), fun p hp => ?_⟩
    have npd : D ≠ p := ne_of_none (upd_same (H := H2) (o := .lst (((List.range (16 : Int).toNat).map (val (.lt j))).map V.bl))) hp
    refine q (.ref p) D _ ((e2.trans (same_new hD _)).trans (same_new hp _)) (e2.free hD) ⟨p, _, rfl, upd_same, ⟨hj, rfl⟩, ?_⟩
    rw [upd_ne npd, upd_same]
    rfl
/-! ### turned -/
def spTurned : Sp := fun vs H Q _ => ∃ (s : S) (v : V) (c : Addr), vs = [v] ∧ Pair H s v c ∧ ∀ v' c' H', Same H H' → H c' = none → Pair H' (.no s) v' c' → Q v' H'
theorem scTurned : FnScope ["_law_one"] ["_law_one"] (defScope sTurned) := ⟨rfl, rfl, rfl, by decide +kernel, rfl, by decide +kernel, by decide +kernel⟩
theorem ok_turned {f : Addr} {fd : FuncData} (F : Fun K "_law_turned" "_law_turned" sTurned f fd) : FnOk P w K mg base CX0 1 f fd ["_law_one"] spTurned := by
  refine F.ok scTurned (fun vs H Q E h => ?_) (fun cdv A outer s H vs Q E hr h => ?_)
  · obtain ⟨s, v, c, rfl, _⟩ := h
    rfl
  obtain ⟨s0, v, c, rfl, ⟨a, u, rfl, ha, hR, hc⟩, q⟩ := h
  refine ⟨_, (pss_one (ps_ret (pe_tup (pa_cons (pe_tup (pa_cons pe_str (pa_cons (pe_ix ix_tup (pv 0) pe_int (fun _ _ => rfl)) pa_nil))) (pa_cons (pe_comp ["_law_so"] [] (CompOk.by_look rfl rfl (by decide +kernel) (fun _ _ z => z) rfl (fun p hp => absurd hp (by simp))) (pi_list (pe_ix ix_tup (pv 0) pe_int (fun _ _ => rfl))) (fun C fp s H => pg_name (i := 0) (show ([("_law_so" : Str)] : List Str).Nodup by decide +kernel) rfl (Or.inl rfl)) (fun C fp s H => pts_nil) (fun C fp s H => (pe_not (pv 0)))) pa_nil))))), ?_⟩
  refine ⟨_, rfl, a, _, 0, u, rfl, rfl, SqT.of ha, atI_nat (j := 0) rfl, (by show 2 ≤ sizeLine; decide), fun p hp => ?_⟩
  have e1 := same_new hp (.tup [.str "not", u])
  refine ⟨_, rfl, a, _, 1, .ref c, rfl, rfl, SqT.of (e1 _ _ ha), atI_nat (j := 1) rfl, c, rfl, ⟨_, SqL.of (e1 _ _ hc)⟩, comp_list (K := K) (a := c) (xs := (tab s0).map V.bl) (Q := fun x H1 => ([.ref p, x] : List V).length ≤ sizeLine ∧ ∀ p2, H1 p2 = none → Q (.ref p2) (upd H1 p2 (.tup [.ref p, x]))) (fun i σ ys H2 => ∃ o, σ = [o] ∧ Same (upd H p (.tup [.str "not", u])) H2 ∧ i ≤ 16 ∧ ys = ((tab s0).take i).map fun b => V.bl (!b))
    ⟨none, rfl, Same.refl _, Nat.zero_le _, rfl⟩ (fun i σ ys H2 ⟨o, _, e2, hi, hy⟩ => ⟨?_, SqL.of (e2 _ _ (e1 _ _ hc))⟩) ?_ ?_⟩
  · rw [hy, List.length_map, List.length_take]
    exact small (by omega)
  · rintro i x σ ys H2 hi ⟨o, rfl, e2, _, rfl⟩
    have hil : i < (tab s0).length := by
      have := (List.getElem?_eq_some_iff.mp hi).1
      rwa [List.length_map] at this
    have hi16 : i < 16 := by rw [tab_len] at hil; exact hil
    obtain ⟨t, ht, rfl⟩ : ∃ t, (tab s0)[i]? = some t ∧ x = V.bl t := by
      rw [List.getElem?_map, List.getElem?_eq_getElem hil] at hi
      exact ⟨_, List.getElem?_eq_getElem hil, (Option.some.inj hi).symm⟩
    refine nameYes ?_
    refine ⟨_, rfl, _, rfl, ?_⟩
    refine ⟨_, rfl, e2, hi16, ?_⟩
    rw [List.take_succ, ht]
    simp
  · rintro σ ys H2 ⟨o, rfl, e2, _, rfl⟩ D hD
    refine ⟨(by show 2 ≤ sizeLine; decide), fun p2 hp2 => ?_⟩
    have npd : D ≠ p2 := ne_of_none (upd_same (H := H2) (o := .lst (((tab s0).take ((tab s0).map V.bl).length).map fun b => V.bl (!b)))) hp2
    have e3 := (e2.trans (same_new hD (.lst (((tab s0).take ((tab s0).map V.bl).length).map fun b => V.bl (!b))))).trans (same_new hp2 (.tup [.ref p, .ref D]))
    refine q (.ref p2) D _ (e1.trans e3) ((e1.trans e2).free hD) ⟨p2, _, rfl, upd_same, ⟨p, u, rfl, e3 _ _ upd_same, (hR.mono e1.tk).mono e3.tk⟩, ?_⟩
    rw [upd_ne npd, upd_same, List.length_map, List.take_length]
    simp [tab, val]
/-! ### two -/
def spTwo : Sp := fun vs H Q _ => ∃ (k : Nat) (s1 s2 : S) (v1 v2 : V) (c1 c2 : Addr), vs = [.int k, v1, v2] ∧ k < 3 ∧ Pair H s1 v1 c1 ∧ Pair H s2 v2 c2 ∧ ∀ v c H', Same H H' → H c = none → Pair H' (.two k s1 s2) v c → Q v H'
theorem scTwo : FnScope ["_law_turn", "_law_left", "_law_right", "_law_column", "_law_n"] ["_law_turn", "_law_left", "_law_right"] (defScope sTwo) := ⟨rfl, rfl, rfl, by decide +kernel, rfl, by decide +kernel, by decide +kernel⟩
theorem ok_two {f : Addr} {fd : FuncData} (F : Fun K "_law_two" "_law_two" sTwo f fd) (mr : mg "range" = none) : FnOk P w K mg base CX0 1 f fd ["_law_turn", "_law_left", "_law_right"] spTwo := by
  refine F.ok scTwo (fun vs H Q E h => ?_) (fun cdv A outer s H vs Q E hr h => ?_)
  · obtain ⟨k, s1, s2, v1, v2, c1, c2, rfl, _⟩ := h
    rfl
  obtain ⟨k, s1, s2, v1, v2, c1, c2, rfl, hk, ⟨a1, u1, rfl, ha1, hR1, hc1⟩, ⟨a2, u2, rfl, ha2, hR2, hc2⟩, q⟩ := h
  refine ⟨_, (pss_cons (ps_set (i := 3) scTwo.nd rfl (Or.inl rfl) (pe_lst pa_nil))
      (pss_cons (ps_for PassesOwn.never rfl (pi_range1 rfl mr (pa_cons pe_int pa_nil)) (pg_name (i := 4) scTwo.nd rfl (Or.inl rfl)) (pss_one (ps_if (pt_cmpR op_eq (pv 0) pe_int (nomark _)) (pss_one (ps_expr (pe_bm PySem.F.plainAttrs_list PySem.F.slot_list_append PySem.F.type_list_append mt_append (pv 3) (pa_cons (pe_and (pe_ix ix_list (pe_ix ix_tup (pv 1) pe_int (fun _ _ => rfl)) (pv 4) (fun _ _ => rfl)) (pe_one (pe_ix ix_list (pe_ix ix_tup (pv 2) pe_int (fun _ _ => rfl)) (pv 4) (fun _ _ => rfl)))) pa_nil)))) (pss_one (ps_if (pt_cmpR op_eq (pv 0) pe_int (nomark _)) (pss_one (ps_expr (pe_bm PySem.F.plainAttrs_list PySem.F.slot_list_append PySem.F.type_list_append mt_append (pv 3) (pa_cons (pe_or (pe_ix ix_list (pe_ix ix_tup (pv 1) pe_int (fun _ _ => rfl)) (pv 4) (fun _ _ => rfl)) (pe_one (pe_ix ix_list (pe_ix ix_tup (pv 2) pe_int (fun _ _ => rfl)) (pv 4) (fun _ _ => rfl)))) pa_nil)))) (pss_one (ps_expr (pe_bm PySem.F.plainAttrs_list PySem.F.slot_list_append PySem.F.type_list_append mt_append (pv 3) (pa_cons (pe_or (pe_not (pe_ix ix_list (pe_ix ix_tup (pv 1) pe_int (fun _ _ => rfl)) (pv 4) (fun _ _ => rfl))) (pe_one (pe_ix ix_list (pe_ix ix_tup (pv 2) pe_int (fun _ _ => rfl)) (pv 4) (fun _ _ => rfl)))) pa_nil)))))))))
      (pss_one (ps_ret (pe_tup (pa_cons (pe_tup (pa_cons (pe_ix ix_list (pe_lst (pa_cons pe_str (pa_cons pe_str (pa_cons pe_str pa_nil)))) (pv 0) (fun _ _ => rfl)) (pa_cons (pe_ix ix_tup (pv 1) pe_int (fun _ _ => rfl)) (pa_cons (pe_ix ix_tup (pv 2) pe_int (fun _ _ => rfl)) pa_nil)))) (pa_cons (pv 3) pa_nil))))))), ?_⟩
  refine ⟨(by show 0 ≤ sizeLine; decide), fun l hl => ?_⟩
  have e0 := same_new hl (.lst [])
  refine ⟨16, rfl, by decide, by decide, for_range (lo := 0) (n := (16 : Int).toNat) (fun i σ H2 => ∃ o, σ = [some (.int k), some (.ref a1), some (.ref a2), some (.ref l), o] ∧ Same H H2 ∧ i ≤ 16 ∧ H2 l = some (.lst (((List.range i).map (val (.two k s1 s2))).map V.bl)))
    ⟨none, rfl, e0, Nat.zero_le _, upd_same⟩ ?_ ?_⟩
  · rintro i σ H2 hi ⟨o, rfl, e2, _, hl2⟩
    have hi16 : i < 16 := hi
    have r1 : ∀ R : VK, R (.bl (val s1 i)) H2 → tOp (rIxL K) (tOp (rIxT K) (tVar 1) (tC (.int 1))) (tVar 4) [some (.int k), some (.ref a1), some (.ref a2), some (.ref l), some (.int (0 + (i : Int)))] H2 R := fun R h =>
      ⟨_, rfl, a1, _, 1, .ref c1, rfl, rfl, SqT.of (e2 _ _ ha1), atI_nat (j := 1) rfl, _, rfl, c1, _, _, _, rfl, rfl, SqL.of (e2 _ _ hc1), (by rw [Int.zero_add]; exact atI_nat (by rw [List.getElem?_map, tab_get s1 i hi16]; rfl)), h⟩
    have r2 : ∀ R : VK, R (.bl (val s2 i)) H2 → tOp (rIxL K) (tOp (rIxT K) (tVar 2) (tC (.int 1))) (tVar 4) [some (.int k), some (.ref a1), some (.ref a2), some (.ref l), some (.int (0 + (i : Int)))] H2 R := fun R h =>
      ⟨_, rfl, a2, _, 1, .ref c2, rfl, rfl, SqT.of (e2 _ _ ha2), atI_nat (j := 1) rfl, _, rfl, c2, _, _, _, rfl, rfl, SqL.of (e2 _ _ hc2), (by rw [Int.zero_add]; exact atI_nat (by rw [List.getElem?_map, tab_get s2 i hi16]; rfl)), h⟩
    have fin : ∀ b : Bool, b = val (.two k s1 s2) i → rAppend (.ref l) [.bl b] H2 fun _ H1 => ∃ o, ([some (.int k), some (.ref a1), some (.ref a2), some (.ref l), some (.int (0 + (i : Int)))] : St) = [some (.int k), some (.ref a1), some (.ref a2), some (.ref l), o] ∧ Same H H1 ∧ i + 1 ≤ 16 ∧ H1 l = some (.lst (((List.range (i + 1)).map (val (.two k s1 s2))).map V.bl)) := fun b hb => by
      refine ⟨l, _, _, rfl, rfl, hl2, small (by rw [List.length_map, List.length_map, List.length_range]; omega), _, rfl, fun c o hc => by rw [upd_ne (ne_of_none hc hl)]; exact e2 c o hc, hi16, ?_⟩
      rw [upd_same, List.range_succ, List.map_append, List.map_append, hb]
      rfl
    have hk3 : k = 0 ∨ k = 1 ∨ k = 2 := by omega
    refine ⟨_, rfl, rfl, _, rfl, ?_⟩
    rcases hk3 with rfl | rfl | rfl
    · refine ite_bl (fun _ => ?_) (fun z => absurd rfl z)
      refine ⟨_, rfl, .inl ⟨rfl, _, SqL.of hl2⟩, r1 _ ⟨_, rfl, ?_⟩⟩
      cases h1 : val s1 i with
      | true => exact iteT (r2 _ (fin _ (by simp [val, jn, h1])))
      | false => exact iteF (fin _ (by simp [val, jn, h1]))
    · refine ite_bl (fun z => absurd z (by decide)) (fun _ => ?_)
      refine ⟨_, rfl, rfl, _, rfl, ?_⟩
      refine ite_bl (fun _ => ?_) (fun z => absurd rfl z)
      refine ⟨_, rfl, .inl ⟨rfl, _, SqL.of hl2⟩, r1 _ ⟨_, rfl, ?_⟩⟩
      cases h1 : val s1 i with
      | true => exact iteT (fin _ (by simp [val, jn, h1]))
      | false => exact iteF (r2 _ (fin _ (by simp [val, jn, h1])))
    · refine ite_bl (fun z => absurd z (by decide)) (fun _ => ?_)
      refine ⟨_, rfl, rfl, _, rfl, ?_⟩
      refine ite_bl (fun z => absurd z (by decide)) (fun _ => ?_)
      refine ⟨_, rfl, .inl ⟨rfl, _, SqL.of hl2⟩, r1 _ ⟨_, rfl, _, rfl, ?_⟩⟩
      cases h1 : val s1 i with
      | true => exact iteF (r2 _ (fin _ (by simp [val, jn, h1])))
      | false => exact iteT (fin _ (by simp [val, jn, h1]))
  · rintro σ H2 ⟨o, rfl, e2, _, hl2⟩
    refine ⟨(by show 3 ≤ sizeLine; decide), fun p hp => ?_⟩
    have e3 := e2.trans (same_new hp (.lst [.str "and", .str "or", .str "if"]))
    refine ⟨_, rfl, p, _, _, _, rfl, rfl, SqL.of upd_same, wd_at hk, _, rfl, a1, _, 0, u1, rfl, rfl, SqT.of (e3 _ _ ha1), atI_nat (j := 0) rfl, _, rfl, a2, _, 0, u2, rfl, rfl, SqT.of (e3 _ _ ha2), atI_nat (j := 0) rfl, (by show 3 ≤ sizeLine; decide), fun p2 hp2 => ?_⟩
    refine ⟨_, rfl, (by show 2 ≤ sizeLine; decide), fun p3 hp3 => ?_⟩
    have e4 := same_new hp2 (.tup [.str (wd k), u1, u2])
    have e5 := same_new hp3 (.tup [.ref p2, .ref l])
    have e6 := (e3.trans e4).trans e5
    refine q (.ref p3) l _ e6 hl ⟨p3, _, rfl, upd_same, ⟨hk, p2, u1, u2, rfl, e5 _ _ upd_same, hR1.mono e6.tk, hR2.mono e6.tk⟩, ?_⟩
    exact (same_new hp3 _) _ _ ((same_new hp2 _) _ _ ((same_new hp _) _ _ hl2))
end
end FG
namespace FG
open PySem L2
/-- the pile: its list at l, its statements, their size -/
structure Pl (H0 H : Hp) (l : Addr) (vs : List V) (ss : List S) (z : Nat) : Prop where
  ext : Same H0 H
  at_ : H l = some (.lst vs)
  prs : Pairs H l ss vs
  size : szs ss ≤ z
theorem Pl.pop {H0 H : Hp} {l : Addr} {us : List V} {u : V} {ss : List S} {z : Nat} (hl : H0 l = none) (p : Pl H0 H l (us ++ [u]) ss z) :
    ∃ xs x c, ss = xs ++ [x] ∧ Pl H0 (upd H l (.lst (us ++ [u]).dropLast)) l us xs (szs xs) ∧ Pair (upd H l (.lst (us ++ [u]).dropLast)) x u c ∧ c ≠ l := by
  obtain ⟨xs, x, c, e, r1, r2, ne⟩ := p.prs.last
  have tk : Tk H (upd H l (.lst (us ++ [u]).dropLast)) := Tk.lst p.at_
  exact ⟨xs, x, c, e, ⟨fun a o hc => by rw [upd_ne (ne_of_none hc hl)]; exact p.ext a o hc, by rw [upd_same, List.dropLast_concat], r1.mono tk (fun c xs ne h => by rw [upd_ne ne]; exact h), Nat.le_refl _⟩, r2.mono tk (upd_ne ne), ne⟩
theorem Pl.same {H0 H H' : Hp} {l : Addr} {vs : List V} {ss : List S} {z : Nat} (p : Pl H0 H l vs ss z) (e : Same H H') : Pl H0 H' l vs ss z :=
  ⟨p.ext.trans e, e _ _ p.at_, p.prs.mono e.tk (fun _ _ _ h => e _ _ h), p.size⟩
theorem Pl.push {H0 H : Hp} {l c : Addr} {us : List V} {u : V} {xs : List S} {x : S} {z : Nat} (hl : H0 l = none) (p : Pl H0 H l us xs z) (r : Pair H x u c) (ne : c ≠ l) : Pl H0 (upd H l (.lst (us ++ [u]))) l (us ++ [u]) (xs ++ [x]) (z + sz x) := by
  have tk : Tk H (upd H l (.lst (us ++ [u]))) := Tk.lst p.at_
  refine ⟨fun a o hc => by rw [upd_ne (ne_of_none hc hl)]; exact p.ext a o hc, upd_same, (p.prs.mono tk (fun c xs ne h => by rw [upd_ne ne]; exact h)).append (Pairs.one (r.mono tk (upd_ne ne)) ne), ?_⟩
  have := p.size
  rw [szs_append, szs_one]
  omega
theorem Pl.weak {H0 H : Hp} {l : Addr} {vs : List V} {ss : List S} {z z' : Nat} (q : Pl H0 H l vs ss z) (h : z ≤ z') : Pl H0 H l vs ss z' := ⟨q.ext, q.at_, q.prs, Nat.le_trans q.size h⟩
section
variable {P : Program} {w : World} {K : PySem.W.Frag} {mg : Str → Option Value} {base : Heap}
def spBuilt (K : PySem.W.Frag) : Sp := fun vs H Q _ => ∃ (c : Addr) (ns : List Int), vs = [.ref c] ∧ SqL K H c (ns.map V.int) ∧ ns.length ≤ 63 ∧ ∀ s v cc H', Same H H' → Pair H' s v cc → sz s ≤ 1000 → Q v H'
theorem scBuilt : FnScope ["_law_cells", "_law_pile", "_law_k", "_law_turn", "_law_right", "_law_left"] ["_law_cells"] (defScope sBuilt) := ⟨rfl, rfl, rfl, by decide +kernel, rfl, by decide +kernel, by decide +kernel⟩
theorem ok_built {f fT fU fL : Addr} {fd dT dU dL : FuncData} (F : Fun K "_law_built" "_law_built" sBuilt f fd) (ml : mg "len" = none) (mr : mg "range" = none)
    (GT : FnOk P w K mg base CX0 2 fT dT ["_law_turn", "_law_left", "_law_right"] spTwo) (kT : PySem.W.keepIn K (.ref fT) = true) (bT : Binds K dT ["_law_turn", "_law_left", "_law_right"] []) (mT : mg "_law_two" = some (.ref fT))
    (GU : FnOk P w K mg base CX0 1 fU dU ["_law_one"] spTurned) (kU : PySem.W.keepIn K (.ref fU) = true) (bU : Binds K dU ["_law_one"] []) (mU : mg "_law_turned" = some (.ref fU))
    (GL : FnOk P w K mg base CX0 2 fL dL ["_law_j"] spLeaf) (kL : PySem.W.keepIn K (.ref fL) = true) (bL : Binds K dL ["_law_j"] []) (mL : mg "_law_leaf" = some (.ref fL)) : FnOk P w K mg base CX0 3 f fd ["_law_cells"] (spBuilt K) := by
  refine F.ok scBuilt (fun vs H Q E h => ?_) (fun cdv A outer s H vs Q E hr h => ?_)
  · obtain ⟨c, ns, rfl, _⟩ := h
    rfl
  obtain ⟨c, ns, rfl, hS, h63, q⟩ := h
  have hr1 : Room 1 _ := hr.mono (by decide)
  refine ⟨_, (pss_cons (ps_set (i := 1) scBuilt.nd rfl (Or.inl rfl) (pe_lst pa_nil))
      (pss_cons (ps_for PassesOwn.never rfl (pi_range1 rfl mr (pa_cons (pe_callB call_len_seq rfl ml bt_len (pa_cons (pv 0) pa_nil)) pa_nil)) (pg_name (i := 2) scBuilt.nd rfl (Or.inl rfl)) (pss_cons (ps_set (i := 3) scBuilt.nd rfl (Or.inl rfl) (pe_op op_mod (pe_ix ix_list (pv 0) (pv 2) (fun _ _ => rfl)) pe_int))
      (pss_one (ps_if (PW.pt (pw_and (pt_cmpR op_lt (pv 3) pe_int (nomark _)) (pw_and1 (pt_cmpR op_gt (pe_callB call_len_seq rfl ml bt_len (pa_cons (pv 1) pa_nil)) pe_int (nomark _))))) (pss_cons (ps_set (i := 4) scBuilt.nd rfl (Or.inl rfl) (pe_bm0 PySem.F.plainAttrs_list PySem.F.slot_list_pop PySem.F.type_list_pop mt_pop (pv 1)))
      (pss_cons (ps_set (i := 5) scBuilt.nd rfl (Or.inl rfl) (pe_bm0 PySem.F.plainAttrs_list PySem.F.slot_list_pop PySem.F.type_list_pop mt_pop (pv 1)))
      (pss_one (ps_expr (pe_bm PySem.F.plainAttrs_list PySem.F.slot_list_append PySem.F.type_list_append mt_append (pv 1) (pa_cons (pe_call GT hr rfl mT kT bT .nil pass0 (pa_cons (pv 3) (pa_cons (pv 5) (pa_cons (pv 4) pa_nil)))) pa_nil)))))) (pss_one (ps_if (PW.pt (pw_and (pt_cmpR op_eq (pv 3) pe_int (nomark _)) (pw_and1 (pt_cmpR op_gt (pe_callB call_len_seq rfl ml bt_len (pa_cons (pv 1) pa_nil)) pe_int (nomark _))))) (pss_cons (ps_set (i := 5) scBuilt.nd rfl (Or.inl rfl) (pe_bm0 PySem.F.plainAttrs_list PySem.F.slot_list_pop PySem.F.type_list_pop mt_pop (pv 1)))
      (pss_one (ps_expr (pe_bm PySem.F.plainAttrs_list PySem.F.slot_list_append PySem.F.type_list_append mt_append (pv 1) (pa_cons (pe_call GU hr1 rfl mU kU bU .nil pass0 (pa_cons (pv 5) pa_nil)) pa_nil))))) (pss_one (ps_expr (pe_bm PySem.F.plainAttrs_list PySem.F.slot_list_append PySem.F.type_list_append mt_append (pv 1) (pa_cons (pe_call GL hr rfl mL kL bL .nil pass0 (pa_cons (pe_op op_mod (pe_op op_add (pe_op op_fdiv (pe_ix ix_list (pv 0) (pv 2) (fun _ _ => rfl)) pe_int) (pv 2)) pe_int) pa_nil)) pa_nil))))))))))
      (pss_cons (ps_if (pt_cmpR op_eq (pe_callB call_len_seq rfl ml bt_len (pa_cons (pv 1) pa_nil)) pe_int (nomark _)) (pss_one (ps_expr (pe_bm PySem.F.plainAttrs_list PySem.F.slot_list_append PySem.F.type_list_append mt_append (pv 1) (pa_cons (pe_call GL hr rfl mL kL bL .nil pass0 (pa_cons pe_int pa_nil)) pa_nil)))) pss_nil)
      (pss_cons (ps_while PassesOwn.never (pt_cmpR op_gt (pe_callB call_len_seq rfl ml bt_len (pa_cons (pv 1) pa_nil)) pe_int (nomark _)) (pss_cons (ps_set (i := 4) scBuilt.nd rfl (Or.inl rfl) (pe_bm0 PySem.F.plainAttrs_list PySem.F.slot_list_pop PySem.F.type_list_pop mt_pop (pv 1)))
      (pss_cons (ps_set (i := 5) scBuilt.nd rfl (Or.inl rfl) (pe_bm0 PySem.F.plainAttrs_list PySem.F.slot_list_pop PySem.F.type_list_pop mt_pop (pv 1)))
      (pss_one (ps_expr (pe_bm PySem.F.plainAttrs_list PySem.F.slot_list_append PySem.F.type_list_append mt_append (pv 1) (pa_cons (pe_call GT hr rfl mT kT bT .nil pass0 (pa_cons (pe_op op_mod (pe_callB call_len_seq rfl ml bt_len (pa_cons (pv 1) pa_nil)) pe_int) (pa_cons (pv 5) (pa_cons (pv 4) pa_nil)))) pa_nil)))))))
      (pss_one (ps_ret (pe_bm0 PySem.F.plainAttrs_list PySem.F.slot_list_pop PySem.F.type_list_pop mt_pop (pv 1)))))))), ?_⟩
  refine ⟨(by show 0 ≤ sizeLine; decide), fun l hl => ?_⟩
  have P0 : Pl H (upd H l (.lst [])) l [] [] 0 := ⟨same_new hl _, upd_same, rfl, Nat.le_refl _⟩
  have hlen : (((ns.map V.int).length : Nat) : Int).toNat = ns.length := by simp
  -- from a pile of two or more, the two topmost are put together
  have two : ∀ {H2 : Hp} {us : List V} {u v' : V} {ss : List S} {z : Nat}, Pl H H2 l (us ++ [u] ++ [v']) ss z → ∃ (xs : List S) (y x : S) (c1 c2 : Addr), ss = xs ++ [y] ++ [x] ∧ (upd H2 l (.lst (us ++ [u] ++ [v']).dropLast)) l = some (.lst (us ++ [u])) ∧
      Pl H (upd (upd H2 l (.lst (us ++ [u] ++ [v']).dropLast)) l (.lst (us ++ [u]).dropLast)) l us xs (szs xs) ∧ Pair (upd (upd H2 l (.lst (us ++ [u] ++ [v']).dropLast)) l (.lst (us ++ [u]).dropLast)) y u c1 ∧ Pair (upd (upd H2 l (.lst (us ++ [u] ++ [v']).dropLast)) l (.lst (us ++ [u]).dropLast)) x v' c2 := by
    intro H2 us u v' ss z PL
    obtain ⟨ys, x, cx, rfl, P1, px, nx⟩ := PL.pop hl
    obtain ⟨xs, y, cy, rfl, P2, py, _⟩ := P1.pop hl
    exact ⟨xs, y, x, cy, cx, rfl, P1.at_, P2, py, px.mono (Tk.lst P1.at_) (upd_ne nx)⟩
  refine ⟨_, rfl, c, _, rfl, .inl ((same_new hl _).seq hS), _, rfl, (by rw [List.length_map]; omega), (by rw [List.length_map]; omega),
    for_range (lo := 0) (n := (((ns.map V.int).length : Nat) : Int).toNat) (fun i σ H2 => ∃ (vs : List V) (ss : List S) (o2 o3 o4 o5 : Option V), σ = [some (.ref c), some (.ref l), o2, o3, o4, o5] ∧ vs.length ≤ i ∧ Pl H H2 l vs ss (2 * i))
      ⟨[], [], none, none, none, none, rfl, Nat.le_refl _, P0⟩ ?_ ?_⟩
  · rintro i σ H2 hi ⟨vs, ss, o2, o3, o4, o5, rfl, g2, PL⟩
    rw [hlen] at hi
    have hc2 : SqL K H2 c (ns.map V.int) := PL.ext.seq hS
    have hx : (ns.map V.int)[i]? = some (.int ns[i]) := by rw [List.getElem?_map, List.getElem?_eq_getElem hi]; rfl
    have hx' : atI (ns.map V.int) (0 + (i : Int)) = some (.int ns[i]) := by rw [Int.zero_add]; exact atI_nat hx
    refine ⟨_, rfl, _, rfl, c, _, _, _, rfl, rfl, hc2, hx', _, _, rfl, rfl, (by show (0 : Int) < 8; decide), ?_⟩
    refine ⟨_, rfl, _, _, rfl, rfl, _, rfl, ?_⟩
    refine iteAnd (c2 := decide ((1 : Int) < (vs.length : Int))) (fun R hR => ⟨_, rfl, l, vs, rfl, .inl (SqL.of PL.at_), _, _, rfl, rfl, _, rfl, hR⟩) ?_
    refine ite2 (fun ca => ?_) (fun ca => ?_)
    · rw [Bool.and_eq_true] at ca
      have c1 : ns[i] % 8 < 3 := of_decide_eq_true ca.1
      have c2 : (1 : Int) < (vs.length : Int) := of_decide_eq_true ca.2
      obtain ⟨us, u, v', rfl⟩ := two_of (ws := vs) (by omega)
      refine ⟨_, rfl, .inl ⟨rfl, _, SqL.of PL.at_⟩, l, _, v', rfl, rfl, PL.at_, snoc_get (us ++ [u]) v', ?_⟩
      obtain ⟨xs, y, x, cy, cx, rfl, h1, P2, py, px⟩ := two PL
      refine ⟨_, rfl, .inl ⟨rfl, _, SqL.of h1⟩, l, _, u, rfl, rfl, h1, snoc_get us u, ?_⟩
      have ek : ns[i] % 8 = (((ns[i] % 8).toNat : Nat) : Int) := by omega
      refine ⟨_, rfl, .inl ⟨rfl, _, SqL.of P2.at_⟩, _, rfl, _, rfl, _, rfl, (ns[i] % 8).toNat, y, x, u, v', cy, cx, (by show ([V.int (ns[i] % 8), u, v'] : List V) = _; rw [← ek]), by omega, py, px, fun w cw H3 e3 hcw pw => ?_⟩
      have P3 := P2.same e3
      have hul : us.length + 2 ≤ i := by simp at g2; omega
      refine ⟨l, us, w, rfl, rfl, P3.at_, small (by omega), ?_⟩
      refine ⟨us ++ [w], _, _, _, _, _, rfl, by simp; omega, (P3.push hl pw (fun z => by rw [z, P2.at_] at hcw; cases hcw)).weak ?_⟩
      have z := PL.size
      rw [szs_append, szs_append, szs_one, szs_one] at z
      simp only [sz]
      omega
    · refine ⟨_, rfl, rfl, _, rfl, ?_⟩
      refine iteAnd (c2 := decide ((0 : Int) < (vs.length : Int))) (fun R hR => ⟨_, rfl, l, vs, rfl, .inl (SqL.of PL.at_), _, _, rfl, rfl, _, rfl, hR⟩) ?_
      refine ite2 (fun cb => ?_) (fun cb => ?_)
      · rw [Bool.and_eq_true] at cb
        have c2 : (0 : Int) < (vs.length : Int) := of_decide_eq_true cb.2
        obtain ⟨us, u, rfl⟩ := snoc_of (ws := vs) (by omega)
        refine ⟨_, rfl, .inl ⟨rfl, _, SqL.of PL.at_⟩, l, _, u, rfl, rfl, PL.at_, snoc_get us u, ?_⟩
        obtain ⟨xs, x, cx, rfl, P2, px, _⟩ := PL.pop hl
        refine ⟨_, rfl, .inl ⟨rfl, _, SqL.of P2.at_⟩, _, rfl, x, u, cx, rfl, px, fun w cw H3 e3 hcw pw => ?_⟩
        have P3 := P2.same e3
        have hul : us.length + 1 ≤ i := by simp at g2; omega
        refine ⟨l, us, w, rfl, rfl, P3.at_, small (by omega), ?_⟩
        refine ⟨us ++ [w], _, _, _, _, _, rfl, by simp; omega, (P3.push hl pw (fun z => by rw [z, P2.at_] at hcw; cases hcw)).weak ?_⟩
        have z := PL.size
        rw [szs_append, szs_one] at z
        simp only [sz]
        omega
      · have ej : (ns[i] / 8 + (0 + (i : Int))) % 4 = ((((ns[i] / 8 + (0 + (i : Int))) % 4).toNat : Nat) : Int) := by omega
        refine ⟨_, rfl, .inl ⟨rfl, _, SqL.of PL.at_⟩, _, rfl, _, rfl, c, _, _, _, rfl, rfl, hc2, hx', _, _, rfl, rfl, ⟨by decide, by decide⟩, _, rfl, _, _, rfl, rfl, _, _, rfl, rfl, (by show (0 : Int) < 4; decide),
          ((ns[i] / 8 + (0 + (i : Int))) % 4).toNat, (by show ([V.int ((ns[i] / 8 + (0 + (i : Int))) % 4)] : List V) = _; rw [← ej]), by omega, fun w cw H3 e3 hcw pw => ?_⟩
        have P3 := PL.same e3
        refine ⟨l, vs, w, rfl, rfl, P3.at_, small (by omega), ?_⟩
        refine ⟨vs ++ [w], _, _, _, _, _, rfl, by simp; omega, (P3.push hl pw (fun z => by rw [z, PL.at_] at hcw; cases hcw)).weak ?_⟩
        simp only [sz]
        omega
  · rintro σ H2 ⟨vs, ss, o2, o3, o4, o5, rfl, g2, PL⟩
    rw [hlen] at g2 PL
    refine ⟨_, rfl, l, vs, rfl, .inl (SqL.of PL.at_), rfl, _, rfl, ?_⟩
    refine ite_bl (fun ca => ?none_) (fun ca => ?some_)
    case' none_ =>
      refine ⟨_, rfl, .inl ⟨rfl, _, SqL.of PL.at_⟩, 0, rfl, by omega, fun w cw H3 e3 hcw pw => ?_⟩
      have P3 := PL.same e3
      refine ⟨l, vs, w, rfl, rfl, P3.at_, small (by omega), ?_⟩
      obtain ⟨vs1, ss1, g1, g65, PL1⟩ : ∃ vs1 ss1, 1 ≤ vs1.length ∧ vs1.length ≤ 65 ∧ Pl H (upd H3 l (.lst (vs ++ [w]))) l vs1 ss1 (400 - 2 * vs1.length) :=
        ⟨vs ++ [w], _, by simp, by simp; omega, (P3.push hl pw (fun z => by rw [z, PL.at_] at hcw; cases hcw)).weak (by simp [sz]; omega)⟩
    case' some_ =>
      have hv : 1 ≤ vs.length := by
        rcases Nat.eq_zero_or_pos vs.length with z | z
        · exact absurd (show V.int ((vs.length : Nat) : Int) = V.int 0 by rw [z]; rfl) ca
        · exact z
      obtain ⟨vs1, ss1, g1, g65, PL1⟩ : ∃ vs1 ss1, 1 ≤ vs1.length ∧ vs1.length ≤ 65 ∧ Pl H H2 l vs1 ss1 (400 - 2 * vs1.length) :=
        ⟨vs, ss, hv, by omega, PL.weak (by omega)⟩
    all_goals
      refine ⟨fun m σ H3 => ∃ (vs : List V) (ss : List S) (o4 o5 : Option V), σ = [some (.ref c), some (.ref l), o2, o3, o4, o5] ∧ 1 ≤ vs.length ∧ vs.length ≤ 65 ∧ Pl H H3 l vs ss (400 - 2 * vs.length) ∧ m = vs.length, ⟨_, vs1, ss1, o4, o5, rfl, g1, g65, PL1, rfl⟩, ?_⟩
      clear PL PL1 g1 g65 g2
      rintro m σ H3 ⟨vs, ss, o4, o5, rfl, g1, g2, PL, rfl⟩
      refine ⟨_, rfl, l, vs, rfl, .inl (SqL.of PL.at_), _, _, rfl, rfl, _, rfl, ?_⟩
      refine ite2 (fun ca => ?_) (fun ca => ?_)
      · have c2 : (1 : Int) < (vs.length : Int) := of_decide_eq_true ca
        obtain ⟨us, u, v', rfl⟩ := two_of (ws := vs) (by omega)
        refine ⟨_, fun σ' H' h => h, ?_⟩
        refine ⟨_, rfl, .inl ⟨rfl, _, SqL.of PL.at_⟩, l, _, v', rfl, rfl, PL.at_, snoc_get (us ++ [u]) v', ?_⟩
        obtain ⟨xs, y, x, cy, cx, rfl, h1, P2, py, px⟩ := two PL
        refine ⟨_, rfl, .inl ⟨rfl, _, SqL.of h1⟩, l, _, u, rfl, rfl, h1, snoc_get us u, ?_⟩
        have ek : (us.length : Int) % 3 = ((((us.length : Int) % 3).toNat : Nat) : Int) := by omega
        refine ⟨_, rfl, .inl ⟨rfl, _, SqL.of P2.at_⟩, _, rfl, l, us, rfl, .inl (SqL.of P2.at_), _, _, rfl, rfl, (by show (0 : Int) < 3; decide), _, rfl, _, rfl, ((us.length : Int) % 3).toNat, y, x, u, v', cy, cx, (by show ([V.int ((us.length : Int) % 3), u, v'] : List V) = _; rw [← ek]), by omega, py, px, fun w cw H4 e4 hcw pw => ?_⟩
        have P3 := P2.same e4
        have hul : us.length + 2 ≤ 65 := by simp at g2; omega
        refine ⟨l, us, w, rfl, rfl, P3.at_, small (by omega), ?_⟩
        refine ⟨us.length + 1, by simp, us ++ [w], _, _, _, rfl, by simp, by simp; omega, (P3.push hl pw (fun z => by rw [z, P2.at_] at hcw; cases hcw)).weak ?_, by simp⟩
        have z := PL.size
        rw [szs_append, szs_append, szs_one, szs_one] at z
        simp only [sz]
        simp at z ⊢
        omega
      · have c2 : ¬ (1 : Int) < (vs.length : Int) := of_decide_eq_false (Bool.eq_false_iff.mpr ca)
        obtain ⟨us, u, rfl⟩ := snoc_of (ws := vs) g1
        have z : us = [] := List.length_eq_zero_iff.mp (by simp at c2; omega)
        subst z
        refine ⟨_, rfl, .inl ⟨rfl, _, SqL.of PL.at_⟩, l, _, u, rfl, rfl, PL.at_, snoc_get [] u, ?_⟩
        obtain ⟨xs, x, cx, rfl, P2, px, _⟩ := PL.pop hl
        have z2 : xs = [] := List.length_eq_zero_iff.mp (by have := P2.prs.length; simp at this; exact this.symm ▸ rfl)
        subst z2
        have z4 := PL.size
        rw [List.nil_append, szs_one] at z4
        exact q x u cx _ P2.ext px (by omega)
end
end FG
namespace FG
open PySem L2
/-! ### ways -/
abbrev Wy := List (Nat × Bool)
def StepAt (H : Hp) (x : Nat × Bool) (v : V) : Prop := ∃ a, v = .ref a ∧ H a = some (.tup [.str (ltr x.1), .bl x.2])
def WayAt (H : Hp) (x : Wy) (v : V) : Prop := ∃ l ps, v = .ref l ∧ H l = some (.lst ps) ∧ All2 (StepAt H) x ps
theorem WayAt.same {H H' : Hp} (e : Same H H') {x : Wy} {v : V} (h : WayAt H x v) : WayAt H' x v := by
  obtain ⟨l, ps, rfl, hl, hA⟩ := h
  exact ⟨l, ps, rfl, e _ _ hl, hA.mono fun x y ⟨a, e1, h1⟩ => ⟨a, e1, e _ _ h1⟩⟩
def rising : Nat → Wy → Prop
  | _, [] => True
  | lo, (j, _) :: r => lo ≤ j ∧ j < 4 ∧ rising (j + 1) r
def wfits (x : Wy) (n : Nat) : Bool := x.all fun y => bit y.1 n == y.2
theorem All2.get {α β : Type} {R : α → β → Prop} : ∀ {xs : List α} {ys : List β}, All2 R xs ys → ∀ {i : Nat} {y : β}, ys[i]? = some y → ∃ x, xs[i]? = some x ∧ R x y
  | _, _, .nil, i, y, h => by simp at h
  | _, _, .cons a b, 0, y, h => by
    simp at h
    subst h
    exact ⟨_, rfl, a⟩
  | _, _, .cons a b, i + 1, y, h => by
    obtain ⟨x, hx, r⟩ := b.get (i := i) (by simpa using h)
    exact ⟨x, by simpa using hx, r⟩
section
variable {P : Program} {w : World} {K : PySem.W.Frag} {mg : Str → Option Value} {base : Heap}
/-! ### fits -/
def spFits (K : PySem.W.Frag) : Sp := fun vs H Q _ => ∃ (x : Wy) (v : V) (g : Addr) (zs : List Str) (n : Nat), vs = [v, .ref g] ∧ WayAt H x v ∧ (∀ y ∈ x, y.1 < 4) ∧ SqL K H g (zs.map V.str) ∧ (∀ j, j < 4 → inV (.str (ltr j)) (zs.map V.str) = bit j n) ∧ Q (.bl (wfits x n)) H
theorem scFits : FnScope ["_law_one", "_law_setting", "_law_step"] ["_law_one", "_law_setting"] (defScope sFits) := ⟨rfl, rfl, rfl, by decide +kernel, rfl, by decide +kernel, by decide +kernel⟩
theorem ok_fits {f : Addr} {fd : FuncData} (F : Fun K "_law_fits" "_law_fits" sFits f fd) : FnOk P w K mg base CX0 1 f fd ["_law_one", "_law_setting"] (spFits K) := by
  refine F.ok scFits (fun vs H Q E h => ?_) (fun cdv A outer s H vs Q E hr h => ?_)
  · obtain ⟨x, v, g, zs, n, rfl, _⟩ := h
    rfl
  obtain ⟨x, v, g, zs, n, rfl, ⟨l, ps, rfl, hl, hA⟩, h4, hS, hbit, q⟩ := h
  refine ⟨_, (pss_cons (ps_for PassesOwn.never rfl (pi_list (pv 0)) (pg_name (i := 2) scFits.nd rfl (Or.inl rfl)) (pss_one (ps_if (pt_cmpR op_ne (pe_cmpR op_in_seq (pe_ix ix_tup (pv 2) pe_int (fun _ _ => rfl)) (pv 1) (by with_unfolding_all rfl)) (pe_ix ix_tup (pv 2) pe_int (fun _ _ => rfl)) (nomark _)) (pss_one (ps_ret pe_bl)) pss_nil)))
      (pss_one (ps_ret pe_bl))), ?_⟩
  refine ⟨_, rfl, l, rfl, ⟨_, SqL.of hl⟩, for_list (K := K) (a := l) (xs := ps) (fun i σ H2 => ∃ o, σ = [some (.ref l), some (.ref g), o] ∧ H2 = H ∧ wfits (x.take i) n = true) ⟨none, rfl, rfl, rfl⟩ (fun i σ H2 _ ⟨_, _, e2, _⟩ => e2 ▸ SqL.of hl) ?_ ?_⟩
  · rintro i p σ H2 hi ⟨o, rfl, rfl, hw⟩
    obtain ⟨⟨j, c⟩, hx, a, rfl, ha⟩ := hA.get hi
    have hj : j < 4 := h4 (j, c) (List.mem_of_getElem? hx)
    refine ⟨_, rfl, a, _, 0, _, rfl, rfl, SqT.of ha, atI_nat (j := 0) rfl, _, rfl, g, _, rfl, .inl hS, rfl, flat_strs zs, _, rfl, a, _, 1, _, rfl, rfl, SqT.of ha, atI_nat (j := 1) rfl, rfl, _, rfl, ?_⟩
    rw [show (if false = true then !inV (V.str (ltr j)) (zs.map V.str) else inV (V.str (ltr j)) (zs.map V.str)) = bit j n from hbit j hj]
    have ht : x.take (i + 1) = x.take i ++ [(j, c)] := by rw [List.take_succ, hx]; rfl
    by_cases e : bit j n = c
    · refine iteNS (congrArg V.bl e) ?_
      refine ⟨_, rfl, rfl, ?_⟩
      rw [ht]
      unfold wfits at hw ⊢
      rw [List.all_append, hw]
      simp [e]
    · rw [decide_eq_false (fun z => e (by injection z))]
      refine iteT ?_
      have z : wfits x n = false := by
        unfold wfits
        rw [Bool.eq_false_iff]
        intro z
        rw [List.all_eq_true] at z
        exact e (eq_of_beq (z (j, c) (List.mem_of_getElem? hx)))
      rw [z] at q
      exact q
  · rintro σ H2 ⟨o, rfl, rfl, hw⟩
    have z : x.take ps.length = x := List.take_of_length_le (by rw [hA.length]; exact Nat.le_refl _)
    rw [z] at hw
    rw [hw] at q
    exact q
/-! ### is_way -/
def spIsWay : Sp := fun vs H Q _ => ∃ (x : Wy) (v : V), vs = [v] ∧ WayAt H x v ∧ rising 0 x ∧ ∀ H', Same H H' → Q (.bl true) H'
theorem scIsWay : FnScope ["_law_found", "_law_ahead", "_law_step"] ["_law_found"] (defScope sIsWay) := ⟨rfl, rfl, rfl, by decide +kernel, rfl, by decide +kernel, by decide +kernel⟩
theorem ok_isway {f : Addr} {fd : FuncData} (F : Fun K "_law_is_way" "_law_is_way" sIsWay f fd) (ml : mg "len" = none) (mI : mg "isinstance" = none) (mLi : mg "list" = none) (mT : mg "tuple" = none) (mSt : mg "str" = none) (mB : mg "bool" = none) : FnOk P w K mg base CX0 1 f fd ["_law_found"] spIsWay := by
  refine F.ok scIsWay (fun vs H Q E h => ?_) (fun cdv A outer s H vs Q E hr h => ?_)
  · obtain ⟨x, v, rfl, _⟩ := h
    rfl
  obtain ⟨x, v, rfl, ⟨l, ps, rfl, hl, hA⟩, hris, q⟩ := h
  refine ⟨_, (pss_cons (ps_if (pt_not (pt_val (pe_callB call_isinst rfl mI bt_isi (pa_cons (pv 0) (pa_cons (pe_bltn (v := .ty "list") rfl mLi bt_list rfl) pa_nil))))) (pss_one (ps_ret pe_bl)) pss_nil)
      (pss_cons (ps_set (i := 1) scIsWay.nd rfl (Or.inl rfl) (pe_un un_neg pe_int))
      (pss_cons (ps_for PassesOwn.never rfl (pi_list (pv 0)) (pg_name (i := 2) scIsWay.nd rfl (Or.inl rfl)) (pss_cons (ps_if (PW.pt (pw_or (pt_not (pt_val (pe_callB call_isinst rfl mI bt_isi (pa_cons (pv 2) (pa_cons (pe_bltn (v := .ty "tuple") rfl mT bt_tuple rfl) pa_nil))))) (pw_or1 (pt_cmpR op_ne (pe_callB call_len_seq rfl ml bt_len (pa_cons (pv 2) pa_nil)) pe_int (nomark _))))) (pss_one (ps_ret pe_bl)) pss_nil)
      (pss_cons (ps_if (PW.pt (pw_or (pt_not (pt_val (pe_callB call_isinst rfl mI bt_isi (pa_cons (pe_ix ix_tup (pv 2) pe_int (fun _ _ => rfl)) (pa_cons (pe_bltn (v := .ty "str") rfl mSt bt_str rfl) pa_nil))))) (pw_or1 (pt_not (pt_val (pe_callB call_isinst rfl mI bt_isi (pa_cons (pe_ix ix_tup (pv 2) pe_int (fun _ _ => rfl)) (pa_cons (pe_bltn (v := .ty "bool") rfl mB bt_bool rfl) pa_nil)))))))) (pss_one (ps_ret pe_bl)) pss_nil)
      (pss_cons (ps_if (PW.pt (pw_or (pt_cmpR op_notIn_seq (pe_ix ix_tup (pv 2) pe_int (fun _ _ => rfl)) (pe_lst (pa_cons pe_str (pa_cons pe_str (pa_cons pe_str (pa_cons pe_str pa_nil))))) (by with_unfolding_all rfl)) (pw_or1 (pt_cmpR op_le (pe_bm PySem.F.plainAttrs_str PySem.F.slot_str_index PySem.F.type_str_index mt_index pe_str (pa_cons (pe_ix ix_tup (pv 2) pe_int (fun _ _ => rfl)) pa_nil)) (pv 1) (nomark _))))) (pss_one (ps_ret pe_bl)) pss_nil)
      (pss_one (ps_set (i := 1) scIsWay.nd rfl (Or.inl rfl) (pe_bm PySem.F.plainAttrs_str PySem.F.slot_str_index PySem.F.type_str_index mt_index pe_str (pa_cons (pe_ix ix_tup (pv 2) pe_int (fun _ _ => rfl)) pa_nil))))))))
      (pss_one (ps_ret pe_bl))))), ?_⟩
  refine ⟨_, rfl, _, _, _, _, rfl, TyOf.lst hl, kit_same _ _, _, rfl, iteF ?_⟩
  refine ⟨_, rfl, ?_⟩
  refine ⟨_, rfl, l, rfl, ⟨_, SqL.of hl⟩, for_list (K := K) (a := l) (xs := ps) (fun i σ H2 => ∃ (o : Option V) (lo : Nat), σ = [some (.ref l), some (.int ((lo : Int) - 1)), o] ∧ Same H H2 ∧ rising lo (x.drop i)) ⟨none, 0, rfl, Same.refl _, hris⟩ (fun i σ H2 _ ⟨_, _, _, e2, _⟩ => SqL.of (e2 _ _ hl)) ?_ ?_⟩
  · rintro i p σ H2 hi ⟨o, lo, rfl, e2, hw⟩
    obtain ⟨⟨j, c⟩, hx, a, rfl, ha0⟩ := hA.get hi
    have ha := e2 _ _ ha0
    obtain ⟨hil, hxi⟩ := List.getElem?_eq_some_iff.mp hx
    rw [List.drop_eq_getElem_cons hil, hxi] at hw
    obtain ⟨hlo, hj, hw⟩ := hw
    refine ⟨_, rfl, _, _, _, _, rfl, TyOf.tup ha, kit_same _ _, _, rfl, iteF ?_⟩
    refine ⟨_, rfl, a, _, rfl, .inr (SqT.of ha), rfl, _, rfl, iteNS rfl ?_⟩
    refine ⟨_, rfl, a, _, 0, _, rfl, rfl, SqT.of ha, atI_nat (j := 0) rfl, _, _, _, _, rfl, TyOf.str _, kit_same _ _, _, rfl, iteF ?_⟩
    refine ⟨_, rfl, a, _, 1, _, rfl, rfl, SqT.of ha, atI_nat (j := 1) rfl, _, _, _, _, rfl, TyOf.bl _, kit_same _ _, _, rfl, iteF ?_⟩
    refine ⟨_, rfl, a, _, 0, _, rfl, rfl, SqT.of ha, atI_nat (j := 0) rfl, (by show 4 ≤ sizeLine; decide), fun p5 hp5 => ⟨p5, _, rfl, .inl (SqL.of upd_same), rfl, rfl, _, rfl, ?_⟩⟩
    rw [show (if true = true then !inV (V.str (ltr j)) [.str "a", .str "b", .str "c", .str "d"] else inV (V.str (ltr j)) [.str "a", .str "b", .str "c", .str "d"]) = false from congrArg not (ltr_in hj)]
    refine iteF ?_
    have e5 : Same H2 (upd H2 p5 (.lst [.str "a", .str "b", .str "c", .str "d"])) := same_new hp5 _
    have ha5 := e5 _ _ ha
    generalize upd H2 p5 (.lst [.str "a", .str "b", .str "c", .str "d"]) = H5 at e5 ha5 ⊢
    obtain ⟨rest, ho⟩ := occ_at hj
    refine ⟨rfl, _, rfl, a, _, 0, _, rfl, rfl, SqT.of ha5, atI_nat (j := 0) rfl, _, _, j, rest, rfl, rfl, ho, _, rfl, _, _, rfl, rfl, _, rfl, ite_bl (fun c => absurd c (by omega)) (fun _ => ?_)⟩
    refine ⟨rfl, _, rfl, a, _, 0, _, rfl, rfl, SqT.of ha5, atI_nat (j := 0) rfl, _, _, j, rest, rfl, rfl, ho, ?_⟩
    refine ⟨some (.ref a), j + 1, ?_, e2.trans e5, hw⟩
    rw [show (((j + 1 : Nat) : Int) - 1) = (j : Int) by omega]
    rfl
  · rintro σ H2 ⟨o, lo, rfl, e2, _⟩
    exact q _ e2
end
end FG
namespace FG
open PySem L2
/-! ### every setting -/
def SetL (H : Hp) (js : List Nat) (v : V) : Prop := ∃ a, v = .ref a ∧ H a = some (.lst (lts js))
theorem SetL.same {H H' : Hp} (e : Same H H') {js : List Nat} {v : V} (h : SetL H js v) : SetL H' js v := by
  obtain ⟨a, e1, h1⟩ := h
  exact ⟨a, e1, e _ _ h1⟩
theorem sets_of {H : Hp} : ∀ {xs : List (List Nat)} {vs : List V}, (∀ js ∈ xs, ∀ j, j < 4 → inV (.str (ltr j)) ((js.map ltr).map V.str) = bit j (wsum js)) → All2 (SetL H) xs vs → ∃ gs : List Addr, vs = gs.map V.ref ∧ SetsAt H gs (xs.map wsum)
  | _, _, _, .nil => ⟨[], rfl, .nil⟩
  | _, _, hb, .cons ⟨a, e, h⟩ t => by
    obtain ⟨gs, e2, hs⟩ := sets_of (fun js hj => hb js (List.mem_cons_of_mem _ hj)) t
    subst e e2
    refine ⟨a :: gs, rfl, .cons ⟨_, ?_, hb _ (List.mem_cons_self ..)⟩ hs⟩
    rw [h, List.map_map]
    rfl
theorem All2.at {α β : Type} {R : α → β → Prop} : ∀ {xs : List α} {ys : List β}, All2 R xs ys → ∀ {i : Nat} {y : β}, ys[i]? = some y → ∃ x, xs[i]? = some x ∧ R x y
  | _, _, .nil, i, y, h => by simp at h
  | _, _, .cons a b, 0, y, h => by
    simp at h
    subst h
    exact ⟨_, rfl, a⟩
  | _, _, .cons a b, i + 1, y, h => by
    obtain ⟨x, hx, r⟩ := b.at (i := i) (by simpa using h)
    exact ⟨x, by simpa using hx, r⟩
theorem letter_at {i : Nat} {x : V} (hi : i < 4) (h : ([.str "a", .str "b", .str "c", .str "d"] : List V)[4 - 1 - i]? = some x) : x = .str (ltr (3 - i)) := by
  have : i = 0 ∨ i = 1 ∨ i = 2 ∨ i = 3 := by omega
  rcases this with rfl | rfl | rfl | rfl <;> exact (Option.some.inj h).symm
section
variable {P : Program} {w : World} {K : PySem.W.Frag} {mg : Str → Option Value} {base : Heap}
def spEvery : Sp := fun vs H Q _ => vs = [] ∧ ∀ l us H', Same H H' → H' l = some (.lst us) → All2 (SetL H') (es 4) us → Q (.ref l) H'
theorem scEvery : FnScope ["settings", "letter"] [] (defScope sEverySetting) := ⟨rfl, rfl, rfl, by decide +kernel, rfl, by decide +kernel, by decide +kernel⟩
theorem ok_every {f aL : Addr} {fd : FuncData} (F : Fun K "every_setting" "every_setting" sEverySetting f fd) (mRe : mg "reversed" = none) (mL : mg "LETTERS" = some (.ref aL)) (kL : TupK K aL [.str "a", .str "b", .str "c", .str "d"]) : FnOk P w K mg base CX0 1 f fd [] spEvery := by
  refine F.ok scEvery (fun vs H Q E h => ?_) (fun cdv A outer s H vs Q E hr h => ?_)
  · obtain ⟨rfl, _⟩ := h
    rfl
  obtain ⟨rfl, q⟩ := h
  refine ⟨_, (pss_cons (ps_set (i := 0) scEvery.nd rfl (Or.inl rfl) (pe_lst (pa_cons (pe_lst pa_nil) pa_nil)))
      (pss_cons (ps_for PassesOwn.never rfl (pi_rev rfl mRe (pa_cons (pe_glob (v := .ref aL) rfl mL rfl) pa_nil)) (pg_name (i := 1) scEvery.nd rfl (Or.inr rfl)) (pss_one (ps_set (i := 0) scEvery.nd rfl (Or.inl rfl) (pe_op op_cat (pe_comp ["setting"] [("letter", 1)] (CompOk.by_look rfl rfl (by decide +kernel) (fun _ _ z => z) rfl (fun p hp => by have e := List.mem_singleton.mp hp; subst e; exact ⟨rfl, rfl, rfl⟩)) (pi_list (pv 0)) (fun C fp s H => pg_name (i := 0) (show ([("setting" : Str), ("letter" : Str)] : List Str).Nodup by decide +kernel) rfl (Or.inl rfl)) (fun C fp s H => pts_nil) (fun C fp s H => (pe_op op_cat (pe_lst (pa_cons (pv 1) pa_nil)) (pv 0)))) (pv 0)))))
      (pss_one (ps_ret (pv 0))))), ?_⟩
  refine ⟨(by show 0 ≤ sizeLine; decide), fun l0 hl0 => ⟨(by show 1 ≤ sizeLine; decide), fun g0 hg0 => ?_⟩⟩
  have e0 : Same H (upd (upd H l0 (.lst [])) g0 (.lst [.ref l0])) := (same_new hl0 _).trans (same_new hg0 _)
  have s0 : SetL (upd (upd H l0 (.lst [])) g0 (.lst [.ref l0])) [] (.ref l0) := ⟨l0, rfl, (same_new hg0 _) _ _ upd_same⟩
  have h0 : (upd (upd H l0 (.lst [])) g0 (.lst [.ref l0])) g0 = some (.lst [.ref l0]) := upd_same
  generalize upd (upd H l0 (.lst [])) g0 (.lst [.ref l0]) = H1 at e0 s0 h0 ⊢
  obtain ⟨Pv, hPv⟩ : ∃ Pv : Nat → St → Hp → Prop, Pv = fun i σ H2 => ∃ (g : Addr) (us : List V) (o : Option V), σ = [some (.ref g), o] ∧ Same H H2 ∧ H2 g = some (.lst us) ∧ All2 (SetL H2) (es i) us := ⟨_, rfl⟩
  refine ⟨aL, _, rfl, kL.sq, by decide, for_rev (K := K) (a := aL) (xs := [.str "a", .str "b", .str "c", .str "d"]) (fun H => kL.sq) Pv (by rw [hPv]; exact ⟨g0, _, none, rfl, e0, h0, .cons s0 .nil⟩) ?_ ?_⟩
  · intro i x σ H2 hi hx hp
    have hi4 : i < 4 := hi
    rw [hPv] at hp
    obtain ⟨g, us, o, rfl, e2, hg, hA⟩ := hp
    have hx2 := letter_at hi4 hx
    subst hx2
    have hul := hA.length
    rw [es_len] at hul
    have hp16 : 2 ^ i ≤ 2 ^ 4 := Nat.pow_le_pow_right (by decide) (by omega)
    have hu16 : us.length ≤ 16 := by omega
    generalize hj : 3 - i = j
    refine ⟨_, rfl, g, rfl, ⟨_, SqL.of hg⟩, comp_list (K := K) (a := g) (xs := us)
      (Q := fun x H1 => tVar 0 [some (.ref g), some (.str (ltr j))] H1 fun y H3 => rCat x y H3 fun z H4 => Pv (i + 1) [some z, some (.str (ltr j))] H4)
      (fun k σ ys H3 => ∃ o, σ = [o, some (.str (ltr j))] ∧ Same H2 H3 ∧ k ≤ us.length ∧ ys.length ≤ k ∧ All2 (SetL H3) (((es i).take k).map (j :: ·)) ys)
      ⟨none, rfl, Same.refl _, Nat.zero_le _, Nat.le_refl _, .nil⟩ (fun k σ ys H3 ⟨o, _, e3, hk, hy, _⟩ => ⟨small (by omega), SqL.of (e3 _ _ hg)⟩) ?_ ?_⟩
    · rintro k x σ ys H3 hk ⟨o, rfl, e3, hku, hyl, hy⟩
      obtain ⟨js, hjs, a, rfl, ha⟩ := hA.at hk
      have hkl : k < us.length := (List.getElem?_eq_some_iff.mp hk).1
      have hjl := es_small i js (List.mem_of_getElem? hjs)
      refine nameYes ?_
      refine ⟨_, rfl, (by show 1 ≤ sizeLine; decide), fun p hp => ?_⟩
      have ep := same_new hp (.lst [.str (ltr j)])
      refine ⟨_, rfl, p, a, _, _, rfl, rfl, upd_same, ep _ _ (e3 _ _ ha), Nat.le_of_lt (small (by simp [lts]; omega)), fun p2 hp2 => ?_⟩
      have e4 := ep.trans (same_new hp2 (.lst ([.str (ltr j)] ++ lts js)))
      refine ⟨_, rfl, e3.trans e4, hkl, by rw [List.length_append]; simp; omega, ?_⟩
      rw [List.take_succ, hjs]
      rw [show ((List.take k (es i)) ++ (some js).toList).map (j :: ·) = ((es i).take k).map (j :: ·) ++ [j :: js] by simp]
      exact (hy.mono fun _ _ z => z.same e4).append (.cons ⟨p2, rfl, upd_same⟩ .nil)
    · rintro σ ys H3 ⟨o, rfl, e3, _, hyl, hy⟩ D hD
      have hgD : g ≠ D := ne_of_none (e3 _ _ hg) hD
      refine ⟨_, rfl, D, g, ys, us, rfl, rfl, upd_same, by rw [upd_ne hgD]; exact e3 _ _ hg, Nat.le_of_lt (small (by omega)), fun p hp => ?_⟩
      rw [hPv]
      have e4 := (same_new hD (.lst ys)).trans (same_new hp (.lst (ys ++ us)))
      refine ⟨p, _, _, rfl, e2.trans (e3.trans e4), upd_same, ?_⟩
      have ht : (es i).take us.length = es i := List.take_of_length_le (by rw [es_len]; omega)
      rw [ht] at hy
      show All2 _ ((es i).map ((3 - i) :: ·) ++ es i) _
      rw [hj]
      exact (hy.mono fun _ _ z => z.same e4).append (hA.mono fun _ _ z => z.same (e3.trans e4))
  · intro σ H2 hp
    rw [hPv] at hp
    obtain ⟨g, us, o, rfl, e2, hg, hA⟩ := hp
    exact ⟨_, rfl, q g us H2 e2 hg hA⟩
/-! ### told everywhere -/
def spEverywhere : Sp := fun vs H Q _ => ∃ (s : S) (v : V), vs = [v] ∧ Rep H s v ∧ sz s ≤ 10000 ∧ ∀ l H', Same H H' → H l = none → H' l = some (.lst (ord.map fun n => V.bl (val s n))) → Q (.ref l) H'
theorem scWhere : FnScope ["statement"] ["statement"] (defScope sToldEverywhere) := ⟨rfl, rfl, rfl, by decide +kernel, rfl, by decide +kernel, by decide +kernel⟩
theorem ok_everywhere {f fT fE : Addr} {fd dT dE : FuncData} (F : Fun K "told_everywhere" "told_everywhere" sToldEverywhere f fd)
    (GT : FnOk P w K mg base CX0 3 fT dT ["statement", "settings"] (spTold K)) (kT : PySem.W.keepIn K (.ref fT) = true) (bT : Binds K dT ["statement", "settings"] []) (mT : mg "told_at" = some (.ref fT))
    (GE : FnOk P w K mg base CX0 1 fE dE [] spEvery) (kE : PySem.W.keepIn K (.ref fE) = true) (bE : Binds K dE [] []) (mE : mg "every_setting" = some (.ref fE)) : FnOk P w K mg base CX0 4 f fd ["statement"] spEverywhere := by
  refine F.ok scWhere (fun vs H Q E h => ?_) (fun cdv A outer s H vs Q E hr h => ?_)
  · obtain ⟨s, v, rfl, _⟩ := h
    rfl
  obtain ⟨s0, v, rfl, hR, hz, q⟩ := h
  have hrT : Room 3 _ := hr
  have hrE : Room 1 _ := hr.mono (by decide)
  refine ⟨_, (pss_one (ps_ret (pe_call GT hrT rfl mT kT bT .nil pass0 (pa_cons (pv 0) (pa_cons (pe_call0 GE hrE rfl mE kE bE .nil pass0) pa_nil))))), ?_⟩
  refine ⟨_, rfl, rfl, fun g us H1 e1 hg hA => ?_⟩
  have hul := hA.length
  obtain ⟨gs, rfl, hs⟩ := sets_of es4_bits hA
  rw [List.length_map, es_len] at hul
  refine ⟨s0, v, g, gs, ord, rfl, hR.mono e1.tk, hz, hg, hs, by omega, fun l H2 e2 hl h2 => ?_⟩
  exact q l H2 (e1.trans e2) (e1.free hl) h2
end
end FG
namespace FG
open PySem L2
/-! ### fork_of -/
theorem ix_lstK {X : Cx} {K : PySem.W.Frag} (h : X.K = K) : IxR X (rIxL K) := by
  subst h
  exact ix_list
theorem fks_get {j : Nat} {fs : List Fm} {p : Nat} {f g : Fm} (h1 : fs[2 * p]? = some f) (h2 : fs[2 * p + 1]? = some g) : (fks j fs)[p]? = some (fkk j f g) := by
  have hl := (List.getElem?_eq_some_iff.mp h2).1
  unfold fks
  rw [List.getElem?_map, List.getElem?_range (by omega)]
  simp [List.getD_eq_getElem?_getD, h1, h2]
theorem fks_len (j : Nat) (fs : List Fm) : (fks j fs).length = fs.length / 2 := by simp [fks]
theorem all_lf {H : Hp} (t : Nat → Bool) : ∀ xs : List Nat, All2 (RepF H) (xs.map fun n => Fm.lf (t n)) (xs.map fun n => V.bl (t n))
  | [] => .nil
  | x :: xs => .cons rfl (all_lf t xs)
theorem rng_ok : ∀ m, m < 9 → Builtin.Range.small 0 ((2 * m : Nat) : Int) 2 = true ∧ Builtin.divisionGoesByPylong (((2 * m : Nat) : Int) - 0) 2 = false ∧ ((m : Nat) : Int) = Builtin.Range.rangeSize 0 ((2 * m : Nat) : Int) 2 := by decide +kernel
section
variable {P : Program} {w : World} {K : PySem.W.Frag} {mg : Str → Option Value} {base : Heap}
def spForkOf : Sp := fun vs H Q _ => ∃ (j : Nat) (f g : Fm) (u v : V), vs = [.str (ltr j), u, v] ∧ RepF H f u ∧ RepF H g v ∧ fdep f ≤ 4 ∧ ∀ x H', Same H H' → RepF H' (fkk j f g) x → Q x H'
theorem scForkOf : FnScope ["letter", "so", "other"] ["letter", "so", "other"] (defScope sForkOf) := ⟨rfl, rfl, rfl, by decide +kernel, rfl, by decide +kernel, by decide +kernel⟩
theorem ok_forkof {f : Addr} {fd : FuncData} (F : Fun K "fork_of" "fork_of" sForkOf f fd) : FnOk P w K mg base CX0 1 f fd ["letter", "so", "other"] spForkOf := by
  refine F.ok scForkOf (fun vs H Q E h => ?_) (fun cdv A outer s H vs Q E hr h => ?_)
  · obtain ⟨j, f, g, u, v, rfl, _⟩ := h
    rfl
  obtain ⟨j, f, g, u, v, rfl, hf, hg, hd, q⟩ := h
  refine ⟨_, (pss_cons (ps_if (pt_cmpR (op_eqG hr.units) (pv 1) (pv 2) (by with_unfolding_all rfl)) (pss_one (ps_ret (pv 1))) pss_nil)
      (pss_one (ps_ret (pe_tup (pa_cons (pv 0) (pa_cons (pv 1) (pa_cons (pv 2) pa_nil))))))), ?_⟩
  refine ⟨_, rfl, _, rfl, _, rcO_mono (rcF f g hf hg) (by omega), _, rfl, ite_bl (fun e => ?_) (fun e => ?_)⟩
  · refine ⟨_, rfl, q u H (Same.refl _) ?_⟩
    unfold fkk
    rw [if_pos e]
    exact hf
  · refine ⟨_, rfl, _, rfl, _, rfl, (by show 3 ≤ sizeLine; decide), fun p hp => q (.ref p) _ (same_new hp _) ?_⟩
    unfold fkk
    rw [if_neg e]
    exact ⟨p, u, v, rfl, upd_same, hf.mono (Tk.new hp _), hg.mono (Tk.new hp _)⟩
/-! ### forks_over -/
def spForksOver : Sp := fun vs H Q _ => ∃ (j : Nat) (l : Addr) (us : List V) (fs : List Fm) (m : Nat), vs = [.str (ltr j), .ref l] ∧ H l = some (.lst us) ∧ All2 (RepF H) fs us ∧ fs.length = 2 * m ∧ m < 9 ∧ (∀ f ∈ fs, fdep f ≤ 4) ∧
  ∀ l' us' H', Same H H' → H' l' = some (.lst us') → All2 (RepF H') (fks j fs) us' → Q (.ref l') H'
theorem scForksOver : FnScope ["letter", "forms"] ["letter", "forms"] (defScope sForksOver) := ⟨rfl, rfl, rfl, by decide +kernel, rfl, by decide +kernel, by decide +kernel⟩
theorem ok_forksover {f fF : Addr} {fd dF : FuncData} (F : Fun K "forks_over" "forks_over" sForksOver f fd) (mr : mg "range" = none) (ml : mg "len" = none)
    (GF : FnOk P w K mg base CX0 1 fF dF ["letter", "so", "other"] spForkOf) (kF : PySem.W.keepIn K (.ref fF) = true) (bF : Binds K dF ["letter", "so", "other"] []) (mF : mg "fork_of" = some (.ref fF)) : FnOk P w K mg base CX0 2 f fd ["letter", "forms"] spForksOver := by
  refine F.ok scForksOver (fun vs H Q E h => ?_) (fun cdv A outer s H vs Q E hr h => ?_)
  · obtain ⟨j, l, us, fs, m, rfl, _⟩ := h
    rfl
  obtain ⟨j, l, us, fs, m, rfl, hl, hA, hm, hm9, hdep, q⟩ := h
  have hrF : Room 1 _ := hr
  have hul : us.length = 2 * m := by rw [hA.length, hm]
  obtain ⟨r1, r2, r3⟩ := rng_ok m hm9
  rw [← hul] at r1 r2 r3
  refine ⟨_, (pss_one (ps_ret (pe_comp ["place"] [("letter", 0), ("forms", 1)] (CompOk.by_look rfl rfl (by decide +kernel) (fun x c z => by first | exact z | exact lk2 (by decide +kernel) x c z) rfl (fun p hp => by rcases List.mem_cons.mp hp with e | hp; (subst e; exact ⟨rfl, rfl, rfl⟩); (have e := List.mem_singleton.mp hp; subst e; exact ⟨rfl, rfl, rfl⟩))) (pi_range3 rfl mr (pa_cons pe_int (pa_cons (pe_callB call_len_seq rfl ml bt_len (pa_cons (pv 1) pa_nil)) (pa_cons pe_int pa_nil)))) (fun C fp s H => pg_name (i := 0) (show ([("place" : Str), ("letter" : Str), ("forms" : Str)] : List Str).Nodup by decide +kernel) rfl (Or.inl rfl)) (fun C fp s H => pts_nil) (fun C fp s H => (pe_call GF hrF rfl mF kF bF .nil pass0 (pa_cons (pv 1) (pa_cons (pe_ix (ix_lstK (K := K) rfl) (pv 2) (pv 0) (fun _ _ => rfl)) (pa_cons (pe_ix (ix_lstK (K := K) rfl) (pv 2) (pe_op op_add (pv 0) pe_int) (fun _ _ => rfl)) pa_nil)))))))), ?_⟩
  refine ⟨_, rfl, l, us, rfl, .inl (SqL.of hl), 0, _, 2, m, rfl, by decide, r1, r2, r3, comp_range3 (lo := 0) (c := 2) (n := m)
    (fun k σ ys H2 => ∃ o, σ = [o, some (.str (ltr j)), some (.ref l)] ∧ Same H H2 ∧ k ≤ m ∧ All2 (RepF H2) ((fks j fs).take k) ys)
    ⟨none, rfl, Same.refl _, Nat.zero_le _, .nil⟩ (fun k σ ys H2 ⟨o, _, e2, hk, hy⟩ => ?_) ?_ ?_⟩
  · rw [hy.length, List.length_take]
    exact small (by omega)
  · rintro k σ ys H2 hk ⟨o, rfl, e2, _, hy⟩
    have g1 : us[2 * k]? = some us[2 * k] := List.getElem?_eq_getElem (by omega)
    have g2 : us[2 * k + 1]? = some us[2 * k + 1] := List.getElem?_eq_getElem (by omega)
    obtain ⟨f1, hf1, hu1⟩ := hA.at g1
    obtain ⟨f2, hf2, hu2⟩ := hA.at g2
    refine nameYes ?_
    refine ⟨_, rfl, _, rfl, _, rfl, l, us, _, us[2 * k], rfl, rfl, SqL.of (e2 _ _ hl), ?_, _, rfl, _, rfl, _, _, rfl, rfl, l, us, _, us[2 * k + 1], rfl, rfl, SqL.of (e2 _ _ hl), ?_, j, f1, f2, _, _, rfl, hu1.mono e2.tk, hu2.mono e2.tk, hdep f1 (List.mem_of_getElem? hf1), fun x H3 e3 hx => ?_⟩
    · rw [show (0 + (k : Int) * 2) = ((2 * k : Nat) : Int) by omega]
      exact atI_nat g1
    · rw [show (0 + (k : Int) * 2 + 1) = ((2 * k + 1 : Nat) : Int) by omega]
      exact atI_nat g2
    · refine ⟨_, rfl, e2.trans e3, hk, ?_⟩
      rw [List.take_succ, fks_get hf1 hf2]
      exact (hy.mono fun _ _ z => z.mono e3.tk).append (.cons hx .nil)
  · rintro σ ys H2 ⟨o, rfl, e2, _, hy⟩ D hD
    have ht : (fks j fs).take m = fks j fs := List.take_of_length_le (by rw [fks_len]; omega)
    rw [ht] at hy
    exact q D ys _ (e2.trans (same_new hD _)) upd_same (hy.mono fun _ _ z => z.mono (Tk.new hD _))
/-! ### forked -/
def spForked : Sp := fun vs H Q _ => ∃ (s : S) (v : V), vs = [v] ∧ Rep H s v ∧ sz s ≤ 10000 ∧ ∀ (f : Fm) (u : V) H', Same H H' → RepF H' f u → fok 0 f → (∀ n, n < 16 → fend f n = val s n) → Q u H'
theorem scForked : FnScope ["statement", "forms", "letter"] ["statement"] (defScope sForked) := ⟨rfl, rfl, rfl, by decide +kernel, rfl, by decide +kernel, by decide +kernel⟩
theorem ok_forked {f fW fO aL : Addr} {fd dW dO : FuncData} (F : Fun K "forked" "forked" sForked f fd) (mRe : mg "reversed" = none) (mL : mg "LETTERS" = some (.ref aL)) (kL : TupK K aL [.str "a", .str "b", .str "c", .str "d"])
    (GW : FnOk P w K mg base CX0 4 fW dW ["statement"] spEverywhere) (kW : PySem.W.keepIn K (.ref fW) = true) (bW : Binds K dW ["statement"] []) (mW : mg "told_everywhere" = some (.ref fW))
    (GO : FnOk P w K mg base CX0 2 fO dO ["letter", "forms"] spForksOver) (kO : PySem.W.keepIn K (.ref fO) = true) (bO : Binds K dO ["letter", "forms"] []) (mO : mg "forks_over" = some (.ref fO)) : FnOk P w K mg base CX0 5 f fd ["statement"] spForked := by
  refine F.ok scForked (fun vs H Q E h => ?_) (fun cdv A outer s H vs Q E hr h => ?_)
  · obtain ⟨s, v, rfl, _⟩ := h
    rfl
  obtain ⟨s0, v, rfl, hR, hz, q⟩ := h
  have hrW : Room 4 _ := hr
  have hrO : Room 2 _ := hr.mono (by decide)
  refine ⟨_, (pss_cons (ps_set (i := 1) scForked.nd rfl (Or.inl rfl) (pe_call GW hrW rfl mW kW bW .nil pass0 (pa_cons (pv 0) pa_nil)))
      (pss_cons (ps_for PassesOwn.never rfl (pi_rev rfl mRe (pa_cons (pe_glob (v := .ref aL) rfl mL rfl) pa_nil)) (pg_name (i := 2) scForked.nd rfl (Or.inl rfl)) (pss_one (ps_set (i := 1) scForked.nd rfl (Or.inl rfl) (pe_call GO hrO rfl mO kO bO .nil pass0 (pa_cons (pv 2) (pa_cons (pv 1) pa_nil))))))
      (pss_one (ps_ret (pe_ix ix_list (pv 1) pe_int (fun _ _ => rfl)))))), ?_⟩
  refine ⟨_, rfl, s0, v, rfl, hR, hz, fun l H1 e1 _ hl => ?_⟩
  obtain ⟨Pv, hPv⟩ : ∃ Pv : Nat → St → Hp → Prop, Pv = fun i σ H2 => ∃ (g : Addr) (us : List V) (fs : List Fm) (o : Option V), σ = [some v, some (.ref g), o] ∧ Same H H2 ∧ H2 g = some (.lst us) ∧ All2 (RepF H2) fs us ∧ Stage (val s0) i fs := ⟨_, rfl⟩
  refine ⟨aL, _, rfl, kL.sq, by decide, for_rev (K := K) (a := aL) (xs := [.str "a", .str "b", .str "c", .str "d"]) (fun H => kL.sq) Pv (by rw [hPv]; exact ⟨l, _, _, none, rfl, e1, hl, all_lf _ _, stage_zero _⟩) ?_ ?_⟩
  · intro i x σ H2 hi hx hp
    have hi4 : i < 4 := hi
    rw [hPv] at hp
    obtain ⟨g, us, fs, o, rfl, e2, hg, hA, hs⟩ := hp
    have hx2 := letter_at hi4 hx
    subst hx2
    have e4 : 2 ^ (4 - i) = 2 * 2 ^ (3 - i) := by rw [show 4 - i = (3 - i) + 1 by omega, Nat.pow_succ]; omega
    have e8 : 2 ^ (3 - i) ≤ 2 ^ 3 := Nat.pow_le_pow_right (by decide) (by omega)
    refine ⟨_, rfl, _, rfl, 3 - i, g, us, fs, 2 ^ (3 - i), rfl, hg, hA, by rw [hs.1, e4], by omega, stage_dep hs, fun g' us' H3 e3 hg' hA' => ?_⟩
    rw [hPv]
    exact ⟨g', us', _, _, rfl, e2.trans e3, hg', hA', stage_next hi4 hs⟩
  · intro σ H2 hp
    rw [hPv] at hp
    obtain ⟨g, us, fs, o, rfl, e2, hg, hA, hs⟩ := hp
    obtain ⟨f, rfl, hf0, hfe⟩ := stage_last hs
    cases hA with
    | cons r t =>
      cases t
      exact ⟨_, rfl, g, _, 0, _, rfl, rfl, SqL.of hg, atI_nat (j := 0) rfl, q f _ H2 e2 r hf0 hfe⟩
end
end FG
namespace FG
open PySem L2
/-! ### ways_of, ways_on -/
theorem wy_len : ∀ f : Fm, (wy f).length ≤ 2 ^ fdep f
  | .lf true => Nat.le_refl _
  | .lf false => Nat.zero_le _
  | .fk j s o => by
    have e1 := wy_len s
    have e2 := wy_len o
    have m1 : 2 ^ fdep s ≤ 2 ^ (max (fdep s) (fdep o)) := Nat.pow_le_pow_right (by decide) (by omega)
    have m2 : 2 ^ fdep o ≤ 2 ^ (max (fdep s) (fdep o)) := Nat.pow_le_pow_right (by decide) (by omega)
    simp only [wy, fdep, List.length_append, List.length_map, Nat.pow_succ]
    omega
theorem wy_each : ∀ (f : Fm) (x : Wy), x ∈ wy f → x.length ≤ fdep f
  | .lf true, x, h => by
    have e : x = [] := by simpa [wy] using h
    subst e
    exact Nat.zero_le _
  | .lf false, x, h => by simp [wy] at h
  | .fk j s o, x, h => by
    simp only [fdep]
    rcases List.mem_append.mp (show x ∈ (wy s).map ((j, true) :: ·) ++ (wy o).map ((j, false) :: ·) from h) with h | h
    · obtain ⟨y, hy, rfl⟩ := List.mem_map.mp h
      have := wy_each s y hy
      simp only [List.length_cons]
      omega
    · obtain ⟨y, hy, rfl⟩ := List.mem_map.mp h
      have := wy_each o y hy
      simp only [List.length_cons]
      omega
theorem wy_16 {f : Fm} (h : fdep f ≤ 4) : (wy f).length ≤ 16 := by
  have e1 := wy_len f
  have e2 : 2 ^ fdep f ≤ 2 ^ 4 := Nat.pow_le_pow_right (by decide) h
  omega
section
variable {P : Program} {w : World} {K : PySem.W.Frag} {mg : Str → Option Value} {base : Heap}
def spWaysOf (d : Nat) : Sp := fun vs H Q _ => ∃ (f : Fm) (u : V), vs = [u] ∧ RepF H f u ∧ fdep f ≤ d ∧ d ≤ 4 ∧ ∀ l ps H', Same H H' → H l = none → H' l = some (.lst ps) → All2 (WayAt H') (wy f) ps → Q (.ref l) H'
def spWaysOn (d : Nat) : Sp := fun vs H Q _ => ∃ (j : Nat) (c : Bool) (f : Fm) (u : V), vs = [.str (ltr j), .bl c, u] ∧ RepF H f u ∧ fdep f ≤ d ∧ d ≤ 4 ∧ ∀ l ps H', Same H H' → H l = none → H' l = some (.lst ps) → All2 (WayAt H') ((wy f).map ((j, c) :: ·)) ps → Q (.ref l) H'
theorem scWaysOf : FnScope ["form"] ["form"] (defScope sWaysOf) := ⟨rfl, rfl, rfl, by decide +kernel, rfl, by decide +kernel, by decide +kernel⟩
theorem scWaysOn : FnScope ["letter", "value", "form"] ["letter", "value", "form"] (defScope sWaysOn) := ⟨rfl, rfl, rfl, by decide +kernel, rfl, by decide +kernel, by decide +kernel⟩
theorem ok_waysof0 {f : Addr} {fd : FuncData} (F : Fun K "ways_of" "ways_of" sWaysOf f fd): FnOk P w K mg base CX0 1 f fd ["form"] (spWaysOf 0) := by
  refine F.ok scWaysOf (fun vs H Q E h => ?_) (fun cdv A outer s H vs Q E hr h => ?_)
  · obtain ⟨f, u, rfl, _⟩ := h
    rfl
  obtain ⟨f, u, rfl, hf, hd, hd4, q⟩ := h
  refine ⟨_, (pss_cons (ps_if (pt_cmpR op_isB (pv 0) pe_bl (by with_unfolding_all rfl)) (pss_one (ps_ret (pe_lst (pa_cons (pe_lst pa_nil) pa_nil)))) pss_nil)
      (pss_cons (ps_if (pt_cmpR op_isB (pv 0) pe_bl (by with_unfolding_all rfl)) (pss_one (ps_ret (pe_lst pa_nil))) pss_nil)
      (pss_one ps_never))), ?_⟩
  cases f with
  | lf c =>
    cases (show u = .bl c from hf)
    refine ⟨_, rfl, true, rfl, .inl ⟨c, rfl, _, rfl, ?_⟩⟩
    cases c with
    | true =>
      refine iteT ⟨(by show 0 ≤ sizeLine; decide), fun l0 hl0 => ⟨(by show 1 ≤ sizeLine; decide), fun g0 hg0 => ?_⟩⟩
      exact q g0 _ _ ((same_new hl0 _).trans (same_new hg0 _)) ((same_new hl0 _).free hg0) upd_same (.cons ⟨l0, [], rfl, (same_new hg0 _) _ _ upd_same, .nil⟩ .nil)
    | false =>
      refine iteF ⟨_, rfl, false, rfl, .inl ⟨false, rfl, _, rfl, iteT ⟨(by show 0 ≤ sizeLine; decide), fun g0 hg0 => ?_⟩⟩⟩
      exact q g0 _ _ (same_new hg0 _) hg0 upd_same .nil
  | fk j s o => exact absurd hd (by simp [fdep])
theorem ok_waysof1 {f fO : Addr} {fd dO : FuncData} (F : Fun K "ways_of" "ways_of" sWaysOf f fd)
    (d : Nat) (GO : FnOk P w K mg base CX0 (2 * d + 2) fO dO ["letter", "value", "form"] (spWaysOn d)) (kO : PySem.W.keepIn K (.ref fO) = true) (bO : Binds K dO ["letter", "value", "form"] []) (mO : mg "ways_on" = some (.ref fO)) : FnOk P w K mg base CX0 (2 * d + 2 + 1) f fd ["form"] (spWaysOf (d + 1)) := by
  refine F.ok scWaysOf (fun vs H Q E h => ?_) (fun cdv A outer s H vs Q E hr h => ?_)
  · obtain ⟨f, u, rfl, _⟩ := h
    rfl
  obtain ⟨f, u, rfl, hf, hd, hd4, q⟩ := h
  have hrO : Room (2 * d + 2) _ := hr
  refine ⟨_, (pss_cons (ps_if (pt_cmpR op_isB (pv 0) pe_bl (by with_unfolding_all rfl)) (pss_one (ps_ret (pe_lst (pa_cons (pe_lst pa_nil) pa_nil)))) pss_nil)
      (pss_cons (ps_if (pt_cmpR op_isB (pv 0) pe_bl (by with_unfolding_all rfl)) (pss_one (ps_ret (pe_lst pa_nil))) pss_nil)
      (pss_one (ps_ret (pe_op op_cat (pe_call GO hrO rfl mO kO bO .nil pass0 (pa_cons (pe_ix ix_tup (pv 0) pe_int (fun _ _ => rfl)) (pa_cons pe_bl (pa_cons (pe_ix ix_tup (pv 0) pe_int (fun _ _ => rfl)) pa_nil)))) (pe_call GO hrO rfl mO kO bO .nil pass0 (pa_cons (pe_ix ix_tup (pv 0) pe_int (fun _ _ => rfl)) (pa_cons pe_bl (pa_cons (pe_ix ix_tup (pv 0) pe_int (fun _ _ => rfl)) pa_nil))))))))), ?_⟩
  cases f with
  | lf c =>
    cases (show u = .bl c from hf)
    refine ⟨_, rfl, true, rfl, .inl ⟨c, rfl, _, rfl, ?_⟩⟩
    cases c with
    | true =>
      refine iteT ⟨(by show 0 ≤ sizeLine; decide), fun l0 hl0 => ⟨(by show 1 ≤ sizeLine; decide), fun g0 hg0 => ?_⟩⟩
      exact q g0 _ _ ((same_new hl0 _).trans (same_new hg0 _)) ((same_new hl0 _).free hg0) upd_same (.cons ⟨l0, [], rfl, (same_new hg0 _) _ _ upd_same, .nil⟩ .nil)
    | false =>
      refine iteF ⟨_, rfl, false, rfl, .inl ⟨false, rfl, _, rfl, iteT ⟨(by show 0 ≤ sizeLine; decide), fun g0 hg0 => ?_⟩⟩⟩
      exact q g0 _ _ (same_new hg0 _) hg0 upd_same .nil
  | fk j s o =>
    obtain ⟨a, u1, u2, rfl, ha, h1, h2⟩ := hf
    simp only [fdep] at hd
    refine ⟨_, rfl, true, rfl, .inr ⟨a, rfl, _, rfl, iteF ?_⟩⟩
    refine ⟨_, rfl, false, rfl, .inr ⟨a, rfl, _, rfl, iteF ?_⟩⟩
    refine ⟨_, rfl, a, _, 0, _, rfl, rfl, SqT.of ha, atI_nat (j := 0) rfl, _, rfl, a, _, 1, _, rfl, rfl, SqT.of ha, atI_nat (j := 1) rfl, j, true, s, u1, rfl, h1, by omega, by omega, fun l1 ps1 H1 e1 n1 hl1 hA1 => ?_⟩
    have ha1 := e1 _ _ ha
    refine ⟨_, rfl, a, _, 0, _, rfl, rfl, SqT.of ha1, atI_nat (j := 0) rfl, _, rfl, a, _, 2, _, rfl, rfl, SqT.of ha1, atI_nat (j := 2) rfl, j, false, o, u2, rfl, h2.mono e1.tk, by omega, by omega, fun l2 ps2 H2 e2 n2 hl2 hA2 => ?_⟩
    have z1 := hA1.length
    have z2 := hA2.length
    have z3 := wy_16 (f := s) (by omega)
    have z4 := wy_16 (f := o) (by omega)
    rw [List.length_map] at z1 z2
    refine ⟨l1, l2, ps1, ps2, rfl, rfl, e2 _ _ hl1, hl2, Nat.le_of_lt (small (by omega)), fun p hp => ?_⟩
    have e3 := same_new hp (.lst (ps1 ++ ps2))
    refine q p _ _ (e1.trans (e2.trans e3)) ((e1.trans e2).free hp) upd_same ?_
    exact (hA1.mono fun _ _ z => z.same (e2.trans e3)).append (hA2.mono fun _ _ z => z.same e3)
theorem ok_wayson {f fY : Addr} {fd dY : FuncData} (F : Fun K "ways_on" "ways_on" sWaysOn f fd)
    (d : Nat) (GY : FnOk P w K mg base CX0 (2 * d + 1) fY dY ["form"] (spWaysOf d)) (kY : PySem.W.keepIn K (.ref fY) = true) (bY : Binds K dY ["form"] []) (mY : mg "ways_of" = some (.ref fY)) : FnOk P w K mg base CX0 (2 * d + 1 + 1) f fd ["letter", "value", "form"] (spWaysOn d) := by
  refine F.ok scWaysOn (fun vs H Q E h => ?_) (fun cdv A outer s H vs Q E hr h => ?_)
  · obtain ⟨j, c, f, u, rfl, _⟩ := h
    rfl
  obtain ⟨j, c, f, u, rfl, hf, hd, hd4, q⟩ := h
  have hrY : Room (2 * d + 1) _ := hr
  refine ⟨_, (pss_one (ps_ret (pe_comp ["way"] [("letter", 0), ("value", 1)] (CompOk.by_look rfl rfl (by decide +kernel) (fun x c z => by first | exact z | exact lk2 (by decide +kernel) x c z) rfl (fun p hp => by rcases List.mem_cons.mp hp with e | hp; (subst e; exact ⟨rfl, rfl, rfl⟩); (have e := List.mem_singleton.mp hp; subst e; exact ⟨rfl, rfl, rfl⟩))) (pi_list (pe_call GY hrY rfl mY kY bY .nil pass0 (pa_cons (pv 2) pa_nil))) (fun C fp s H => pg_name (i := 0) (show ([("way" : Str), ("letter" : Str), ("value" : Str)] : List Str).Nodup by decide +kernel) rfl (Or.inl rfl)) (fun C fp s H => pts_nil) (fun C fp s H => (pe_op op_cat (pe_lst (pa_cons (pe_tup (pa_cons (pv 1) (pa_cons (pv 2) pa_nil))) pa_nil)) (pv 0)))))), ?_⟩
  refine ⟨_, rfl, f, u, rfl, hf, hd, hd4, fun l ps H1 e1 n1 hl hA => ?_⟩
  have hpl := hA.length
  have h16 := wy_16 (f := f) (by omega)
  refine ⟨l, rfl, ⟨_, SqL.of hl⟩, comp_list (K := K) (a := l) (xs := ps)
    (fun k σ ys H2 => ∃ o, σ = [o, some (.str (ltr j)), some (.bl c)] ∧ Same H1 H2 ∧ k ≤ ps.length ∧ All2 (WayAt H2) (((wy f).take k).map ((j, c) :: ·)) ys)
    ⟨none, rfl, Same.refl _, Nat.zero_le _, .nil⟩ (fun k σ ys H2 ⟨o, _, e2, hk, hy⟩ => ⟨?_, SqL.of (e2 _ _ hl)⟩) ?_ ?_⟩
  · rw [hy.length, List.length_map, List.length_take]
    exact small (by omega)
  · rintro k x σ ys H2 hk ⟨o, rfl, e2, hkl, hy⟩
    obtain ⟨y, hyk, a, qs, rfl, ha, hq⟩ := hA.at hk
    have hk2 : k < ps.length := (List.getElem?_eq_some_iff.mp hk).1
    have hyl := wy_each f y (List.mem_of_getElem? hyk)
    have hql := hq.length
    refine nameYes ?_
    refine ⟨_, rfl, _, rfl, (by show 2 ≤ sizeLine; decide), fun p0 hp0 => ⟨(by show 1 ≤ sizeLine; decide), fun p1 hp1 => ?_⟩⟩
    have e01 := (same_new hp0 (.tup [.str (ltr j), .bl c])).trans (same_new hp1 (.lst [.ref p0]))
    refine ⟨_, rfl, p1, a, _, qs, rfl, rfl, upd_same, e01 _ _ (e2 _ _ ha), Nat.le_of_lt (small (by simp; omega)), fun p2 hp2 => ?_⟩
    have e12 := same_new hp2 (.lst ([.ref p0] ++ qs))
    have e4 := e01.trans e12
    refine ⟨_, rfl, e2.trans e4, hk2, ?_⟩
    rw [List.take_succ, hyk]
    rw [show ((List.take k (wy f)) ++ (some y).toList).map ((j, c) :: ·) = ((wy f).take k).map ((j, c) :: ·) ++ [(j, c) :: y] by simp]
    refine (hy.mono fun _ _ z => z.same e4).append (.cons ⟨p2, _, rfl, upd_same, .cons ⟨p0, rfl, e12 _ _ ((same_new hp1 _) _ _ upd_same)⟩ (hq.mono fun _ _ z => ?_)⟩ .nil)
    obtain ⟨b, eb, hb⟩ := z
    exact ⟨b, eb, e4 _ _ (e2 _ _ hb)⟩
  · rintro σ ys H2 ⟨o, rfl, e2, _, hy⟩ D hD
    have ht : (wy f).take ps.length = wy f := List.take_of_length_le (by omega)
    rw [ht] at hy
    have e3 := same_new hD (.lst ys)
    exact q D ys _ (e1.trans (e2.trans e3)) ((e1.trans e2).free hD) upd_same (hy.mono fun _ _ z => z.same e3)
theorem ok_waysof4 {f fO : Addr} {fd dO : FuncData} (F : Fun K "ways_of" "ways_of" sWaysOf f fd) (FO : Fun K "ways_on" "ways_on" sWaysOn fO dO) (kY : PySem.W.keepIn K (.ref f) = true) (bY : Binds K fd ["form"] []) (mY : mg "ways_of" = some (.ref f))
    (kO : PySem.W.keepIn K (.ref fO) = true) (bO : Binds K dO ["letter", "value", "form"] []) (mO : mg "ways_on" = some (.ref fO)) : FnOk P w K mg base CX0 9 f fd ["form"] (spWaysOf 4) := by
  have G0 : FnOk P w K mg base CX0 1 f fd ["form"] (spWaysOf 0) := ok_waysof0 F
  have G1 := ok_waysof1 F 0 (ok_wayson FO 0 G0 kY bY mY) kO bO mO
  have G2 := ok_waysof1 F 1 (ok_wayson FO 1 G1 kY bY mY) kO bO mO
  have G3 := ok_waysof1 F 2 (ok_wayson FO 2 G2 kY bY mY) kO bO mO
  exact ok_waysof1 F 3 (ok_wayson FO 3 G3 kY bY mY) kO bO mO
/-! ### ways -/
def spWays : Sp := fun vs H Q _ => ∃ (s : S) (v : V), vs = [v] ∧ Rep H s v ∧ sz s ≤ 10000 ∧ ∀ (f : Fm) l ps H', Same H H' → fok 0 f → (∀ n, n < 16 → fend f n = val s n) → H' l = some (.lst ps) → All2 (WayAt H') (wy f) ps → Q (.ref l) H'
theorem scWays : FnScope ["statement"] ["statement"] (defScope sWays) := ⟨rfl, rfl, rfl, by decide +kernel, rfl, by decide +kernel, by decide +kernel⟩
theorem ok_ways {f fY fF : Addr} {fd dY dF : FuncData} (F : Fun K "ways" "ways" sWays f fd)
    (GY : FnOk P w K mg base CX0 9 fY dY ["form"] (spWaysOf 4)) (kY : PySem.W.keepIn K (.ref fY) = true) (bY : Binds K dY ["form"] []) (mY : mg "ways_of" = some (.ref fY))
    (GF : FnOk P w K mg base CX0 5 fF dF ["statement"] spForked) (kF : PySem.W.keepIn K (.ref fF) = true) (bF : Binds K dF ["statement"] []) (mF : mg "forked" = some (.ref fF)) : FnOk P w K mg base CX0 10 f fd ["statement"] spWays := by
  refine F.ok scWays (fun vs H Q E h => ?_) (fun cdv A outer s H vs Q E hr h => ?_)
  · obtain ⟨s, v, rfl, _⟩ := h
    rfl
  obtain ⟨s0, v, rfl, hR, hz, q⟩ := h
  have hrY : Room 9 _ := hr
  have hrF : Room 5 _ := hr.mono (by decide)
  refine ⟨_, (pss_one (ps_ret (pe_call GY hrY rfl mY kY bY .nil pass0 (pa_cons (pe_call GF hrF rfl mF kF bF .nil pass0 (pa_cons (pv 0) pa_nil)) pa_nil)))), ?_⟩
  refine ⟨_, rfl, s0, v, rfl, hR, hz, fun f u H1 e1 hf hok he => ⟨f, u, rfl, hf, ?_, by decide, fun l ps H2 e2 _ hl hA => q f l ps H2 (e1.trans e2) hok he hl hA⟩⟩
  exact fok_deep ⟨0, hok⟩
end
end FG
namespace FG
open PySem L2
theorem ix_listK {X : Cx} {K : PySem.W.Frag} (h : X.K = K) : IxR X (rIxL K) := by
  subst h
  exact ix_list
/-! ### halved: what lies in the heap -/
abbrev It5 := Nat × Nat × Wy
def WayX (H : Hp) (fo td : Addr) (x : Wy) (v : V) : Prop := ∃ l ps, v = .ref l ∧ H l = some (.lst ps) ∧ All2 (StepAt H) x ps ∧ l ≠ fo ∧ l ≠ td
def ItemX (H : Hp) (fo td : Addr) (x : It5) (v : V) : Prop := ∃ a l, v = .ref a ∧ H a = some (.tup [.int ((x.1 : Nat) : Int), .int ((x.2.1 : Nat) : Int), .ref l]) ∧ WayX H fo td x.2.2 (.ref l) ∧ x.1 ≤ 4 ∧ x.2.1 < 2 ^ x.1 ∧ x.2.2.length ≤ x.1
def Kp (fo td : Addr) (H H' : Hp) : Prop := (∀ a xs, H a = some (.tup xs) → H' a = some (.tup xs)) ∧ ∀ a xs, a ≠ fo → a ≠ td → H a = some (.lst xs) → H' a = some (.lst xs)
theorem Kp.same {fo td : Addr} {H H' : Hp} (e : Same H H') : Kp fo td H H' := ⟨fun a xs h => e _ _ h, fun a xs _ _ h => e _ _ h⟩
theorem Kp.fo {fo td : Addr} {H : Hp} {xs ys : List V} (h : H fo = some (.lst xs)) : Kp fo td H (upd H fo (.lst ys)) :=
  ⟨Tk.lst h, fun a zs n1 _ q => by rw [upd_ne n1]; exact q⟩
theorem Kp.td {fo td : Addr} {H : Hp} {xs ys : List V} (h : H td = some (.lst xs)) : Kp fo td H (upd H td (.lst ys)) :=
  ⟨Tk.lst h, fun a zs _ n1 q => by rw [upd_ne n1]; exact q⟩
theorem steps_kp {fo td : Addr} {H H' : Hp} (k : Kp fo td H H') {x : Wy} {ps : List V} (h : All2 (StepAt H) x ps) : All2 (StepAt H') x ps := h.mono fun x y ⟨a, e1, h1⟩ => ⟨a, e1, k.1 _ _ h1⟩
theorem WayX.kp {fo td : Addr} {H H' : Hp} (k : Kp fo td H H') {x : Wy} {v : V} (h : WayX H fo td x v) : WayX H' fo td x v := by
  obtain ⟨l, ps, e, hl, hA, n1, n2⟩ := h
  exact ⟨l, ps, e, k.2 _ _ n1 n2 hl, steps_kp k hA, n1, n2⟩
theorem ItemX.kp {fo td : Addr} {H H' : Hp} (k : Kp fo td H H') {x : It5} {v : V} (h : ItemX H fo td x v) : ItemX H' fo td x v := by
  obtain ⟨a, l, e, ha, hw, r⟩ := h
  exact ⟨a, l, e, k.1 _ _ ha, hw.kp k, r⟩
def wgt (x : It5) : Nat := if x.1 ≤ 4 then 2 ^ (5 - x.1) - 1 else 1
theorem wgt_pos (x : It5) : 0 < wgt x := by
  unfold wgt
  split
  · have : 2 ^ 1 ≤ 2 ^ (5 - x.1) := Nat.pow_le_pow_right (by decide) (by omega)
    omega
  · decide
theorem wgt_of {j st : Nat} {pre : Wy} (h : j ≤ 4) : wgt (j, st, pre) = 2 ^ (5 - j) - 1 := if_pos h
def toHv (t : Nat → Bool) (xs : List It5) : List Wy := (xs.reverse.map fun x => hv t (4 - x.1) x.1 x.2.1 x.2.2).flatten
theorem toHv_last (t : Nat → Bool) (xs : List It5) (x : It5) : toHv t (xs ++ [x]) = hv t (4 - x.1) x.1 x.2.1 x.2.2 ++ toHv t xs := by simp [toHv]
structure Bd (H0 H : Hp) (fo td : Addr) (fs : List Wy) (fvs : List V) (xs : List It5) (us : List V) (pre : Wy) (w : Addr) : Prop where
  e : Same H0 H
  hf : H fo = some (.lst fvs)
  ht : H td = some (.lst us)
  hF : All2 (WayX H fo td) fs fvs
  hI : All2 (ItemX H fo td) xs us
  hw : WayX H fo td pre (.ref w)
theorem Bd.same {H0 H H' : Hp} {fo td w : Addr} {fs : List Wy} {fvs us : List V} {xs : List It5} {pre : Wy} (B : Bd H0 H fo td fs fvs xs us pre w) (e : Same H H') : Bd H0 H' fo td fs fvs xs us pre w :=
  ⟨B.e.trans e, e _ _ B.hf, e _ _ B.ht, B.hF.mono fun _ _ z => z.kp (Kp.same e), B.hI.mono fun _ _ z => z.kp (Kp.same e), B.hw.kp (Kp.same e)⟩
theorem Bd.push {H0 H : Hp} {fo td w : Addr} {fs : List Wy} {fvs us : List V} {xs : List It5} {pre : Wy} {x : It5} {v : V} (B : Bd H0 H fo td fs fvs xs us pre w) (h0 : H0 td = none) (hne : fo ≠ td) (hx : ItemX H fo td x v) :
    Bd H0 (upd H td (.lst (us ++ [v]))) fo td fs fvs (xs ++ [x]) (us ++ [v]) pre w := by
  have k : Kp fo td H (upd H td (.lst (us ++ [v]))) := Kp.td B.ht
  exact ⟨fun b o hb => by rw [upd_ne (ne_of_none hb h0)]; exact B.e b o hb, by rw [upd_ne hne]; exact B.hf, upd_same, B.hF.mono fun _ _ z => z.kp k, (B.hI.mono fun _ _ z => z.kp k).append (.cons (hx.kp k) .nil), B.hw.kp k⟩
def HInv (t : Nat → Bool) (c fo td : Addr) (H0 : Hp) (m : Nat) (σ : St) (H : Hp) : Prop := ∃ (fs : List Wy) (xs : List It5) (fvs us : List V) (o3 o4 o5 o6 o7 o8 o9 : Option V), σ = [some (.ref c), some (.ref fo), some (.ref td), o3, o4, o5, o6, o7, o8, o9] ∧ Same H0 H ∧ H fo = some (.lst fvs) ∧ H td = some (.lst us) ∧
  All2 (WayX H fo td) fs fvs ∧ All2 (ItemX H fo td) xs us ∧ fs ++ toHv t xs = hv t 4 0 0 [] ∧ sum2 wgt xs ≤ 31 ∧ m = sum2 wgt xs
section
variable {P : Program} {w : World} {K : PySem.W.Frag} {mg : Str → Option Value} {base : Heap}
def spHalved : Sp := fun vs H Q _ => ∃ (c : Addr) (t : Nat → Bool), vs = [.ref c] ∧ H c = some (.lst (((List.range 16).map t).map V.bl)) ∧ ∀ l ps H', Same H H' → H' l = some (.lst ps) → All2 (WayAt H') (hv t 4 0 0 []) ps → Q (.ref l) H'
theorem scHalved : FnScope ["_law_column", "_law_found", "_law_todo", "_law_j", "_law_start", "_law_way", "_law_step", "_law_left", "_law_lower", "_law_upper"] ["_law_column"] (defScope sHalved) := ⟨rfl, rfl, rfl, by decide +kernel, rfl, by decide +kernel, by decide +kernel⟩
theorem ok_halved {f : Addr} {fd : FuncData} (F : Fun K "_law_halved" "_law_halved" sHalved f fd) (mr : mg "range" = none) : FnOk P w K mg base CX0 1 f fd ["_law_column"] spHalved := by
  refine F.ok scHalved (fun vs H Q E h => ?_) (fun cdv A outer s H vs Q E hr h => ?_)
  · obtain ⟨c, t, rfl, _⟩ := h
    rfl
  obtain ⟨c, t, rfl, hc, q⟩ := h
  refine ⟨_, (pss_cons (ps_set (i := 1) scHalved.nd rfl (Or.inl rfl) (pe_lst pa_nil))
      (pss_cons (ps_set (i := 2) scHalved.nd rfl (Or.inl rfl) (pe_lst (pa_cons (pe_tup (pa_cons pe_int (pa_cons pe_int (pa_cons (pe_lst pa_nil) pa_nil)))) pa_nil)))
      (pss_cons (ps_while PassesOwn.never (pt_cmpR (op_neG hr.units) (pv 2) (pe_lst pa_nil) (by with_unfolding_all rfl)) (pss_cons (ps_asg (pe_bm0 PySem.F.plainAttrs_list PySem.F.slot_list_pop PySem.F.type_list_pop mt_pop (pv 2)) (pg_tup (n := 3) rfl (pgs_cons (pg_name (i := 3) scHalved.nd rfl (Or.inl rfl)) (pgs_cons (pg_name (i := 4) scHalved.nd rfl (Or.inl rfl)) (pgs_cons (pg_name (i := 5) scHalved.nd rfl (Or.inl rfl)) pgs_nil)))))
      (pss_cons (ps_set (i := 6) scHalved.nd rfl (Or.inl rfl) (pe_ix ix_list (pe_lst (pa_cons pe_int (pa_cons pe_int (pa_cons pe_int (pa_cons pe_int (pa_cons pe_int pa_nil)))))) (pv 3) (fun _ _ => rfl)))
      (pss_mid (ps_comp (i := 7) ["_law_n"] [("_law_column", 0)] (CompOk.by_look rfl rfl (by decide +kernel) (fun _ _ z => z) rfl (fun p hp => by have e := List.mem_singleton.mp hp; subst e; exact ⟨rfl, rfl, rfl⟩)) scHalved.nd rfl (Or.inl rfl) (pi_range3 rfl mr (pa_cons (pv 4) (pa_cons pe_int (pa_cons (pv 6) pa_nil)))) (fun C fp s H => pg_name (i := 0) (show ([("_law_n" : Str), ("_law_column" : Str)] : List Str).Nodup by decide +kernel) rfl (Or.inl rfl)) (fun C fp s H => pts_nil) (fun C fp s H => (pe_ix (ix_listK (K := K) rfl) (pv 1) (pv 0) (fun _ _ => rfl))))
      (pss_one (ps_if (pt_cmpR op_notIn_seq pe_bl (pv 7) (by with_unfolding_all rfl)) (pss_one (ps_expr (pe_bm PySem.F.plainAttrs_list PySem.F.slot_list_append PySem.F.type_list_append mt_append (pv 1) (pa_cons (pv 5) pa_nil)))) (pss_one (ps_if (pt_cmpR op_in_seq pe_bl (pv 7) (by with_unfolding_all rfl)) (pss_mid (ps_comp (i := 8) ["_law_n"] [("_law_column", 0)] (CompOk.by_look rfl rfl (by decide +kernel) (fun _ _ z => z) rfl (fun p hp => by have e := List.mem_singleton.mp hp; subst e; exact ⟨rfl, rfl, rfl⟩)) scHalved.nd rfl (Or.inl rfl) (pi_range3 rfl mr (pa_cons (pv 4) (pa_cons pe_int (pa_cons (pe_op op_mul pe_int (pv 6)) pa_nil)))) (fun C fp s H => pg_name (i := 0) (show ([("_law_n" : Str), ("_law_column" : Str)] : List Str).Nodup by decide +kernel) rfl (Or.inl rfl)) (fun C fp s H => pts_nil) (fun C fp s H => (pe_ix (ix_listK (K := K) rfl) (pv 1) (pv 0) (fun _ _ => rfl))))
      (pss_mid (ps_comp (i := 9) ["_law_n"] [("_law_column", 0)] (CompOk.by_look rfl rfl (by decide +kernel) (fun _ _ z => z) rfl (fun p hp => by have e := List.mem_singleton.mp hp; subst e; exact ⟨rfl, rfl, rfl⟩)) scHalved.nd rfl (Or.inl rfl) (pi_range3 rfl mr (pa_cons (pe_op op_add (pv 4) (pv 6)) (pa_cons pe_int (pa_cons (pe_op op_mul pe_int (pv 6)) pa_nil)))) (fun C fp s H => pg_name (i := 0) (show ([("_law_n" : Str), ("_law_column" : Str)] : List Str).Nodup by decide +kernel) rfl (Or.inl rfl)) (fun C fp s H => pts_nil) (fun C fp s H => (pe_ix (ix_listK (K := K) rfl) (pv 1) (pv 0) (fun _ _ => rfl))))
      (pss_one (ps_if (pt_cmpR (op_eqG hr.units) (pv 8) (pv 9) (by with_unfolding_all rfl)) (pss_one (ps_expr (pe_bm PySem.F.plainAttrs_list PySem.F.slot_list_append PySem.F.type_list_append mt_append (pv 2) (pa_cons (pe_tup (pa_cons (pe_op op_add (pv 3) pe_int) (pa_cons (pv 4) (pa_cons (pv 5) pa_nil)))) pa_nil)))) (pss_cons (ps_expr (pe_bm PySem.F.plainAttrs_list PySem.F.slot_list_append PySem.F.type_list_append mt_append (pv 2) (pa_cons (pe_tup (pa_cons (pe_op op_add (pv 3) pe_int) (pa_cons (pv 4) (pa_cons (pe_op op_cat (pv 5) (pe_lst (pa_cons (pe_tup (pa_cons (pe_ix ix_str pe_str (pv 3) (fun _ _ => rfl)) (pa_cons pe_bl pa_nil))) pa_nil))) pa_nil)))) pa_nil)))
      (pss_one (ps_expr (pe_bm PySem.F.plainAttrs_list PySem.F.slot_list_append PySem.F.type_list_append mt_append (pv 2) (pa_cons (pe_tup (pa_cons (pe_op op_add (pv 3) pe_int) (pa_cons (pe_op op_add (pv 4) (pv 6)) (pa_cons (pe_op op_cat (pv 5) (pe_lst (pa_cons (pe_tup (pa_cons (pe_ix ix_str pe_str (pv 3) (fun _ _ => rfl)) (pa_cons pe_bl pa_nil))) pa_nil))) pa_nil)))) pa_nil))))))))) pss_nil))))))))
      (pss_one (ps_ret (pv 1)))))), ?_⟩
  refine ⟨(by show 0 ≤ sizeLine; decide), fun fo hfo => ?_⟩
  refine ⟨(by show 0 ≤ sizeLine; decide), fun w0 hw0 => ⟨(by show 3 ≤ sizeLine; decide), fun a0 ha0 => ⟨(by show 1 ≤ sizeLine; decide), fun td htd => ?_⟩⟩⟩
  have f1 := same_new hfo (.lst [])
  have f2 := same_new hw0 (.lst [])
  have f3 := same_new ha0 (.tup [.int 0, .int 0, .ref w0])
  have f4 := same_new htd (.lst [.ref a0])
  have e0 := f1.trans (f2.trans (f3.trans f4))
  have hft : fo ≠ td := ne_of_none (f3 _ _ (f2 _ _ upd_same)) htd
  have nwt : w0 ≠ td := ne_of_none (f3 _ _ upd_same) htd
  have nwf : w0 ≠ fo := Ne.symm (ne_of_none upd_same hw0)
  have htdn : H td = none := (f1.trans (f2.trans f3)).free htd
  have g1 := f4 _ _ (f3 _ _ (f2 _ _ upd_same))
  have g2 := f4 _ _ (f3 _ _ upd_same)
  have g3 := f4 _ _ upd_same
  have g4 : (upd (upd (upd (upd H fo (.lst [])) w0 (.lst [])) a0 (.tup [.int 0, .int 0, .ref w0])) td (.lst [.ref a0])) td = some (.lst [.ref a0]) := upd_same
  clear f1 f2 f3 f4
  generalize upd (upd (upd (upd H fo (.lst [])) w0 (.lst [])) a0 (.tup [.int 0, .int 0, .ref w0])) td (.lst [.ref a0]) = HS at e0 g1 g2 g3 g4 ⊢
  refine ⟨HInv t c fo td H, ⟨_, [], [(0, 0, [])], [], [.ref a0], none, none, none, none, none, none, none, rfl, e0, g1, g4, .nil, .cons ⟨a0, w0, rfl, g3, ⟨w0, [], rfl, g2, .nil, nwf, nwt⟩, by decide, by decide, by decide⟩ .nil, by simp [toHv], by decide, rfl⟩, ?_⟩
  rintro m σ H2 ⟨fs, its, fvs, tvs, o3, o4, o5, o6, o7, o8, o9, rfl, e2, hf, ht, hF, hI, hhv, h31, rfl⟩
  refine ⟨_, rfl, (by show 0 ≤ sizeLine; decide), fun p hp => ?_⟩
  have sp := same_new hp (.lst [])
  have e3 := e2.trans sp
  have hf3 := sp _ _ hf
  have ht3 := sp _ _ ht
  have hF3 := hF.mono fun _ _ z => z.kp (Kp.same sp)
  have hI3 := hI.mono fun _ _ z => z.kp (Kp.same sp)
  refine ⟨_, RnO.empty (SqL.of ht3) (SqL.of upd_same), _, rfl, ?_⟩
  clear hf ht hF hI e2 sp
  generalize upd H2 p (.lst []) = H3 at e3 hf3 ht3 hF3 hI3 ⊢
  have hfl : fvs.length ≤ 16 := by
    have z1 := hF3.length
    have z2 := congrArg List.length hhv
    have z3 := hv_len t 4 0 0 []
    rw [List.length_append] at z2
    omega
  refine ite2 (fun cc => ?_) (fun cc => ?_)
  · obtain ⟨us, u, rfl⟩ := snoc_of (ws := tvs) (by cases tvs with | nil => cases cc | cons _ _ => simp)
    obtain ⟨xs, x, rfl, hxs, hx⟩ := hI3.last
    have hm : sum2 wgt (xs ++ [x]) = sum2 wgt xs + wgt x := by rw [sum2_append]; simp [sum2]
    rw [hm] at h31 ⊢
    rw [toHv_last] at hhv
    have hul := hxs.length
    have hxl := sum2_len wgt wgt_pos xs
    obtain ⟨j, st, pre⟩ := x
    refine ⟨_, fun σ' H' h => h, ?_⟩
    refine ⟨_, rfl, .inl ⟨rfl, _, SqL.of ht3⟩, td, us ++ [u], u, rfl, rfl, ht3, snoc_get us u, ?_⟩
    rw [List.dropLast_concat]
    have k4 : Kp fo td H3 (upd H3 td (.lst us)) := Kp.td ht3
    have hx4 := hx.kp k4
    obtain ⟨a, w, rfl, ha, hw4, hj, hst, hpl⟩ := hx4
    simp only at ha hw4 hj hst hpl hhv
    have B4 : Bd H (upd H3 td (.lst us)) fo td fs fvs xs us pre w := ⟨fun b o hb => by rw [upd_ne (ne_of_none hb htdn)]; exact e3 b o hb, by rw [upd_ne hft]; exact hf3, upd_same, hF3.mono fun _ _ z => z.kp k4, hxs.mono fun _ _ z => z.kp k4, hw4⟩
    clear hF3 hI3 hx hxs ht3 hf3 e3 k4 hw4
    generalize upd H3 td (.lst us) = H4 at ha B4 ⊢
    have wg : wgt (j, st, pre) = 2 ^ (5 - j) - 1 := wgt_of hj
    have wp := wgt_pos (j, st, pre)
    have pj : 2 ^ (5 - j) = 2 * 2 ^ (4 - j) := by rw [show 5 - j = (4 - j) + 1 by omega, Nat.pow_succ]; omega
    have h16 := p16 hj
    have hst16 : st < 16 := by
      have : 2 ^ j ≤ 2 ^ 4 := Nat.pow_le_pow_right (by decide) hj
      omega
    have hn16 : 2 ^ (4 - j) ≤ 16 := by
      have : 2 ^ (4 - j) ≤ 2 ^ 4 := Nat.pow_le_pow_right (by decide) (by omega)
      omega
    -- unpacked
    refine ⟨a, _, rfl, SqT.of ha, rfl, _, _, rfl, _, _, rfl, _, _, rfl, rfl, ?_⟩
    -- step
    refine ⟨(by show 5 ≤ sizeLine; decide), fun p5 hp5 => ⟨_, rfl, p5, _, _, _, rfl, rfl, SqL.of upd_same, wt5_at hj, ?_⟩⟩
    have B5 := B4.same (same_new hp5 (.lst [.int 1, .int 2, .int 4, .int 8, .int 16]))
    clear B4 ha
    generalize upd H4 p5 (.lst [.int 1, .int 2, .int 4, .int 8, .int 16]) = H5 at B5 ⊢
    -- left
    obtain ⟨r1, r2, r3⟩ := rg1 j (by omega) st hst16 hst
    obtain ⟨M, hM⟩ : ∃ M : St → Hp → Prop, M = fun σ' H' => ∃ L, σ' = [some (.ref c), some (.ref fo), some (.ref td), some (.int ((j : Nat) : Int)), some (.int ((st : Nat) : Int)), some (.ref w), some (.int ((2 ^ j : Nat) : Int)), some (.ref L), o8, o9] ∧ Same H5 H' ∧ H' L = some (.lst ((colz t st (2 ^ j) (2 ^ (4 - j))).map V.bl)) := ⟨_, rfl⟩
    refine ⟨M, ?_, ?_⟩
    · refine ⟨_, rfl, _, rfl, _, _, _, 2 ^ (4 - j), rfl, (by have := Nat.two_pow_pos j; omega), r1, r2, r3, col_go (fun x H1 => M [some (.ref c), some (.ref fo), some (.ref td), some (.int ((j : Nat) : Int)), some (.int ((st : Nat) : Int)), some (.ref w), some (.int ((2 ^ j : Nat) : Int)), some x, o8, o9] H1) rfl rfl (B5.e _ _ hc) (fun i hi => colz_lt hj hst hi) hn16 fun D hD => ?_⟩
      rw [hM]
      exact ⟨D, rfl, same_new hD _, upd_same⟩
    rw [hM]
    rintro σ' H6 ⟨L, rfl, e6, hL⟩
    have B6 := B5.same e6
    clear B5 e6 hM
    refine ⟨_, rfl, L, _, rfl, .inl (SqL.of hL), rfl, flat_bools _, _, rfl, ?_⟩
    rw [show (if true = true then !inV (V.bl false) ((colz t st (2 ^ j) (2 ^ (4 - j))).map V.bl) else inV (V.bl false) ((colz t st (2 ^ j) (2 ^ (4 - j))).map V.bl)) = allc t true j st by
      rw [if_pos rfl, in_bools, colz_has t false hj hst, Bool.not_not, Bool.not_false]]
    cases hA : allc t true j st with
    | true =>
      refine iteT ?_
      refine ⟨_, rfl, .inl ⟨rfl, _, SqL.of B6.hf⟩, _, rfl, fo, _, _, rfl, rfl, B6.hf, small (by omega), ?_⟩
      have k7 : Kp fo td H6 (upd H6 fo (.lst (fvs ++ [.ref w]))) := Kp.fo B6.hf
      have hfon : H fo = none := hfo
      refine ⟨sum2 wgt xs, by omega, fs ++ [pre], xs, fvs ++ [.ref w], us, _, _, _, _, _, _, _, rfl, fun b o hb => by rw [upd_ne (ne_of_none hb hfon)]; exact B6.e b o hb, upd_same, by rw [upd_ne (Ne.symm hft)]; exact B6.ht, (B6.hF.mono fun _ _ z => z.kp k7).append (.cons (B6.hw.kp k7) .nil), B6.hI.mono fun _ _ z => z.kp k7, ?_, by omega, rfl⟩
      rw [← hhv, hv_true hA, List.append_assoc]
    | false =>
      refine iteF ?_
      refine ⟨_, rfl, L, _, rfl, .inl (SqL.of hL), rfl, flat_bools _, _, rfl, ?_⟩
      rw [show (if false = true then !inV (V.bl true) ((colz t st (2 ^ j) (2 ^ (4 - j))).map V.bl) else inV (V.bl true) ((colz t st (2 ^ j) (2 ^ (4 - j))).map V.bl)) = !allc t false j st by
        rw [if_neg (by decide), in_bools, colz_has t true hj hst, Bool.not_true]]
      cases hB : allc t false j st with
      | true =>
        refine iteF ?_
        refine ⟨sum2 wgt xs, by omega, fs, xs, fvs, us, _, _, _, _, _, _, _, rfl, B6.e, B6.hf, B6.ht, B6.hF, B6.hI, ?_, by omega, rfl⟩
        rw [← hhv, hv_false hA hB, List.nil_append]
      | false =>
        refine iteT ?_
        have hj4 : j < 4 := by
          have : j ≠ 4 := fun z => by
            subst z
            exact one_left t hst hA hB
          omega
        have pj4 : 2 ^ (4 - j) = 2 * 2 ^ (3 - j) := by rw [show 4 - j = (3 - j) + 1 by omega, Nat.pow_succ]; omega
        have pj1 : 2 ^ (j + 1) = 2 * 2 ^ j := by rw [Nat.pow_succ]; omega
        have w1 : ∀ (st' : Nat) (pre' : Wy), wgt (j + 1, st', pre') = 2 ^ (4 - j) - 1 := fun st' pre' => by rw [wgt_of (by omega), show 5 - (j + 1) = 4 - j by omega]
        have hd : 4 - j = (4 - (j + 1)) + 1 := by omega
        have hst2 : st + 2 ^ j < 16 := by
          have : 2 ^ (j + 1) ≤ 2 ^ 4 := Nat.pow_le_pow_right (by decide) (by omega)
          omega
        have h3j : 4 - (j + 1) = 3 - j := by omega
        have hlow : ∀ (s' : Nat), s' < 2 ^ (j + 1) → ∀ i, i < 2 ^ (3 - j) → s' + i * (2 * 2 ^ j) < 16 := fun s' hs' i hi => by
          have := colz_lt (j := j + 1) (st := s') (i := i) (by omega) hs' (by rw [h3j]; exact hi)
          rw [pj1] at this
          exact this
        -- lower
        obtain ⟨r4, r5, r6⟩ := rg2 j hj4 st hst16 (by omega)
        obtain ⟨M, hM⟩ : ∃ M : St → Hp → Prop, M = fun σ' H' => ∃ L2, σ' = [some (.ref c), some (.ref fo), some (.ref td), some (.int ((j : Nat) : Int)), some (.int ((st : Nat) : Int)), some (.ref w), some (.int ((2 ^ j : Nat) : Int)), some (.ref L), some (.ref L2), o9] ∧ Same H6 H' ∧ H' L2 = some (.lst ((colz t st (2 * 2 ^ j) (2 ^ (3 - j))).map V.bl)) := ⟨_, rfl⟩
        refine ⟨M, ?_, ?_⟩
        · refine ⟨_, rfl, _, rfl, _, _, rfl, rfl, .inl ⟨by decide, by decide⟩, _, _, _, 2 ^ (3 - j), rfl, (by have := Nat.two_pow_pos j; omega), r4, r5, r6, col_go (fun x H1 => M [some (.ref c), some (.ref fo), some (.ref td), some (.int ((j : Nat) : Int)), some (.int ((st : Nat) : Int)), some (.ref w), some (.int ((2 ^ j : Nat) : Int)), some (.ref L), some x, o9] H1) rfl rfl (B6.e _ _ hc) (fun i hi => hlow st (by omega) i hi) (by omega) fun D hD => ?_⟩
          rw [hM]
          exact ⟨D, rfl, same_new hD _, upd_same⟩
        rw [hM]
        rintro σ' H7 ⟨L2, rfl, e7, hL2⟩
        have B7 := B6.same e7
        clear hM B6 e7
        -- upper
        obtain ⟨r7, r8, r9⟩ := rg2 j hj4 (st + 2 ^ j) hst2 (by omega)
        obtain ⟨M, hM⟩ : ∃ M : St → Hp → Prop, M = fun σ' H' => ∃ L3, σ' = [some (.ref c), some (.ref fo), some (.ref td), some (.int ((j : Nat) : Int)), some (.int ((st : Nat) : Int)), some (.ref w), some (.int ((2 ^ j : Nat) : Int)), some (.ref L), some (.ref L2), some (.ref L3)] ∧ Same H7 H' ∧ H' L3 = some (.lst ((colz t (st + 2 ^ j) (2 * 2 ^ j) (2 ^ (3 - j))).map V.bl)) := ⟨_, rfl⟩
        refine ⟨M, ?_, ?_⟩
        · refine ⟨_, rfl, _, rfl, _, _, rfl, rfl, _, rfl, _, _, rfl, rfl, .inl ⟨by decide, by decide⟩, _, _, _, 2 ^ (3 - j), rfl, (by have := Nat.two_pow_pos j; omega), r7, r8, r9, col_go (fun x H1 => M [some (.ref c), some (.ref fo), some (.ref td), some (.int ((j : Nat) : Int)), some (.int ((st : Nat) : Int)), some (.ref w), some (.int ((2 ^ j : Nat) : Int)), some (.ref L), some (.ref L2), some x] H1) rfl rfl (B7.e _ _ hc) (fun i hi => hlow (st + 2 ^ j) (by omega) i hi) (by omega) fun D hD => ?_⟩
          rw [hM]
          exact ⟨D, rfl, same_new hD _, upd_same⟩
        rw [hM]
        rintro σ' H8 ⟨L3, rfl, e8, hL3⟩
        have B8 := B7.same e8
        have hL2' := e8 _ _ hL2
        clear hM B7 e8 hL2 hL
        refine ⟨_, rfl, _, rfl, _, rc_bools hL2' hL3 (by simp [colz]), _, rfl, ?_⟩
        rw [colz_same t hj4 hst]
        cases hC : samec t j st with
        | true =>
          refine iteT ?_
          refine ⟨_, rfl, .inl ⟨rfl, _, SqL.of B8.ht⟩, _, rfl, _, _, rfl, rfl, _, rfl, _, rfl, (by show 3 ≤ sizeLine; decide), fun p9 hp9 => ?_⟩
          have s9 := same_new hp9 (.tup [.int ((j : Int) + 1), .int ((st : Nat) : Int), .ref w])
          have B9 := B8.same s9
          have hx : ItemX (upd H8 p9 (.tup [.int ((j : Int) + 1), .int ((st : Nat) : Int), .ref w])) fo td (j + 1, st, pre) (.ref p9) := by
            refine ⟨p9, w, rfl, ?_, B9.hw, (by show j + 1 ≤ 4; omega), (by show st < 2 ^ (j + 1); omega), (by show pre.length ≤ j + 1; omega)⟩
            rw [upd_same]
            rfl
          have BN := B9.push htdn hft hx
          refine ⟨td, _, _, rfl, rfl, B9.ht, small (by omega), ?_⟩
          refine ⟨sum2 wgt (xs ++ [(j + 1, st, pre)]), ?_, fs, xs ++ [(j + 1, st, pre)], fvs, _, _, _, _, _, _, _, _, rfl, BN.e, BN.hf, BN.ht, BN.hF, BN.hI, ?_, ?_, rfl⟩
          · rw [sum2_append]
            simp only [sum2, w1]
            omega
          · rw [← hhv, toHv_last, hd, hv_same hA hB hC]
          · rw [sum2_append]
            simp only [sum2, w1]
            omega
        | false =>
        refine iteF ?_
        refine ⟨_, rfl, .inl ⟨rfl, _, SqL.of B8.ht⟩, _, rfl, _, _, rfl, rfl, _, rfl, _, rfl, _, rfl, _, _, _, rfl, rfl, (by show 4 ≤ sizeLine; decide), abcd_at hj4, (by show 2 ≤ sizeLine; decide), fun p1 hp1 => ⟨(by show 1 ≤ sizeLine; decide), fun p2 hp2 => ?_⟩⟩
        have s1 := same_new hp1 (.tup [.str (ltr j), .bl false])
        have s2 := same_new hp2 (.lst [.ref p1])
        have B1 := B8.same (s1.trans s2)
        obtain ⟨_, ps, ew, hps, hS, n1, n2⟩ := id B1.hw
        cases ew
        have hpsl := hS.length
        refine ⟨w, p2, ps, _, rfl, rfl, hps, upd_same, Nat.le_of_lt (small (by simp; omega)), fun p3 hp3 => ⟨(by show 3 ≤ sizeLine; decide), fun p4 hp4 => ?_⟩⟩
        have s3 := same_new hp3 (.lst (ps ++ [.ref p1]))
        have n3f : fo ≠ p3 := ne_of_none B1.hf hp3
        have n3t : td ≠ p3 := ne_of_none B1.ht hp3
        have s4 := same_new hp4 (.tup [.int ((j : Int) + 1), .int ((st : Nat) : Int), .ref p3])
        have B2 := B1.same (s3.trans s4)
        have hx : ItemX (upd (upd (upd (upd H8 p1 (.tup [.str (ltr j), .bl false])) p2 (.lst [.ref p1])) p3 (.lst (ps ++ [.ref p1]))) p4 (.tup [.int ((j : Int) + 1), .int ((st : Nat) : Int), .ref p3])) fo td (j + 1, st, pre ++ [(j, false)]) (.ref p4) := by
          refine ⟨p4, p3, rfl, ?_, ⟨p3, ps ++ [.ref p1], rfl, s4 _ _ upd_same, ?_, Ne.symm n3f, Ne.symm n3t⟩, (by show j + 1 ≤ 4; omega), (by show st < 2 ^ (j + 1); omega), (by show (pre ++ [(j, false)]).length ≤ j + 1; simp; omega)⟩
          · rw [upd_same]
            show some (HO.tup [.int ((j : Int) + 1), .int ((st : Nat) : Int), .ref p3]) = some (HO.tup [.int ((j + 1 : Nat) : Int), .int ((st : Nat) : Int), .ref p3])
            rw [Int.natCast_add]
            rfl
          · exact ((hS.mono fun x y ⟨a, e1, h1⟩ => ⟨a, e1, (s3.trans s4) _ _ h1⟩).append (.cons ⟨p1, rfl, (s3.trans s4) _ _ (s2 _ _ upd_same)⟩ .nil))
        have BN := B2.push htdn hft hx
        refine ⟨td, _, _, rfl, rfl, B2.ht, small (by omega), ?_⟩
        have B10 := BN
        clear BN B2 B1 B8 hx hS hps
        refine ⟨_, rfl, .inl ⟨rfl, _, SqL.of B10.ht⟩, _, rfl, _, _, rfl, rfl, _, rfl, _, rfl, _, _, rfl, rfl, _, rfl, _, rfl, _, _, _, rfl, rfl, (by show 4 ≤ sizeLine; decide), abcd_at hj4, (by show 2 ≤ sizeLine; decide), fun q1 hq1 => ⟨(by show 1 ≤ sizeLine; decide), fun q2 hq2 => ?_⟩⟩
        have s1 := same_new hq1 (.tup [.str (ltr j), .bl true])
        have s2 := same_new hq2 (.lst [.ref q1])
        have B1 := B10.same (s1.trans s2)
        obtain ⟨_, qs, ew, hps, hS, n1, n2⟩ := id B1.hw
        cases ew
        have hpsl := hS.length
        refine ⟨w, q2, qs, _, rfl, rfl, hps, upd_same, Nat.le_of_lt (small (by simp; omega)), fun q3 hq3 => ⟨(by show 3 ≤ sizeLine; decide), fun q4 hq4 => ?_⟩⟩
        have s3 := same_new hq3 (.lst (qs ++ [.ref q1]))
        have n3f : fo ≠ q3 := ne_of_none B1.hf hq3
        have n3t : td ≠ q3 := ne_of_none B1.ht hq3
        have s4 := same_new hq4 (.tup [.int ((j : Int) + 1), .int (((st : Nat) : Int) + ((2 ^ j : Nat) : Int)), .ref q3])
        have B2 := B1.same (s3.trans s4)
        have hx : ItemX (upd (upd (upd (upd (upd (upd (upd (upd (upd H8 p1 (.tup [.str (ltr j), .bl false])) p2 (.lst [.ref p1])) p3 (.lst (ps ++ [.ref p1]))) p4 (.tup [.int ((j : Int) + 1), .int ((st : Nat) : Int), .ref p3])) td (.lst (us ++ [.ref p4]))) q1 (.tup [.str (ltr j), .bl true])) q2 (.lst [.ref q1])) q3 (.lst (qs ++ [.ref q1]))) q4 (.tup [.int ((j : Int) + 1), .int (((st : Nat) : Int) + ((2 ^ j : Nat) : Int)), .ref q3])) fo td (j + 1, (st + 2 ^ j), pre ++ [(j, true)]) (.ref q4) := by
          refine ⟨q4, q3, rfl, ?_, ⟨q3, qs ++ [.ref q1], rfl, s4 _ _ upd_same, ?_, Ne.symm n3f, Ne.symm n3t⟩, (by show j + 1 ≤ 4; omega), (by show (st + 2 ^ j) < 2 ^ (j + 1); omega), (by show (pre ++ [(j, true)]).length ≤ j + 1; simp; omega)⟩
          · rw [upd_same]
            show some (HO.tup [.int ((j : Int) + 1), .int (((st : Nat) : Int) + ((2 ^ j : Nat) : Int)), .ref q3]) = some (HO.tup [.int ((j + 1 : Nat) : Int), .int (((st + 2 ^ j) : Nat) : Int), .ref q3])
            rw [Int.natCast_add, Int.natCast_add]
            rfl
          · exact ((hS.mono fun x y ⟨a, e1, h1⟩ => ⟨a, e1, (s3.trans s4) _ _ h1⟩).append (.cons ⟨q1, rfl, (s3.trans s4) _ _ (s2 _ _ upd_same)⟩ .nil))
        have BN := B2.push htdn hft hx
        refine ⟨td, _, _, rfl, rfl, B2.ht, small (by simp; omega), ?_⟩
        refine ⟨sum2 wgt (xs ++ [(j + 1, st, pre ++ [(j, false)])] ++ [(j + 1, st + 2 ^ j, pre ++ [(j, true)])]), ?_, fs, _, fvs, _, _, _, _, _, _, _, _, rfl, BN.e, BN.hf, BN.ht, BN.hF, BN.hI, ?_, ?_, rfl⟩
        · rw [sum2_append, sum2_append]
          simp only [sum2, w1]
          have := Nat.two_pow_pos (4 - j)
          omega
        · rw [← hhv, toHv_last, toHv_last, hd, hv_split hA hB hC]
          simp only [List.append_assoc]
        · rw [sum2_append, sum2_append]
          simp only [sum2, w1]
          have := Nat.two_pow_pos (4 - j)
          omega
  · have z : tvs = [] := by
      cases tvs with
      | nil => rfl
      | cons _ _ => exact absurd rfl cc
    subst z
    have z2 : its = [] := List.length_eq_zero_iff.mp hI3.length.symm
    subst z2
    have z3 : fs = hv t 4 0 0 [] := by simpa [toHv] using hhv
    subst z3
    refine ⟨_, rfl, q fo fvs H3 e3 hf3 (hF3.mono fun x y ⟨l, ps, e, hl, hA, _⟩ => ⟨l, ps, e, hl, hA⟩)⟩
end
end FG
namespace FG
open PySem L2
/-! ### law -/
theorem cut_to {xs : List V} {k : Nat} (h : xs.length ≤ k) : cutV xs none (some (k : Int)) = xs := by
  unfold cutV
  rw [HT.sIx_none, HT.sIx_nat]
  simp [Nat.min_eq_right h]
theorem set_bits : ∀ n, n < 16 → ∀ j, j < 4 → inV (.str (ltr j)) ((setL n).map V.str) = bit j n := by decide +kernel
theorem bt_int : bootBuiltins "int" = some (.type "int") := by decide +kernel
theorem wy_rise : ∀ (f : Fm) (lo : Nat), fok lo f → ∀ x ∈ wy f, rising lo x
  | .lf true, lo, _, x, h => by
    have e : x = [] := by simpa [wy] using h
    subst e
    trivial
  | .lf false, lo, _, x, h => by simp [wy] at h
  | .fk j s o, lo, hf, x, h => by
    obtain ⟨h1, h2, _, h3, h4⟩ := hf
    rcases List.mem_append.mp (show x ∈ (wy s).map ((j, true) :: ·) ++ (wy o).map ((j, false) :: ·) from h) with h | h
    · obtain ⟨y, hy, rfl⟩ := List.mem_map.mp h
      exact ⟨h1, h2, wy_rise s _ h3 y hy⟩
    · obtain ⟨y, hy, rfl⟩ := List.mem_map.mp h
      exact ⟨h1, h2, wy_rise o _ h4 y hy⟩
theorem rise_lt : ∀ (x : Wy) (lo : Nat), rising lo x → ∀ y ∈ x, y.1 < 4
  | [], _, _, y, h => by cases h
  | (j, c) :: r, lo, hr, y, h => by
    obtain ⟨_, h2, h3⟩ := hr
    rcases List.mem_cons.mp h with rfl | h
    · exact h2
    · exact rise_lt r _ h3 y h
theorem All2.both {α β : Type} {R : α → β → Prop} {xs : List α} {ys zs : List β} (h1 : All2 R xs ys) (h2 : All2 R xs zs) {i : Nat} {y z : β} (hy : ys[i]? = some y) (hz : zs[i]? = some z) : ∃ x, R x y ∧ R x z := by
  obtain ⟨x, hx, rx⟩ := h1.at hy
  obtain ⟨x', hx', rx'⟩ := h2.at hz
  rw [hx] at hx'
  cases hx'
  exact ⟨x, rx, rx'⟩
section
variable {X : Cx} {H : Hp}
theorem all_yes (n : Nat) : (List.range n).all (fun _ => true) = true := by
  rw [List.all_eq_true]
  intro _ _
  rfl
theorem eq_step {x : Nat × Bool} {u v : V} (h1 : StepAt H x u) (h2 : StepAt H x v) : EqO X H 8 u v true := by
  obtain ⟨a, rfl, ha⟩ := h1
  obtain ⟨b, rfl, hb⟩ := h2
  refine EqO.refs ?_ (fun _ => rfl)
  have q := RcO.tups (X := X) (H := H) (k := 7) (e := fun _ => true) (SqT.of ha) (SqT.of hb) (fun i y z hy hz => by
    match i with
    | 0 =>
      cases hy
      cases hz
      have e : eqV (.str (ltr x.1)) (.str (ltr x.1)) = true := by
        show (ltr x.1 == ltr x.1) = true
        exact beq_self_eq_true _
      simp only [← e]
      exact EqO.flat rfl rfl
    | 1 =>
      cases hy
      cases hz
      have e : eqV (.bl x.2) (.bl x.2) = true := by cases x.2 <;> rfl
      simp only [← e]
      exact EqO.flat rfl rfl
    | i + 2 => cases hy)
  exact q
theorem eq_way {x : Wy} {u v : V} (h1 : WayAt H x u) (h2 : WayAt H x v) : EqO X H 16 u v true := by
  obtain ⟨a, ps, rfl, ha, hA⟩ := h1
  obtain ⟨b, qs, rfl, hb, hB⟩ := h2
  refine EqO.refs ?_ (fun _ => rfl)
  have q := RcO.lists (X := X) (H := H) (k := 8) (e := fun _ => true) (SqL.of ha) (SqL.of hb) (by rw [hA.length, hB.length]) (fun i y z hy hz => by
    obtain ⟨w, hw1, hw2⟩ := hA.both hB hy hz
    exact eq_step hw1 hw2)
  rw [all_yes] at q
  exact rcO_mono q (by decide)
theorem rc_ways {xs : List Wy} {l l2 : Addr} {ps qs : List V} (h1 : H l = some (.lst ps)) (h2 : H l2 = some (.lst qs)) (hA : All2 (WayAt H) xs ps) (hB : All2 (WayAt H) xs qs) : RcO X H 32 (.ref l) (.ref l2) true := by
  have q := RcO.lists (X := X) (H := H) (k := 16) (e := fun _ => true) (SqL.of h1) (SqL.of h2) (by rw [hA.length, hB.length]) (fun i y z hy hz => by
    obtain ⟨w, hw1, hw2⟩ := hA.both hB hy hz
    exact eq_way hw1 hw2)
  rw [all_yes] at q
  exact rcO_mono q (by decide)
end
section
variable {P : Program} {w : World} {K : PySem.W.Frag} {mg : Str → Option Value} {base : Heap}
def spLaw (K : PySem.W.Frag) : Sp := fun vs H Q _ => ∃ (a : Addr) (ns : List Int), vs = [.ref a] ∧ SqL K H a (ns.map V.int) ∧ ns.length ≤ 63 ∧ ∀ H', Q (.bl true) H'
theorem scLaw : FnScope ["_law_script", "_law_made", "_law_found", "_law_one", "_law_n", "_law_setting", "_law_fitting"] ["_law_script"] (defScope sLaw) := ⟨rfl, rfl, rfl, by decide +kernel, rfl, by decide +kernel, by decide +kernel⟩
theorem ok_law {f fB fY fZ fS fT fH : Addr} {fd dB dY dZ dS dT dH : FuncData} (F : Fun K "law" "law" sLaw f fd) (mr : mg "range" = none) (mI : mg "isinstance" = none) (mLi : mg "list" = none) (mIn : mg "int" = none)
    (GB : FnOk P w K mg base CX0 3 fB dB ["_law_cells"] (spBuilt K)) (kB : PySem.W.keepIn K (.ref fB) = true) (bB : Binds K dB ["_law_cells"] []) (mB : mg "_law_built" = some (.ref fB))
    (GY : FnOk P w K mg base CX0 10 fY dY ["statement"] spWays) (kY : PySem.W.keepIn K (.ref fY) = true) (bY : Binds K dY ["statement"] []) (mY : mg "ways" = some (.ref fY))
    (GZ : FnOk P w K mg base CX0 1 fZ dZ ["_law_found"] spIsWay) (kZ : PySem.W.keepIn K (.ref fZ) = true) (bZ : Binds K dZ ["_law_found"] []) (mZ : mg "_law_is_way" = some (.ref fZ))
    (GS : FnOk P w K mg base CX0 2 fS dS ["_law_n"] spSet) (kS : PySem.W.keepIn K (.ref fS) = true) (bS : Binds K dS ["_law_n"] []) (mS : mg "_law_set_at" = some (.ref fS))
    (GT : FnOk P w K mg base CX0 1 fT dT ["_law_one", "_law_setting"] (spFits K)) (kT : PySem.W.keepIn K (.ref fT) = true) (bT : Binds K dT ["_law_one", "_law_setting"] []) (mT : mg "_law_fits" = some (.ref fT))
    (GH : FnOk P w K mg base CX0 1 fH dH ["_law_column"] spHalved) (kH : PySem.W.keepIn K (.ref fH) = true) (bH : Binds K dH ["_law_column"] []) (mH : mg "_law_halved" = some (.ref fH)) : FnOk P w K mg base CX0 11 f fd ["_law_script"] (spLaw K) := by
  refine F.ok scLaw (fun vs H Q E h => ?_) (fun cdv A outer s H vs Q E hr h => ?_)
  · obtain ⟨a, ns, rfl, _⟩ := h
    rfl
  obtain ⟨a, ns, rfl, hS, h63, q⟩ := h
  have hrB : Room 3 _ := hr.mono (by decide)
  have hrY : Room 10 _ := hr
  have hrZ : Room 1 _ := hr.mono (by decide)
  have hrS : Room 2 _ := hr.mono (by decide)
  have hrT : Room 1 _ := hr.mono (by decide)
  have hrH : Room 1 _ := hr.mono (by decide)
  refine ⟨_, (pss_cons (ps_set (i := 0) scLaw.nd rfl (Or.inl rfl) (pe_slice sl_list (pv 0) po_none (po_some pe_int)))
      (pss_cons (ps_set (i := 1) scLaw.nd rfl (Or.inl rfl) (pe_call GB hrB rfl mB kB bB .nil pass0 (pa_cons (pv 0) pa_nil)))
      (pss_cons (ps_set (i := 2) scLaw.nd rfl (Or.inl rfl) (pe_call GY hrY rfl mY kY bY .nil pass0 (pa_cons (pe_ix ix_tup (pv 1) pe_int (fun _ _ => rfl)) pa_nil)))
      (pss_cons (ps_if (pt_not (pt_val (pe_callB call_isinst rfl mI bt_isi (pa_cons (pv 2) (pa_cons (pe_bltn (v := .ty "list") rfl mLi bt_list rfl) pa_nil))))) (pss_one (ps_ret pe_bl)) pss_nil)
      (pss_cons (ps_for PassesOwn.never rfl (pi_list (pv 2)) (pg_name (i := 3) scLaw.nd rfl (Or.inl rfl)) (pss_one (ps_if (pt_not (pt_val (pe_call GZ hrZ rfl mZ kZ bZ .nil pass0 (pa_cons (pv 3) pa_nil)))) (pss_one (ps_ret pe_bl)) pss_nil)))
      (pss_cons (ps_for PassesOwn.never rfl (pi_range1 rfl mr (pa_cons pe_int pa_nil)) (pg_name (i := 4) scLaw.nd rfl (Or.inl rfl)) (pss_cons (ps_set (i := 5) scLaw.nd rfl (Or.inl rfl) (pe_call GS hrS rfl mS kS bS .nil pass0 (pa_cons (pv 4) pa_nil)))
      (pss_cons (ps_set (i := 6) scLaw.nd rfl (Or.inl rfl) pe_int)
      (pss_cons (ps_for PassesOwn.never rfl (pi_list (pv 2)) (pg_name (i := 3) scLaw.nd rfl (Or.inl rfl)) (pss_one (ps_if (pt_val (pe_call GT hrT rfl mT kT bT .nil pass0 (pa_cons (pv 3) (pa_cons (pv 5) pa_nil)))) (pss_one (ps_set (i := 6) scLaw.nd rfl (Or.inl rfl) (pe_op op_add (pv 6) pe_int))) pss_nil)))
      (pss_one (ps_if (pt_cmpR op_ne (pv 6) (pe_callTy call_int1 rfl mIn bt_int (pa_cons (pe_ix ix_list (pe_ix ix_tup (pv 1) pe_int (fun _ _ => rfl)) (pv 4) (fun _ _ => rfl)) pa_nil)) (nomark _)) (pss_one (ps_ret pe_bl)) pss_nil))))))
      (pss_one (ps_ret (pe_cmpR (op_eqG hr.units) (pv 2) (pe_call GH hrH rfl mH kH bH .nil pass0 (pa_cons (pe_ix ix_tup (pv 1) pe_int (fun _ _ => rfl)) pa_nil)) (by with_unfolding_all rfl)))))))))), ?_⟩
  refine ⟨_, rfl, _, rfl, a, _, rfl, hS, fun b hb => ?_⟩
  have e1 : cutV (ns.map V.int) none (some 100) = ns.map V.int := cut_to (k := 100) (by rw [List.length_map]; omega)
  rw [e1]
  refine ⟨_, rfl, b, ns, rfl, SqL.of upd_same, h63, fun s0 v cc H1 e1 hP hz => ?_⟩
  obtain ⟨a0, u, rfl, ha0, hR0, hcc⟩ := hP
  refine ⟨_, rfl, a0, _, 0, u, rfl, rfl, SqT.of ha0, atI_nat (j := 0) rfl, s0, u, rfl, hR0, by omega, fun fm l ps H2 e2 hok hend hl hA => ?_⟩
  refine ⟨_, rfl, _, _, _, _, rfl, TyOf.lst hl, kit_same _ _, _, rfl, iteF ?_⟩
  refine ⟨_, rfl, l, rfl, ⟨_, SqL.of hl⟩, for_list (K := K) (a := l) (xs := ps) (fun i σ H3 => ∃ o, σ = [some (.ref b), some (.ref a0), some (.ref l), o, none, none, none] ∧ Same H2 H3) ⟨none, rfl, Same.refl _⟩ (fun i σ H3 _ ⟨_, _, e3⟩ => SqL.of (e3 _ _ hl)) ?_ ?_⟩
  · rintro i x σ H3 hi ⟨o, rfl, e3⟩
    obtain ⟨y, hy, hway⟩ := hA.at hi
    exact ⟨_, rfl, y, x, rfl, hway.same e3, wy_rise fm 0 hok y (List.mem_of_getElem? hy), fun H4 e4 => ⟨_, rfl, iteF ⟨_, rfl, e3.trans e4⟩⟩⟩
  rintro σ H3 ⟨o, rfl, e3⟩
  refine ⟨16, rfl, by decide, by decide, for_range (lo := 0) (n := (16 : Int).toNat) (fun i σ H5 => ∃ o3 o4 o5 o6, σ = [some (.ref b), some (.ref a0), some (.ref l), o3, o4, o5, o6] ∧ Same H3 H5) ⟨_, _, _, _, rfl, Same.refl _⟩ ?_ ?_⟩
  · rintro i σ H5 hi ⟨o3, o4, o5, o6, rfl, e5⟩
    have hi16 : i < 16 := hi
    have en : (0 : Int) + (i : Int) = ((i : Nat) : Int) := by omega
    rw [en]
    refine ⟨_, rfl, i, rfl, hi16, fun g H6 e6 hg hg6 => ?_⟩
    have e26 := e3.trans (e5.trans e6)
    refine ⟨_, rfl, l, rfl, ⟨_, SqL.of (e26 _ _ hl)⟩, for_list (K := K) (a := l) (xs := ps)
      (fun k σ H7 => ∃ o, σ = [some (.ref b), some (.ref a0), some (.ref l), o, some (.int ((i : Nat) : Int)), some (.ref g), some (.int (((((wy fm).take k).filter fun x => wfits x i).length : Nat) : Int))] ∧ Same H6 H7) ⟨_, rfl, Same.refl _⟩ (fun k σ H7 _ ⟨_, _, e7⟩ => SqL.of (e7 _ _ (e26 _ _ hl))) ?_ ?_⟩
    · rintro k x σ H7 hk ⟨o, rfl, e7⟩
      obtain ⟨y, hy, hway⟩ := hA.at hk
      have hm := List.mem_of_getElem? hy
      refine ⟨_, rfl, _, rfl, y, x, g, setL i, i, rfl, hway.same (e26.trans e7), rise_lt y 0 (wy_rise fm 0 hok y hm), SqL.of (e7 _ _ hg6), set_bits i hi16, _, rfl, ?_⟩
      have ht : (wy fm).take (k + 1) = (wy fm).take k ++ [y] := by rw [List.take_succ, hy]; rfl
      cases hw : wfits y i with
      | true =>
        have hn : (((wy fm).take (k + 1)).filter fun x => wfits x i).length = (((wy fm).take k).filter fun x => wfits x i).length + 1 := by
          rw [ht, List.filter_append, List.length_append]
          simp [hw]
        refine iteT ⟨_, rfl, _, _, rfl, rfl, some x, ?_, e7⟩
        rw [hn, Int.natCast_add]
        rfl
      | false =>
        have hn : (((wy fm).take (k + 1)).filter fun x => wfits x i).length = (((wy fm).take k).filter fun x => wfits x i).length := by
          rw [ht, List.filter_append, List.length_append]
          simp [hw]
        refine iteF ⟨some x, ?_, e7⟩
        rw [hn]
        rfl
    · rintro σ H7 ⟨o, rfl, e7⟩
      have e27 := e26.trans e7
      refine ⟨_, rfl, _, rfl, a0, _, 1, .ref cc, rfl, rfl, SqT.of (e27 _ _ (e2 _ _ ha0)), atI_nat (j := 1) rfl, _, rfl, cc, _, _, .bl (val s0 i), rfl, rfl, SqL.of (e27 _ _ (e2 _ _ hcc)), ?_, .inr ⟨_, rfl, rfl, _, rfl, ?_⟩⟩
      · exact atI_nat (by rw [List.getElem?_map, tab_get s0 _ hi16]; rfl)
      have z : (wy fm).take ps.length = wy fm := List.take_of_length_le (by rw [hA.length]; exact Nat.le_refl _)
      have z2 : ((wy fm).filter fun x => wfits x i).length = if fend fm i then 1 else 0 := wy_fits fm i
      refine iteNS ?_ ⟨_, _, _, _, rfl, e5.trans (e6.trans e7)⟩
      rw [z, z2, hend i hi16]
      cases val s0 i <;> rfl
  · rintro σ H5 ⟨o3, o4, o5, o6, rfl, e5⟩
    have e25 := e3.trans e5
    refine ⟨_, rfl, _, rfl, a0, _, 1, .ref cc, rfl, rfl, SqT.of (e25 _ _ (e2 _ _ ha0)), atI_nat (j := 1) rfl, cc, val s0, rfl, e25 _ _ (e2 _ _ hcc), fun l2 ps2 H6 e6 hl2 hA2 => ?_⟩
    rw [ways_are hok hend] at hA2
    have e26 := e25.trans e6
    exact ⟨_, rc_ways (e26 _ _ hl) hl2 (hA.mono fun _ _ z => z.same e26) hA2, q _⟩
end
end FG
namespace FG
open PySem L2
theorem all_mk {l : PySem.W.OpenLaw} {w : World} {K : PySem.W.Frag} {h : Heap} {mg : Str → Option Value} {fa f0 f1 f2 f3 f4 f5 f6 f7 f8 f9 f10 f11 f12 f13 f14 f15 f16 f17 f18 f19 f20 f21 t0 : Addr} (X : K.In h) (G : h.Ns mainGlobals mg) (hfa : mg "law" = some (.ref fa))
    {od0 an0 od1 an1 od2 an2 od3 an3 od4 an4 od5 an5 od6 an6 od7 an7 od8 an8 od9 an9 od10 an10 od11 an11 od12 an12 od13 an13 od14 an14 od15 an15 od16 an16 od17 an17 od18 an18 od19 an19 od20 an20 od21 an21 : Option Addr} {sl0 sl1 sl2 sl3 sl4 sl5 sl6 sl7 sl8 sl9 sl10 sl11 sl12 sl13 sl14 sl15 sl16 sl17 sl18 sl19 sl20 sl21 : Array (Option Value)} {oc0 kV0 dc0 pm0 cd0 ct0 oc1 kV1 dc1 pm1 cd1 ct1 oc2 kV2 dc2 pm2 cd2 ct2 oc3 kV3 dc3 pm3 cd3 ct3 oc4 kV4 dc4 pm4 cd4 ct4 oc5 kV5 dc5 pm5 cd5 ct5 oc6 kV6 dc6 pm6 cd6 ct6 oc7 kV7 dc7 pm7 cd7 ct7 oc8 kV8 dc8 pm8 cd8 ct8 oc9 kV9 dc9 pm9 cd9 ct9 oc10 kV10 dc10 pm10 cd10 ct10 oc11 kV11 dc11 pm11 cd11 ct11 oc12 kV12 dc12 pm12 cd12 ct12 oc13 kV13 dc13 pm13 cd13 ct13 oc14 kV14 dc14 pm14 cd14 ct14 oc15 kV15 dc15 pm15 cd15 ct15 oc16 kV16 dc16 pm16 cd16 ct16 oc17 kV17 dc17 pm17 cd17 ct17 oc18 kV18 dc18 pm18 cd18 ct18 oc19 kV19 dc19 pm19 cd19 ct19 oc20 kV20 dc20 pm20 cd20 ct20 oc21 kV21 dc21 pm21 cd21 ct21 : Value}
    {ot0 : Option Addr} {it0 : Array Value} {nt0 : Nat} {qt0 : Array (Option Value)}
    (a0 : PySem.W.nsIn K mainGlobals "told_at" = some (some (.ref f0))) (l0 : K.lookup f0 = some ⟨oc0, od0, .func (PySem.W.fnOf "told_at" "told_at" (defArgs sTold) (defBody sTold) (defScope sTold) .none kV0 dc0 pm0 an0 cd0 ct0), sl0⟩) (c0 : PySem.W.codeIn K cd0 "told_at" = true) (k0 : PySem.W.keepIn K (.ref f0) = true)
    (a1 : PySem.W.nsIn K mainGlobals "every_setting" = some (some (.ref f1))) (l1 : K.lookup f1 = some ⟨oc1, od1, .func (PySem.W.fnOf "every_setting" "every_setting" (defArgs sEverySetting) (defBody sEverySetting) (defScope sEverySetting) .none kV1 dc1 pm1 an1 cd1 ct1), sl1⟩) (c1 : PySem.W.codeIn K cd1 "every_setting" = true) (k1 : PySem.W.keepIn K (.ref f1) = true)
    (a2 : PySem.W.nsIn K mainGlobals "told_everywhere" = some (some (.ref f2))) (l2 : K.lookup f2 = some ⟨oc2, od2, .func (PySem.W.fnOf "told_everywhere" "told_everywhere" (defArgs sToldEverywhere) (defBody sToldEverywhere) (defScope sToldEverywhere) .none kV2 dc2 pm2 an2 cd2 ct2), sl2⟩) (c2 : PySem.W.codeIn K cd2 "told_everywhere" = true) (k2 : PySem.W.keepIn K (.ref f2) = true)
    (a3 : PySem.W.nsIn K mainGlobals "steps_of" = some (some (.ref f3))) (l3 : K.lookup f3 = some ⟨oc3, od3, .func (PySem.W.fnOf "steps_of" "steps_of" (defArgs sSteps) (defBody sSteps) (defScope sSteps) .none kV3 dc3 pm3 an3 cd3 ct3), sl3⟩) (c3 : PySem.W.codeIn K cd3 "steps_of" = true) (k3 : PySem.W.keepIn K (.ref f3) = true)
    (a4 : PySem.W.nsIn K mainGlobals "holds" = some (some (.ref f4))) (l4 : K.lookup f4 = some ⟨oc4, od4, .func (PySem.W.fnOf "holds" "holds" (defArgs sHolds) (defBody sHolds) (defScope sHolds) .none kV4 dc4 pm4 an4 cd4 ct4), sl4⟩) (c4 : PySem.W.codeIn K cd4 "holds" = true) (k4 : PySem.W.keepIn K (.ref f4) = true)
    (a5 : PySem.W.nsIn K mainGlobals "joined" = some (some (.ref f5))) (l5 : K.lookup f5 = some ⟨oc5, od5, .func (PySem.W.fnOf "joined" "joined" (defArgs sJoined) (defBody sJoined) (defScope sJoined) .none kV5 dc5 pm5 an5 cd5 ct5), sl5⟩) (c5 : PySem.W.codeIn K cd5 "joined" = true) (k5 : PySem.W.keepIn K (.ref f5) = true)
    (a6 : PySem.W.nsIn K mainGlobals "forked" = some (some (.ref f6))) (l6 : K.lookup f6 = some ⟨oc6, od6, .func (PySem.W.fnOf "forked" "forked" (defArgs sForked) (defBody sForked) (defScope sForked) .none kV6 dc6 pm6 an6 cd6 ct6), sl6⟩) (c6 : PySem.W.codeIn K cd6 "forked" = true) (k6 : PySem.W.keepIn K (.ref f6) = true)
    (a7 : PySem.W.nsIn K mainGlobals "forks_over" = some (some (.ref f7))) (l7 : K.lookup f7 = some ⟨oc7, od7, .func (PySem.W.fnOf "forks_over" "forks_over" (defArgs sForksOver) (defBody sForksOver) (defScope sForksOver) .none kV7 dc7 pm7 an7 cd7 ct7), sl7⟩) (c7 : PySem.W.codeIn K cd7 "forks_over" = true) (k7 : PySem.W.keepIn K (.ref f7) = true)
    (a8 : PySem.W.nsIn K mainGlobals "fork_of" = some (some (.ref f8))) (l8 : K.lookup f8 = some ⟨oc8, od8, .func (PySem.W.fnOf "fork_of" "fork_of" (defArgs sForkOf) (defBody sForkOf) (defScope sForkOf) .none kV8 dc8 pm8 an8 cd8 ct8), sl8⟩) (c8 : PySem.W.codeIn K cd8 "fork_of" = true) (k8 : PySem.W.keepIn K (.ref f8) = true)
    (a9 : PySem.W.nsIn K mainGlobals "ways" = some (some (.ref f9))) (l9 : K.lookup f9 = some ⟨oc9, od9, .func (PySem.W.fnOf "ways" "ways" (defArgs sWays) (defBody sWays) (defScope sWays) .none kV9 dc9 pm9 an9 cd9 ct9), sl9⟩) (c9 : PySem.W.codeIn K cd9 "ways" = true) (k9 : PySem.W.keepIn K (.ref f9) = true)
    (a10 : PySem.W.nsIn K mainGlobals "ways_of" = some (some (.ref f10))) (l10 : K.lookup f10 = some ⟨oc10, od10, .func (PySem.W.fnOf "ways_of" "ways_of" (defArgs sWaysOf) (defBody sWaysOf) (defScope sWaysOf) .none kV10 dc10 pm10 an10 cd10 ct10), sl10⟩) (c10 : PySem.W.codeIn K cd10 "ways_of" = true) (k10 : PySem.W.keepIn K (.ref f10) = true)
    (a11 : PySem.W.nsIn K mainGlobals "ways_on" = some (some (.ref f11))) (l11 : K.lookup f11 = some ⟨oc11, od11, .func (PySem.W.fnOf "ways_on" "ways_on" (defArgs sWaysOn) (defBody sWaysOn) (defScope sWaysOn) .none kV11 dc11 pm11 an11 cd11 ct11), sl11⟩) (c11 : PySem.W.codeIn K cd11 "ways_on" = true) (k11 : PySem.W.keepIn K (.ref f11) = true)
    (a12 : PySem.W.nsIn K mainGlobals "_law_weight" = some (some (.ref f12))) (l12 : K.lookup f12 = some ⟨oc12, od12, .func (PySem.W.fnOf "_law_weight" "_law_weight" (defArgs sWeight) (defBody sWeight) (defScope sWeight) .none kV12 dc12 pm12 an12 cd12 ct12), sl12⟩) (c12 : PySem.W.codeIn K cd12 "_law_weight" = true) (k12 : PySem.W.keepIn K (.ref f12) = true)
    (a13 : PySem.W.nsIn K mainGlobals "_law_leaf" = some (some (.ref f13))) (l13 : K.lookup f13 = some ⟨oc13, od13, .func (PySem.W.fnOf "_law_leaf" "_law_leaf" (defArgs sLeaf) (defBody sLeaf) (defScope sLeaf) .none kV13 dc13 pm13 an13 cd13 ct13), sl13⟩) (c13 : PySem.W.codeIn K cd13 "_law_leaf" = true) (k13 : PySem.W.keepIn K (.ref f13) = true)
    (a14 : PySem.W.nsIn K mainGlobals "_law_turned" = some (some (.ref f14))) (l14 : K.lookup f14 = some ⟨oc14, od14, .func (PySem.W.fnOf "_law_turned" "_law_turned" (defArgs sTurned) (defBody sTurned) (defScope sTurned) .none kV14 dc14 pm14 an14 cd14 ct14), sl14⟩) (c14 : PySem.W.codeIn K cd14 "_law_turned" = true) (k14 : PySem.W.keepIn K (.ref f14) = true)
    (a15 : PySem.W.nsIn K mainGlobals "_law_two" = some (some (.ref f15))) (l15 : K.lookup f15 = some ⟨oc15, od15, .func (PySem.W.fnOf "_law_two" "_law_two" (defArgs sTwo) (defBody sTwo) (defScope sTwo) .none kV15 dc15 pm15 an15 cd15 ct15), sl15⟩) (c15 : PySem.W.codeIn K cd15 "_law_two" = true) (k15 : PySem.W.keepIn K (.ref f15) = true)
    (a16 : PySem.W.nsIn K mainGlobals "_law_built" = some (some (.ref f16))) (l16 : K.lookup f16 = some ⟨oc16, od16, .func (PySem.W.fnOf "_law_built" "_law_built" (defArgs sBuilt) (defBody sBuilt) (defScope sBuilt) .none kV16 dc16 pm16 an16 cd16 ct16), sl16⟩) (c16 : PySem.W.codeIn K cd16 "_law_built" = true) (k16 : PySem.W.keepIn K (.ref f16) = true)
    (a17 : PySem.W.nsIn K mainGlobals "_law_set_at" = some (some (.ref f17))) (l17 : K.lookup f17 = some ⟨oc17, od17, .func (PySem.W.fnOf "_law_set_at" "_law_set_at" (defArgs sSet) (defBody sSet) (defScope sSet) .none kV17 dc17 pm17 an17 cd17 ct17), sl17⟩) (c17 : PySem.W.codeIn K cd17 "_law_set_at" = true) (k17 : PySem.W.keepIn K (.ref f17) = true)
    (a18 : PySem.W.nsIn K mainGlobals "_law_is_way" = some (some (.ref f18))) (l18 : K.lookup f18 = some ⟨oc18, od18, .func (PySem.W.fnOf "_law_is_way" "_law_is_way" (defArgs sIsWay) (defBody sIsWay) (defScope sIsWay) .none kV18 dc18 pm18 an18 cd18 ct18), sl18⟩) (c18 : PySem.W.codeIn K cd18 "_law_is_way" = true) (k18 : PySem.W.keepIn K (.ref f18) = true)
    (a19 : PySem.W.nsIn K mainGlobals "_law_fits" = some (some (.ref f19))) (l19 : K.lookup f19 = some ⟨oc19, od19, .func (PySem.W.fnOf "_law_fits" "_law_fits" (defArgs sFits) (defBody sFits) (defScope sFits) .none kV19 dc19 pm19 an19 cd19 ct19), sl19⟩) (c19 : PySem.W.codeIn K cd19 "_law_fits" = true) (k19 : PySem.W.keepIn K (.ref f19) = true)
    (a20 : PySem.W.nsIn K mainGlobals "_law_halved" = some (some (.ref f20))) (l20 : K.lookup f20 = some ⟨oc20, od20, .func (PySem.W.fnOf "_law_halved" "_law_halved" (defArgs sHalved) (defBody sHalved) (defScope sHalved) .none kV20 dc20 pm20 an20 cd20 ct20), sl20⟩) (c20 : PySem.W.codeIn K cd20 "_law_halved" = true) (k20 : PySem.W.keepIn K (.ref f20) = true)
    (a21 : PySem.W.nsIn K mainGlobals "law" = some (some (.ref f21))) (l21 : K.lookup f21 = some ⟨oc21, od21, .func (PySem.W.fnOf "law" "law" (defArgs sLaw) (defBody sLaw) (defScope sLaw) .none kV21 dc21 pm21 an21 cd21 ct21), sl21⟩) (c21 : PySem.W.codeIn K cd21 "law" = true) (k21 : PySem.W.keepIn K (.ref f21) = true)
    (g0 : PySem.W.nsIn K mainGlobals "LETTERS" = some (some (.ref t0))) (x0 : K.lookup t0 = some ⟨.type "tuple", ot0, .seq it0 nt0, qt0⟩) (v0 : Vals [.str "a", .str "b", .str "c", .str "d"] it0.toList)
    (z0 : PySem.W.nsIn K mainGlobals "len" = some none)
    (z1 : PySem.W.nsIn K mainGlobals "isinstance" = some none)
    (z2 : PySem.W.nsIn K mainGlobals "tuple" = some none)
    (z3 : PySem.W.nsIn K mainGlobals "list" = some none)
    (z4 : PySem.W.nsIn K mainGlobals "reversed" = some none)
    (z5 : PySem.W.nsIn K mainGlobals "range" = some none)
    (z6 : PySem.W.nsIn K mainGlobals "bool" = some none)
    (z7 : PySem.W.nsIn K mainGlobals "str" = some none)
    (z8 : PySem.W.nsIn K mainGlobals "int" = some none)
    : ∃ fd : FuncData, (∀ (s : Shared) (v : Value), BindsTo s fd ⟨[v], []⟩ [("_law_script", v)]) ∧ ∀ base : Heap, K.In base → base.Ns mainGlobals mg → FnOk l.prog w K mg base CX0 11 fa fd ["_law_script"] (spLaw K) := by
  have e := hfa.symm.trans (PySem.W.mg_of X G a21)
  cases e
  have F0 := fun_mk (st := sTold) l0 c0 k0
  have b0 := F0.binds (ps := ["statement", "settings"]) fun _ _ _ _ _ _ us hl => match us, hl with | [_, _], _ => rfl
  have m0 := PySem.W.mg_of X G a0
  have F1 := fun_mk (st := sEverySetting) l1 c1 k1
  have b1 := F1.binds (ps := []) fun _ _ _ _ _ _ us hl => match us, hl with | [], _ => rfl
  have m1 := PySem.W.mg_of X G a1
  have F2 := fun_mk (st := sToldEverywhere) l2 c2 k2
  have b2 := F2.binds (ps := ["statement"]) fun _ _ _ _ _ _ us hl => match us, hl with | [_], _ => rfl
  have m2 := PySem.W.mg_of X G a2
  have F3 := fun_mk (st := sSteps) l3 c3 k3
  have b3 := F3.binds (ps := ["statement"]) fun _ _ _ _ _ _ us hl => match us, hl with | [_], _ => rfl
  have m3 := PySem.W.mg_of X G a3
  have F4 := fun_mk (st := sHolds) l4 c4 k4
  have b4 := F4.binds (ps := ["steps", "setting"]) fun _ _ _ _ _ _ us hl => match us, hl with | [_, _], _ => rfl
  have m4 := PySem.W.mg_of X G a4
  have F5 := fun_mk (st := sJoined) l5 c5 k5
  have b5 := F5.binds (ps := ["word", "left", "right"]) fun _ _ _ _ _ _ us hl => match us, hl with | [_, _, _], _ => rfl
  have m5 := PySem.W.mg_of X G a5
  have F6 := fun_mk (st := sForked) l6 c6 k6
  have b6 := F6.binds (ps := ["statement"]) fun _ _ _ _ _ _ us hl => match us, hl with | [_], _ => rfl
  have m6 := PySem.W.mg_of X G a6
  have F7 := fun_mk (st := sForksOver) l7 c7 k7
  have b7 := F7.binds (ps := ["letter", "forms"]) fun _ _ _ _ _ _ us hl => match us, hl with | [_, _], _ => rfl
  have m7 := PySem.W.mg_of X G a7
  have F8 := fun_mk (st := sForkOf) l8 c8 k8
  have b8 := F8.binds (ps := ["letter", "so", "other"]) fun _ _ _ _ _ _ us hl => match us, hl with | [_, _, _], _ => rfl
  have m8 := PySem.W.mg_of X G a8
  have F9 := fun_mk (st := sWays) l9 c9 k9
  have b9 := F9.binds (ps := ["statement"]) fun _ _ _ _ _ _ us hl => match us, hl with | [_], _ => rfl
  have m9 := PySem.W.mg_of X G a9
  have F10 := fun_mk (st := sWaysOf) l10 c10 k10
  have b10 := F10.binds (ps := ["form"]) fun _ _ _ _ _ _ us hl => match us, hl with | [_], _ => rfl
  have m10 := PySem.W.mg_of X G a10
  have F11 := fun_mk (st := sWaysOn) l11 c11 k11
  have b11 := F11.binds (ps := ["letter", "value", "form"]) fun _ _ _ _ _ _ us hl => match us, hl with | [_, _, _], _ => rfl
  have m11 := PySem.W.mg_of X G a11
  have F12 := fun_mk (st := sWeight) l12 c12 k12
  have b12 := F12.binds (ps := ["_law_j"]) fun _ _ _ _ _ _ us hl => match us, hl with | [_], _ => rfl
  have m12 := PySem.W.mg_of X G a12
  have F13 := fun_mk (st := sLeaf) l13 c13 k13
  have b13 := F13.binds (ps := ["_law_j"]) fun _ _ _ _ _ _ us hl => match us, hl with | [_], _ => rfl
  have m13 := PySem.W.mg_of X G a13
  have F14 := fun_mk (st := sTurned) l14 c14 k14
  have b14 := F14.binds (ps := ["_law_one"]) fun _ _ _ _ _ _ us hl => match us, hl with | [_], _ => rfl
  have m14 := PySem.W.mg_of X G a14
  have F15 := fun_mk (st := sTwo) l15 c15 k15
  have b15 := F15.binds (ps := ["_law_turn", "_law_left", "_law_right"]) fun _ _ _ _ _ _ us hl => match us, hl with | [_, _, _], _ => rfl
  have m15 := PySem.W.mg_of X G a15
  have F16 := fun_mk (st := sBuilt) l16 c16 k16
  have b16 := F16.binds (ps := ["_law_cells"]) fun _ _ _ _ _ _ us hl => match us, hl with | [_], _ => rfl
  have m16 := PySem.W.mg_of X G a16
  have F17 := fun_mk (st := sSet) l17 c17 k17
  have b17 := F17.binds (ps := ["_law_n"]) fun _ _ _ _ _ _ us hl => match us, hl with | [_], _ => rfl
  have m17 := PySem.W.mg_of X G a17
  have F18 := fun_mk (st := sIsWay) l18 c18 k18
  have b18 := F18.binds (ps := ["_law_found"]) fun _ _ _ _ _ _ us hl => match us, hl with | [_], _ => rfl
  have m18 := PySem.W.mg_of X G a18
  have F19 := fun_mk (st := sFits) l19 c19 k19
  have b19 := F19.binds (ps := ["_law_one", "_law_setting"]) fun _ _ _ _ _ _ us hl => match us, hl with | [_, _], _ => rfl
  have m19 := PySem.W.mg_of X G a19
  have F20 := fun_mk (st := sHalved) l20 c20 k20
  have b20 := F20.binds (ps := ["_law_column"]) fun _ _ _ _ _ _ us hl => match us, hl with | [_], _ => rfl
  have m20 := PySem.W.mg_of X G a20
  have F21 := fun_mk (st := sLaw) l21 c21 k21
  have mb_len := PySem.W.mg_none_of X G z0
  have mb_isinstance := PySem.W.mg_none_of X G z1
  have mb_tuple := PySem.W.mg_none_of X G z2
  have mb_list := PySem.W.mg_none_of X G z3
  have mb_reversed := PySem.W.mg_none_of X G z4
  have mb_range := PySem.W.mg_none_of X G z5
  have mb_bool := PySem.W.mg_none_of X G z6
  have mb_str := PySem.W.mg_none_of X G z7
  have mb_int := PySem.W.mg_none_of X G z8
  have mt0 := PySem.W.mg_of X G g0
  have kt0 := TupK.of x0 v0 (by decide)
  exact ⟨PySem.W.fnOf "law" "law" (defArgs sLaw) (defBody sLaw) (defScope sLaw) .none kV21 dc21 pm21 an21 cd21 ct21, fun s v => .of_eq rfl, fun base _ _ => by
    have GJ := ok_joined (P := l.prog) (w := w) (mg := mg) (base := base) F5 
    have GH := ok_holds (P := l.prog) (w := w) (mg := mg) (base := base) F4 mt0 kt0 GJ F5.kp b5 m5
    have GSt := ok_steps (P := l.prog) (w := w) (mg := mg) (base := base) F3 mb_len mb_isinstance mb_tuple mb_list mb_reversed
    have GTo := ok_told (P := l.prog) (w := w) (mg := mg) (base := base) F0 GSt F3.kp b3 m3 GH F4.kp b4 m4
    have GEv := ok_every (P := l.prog) (w := w) (mg := mg) (base := base) F1 mb_reversed mt0 kt0
    have GWh := ok_everywhere (P := l.prog) (w := w) (mg := mg) (base := base) F2 GTo F0.kp b0 m0 GEv F1.kp b1 m1
    have GWe := ok_weight (P := l.prog) (w := w) (mg := mg) (base := base) F12 
    have GLe := ok_leaf (P := l.prog) (w := w) (mg := mg) (base := base) F13 mb_range GWe F12.kp b12 m12
    have GTu := ok_turned (P := l.prog) (w := w) (mg := mg) (base := base) F14 
    have GTw := ok_two (P := l.prog) (w := w) (mg := mg) (base := base) F15 mb_range
    have GB := ok_built (P := l.prog) (w := w) (mg := mg) (base := base) F16 mb_len mb_range (GTw.mono (by decide)) F15.kp b15 m15 GTu F14.kp b14 m14 GLe F13.kp b13 m13
    have GFo := ok_forkof (P := l.prog) (w := w) (mg := mg) (base := base) F8 
    have GFv := ok_forksover (P := l.prog) (w := w) (mg := mg) (base := base) F7 mb_range mb_len GFo F8.kp b8 m8
    have GFk := ok_forked (P := l.prog) (w := w) (mg := mg) (base := base) F6 mb_reversed mt0 kt0 GWh F2.kp b2 m2 GFv F7.kp b7 m7
    have GSe := ok_set (P := l.prog) (w := w) (mg := mg) (base := base) F17 mb_range GWe F12.kp b12 m12
    have GYo := ok_waysof4 (P := l.prog) (w := w) (mg := mg) (base := base) F10 F11 F10.kp b10 m10 F11.kp b11 m11
    have GYs := ok_ways (P := l.prog) (w := w) (mg := mg) (base := base) F9 GYo F10.kp b10 m10 GFk F6.kp b6 m6
    have GIw := ok_isway (P := l.prog) (w := w) (mg := mg) (base := base) F18 mb_len mb_isinstance mb_list mb_tuple mb_str mb_bool
    have GFi := ok_fits (P := l.prog) (w := w) (mg := mg) (base := base) F19 
    have GHa := ok_halved (P := l.prog) (w := w) (mg := mg) (base := base) F20 mb_range
    exact ok_law F21 mb_range mb_isinstance mb_list mb_int GB F16.kp b16 m16 GYs F9.kp b9 m9 GIw F18.kp b18 m18 GSe F17.kp b17 m17 GFi F19.kp b19 m19 GHa F20.kp b20 m20⟩
theorem walk {l : PySem.W.OpenLaw} {q : Program} {loose : List Str} {XP : (Str → Option Value) → Heap → Prop} {YP : World → Heap → Prop} {d : DefRec} {K : Params → PySem.W.Frag} (hn : l.most = some 63) (hdf : d.params.defaults = [])
    (hY : ∀ (w : World) (h : Heap), YP w h → (K w.params).In h)
    (F : ∀ (w : World) (mg : Str → Option Value) (fa : Addr) (h : Heap), (K w.params).In h → h.Ns mainGlobals mg → mg d.name = some (.ref fa) →
      ∃ fd : FuncData, (∀ (s : Shared) (u : Value), BindsTo s fd ⟨[u], []⟩ [("_law_script", u)]) ∧ ∀ base : Heap, (K w.params).In base → base.Ns mainGlobals mg → FnOk l.prog w (K w.params) mg base CX0 11 fa fd ["_law_script"] (spLaw (K w.params))) :
    PySem.W.WalkO q loose XP YP l.row.toRowW d [] (fun f vs => PySem.call f vs) :=
  L2.walk_of (n := 63) (k := 11) (x := "_law_script") (CX := fun _ => CX0) (sp := fun w => spLaw (K w.params)) hn (by decide) hdf ⟨rfl, by decide, by decide⟩ hY F (fun _ _ a ns hl _ hS => ⟨a, ns, rfl, hS, hl, fun _ => rfl⟩) fun _ _ _ _ _ z => z
end FG
open PySem PySem.W PyProof.Rows
set_option maxRecDepth 100000 in
set_option maxHeartbeats 0 in
theorem PySem.Challenge.cw_forkform_k05_whole_ways_holds : PySem.Challenge.rw_forkform_k05_whole_ways.Holds := by
  w_on; o_law; k_head; (case hw => w_witness2)
  k_fill
  refine FG.walk (l := PySem.Challenge.rw_forkform_k05_whole_ways) rfl rfl (fun w h Y => PySem.W.kIn_of Y) ?F
  case F =>
    intro w mg fa h KX G hmg
    refine' FG.all_mk KX G hmg ?a0 ?l0 ?c0 ?k0 ?a1 ?l1 ?c1 ?k1 ?a2 ?l2 ?c2 ?k2 ?a3 ?l3 ?c3 ?k3 ?a4 ?l4 ?c4 ?k4 ?a5 ?l5 ?c5 ?k5 ?a6 ?l6 ?c6 ?k6 ?a7 ?l7 ?c7 ?k7 ?a8 ?l8 ?c8 ?k8 ?a9 ?l9 ?c9 ?k9 ?a10 ?l10 ?c10 ?k10 ?a11 ?l11 ?c11 ?k11 ?a12 ?l12 ?c12 ?k12 ?a13 ?l13 ?c13 ?k13 ?a14 ?l14 ?c14 ?k14 ?a15 ?l15 ?c15 ?k15 ?a16 ?l16 ?c16 ?k16 ?a17 ?l17 ?c17 ?k17 ?a18 ?l18 ?c18 ?k18 ?a19 ?l19 ?c19 ?k19 ?a20 ?l20 ?c20 ?k20 ?a21 ?l21 ?c21 ?k21 ?tg0 ?tx0 ?tv0 ?z0 ?z1 ?z2 ?z3 ?z4 ?z5 ?z6 ?z7 ?z8
    (case a0 => k_is); (case l0 => k_is); (case c0 => k_is); (case k0 => k_is)
    (case a1 => k_is); (case l1 => k_is); (case c1 => k_is); (case k1 => k_is)
    (case a2 => k_is); (case l2 => k_is); (case c2 => k_is); (case k2 => k_is)
    (case a3 => k_is); (case l3 => k_is); (case c3 => k_is); (case k3 => k_is)
    (case a4 => k_is); (case l4 => k_is); (case c4 => k_is); (case k4 => k_is)
    (case a5 => k_is); (case l5 => k_is); (case c5 => k_is); (case k5 => k_is)
    (case a6 => k_is); (case l6 => k_is); (case c6 => k_is); (case k6 => k_is)
    (case a7 => k_is); (case l7 => k_is); (case c7 => k_is); (case k7 => k_is)
    (case a8 => k_is); (case l8 => k_is); (case c8 => k_is); (case k8 => k_is)
    (case a9 => k_is); (case l9 => k_is); (case c9 => k_is); (case k9 => k_is)
    (case a10 => k_is); (case l10 => k_is); (case c10 => k_is); (case k10 => k_is)
    (case a11 => k_is); (case l11 => k_is); (case c11 => k_is); (case k11 => k_is)
    (case a12 => k_is); (case l12 => k_is); (case c12 => k_is); (case k12 => k_is)
    (case a13 => k_is); (case l13 => k_is); (case c13 => k_is); (case k13 => k_is)
    (case a14 => k_is); (case l14 => k_is); (case c14 => k_is); (case k14 => k_is)
    (case a15 => k_is); (case l15 => k_is); (case c15 => k_is); (case k15 => k_is)
    (case a16 => k_is); (case l16 => k_is); (case c16 => k_is); (case k16 => k_is)
    (case a17 => k_is); (case l17 => k_is); (case c17 => k_is); (case k17 => k_is)
    (case a18 => k_is); (case l18 => k_is); (case c18 => k_is); (case k18 => k_is)
    (case a19 => k_is); (case l19 => k_is); (case c19 => k_is); (case k19 => k_is)
    (case a20 => k_is); (case l20 => k_is); (case c20 => k_is); (case k20 => k_is)
    (case a21 => k_is); (case l21 => k_is); (case c21 => k_is); (case k21 => k_is)
    (case tg0 => k_is); (case tx0 => k_is); (case tv0 => exact .cons ⟨_, rfl⟩ (.cons ⟨_, rfl⟩ (.cons ⟨_, rfl⟩ (.cons ⟨_, rfl⟩ (.nil)))))
    (case z0 => k_is)
    (case z1 => k_is)
    (case z2 => k_is)
    (case z3 => k_is)
    (case z4 => k_is)
    (case z5 => k_is)
    (case z6 => k_is)
    (case z7 => k_is)
    (case z8 => k_is)
