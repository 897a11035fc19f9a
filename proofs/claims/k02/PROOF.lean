import PyProof.Rows.All
import Wide.All
import OpenK.AllK
import Wide.FinOn
import Lean
import PyProof.EqAt
import PyProof.EqKinds
import PyProof.TupleCall
import PySem.Challenge.RW_mastline_k02_refused
set_option Elab.async false
set_option linter.all false
set_option maxRecDepth 100000
namespace L2
open PySem PySem.Spec PyProof.Rows

/-- a key: an int or a str -/
abbrev Key := Sum Int Str
def keyIs : Key → Value → Bool
  | .inl k, v => Value.isInt k v
  | .inr x, v => Value.isStrOf x v
def keyH (w : World) : Key → Int
  | .inl k => hashInt k
  | .inr x => hashStr w x
theorem keyIs_shape : ∀ {k : Key} {v : Value}, keyIs k v = true → (∃ i t, k = Sum.inl i ∧ v = Value.int i t) ∨ (∃ x t, k = Sum.inr x ∧ v = Value.str x t)
  | .inl i, v, h => by
    obtain ⟨t, e⟩ := Value.isInt_shape (k := i) (v := v) h
    exact .inl ⟨i, t, rfl, e⟩
  | .inr x, v, h => by
    obtain ⟨t, e⟩ := Value.isStrOf_shape (x := x) (v := v) h
    exact .inr ⟨x, t, rfl, e⟩
theorem keyIs_int (i : Int) (t : Tok) : keyIs (.inl i) (.int i t) = true := by simp [keyIs, Value.isInt]
theorem keyIs_str (x : Str) (t : Tok) : keyIs (.inr x) (.str x t) = true := by simp [keyIs, Value.isStrOf]
theorem key_ll (a b : Int) : decide ((Sum.inl a : Key) = Sum.inl b) = (a == b) := by
  by_cases e : a = b
  · subst e; simp
  · have h : ¬ (Sum.inl a : Key) = Sum.inl b := fun q => e (Sum.inl.inj q)
    rw [decide_eq_false h]
    exact (beq_eq_false_iff_ne.mpr e).symm
theorem key_rr (a b : Str) : decide ((Sum.inr a : Key) = Sum.inr b) = decide (a = b) := by
  by_cases e : a = b
  · subst e; simp
  · have h : ¬ (Sum.inr a : Key) = Sum.inr b := fun q => e (Sum.inr.inj q)
    rw [decide_eq_false h, decide_eq_false e]
theorem key_lr (a : Int) (b : Str) : decide ((Sum.inl a : Key) = Sum.inr b) = false := decide_eq_false (fun q => nomatch q)
theorem key_rl (a : Str) (b : Int) : decide ((Sum.inr a : Key) = Sum.inl b) = false := decide_eq_false (fun q => nomatch q)

def mixKind (prog : Program) (w : World) : PySem.KeyKind prog w Key where
  is := keyIs
  hash := keyH w
  inj := fun v a b ha hb => by
    rcases keyIs_shape ha with ⟨i, t, rfl, rfl⟩ | ⟨x, t, rfl, rfl⟩
    · rcases keyIs_shape hb with ⟨j, u, rfl, e⟩ | ⟨y, u, rfl, e⟩
      · injection e with e1 _; rw [e1]
      · exact nomatch e
    · rcases keyIs_shape hb with ⟨j, u, rfl, e⟩ | ⟨y, u, rfl, e⟩
      · exact nomatch e
      · injection e with e1 _; rw [e1]
  byValue := fun k v h => by
    rcases keyIs_shape h with ⟨i, t, rfl, rfl⟩ | ⟨x, t, rfl, rfl⟩ <;> rfl
  pyHash := fun hv h => by
    rcases keyIs_shape hv with ⟨i, t, rfl, rfl⟩ | ⟨x, t, rfl, rfl⟩
    · exact wpAny_pyHash_int h
    · exact wpAny_pyHash_str h
  eqBool := fun hu hv h => by
    rcases keyIs_shape hu with ⟨i, t, rfl, rfl⟩ | ⟨x, t, rfl, rfl⟩
    · rcases keyIs_shape hv with ⟨j, u, rfl, rfl⟩ | ⟨y, u, rfl, rfl⟩
      · rw [key_ll] at h; exact wpAny_eqBool_int h
      · rw [key_lr] at h; exact SeqAt.EqAt.int_str i t y u _ _ _ _ h
    · rcases keyIs_shape hv with ⟨j, u, rfl, rfl⟩ | ⟨y, u, rfl, rfl⟩
      · rw [key_rl] at h; exact SeqAt.EqAt.str_int x t j u _ _ _ _ h
      · rw [key_rr] at h; exact wpAny_eqBool_str h
  «strs» := fun k x t v h => by
    rcases keyIs_shape h with ⟨i, u, rfl, e⟩ | ⟨y, u, rfl, e⟩
    · exact nomatch e
    · injection e with e1 _
      subst e1
      cases v <;> rfl

theorem mixKind_is (prog : Program) (w : World) (k : Key) (v : Value) : (mixKind prog w).is k v = keyIs k v := rfl
theorem mixKind_int (prog : Program) (w : World) (i : Int) (t : Tok) : (mixKind prog w).is (.inl i) (.int i t) = true := keyIs_int i t
theorem mixKind_str (prog : Program) (w : World) (x : Str) (t : Tok) : (mixKind prog w).is (.inr x) (.str x t) = true := keyIs_str x t
end L2

namespace L2
open PySem PySem.Spec PyProof.Rows

/-- a value, without the heap -/
inductive V where
  | non | bl (b : Bool) | int (i : Int) | str (x : Str) | byt (b : Array UInt8) | flt (b : UInt64) | ref (a : Addr) | ty (n : String)
  deriving DecidableEq

def RelV : V → Value → Prop
  | .non, u => u = Value.none
  | .bl b, u => u = Value.bool b
  | .int i, u => ∃ t, u = Value.int i t
  | .str x, u => ∃ t, u = Value.str x t
  | .byt b, u => ∃ t, u = Value.bytes b t
  | .flt b, u => ∃ t, u = Value.float b t
  | .ref a, u => u = Value.ref a
  | .ty n, u => u = Value.type n

abbrev Vals : List V → List Value → Prop := Paired RelV
theorem Vals.length {xs : List V} {us : List Value} (r : Vals xs us) : xs.length = us.length := Paired.length r
theorem Vals.get : ∀ {xs : List V} {us : List Value} {i : Nat} {x : V}, Vals xs us → xs[i]? = some x → ∃ u, us[i]? = some u ∧ RelV x u
  | _, _, _, _, .nil, e => by simp at e
  | _, _, 0, _, .cons r _, e => by simp at e; subst e; exact ⟨_, rfl, r⟩
  | _, _, i + 1, x, .cons _ t, e => by
    obtain ⟨u, h1, h2⟩ := Vals.get (i := i) (x := x) t (by simpa using e)
    exact ⟨u, by simpa using h1, h2⟩
theorem Vals.set {x : V} {u : Value} (r : RelV x u) : ∀ {xs : List V} {us : List Value} (i : Nat), Vals xs us → Vals (xs.set i x) (us.set i u)
  | _, _, _, .nil => .nil
  | _, _, 0, .cons _ t => .cons r t
  | _, _, i + 1, .cons q t => .cons q (Vals.set r i t)
theorem Vals.append : ∀ {xs ys : List V} {us ws : List Value}, Vals xs us → Vals ys ws → Vals (xs ++ ys) (us ++ ws)
  | _, _, _, _, .nil, s => s
  | _, _, _, _, .cons r t, s => .cons r (Vals.append t s)
theorem Vals.take : ∀ {xs : List V} {us : List Value} (n : Nat), Vals xs us → Vals (xs.take n) (us.take n)
  | _, _, 0, _ => .nil
  | _, _, _ + 1, .nil => .nil
  | _, _, n + 1, .cons r t => .cons r (Vals.take n t)
theorem Vals.drop : ∀ {xs : List V} {us : List Value} (n : Nat), Vals xs us → Vals (xs.drop n) (us.drop n)
  | _, _, 0, r => r
  | _, _, _ + 1, .nil => .nil
  | _, _, n + 1, .cons _ t => Vals.drop n t
theorem Vals.none_of : ∀ {xs : List V} {us : List Value} {i : Nat}, Vals xs us → xs[i]? = none → us[i]? = none := fun {xs us i} r e => by
  have h1 := r.length
  have h2 : xs.length ≤ i := List.getElem?_eq_none_iff.mp e
  exact List.getElem?_eq_none_iff.mpr (by omega)

def RelO : Option V → Option Value → Prop
  | some v, some u => RelV v u
  | none, none => True
  | _, _ => False
def KV {κ : Type} : List (κ × V) → List (κ × Value) → Prop := Paired fun (p : κ × V) (q : κ × Value) => p.1 = q.1 ∧ RelV p.2 q.2

/-- a key of a dict (00_mix): an int or a text -/
def kV : Key → V
  | .inl i => .int i
  | .inr x => .str x

/-- what stands at a tracked address -/
inductive HO where
  /-- a list -/
  | lst (xs : List V)
  /-- a tuple (never changes) -/
  | tup (xs : List V)
  /-- a dict whose keys are ints and texts; one whose keys are tuples of ints and texts (the empty one is both) -/
  | dK (kvs : List (Key × V)) | dT (kvs : List (List Key × V))
  /-- a set of ints: its members, its size -/
  | set (S : Int → Bool) (n : Nat)
  /-- an instance of the class at C, its dict at dx, its attributes -/
  | ins (C dx : Addr) (fs : List (Str × V))
  /-- the dict of the instance at x -/
  | own (x : Addr)
  /-- the dict of an exception -/
  | xd (fs : List (Str × V))
  /-- a bound method, f of x -/
  | met (f x : Addr)
  /-- a range object lo, lo + 1, .. below hi -/
  | rng (lo hi : Int)
  /-- a thing that is known to the object (the script; a dict while a loop walks it): read, never written while it is so -/
  | frz (o : Obj) (u : HO)
  /-- a code object's table -/
  | tbl (ps : Array Value)
  /-- any other thing, by what is true of its one object (a def of one's own: SetO a S n := HO.ext fun h => ..) -/
  | ext (φ : Heap → Prop)

abbrev Hp := Addr → Option HO
def upd (H : Hp) (a : Addr) (o : HO) : Hp := fun b => if b = a then some o else H b
theorem upd_same {H : Hp} {a : Addr} {o : HO} : upd H a o a = some o := by unfold upd; rw [if_pos rfl]
theorem upd_ne {H : Hp} {a b : Addr} {o : HO} (h : b ≠ a) : upd H a o b = H b := by unfold upd; rw [if_neg h]
theorem upd_upd {H : Hp} {a : Addr} {o u : HO} : upd (upd H a o) a u = upd H a u := by
  funext b; unfold upd; split <;> rfl
/-- two objects of different content stand apart -/
theorem ne_of {H : Hp} {a b : Addr} {o u : HO} (h : H a = some o) (h' : H b = some u) (d : o ≠ u) : a ≠ b := by
  intro e; subst e; rw [h] at h'; exact d (Option.some.inj h')
theorem ne_of_none {H : Hp} {a b : Addr} {o : HO} (h : H a = some o) (h' : H b = none) : a ≠ b := by
  intro e; subst e; rw [h] at h'; cases h'

section
variable (P : Program) (w : World)
def ObjOk (H : Hp) (h : Heap) (a : Addr) : HO → Prop
  | .lst xs => xs.length ≤ sizeLine ∧ ∃ (its : List Value) (n : Nat), Vals xs its ∧ h.get? a = some { cls := .type "list", data := .seq its.toArray n }
  | .tup xs => xs.length ≤ sizeLine ∧ ∃ its : List Value, Vals xs its ∧ IsTup h a its.toArray
  | .dK kvs => kvs.length ≤ sizeLine ∧ (a == sysModules) = false ∧ ∃ vs, KV kvs vs ∧ h.DictOf (mixKind P w) a vs
  | .dT kvs => kvs.length ≤ sizeLine ∧ (a == sysModules) = false ∧ ∃ xs : List (List Key × Addr × Value),
      Paired (fun (p : List Key × V) (q : List Key × Addr × Value) => p.1 = q.1 ∧ H q.2.1 = some (.tup (p.1.map kV)) ∧ RelV p.2 q.2.2) kvs xs ∧
      ∃ o es ep, h.get? a = some o ∧ o.ExactDict ∧ o.data = .dict es ep ∧ es.toList = xs.map (entryOfKey (tupleKind (mixKind P w))) ∧ (xs.map (·.1)).Nodup
  | .set S n => h.SetOf (intKind P w) a S n
  | .ins C dx fs => H dx = some (.own a) ∧ fs.length ≤ 1000 ∧ dx ≠ a ∧ h.get? a = some (PySem.W.instObj C dx) ∧
      ∃ mA, h.Ns1 dx mA ∧ (∀ f, RelO (fs.lookup f) (mA f)) ∧ PySem.Within mA (fs.map (·.1))
  | .own _ => ∃ o, h.get? a = some o
  | .xd fs => ∃ mA, h.Ns1 a mA ∧ ∀ f, RelO (fs.lookup f) (mA f)
  | .rng lo hi => ∃ t u v, h.get? a = some { cls := .type "range", data := .fields #[.int lo t, .int hi u, .int 1 v] }
  | .frz o u => h.get? a = some o ∧ ObjOk H h a u
  | .tbl ps => h.get? a = some { cls := .none, data := .fields ps }
  | .met f x => h.get? a = some (PySem.W.methodObj (.ref f) (.ref x))
  | .ext φ => φ h ∧ (∃ o, h.get? a = some o) ∧ ∀ h1 h2 : Heap, φ h1 → (∀ o, h1.get? a = some o → h2.get? a = some o) → φ h2
/-- the abstract heap is held -/
def HOk (H : Hp) (h : Heap) : Prop := ∀ a o, H a = some o → ObjOk P w H h a o
end

section
variable {P : Program} {w : World} {H H' : Hp} {h h' : Heap} {a : Addr} {o : HO}
theorem ObjOk.lt (x : ObjOk P w H h a o) : a < h.objs.size := by
  cases o with
  | lst xs => obtain ⟨_, _, _, _, e⟩ := x; exact Heap.lt_size e
  | tup xs => obtain ⟨_, _, _, p⟩ := x; exact p.lt
  | dK kvs => obtain ⟨_, _, _, _, o, _, _, e, _⟩ := x; exact Heap.lt_size e
  | dT kvs => obtain ⟨_, _, _, _, o, _, _, e, _⟩ := x; exact Heap.lt_size e
  | set S n => obtain ⟨o, _, _, _, e, _⟩ := x; exact Heap.lt_size e
  | ins C dx fs => obtain ⟨_, _, _, e, _⟩ := x; exact Heap.lt_size e
  | own y => obtain ⟨_, e⟩ := x; exact Heap.lt_size e
  | xd fs => obtain ⟨_, ⟨_, _, _, e, _⟩, _⟩ := x; exact Heap.lt_size e
  | rng lo hi => obtain ⟨_, _, _, e⟩ := x; exact Heap.lt_size e
  | frz ob u => obtain ⟨e, _⟩ := x; exact Heap.lt_size e
  | tbl ps => exact Heap.lt_size (show h.get? a = some _ from x)
  | met f y => exact Heap.lt_size (show h.get? a = some _ from x)
  | ext φ => obtain ⟨_, ⟨_, e⟩, _⟩ := x; exact Heap.lt_size e
theorem Paired.mapP {α β : Type} {F G : α → β → Prop} : ∀ {l₁ : List α} {l₂ : List β}, Paired F l₁ l₂ → (∀ a b, F a b → G a b) → Paired G l₁ l₂
  | _, _, .nil, _ => .nil
  | _, _, .cons r t, f => .cons (f _ _ r) (Paired.mapP t f)
theorem Paired.imp' {α β : Type} {F G : α → β → Prop} (f : ∀ a b, F a b → G a b) {l₁ : List α} {l₂ : List β} (r : Paired F l₁ l₂) : Paired G l₁ l₂ := Paired.mapP r f
/-- what an object's description leans on: its own object, its own dict, the tuples -/
theorem ObjOk.stay (x : ObjOk P w H h a o) (k : ∀ b u, (b = a ∨ H b = some (.own a)) → h.get? b = some u → h'.get? b = some u)
    (ho : ∀ b, H b = some (.own a) → H' b = some (.own a)) (ht : ∀ b xs, H b = some (.tup xs) → H' b = some (.tup xs)) : ObjOk P w H' h' a o := by
  induction o with
  | lst xs => obtain ⟨z, its, n, r, e⟩ := x; exact ⟨z, its, n, r, k _ _ (.inl rfl) e⟩
  | tup xs => obtain ⟨z, its, r, ob, e, c⟩ := x; exact ⟨z, its, r, ob, k _ _ (.inl rfl) e, c⟩
  | dK kvs => obtain ⟨z, y, vs, r, ob, es, ep, e, c⟩ := x; exact ⟨z, y, vs, r, ob, es, ep, k _ _ (.inl rfl) e, c⟩
  | dT kvs =>
    obtain ⟨z, y, xs, r, ob, es, ep, e, c⟩ := x
    exact ⟨z, y, xs, Paired.mapP r fun p q z => ⟨z.1, ht _ _ z.2.1, z.2.2⟩, ob, es, ep, k _ _ (.inl rfl) e, c⟩
  | set S n => obtain ⟨ob, es, ep, t, e, c⟩ := x; exact ⟨ob, es, ep, t, k _ _ (.inl rfl) e, c⟩
  | ins C dx fs =>
    obtain ⟨d, z, ne, e, mA, ⟨od, es, ep, e2, c⟩, r⟩ := x
    exact ⟨ho _ d, z, ne, k _ _ (.inl rfl) e, mA, ⟨od, es, ep, k _ _ (.inr d) e2, c⟩, r⟩
  | own y => obtain ⟨ob, e⟩ := x; exact ⟨ob, k _ _ (.inl rfl) e⟩
  | xd fs => obtain ⟨mA, ⟨od, es, ep, e, c⟩, r⟩ := x; exact ⟨mA, ⟨od, es, ep, k _ _ (.inl rfl) e, c⟩, r⟩
  | rng lo hi => obtain ⟨t, u, v, e⟩ := x; exact ⟨t, u, v, k _ _ (.inl rfl) e⟩
  | frz ob u ih => obtain ⟨e, q⟩ := x; exact ⟨k _ _ (.inl rfl) e, ih q⟩
  | tbl ps =>
    have e : h.get? a = some { cls := .none, data := .fields ps } := x
    show h'.get? a = some { cls := .none, data := .fields ps }
    exact k a _ (.inl rfl) e
  | met f y =>
    have e : h.get? a = some (PySem.W.methodObj (.ref f) (.ref y)) := x
    show h'.get? a = some (PySem.W.methodObj (.ref f) (.ref y))
    exact k a _ (.inl rfl) e
  | ext φ => obtain ⟨p, ⟨o, e⟩, st⟩ := x; exact ⟨st _ _ p fun o q => k _ _ (.inl rfl) q, ⟨o, k _ _ (.inl rfl) e⟩, st⟩
theorem HOk.lt (x : HOk P w H h) (e : H a = some o) : a < h.objs.size := (x a o e).lt
theorem HOk.fresh (x : HOk P w H h) (e : h.objs.size ≤ a) : H a = none := by
  cases q : H a with
  | none => rfl
  | some u => exact absurd (Nat.lt_of_lt_of_le (x.lt q) e) (Nat.lt_irrefl _)
/-- every object of the heap is kept -/
theorem HOk.kept (x : HOk P w H h) (k : ∀ b u, h.get? b = some u → h'.get? b = some u) : HOk P w H h' := fun a o e =>
  (x a o e).stay (fun b u _ q => k b u q) (fun _ q => q) fun _ _ q => q
/-- a new object is laid and tracked -/
theorem HOk.laid (x : HOk P w H h) (k : ∀ b u, h.get? b = some u → h'.get? b = some u) (hp : h.objs.size ≤ a) (new : ObjOk P w (upd H a o) h' a o) : HOk P w (upd H a o) h' := fun b u e => by
  have hn := x.fresh hp
  by_cases hb : b = a
  · subst hb; rw [upd_same] at e; cases e; exact new
  · rw [upd_ne hb] at e
    exact (x b u e).stay (fun c v _ q => k c v q) (fun c q => by rw [upd_ne (ne_of_none q hn)]; exact q) fun c xs q => by rw [upd_ne (ne_of_none q hn)]; exact q
end

/-- what may be read as u: it is u, or a known u -/
def Rd (H : Hp) (a : Addr) (u : HO) : Prop := H a = some u ∨ ∃ o, H a = some (.frz o u)
theorem Rd.of {H : Hp} {a : Addr} {u : HO} (h : H a = some u) : Rd H a u := .inl h
theorem Rd.ok {P : Program} {w : World} {H : Hp} {h : Heap} {a : Addr} {u : HO} (r : Rd H a u) (x : HOk P w H h) : ObjOk P w H h a u := by
  rcases r with r | ⟨o, r⟩
  · exact x a u r
  · obtain ⟨_, q⟩ := x a _ r
    exact q
/-- what may be written -/
def Mut : Option HO → Prop
  | some (.lst _) => True
  | some (.dK _) => True
  | some (.dT _) => True
  | some (.set _ _) => True
  | some (.ins _ _ _) => True
  | some (.ext _) => True
  | _ => False
section
variable {P : Program} {w : World} {H : Hp} {h h' : Heap} {x e : Addr} {o' : HO}
/-- the object at e is changed: x itself, or the dict of the instance x -/
theorem HOk.write (ok : HOk P w H h) (mu : Mut (H x)) (he : e = x ∨ H e = some (.own x)) (k : ∀ b u, b ≠ e → h.get? b = some u → h'.get? b = some u) (heo : ∃ u, h'.get? e = some u)
    (new : ObjOk P w (upd H x o') h' x o') : HOk P w (upd H x o') h' := fun b u q => by
  have nown : ∀ c y, H c = some (.own y) → c ≠ x := fun c y r z => by subst z; rw [r] at mu; exact mu
  have ntup : ∀ c xs, H c = some (.tup xs) → c ≠ x := fun c xs r z => by subst z; rw [r] at mu; exact mu
  by_cases hb : b = x
  · subst hb; rw [upd_same] at q; cases q; exact new
  · rw [upd_ne hb] at q
    by_cases hbe : b = e
    · have q' : H b = some (.own x) := by
        rcases he with z | z
        · exact absurd (hbe.trans z) hb
        · rw [hbe]; exact z
      rw [q] at q'; cases q'
      obtain ⟨v, hv⟩ := heo
      exact ⟨v, by rw [hbe]; exact hv⟩
    · refine (ok b u q).stay (fun c v hc r => k c v ?_ r) (fun c r => by rw [upd_ne (nown c b r)]; exact r) fun c xs r => by rw [upd_ne (ntup c xs r)]; exact r
      rcases hc with rfl | hc
      · exact hbe
      · rintro rfl
        rcases he with z | z
        · exact nown c b hc z
        · rw [hc] at z; cases z; exact hb rfl
end

/-! ### kept unless tracked; of the frames at fs (the callers') the slots may change (an exception that passes writes there); of the records at ex (iterators) nothing is said -/
structure Un (fs ex : List Addr) (H H' : Hp) (h h' : Heap) : Prop where
  keep : ∀ b o, h.get? b = some o → H b = none → b ∉ fs → b ∉ ex → h'.get? b = some o
  slot : ∀ b o, h.get? b = some o → H b = none → b ∈ fs → b ∉ ex → ∃ sl, h'.get? b = some { o with slots := sl }
  free : ∀ b o, h.get? b = some o → H b = none → b ∉ ex → H' b = none
  there : ∀ b o, h.get? b = some o → b ∉ ex → ∃ o', h'.get? b = some o'
  tups : ∀ b xs, H b = some (.tup xs) → H' b = some (.tup xs)
  frzs : ∀ b o u, H b = some (.frz o u) → H' b = some (.frz o u)
  tbls : ∀ b ps, H b = some (.tbl ps) → ∃ more, H' b = some (.tbl (ps ++ more))
section
variable {fs fs' ex ex' : List Addr} {H H1 H2 : Hp} {h h1 h2 h' : Heap} {a x e : Addr} {o : HO}
theorem Un.any (u : Un fs ex H H1 h h1) {b : Addr} {ob : Obj} (q : h.get? b = some ob) (n : H b = none) (hx : b ∉ ex) : ∃ sl, h1.get? b = some { ob with slots := sl } := by
  by_cases hb : b ∈ fs
  · exact u.slot b ob q n hb hx
  · exact ⟨ob.slots, u.keep b ob q n hb hx⟩
theorem Un.trans (a : Un fs ex H H1 h h1) (b : Un fs ex H1 H2 h1 h2) : Un fs ex H H2 h h2 where
  keep := fun c ob q n hc hx => b.keep c ob (a.keep c ob q n hc hx) (a.free c ob q n hx) hc hx
  slot := fun c ob q n hc hx => by
    obtain ⟨sl, e1⟩ := a.slot c ob q n hc hx
    obtain ⟨sl', e2⟩ := b.slot c _ e1 (a.free c ob q n hx) hc hx
    exact ⟨sl', e2⟩
  free := fun c ob q n hx => by
    obtain ⟨o', e1⟩ := a.there c ob q hx
    exact b.free c o' e1 (a.free c ob q n hx) hx
  there := fun c ob q hx => by
    obtain ⟨o', e1⟩ := a.there c ob q hx
    exact b.there c o' e1 hx
  tups := fun c xs q => b.tups c xs (a.tups c xs q)
  frzs := fun c ob xs q => b.frzs c ob xs (a.frzs c ob xs q)
  tbls := fun c ps q => by
    obtain ⟨m1, e1⟩ := a.tbls c ps q
    obtain ⟨m2, e2⟩ := b.tbls c _ e1
    exact ⟨m1 ++ m2, by rw [e2, Array.append_assoc]⟩
theorem Un.kept (k : ∀ b u, h.get? b = some u → h'.get? b = some u) : Un fs ex H H h h' :=
  ⟨fun b ob q _ _ _ => k b ob q, fun b ob q _ _ _ => ⟨ob.slots, k b ob q⟩, fun _ _ _ n _ => n, fun b ob q _ => ⟨ob, k b ob q⟩, fun _ _ q => q, fun _ _ _ q => q, fun _ ps q => ⟨#[], by rw [q]; simp⟩⟩
theorem Un.refl : Un fs ex H H h h := Un.kept fun _ _ q => q
theorem Un.laid (k : ∀ b u, h.get? b = some u → h'.get? b = some u) (hp : h.objs.size ≤ a) (hn : H a = none) : Un fs ex H (upd H a o) h h' where
  keep := fun b u q _ _ _ => k b u q
  slot := fun b u q _ _ _ => ⟨u.slots, k b u q⟩
  free := fun b u q n _ => by rw [upd_ne (Nat.ne_of_lt (Nat.lt_of_lt_of_le (Heap.lt_size q) hp))]; exact n
  there := fun b u q _ => ⟨u, k b u q⟩
  tups := fun b xs q => by rw [upd_ne (ne_of_none q hn)]; exact q
  frzs := fun b u xs q => by rw [upd_ne (ne_of_none q hn)]; exact q
  tbls := fun b ps q => ⟨#[], by rw [upd_ne (ne_of_none q hn), q]; simp⟩
theorem Un.write (mu : Mut (H x)) (he : e = x ∨ H e = some (.own x)) (k : ∀ b u, b ≠ e → h.get? b = some u → h'.get? b = some u) (heo : ∃ u, h'.get? e = some u) : Un fs ex H (upd H x o) h h' := by
  have hx : ∀ b, H b = none → b ≠ x := fun b n z => by subst z; rw [n] at mu; exact mu
  have hb : ∀ b, H b = none → b ≠ e := fun b n z => by
    subst z
    rcases he with r | r
    · exact hx b n r
    · rw [n] at r; cases r
  have hm : ∀ b u, H b = some u → ¬ Mut (some u) → b ≠ x := fun b u q nm z => by subst z; rw [q] at mu; exact nm mu
  refine ⟨fun b u q n _ _ => k b u (hb b n) q, fun b u q n _ _ => ⟨u.slots, k b u (hb b n) q⟩, fun b u q n _ => by rw [upd_ne (hx b n)]; exact n, fun b u q _ => ?_,
    fun b xs q => by rw [upd_ne (hm b _ q fun z => z)]; exact q, fun b u xs q => by rw [upd_ne (hm b _ q fun z => z)]; exact q, fun b ps q => ⟨#[], by rw [upd_ne (hm b _ q fun z => z), q]; simp⟩⟩
  by_cases hbe : b = e
  · subst hbe; exact heo
  · exact ⟨u, k b u hbe q⟩
theorem Un.mono (u : Un fs ex H H1 h h1) (hs : ∀ b ∈ fs, b ∈ fs') (hx : ∀ b ∈ ex, b ∈ ex') : Un fs' ex' H H1 h h1 :=
  ⟨fun b ob q n hb he => u.keep b ob q n (fun z => hb (hs b z)) fun z => he (hx b z), fun _ _ q n _ he => u.any q n fun z => he (hx _ z), fun b ob q n he => u.free b ob q n fun z => he (hx b z), fun b ob q he => u.there b ob q fun z => he (hx b z), u.tups, u.frzs, u.tbls⟩
end

/-! ### the heap without what is tracked -/
def trk (h : Heap) (H : Hp) : List Addr := (List.range h.objs.size).filter fun a => (H a).isSome
def hidT (h : Heap) (H : Hp) : Heap := PySem.W.hideAll h (trk h H)
theorem hidT_size (h : Heap) (H : Hp) : (hidT h H).objs.size = h.objs.size := PySem.W.hideAll_size _ _
theorem hidT_get {h : Heap} {H : Hp} {b : Addr} {o : Obj} (e : h.get? b = some o) (n : H b = none) : (hidT h H).get? b = some o :=
  PySem.W.hideAll_get _ e fun hm => by
    have q : (H b).isSome = true := (List.mem_filter.mp hm).2
    rw [n] at q; simp at q
theorem of_hidT {h : Heap} {H : Hp} {b : Addr} {o : Obj} (e : (hidT h H).get? b = some o) : h.get? b = some o ∧ H b = none := by
  have e' : h.get? b = some o := PySem.W.of_hideAll (trk h H) e
  refine ⟨e', ?_⟩
  cases q : H b with
  | none => rfl
  | some x =>
    have hm : b ∈ trk h H := List.mem_filter.mpr ⟨List.mem_range.mpr (Heap.lt_size e'), by simp [q]⟩
    have z : (hidT h H).get? b = none := PySem.W.hideAll_none (trk h H) hm
    rw [z] at e; cases e

/-! ### OpenK's ledger, filled with every new object but one -/
def allNews (g h : Heap) (L : Addr) : List (Addr × Obj) := (List.range h.objs.size).filterMap fun a => if a = L ∨ (g.get? a).isSome = true then none else (h.get? a).map fun o => (a, o)
theorem mem_allNews {g h : Heap} {L a : Addr} {o : Obj} (h1 : a ≠ L) (h2 : g.get? a = none) (h3 : h.get? a = some o) : (a, o) ∈ allNews g h L :=
  List.mem_filterMap.mpr ⟨a, List.mem_range.mpr (Heap.lt_size h3), by simp [h1, h2, h3]⟩
theorem of_mem_allNews {g h : Heap} {L : Addr} {p : Addr × Obj} (hp : p ∈ allNews g h L) : p.1 ≠ L ∧ g.get? p.1 = none ∧ h.get? p.1 = some p.2 := by
  obtain ⟨b, _, e⟩ := List.mem_filterMap.mp hp
  split at e
  · cases e
  · rename_i hn
    cases q : h.get? b with
    | none => rw [q] at e; simp at e
    | some u =>
      rw [q] at e
      simp only [Option.map_some, Option.some.injEq] at e
      subst e
      refine ⟨fun z => hn (.inl z), ?_, q⟩
      show g.get? b = none
      cases r : g.get? b with
      | none => rfl
      | some v => exact (hn (.inr (by simp [r]))).elim
def rest (g h : Heap) (L d : Addr) : List (Addr × Obj) := (allNews g h L).filter fun p => decide (p.1 ≠ d)
theorem rest_ne {g h : Heap} {L d : Addr} : ∀ p ∈ rest g h L d, p.1 ≠ d := fun p hp => of_decide_eq_true (List.mem_filter.mp hp).2
theorem mem_rest {g h : Heap} {L d a : Addr} {o : Obj} (h1 : a ≠ L) (h2 : g.get? a = none) (h3 : h.get? a = some o) (h4 : a ≠ d) : (a, o) ∈ rest g h L d :=
  List.mem_filter.mpr ⟨mem_allNews h1 h2 h3, decide_eq_true h4⟩
theorem news_all {g h : Heap} {L : Addr} : News g L h (allNews g h L) := fun p hp => let ⟨a, b, c⟩ := of_mem_allNews hp; ⟨c, a, b⟩
theorem news_at {g h : Heap} {L d : Addr} {o : Obj} (h1 : d ≠ L) (h2 : g.get? d = none) (h3 : h.get? d = some o) : News g L h ((d, o) :: rest g h L d) := fun p hp => by
  rcases List.mem_cons.mp hp with rfl | hp
  · exact ⟨h3, h1, h2⟩
  · exact news_all p (List.mem_filter.mp hp).1
/-- behind a rule that changed d alone: all else but the frame is kept -/
theorem kept_of_news {g h h' : Heap} {L d : Addr} {m : Str → Option Value} (k : ∀ b o, g.get? b = some o → h.get? b = some o) (F : Fr g L h' m) (N : News g L h' (rest g h L d)) :
    ∀ b o, b ≠ L → b ≠ d → h.get? b = some o → h'.get? b = some o := fun b o h1 h2 e => by
  cases q : g.get? b with
  | some u =>
    have := k b u q
    rw [e] at this; cases this
    exact F.keep b _ q
  | none => exact (N (b, o) (mem_rest h1 q e h2)).1
end L2

namespace L2
open PySem PySem.Spec PyProof.Rows

/-- the module's facts, over the base: the heap at the law's entry without what is tracked there -/
structure Mod (K : PySem.W.Frag) (mg : Str → Option Value) (base : Heap) : Prop where
  kin : K.In base
  glob : base.Ns mainGlobals mg
  blt : ∃ mb, base.Ns builtinsNs mb ∧ ∀ x : Str, x ≠ "__name__" → mb x = bootBuiltins x
  nolimit : base.NoLimit

/-- the context: a def's body (or a comprehension's block) running. base: fixed through the whole law; s₀, H₀: the entry; outer: the frames whose slots others may change (a def's callers); stack: all frames that run;
   ex: iterators that were made ahead of the entry and are walked here (a comprehension's); fn: the names whose cells were made at the entry (a def: all; a comprehension's block: its own); calm: not within an except suite; pn: pins that every state bears; xe: what is wanted of an exception that leaves the code -/
structure Cx where
  prog : Program
  w : World
  K : PySem.W.Frag
  mg : Str → Option Value
  base : Heap
  A : Around
  N : List Str
  s₀ : Shared
  H₀ : Hp
  env : Env
  outer : List Env
  stack : List Env
  ex : List Addr
  fn : Str → Bool
  calm : Bool
  pn : List (Addr × Obj)
  xe : Value → Shared → Prop
/-- the callers' frames -/
def frs (l : List Env) : List Addr := l.filterMap (·.frame)
abbrev Cx.fs (X : Cx) : List Addr := frs X.outer

def Vis (sc : Scope) (x : Str) : Prop := sc.names.lookup x = some .local ∨ sc.names.lookup x = some .cell ∨ sc.names.lookup x = some .free
def Loc (sc : Scope) (x : Str) : Prop := sc.names.lookup x = some .local ∨ sc.names.lookup x = some .cell
def Look (env : Env) (h : Heap) (m : Str → Option Value) (x : Str) (u : Value) : Prop :=
  (env.kindOf x = some .local ∧ m x = some u) ∨ ((env.kindOf x = some .cell ∨ env.kindOf x = some .free) ∧ ∃ c, env.cells.lookup x = some c ∧ h.IsCell c (some u))

structure Cx.Ok (X : Cx) : Prop where
  mod : Mod X.K X.mg X.base
  kind : X.env.scope.kind = .function
  glob : X.env.globals = mainGlobals
  blt : X.env.builtins = builtinsNs
  above : X.s₀.heap.objs.size ≤ X.env.locals
  inj : ∀ x y c, X.env.cells.lookup x = some c → X.env.cells.lookup y = some c → x = y
  has : ∀ x, (X.env.kindOf x = some .cell ∨ X.env.kindOf x = some .free) → ∃ c, X.env.cells.lookup x = some c
  cab : ∀ x c, X.fn x = true → X.env.cells.lookup x = some c → X.s₀.heap.objs.size ≤ c
  hd : X.calm = true → X.A.handled = none
  frames : X.A.frames = some X.stack
  stk : X.stack = X.outer ∨ (X.stack = X.env :: X.outer ∧ X.env.frame = some X.env.locals)
  exf : ∀ b ∈ X.ex, b ≠ X.env.locals ∧ ∀ x c, X.env.cells.lookup x = some c → c ≠ b
  bs : ∀ b o, X.base.get? b = some o → X.s₀.heap.get? b = some o ∧ X.H₀ b = none
  bsz : X.base.objs.size ≤ X.s₀.heap.objs.size
  noex : ∀ b o, X.base.get? b = some o → b ∉ X.ex
  exfs : ∀ b ∈ X.ex, b ∉ X.fs
  funs : X.s₀.heap.FunFrames X.base X.outer
  frf : ∀ b ∈ X.fs, X.H₀ b = none

structure Inv (X : Cx) (pins : List (Addr × Obj)) (σ : List (Option V)) (H : Hp) (s : Shared) : Prop where
  ok : X.Ok
  os : s.os = X.s₀.os
  bare : AllBare s.gens
  base : Un X.fs X.ex X.H₀ H X.s₀.heap s.heap
  loc : ∃ m, s.heap.Ns X.env.locals m ∧ ∀ (i : Nat) (x : Str) (v : V), X.N[i]? = some x → σ[i]? = some (some v) → Vis X.env.scope x → ∃ u, RelV v u ∧ Look X.env s.heap m x u
  cell : ∀ x c, X.env.cells.lookup x = some c → ∃ v, s.heap.IsCell c v
  free : H X.env.locals = none
  freeC : ∀ x c, X.env.cells.lookup x = some c → H c = none
  pin : ∀ p ∈ X.pn ++ pins, s.heap.get? p.1 = some p.2 ∧ H p.1 = none ∧ p.1 ≠ X.env.locals ∧ p.1 ∉ X.fs ∧ ∀ v, p.2.data ≠ .cell v
  hok : HOk X.prog X.w H s.heap
  len : σ.length = X.N.length

section
variable {X : Cx} {pins : List (Addr × Obj)} {σ : List (Option V)} {H H' : Hp} {s : Shared} {h' : Heap}

theorem Cx.Ok.nofr (ok : X.Ok) {b : Addr} {o : Obj} (e : X.base.get? b = some o) : b ∉ X.fs := fun hb => by
  have := (ok.funs.mem hb).1
  rw [e] at this; cases this
theorem Inv.bs (I : Inv X pins σ H s) : ∀ b o, X.base.get? b = some o → s.heap.get? b = some o ∧ H b = none := fun b o e =>
  ⟨I.base.keep b o (I.ok.bs b o e).1 (I.ok.bs b o e).2 (I.ok.nofr e) (I.ok.noex b o e), I.base.free b o (I.ok.bs b o e).1 (I.ok.bs b o e).2 (I.ok.noex b o e)⟩
theorem Inv.bk (I : Inv X pins σ H s) : ∀ b o, X.base.get? b = some o → s.heap.get? b = some o := fun b o e => (I.bs b o e).1
theorem Inv.mod (I : Inv X pins σ H s) : Mod X.K X.mg X.base := I.ok.mod
theorem Inv.kIn (I : Inv X pins σ H s) : X.K.In s.heap := I.ok.mod.kin.keeps I.bk
theorem Inv.nolimit (I : Inv X pins σ H s) : s.heap.NoLimit := I.ok.mod.nolimit.keeps I.bk
/-- the frame over the base: for OpenK's rules (K.In X.base is I.mod.kin) -/
theorem Inv.fr (I : Inv X pins σ H s) : ∃ m, Fr X.base X.env.locals s.heap m :=
  let ⟨m, hn, _⟩ := I.loc
  ⟨m, hn, I.bk, Nat.le_trans I.ok.bsz I.ok.above⟩
theorem Inv.lt (I : Inv X pins σ H s) : X.env.locals < s.heap.objs.size := let ⟨_, hn, _⟩ := I.loc; hn.lt
theorem Inv.sz (I : Inv X pins σ H s) : X.s₀.heap.objs.size ≤ s.heap.objs.size := Nat.le_trans I.ok.above (Nat.le_of_lt I.lt)
theorem Inv.nofs (I : Inv X pins σ H s) {a : Addr} (h : s.heap.objs.size ≤ a) : a ∉ X.fs := fun hb => by
  obtain ⟨_, o, ho, _⟩ := I.ok.funs.mem hb
  exact absurd (Nat.lt_of_lt_of_le (Heap.lt_size ho) (Nat.le_trans I.sz h)) (Nat.lt_irrefl _)
theorem Inv.cne (I : Inv X pins σ H s) : ∀ x c, X.env.cells.lookup x = some c → c ≠ X.env.locals := fun x c e z => by
  obtain ⟨v, o, ho, hd⟩ := I.cell x c e
  obtain ⟨m, ⟨o', es, ep, ho', hd', _⟩, _⟩ := I.loc
  rw [z, ho'] at ho; cases ho; rw [hd'] at hd; cases hd
theorem Inv.funs (I : Inv X pins σ H s) : s.heap.FunFrames X.base X.outer := by
  have all : ∀ (l : List Env), (∀ b ∈ frs l, b ∈ X.fs) → X.s₀.heap.FunFrames X.base l → s.heap.FunFrames X.base l := by
    intro l
    induction l with
    | nil => intro _ _; trivial
    | cons env r ih =>
      intro hs hl
      obtain ⟨hk, ⟨L, o, hf, hn, ho, hd⟩, hr⟩ := hl
      have hL : L ∈ X.fs := hs L (by unfold frs; rw [List.filterMap_cons, hf]; exact List.mem_cons_self)
      obtain ⟨sl, e⟩ := I.base.slot L o ho (I.ok.frf L hL) hL fun z => I.ok.exfs L z hL
      exact ⟨hk, ⟨L, _, hf, hn, e, hd⟩, ih (fun b hb => hs b (by unfold frs; rw [List.filterMap_cons, hf]; exact List.mem_cons_of_mem _ hb)) hr⟩
  exact all X.outer (fun _ hb => hb) I.ok.funs

/-- the frames that run, for a call -/
theorem Inv.stack (I : Inv X pins σ H s) : s.heap.FunFrames X.base X.stack := by
  rcases I.ok.stk with e | ⟨e, hf⟩
  · rw [e]; exact I.funs
  · rw [e]
    obtain ⟨m, hn, _⟩ := I.loc
    refine .cons (by rw [I.ok.kind]; decide) hf hn ?_ I.funs
    exact Heap.get?_none_of_le (Nat.le_trans I.ok.bsz I.ok.above)
theorem Inv.stkSub (I : Inv X pins σ H s) : ∀ b ∈ frs X.stack, b ∈ X.env.locals :: X.fs := fun b hb => by
  rcases I.ok.stk with e | ⟨e, hf⟩
  · rw [e] at hb; exact List.mem_cons_of_mem _ hb
  · rw [e] at hb
    unfold frs at hb
    rw [List.filterMap_cons, hf] at hb
    exact hb
theorem Inv.stkFree (I : Inv X pins σ H s) : ∀ b ∈ frs X.stack, H b = none := fun b hb => by
  rcases List.mem_cons.mp (I.stkSub b hb) with e | hb
  · rw [e]; exact I.free
  · obtain ⟨_, o, ho, _⟩ := I.ok.funs.mem hb
    exact I.base.free b o ho (I.ok.frf b hb) fun z => I.ok.exfs b z hb

/-- THE STEP: the untracked objects but the frame and the records at ch are kept (the callers' frames up to slots), the frame's map is kept, the new abstract heap is held -/
theorem Inv.step {g' : Array GenState} {t' : Nat} {d' : Drawn} {ch : List Addr} (I : Inv X pins σ H s)
    (hch : ∀ b ∈ ch, (b ∈ X.ex ∨ X.s₀.heap.objs.size ≤ b) ∧ b ≠ X.env.locals ∧ (∀ x c, X.env.cells.lookup x = some c → c ≠ b) ∧ ∀ p ∈ X.pn ++ pins, p.1 ≠ b)
    (keep : ∀ b o, b ≠ X.env.locals → b ∉ X.fs → b ∉ ch → s.heap.get? b = some o → H b = none → h'.get? b = some o)
    (slot : ∀ b o, b ≠ X.env.locals → b ∈ X.fs → b ∉ ch → s.heap.get? b = some o → H b = none → ∃ sl, h'.get? b = some { o with slots := sl }) (free : ∀ b o, b ∉ ch → s.heap.get? b = some o → H b = none → H' b = none)
    (there : ∀ b o, b ∉ ch → s.heap.get? b = some o → ∃ o', h'.get? b = some o')
    (tups : ∀ b xs, H b = some (.tup xs) → H' b = some (.tup xs)) (frzs : ∀ b o u, H b = some (.frz o u) → H' b = some (.frz o u)) (tbls : ∀ b ps, H b = some (.tbl ps) → ∃ more, H' b = some (.tbl (ps ++ more)))
    (ns : ∀ m, s.heap.Ns X.env.locals m → h'.Ns X.env.locals m) (hok : HOk X.prog X.w H' h') (hg : AllBare g') :
    Inv X pins σ H' { s with heap := h', gens := g', drawn := d', toks := t' } := by
  have neL : ∀ b o, X.s₀.heap.get? b = some o → b ≠ X.env.locals := fun b o e => Nat.ne_of_lt (Nat.lt_of_lt_of_le (Heap.lt_size e) I.ok.above)
  have neC : ∀ b o, X.s₀.heap.get? b = some o → b ∉ X.ex → b ∉ ch := fun b o e hx hb => by
    rcases (hch b hb).1 with z | z
    · exact hx z
    · exact absurd (Nat.lt_of_lt_of_le (Heap.lt_size e) z) (Nat.lt_irrefl _)
  have cellK : ∀ x c, X.env.cells.lookup x = some c → ∀ v, s.heap.IsCell c v → h'.IsCell c v := fun x c e v ⟨o, ho, hd⟩ => by
    have nch : c ∉ ch := fun z => (hch c z).2.2.1 x c e rfl
    by_cases hc : c ∈ X.fs
    · obtain ⟨sl, q⟩ := slot c o (I.cne x c e) hc nch ho (I.freeC x c e)
      exact ⟨_, q, hd⟩
    · exact ⟨o, keep c o (I.cne x c e) hc nch ho (I.freeC x c e), hd⟩
  refine ⟨I.ok, I.os, hg, ⟨fun b o e n hb hx => ?_, fun b o e n hb hx => ?_, fun b o e n hx => ?_, fun b o e hx => ?_, fun b xs e => tups b xs (I.base.tups b xs e), fun b o xs e => frzs b o xs (I.base.frzs b o xs e), fun b ps e => ?_⟩, ?_, fun x c e => ?_, ?_, fun x c e => ?_, fun p hp => ?_, hok, I.len⟩
  · exact keep b o (neL b o e) hb (neC b o e hx) (I.base.keep b o e n hb hx) (I.base.free b o e n hx)
  · obtain ⟨sl, e1⟩ := I.base.slot b o e n hb hx
    obtain ⟨sl', e2⟩ := slot b _ (neL b o e) hb (neC b o e hx) e1 (I.base.free b o e n hx)
    exact ⟨sl', e2⟩
  · obtain ⟨o', e1⟩ := I.base.there b o e hx
    exact free b o' (neC b o e hx) e1 (I.base.free b o e n hx)
  · obtain ⟨o', e1⟩ := I.base.there b o e hx
    exact there b o' (neC b o e hx) e1
  · obtain ⟨m1, e1⟩ := I.base.tbls b ps e
    obtain ⟨m2, e2⟩ := tbls b _ e1
    exact ⟨m1 ++ m2, by rw [e2, Array.append_assoc]⟩
  · obtain ⟨m, hn, hl⟩ := I.loc
    refine ⟨m, ns m hn, fun i x v e1 e2 e3 => ?_⟩
    obtain ⟨u, r, l⟩ := hl i x v e1 e2 e3
    refine ⟨u, r, ?_⟩
    rcases l with l | ⟨k, c, e, z⟩
    · exact .inl l
    · exact .inr ⟨k, c, e, cellK x c e _ z⟩
  · obtain ⟨v, z⟩ := I.cell x c e
    exact ⟨v, cellK x c e v z⟩
  · obtain ⟨m, ⟨o, _, _, ho, _⟩, _⟩ := I.loc
    exact free _ o (fun z => (hch _ z).2.1 rfl) ho I.free
  · obtain ⟨v, o, ho, hd⟩ := I.cell x c e
    exact free c o (fun z => (hch c z).2.2.1 x c e rfl) ho (I.freeC x c e)
  · obtain ⟨e, n, ne, nf, d⟩ := I.pin p hp
    have nch : p.1 ∉ ch := fun z => (hch p.1 z).2.2.2 p hp rfl
    exact ⟨keep p.1 p.2 ne nf nch e n, free p.1 p.2 nch e n, ne, nf, d⟩
/-- .. where the frame's own object is kept too -/
theorem Inv.un {t' : Nat} (I : Inv X pins σ H s) (u : Un X.fs [] H H' s.heap h') (hok : HOk X.prog X.w H' h') : Inv X pins σ H' { s with heap := h', toks := t' } := by
  obtain ⟨m, ⟨o, es, ep, ho, r⟩, _⟩ := id I.loc
  obtain ⟨sl, hL⟩ := u.any ho I.free (by simp)
  exact I.step (g' := s.gens) (d' := s.drawn) (ch := []) (fun _ z => nomatch z) (fun b o _ hb _ e n => u.keep b o e n hb (by simp)) (fun b o _ hb _ e n => u.slot b o e n hb (by simp)) (fun b o _ e n => u.free b o e n (by simp)) (fun b o _ e => u.there b o e (by simp)) u.tups u.frzs u.tbls (fun m' hm => by
    obtain ⟨o', es', ep', ho', r'⟩ := hm
    rw [ho] at ho'; cases ho'
    exact ⟨_, es', ep', hL, r'⟩) hok I.bare
/-- behind a call (or a comprehension's block): the slots of this frame may have changed too, the records at ch may have turned -/
theorem Inv.call {g' : Array GenState} {t' : Nat} {d' : Drawn} {ch : List Addr} (I : Inv X pins σ H s) (u : Un (frs X.stack) ch H H' s.heap h') (hok : HOk X.prog X.w H' h') (hg : AllBare g')
    (hch : ∀ b ∈ ch, (b ∈ X.ex ∨ X.s₀.heap.objs.size ≤ b) ∧ b ≠ X.env.locals ∧ (∀ x c, X.env.cells.lookup x = some c → c ≠ b) ∧ ∀ p ∈ X.pn ++ pins, p.1 ≠ b) :
    Inv X pins σ H' { s with heap := h', gens := g', drawn := d', toks := t' } := by
  obtain ⟨m, ⟨o, es, ep, ho, r⟩, _⟩ := id I.loc
  obtain ⟨sl, hL⟩ := u.any ho I.free fun z => (hch _ z).2.1 rfl
  exact I.step (ch := ch) hch (fun b o hL hb hc e n => u.keep b o e n (fun z => (List.mem_cons.mp (I.stkSub b z)).elim hL hb) hc) (fun b o _ _ hc e n => u.any e n hc) (fun b o hc e n => u.free b o e n hc) (fun b o hc e => u.there b o e hc) u.tups u.frzs u.tbls (fun m' hm => by
    obtain ⟨o', es', ep', ho', r'⟩ := hm
    rw [ho] at ho'; cases ho'
    exact ⟨_, es', ep', hL, r'⟩) hok hg
/-- an untracked record of ours (an iterator) has turned -/
theorem Inv.turned {t' : Nat} {it : Addr} (I : Inv X pins σ H s) (k : ∀ b o, b ≠ it → s.heap.get? b = some o → h'.get? b = some o) (hn : H it = none) (hL : it ≠ X.env.locals)
    (h1 : it ∈ X.ex ∨ X.s₀.heap.objs.size ≤ it) (h2 : ∀ x c, X.env.cells.lookup x = some c → c ≠ it) (h3 : ∀ p ∈ X.pn ++ pins, p.1 ≠ it) : Inv X pins σ H { s with heap := h', toks := t' } := by
  have nit : ∀ b u, H b = some u → b ≠ it := fun b u e z => by rw [z, hn] at e; cases e
  refine I.step (g' := s.gens) (d' := s.drawn) (ch := [it]) (fun b hb => ?_) (fun b o _ _ hc e _ => k b o (fun z => hc (by simp [z])) e) (fun b o _ _ hc e _ => ⟨o.slots, k b o (fun z => hc (by simp [z])) e⟩) (fun _ _ _ _ n => n)
    (fun b o hc e => ⟨o, k b o (fun z => hc (by simp [z])) e⟩) (fun _ _ e => e) (fun _ _ _ e => e) (fun b ps e => ⟨#[], by rw [e]; simp⟩) (fun m hm => ?_) (fun b u e => ?_) I.bare
  · have e : b = it := by simpa using hb
    subst e
    exact ⟨h1, hL, h2, h3⟩
  · obtain ⟨o, es, ep, ho, r⟩ := hm
    exact ⟨o, es, ep, k _ o (Ne.symm hL) ho, r⟩
  · refine (I.hok b u e).stay (fun c v hc q => k c v ?_ q) (fun _ q => q) fun _ _ q => q
    rcases hc with z | z
    · rw [z]; exact nit b u e
    · exact nit c _ z
theorem Inv.tok (I : Inv X pins σ H s) (t : Nat) : Inv X pins σ H { s with toks := t } := I.un (h' := s.heap) (t' := t) Un.refl I.hok
/-- all objects kept -/
theorem Inv.kept {t' : Nat} (I : Inv X pins σ H s) (k : ∀ b u, s.heap.get? b = some u → h'.get? b = some u) : Inv X pins σ H { s with heap := h', toks := t' } := I.un (Un.kept k) (I.hok.kept k)
/-- a new object laid and tracked -/
theorem Inv.laid {a : Addr} {o : HO} {t' : Nat} (I : Inv X pins σ H s) (k : ∀ b u, s.heap.get? b = some u → h'.get? b = some u) (hp : s.heap.objs.size ≤ a) (new : ObjOk X.prog X.w (upd H a o) h' a o) :
    Inv X pins σ (upd H a o) { s with heap := h', toks := t' } := I.un (Un.laid k hp (I.hok.fresh hp)) (I.hok.laid k hp new)
/-- an object written -/
theorem Inv.write {x e : Addr} {o : HO} {t' : Nat} (I : Inv X pins σ H s) (mu : Mut (H x)) (he : e = x ∨ H e = some (.own x)) (k : ∀ b u, b ≠ e → s.heap.get? b = some u → h'.get? b = some u) (heo : ∃ u, h'.get? e = some u)
    (new : ObjOk X.prog X.w (upd H x o) h' x o) : Inv X pins σ (upd H x o) { s with heap := h', toks := t' } := I.un (Un.write mu he k heo) (I.hok.write mu he k heo new)
/-- forgetting slots, pins -/
theorem Inv.weak {σ' : List (Option V)} (I : Inv X pins σ H s) (hl : σ'.length = σ.length) (w : ∀ (i : Nat) v, σ'[i]? = some (some v) → σ[i]? = some (some v)) : Inv X pins σ' H s :=
  ⟨I.ok, I.os, I.bare, I.base, let ⟨m, hn, hl'⟩ := I.loc; ⟨m, hn, fun i x v e1 e2 e3 => hl' i x v e1 (w i v e2) e3⟩, I.cell, I.free, I.freeC, I.pin, I.hok, hl.trans I.len⟩
theorem Inv.pins_of {pins' : List (Addr × Obj)} (I : Inv X pins σ H s) (h : ∀ p ∈ pins', s.heap.get? p.1 = some p.2 ∧ H p.1 = none ∧ p.1 ≠ X.env.locals ∧ p.1 ∉ X.fs ∧ ∀ v, p.2.data ≠ .cell v) : Inv X pins' σ H s :=
  ⟨I.ok, I.os, I.bare, I.base, I.loc, I.cell, I.free, I.freeC, fun p hp => (List.mem_append.mp hp).elim (fun z => I.pin p (List.mem_append_left _ z)) (h p), I.hok, I.len⟩

theorem nodup_ix {N : List Str} (hN : N.Nodup) {i j : Nat} {x : Str} (a : N[i]? = some x) (b : N[j]? = some x) : i = j := by
  obtain ⟨h1, e1⟩ := List.getElem?_eq_some_iff.mp a
  obtain ⟨h2, e2⟩ := List.getElem?_eq_some_iff.mp b
  exact (List.getElem_inj hN).mp (e1.trans e2.symm)

/-- a name is stored; what changed -/
theorem store_ok2 {M : Model} {A : Around} {E : Value → Shared → Prop} {i : Nat} {x : Str} {v : V} {u : Value} {Q : Unit → Shared → Prop} (I : Inv X pins σ H s) (hN : X.N.Nodup) (hi : X.N[i]? = some x) (hx : Loc X.env.scope x) (r : RelV v u)
    (h : ∀ s', Inv X pins (σ.set i (some v)) H s' → (∃ a, Heap.SameBut a s.heap s'.heap ∧ (a = X.env.locals ∨ X.env.cells.lookup x = some a)) → Q () s') (hf : X.fn x = true ∨ X.env.scope.names.lookup x = some .local := by first | exact .inl rfl | exact .inr rfl | assumption) : wpAny M A (storeName X.env x u) Q E s := by
  obtain ⟨m, hn, hl⟩ := id I.loc
  have hcls : (X.env.scope.kind == .class || (X.env.scope.kind == .module && X.env.locals != X.env.globals)) = false := by rw [I.ok.kind]; rfl
  have hiσ : i < σ.length := by rw [I.len]; exact (List.getElem?_eq_some_iff.mp hi).1
  have cne := I.cne
  have tracked : ∀ {a : Addr} {h' : Heap}, (∃ o, s.heap.get? a = some o ∧ H a = none) → Heap.SameBut a s.heap h' → HOk X.prog X.w H h' := fun {a h'} ha hs b ob e => by
    obtain ⟨_, _, hfree⟩ := ha
    refine (I.hok b ob e).stay (fun c w' hc q => (hs.2 c ?_).trans q) (fun _ q => q) fun _ _ q => q
    rintro rfl
    rcases hc with rfl | hc
    · rw [hfree] at e; cases e
    · rw [hfree] at hc; cases hc
  rcases hx with hk | hk
  · refine wpAny_storeName_local hk hn (fun h' hn' hs => ?_) hcls
    obtain ⟨oL, _, _, hoL, _⟩ := id hn
    refine h _ ⟨I.ok, I.os, I.bare, ⟨fun b o e n hb hx => ?_, fun b o e n hb hx => ?_, I.base.free, fun b o e hx => ?_, I.base.tups, I.base.frzs, I.base.tbls⟩, ⟨_, hn', fun j y v' e1 e2 e3 => ?_⟩, fun y c e => ?_, I.free, I.freeC, fun p hp => ?_, tracked ⟨oL, hoL, I.free⟩ hs, by simpa using I.len⟩ ⟨_, hs, .inl rfl⟩
    · exact (hs.2 b (Nat.ne_of_lt (Nat.lt_of_lt_of_le (Heap.lt_size e) I.ok.above))).trans (I.base.keep b o e n hb hx)
    · obtain ⟨sl, e1⟩ := I.base.slot b o e n hb hx
      exact ⟨sl, (hs.2 b (Nat.ne_of_lt (Nat.lt_of_lt_of_le (Heap.lt_size e) I.ok.above))).trans e1⟩
    · obtain ⟨o', e1⟩ := I.base.there b o e hx
      exact ⟨o', (hs.2 b (Nat.ne_of_lt (Nat.lt_of_lt_of_le (Heap.lt_size e) I.ok.above))).trans e1⟩
    · by_cases hj : j = i
      · subst hj
        rw [hi] at e1; cases e1
        rw [List.getElem?_set_self hiσ] at e2
        cases e2
        exact ⟨u, r, .inl ⟨hk, by simp⟩⟩
      · rw [List.getElem?_set_ne (Ne.symm hj)] at e2
        obtain ⟨u', r', q⟩ := hl j y v' e1 e2 e3
        refine ⟨u', r', ?_⟩
        rcases q with ⟨k, e⟩ | ⟨k, c, e, z⟩
        · refine .inl ⟨k, ?_⟩
          have : y ≠ x := fun e => hj (nodup_ix hN e1 (e ▸ hi))
          simp [this, e]
        · exact .inr ⟨k, c, e, z.sameBut hs (cne y c e)⟩
    · obtain ⟨w', z⟩ := I.cell y c e
      exact ⟨w', z.sameBut hs (cne y c e)⟩
    · obtain ⟨e, n, ne, nf, d⟩ := I.pin p hp
      exact ⟨(hs.2 p.1 ne).trans e, n, ne, nf, d⟩
  · have hfn : X.fn x = true := by
      rcases hf with z | z
      · exact z
      · rw [z] at hk; cases hk
    obtain ⟨c, hc⟩ := I.ok.has x (.inl hk)
    obtain ⟨w', z⟩ := I.cell x c hc
    refine wpAny_storeName_cell I.ok.kind hk hc z (fun h' hc' hs => ?_)
    obtain ⟨oc, hoc, hocd⟩ := id z
    refine h { s with heap := h' } ⟨I.ok, I.os, I.bare, ⟨fun b o e n hb hx => ?_, fun b o e n hb hx => ?_, I.base.free, fun b o e hx => ?_, I.base.tups, I.base.frzs, I.base.tbls⟩, ⟨m, hn.sameBut hs (Ne.symm (cne x c hc)), fun j y v' e1 e2 e3 => ?_⟩, fun y c' e => ?_, I.free, I.freeC, fun p hp => ?_, tracked ⟨oc, hoc, I.freeC x c hc⟩ hs, by simpa using I.len⟩ ⟨c, hs, .inr hc⟩
    · exact (hs.2 b (Nat.ne_of_lt (Nat.lt_of_lt_of_le (Heap.lt_size e) (I.ok.cab x c hfn hc)))).trans (I.base.keep b o e n hb hx)
    · obtain ⟨sl, e1⟩ := I.base.slot b o e n hb hx
      exact ⟨sl, (hs.2 b (Nat.ne_of_lt (Nat.lt_of_lt_of_le (Heap.lt_size e) (I.ok.cab x c hfn hc)))).trans e1⟩
    · obtain ⟨o', e1⟩ := I.base.there b o e hx
      exact ⟨o', (hs.2 b (Nat.ne_of_lt (Nat.lt_of_lt_of_le (Heap.lt_size e) (I.ok.cab x c hfn hc)))).trans e1⟩
    · by_cases hj : j = i
      · subst hj
        rw [hi] at e1; cases e1
        rw [List.getElem?_set_self hiσ] at e2
        cases e2
        exact ⟨u, r, .inr ⟨.inl hk, c, hc, hc'⟩⟩
      · rw [List.getElem?_set_ne (Ne.symm hj)] at e2
        obtain ⟨u', r', q⟩ := hl j y v' e1 e2 e3
        refine ⟨u', r', ?_⟩
        rcases q with q | ⟨k, c', e, z'⟩
        · exact .inl q
        · refine .inr ⟨k, c', e, z'.sameBut hs ?_⟩
          rintro rfl
          exact hj (nodup_ix hN e1 (I.ok.inj _ _ _ e hc ▸ hi))
    · by_cases hcc : c' = c
      · subst hcc; exact ⟨_, hc'⟩
      · obtain ⟨w2, z2⟩ := I.cell y c' e
        exact ⟨w2, z2.sameBut hs hcc⟩
    · obtain ⟨e, n, ne, nf, d⟩ := I.pin p hp
      refine ⟨(hs.2 p.1 ?_).trans e, n, ne, nf, d⟩
      intro q
      rw [q, hoc] at e
      have q' : oc = p.2 := Option.some.inj e
      exact d w' (by rw [← q']; exact hocd)
theorem store_ok {M : Model} {A : Around} {E : Value → Shared → Prop} {i : Nat} {x : Str} {v : V} {u : Value} {Q : Unit → Shared → Prop} (I : Inv X pins σ H s) (hN : X.N.Nodup) (hi : X.N[i]? = some x) (hx : Loc X.env.scope x) (r : RelV v u)
    (h : ∀ s', Inv X pins (σ.set i (some v)) H s' → Q () s') (hf : X.fn x = true ∨ X.env.scope.names.lookup x = some .local := by first | exact .inl rfl | exact .inr rfl | assumption) : wpAny M A (storeName X.env x u) Q E s :=
  store_ok2 I hN hi hx r (fun s' I' _ => h s' I') hf
/-- behind a call or a block, the state as it is -/
theorem Inv.call' {s' : Shared} {ch : List Addr} (I : Inv X pins σ H s) (ho : s'.os = s.os) (u : Un (frs X.stack) ch H H' s.heap s'.heap) (hok : HOk X.prog X.w H' s'.heap) (hg : AllBare s'.gens)
    (hch : ∀ b ∈ ch, (b ∈ X.ex ∨ X.s₀.heap.objs.size ≤ b) ∧ b ≠ X.env.locals ∧ (∀ x c, X.env.cells.lookup x = some c → c ≠ b) ∧ ∀ p ∈ X.pn ++ pins, p.1 ≠ b) : Inv X pins σ H' s' := by
  obtain ⟨h', g', d', t', o'⟩ := s'
  have e : o' = s.os := ho
  subst e
  exact I.call (g' := g') (t' := t') (d' := d') u hok hg hch
end

/-! ### the judgements -/
/-- an exception: its class, its own dict's address (where it has one), the abstract heap behind it -/
abbrev XK := Value → Option Addr → Hp → Prop
abbrev St := List (Option V)
abbrev VK := V → Hp → Prop
/-- an expression's reading; a test's; an argument list's -/
abbrev TE := St → Hp → VK → Prop
abbrev TT := St → Hp → (Bool → Hp → Prop) → Prop
abbrev TA := St → Hp → (List V → Hp → Prop) → Prop
/-- what is wanted behind a statement -/
structure Ends where
  nx : St → Hp → Prop
  rt : VK
  bk : St → Hp → Prop := fun _ _ => False
  ct : St → Hp → Prop := fun _ _ => False
abbrev TS := Ends → St → Hp → Prop

def EP (X : Cx) (pins : List (Addr × Obj)) (σ : St) (Q : VK) (u : Value) (s' : Shared) : Prop := ∃ v H', Inv X pins σ H' s' ∧ RelV v u ∧ Q v H'
def TP (X : Cx) (pins : List (Addr × Obj)) (σ : St) (Q : Bool → Hp → Prop) (b : Bool) (s' : Shared) : Prop := ∃ H', Inv X pins σ H' s' ∧ Q b H'
def AP (X : Cx) (pins : List (Addr × Obj)) (σ : St) (Q : List V → Hp → Prop) (us : List Value) (s' : Shared) : Prop := ∃ vs H', Inv X pins σ H' s' ∧ Vals vs us ∧ Q vs H'
def SP (X : Cx) (pins : List (Addr × Obj)) (D : Ends) (f : Flow) (s' : Shared) : Prop :=
  match f with
  | .next => ∃ σ' H', Inv X pins σ' H' s' ∧ D.nx σ' H'
  | .brk => ∃ σ' H', Inv X pins σ' H' s' ∧ D.bk σ' H'
  | .cont => ∃ σ' H', Inv X pins σ' H' s' ∧ D.ct σ' H'
  | .ret u => ∃ v σ' H', Inv X pins σ' H' s' ∧ RelV v u ∧ D.rt v H'

def PE (X : Cx) (e : Expr) (t : TE) : Prop :=
  ∀ (pins : List (Addr × Obj)) (s : Shared) (σ : St) (H : Hp) (Q : VK), Inv X pins σ H s → t σ H Q → wpAny (model X.prog X.w) X.A (eval e X.env) (EP X pins σ Q) X.xe s
def PT (X : Cx) (e : Expr) (t : TT) : Prop :=
  ∀ (pins : List (Addr × Obj)) (s : Shared) (σ : St) (H : Hp) (Q : Bool → Hp → Prop), Inv X pins σ H s → t σ H Q → wpAny (model X.prog X.w) X.A (isTrue e X.env (eval e X.env)) (TP X pins σ Q) X.xe s
/-- a test whatever its 'whole' is (and, or) -/
def PW (X : Cx) (e : Expr) (t : TT) : Prop :=
  ∀ (whole : Sem Value) (pins : List (Addr × Obj)) (s : Shared) (σ : St) (H : Hp) (Q : Bool → Hp → Prop), Inv X pins σ H s → t σ H Q → wpAny (model X.prog X.w) X.A (isTrue e X.env whole) (TP X pins σ Q) X.xe s
theorem PW.pt {X : Cx} {e : Expr} {t : TT} (h : PW X e t) : PT X e t := h _
/-- an argument list (no star), from the left -/
def PA (X : Cx) (es : List Expr) (t : TA) : Prop :=
  ∀ (pos : Pos) (pins : List (Addr × Obj)) (s : Shared) (σ : St) (H : Hp) (Q : List V → Hp → Prop), Inv X pins σ H s → t σ H Q → wpAny (model X.prog X.w) X.A (spliced (backTo pos (starEach es X.env))) (AP X pins σ Q) X.xe s
def PS (X : Cx) (st : Stmt) (t : TS) : Prop :=
  ∀ (pins : List (Addr × Obj)) (s : Shared) (σ : St) (H : Hp) (D : Ends), Inv X pins σ H s → t D σ H → wpAny (model X.prog X.w) X.A (exec st X.env) (SP X pins D) X.xe s
def PSs (X : Cx) (st : List Stmt) (t : TS) : Prop :=
  ∀ (pins : List (Addr × Obj)) (s : Shared) (σ : St) (H : Hp) (D : Ends), Inv X pins σ H s → t D σ H → wpAny (model X.prog X.w) X.A (execs st X.env) (SP X pins D) X.xe s
/-- weaken the end -/
theorem thn {α : Type} {t : Sem α} {Q Q' : α → Shared → Prop} {M : Model} {A : Around} {E : Value → Shared → Prop} {s : Shared} (h : wpAny M A t Q E s) (hQ : ∀ a s, Q a s → Q' a s) : wpAny M A t Q' E s := wpAny_mono h hQ fun _ _ x => x
end L2

namespace L2
open PySem PySem.Spec PyProof.Rows
section
variable {X : Cx}

/-- two expressions in a row -/
theorem bin {a b : Expr} {ta tb : TE} (ha : PE X a ta) (hb : PE X b tb) {pins : List (Addr × Obj)} {s : Shared} {σ : St} {H : Hp} {R : V → V → Hp → Prop} (I : Inv X pins σ H s) (h : ta σ H fun x H1 => tb σ H1 fun y H2 => R x y H2)
    {α : Type} {Q : α → Shared → Prop} {f : Value → Value → Sem α}
    (hf : ∀ v u s2 x y H2, Inv X pins σ H2 s2 → RelV x v → RelV y u → R x y H2 → wpAny (model X.prog X.w) X.A (f v u) Q X.xe s2) :
    wpAny (model X.prog X.w) X.A (eval a X.env) (fun v s₁ => wpAny (model X.prog X.w) X.A (eval b X.env) (fun u s₂ => wpAny (model X.prog X.w) X.A (f v u) Q X.xe s₂) X.xe s₁) X.xe s := by
  refine thn (ha pins s σ H _ I h) fun v s1 ⟨x, H1, I1, r1, q1⟩ => ?_
  refine thn (hb pins s1 σ H1 _ I1 q1) fun u s2 ⟨y, H2, I2, r2, q2⟩ => ?_
  exact hf v u s2 x y H2 I2 r1 r2 q2

/-! ### names and constants -/
def tVar (i : Nat) : TE := fun σ H Q => ∃ v, σ[i]? = some (some v) ∧ Q v H
def tC (v : V) : TE := fun _ H Q => Q v H
theorem pe_var {i : Nat} {x : Str} {pos : Pos} (hN : X.N[i]? = some x) (hv : Vis X.env.scope x) (hd : (x == ("__debug__" : Str)) = false := by decide) (hcd : (x == ("__classdict__" : Str)) = false := by decide) : PE X (.Name x pos) (tVar i) := by
  intro pins s σ H Q I h
  obtain ⟨v, e, h⟩ := h
  obtain ⟨m, hn, hl⟩ := I.loc
  obtain ⟨u, r, l⟩ := hl i x v hN e hv
  have fin : EP X pins σ Q u s := ⟨v, H, I, r, h⟩
  rcases l with ⟨hk, hm⟩ | ⟨hk, c, hc, hcell⟩
  · exact wpAny_Name (wpAny_loadName_local I.ok.kind hk hn hm fin) hd
  · rcases hk with hk | hk
    · exact wpAny_Name (wpAny_loadName_cell I.ok.kind hk hc hcell fin) hd
    · exact wpAny_Name (wpAny_loadName_free I.ok.kind hk hc hcell fin hcd) hd
theorem pe_int {i j pos} : PE X (.Constant (.int i) j pos) (tC (.int i)) := fun _ _ _ H _ I h => wpAny_Constant_int ⟨.int i, H, I.tok _, ⟨_, rfl⟩, h⟩
theorem pe_bl {b j pos} : PE X (.Constant (.bool b) j pos) (tC (.bl b)) := fun _ _ _ H _ I h => Constant_bool ⟨.bl b, H, I, rfl, h⟩
theorem pe_non {j pos} : PE X (.Constant .none j pos) (tC .non) := fun _ _ _ H _ I h => Constant_none ⟨.non, H, I, rfl, h⟩
theorem pe_str {x j pos} : PE X (.Constant (.str x) j pos) (tC (.str x)) := fun _ _ _ H _ I h => Calls.Constant_str ⟨.str x, H, I.tok _, ⟨_, rfl⟩, h⟩

/-- a global name of the def -/
def Gl (X : Cx) (x : Str) : Prop := X.env.kindOf x = some .globalImplicit
theorem ld_glob {E : Value → Shared → Prop} {pins : List (Addr × Obj)} {s : Shared} {σ : St} {H : Hp} {x : Str} {u : Value} {pos : Pos} {Q : Value → Shared → Prop} (I : Inv X pins σ H s) (hg : Gl X x) (hm : X.mg x = some u) (h : Q u s)
    (hd : (x == ("__debug__" : Str)) = false := by decide) : wpAny (model X.prog X.w) X.A (eval (.Name x pos) X.env) Q E s :=
  Calls.Name_function_global I.ok.kind hg (Calls.loadGlobal_global (by rw [I.ok.glob]; exact I.mod.glob.keeps I.bk) hm h) hd
theorem ld_blt {E : Value → Shared → Prop} {pins : List (Addr × Obj)} {s : Shared} {σ : St} {H : Hp} {x : Str} {u : Value} {pos : Pos} {Q : Value → Shared → Prop} (I : Inv X pins σ H s) (hg : Gl X x) (hm : X.mg x = none) (hv : bootBuiltins x = some u) (h : Q u s)
    (hn : x ≠ "__name__" := by decide) (hd : (x == ("__debug__" : Str)) = false := by decide) : wpAny (model X.prog X.w) X.A (eval (.Name x pos) X.env) Q E s := by
  obtain ⟨mb, h1, h2⟩ := I.mod.blt
  exact Calls.Name_function_global I.ok.kind hg (Calls.loadGlobal_builtin (by rw [I.ok.glob]; exact I.mod.glob.keeps I.bk) hm (by rw [I.ok.blt]; exact h1.keeps I.bk) ((h2 x hn).trans hv) h) hd
/-- a module's constant, a class, a function, as a value -/
theorem pe_glob {x : Str} {v : V} {u : Value} {pos : Pos} (hg : Gl X x) (hm : X.mg x = some u) (r : RelV v u) (hd : (x == ("__debug__" : Str)) = false := by decide) : PE X (.Name x pos) (tC v) :=
  fun _ _ _ H _ I h => ld_glob I hg hm ⟨v, H, I, r, h⟩ hd
theorem pe_bltn {x : Str} {v : V} {u : Value} {pos : Pos} (hg : Gl X x) (hm : X.mg x = none) (hv : bootBuiltins x = some u) (r : RelV v u) (hn : x ≠ "__name__" := by decide) (hd : (x == ("__debug__" : Str)) = false := by decide) : PE X (.Name x pos) (tC v) :=
  fun _ _ _ H _ I h => ld_blt I hg hm hv ⟨v, H, I, r, h⟩ hn hd

/-! ### arithmetic -/
/-- two ints -/
def t2I (ta tb : TE) (k : Int → Int → Hp → Prop) : St → Hp → Prop := fun σ H => ta σ H fun x H1 => tb σ H1 fun y H2 => ∃ i j, x = .int i ∧ y = .int j ∧ k i j H2
def tAdd (ta tb : TE) : TE := fun σ H Q => t2I ta tb (fun i j H2 => Q (.int (i + j)) H2) σ H
def tSub (ta tb : TE) : TE := fun σ H Q => t2I ta tb (fun i j H2 => Q (.int (i - j)) H2) σ H
/-- the left factor below 2^64 -/
def tMul (ta tb : TE) : TE := fun σ H Q => t2I ta tb (fun i j H2 => (-(2 ^ 64) < i ∧ i < 2 ^ 64) ∧ Q (.int (i * j)) H2) σ H
variable {a b : Expr} {ta tb : TE} {pos : Pos}
theorem pe_add (ha : PE X a ta) (hb : PE X b tb) : PE X (.BinOp a .Add b pos) (tAdd ta tb) := by
  intro pins s σ H Q I h
  refine wpAny_BinOp (bin ha hb I h fun v u s2 x y H2 I2 rx ry q => ?_)
  obtain ⟨i, j, rfl, rfl, q⟩ := q
  obtain ⟨t, rfl⟩ := rx
  obtain ⟨t', rfl⟩ := ry
  exact add_int ⟨.int _, H2, I2.tok _, ⟨_, rfl⟩, q⟩
theorem pe_sub (ha : PE X a ta) (hb : PE X b tb) : PE X (.BinOp a .Sub b pos) (tSub ta tb) := by
  intro pins s σ H Q I h
  refine wpAny_BinOp (bin ha hb I h fun v u s2 x y H2 I2 rx ry q => ?_)
  obtain ⟨i, j, rfl, rfl, q⟩ := q
  obtain ⟨t, rfl⟩ := rx
  obtain ⟨t', rfl⟩ := ry
  exact sub_int ⟨.int _, H2, I2.tok _, ⟨_, rfl⟩, q⟩
theorem pe_mul (ha : PE X a ta) (hb : PE X b tb) : PE X (.BinOp a .Mult b pos) (tMul ta tb) := by
  intro pins s σ H Q I h
  refine wpAny_BinOp (bin ha hb I h fun v u s2 x y H2 I2 rx ry q => ?_)
  obtain ⟨i, j, rfl, rfl, ⟨q1, q2⟩, q⟩ := q
  obtain ⟨t, rfl⟩ := rx
  obtain ⟨t', rfl⟩ := ry
  exact mul_int ⟨.int _, H2, I2.tok _, ⟨_, rfl⟩, q⟩ (.of_left (intBits_le_64 q1 q2))

/-! ### comparisons -/
def PC (X : Cx) (op : CmpOp) (a b : Expr) (t : TE) : Prop :=
  ∀ (pins : List (Addr × Obj)) (s : Shared) (σ : St) (H : Hp) (Q : VK), Inv X pins σ H s → t σ H Q →
    wpAny (model X.prog X.w) X.A (eval a X.env) (fun v s₁ => wpAny (model X.prog X.w) X.A (eval b X.env) (fun u s₂ => wpAny (model X.prog X.w) X.A (compareOp op v u) (EP X pins σ Q) X.xe s₂) X.xe s₁) X.xe s
theorem nobehind (b : Expr) {op : CmpOp} (h : op ≠ .In) (h2 : op ≠ .NotIn) : behindInMarks op b = false := by
  have e1 : (op == CmpOp.In) = false := by cases op <;> first | rfl | exact absurd rfl h
  have e2 : (op == CmpOp.NotIn) = false := by cases op <;> first | rfl | exact absurd rfl h2
  cases b <;> simp [behindInMarks, e1, e2]
def tCmp (p : Int → Int → Bool) (ta tb : TE) : TE := fun σ H Q => t2I ta tb (fun i j H2 => Q (.bl (p i j)) H2) σ H
abbrev tLt : TE → TE → TE := tCmp fun i j => decide (i < j)
abbrev tLe : TE → TE → TE := tCmp fun i j => decide (i ≤ j)
abbrev tGt : TE → TE → TE := tCmp fun i j => decide (j < i)
abbrev tGe : TE → TE → TE := tCmp fun i j => decide (j ≤ i)
abbrev tEqI : TE → TE → TE := tCmp fun i j => decide (i = j)
abbrev tNeI : TE → TE → TE := tCmp fun i j => !decide (i = j)
/-- a comparison of two ints, by its rule -/
theorem pc_int {op : CmpOp} {p : Int → Int → Bool} (ha : PE X a ta) (hb : PE X b tb)
    (rule : ∀ (i j : Int) (t u : Tok) (Q : Value → Shared → Prop) (s : Shared), Q (.bool (p i j)) s → wpAny (model X.prog X.w) X.A (compareOp op (.int i t) (.int j u)) Q X.xe s) : PC X op a b (tCmp p ta tb) := by
  intro pins s σ H Q I h
  refine bin ha hb I h fun v u s2 x y H2 I2 rx ry q => ?_
  obtain ⟨i, j, rfl, rfl, q⟩ := q
  obtain ⟨t, rfl⟩ := rx
  obtain ⟨t', rfl⟩ := ry
  exact rule i j t t' _ s2 ⟨.bl _, H2, I2, rfl, q⟩
theorem pc_lt (ha : PE X a ta) (hb : PE X b tb) : PC X .Lt a b (tLt ta tb) := pc_int ha hb fun _ _ _ _ _ _ h => lt_int h
theorem pc_le (ha : PE X a ta) (hb : PE X b tb) : PC X .LtE a b (tLe ta tb) := pc_int ha hb fun _ _ _ _ _ _ h => le_int h
theorem pc_gt (ha : PE X a ta) (hb : PE X b tb) : PC X .Gt a b (tGt ta tb) := pc_int ha hb fun _ _ _ _ _ _ h => gt_int h
theorem pc_ge (ha : PE X a ta) (hb : PE X b tb) : PC X .GtE a b (tGe ta tb) := pc_int ha hb fun _ _ _ _ _ _ h => ge_int h
theorem pc_eqI (ha : PE X a ta) (hb : PE X b tb) : PC X .Eq a b (tEqI ta tb) := pc_int ha hb fun _ _ _ _ _ _ h => eq_int (by rw [Bool.beq_eq_decide_eq]; exact h)
theorem pc_neI (ha : PE X a ta) (hb : PE X b tb) : PC X .NotEq a b (tNeI ta tb) := pc_int ha hb fun _ _ _ _ _ _ h => ne_int (by rw [bne, Bool.beq_eq_decide_eq]; exact h)
/-- is None -/
def tIsN (ta : TE) : TE := fun σ H Q => ta σ H fun x H1 => Q (.bl (decide (x = .non))) H1
def tNotN (ta : TE) : TE := fun σ H Q => ta σ H fun x H1 => Q (.bl (!decide (x = .non))) H1
theorem RelV.none_iff {x : V} {v : Value} (r : RelV x v) : (v == Value.none) = decide (x = .non) := by
  cases x with
  | non => cases r; rfl
  | bl _ => cases r; rfl
  | int _ => obtain ⟨t, rfl⟩ := r; rfl
  | str _ => obtain ⟨t, rfl⟩ := r; rfl
  | byt _ => obtain ⟨t, rfl⟩ := r; rfl
  | flt _ => obtain ⟨t, rfl⟩ := r; rfl
  | ref _ => cases r; rfl
  | ty _ => cases r; rfl
theorem pc_isN {j pos'} (ha : PE X a ta) : PC X .Is a (.Constant .none j pos') (tIsN ta) := by
  intro pins s σ H Q I h
  refine thn (ha pins s σ H _ I h) fun v s1 ⟨x, H1, I1, r1, q1⟩ => ?_
  exact Constant_none (is_none_gen ⟨.bl _, H1, I1, by rw [r1.none_iff]; rfl, q1⟩)
theorem pc_notN {j pos'} (ha : PE X a ta) : PC X .IsNot a (.Constant .none j pos') (tNotN ta) := by
  intro pins s σ H Q I h
  refine thn (ha pins s σ H _ I h) fun v s1 ⟨x, H1, I1, r1, q1⟩ => ?_
  exact Constant_none (isnot_none_gen ⟨.bl _, H1, I1, by rw [r1.none_iff]; rfl, q1⟩)
/-- a comparison as a value, as a test -/
def tB (t : TE) : TT := fun σ H Q => t σ H fun x H1 => ∃ c, x = .bl c ∧ Q c H1
theorem pe_cmp {op : CmpOp} {t : TE} (h : PC X op a b t) (h1 : behindInMarks op b = false := by first | exact nobehind _ (by decide) (by decide) | rfl) : PE X (.Compare a [op] [b] pos) t := fun pins s σ H Q I hw => wpAny_Compare1 (h pins s σ H Q I hw) h1
theorem pt_cmp {op : CmpOp} {t : TE} (h : PC X op a b t) (h1 : behindInMarks op b = false := by first | exact nobehind _ (by decide) (by decide) | rfl) : PT X (.Compare a [op] [b] pos) (tB t) := by
  intro pins s σ H Q I hw
  refine wpAny_isTrue_Compare1 (thn (h pins s σ H _ I hw) fun v s1 h1 => thn h1 fun u s2 h2 => thn h2 fun c s3 ⟨x, H1, I1, r1, q1⟩ => ?_) h1
  obtain ⟨d, rfl, q⟩ := q1
  cases r1
  exact wpAny_truthy_bool ⟨H1, I1, q⟩
/-- an expression whose value is a bool, as a test -/
theorem pt_val {e : Expr} {t : TE} (h : PE X e t) (he : ∀ whole, isTrue e X.env whole = (do let v ← whole; standAt e.pos; holding [v] (truthy v)) := by intro _; rfl) : PT X e (tB t) := by
  intro pins s σ H Q I hw
  refine isTrue_plain (thn (h pins s σ H _ I hw) fun v s1 ⟨x, H1, I1, r1, q1⟩ => ?_) (he _)
  obtain ⟨d, rfl, q⟩ := q1
  cases r1
  exact wpAny_truthy_bool ⟨H1, I1, q⟩

/-! ### and, or, not -/
variable {tA tB' : TT} {rest : List Expr}
def tAnd (t u : TT) : TT := fun σ H Q => t σ H fun c H1 => if c = true then u σ H1 Q else Q false H1
def tOr (t u : TT) : TT := fun σ H Q => t σ H fun c H1 => if c = true then Q true H1 else u σ H1 Q
def tNot (t : TT) : TT := fun σ H Q => t σ H fun c H1 => Q (!c) H1
theorem pw_and1 (ha : PT X a tA) : PW X (.BoolOp .And [a] pos) tA := by
  intro wh pins s σ H Q I h
  refine isTrue_and (thn (ha pins s σ H Q I h) fun c s1 e => ?_)
  cases c with
  | true => exact isTrue_and_nil e
  | false => exact e
theorem pw_or1 (ha : PT X a tA) : PW X (.BoolOp .Or [a] pos) tA := by
  intro wh pins s σ H Q I h
  refine isTrue_or (thn (ha pins s σ H Q I h) fun c s1 e => ?_)
  cases c with
  | false => exact isTrue_or_nil e
  | true => exact e
theorem pw_and (ha : PT X a tA) (hb : PW X (.BoolOp .And (b :: rest) pos) tB') : PW X (.BoolOp .And (a :: b :: rest) pos) (tAnd tA tB') := by
  intro wh pins s σ H Q I h
  refine isTrue_and (thn (ha pins s σ H _ I h) fun c s1 ⟨H1, I1, q1⟩ => ?_)
  cases c with
  | true => exact hb wh pins s1 σ H1 Q I1 q1
  | false => exact ⟨H1, I1, q1⟩
theorem pw_or (ha : PT X a tA) (hb : PW X (.BoolOp .Or (b :: rest) pos) tB') : PW X (.BoolOp .Or (a :: b :: rest) pos) (tOr tA tB') := by
  intro wh pins s σ H Q I h
  refine isTrue_or (thn (ha pins s σ H _ I h) fun c s1 ⟨H1, I1, q1⟩ => ?_)
  cases c with
  | true => exact ⟨H1, I1, q1⟩
  | false => exact hb wh pins s1 σ H1 Q I1 q1
theorem pt_not (ha : PT X a tA) : PT X (.UnaryOp .Not a pos) (tNot tA) := by
  intro pins s σ H Q I h
  exact isTrue_not (ha pins s σ H (fun c H1 => Q (!c) H1) I h)
/-- .. as values (bools) -/
def tAndV (ta tb : TE) : TE := fun σ H Q => ta σ H fun x H1 => ∃ c, x = .bl c ∧ if c = true then tb σ H1 Q else Q (.bl false) H1
def tOrV (ta tb : TE) : TE := fun σ H Q => ta σ H fun x H1 => ∃ c, x = .bl c ∧ if c = true then Q (.bl true) H1 else tb σ H1 Q
def tNotV (ta : TE) : TE := fun σ H Q => ta σ H fun x H1 => ∃ c, x = .bl c ∧ Q (.bl (!c)) H1
theorem pe_one {op} {t : TE} (h : PE X a t) : PE X (.BoolOp op [a] pos) t := fun pins s σ H Q I hw => BoolOp_one (h pins s σ H Q I hw)
theorem pe_and (ha : PE X a ta) (hb : PE X (.BoolOp .And (b :: rest) pos) tb) : PE X (.BoolOp .And (a :: b :: rest) pos) (tAndV ta tb) := by
  intro pins s σ H Q I h
  refine BoolOp_and (thn (ha pins s σ H _ I h) fun v s1 ⟨x, H1, I1, r1, q1⟩ => ?_)
  obtain ⟨c, rfl, q1⟩ := q1
  cases r1
  refine wpAny_truthy_bool ?_
  cases c with
  | true => exact hb pins s1 σ H1 Q I1 q1
  | false => exact ⟨.bl false, H1, I1, rfl, q1⟩
theorem pe_or (ha : PE X a ta) (hb : PE X (.BoolOp .Or (b :: rest) pos) tb) : PE X (.BoolOp .Or (a :: b :: rest) pos) (tOrV ta tb) := by
  intro pins s σ H Q I h
  refine BoolOp_or (thn (ha pins s σ H _ I h) fun v s1 ⟨x, H1, I1, r1, q1⟩ => ?_)
  obtain ⟨c, rfl, q1⟩ := q1
  cases r1
  refine wpAny_truthy_bool ?_
  cases c with
  | false => exact hb pins s1 σ H1 Q I1 q1
  | true => exact ⟨.bl true, H1, I1, rfl, q1⟩
theorem pe_not (ha : PE X a ta) : PE X (.UnaryOp .Not a pos) (tNotV ta) := by
  intro pins s σ H Q I h
  refine UnaryOp_ (thn (ha pins s σ H _ I h) fun v s1 ⟨x, H1, I1, r1, q1⟩ => ?_)
  obtain ⟨c, rfl, q1⟩ := q1
  cases r1
  exact not_of (wpAny_truthy_bool ⟨.bl (!c), H1, I1, rfl, q1⟩)
/-- a if t else b -/
def tIf (t : TT) (ta tb : TE) : TE := fun σ H Q => t σ H fun c H1 => if c = true then ta σ H1 Q else tb σ H1 Q
theorem pe_ifExp {c : Expr} (hc : PT X c tA) (ha : PE X a ta) (hb : PE X b tb) : PE X (.IfExp c a b pos) (tIf tA ta tb) := by
  intro pins s σ H Q I h
  refine wpAny_IfExp (thn (hc pins s σ H _ I h) fun d s1 ⟨H1, I1, q1⟩ => ?_)
  cases d with
  | true => exact ha pins s1 σ H1 Q I1 q1
  | false => exact hb pins s1 σ H1 Q I1 q1
end
end L2

namespace L2
open PySem PySem.Spec PyProof.Rows

/-! ### a list, a tuple that is read: tracked, frozen, or an object of the module -/
def SqL (K : PySem.W.Frag) (H : Hp) (a : Addr) (xs : List V) : Prop :=
  Rd H a (.lst xs) ∨
    ∃ (o : Obj) (its : Array Value) (n : Nat), K.lookup a = some o ∧ o.cls = .type "list" ∧ o.dict = none ∧ o.data = .seq its n ∧ its.size ≤ sizeLine ∧ Vals xs its.toList
def SqT (K : PySem.W.Frag) (H : Hp) (a : Addr) (xs : List V) : Prop :=
  Rd H a (.tup xs) ∨
    ∃ (o : Obj) (its : Array Value) (n : Nat), K.lookup a = some o ∧ o.cls = .type "tuple" ∧ o.data = .seq its n ∧ its.size ≤ sizeLine ∧ Vals xs its.toList
def absV : Value → Option V
  | .none => some .non
  | .bool b => some (.bl b)
  | .int i _ => some (.int i)
  | .str x _ => some (.str x)
  | .bytes b _ => some (.byt b)
  | .float b _ => some (.flt b)
  | .ref a => some (.ref a)
  | .type n => some (.ty n)
  | _ => none
theorem RelV.abs {x : V} {u : Value} (r : RelV x u) : absV u = some x := by
  cases x with
  | non => cases r; rfl
  | bl _ => cases r; rfl
  | int _ => obtain ⟨t, rfl⟩ := r; rfl
  | str _ => obtain ⟨t, rfl⟩ := r; rfl
  | byt _ => obtain ⟨t, rfl⟩ := r; rfl
  | flt _ => obtain ⟨t, rfl⟩ := r; rfl
  | ref _ => cases r; rfl
  | ty _ => cases r; rfl
theorem RelV.inj {x y : V} {u : Value} (r : RelV x u) (q : RelV y u) : x = y := Option.some.inj (r.abs.symm.trans q.abs)
theorem Vals.inj : ∀ {xs ys : List V} {us : List Value}, Vals xs us → Vals ys us → xs = ys
  | _, _, _, .nil, .nil => rfl
  | _, _, _, .cons r t, .cons r' t' => by rw [r.inj r', Vals.inj t t']
section
variable {X : Cx} {pins : List (Addr × Obj)} {σ : St} {H : Hp} {s : Shared} {a : Addr} {xs ys : List V}
theorem SqL.of {K : PySem.W.Frag} (h : H a = some (.lst xs)) : SqL K H a xs := .inl (.inl h)
theorem SqT.of {K : PySem.W.Frag} (h : H a = some (.tup xs)) : SqT K H a xs := .inl (.inl h)
theorem Inv.list (I : Inv X pins σ H s) (h : SqL X.K H a xs) : ∃ its : List Value, Vals xs its ∧ PlainL s.heap a its.toArray ∧ xs.length ≤ sizeLine := by
  rcases h with h | ⟨o, its, n, hk, hc, hd, hs, hz, r⟩
  · obtain ⟨z, its, n, r, e⟩ := h.ok I.hok
    exact ⟨its, r, ⟨_, n, e, rfl, rfl, rfl⟩, z⟩
  · refine ⟨its.toList, r, ⟨o, n, I.kIn a o hk, hc, hd, by simpa using hs⟩, ?_⟩
    have e := r.length
    simp only [Array.length_toList] at e
    omega
theorem Inv.tuple (I : Inv X pins σ H s) (h : SqT X.K H a xs) : ∃ its : List Value, Vals xs its ∧ IsTup s.heap a its.toArray ∧ xs.length ≤ sizeLine := by
  rcases h with h | ⟨o, its, n, hk, hc, hs, hz, r⟩
  · obtain ⟨z, its, r, p⟩ := h.ok I.hok
    exact ⟨its, r, p, z⟩
  · refine ⟨its.toList, r, ⟨o, I.kIn a o hk, hc, n, by simpa using hs⟩, ?_⟩
    have e := r.length
    simp only [Array.length_toList] at e
    omega
theorem Inv.list_inj (I : Inv X pins σ H s) (h : SqL X.K H a xs) (h' : SqL X.K H a ys) : xs = ys := by
  obtain ⟨its, r, ⟨o, n, e, _, _, d⟩, _⟩ := I.list h
  obtain ⟨its', r', ⟨o', n', e', _, _, d'⟩, _⟩ := I.list h'
  rw [e] at e'; cases e'
  rw [d] at d'
  injection d' with d1 _
  have : its = its' := by simpa using congrArg Array.toList d1
  subst this
  exact r.inj r'
theorem Inv.tuple_inj (I : Inv X pins σ H s) (h : SqT X.K H a xs) (h' : SqT X.K H a ys) : xs = ys := by
  obtain ⟨its, r, ⟨o, e, _, n, d⟩, _⟩ := I.tuple h
  obtain ⟨its', r', ⟨o', e', _, n', d'⟩, _⟩ := I.tuple h'
  rw [e] at e'; cases e'
  rw [d] at d'
  injection d' with d1 _
  have : its = its' := by simpa using congrArg Array.toList d1
  subst this
  exact r.inj r'
end

/-! ### another wish about exceptions -/
abbrev Cx.wish (X : Cx) (E : Value → Shared → Prop) : Cx := { X with xe := E }
/-- no exception leaves -/
abbrev Cx.nox (X : Cx) : Cx := X.wish fun _ _ => False
theorem Cx.Ok.wish {X : Cx} (ok : X.Ok) (E : Value → Shared → Prop) : (X.wish E).Ok :=
  ⟨ok.mod, ok.kind, ok.glob, ok.blt, ok.above, ok.inj, ok.has, ok.cab, ok.hd, ok.frames, ok.stk, ok.exf, ok.bs, ok.bsz, ok.noex, ok.exfs, ok.funs, ok.frf⟩
theorem Cx.Ok.unwish {X : Cx} {E : Value → Shared → Prop} (ok : (X.wish E).Ok) : X.Ok :=
  ⟨ok.mod, ok.kind, ok.glob, ok.blt, ok.above, ok.inj, ok.has, ok.cab, ok.hd, ok.frames, ok.stk, ok.exf, ok.bs, ok.bsz, ok.noex, ok.exfs, ok.funs, ok.frf⟩
section
variable {X : Cx} {pins : List (Addr × Obj)} {σ : St} {H : Hp} {s : Shared} {E : Value → Shared → Prop}
theorem Inv.wish (I : Inv X pins σ H s) (E : Value → Shared → Prop) : Inv (X.wish E) pins σ H s := ⟨I.ok.wish E, I.os, I.bare, I.base, I.loc, I.cell, I.free, I.freeC, I.pin, I.hok, I.len⟩
theorem Inv.unwish (I : Inv (X.wish E) pins σ H s) : Inv X pins σ H s := ⟨I.ok.unwish, I.os, I.bare, I.base, I.loc, I.cell, I.free, I.freeC, I.pin, I.hok, I.len⟩
theorem SP.unwish {D : Ends} {f : Flow} {s' : Shared} (h : SP (X.wish E) pins D f s') : SP X pins D f s' := by
  cases f with
  | next => obtain ⟨σ', H', I, q⟩ := h; exact ⟨σ', H', I.unwish, q⟩
  | brk => obtain ⟨σ', H', I, q⟩ := h; exact ⟨σ', H', I.unwish, q⟩
  | cont => obtain ⟨σ', H', I, q⟩ := h; exact ⟨σ', H', I.unwish, q⟩
  | ret u => obtain ⟨v, σ', H', I, r, q⟩ := h; exact ⟨v, σ', H', I.unwish, r, q⟩
theorem PE.nox {e : Expr} {t : TE} (h : PE X.nox e t) : PE X e t := fun pins s σ H Q I hw =>
  wpAny_mono (h pins s σ H Q (I.wish _) hw) (fun _ _ ⟨v, H', I', r, q⟩ => ⟨v, H', I'.unwish, r, q⟩) fun _ _ z => False.elim z
theorem PT.nox {e : Expr} {t : TT} (h : PT X.nox e t) : PT X e t := fun pins s σ H Q I hw =>
  wpAny_mono (h pins s σ H Q (I.wish _) hw) (fun _ _ ⟨H', I', q⟩ => ⟨H', I'.unwish, q⟩) fun _ _ z => False.elim z
theorem PSs.nox {st : List Stmt} {t : TS} (h : PSs X.nox st t) : PSs X st t := fun pins s σ H D I hw =>
  wpAny_mono (h pins s σ H D (I.wish _) hw) (fun _ _ q => q.unwish) fun _ _ z => False.elim z
end

/-! ### blocks and small statements -/
section
variable {X : Cx} {st : Stmt} {rest : List Stmt} {t u : TS} {e : Expr} {te : TE} {pos : Pos}
def tNext : TS := fun D σ H => D.nx σ H
def tSeq (t u : TS) : TS := fun D σ H => t { D with nx := u D } σ H
theorem pss_nil : PSs X [] tNext := fun _ _ σ H _ I h => wpAny_execs_nil ⟨σ, H, I, h⟩
theorem pss_cons (h1 : PS X st t) (h2 : PSs X rest u) : PSs X (st :: rest) (tSeq t u) := by
  intro pins s σ H D I h
  refine wpAny_execs_cons (thn (h1 pins s σ H { D with nx := u D } I h) fun f s1 q => ?_)
  cases f with
  | next =>
    obtain ⟨σ', H', I', q⟩ := q
    exact h2 pins s1 σ' H' D I' q
  | ret v => exact q
  | brk => exact q
  | cont => exact q
theorem pss_one (h1 : PS X st t) : PSs X [st] t := by
  intro pins s σ H D I h
  refine wpAny_execs_cons (thn (h1 pins s σ H D I h) fun f s1 q => ?_)
  cases f with
  | next => exact wpAny_execs_nil q
  | ret v => exact q
  | brk => exact q
  | cont => exact q
def tBreak : TS := fun D σ H => D.bk σ H
def tCont : TS := fun D σ H => D.ct σ H
theorem ps_pass : PS X (.Pass pos) tNext := fun _ _ σ H _ I h => wpAny_Pass ⟨σ, H, I, h⟩
theorem ps_break : PS X (.Break pos) tBreak := fun _ _ σ H _ I h => wpAny_Break ⟨σ, H, I, h⟩
theorem ps_continue : PS X (.Continue pos) tCont := fun _ _ σ H _ I h => wpAny_Continue ⟨σ, H, I, h⟩
/-- in a def's body nothing is shown -/
theorem Inv.quiet {pins : List (Addr × Obj)} {σ : St} {H : Hp} {s : Shared} (I : Inv X pins σ H s) : interactive X.env = false := by simp [interactive, I.ok.kind]
/-- a docstring -/
theorem ps_doc {x j pos pos'} : PS X (.Expr (.Constant (.str x) j pos) pos') tNext := fun _ s σ H _ I h => wpAny_Expr (Calls.Constant_str (show SP X _ _ .next { s with toks := s.toks + 1 } from ⟨σ, H, I.tok _, h⟩)) I.quiet
/-- an expression whose value is dropped -/
def tDrop (te : TE) : TS := fun D σ H => te σ H fun _ H1 => D.nx σ H1
theorem ps_expr (he : PE X e te) (hs : swapsWith e none pos.line X.env = pure false := by rfl) : PS X (.Expr e pos) (tDrop te) := by
  intro pins s σ H D I h
  exact wpAny_Expr_any (thn (he pins s σ H _ I h) fun v s1 ⟨x, H1, I1, r1, q1⟩ => ⟨σ, H1, I1, q1⟩) I.quiet hs
def tRet (te : TE) : TS := fun D σ H => te σ H D.rt
theorem ps_ret (he : PE X e te) : PS X (.Return (some e) pos) (tRet te) := by
  intro pins s σ H D I h
  exact wpAny_Return_some (thn (he pins s σ H _ I h) fun v s1 ⟨x, H1, I1, r1, q1⟩ => ⟨x, σ, H1, I1, r1, q1⟩)
def tRetN : TS := fun D _ H => D.rt .non H
theorem ps_retN : PS X (.Return none pos) tRetN := fun _ _ σ H _ I h => wpAny_Return_none ⟨.non, σ, H, I, rfl, h⟩
def tIfS (c : TT) (t u : TS) : TS := fun D σ H => c σ H fun b H1 => if b = true then t D σ H1 else u D σ H1
theorem ps_if {c : Expr} {a b : List Stmt} {tc : TT} (hc : PT X c tc) (ha : PSs X a t) (hb : PSs X b u) : PS X (.If c a b pos) (tIfS tc t u) := by
  intro pins s σ H D I h
  refine wpAny_If (thn (hc pins s σ H _ I h) fun d s1 ⟨H1, I1, q1⟩ => ?_)
  cases d with
  | true => exact ha pins s1 σ H1 D I1 q1
  | false => exact hb pins s1 σ H1 D I1 q1
/-- code that the proof never comes to -/
def tNever : TS := fun _ _ _ => False
theorem ps_never : PS X st tNever := fun _ _ _ _ _ _ h => h.elim
theorem pss_never {sts : List Stmt} : PSs X sts tNever := fun _ _ _ _ _ _ h => h.elim
end

/-! ### targets -/
abbrev TG := V → St → Hp → (St → Hp → Prop) → Prop
abbrev TGs := List V → St → Hp → (St → Hp → Prop) → Prop
def PG (X : Cx) (target : Expr) (t : TG) : Prop :=
  ∀ (pins : List (Addr × Obj)) (s : Shared) (σ : St) (H : Hp) (v : V) (u : Value) (Q : St → Hp → Prop), Inv X pins σ H s → RelV v u → t v σ H Q →
    wpAny (model X.prog X.w) X.A (assign target X.env u) (fun _ s' => ∃ σ' H', Inv X pins σ' H' s' ∧ Q σ' H') X.xe s
/-- several targets, one after another -/
def PGs (X : Cx) (ts : List Expr) (t : TGs) : Prop :=
  ∀ (pins : List (Addr × Obj)) (s : Shared) (σ : St) (H : Hp) (vs : List V) (us : List Value) (Q : St → Hp → Prop), Inv X pins σ H s → Vals vs us → t vs σ H Q →
    wpAny (model X.prog X.w) X.A (assignInOrder ((assignEach ts X.env).map (·.2)) us) (fun _ s' => ∃ σ' H', Inv X pins σ' H' s' ∧ Q σ' H') X.xe s
/-- o[i] = v, by values -/
abbrev TSet := V → V → V → Hp → (Hp → Prop) → Prop
def PSet (X : Cx) (t : TSet) : Prop :=
  ∀ (pins : List (Addr × Obj)) (s : Shared) (σ : St) (H : Hp) (o i v : V) (ov iv u : Value) (Q : Hp → Prop), Inv X pins σ H s → RelV o ov → RelV i iv → RelV v u → t o i v H Q →
    wpAny (model X.prog X.w) X.A (setItem ov iv u) (fun _ s' => ∃ H', Inv X pins σ H' s' ∧ Q H') X.xe s
/-- a op= b, by values -/
abbrev TIp := V → V → Hp → VK → Prop
def PIp (X : Cx) (op : Operator) (t : TIp) : Prop :=
  ∀ (pins : List (Addr × Obj)) (s : Shared) (σ : St) (H : Hp) (x y : V) (v u : Value) (Q : VK), Inv X pins σ H s → RelV x v → RelV y u → t x y H Q →
    wpAny (model X.prog X.w) X.A (inplaceOp op v u) (EP X pins σ Q) X.xe s
section
variable {X : Cx} {pos : Pos}
def gName (i : Nat) : TG := fun v σ H Q => Q (σ.set i (some v)) H
theorem pg_name {i : Nat} {x : Str} (hN : X.N.Nodup) (hi : X.N[i]? = some x) (hx : Loc X.env.scope x) (hf : X.fn x = true ∨ X.env.scope.names.lookup x = some .local := by first | exact .inl rfl | exact .inr rfl | assumption) : PG X (.Name x pos) (gName i) := by
  intro pins s σ H v u Q I r h
  exact wpAny_assign_Name (store_ok I hN hi hx r (fun s' I' => ⟨_, H, I', h⟩) hf)
def gNil : TGs := fun vs σ H Q => vs = [] ∧ Q σ H
def gCons (t : TG) (u : TGs) : TGs := fun vs σ H Q => ∃ v r, vs = v :: r ∧ t v σ H fun σ' H' => u r σ' H' Q
theorem pgs_nil : PGs X [] gNil := by
  intro pins s σ H vs us Q I r h
  obtain ⟨e, h⟩ := h
  subst e
  cases r
  exact assignInOrder_nil ⟨σ, H, I, h⟩
theorem pgs_cons {e : Expr} {es : List Expr} {t : TG} {u : TGs} (h1 : PG X e t) (h2 : PGs X es u)
    (hs : (assignEach (e :: es) X.env).map (·.2) = assign e X.env :: (assignEach es X.env).map (·.2) := by rfl) : PGs X (e :: es) (gCons t u) := by
  intro pins s σ H vs us Q I r h
  obtain ⟨v, vr, e1, h⟩ := h
  subst e1
  cases r with
  | cons r rr =>
    rw [hs]
    refine assignInOrder_cons (thn (h1 pins s σ H _ _ _ I r h) fun _ s1 ⟨σ1, H1, I1, q1⟩ => ?_)
    exact h2 pins s1 σ1 H1 _ _ Q I1 rr q1
/-- (a, b, ..) = a tuple of that length -/
def gTup (K : PySem.W.Frag) (n : Nat) (t : TGs) : TG := fun v σ H Q => ∃ a xs, v = .ref a ∧ SqT K H a xs ∧ xs.length = n ∧ t xs σ H Q
theorem pg_tup {es : List Expr} {k : Nat} {t : TGs} {n : Nat} (hc : X.calm = true) (h : PGs X es t)
    (hn : (assignEach es X.env).length = n := by rfl) (hst : (assignEach es X.env).findIdx? (·.1) = none := by rfl) : PG X (.Tuple es k pos) (gTup X.K n t) := by
  intro pins s σ H v u Q I r hw
  obtain ⟨a, xs, e1, hq, hl, hw⟩ := hw
  subst e1
  cases r
  obtain ⟨its, rv, ht, hz⟩ := I.tuple hq
  refine assign_Tuple_tuple (I.ok.hd hc) ht (by simp [hn, ← hl, rv.length]) hst fun h' hx => ?_
  have I1 : Inv X pins σ H { s with heap := h' } := I.kept (t' := s.toks) fun b o e => hx b o (Nat.ne_of_lt (Heap.lt_size e)) e
  exact h pins _ σ H xs _ Q I1 (by simpa using rv) hw
/-- o[i] = .. -/
def gSub (to ti : TE) (t : TSet) : TG := fun v σ H Q => to σ H fun o H1 => ti σ H1 fun i H2 => t o i v H2 fun H3 => Q σ H3
theorem pg_sub {o i : Expr} {to ti : TE} {t : TSet} (ho : PE X o to) (hi : PE X i ti) (hs : PSet X t)
    (ha : ∀ v, assign (.Subscript o i pos) X.env v = (do
      let ov ← holding [v] (eval o X.env)
      let iv ← holding [v, ov] (eval i X.env)
      standAt pos
      holding [v, ov, iv] (setItem ov iv v)
      release [v, ov, iv] []) := by intro _; rfl) : PG X (.Subscript o i pos) (gSub to ti t) := by
  intro pins s σ H v u Q I r h
  rw [ha]
  refine wpAny_bind (wpAny_holding (thn (ho pins s σ H _ I h) fun ov s1 ⟨x, H1, I1, r1, q1⟩ => ?_))
  refine wpAny_bind (wpAny_holding (thn (hi pins s1 σ H1 _ I1 q1) fun iv s2 ⟨y, H2, I2, r2, q2⟩ => ?_))
  refine wpAny_bind (wpAny_standAt (wpAny_bind (wpAny_holding (thn (hs pins s2 σ H2 x y v ov iv u _ I2 r1 r2 r q2) fun _ s3 ⟨H3, I3, q3⟩ => ?_))))
  exact wpAny_release ⟨σ, H3, I3, q3⟩
/-- target = value -/
def tAsg (te : TE) (g : TG) : TS := fun D σ H => te σ H fun x H1 => g x σ H1 D.nx
theorem ps_asg {tg e : Expr} {te : TE} {g : TG} (he : PE X e te) (hg : PG X tg g) (hs : swapsWithSole [tg] e pos.line X.env = pure false := by rfl) (hw : swappedStores [tg] e X.env = pure none := by rfl)
    (h1 : (assignEach [tg] X.env).map (·.2) = [assign tg X.env] := by rfl) : PS X (.Assign [tg] e pos) (tAsg te g) := by
  intro pins s σ H D I h
  refine wpAny_Assign_stores (thn (he pins s σ H _ I h) fun v s1 ⟨x, H1, I1, r1, q1⟩ => ?_) hs hw
  rw [h1]
  exact thn (hg pins s1 σ H1 x v _ I1 r1 q1) fun _ s2 q => q
/-- name = value -/
theorem ps_set {i : Nat} {x : Str} {e : Expr} {te : TE} {pos' : Pos} (hN : X.N.Nodup) (hi : X.N[i]? = some x) (hx : Loc X.env.scope x) (he : PE X e te) (hs : swapsWith e (some (.Name x pos')) pos.line X.env = pure false := by rfl) (hf : X.fn x = true ∨ X.env.scope.names.lookup x = some .local := by first | exact .inl rfl | exact .inr rfl | assumption) :
    PS X (.Assign [.Name x pos'] e pos) (tAsg te (gName i)) := by
  intro pins s σ H D I h
  refine wpAny_Assign_Name (thn (he pins s σ H _ I h) fun v s1 ⟨y, H1, I1, r1, q1⟩ => ?_) hs
  exact store_ok I1 hN hi hx r1 (fun s2 I2 => ⟨_, H1, I2, q1⟩) hf
/-- a, b = x, y with plain local names: stored from the right; the pair itself is not tracked (the opening rows as in PyProof/Rows/TupAssign.lean:23) -/
def tPar (i j : Nat) (ta : TA) : TS := fun D σ H => ta σ H fun vs H1 => ∃ v w, vs = [v, w] ∧ D.nx ((σ.set i (some v)).set j (some w)) H1
theorem ps_par {i j : Nat} {x y : Str} {a b : Expr} {ta : TA} {px py pt : Pos} {kt k2 pt2} (hc : X.calm = true) (hN : X.N.Nodup) (hi : X.N[i]? = some x) (hj : X.N[j]? = some y) (hij : i ≠ j)
    (hx : X.env.scope.names.lookup x = some .local) (hy : X.env.scope.names.lookup y = some .local) (ha : PA X [a, b] ta)
    (hw : swappedStores [.Tuple [.Name x px, .Name y py] kt pt] (.Tuple [a, b] k2 pt2) X.env = pure (some [x, y]))
    (hs : swapsWithSole [.Tuple [.Name x px, .Name y py] kt pt] (.Tuple [a, b] k2 pt2) pos.line X.env = pure false := by rfl) :
    PS X (.Assign [.Tuple [.Name x px, .Name y py] kt pt] (.Tuple [a, b] k2 pt2) pos) (tPar i j ta) := by
  intro pins s σ H D I h
  rw [exec_Assign_arm]
  refine wpAny_bind (wpAny_standAt ?_)
  rw [hs]
  refine wpAny_bind (wpAny_pure ?_)
  rw [if_neg (by decide)]
  refine wpAny_bind (Tuple_ (thn (ha _ pins s σ H _ I h) fun us s1 ⟨vs, H1, I1, r1, q1⟩ => ?_))
  obtain ⟨v, w, e1, q1⟩ := q1
  subst e1
  obtain ⟨u1, u2, rfl, rv, rw'⟩ : ∃ u1 u2, us = [u1, u2] ∧ RelV v u1 ∧ RelV w u2 := by
    cases r1 with
    | cons p q =>
      cases q with
      | cons p' q' =>
        cases q'
        exact ⟨_, _, rfl, p, p'⟩
  refine wpAny_newObj_type ?_ (by show 2 ≤ sizeLine; decide)
  have I2 : Inv X pins σ H1 { s1 with heap := s1.heap.push { cls := .type "tuple", data := .seq [u1, u2].toArray } } := I1.kept (t' := s1.toks) fun b o e => Heap.get?_push_of_some _ e
  rw [hw]
  refine wpAny_bind (wpAny_pure ?_)
  show wpAny (model X.prog X.w) X.A (do rule "assign.swapped-stores"; let items ← unpackItems (.ref s1.heap.objs.size) 2 none; assignInOrder [fun v => bindName X.env y v, fun v => bindName X.env x v] items.reverse; pure Flow.next) _ _ _
  refine wpAny_bind (wpAny_rule (wpAny_bind (unpackItems_tuple (items := #[u1, u2]) (I.ok.hd hc) (IsTup.new s1.heap _) fun h' hx' => ?_)))
  have I3 := I2.kept (h' := h') (t' := s1.toks) fun b o e => hx' b o (Nat.ne_of_lt (Heap.lt_size e)) e
  show wpAny _ _ (assignInOrder [fun v => bindName X.env y v, fun v => bindName X.env x v] [u2, u1] >>= fun _ => pure Flow.next) _ _ _
  refine wpAny_bind (assignInOrder_cons (wpAny_bindName (store_ok I3 hN hj (.inl hy) rw' (fun s2 I4 => ?_) (.inr hy))))
  refine assignInOrder_cons (wpAny_bindName (store_ok I4 hN hi (.inl hx) rv (fun s3 I5 => assignInOrder_nil (wpAny_pure ?_)) (.inr hx)))
  rw [List.set_comm _ _ (Ne.symm hij)] at I5
  exact ⟨_, H1, I5, q1⟩
/-- name op= e -/
def tAug (i : Nat) (te : TE) (ti : TIp) : TS := fun D σ H => ∃ x, σ[i]? = some (some x) ∧ te σ H fun y H1 => ti x y H1 fun z H2 => D.nx (σ.set i (some z)) H2
theorem ps_aug {i : Nat} {x : Str} {e : Expr} {te : TE} {op : Operator} {ti : TIp} {pos' : Pos} (hN : X.N.Nodup) (hi : X.N[i]? = some x) (hx : Loc X.env.scope x) (he : PE X e te) (ho : PIp X op ti) (hf : X.fn x = true ∨ X.env.scope.names.lookup x = some .local := by first | exact .inl rfl | exact .inr rfl | assumption) :
    PS X (.AugAssign (.Name x pos') op e pos) (tAug i te ti) := by
  intro pins s σ H D I h
  obtain ⟨v, e1, h⟩ := h
  obtain ⟨m, hn, hl⟩ := I.loc
  have vis : Vis X.env.scope x := by rcases hx with k | k; exact .inl k; exact .inr (.inl k)
  obtain ⟨u, r, l⟩ := hl i x v hi e1 vis
  refine wpAny_AugAssign_Name ?_
  have go : wpAny (model X.prog X.w) X.A (eval e X.env) (fun w s₂ => wpAny (model X.prog X.w) X.A (inplaceOp op u w) (fun r s₃ => wpAny (model X.prog X.w) X.A (storeName X.env x r) (fun _ => SP X pins D .next) X.xe s₃) X.xe s₂) X.xe s := by
    refine thn (he pins s σ H _ I h) fun w s1 ⟨y, H1, I1, r1, q1⟩ => ?_
    refine thn (ho pins s1 σ H1 v y u w _ I1 r r1 q1) fun z s2 ⟨zv, H2, I2, r2, q2⟩ => ?_
    exact store_ok I2 hN hi hx r2 (fun s3 I3 => ⟨_, H2, I3, q2⟩) hf
  rcases l with ⟨hk, hm⟩ | ⟨hk, c, hc, hcell⟩
  · exact wpAny_loadName_local I.ok.kind hk hn hm go
  · rcases hk with hk | hk
    · exact wpAny_loadName_cell I.ok.kind hk hc hcell go
    · rcases hx with k | k
      · have : X.env.scope.names.lookup x = some .free := hk
        rw [k] at this; cases this
      · have : X.env.scope.names.lookup x = some .free := hk
        rw [k] at this; cases this
/-- o[i] op= e -/
def tAugS (to ti te : TE) (tget : V → V → Hp → VK → Prop) (tip : TIp) (tset : TSet) : TS := fun D σ H => to σ H fun o H1 => ti σ H1 fun i H2 => tget o i H2 fun x H3 => te σ H3 fun y H4 => tip x y H4 fun z H5 => tset o i z H5 fun H6 => D.nx σ H6
/-- o[i], by values -/
def PGet (X : Cx) (t : V → V → Hp → VK → Prop) : Prop :=
  ∀ (pins : List (Addr × Obj)) (s : Shared) (σ : St) (H : Hp) (o i : V) (ov iv : Value) (Q : VK), Inv X pins σ H s → RelV o ov → RelV i iv → t o i H Q →
    wpAny (model X.prog X.w) X.A (getItem ov iv) (EP X pins σ Q) X.xe s
theorem ps_augS {o i e : Expr} {to ti te : TE} {tget : V → V → Hp → VK → Prop} {tip : TIp} {tset : TSet} {op : Operator} {tpos : Pos} (ho : PE X o to) (hi : PE X i ti) (hg : PGet X tget) (he : PE X e te) (hp : PIp X op tip) (hs : PSet X tset)
    (ha : ∀ ov iv new, augStore i ov iv new = (do holding [new, ov, iv] (setItem ov iv new); release [new, ov, iv] []; pure .next) := by intros; rfl) : PS X (.AugAssign (.Subscript o i tpos) op e pos) (tAugS to ti te tget tip tset) := by
  intro pins s σ H D I h
  refine wpAny_AugAssign_SubscriptAny (thn (ho pins s σ H _ I h) fun ov s1 ⟨x1, H1, I1, r1, q1⟩ => ?_) ha
  refine thn (hi pins s1 σ H1 _ I1 q1) fun iv s2 ⟨x2, H2, I2, r2, q2⟩ => ?_
  refine thn (hg pins s2 σ H2 x1 x2 ov iv _ I2 r1 r2 q2) fun old s3 ⟨x3, H3, I3, r3, q3⟩ => ?_
  refine thn (he pins s3 σ H3 _ I3 q3) fun v s4 ⟨x4, H4, I4, r4, q4⟩ => ?_
  refine thn (hp pins s4 σ H4 x3 x4 old v _ I4 r3 r4 q4) fun new s5 ⟨x5, H5, I5, r5, q5⟩ => ?_
  exact thn (hs pins s5 σ H5 x1 x2 x5 ov iv new _ I5 r1 r2 r5 q5) fun _ s6 ⟨H6, I6, q6⟩ => ⟨σ, H6, I6, q6⟩
/-- ints -/
def ipI (f : Int → Int → Int) : TIp := fun x y H Q => ∃ i j, x = .int i ∧ y = .int j ∧ Q (.int (f i j)) H
theorem ip_add : PIp X .Add (ipI fun i j => i + j) := by
  intro pins s σ H x y v u Q I r1 r2 h
  obtain ⟨i, j, e1, e2, q⟩ := h
  subst e1; subst e2
  obtain ⟨t, rfl⟩ := r1
  obtain ⟨t', rfl⟩ := r2
  exact iadd_int ⟨.int _, H, I.tok _, ⟨_, rfl⟩, q⟩
theorem ip_sub : PIp X .Sub (ipI fun i j => i - j) := by
  intro pins s σ H x y v u Q I r1 r2 h
  obtain ⟨i, j, e1, e2, q⟩ := h
  subst e1; subst e2
  obtain ⟨t, rfl⟩ := r1
  obtain ⟨t', rfl⟩ := r2
  exact isub_int ⟨.int _, H, I.tok _, ⟨_, rfl⟩, q⟩
end

/-! ### while -/
section
variable {X : Cx} {pos : Pos}
/-- the invariant W with its measure -/
def tWhile (c : TT) (tb : TS) : TS := fun D σ H => ∃ W : Nat → St → Hp → Prop, (∃ m, W m σ H) ∧ ∀ m σ H, W m σ H →
  c σ H fun b H1 => if b = true then ∃ N : St → Hp → Prop, (∀ σ' H', N σ' H' → ∃ m', m' < m ∧ W m' σ' H') ∧ tb { D with nx := N, ct := N, bk := D.nx } σ H1 else D.nx σ H1
theorem ps_while {c : Expr} {body : List Stmt} {tc : TT} {tb : TS} (hp : PassesOwn (model X.prog X.w) X.A X.env X.xe) (hc : PT X c tc) (hb : PSs X body tb) : PS X (.While c body [] pos) (tWhile tc tb) := by
  intro pins s σ H D I h
  obtain ⟨W, ⟨m0, w0⟩, turn⟩ := h
  refine wpAny_While (codeAny_whileLoop (fun n s' => ∃ σ' H', Inv X pins σ' H' s' ∧ W n σ' H') ?_ m0 ⟨σ, H, I, w0⟩)
  rintro n s1 ⟨σ1, H1, I1, w1⟩
  refine wpAny_passesOwn hp (thn (hc pins s1 σ1 H1 _ I1 (turn n σ1 H1 w1)) fun b s2 ⟨H2, I2, q2⟩ => ?_)
  cases b with
  | true =>
    obtain ⟨N, hN, q2⟩ := q2
    rw [if_pos rfl]
    refine wpAny_passesOwn hp (thn (hb pins s2 σ1 H2 _ I2 q2) fun f s3 q3 => ?_)
    cases f with
    | next =>
      obtain ⟨σ3, H3, I3, n3⟩ := q3
      obtain ⟨m', hm, w3⟩ := hN σ3 H3 n3
      exact ⟨m', hm, σ3, H3, I3, w3⟩
    | cont =>
      obtain ⟨σ3, H3, I3, n3⟩ := q3
      obtain ⟨m', hm, w3⟩ := hN σ3 H3 n3
      exact ⟨m', hm, σ3, H3, I3, w3⟩
    | brk => exact q3
    | ret v => exact q3
  | false =>
    rw [if_neg Bool.false_ne_true]
    exact wpAny_execs_nil ⟨σ1, H2, I2, q2⟩
end

/-! ### what a loop or a comprehension walks -/
/-- at turn i: it yields x (the heap may grow), or it stops -/
structure It where
  go : Nat → Hp → Prop
  yld : Nat → Hp → V → Hp → Prop
  stop : Nat → Hp → Prop
/-- the iterator's own objects may turn: they are not the frame's, not pinned, younger than the entry (or a comprehension's own) -/
def FpOk (X : Cx) (pins : List (Addr × Obj)) (H : Hp) (b : Addr) : Prop :=
  H b = none ∧ b ≠ X.env.locals ∧ b ∉ X.fs ∧ (b ∈ X.ex ∨ X.s₀.heap.objs.size ≤ b) ∧ (∀ x c, X.env.cells.lookup x = some c → c ≠ b) ∧ ∀ p ∈ X.pn ++ pins, p.1 ≠ b
theorem Inv.fpOk {X : Cx} {pins : List (Addr × Obj)} {σ : St} {H H' : Hp} {s : Shared} {b : Addr} (I : Inv X pins σ H s) (hb : s.heap.objs.size ≤ b) (hn : H' b = none) : FpOk X pins H' b := by
  refine ⟨hn, Nat.ne_of_gt (Nat.lt_of_lt_of_le I.lt hb), I.nofs hb, .inr (Nat.le_trans I.sz hb), fun x c e z => ?_, fun p hp z => ?_⟩
  · obtain ⟨v, q⟩ := I.cell x c e
    exact absurd (Nat.lt_of_lt_of_le q.lt (by rw [z]; exact hb)) (Nat.lt_irrefl _)
  · exact absurd (Nat.lt_of_lt_of_le (Heap.lt_size (I.pin p hp).1) (by rw [z]; exact hb)) (Nat.lt_irrefl _)
structure Turn (P : Program) (w : World) (K : PySem.W.Frag) (tg : Expr) (J : It) (fp : List Addr) (it : Addr) (tn : Nat → Heap → Prop) : Prop where
  mem : it ∈ fp
  obj : ∀ i h, tn i h → ∀ b ∈ fp, ∃ o, h.get? b = some o ∧ ∀ v, o.data ≠ .cell v
  keep : ∀ i h h', tn i h → (∀ b ∈ fp, ∀ o, h.get? b = some o → h'.get? b = some o) → tn i h'
  item : ∀ (X : Cx), X.prog = P → X.w = w → X.K = K → X.calm = true → ∀ (i : Nat) (pins : List (Addr × Obj)) (s : Shared) (σ : St) (H : Hp) (E : Value → Shared → Prop), Inv X pins σ H s → (∀ b ∈ fp, FpOk X pins H b) → tn i s.heap → J.go i H →
    wpAny (model P w) X.A (pyNext (.ref it)) (fun r s1 => ∃ u, r = some u ∧
      wpAny (model P w) X.A (letOwnedTupleGo tg (.ref it) u) (fun _ s2 => ∃ x H', Inv X pins σ H' s2 ∧ RelV x u ∧ J.yld i H x H' ∧ tn (i + 1) s2.heap ∧ ∀ b ∈ fp, H' b = none) E s1) E s
  done : ∀ (X : Cx), X.prog = P → X.w = w → X.K = K → X.calm = true → ∀ (i : Nat) (pins : List (Addr × Obj)) (s : Shared) (σ : St) (H : Hp) (E : Value → Shared → Prop), Inv X pins σ H s → (∀ b ∈ fp, FpOk X pins H b) → tn i s.heap → J.stop i H →
    wpAny (model P w) X.A (pyNext (.ref it)) (fun r s1 => r = none ∧ Inv X pins σ H s1) E s
  self : ∀ (A : Around) (i : Nat) (s : Shared) (Q : Value → Shared → Prop) (E : Value → Shared → Prop), tn i s.heap → Q (.ref it) s → wpAny (model P w) A (pyIter (.ref it)) Q E s
abbrev TI := St → Hp → (It → Hp → Prop) → Prop
/-- an iterator has come -/
def PIE (X : Cx) (pins : List (Addr × Obj)) (σ : St) (tg : Expr) (R : It → Hp → Prop) (itv : Value) (s2 : Shared) : Prop :=
  ∃ (it : Addr) (fp : List Addr) (tn : Nat → Heap → Prop) (J : It) (H' : Hp), itv = .ref it ∧ Inv X pins σ H' s2 ∧ Turn X.prog X.w X.K tg J fp it tn ∧ tn 0 s2.heap ∧ (∀ b ∈ fp, FpOk X pins H' b) ∧ R J H'
def PI (X : Cx) (tg iter : Expr) (wi : TI) : Prop :=
  ∀ (pins : List (Addr × Obj)) (s : Shared) (σ : St) (H : Hp) (R : It → Hp → Prop), Inv X pins σ H s → wi σ H R →
    wpAny (model X.prog X.w) X.A (eval iter X.env) (fun v s1 => wpAny (model X.prog X.w) X.A (pyIter v) (PIE X pins σ tg R) X.xe s1) X.xe s

/-- the step ahead of the store is nothing for an iterator that keeps no tuple -/
theorem go_of {M : Model} {A : Around} {E : Value → Shared → Prop} {s : Shared} {tg : Expr} {it : Addr} {u : Value} {o : Obj} {n : String} {vs : Array Value} {Q : Unit → Shared → Prop} (ho : s.heap.get? it = some o) (hc : o.cls = .type n) (hd : o.data = .fields vs)
    (hn : ["enumerate", "zip", "dict_itemiterator", "dict_reverseitemiterator", "odict_iterator", "itertools.zip_longest", "itertools.pairwise"].contains n = false) (hQ : Q () s) : wpAny M A (letOwnedTupleGo tg (.ref it) u) Q E s := by
  unfold letOwnedTupleGo
  cases tg <;> first
    | exact wpAny_pure hQ
    | (cases u <;> first
        | exact wpAny_pure hQ
        | (refine wpAny_bind (wpAny_load ho ?_)
           rw [hc, hd]
           show wpAny M A (if (["enumerate", "zip", "dict_itemiterator", "dict_reverseitemiterator", "odict_iterator", "itertools.zip_longest", "itertools.pairwise"].contains n && vs[0]? == some (rawInt _)) = true then _ else _) Q E s
           rw [if_neg (by intro h; rw [hn, Bool.false_and] at h; cases h)]
           exact wpAny_pure hQ))

/-- the list at a, as it stands at each turn (a loop may append to it) -/
def Itl (K : PySem.W.Frag) (a : Addr) : It :=
  ⟨fun i H => ∃ xs x, SqL K H a xs ∧ xs[i]? = some x, fun i H x H' => H' = H ∧ ∀ xs, SqL K H a xs → xs[i]? = some x, fun i H => ∃ xs, SqL K H a xs ∧ xs.length ≤ i⟩
def Itt (K : PySem.W.Frag) (a : Addr) : It :=
  ⟨fun i H => ∃ xs x, SqT K H a xs ∧ xs[i]? = some x, fun i H x H' => H' = H ∧ ∀ xs, SqT K H a xs → xs[i]? = some x, fun i H => ∃ xs, SqT K H a xs ∧ xs.length ≤ i⟩
/-- lo, lo + 1, .. (n of them) -/
def Itr (lo : Int) (n : Nat) : It := ⟨fun i _ => i < n, fun i H x H' => H' = H ∧ x = .int (lo + i), fun i _ => n ≤ i⟩
theorem turn_list {P : Program} {w : World} {K : PySem.W.Frag} {tg : Expr} (a it : Addr) : Turn P w K tg (Itl K a) [it] it (fun i h => h.IsListIter it a i) where
  mem := by simp
  obj := fun i h st b hb => by
    have e : b = it := by simpa using hb
    subst e
    obtain ⟨o, e, c, d⟩ := st
    exact ⟨o, e, fun v z => by rw [d] at z; cases z⟩
  keep := fun i h h' st k => st.at fun o e => k it (by simp) o e
  item := by
    intro X hP hw hK hc i pins s σ H E I hf st hg
    subst hP hw hK
    obtain ⟨xs, x, hq, hx⟩ := hg
    obtain ⟨its, rv, p, hz⟩ := I.list hq
    obtain ⟨u, hu, ru⟩ := rv.get hx
    obtain ⟨f0, f1, f2, f3, f4, f5⟩ := hf it (by simp)
    refine wpAny_pyNext_list_item st p.isList (x := u) (by simpa using hu) fun h' st' sb => ?_
    have I1 : Inv X pins σ H { s with heap := h' } := I.turned (t' := s.toks) (fun b o hb e => (sb.2 b hb).trans e) f0 f1 f3 f4 f5
    obtain ⟨o, e, c, d⟩ := id st'
    exact ⟨u, rfl, go_of (s := { s with heap := h' }) e c d (by decide) ⟨x, H, I1, ru, ⟨rfl, fun ys hy => by rw [I.list_inj hy hq]; exact hx⟩, st', fun b hb => (hf b hb).1⟩⟩
  done := by
    intro X hP hw hK hc i pins s σ H E I hf st hg
    subst hP hw hK
    obtain ⟨xs, hq, hx⟩ := hg
    obtain ⟨its, rv, p, hz⟩ := I.list hq
    obtain ⟨f0, f1, f2, f3, f4, f5⟩ := hf it (by simp)
    have hl := rv.length
    exact wpAny_pyNext_list_end (I.ok.hd hc) st p.isList (by simp; omega) fun h' eb => ⟨rfl, I.turned (t' := s.toks) (fun b o hb e => eb b o hb e) f0 f1 f3 f4 f5⟩
  self := fun _ _ _ _ _ st h => wpAny_pyIter_listiter st h
theorem turn_tuple {P : Program} {w : World} {K : PySem.W.Frag} {tg : Expr} (a it : Addr) : Turn P w K tg (Itt K a) [it] it (fun i h => h.IsTupleIter it a i) where
  mem := by simp
  obj := fun i h st b hb => by
    have e : b = it := by simpa using hb
    subst e
    obtain ⟨o, e, c, d⟩ := st
    exact ⟨o, e, fun v z => by rw [d] at z; cases z⟩
  keep := fun i h h' st k => st.at fun o e => k it (by simp) o e
  item := by
    intro X hP hw hK hc i pins s σ H E I hf st hg
    subst hP hw hK
    obtain ⟨xs, x, hq, hx⟩ := hg
    obtain ⟨its, rv, p, hz⟩ := I.tuple hq
    obtain ⟨u, hu, ru⟩ := rv.get hx
    obtain ⟨f0, f1, f2, f3, f4, f5⟩ := hf it (by simp)
    refine wpAny_pyNext_tuple_item st (show s.heap.IsTuple a its.toArray from p) (x := u) (by simpa using hu) fun h' st' sb => ?_
    have I1 : Inv X pins σ H { s with heap := h' } := I.turned (t' := s.toks) (fun b o hb e => (sb.2 b hb).trans e) f0 f1 f3 f4 f5
    obtain ⟨o, e, c, d⟩ := id st'
    exact ⟨u, rfl, go_of (s := { s with heap := h' }) e c d (by decide) ⟨x, H, I1, ru, ⟨rfl, fun ys hy => by rw [I.tuple_inj hy hq]; exact hx⟩, st', fun b hb => (hf b hb).1⟩⟩
  done := by
    intro X hP hw hK hc i pins s σ H E I hf st hg
    subst hP hw hK
    obtain ⟨xs, hq, hx⟩ := hg
    obtain ⟨its, rv, p, hz⟩ := I.tuple hq
    obtain ⟨f0, f1, f2, f3, f4, f5⟩ := hf it (by simp)
    have hl := rv.length
    exact wpAny_pyNext_tuple_end (I.ok.hd hc) st (show s.heap.IsTuple a its.toArray from p) (by simp; omega) fun h' eb => ⟨rfl, I.turned (t' := s.toks) (fun b o hb e => eb b o hb e) f0 f1 f3 f4 f5⟩
  self := fun _ _ _ _ _ st h => wpAny_pyIter_tupleiter st h
theorem turn_range {P : Program} {w : World} {K : PySem.W.Frag} {tg : Expr} (it : Addr) (lo : Int) (n : Nat) : Turn P w K tg (Itr lo n) [it] it (fun i h => IsRangeIter h it (lo + (i : Nat) * 1) ((n : Int) - (i : Nat)) 1) where
  mem := by simp
  obj := fun i h st b hb => by
    have e : b = it := by simpa using hb
    subst e
    exact ⟨_, st, fun v z => by
      have z' : Data.fields _ = Data.cell v := z
      cases z'⟩
  keep := fun i h h' st k => k it (by simp) _ st
  item := by
    intro X hP hw hK hc i pins s σ H E I hf st hg
    subst hP hw hK
    obtain ⟨f0, f1, f2, f3, f4, f5⟩ := hf it (by simp)
    have W := Walks.range (prog := X.prog) (w := X.w) (I.ok.hd hc) it lo 1 n
    refine W.item i s _ _ hg st fun v h' tk hv st' kk => ?_
    obtain ⟨t, rfl⟩ := hv
    have I1 : Inv X pins σ H { s with heap := h', toks := tk } := I.turned (fun b o hb e => kk b o (by simpa using hb) e) f0 f1 f3 f4 f5
    refine ⟨_, rfl, go_of (s := { s with heap := h', toks := tk }) (n := "range_iterator") st' rfl rfl (by decide) ⟨.int (lo + i), H, I1, ⟨t, ?_⟩, ⟨rfl, rfl⟩, st', fun b hb => (hf b hb).1⟩⟩
    rw [Int.mul_one]
  done := by
    intro X hP hw hK hc i pins s σ H E I hf st hg
    subst hP hw hK
    obtain ⟨f0, f1, f2, f3, f4, f5⟩ := hf it (by simp)
    exact wpAny_pyNext_range_end (I.ok.hd hc) st (by have : n ≤ i := hg; omega) fun h' eb => ⟨rfl, I.turned (t' := s.toks) (fun b o hb e => eb b o hb e) f0 f1 f3 f4 f5⟩
  self := fun _ _ _ _ _ st h => wpAny_pyIter_rangeiter st h
end L2

namespace L2
open PySem PySem.Spec PyProof.Rows
section
variable {X : Cx} {tg : Expr}
def iList (K : PySem.W.Frag) (tl : TE) : TI := fun σ H R => tl σ H fun x H1 => ∃ a, x = .ref a ∧ (∃ xs, SqL K H1 a xs) ∧ R (Itl K a) H1
def iTup (K : PySem.W.Frag) (tl : TE) : TI := fun σ H R => tl σ H fun x H1 => ∃ a, x = .ref a ∧ (∃ xs, SqT K H1 a xs) ∧ R (Itt K a) H1
theorem pi_list {l : Expr} {tl : TE} (hl : PE X l tl) : PI X tg l (iList X.K tl) := by
  intro pins s σ H R I h
  refine thn (hl pins s σ H _ I h) fun v s1 ⟨x, H1, I1, r1, q1⟩ => ?_
  obtain ⟨a, e, ⟨xs, hq⟩, q⟩ := q1
  subst e
  cases r1
  obtain ⟨its, rv, p, hz⟩ := I1.list hq
  refine wpAny_pyIter_list p.isList ?_
  refine ⟨s1.heap.objs.size, [s1.heap.objs.size], _, _, H1, rfl, I1.kept (t' := s1.toks) fun b o e => Heap.get?_push_of_some _ e, turn_list a _, ⟨_, Heap.get?_push_size _ rfl, rfl, rfl⟩, fun b hb => ?_, q⟩
  have e : b = s1.heap.objs.size := by simpa using hb
  subst e
  exact I1.fpOk (Nat.le_refl _) (I1.hok.fresh (Nat.le_refl _))
theorem pi_tup {l : Expr} {tl : TE} (hl : PE X l tl) : PI X tg l (iTup X.K tl) := by
  intro pins s σ H R I h
  refine thn (hl pins s σ H _ I h) fun v s1 ⟨x, H1, I1, r1, q1⟩ => ?_
  obtain ⟨a, e, ⟨xs, hq⟩, q⟩ := q1
  subst e
  cases r1
  obtain ⟨its, rv, p, hz⟩ := I1.tuple hq
  refine wpAny_pyIter_tuple (show s1.heap.IsTuple a its.toArray from p) ?_
  refine ⟨s1.heap.objs.size, [s1.heap.objs.size], _, _, H1, rfl, I1.kept (t' := s1.toks) fun b o e => Heap.get?_push_of_some _ e, turn_tuple a _, ⟨_, Heap.get?_push_size _ rfl, rfl, rfl⟩, fun b hb => ?_, q⟩
  have e : b = s1.heap.objs.size := by simpa using hb
  subst e
  exact I1.fpOk (Nat.le_refl _) (I1.hok.fresh (Nat.le_refl _))
/-- a range object just made, walked -/
theorem range_it {pins : List (Addr × Obj)} {σ : St} {H : Hp} {s : Shared} {R : It → Hp → Prop} {E : Value → Shared → Prop} {lo hi : Int} {t u v : Tok} {tk : Nat} (I : Inv X pins σ H s) (h1 : -(2 ^ 62) ≤ lo) (h2 : lo < 2 ^ 62) (h3 : -(2 ^ 62) ≤ hi) (h4 : hi < 2 ^ 62)
    (q : R (Itr lo (hi - lo).toNat) H) : wpAny (model X.prog X.w) X.A (pyIter (.ref s.heap.objs.size)) (PIE X pins σ tg R) E { s with heap := s.heap.push { cls := .type "range", data := .fields #[.int lo t, .int hi u, .int 1 v] }, toks := tk } := by
  refine wpAny_pyIter_range (IsRange.new ..) (small_one h1 h2 h3 h4) ?_
  have I1 : Inv X pins σ H { s with heap := s.heap.push { cls := .type "range", data := .fields #[.int lo t, .int hi u, .int 1 v] }, toks := tk } := I.kept fun b o e => Heap.get?_push_of_some _ e
  refine ⟨(s.heap.push { cls := .type "range", data := .fields #[.int lo t, .int hi u, .int 1 v] }).objs.size, [(s.heap.push { cls := .type "range", data := .fields #[.int lo t, .int hi u, .int 1 v] }).objs.size], _, _, H, rfl,
    I1.kept (t' := tk) fun b o e => Heap.get?_push_of_some _ e, turn_range _ lo (hi - lo).toNat, ?_, fun b hb => ?_, q⟩
  · have e1 : lo + ((0 : Nat) : Int) * 1 = lo := by simp
    have e2 : (((hi - lo).toNat : Nat) : Int) - ((0 : Nat) : Int) = Builtin.Range.rangeSize lo hi 1 := by rw [rangeSize_one]; split <;> omega
    show IsRangeIter _ _ (lo + ((0 : Nat) : Int) * 1) ((((hi - lo).toNat : Nat) : Int) - ((0 : Nat) : Int)) 1
    rw [e1, e2]
    exact Heap.get?_push_size _ rfl
  · have e : b = (s.heap.push { cls := .type "range", data := .fields #[.int lo t, .int hi u, .int 1 v] }).objs.size := by simpa using hb
    subst e
    exact I1.fpOk (Nat.le_refl _) (I1.hok.fresh (Nat.le_refl _))
def iRng1 (ta : TA) : TI := fun σ H R => ta σ H fun vs H1 => ∃ j : Int, vs = [.int j] ∧ -(2 ^ 62) ≤ j ∧ j < 2 ^ 62 ∧ R (Itr 0 j.toNat) H1
def iRng2 (ta : TA) : TI := fun σ H R => ta σ H fun vs H1 => ∃ i j : Int, vs = [.int i, .int j] ∧ (-(2 ^ 62) ≤ i ∧ i < 2 ^ 62 ∧ -(2 ^ 62) ≤ j ∧ j < 2 ^ 62) ∧ R (Itr i (j - i).toNat) H1
theorem pi_range1 {a : Expr} {ta : TA} {p pos : Pos} (hg : Gl X "range") (hm : X.mg "range" = none) (ha : PA X [a] ta) (hs : starEach [a] X.env = [(false, eval a X.env)] := by rfl) : PI X tg (.Call (.Name "range" p) [a] [] pos) (iRng1 ta) := by
  intro pins s σ H R I h
  refine Call_ (ld_blt I hg hm boot_range (PyProof.Rows.callWith_type1 (thn (ha pos pins s σ H _ I h) fun us s1 ⟨vs, H1, I1, r1, q1⟩ => ?_) hs rfl))
  obtain ⟨j, e, q1, q2, q⟩ := q1
  subst e
  cases r1 with
  | cons r rr =>
    cases rr
    obtain ⟨t, rfl⟩ := r
    exact call_range_1 (range_it I1 (by omega) (by omega) q1 q2 (by simpa using q))
theorem pi_range2 {a b : Expr} {ta : TA} {p pos : Pos} (hg : Gl X "range") (hm : X.mg "range" = none) (ha : PA X [a, b] ta) (hs : starEach [a, b] X.env = [(false, eval a X.env), (false, eval b X.env)] := by rfl) (hs2 : starEach [b] X.env = [(false, eval b X.env)] := by rfl) :
    PI X tg (.Call (.Name "range" p) [a, b] [] pos) (iRng2 ta) := by
  intro pins s σ H R I h
  refine Call_ (ld_blt I hg hm boot_range (PyProof.Rows.callWith_type1 (thn (ha pos pins s σ H _ I h) fun us s1 ⟨vs, H1, I1, r1, q1⟩ => ?_) (by rw [hs, hs2]) (by rw [hs2]; rfl)))
  obtain ⟨i, j, e, ⟨q1, q2, q3, q4⟩, q⟩ := q1
  subst e
  cases r1 with
  | cons r rr =>
    cases rr with
    | cons r' rr =>
      cases rr
      obtain ⟨t, rfl⟩ := r
      obtain ⟨t', rfl⟩ := r'
      exact call_range_2 (range_it I1 q1 q2 q3 q4 q)

/-! ### for -/
/-- W: the invariant by the turn and a measure; N: what the body is to reach -/
def tFor (wi : TI) (g : TG) (tb : TS) : TS := fun D σ H => wi σ H fun J H1 => ∃ W : Nat → Nat → St → Hp → Prop, (∃ m, W 0 m σ H1) ∧ ∀ i m σ H, W i m σ H →
  (J.stop i H ∧ D.nx σ H) ∨ (J.go i H ∧ ∃ N : St → Hp → Prop, (∀ σ' H', N σ' H' → ∃ m', m' < m ∧ W (i + 1) m' σ' H') ∧ ∀ x H', J.yld i H x H' → g x σ H' fun σ2 H2 => tb { D with nx := N, ct := N, bk := D.nx } σ2 H2)
/-- the records at fp as they stand -/
def pinsAt (fp : List Addr) (h : Heap) : List (Addr × Obj) := fp.filterMap fun b => (h.get? b).map fun o => (b, o)
theorem mem_pinsAt {fp : List Addr} {h : Heap} {b : Addr} {o : Obj} (hb : b ∈ fp) (e : h.get? b = some o) : (b, o) ∈ pinsAt fp h := List.mem_filterMap.mpr ⟨b, hb, by rw [e]; rfl⟩
theorem of_pinsAt {fp : List Addr} {h : Heap} {p : Addr × Obj} (hp : p ∈ pinsAt fp h) : p.1 ∈ fp ∧ h.get? p.1 = some p.2 := by
  obtain ⟨b, hb, e⟩ := List.mem_filterMap.mp hp
  cases q : h.get? b with
  | none => rw [q] at e; cases e
  | some o =>
    rw [q] at e
    have e' : (b, o) = p := Option.some.inj e
    subst e'
    exact ⟨hb, q⟩
theorem Inv.pinned {pins : List (Addr × Obj)} {σ : St} {H : Hp} {s : Shared} {fp : List Addr} (I : Inv X pins σ H s) (hf : ∀ b ∈ fp, FpOk X pins H b) (ho : ∀ b ∈ fp, ∃ o, s.heap.get? b = some o ∧ ∀ v, o.data ≠ .cell v) : Inv X (pins ++ pinsAt fp s.heap) σ H s :=
  I.pins_of fun p hp => (List.mem_append.mp hp).elim (fun z => I.pin p (List.mem_append_right _ z)) fun z => by
    obtain ⟨hb, e⟩ := of_pinsAt z
    obtain ⟨f0, f1, f2, _⟩ := hf p.1 hb
    obtain ⟨o, e', d⟩ := ho p.1 hb
    rw [e] at e'; cases e'
    exact ⟨e, f0, f1, f2, d⟩
theorem Inv.unpinned {pins pl : List (Addr × Obj)} {σ : St} {H : Hp} {s : Shared} (I : Inv X (pins ++ pl) σ H s) : Inv X pins σ H s := I.pins_of fun p hp => I.pin p (List.mem_append_right _ (List.mem_append_left _ hp))
theorem ps_for {iter : Expr} {body : List Stmt} {wi : TI} {g : TG} {tb : TS} {pos : Pos} (hp : PassesOwn (model X.prog X.w) X.A X.env X.xe) (hc : X.calm = true) (hi : PI X tg iter wi) (hg : PG X tg g) (hb : PSs X body tb)
    (hs : ∀ x, foldedSetIterable iter X.env x = pure x := by intro _; rfl) : PS X (.For tg iter body [] pos) (tFor wi g tb) := by
  intro pins s σ H D I h
  refine wpAny_For (thn (hi pins s σ H _ I h) fun v s1 h1 => thn h1 fun itv s2 h2 => ?_) hs
  obtain ⟨it, fp, tn, J, H2, e, I2, T, st2, f2, W, ⟨m0, w0⟩, turn⟩ := h2
  subst e
  -- what stays true of the iterator's objects through the loop
  have stat : ∀ {H' : Hp}, (∀ b ∈ fp, H' b = none) → ∀ b ∈ fp, FpOk X pins H' b := fun hn b hb => ⟨hn b hb, (f2 b hb).2⟩
  refine codeAny_forLoop_any (fun n s' => ∃ i σ' H', Inv X pins σ' H' s' ∧ tn i s'.heap ∧ (∀ b ∈ fp, H' b = none) ∧ W i n σ' H') ?_ m0 ⟨0, σ, H2, I2, st2, fun b hb => (f2 b hb).1, w0⟩
  rintro n s3 ⟨i, σ3, H3, I3, st3, fr3, w3⟩
  rcases turn i n σ3 H3 w3 with ⟨stop, qn⟩ | ⟨go, N, hN, step⟩
  · refine wpAny_passesOwn hp (thn (T.done X rfl rfl rfl hc i pins s3 σ3 H3 X.xe I3 (stat fr3) st3 stop) fun r s4 ⟨hr, I4⟩ => ?_)
    subst hr
    exact wpAny_execs_nil ⟨σ3, H3, I4, qn⟩
  · refine wpAny_passesOwn hp (thn (T.item X rfl rfl rfl hc i pins s3 σ3 H3 X.xe I3 (stat fr3) st3 go) fun r s4 ⟨u, hr, h4⟩ => ?_)
    subst hr
    refine wpAny_passesOwn hp (thn h4 fun _ s5 ⟨x, H5, I5, r5, y5, st5, fr5⟩ => ?_)
    have I5' := I5.pinned (stat fr5) (T.obj _ _ st5)
    refine wpAny_passesOwn hp (thn (hg _ s5 σ3 H5 x u _ I5' r5 (step x H5 y5)) fun _ s6 ⟨σ6, H6, I6, q6⟩ => ?_)
    refine wpAny_passesOwn hp (thn (hb _ s6 σ6 H6 _ I6 q6) fun f s7 q7 => ?_)
    have again : ∀ {σ7 : St} {H7 : Hp}, Inv X (pins ++ pinsAt fp s5.heap) σ7 H7 s7 → N σ7 H7 → ∃ m, m < n ∧ ∃ i σ' H', Inv X pins σ' H' s7 ∧ tn i s7.heap ∧ (∀ b ∈ fp, H' b = none) ∧ W i m σ' H' := fun {σ7 H7} I7 n7 => by
      obtain ⟨m', hm, w7⟩ := hN σ7 H7 n7
      refine ⟨m', hm, i + 1, σ7, H7, I7.unpinned, T.keep _ _ _ st5 fun b hb o e => (I7.pin (b, o) (List.mem_append_right _ (List.mem_append_right _ (mem_pinsAt hb e)))).1, fun b hb => ?_, w7⟩
      obtain ⟨o, e, d⟩ := T.obj _ _ st5 b hb
      exact (I7.pin (b, o) (List.mem_append_right _ (List.mem_append_right _ (mem_pinsAt hb e)))).2.1
    cases f with
    | next => obtain ⟨σ7, H7, I7, n7⟩ := q7; exact again I7 n7
    | cont => obtain ⟨σ7, H7, I7, n7⟩ := q7; exact again I7 n7
    | brk => obtain ⟨σ7, H7, I7, q7⟩ := q7; exact ⟨σ7, H7, I7.unpinned, q7⟩
    | ret v => obtain ⟨x7, σ7, H7, I7, r7, q7⟩ := q7; exact ⟨x7, σ7, H7, I7.unpinned, r7, q7⟩
end

/-! ### the forms one uses -/
/-- over a list that the body leaves as it is -/
theorem for_list {K : PySem.W.Frag} {a : Addr} {xs : List V} {g : TG} {tb : TS} {D : Ends} {σ : St} {H : Hp} (Pv : Nat → St → Hp → Prop) (h0 : Pv 0 σ H) (hl : ∀ i σ H, i ≤ xs.length → Pv i σ H → SqL K H a xs)
    (hs : ∀ i x σ H, xs[i]? = some x → Pv i σ H → g x σ H fun σ2 H2 => tb { D with nx := Pv (i + 1), ct := Pv (i + 1), bk := D.nx } σ2 H2) (hd : ∀ σ H, Pv xs.length σ H → D.nx σ H) :
    ∃ W : Nat → Nat → St → Hp → Prop, (∃ m, W 0 m σ H) ∧ ∀ i m σ H, W i m σ H →
      ((Itl K a).stop i H ∧ D.nx σ H) ∨ ((Itl K a).go i H ∧ ∃ N : St → Hp → Prop, (∀ σ' H', N σ' H' → ∃ m', m' < m ∧ W (i + 1) m' σ' H') ∧ ∀ x H', (Itl K a).yld i H x H' → g x σ H' fun σ2 H2 => tb { D with nx := N, ct := N, bk := D.nx } σ2 H2) := by
  refine ⟨fun i m σ H => m = xs.length - i ∧ i ≤ xs.length ∧ Pv i σ H, ⟨xs.length, by simp, Nat.zero_le _, h0⟩, ?_⟩
  rintro i m σ H ⟨rfl, hi, p⟩
  have q := hl i σ H hi p
  by_cases hlt : i < xs.length
  · refine .inr ⟨⟨xs, xs[i], q, by simp [hlt]⟩, Pv (i + 1), fun σ' H' p' => ⟨xs.length - (i + 1), by omega, rfl, hlt, p'⟩, fun x H' y => ?_⟩
    obtain ⟨e, y⟩ := y
    subst e
    exact hs i x σ _ (y xs q) p
  · have e : i = xs.length := by omega
    subst e
    exact .inl ⟨⟨xs, q, Nat.le_refl _⟩, hd σ H p⟩
theorem for_tup {K : PySem.W.Frag} {a : Addr} {xs : List V} {g : TG} {tb : TS} {D : Ends} {σ : St} {H : Hp} (Pv : Nat → St → Hp → Prop) (h0 : Pv 0 σ H) (hl : ∀ i σ H, i ≤ xs.length → Pv i σ H → SqT K H a xs)
    (hs : ∀ i x σ H, xs[i]? = some x → Pv i σ H → g x σ H fun σ2 H2 => tb { D with nx := Pv (i + 1), ct := Pv (i + 1), bk := D.nx } σ2 H2) (hd : ∀ σ H, Pv xs.length σ H → D.nx σ H) :
    ∃ W : Nat → Nat → St → Hp → Prop, (∃ m, W 0 m σ H) ∧ ∀ i m σ H, W i m σ H →
      ((Itt K a).stop i H ∧ D.nx σ H) ∨ ((Itt K a).go i H ∧ ∃ N : St → Hp → Prop, (∀ σ' H', N σ' H' → ∃ m', m' < m ∧ W (i + 1) m' σ' H') ∧ ∀ x H', (Itt K a).yld i H x H' → g x σ H' fun σ2 H2 => tb { D with nx := N, ct := N, bk := D.nx } σ2 H2) := by
  refine ⟨fun i m σ H => m = xs.length - i ∧ i ≤ xs.length ∧ Pv i σ H, ⟨xs.length, by simp, Nat.zero_le _, h0⟩, ?_⟩
  rintro i m σ H ⟨rfl, hi, p⟩
  have q := hl i σ H hi p
  by_cases hlt : i < xs.length
  · refine .inr ⟨⟨xs, xs[i], q, by simp [hlt]⟩, Pv (i + 1), fun σ' H' p' => ⟨xs.length - (i + 1), by omega, rfl, hlt, p'⟩, fun x H' y => ?_⟩
    obtain ⟨e, y⟩ := y
    subst e
    exact hs i x σ _ (y xs q) p
  · have e : i = xs.length := by omega
    subst e
    exact .inl ⟨⟨xs, q, Nat.le_refl _⟩, hd σ H p⟩
theorem for_range {lo : Int} {n : Nat} {g : TG} {tb : TS} {D : Ends} {σ : St} {H : Hp} (Pv : Nat → St → Hp → Prop) (h0 : Pv 0 σ H)
    (hs : ∀ i σ H, i < n → Pv i σ H → g (.int (lo + i)) σ H fun σ2 H2 => tb { D with nx := Pv (i + 1), ct := Pv (i + 1), bk := D.nx } σ2 H2) (hd : ∀ σ H, Pv n σ H → D.nx σ H) :
    ∃ W : Nat → Nat → St → Hp → Prop, (∃ m, W 0 m σ H) ∧ ∀ i m σ H, W i m σ H →
      ((Itr lo n).stop i H ∧ D.nx σ H) ∨ ((Itr lo n).go i H ∧ ∃ N : St → Hp → Prop, (∀ σ' H', N σ' H' → ∃ m', m' < m ∧ W (i + 1) m' σ' H') ∧ ∀ x H', (Itr lo n).yld i H x H' → g x σ H' fun σ2 H2 => tb { D with nx := N, ct := N, bk := D.nx } σ2 H2) := by
  refine ⟨fun i m σ H => m = n - i ∧ i ≤ n ∧ Pv i σ H, ⟨n, by simp, Nat.zero_le _, h0⟩, ?_⟩
  rintro i m σ H ⟨rfl, hi, p⟩
  by_cases hlt : i < n
  · refine .inr ⟨hlt, Pv (i + 1), fun σ' H' p' => ⟨n - (i + 1), by omega, rfl, hlt, p'⟩, fun x H' y => ?_⟩
    obtain ⟨e, y⟩ := y
    subst e y
    exact hs i σ _ hlt p
  · have e : i = n := by omega
    subst e
    exact .inl ⟨Nat.le_refl _, hd σ H p⟩
/-- while, by a word and a measure of the state -/
theorem while_by {c : TT} {tb : TS} {D : Ends} {σ : St} {H : Hp} (Pv : St → Hp → Prop) (μ : St → Hp → Nat) (h0 : Pv σ H)
    (hs : ∀ σ H, Pv σ H → c σ H fun b H1 => if b = true then tb { D with nx := fun σ' H' => Pv σ' H' ∧ μ σ' H' < μ σ H, ct := fun σ' H' => Pv σ' H' ∧ μ σ' H' < μ σ H, bk := D.nx } σ H1 else D.nx σ H1)
    (mono : ∀ σ H Q Q', (∀ b H1, Q b H1 → Q' b H1) → c σ H Q → c σ H Q') : tWhile c tb D σ H := by
  refine ⟨fun m σ H => m = μ σ H ∧ Pv σ H, ⟨_, rfl, h0⟩, ?_⟩
  rintro m σ H ⟨rfl, p⟩
  refine mono σ H _ _ (fun b H1 q => ?_) (hs σ H p)
  cases b with
  | true => exact ⟨_, fun σ' H' ⟨p', l⟩ => ⟨_, l, rfl, p'⟩, q⟩
  | false => exact q
end L2

namespace L2
open PySem PySem.Spec PyProof.Rows

abbrev R2 := V → V → Hp → VK → Prop
/-- a two-place operation on values: f is binaryOp op, inplaceOp op or compareOp op -/
def OpR (X : Cx) (f : Value → Value → Sem Value) (r : R2) : Prop :=
  ∀ (pins : List (Addr × Obj)) (s : Shared) (σ : St) (H : Hp) (x y : V) (v u : Value) (Q : VK), Inv X pins σ H s → RelV x v → RelV y u → r x y H Q →
    wpAny (model X.prog X.w) X.A (f v u) (EP X pins σ Q) X.xe s
/-- a one-place operation -/
def UnR (X : Cx) (f : Value → Sem Value) (r : V → Hp → VK → Prop) : Prop :=
  ∀ (pins : List (Addr × Obj)) (s : Shared) (σ : St) (H : Hp) (x : V) (v : Value) (Q : VK), Inv X pins σ H s → RelV x v → r x H Q →
    wpAny (model X.prog X.w) X.A (f v) (EP X pins σ Q) X.xe s
/-- a call of a value that is known (a builtin, a type) with values -/
def CallR (X : Cx) (f : Value) (r : List V → Hp → VK → Prop) : Prop :=
  ∀ (pins : List (Addr × Obj)) (s : Shared) (σ : St) (H : Hp) (xs : List V) (us : List Value) (Q : VK), Inv X pins σ H s → Vals xs us → r xs H Q →
    wpAny (model X.prog X.w) X.A (call f us) (EP X pins σ Q) X.xe s
/-- a value's truth -/
def TruR (X : Cx) (r : V → Hp → (Bool → Hp → Prop) → Prop) : Prop :=
  ∀ (pins : List (Addr × Obj)) (s : Shared) (σ : St) (H : Hp) (x : V) (v : Value) (Q : Bool → Hp → Prop), Inv X pins σ H s → RelV x v → r x H Q →
    wpAny (model X.prog X.w) X.A (truthy v) (TP X pins σ Q) X.xe s

def tOp (r : R2) (ta tb : TE) : TE := fun σ H Q => ta σ H fun x H1 => tb σ H1 fun y H2 => r x y H2 Q
def tUn (r : V → Hp → VK → Prop) (ta : TE) : TE := fun σ H Q => ta σ H fun x H1 => r x H1 Q
/-- ints in, under C, and a value out -/
def rI (C : Int → Int → Prop) (g : Int → Int → V) : R2 := fun x y H Q => ∃ i j, x = .int i ∧ y = .int j ∧ C i j ∧ Q (g i j) H
def rI0 (g : Int → Int → V) : R2 := fun x y H Q => ∃ i j, x = .int i ∧ y = .int j ∧ Q (g i j) H
def rU (g : Int → V) : V → Hp → VK → Prop := fun x H Q => ∃ i, x = .int i ∧ Q (g i) H

section
variable {X : Cx} {a b c : Expr} {ta tb tc : TE} {pos : Pos}

theorem binT (ha : PE X a ta) (hb : PE X b tb) {pins : List (Addr × Obj)} {s : Shared} {σ : St} {H : Hp} {R : V → V → Hp → Prop} (I : Inv X pins σ H s)
    (h : ta σ H fun x H1 => tb σ H1 fun y H2 => R x y H2) {Q : Value → Shared → Prop} {f : Value → Value → Sem Value}
    (hf : ∀ v u s2 x y H2, Inv X pins σ H2 s2 → RelV x v → RelV y u → R x y H2 → wpAny (model X.prog X.w) X.A (f v u) Q X.xe s2) :
    wpAny (model X.prog X.w) X.A (eval a X.env) (fun v s₁ => wpAny (model X.prog X.w) X.A (eval b X.env) (fun u s₂ => wpAny (model X.prog X.w) X.A (f v u) Q X.xe s₂) X.xe s₁) X.xe s := by
  refine thn (ha pins s σ H _ I h) fun v s1 ⟨x, H1, I1, r1, q1⟩ => ?_
  refine thn (hb pins s1 σ H1 _ I1 q1) fun u s2 ⟨y, H2, I2, r2, q2⟩ => ?_
  exact hf v u s2 x y H2 I2 r1 r2 q2

theorem pe_op {op : Operator} {r : R2} (ho : OpR X (binaryOp op) r) (ha : PE X a ta) (hb : PE X b tb) : PE X (.BinOp a op b pos) (tOp r ta tb) := by
  intro pins s σ H Q I h
  exact wpAny_BinOp (binT ha hb I h fun v u s2 x y H2 I2 rx ry q => ho pins s2 σ H2 x y v u Q I2 rx ry q)
theorem pe_un {op : UnaryOp} {r : V → Hp → VK → Prop} (ho : UnR X (unaryOp op) r) (ha : PE X a ta) : PE X (.UnaryOp op a pos) (tUn r ta) := by
  intro pins s σ H Q I h
  exact UnaryOp_ (thn (ha pins s σ H _ I h) fun v s1 ⟨x, H1, I1, r1, q1⟩ => ho pins s1 σ H1 x v Q I1 r1 q1)
/-- a op= e at a name: the name's slot i -/
theorem augR {op : Operator} {r : R2} (ho : OpR X (inplaceOp op) r) {pins : List (Addr × Obj)} {s : Shared} {σ : St} {H : Hp} {x y : V} {v u : Value} {Q : VK} (I : Inv X pins σ H s)
    (rx : RelV x v) (ry : RelV y u) (q : r x y H Q) : wpAny (model X.prog X.w) X.A (inplaceOp op v u) (EP X pins σ Q) X.xe s := ho pins s σ H x y v u Q I rx ry q

/-! ### ints -/
theorem opI {f : Value → Value → Sem Value} {C : Int → Int → Prop} {g : Int → Int → Int}
    (rule : ∀ (i j : Int) (t u : Tok) (s : Shared) (Q : Value → Shared → Prop) (E : Value → Shared → Prop), C i j → Q (.int (g i j) s.toks) { s with toks := s.toks + 1 } → wpAny (model X.prog X.w) X.A (f (.int i t) (.int j u)) Q E s) :
    OpR X f (rI C fun i j => .int (g i j)) := by
  intro pins s σ H x y v u Q I rx ry h
  obtain ⟨i, j, rfl, rfl, hc, q⟩ := h
  obtain ⟨t, rfl⟩ := rx
  obtain ⟨t', rfl⟩ := ry
  exact rule i j t t' s _ _ hc ⟨.int (g i j), H, I.tok _, ⟨_, rfl⟩, q⟩
theorem opI0 {f : Value → Value → Sem Value} {g : Int → Int → Int}
    (rule : ∀ (i j : Int) (t u : Tok) (s : Shared) (Q : Value → Shared → Prop) (E : Value → Shared → Prop), Q (.int (g i j) s.toks) { s with toks := s.toks + 1 } → wpAny (model X.prog X.w) X.A (f (.int i t) (.int j u)) Q E s) :
    OpR X f (rI0 fun i j => .int (g i j)) := by
  intro pins s σ H x y v u Q I rx ry h
  obtain ⟨i, j, rfl, rfl, q⟩ := h
  obtain ⟨t, rfl⟩ := rx
  obtain ⟨t', rfl⟩ := ry
  exact rule i j t t' s _ _ ⟨.int (g i j), H, I.tok _, ⟨_, rfl⟩, q⟩
theorem opB0 {f : Value → Value → Sem Value} {g : Int → Int → Bool}
    (rule : ∀ (i j : Int) (t u : Tok) (s : Shared) (Q : Value → Shared → Prop) (E : Value → Shared → Prop), Q (.bool (g i j)) s → wpAny (model X.prog X.w) X.A (f (.int i t) (.int j u)) Q E s) :
    OpR X f (rI0 fun i j => .bl (g i j)) := by
  intro pins s σ H x y v u Q I rx ry h
  obtain ⟨i, j, rfl, rfl, q⟩ := h
  obtain ⟨t, rfl⟩ := rx
  obtain ⟨t', rfl⟩ := ry
  exact rule i j t t' s _ _ ⟨.bl (g i j), H, I, rfl, q⟩

def CDiv (i j : Int) : Prop := 0 < j ∧ j < 1073741824
def CDivN (i j : Int) : Prop := j ≠ 0 ∧ j.natAbs < 1073741824
def CPow (i j : Int) : Prop := 0 ≤ j ∧ j ≤ 1000000 ∧ i.natAbs < 2 ^ 64
def CMul (i j : Int) : Prop := (-(2 ^ 64) < i ∧ i < 2 ^ 64) ∨ (-(2 ^ 64) < j ∧ j < 2 ^ 64)
theorem CMul.ok {i j : Int} (h : CMul i j) : IntMulOk i j := by
  rcases h with ⟨h1, h2⟩ | ⟨h1, h2⟩
  · exact .of_left (intBits_le_64 h1 h2)
  · exact .of_right (intBits_le_64 h1 h2)
theorem two_pow_nn (k : Nat) : (0 : Int) ≤ 2 ^ k := by
  rw [two_pow_cast]
  exact Int.natCast_nonneg _

theorem op_add : OpR X (binaryOp .Add) (rI0 fun i j => .int (i + j)) := opI0 fun _ _ _ _ _ _ _ q => add_int q
theorem op_sub : OpR X (binaryOp .Sub) (rI0 fun i j => .int (i - j)) := opI0 fun _ _ _ _ _ _ _ q => sub_int q
theorem op_mul : OpR X (binaryOp .Mult) (rI CMul fun i j => .int (i * j)) := opI fun _ _ _ _ _ _ _ hc q => mul_int q hc.ok
/-- // by a positive divisor -/
theorem op_fdiv : OpR X (binaryOp .FloorDiv) (rI CDiv fun i j => .int (i / j)) := opI fun i j _ _ _ _ _ hc q => by
  have h1 : (0 : Int) < j := hc.1
  have h2 : j < 1073741824 := hc.2
  exact floordiv_int (by omega) (by rw [Int.fdiv_eq_ediv_of_nonneg i (by omega)]; exact q) (.inl (PyProof.noPylong_small (by omega)))
theorem op_fdivN : OpR X (binaryOp .FloorDiv) (rI CDivN fun i j => .int (i.fdiv j)) := opI fun _ _ _ _ _ _ _ hc q => floordiv_int hc.1 q (.inl (PyProof.noPylong_small hc.2))
/-- % by a positive divisor of any size -/
theorem op_mod : OpR X (binaryOp .Mod) (rI (fun _ j => 0 < j) fun i j => .int (i % j)) := opI fun i j _ _ _ _ _ hc q => by
  have h1 : (0 : Int) < j := hc
  exact mod_int' (by omega) (by rw [Int.fmod_eq_emod_of_nonneg i (by omega)]; exact q)
theorem op_modN : OpR X (binaryOp .Mod) (rI (fun _ j => j ≠ 0) fun i j => .int (i.fmod j)) := opI fun _ _ _ _ _ _ _ hc q => mod_int' hc q
theorem op_pow : OpR X (binaryOp .Pow) (rI CPow fun i j => .int (i ^ j.toNat)) := opI fun _ _ _ _ _ _ _ hc q => pow_int_small hc.1 hc.2.1 hc.2.2 q
theorem op_shl : OpR X (binaryOp .LShift) (rI CPow fun i j => .int (i * 2 ^ j.toNat)) := opI fun _ _ _ _ _ _ _ hc q => lshift_int_small hc.1 hc.2.1 hc.2.2 q
theorem op_shr : OpR X (binaryOp .RShift) (rI (fun _ j => 0 ≤ j) fun i j => .int (i / 2 ^ j.toNat)) := opI fun i j _ _ _ _ _ hc q =>
  rshift_int hc (by rw [Int.fdiv_eq_ediv_of_nonneg i (two_pow_nn _)]; exact q)
theorem op_and : OpR X (binaryOp .BitAnd) (rI0 fun i j => .int (Builtin.bitAnd i j)) := opI0 fun _ _ _ _ _ _ _ q => and_int q
theorem op_or : OpR X (binaryOp .BitOr) (rI0 fun i j => .int (Builtin.bitOr i j)) := opI0 fun _ _ _ _ _ _ _ q => or_int q
theorem op_xor : OpR X (binaryOp .BitXor) (rI0 fun i j => .int (Builtin.bitXor i j)) := opI0 fun _ _ _ _ _ _ _ q => xor_int q

theorem iop_add : OpR X (inplaceOp .Add) (rI0 fun i j => .int (i + j)) := opI0 fun _ _ _ _ _ _ _ q => iadd_int q
theorem iop_sub : OpR X (inplaceOp .Sub) (rI0 fun i j => .int (i - j)) := opI0 fun _ _ _ _ _ _ _ q => isub_int q
theorem iop_mul : OpR X (inplaceOp .Mult) (rI CMul fun i j => .int (i * j)) := opI fun _ _ _ _ _ _ _ hc q => imul_int q hc.ok
theorem iop_fdiv : OpR X (inplaceOp .FloorDiv) (rI CDiv fun i j => .int (i / j)) := opI fun i j _ _ _ _ _ hc q => by
  have h1 : (0 : Int) < j := hc.1
  have h2 : j < 1073741824 := hc.2
  exact ifloordiv_int (by omega) (by rw [Int.fdiv_eq_ediv_of_nonneg i (by omega)]; exact q) (.inl (PyProof.noPylong_small (by omega)))
theorem iop_mod : OpR X (inplaceOp .Mod) (rI (fun _ j => 0 < j) fun i j => .int (i % j)) := opI fun i j _ _ _ _ _ hc q => by
  have h1 : (0 : Int) < j := hc
  exact imod_int (by omega) (by rw [Int.fmod_eq_emod_of_nonneg i (by omega)]; exact q)
theorem iop_shl : OpR X (inplaceOp .LShift) (rI CPow fun i j => .int (i * 2 ^ j.toNat)) := opI fun _ _ _ _ _ _ _ hc q => ilshift_int_small hc.1 hc.2.1 hc.2.2 q
theorem iop_shr : OpR X (inplaceOp .RShift) (rI (fun _ j => 0 ≤ j) fun i j => .int (i / 2 ^ j.toNat)) := opI fun i j _ _ _ _ _ hc q =>
  irshift_int hc (by rw [Int.fdiv_eq_ediv_of_nonneg i (two_pow_nn _)]; exact q)
theorem iop_and : OpR X (inplaceOp .BitAnd) (rI0 fun i j => .int (Builtin.bitAnd i j)) := opI0 fun _ _ _ _ _ _ _ q => iand_int q
theorem iop_or : OpR X (inplaceOp .BitOr) (rI0 fun i j => .int (Builtin.bitOr i j)) := opI0 fun _ _ _ _ _ _ _ q => ior_int q
theorem iop_xor : OpR X (inplaceOp .BitXor) (rI0 fun i j => .int (Builtin.bitXor i j)) := opI0 fun _ _ _ _ _ _ _ q => ixor_int q

theorem unI {f : Value → Sem Value} {g : Int → Int}
    (rule : ∀ (i : Int) (t : Tok) (s : Shared) (Q : Value → Shared → Prop) (E : Value → Shared → Prop), Q (.int (g i) s.toks) { s with toks := s.toks + 1 } → wpAny (model X.prog X.w) X.A (f (.int i t)) Q E s) :
    UnR X f (rU fun i => .int (g i)) := by
  intro pins s σ H x v Q I rx h
  obtain ⟨i, rfl, q⟩ := h
  obtain ⟨t, rfl⟩ := rx
  exact rule i t s _ _ ⟨.int (g i), H, I.tok _, ⟨_, rfl⟩, q⟩
theorem un_neg : UnR X (unaryOp .USub) (rU fun i => .int (-i)) := unI fun _ _ _ _ _ q => neg_int q
theorem un_inv : UnR X (unaryOp .Invert) (rU fun i => .int (Builtin.bitNot i)) := unI fun _ _ _ _ _ q => invert_int q

/-! ### bools among ints: n += (a < b) -/
theorem op_add_ib : OpR X (binaryOp .Add) (fun x y H Q => ∃ i k, x = .int i ∧ y = .bl k ∧ Q (.int (i + b2i k)) H) := by
  intro pins s σ H x y v u Q I rx ry h
  obtain ⟨i, k, rfl, rfl, q⟩ := h
  obtain ⟨t, rfl⟩ := rx
  cases ry
  exact add_int_bool ⟨.int (i + b2i k), H, I.tok _, ⟨_, rfl⟩, q⟩
end

/-! ### comparisons -/
/-- the scalars that == tells apart as data does -/
def scal : V → V → Bool
  | .non, .non => true | .non, .int _ => true | .int _, .non => true | .non, .bl _ => true | .bl _, .non => true | .non, .str _ => true | .str _, .non => true
  | .int _, .int _ => true | .bl _, .bl _ => true | .str _, .str _ => true | .byt _, .byt _ => true
  | .int _, .str _ => true | .str _, .int _ => true | .bl _, .str _ => true | .str _, .bl _ => true
  | _, _ => false
def rEq : R2 := fun x y H Q => scal x y = true ∧ Q (.bl (decide (x = y))) H
def rNe : R2 := fun x y H Q => scal x y = true ∧ Q (.bl (!decide (x = y))) H

theorem dec_int {i j : Int} : decide (V.int i = V.int j) = (i == j) := by
  rw [Bool.eq_iff_iff]
  simp
theorem dec_bl {i j : Bool} : decide (V.bl i = V.bl j) = (i == j) := by
  rw [Bool.eq_iff_iff]
  simp
theorem dec_str {i j : Str} : decide (V.str i = V.str j) = (i == j) := by
  rw [Bool.eq_iff_iff]
  simp
theorem dec_byt {i j : Array UInt8} : decide (V.byt i = V.byt j) = (i.toList == j.toList) := by
  rw [Bool.eq_iff_iff]
  cases i
  cases j
  simp

section
variable {X : Cx} {a b c : Expr} {ta tb tc : TE} {pos : Pos}
theorem fin_bl {pins : List (Addr × Obj)} {σ : St} {H : Hp} {s : Shared} {Q : VK} {k k' : Bool} (I : Inv X pins σ H s) (q : Q (.bl k) H) (e : k = k') : EP X pins σ Q (.bool k') s := by
  subst e
  exact ⟨.bl k, H, I, rfl, q⟩
theorem op_eq : OpR X (compareOp .Eq) rEq := by
  intro pins s σ H x y v u Q I rx ry h
  obtain ⟨hs, q⟩ := h
  cases x with
  | non =>
    cases rx
    cases y with
    | non => cases ry; exact PySem.EqNone.eq_none_none (fin_bl I q (by simp))
    | bl j => cases ry; exact PySem.EqNone.eq_none_bool (fin_bl I q (by simp))
    | int j => obtain ⟨t', rfl⟩ := ry; exact PySem.EqNone.eq_none_int (fin_bl I q (by simp))
    | str j => obtain ⟨t', rfl⟩ := ry; exact PySem.EqNone.eq_none_str (fin_bl I q (by simp))
    | _ => exact absurd (show false = true from hs) Bool.false_ne_true
  | bl i =>
    cases rx
    cases y with
    | non => cases ry; exact PySem.EqNone.eq_bool_none (fin_bl I q (by simp))
    | bl j => cases ry; exact eq_bool (fin_bl I q dec_bl)
    | str j => obtain ⟨t', rfl⟩ := ry; exact PySem.EqMixed.eq_bool_str (fin_bl I q (by simp))
    | _ => exact absurd (show false = true from hs) Bool.false_ne_true
  | int i =>
    obtain ⟨t, rfl⟩ := rx
    cases y with
    | non => cases ry; exact PySem.EqNone.eq_int_none (fin_bl I q (by simp))
    | int j => obtain ⟨t', rfl⟩ := ry; exact eq_int (fin_bl I q dec_int)
    | str j => obtain ⟨t', rfl⟩ := ry; exact PySem.EqMixed.eq_int_str (fin_bl I q (by simp))
    | _ => exact absurd (show false = true from hs) Bool.false_ne_true
  | str i =>
    obtain ⟨t, rfl⟩ := rx
    cases y with
    | non => cases ry; exact PySem.EqNone.eq_str_none (fin_bl I q (by simp))
    | bl j => cases ry; exact PySem.EqMixed.eq_str_bool (fin_bl I q (by simp))
    | int j => obtain ⟨t', rfl⟩ := ry; exact PySem.EqMixed.eq_str_int (fin_bl I q (by simp))
    | str j => obtain ⟨t', rfl⟩ := ry; exact eq_str (fin_bl I q dec_str)
    | _ => exact absurd (show false = true from hs) Bool.false_ne_true
  | byt i =>
    obtain ⟨t, rfl⟩ := rx
    cases y with
    | byt j => obtain ⟨t', rfl⟩ := ry; exact PySem.W.eq_bytes (fin_bl I q dec_byt)
    | _ => exact absurd (show false = true from hs) Bool.false_ne_true
  | _ => cases y <;> exact absurd (show false = true from hs) Bool.false_ne_true
theorem op_ne : OpR X (compareOp .NotEq) rNe := by
  intro pins s σ H x y v u Q I rx ry h
  obtain ⟨hs, q⟩ := h
  cases x with
  | non =>
    cases rx
    cases y with
    | non => cases ry; exact PySem.EqNone.ne_none_none (fin_bl I q (by simp))
    | bl j => cases ry; exact PySem.EqNone.ne_none_bool (fin_bl I q (by simp))
    | int j => obtain ⟨t', rfl⟩ := ry; exact PySem.EqNone.ne_none_int (fin_bl I q (by simp))
    | str j => obtain ⟨t', rfl⟩ := ry; exact PySem.EqNone.ne_none_str (fin_bl I q (by simp))
    | _ => exact absurd (show false = true from hs) Bool.false_ne_true
  | bl i =>
    cases rx
    cases y with
    | non => cases ry; exact PySem.EqNone.ne_bool_none (fin_bl I q (by simp))
    | bl j => cases ry; exact ne_bool (fin_bl I q (congrArg not dec_bl))
    | str j => obtain ⟨t', rfl⟩ := ry; exact PySem.EqMixed.ne_bool_str (fin_bl I q (by simp))
    | _ => exact absurd (show false = true from hs) Bool.false_ne_true
  | int i =>
    obtain ⟨t, rfl⟩ := rx
    cases y with
    | non => cases ry; exact PySem.EqNone.ne_int_none (fin_bl I q (by simp))
    | int j => obtain ⟨t', rfl⟩ := ry; exact ne_int (fin_bl I q (congrArg not dec_int))
    | str j => obtain ⟨t', rfl⟩ := ry; exact PySem.EqMixed.ne_int_str (fin_bl I q (by simp))
    | _ => exact absurd (show false = true from hs) Bool.false_ne_true
  | str i =>
    obtain ⟨t, rfl⟩ := rx
    cases y with
    | non => cases ry; exact PySem.EqNone.ne_str_none (fin_bl I q (by simp))
    | bl j => cases ry; exact PySem.EqMixed.ne_str_bool (fin_bl I q (by simp))
    | int j => obtain ⟨t', rfl⟩ := ry; exact PySem.EqMixed.ne_str_int (fin_bl I q (by simp))
    | str j => obtain ⟨t', rfl⟩ := ry; exact ne_str (fin_bl I q (congrArg not dec_str))
    | _ => exact absurd (show false = true from hs) Bool.false_ne_true
  | byt i =>
    obtain ⟨t, rfl⟩ := rx
    cases y with
    | byt j => obtain ⟨t', rfl⟩ := ry; exact PySem.W.ne_bytes (fin_bl I q (congrArg not dec_byt))
    | _ => exact absurd (show false = true from hs) Bool.false_ne_true
  | _ => cases y <;> exact absurd (show false = true from hs) Bool.false_ne_true

theorem op_lt : OpR X (compareOp .Lt) (rI0 fun i j => .bl (decide (i < j))) := opB0 fun _ _ _ _ _ _ _ q => lt_int q
theorem op_le : OpR X (compareOp .LtE) (rI0 fun i j => .bl (decide (i ≤ j))) := opB0 fun _ _ _ _ _ _ _ q => le_int q
theorem op_gt : OpR X (compareOp .Gt) (rI0 fun i j => .bl (decide (j < i))) := opB0 fun _ _ _ _ _ _ _ q => gt_int q
theorem op_ge : OpR X (compareOp .GtE) (rI0 fun i j => .bl (decide (j ≤ i))) := opB0 fun _ _ _ _ _ _ _ q => ge_int q
theorem op_lt_str : OpR X (compareOp .Lt) (fun x y H Q => ∃ i j, x = .str i ∧ y = .str j ∧ Q (.bl (decide (i.cps.toList < j.cps.toList))) H) := by
  intro pins s σ H x y v u Q I rx ry h
  obtain ⟨i, j, rfl, rfl, q⟩ := h
  obtain ⟨t, rfl⟩ := rx
  obtain ⟨t', rfl⟩ := ry
  exact lt_str (fin_bl I q rfl)
/-- the one string within the other -/
theorem op_in_str : OpR X (compareOp .In) (fun x y H Q => ∃ i j, x = .str i ∧ y = .str j ∧ Q (.bl (!(Builtin.Str.occurrences j i 0 j.length 1).isEmpty)) H) := by
  intro pins s σ H x y v u Q I rx ry h
  obtain ⟨i, j, rfl, rfl, q⟩ := h
  obtain ⟨t, rfl⟩ := rx
  obtain ⟨t', rfl⟩ := ry
  exact in_str (fin_bl I q rfl)

/-- is None, is not None: the right side a value none -/
theorem op_isN : OpR X (compareOp .Is) (fun x y H Q => y = .non ∧ Q (.bl (decide (x = .non))) H) := by
  intro pins s σ H x y v u Q I rx ry h
  obtain ⟨rfl, q⟩ := h
  cases ry
  refine is_none_gen (fin_bl I q ?_)
  cases x <;> first
    | (cases rx; rfl)
    | (obtain ⟨t, rfl⟩ := rx; rfl)
theorem op_notN : OpR X (compareOp .IsNot) (fun x y H Q => y = .non ∧ Q (.bl (!decide (x = .non))) H) := by
  intro pins s σ H x y v u Q I rx ry h
  obtain ⟨rfl, q⟩ := h
  cases ry
  refine isnot_none_gen (fin_bl I q ?_)
  cases x <;> first
    | (cases rx; rfl)
    | (obtain ⟨t, rfl⟩ := rx; rfl)

theorem op_notin_str : OpR X (compareOp .NotIn) (fun x y H Q => ∃ i j, x = .str i ∧ y = .str j ∧ Q (.bl (!(!(Builtin.Str.occurrences j i 0 j.length 1).isEmpty))) H) := by
  intro pins s σ H x y v u Q I rx ry h
  obtain ⟨i, j, rfl, rfl, q⟩ := h
  obtain ⟨t, rfl⟩ := rx
  obtain ⟨t', rfl⟩ := ry
  exact notIn_str (fin_bl I q rfl)
/-- is, is not of two objects that are tracked lists or instances -/
def isObj : HO → Bool
  | .lst _ => true
  | .ins _ _ _ => true
  | _ => false
theorem obj_there {pins : List (Addr × Obj)} {s : Shared} {σ : St} {H : Hp} {a : Addr} {o : HO} (I : Inv X pins σ H s) (h : H a = some o) (p : isObj o = true) : ∃ ob, s.heap.get? a = some ob ∧ ob.cls ≠ .type "tuple" := by
  cases o with
  | lst xs =>
    obtain ⟨_, its, n, _, e⟩ : xs.length ≤ sizeLine ∧ ∃ (its : List Value) (n : Nat), Vals xs its ∧ s.heap.get? a = some { cls := .type "list", data := .seq its.toArray n } := I.hok a _ h
    exact ⟨_, e, (by show Value.type "list" ≠ .type "tuple"; decide +kernel)⟩
  | ins C dx fs =>
    have x := I.hok a _ h
    obtain ⟨_, _, _, e, _⟩ := x
    exact ⟨_, e, (by show Value.ref C ≠ .type "tuple"; exact fun z => by cases z)⟩
  | _ => exact absurd (show false = true from p) Bool.false_ne_true
theorem op_is_ref : OpR X (compareOp .Is) (fun x y H Q => ∃ a b oa ob, x = .ref a ∧ y = .ref b ∧ H a = some oa ∧ isObj oa = true ∧ H b = some ob ∧ isObj ob = true ∧ Q (.bl (decide (a = b))) H) := by
  intro pins s σ H x y v u Q I rx ry h
  obtain ⟨a, b, oa, ob, rfl, rfl, ha, pa, hb, pb, q⟩ := h
  cases rx
  cases ry
  obtain ⟨o1, e1, n1⟩ := obj_there I ha pa
  obtain ⟨o2, e2, _⟩ := obj_there I hb pb
  by_cases z : a = b
  · subst z
    exact wpAny_is_ref_self (fin_bl I q (by simp))
  · exact wpAny_is_ref_other z e1 e2 n1 (fin_bl I q (by simp [z]))
theorem op_isnot_ref : OpR X (compareOp .IsNot) (fun x y H Q => ∃ a b oa ob, x = .ref a ∧ y = .ref b ∧ H a = some oa ∧ isObj oa = true ∧ H b = some ob ∧ isObj ob = true ∧ Q (.bl (!decide (a = b))) H) := by
  intro pins s σ H x y v u Q I rx ry h
  obtain ⟨a, b, oa, ob, rfl, rfl, ha, pa, hb, pb, q⟩ := h
  cases rx
  cases ry
  obtain ⟨o1, e1, n1⟩ := obj_there I ha pa
  obtain ⟨o2, e2, _⟩ := obj_there I hb pb
  by_cases z : a = b
  · subst z
    exact wpAny_isNot_ref_self (fin_bl I q (by simp))
  · exact wpAny_isNot_ref_other z e1 e2 n1 (fin_bl I q (by simp [z]))

/-- two rules for one operation: by cases -/
theorem OpR.or {f : Value → Value → Sem Value} {r r' : R2} (h : OpR X f r) (h' : OpR X f r') : OpR X f (fun x y H Q => r x y H Q ∨ r' x y H Q) := by
  intro pins s σ H x y v u Q I rx ry q
  rcases q with q | q
  · exact h pins s σ H x y v u Q I rx ry q
  · exact h' pins s σ H x y v u Q I rx ry q

theorem nomark (b : Expr) {op : CmpOp} (h : op ≠ .In := by decide) (h2 : op ≠ .NotIn := by decide) : behindInMarks op b = false := by
  have e1 : (op == CmpOp.In) = false := by cases op <;> first | rfl | exact absurd rfl h
  have e2 : (op == CmpOp.NotIn) = false := by cases op <;> first | rfl | exact absurd rfl h2
  cases b <;> simp [behindInMarks, e1, e2]
/-- a comparison as a value; hm: nomark b, or (for in, not in) by with_unfolding_all rfl -/
theorem pe_cmpR {op : CmpOp} {r : R2} (ho : OpR X (compareOp op) r) (ha : PE X a ta) (hb : PE X b tb) (hm : behindInMarks op b = false) : PE X (.Compare a [op] [b] pos) (tOp r ta tb) := by
  intro pins s σ H Q I h
  exact wpAny_Compare1 (binT ha hb I h fun v u s2 x y H2 I2 rx ry q => ho pins s2 σ H2 x y v u Q I2 rx ry q) hm
/-- a reading of a value as a test -/
def tTest (t : TE) : TT := fun σ H Q => t σ H fun x H' => ∃ k, x = .bl k ∧ Q k H'
theorem pt_cmpR {op : CmpOp} {r : R2} (ho : OpR X (compareOp op) r) (ha : PE X a ta) (hb : PE X b tb) (hm : behindInMarks op b = false) : PT X (.Compare a [op] [b] pos) (tTest (tOp r ta tb)) := by
  intro pins s σ H Q I h
  refine wpAny_isTrue_Compare1 (thn (ha pins s σ H _ I h) fun v s1 ⟨x, H1, I1, r1, q1⟩ => thn (hb pins s1 σ H1 _ I1 q1) fun u s2 ⟨y, H2, I2, r2, q2⟩ =>
    thn (ho pins s2 σ H2 x y v u _ I2 r1 r2 q2) fun c s3 ⟨z, H3, I3, r3, k, e, q3⟩ => ?_) hm
  subst e
  cases r3
  exact wpAny_truthy_bool ⟨H3, I3, q3⟩
/-- a op1 b op2 c -/
def tChain (r r' : R2) (ta tb tc : TE) : TE := fun σ H Q => ta σ H fun x H1 => tb σ H1 fun y H2 => r x y H2 fun z H3 => ∃ k, z = .bl k ∧
  (if k = true then tc σ H3 fun w' H4 => r' y w' H4 Q else Q (.bl false) H3)
theorem pe_chain {op op' : CmpOp} {r r' : R2} (ho : OpR X (compareOp op) r) (ho' : OpR X (compareOp op') r') (ha : PE X a ta) (hb : PE X b tb) (hc : PE X c tc)
    (hm : lastMarks [op, op'] [b, c] = false := by with_unfolding_all rfl) : PE X (.Compare a [op, op'] [b, c] pos) (tChain r r' ta tb tc) := by
  intro pins s σ H Q I h
  refine Compare_chain (thn (ha pins s σ H _ I h) fun v s1 ⟨x, H1, I1, r1, q1⟩ => chain_link (thn (hb pins s1 σ H1 _ I1 q1) fun u s2 ⟨y, H2, I2, r2, q2⟩ =>
    thn (ho pins s2 σ H2 x y v u _ I2 r1 r2 q2) fun d s3 ⟨z, H3, I3, r3, k, e, q3⟩ => ?_)) hm
  subst e
  cases r3
  refine wpAny_truthy_bool ?_
  cases k with
  | false => exact ite_ff ⟨.bl false, H3, I3, rfl, q3⟩
  | true => exact ite_tt (chain_last (thn (hc pins s3 σ H3 _ I3 q3) fun w' s4 ⟨z', H4, I4, r4, q4⟩ => ho' pins s4 σ H4 y z' u w' Q I4 r2 r4 q4))
theorem pt_chain {op op' : CmpOp} {r r' : R2} (ho : OpR X (compareOp op) r) (ho' : OpR X (compareOp op') r') (ha : PE X a ta) (hb : PE X b tb) (hc : PE X c tc)
    (hm : lastMarks [op, op'] [b, c] = false := by with_unfolding_all rfl) : PT X (.Compare a [op, op'] [b, c] pos) (tTest (tChain r r' ta tb tc)) := by
  intro pins s σ H Q I h
  refine isTrue_chain (thn (ha pins s σ H _ I h) fun v s1 ⟨x, H1, I1, r1, q1⟩ => test_link (thn (hb pins s1 σ H1 _ I1 q1) fun u s2 ⟨y, H2, I2, r2, q2⟩ =>
    thn (ho pins s2 σ H2 x y v u _ I2 r1 r2 q2) fun d s3 ⟨z, H3, I3, r3, k, e, q3⟩ => ?_)) hm
  subst e
  cases r3
  refine wpAny_truthy_bool ?_
  cases k with
  | false =>
    obtain ⟨k', e', q'⟩ := q3
    cases e'
    exact ite_ff ⟨H3, I3, q'⟩
  | true =>
    refine ite_tt (test_last (thn (hc pins s3 σ H3 _ I3 q3) fun w' s4 ⟨z', H4, I4, r4, q4⟩ => thn (ho' pins s4 σ H4 y z' u w' _ I4 r2 r4 q4) fun d' s5 ⟨z2, H5, I5, r5, k2, e2, q5⟩ => ?_))
    subst e2
    cases r5
    exact wpAny_truthy_bool ⟨H5, I5, q5⟩

/-! ### truth -/
/-- a value's truth by the abstract heap -/
def TruV (K : PySem.W.Frag) (x : V) (H : Hp) (k : Bool) : Prop :=
  match x with
  | .non => k = false
  | .bl b => k = b
  | .int i => k = (i != 0)
  | .str y => y.length ≤ sizeLine ∧ k = ((y.length : Int) != 0)
  | .byt y => y.size ≤ sizeLine ∧ k = ((y.size : Int) != 0)
  | .ref p => (∃ xs, SqL K H p xs ∧ k = !xs.isEmpty) ∨ (∃ xs, SqT K H p xs ∧ k = !xs.isEmpty) ∨ ∃ kvs, H p = some (.dK kvs) ∧ k = !kvs.isEmpty
  | _ => False
theorem isEmpty_kv {κ : Type} {kvs : List (κ × V)} {vs : List (κ × Value)} (r : KV kvs vs) : (!vs.isEmpty) = !kvs.isEmpty := by
  cases r <;> rfl
theorem isEmpty_of {xs : List V} {its : List Value} (r : Vals xs its) : (!its.toArray.isEmpty) = !xs.isEmpty := by
  cases r <;> simp
theorem line63 : (sizeLine : Nat) < 2 ^ 63 := by rw [sizeLine_eq]; decide
theorem tru_ok : TruR X (fun x H Q => ∃ k, TruV X.K x H k ∧ Q k H) := by
  intro pins s σ H x v Q I rx h
  obtain ⟨k, e, q⟩ := h
  have hl := line63
  have hs : sizeLine = 16777216 := sizeLine_eq
  cases x with
  | non =>
    cases rx
    have e' : k = false := e
    subst e'
    exact truthy_none ⟨H, I, q⟩
  | bl b =>
    cases rx
    have e' : k = b := e
    subst e'
    exact wpAny_truthy_bool ⟨H, I, q⟩
  | int i =>
    obtain ⟨t, rfl⟩ := rx
    have e' : k = (i != 0) := e
    subst e'
    exact PySem.P.truthy_int ⟨H, I, q⟩
  | str y =>
    obtain ⟨t, rfl⟩ := rx
    obtain ⟨hy, e'⟩ : y.length ≤ sizeLine ∧ k = ((y.length : Int) != 0) := e
    subst e'
    exact PySem.P.truthy_str (by omega) ⟨H, I.tok _, q⟩
  | byt y =>
    obtain ⟨t, rfl⟩ := rx
    obtain ⟨hy, e'⟩ : y.size ≤ sizeLine ∧ k = ((y.size : Int) != 0) := e
    subst e'
    exact PySem.W.truthy_bytes (by omega) ⟨H, I.tok _, q⟩
  | ref p =>
    cases rx
    have e' : (∃ xs, SqL X.K H p xs ∧ k = !xs.isEmpty) ∨ (∃ xs, SqT X.K H p xs ∧ k = !xs.isEmpty) ∨ ∃ kvs, H p = some (.dK kvs) ∧ k = !kvs.isEmpty := e
    rcases e' with ⟨xs, hx, e'⟩ | ⟨xs, hx, e'⟩ | ⟨kvs, hx, e'⟩
    · subst e'
      obtain ⟨its, r, pl, hz⟩ := I.list hx
      have hlen := r.length
      exact wpAny_truthy_list pl.isList (by simp only [List.size_toArray]; omega) ⟨H, I.tok _, by rw [isEmpty_of r]; exact q⟩
    · subst e'
      obtain ⟨its, r, pl, hz⟩ := I.tuple hx
      have hlen := r.length
      exact truthy_tuple pl (by simp only [List.size_toArray]; omega) ⟨H, I.tok _, by rw [isEmpty_of r]; exact q⟩
    · subst e'
      obtain ⟨hz, hS, vs, r, m⟩ : kvs.length ≤ sizeLine ∧ (p == sysModules) = false ∧ ∃ vs, KV kvs vs ∧ s.heap.DictOf (mixKind X.prog X.w) p vs := I.hok p _ hx
      have hlen : kvs.length = vs.length := Paired.length r
      exact wpAny_truthy_dict hS m (by omega) ⟨H, I.tok _, by rw [isEmpty_kv r]; exact q⟩
  | _ => exact (show False from e).elim
/-- any expression whose test is its value's truth (a name, a call, a subscript, a field ..: he by fun _ => rfl) -/
theorem pt_truth (ha : PE X a ta) (he : ∀ whole, isTrue a X.env whole = (do let v ← whole; standAt a.pos; holding [v] (truthy v))) :
    PT X a (fun σ H Q => ta σ H fun x H' => ∃ k, TruV X.K x H' k ∧ Q k H') := by
  intro pins s σ H Q I h
  exact isTrue_plain (thn (ha pins s σ H _ I h) fun v s1 ⟨x, H1, I1, r1, q1⟩ => tru_ok pins s1 σ H1 x v Q I1 r1 q1) (he _)

/-! ### strs and bytes -/
theorem pe_byt {x : List UInt8} {k : Nat} : PE X (.Constant (.bytes x) k pos) (fun _ H Q => Q (.byt x.toArray) H) := fun _ _ _ H _ I h => PySem.W.Constant_bytes ⟨.byt x.toArray, H, I.tok _, ⟨_, rfl⟩, h⟩
theorem op_add_str : OpR X (binaryOp .Add) (fun x y H Q => ∃ i j, x = .str i ∧ y = .str j ∧ i.length + j.length ≤ sizeLine ∧ Q (.str (i ++ j)) H) := by
  intro pins s σ H x y v u Q I rx ry h
  obtain ⟨i, j, rfl, rfl, hz, q⟩ := h
  obtain ⟨t, rfl⟩ := rx
  obtain ⟨t', rfl⟩ := ry
  exact add_str (fun t' tk => ⟨.str (i ++ j), H, I.tok _, ⟨_, rfl⟩, q⟩) hz
theorem iop_add_str : OpR X (inplaceOp .Add) (fun x y H Q => ∃ i j, x = .str i ∧ y = .str j ∧ i.length + j.length ≤ sizeLine ∧ Q (.str (i ++ j)) H) := by
  intro pins s σ H x y v u Q I rx ry h
  obtain ⟨i, j, rfl, rfl, hz, q⟩ := h
  obtain ⟨t, rfl⟩ := rx
  obtain ⟨t', rfl⟩ := ry
  exact iadd_str (fun t' tk => ⟨.str (i ++ j), H, I.tok _, ⟨_, rfl⟩, q⟩) hz
theorem op_add_byt : OpR X (binaryOp .Add) (fun x y H Q => ∃ i j, x = .byt i ∧ y = .byt j ∧ i.size + j.size ≤ 16777216 ∧ Q (.byt (i ++ j)) H) := by
  intro pins s σ H x y v u Q I rx ry h
  obtain ⟨i, j, rfl, rfl, hz, q⟩ := h
  obtain ⟨t, rfl⟩ := rx
  obtain ⟨t', rfl⟩ := ry
  exact PySem.W.KBy.add_bytes hz (fun t' tk => ⟨.byt (i ++ j), H, I.tok _, ⟨_, rfl⟩, q⟩)

def PlainIxT (b : Expr) : Prop := ∀ o i, subscripted b false o i = operate [o, i] (getItem o i)
/-- s[i], 0 ≤ i < len -/
theorem pe_item_str (ha : PE X a ta) (hb : PE X b tb) (hs : PlainIxT b) :
    PE X (.Subscript a b pos) (tOp (fun x y H Q => ∃ z i c, x = .str z ∧ y = .int i ∧ 0 ≤ i ∧ i < 2 ^ 63 ∧ i < z.length ∧ z.cps[i.toNat]? = some c ∧ Q (.str ⟨#[c]⟩) H) ta tb) := by
  intro pins s σ H Q I h
  refine Subscript_ (binT ha hb I h fun v u s2 x y H2 I2 rx ry q => ?_)
  obtain ⟨z, i, c, rfl, rfl, h0, h63, h1, hc, q⟩ := q
  obtain ⟨t, rfl⟩ := rx
  obtain ⟨t', rfl⟩ := ry
  have e : seqIndex? i z.length = some i.toNat := PySem.StrLaws.seqIndex_nonneg h0 h1
  exact tail_any (typeIs_str s2 z t) slot_str_getitem.lookup (getItem_str (c := c) (by
    have e1 : decide (i < -(2 ^ 63 : Int)) = false := decide_eq_false (by omega)
    have e2 : decide (i ≥ 2 ^ 63) = false := decide_eq_false (by omega)
    rw [e1, e2] <;> rfl) (by rw [e]; exact hc) ⟨.str ⟨#[c]⟩, H2, I2.tok _, ⟨_, rfl⟩, q⟩) (hs _ _)
/-- b[i], 0 ≤ i < len -/
theorem pe_item_byt (ha : PE X a ta) (hb : PE X b tb) (hs : PlainIxT b) :
    PE X (.Subscript a b pos) (tOp (fun x y H Q => ∃ (z : List UInt8) (i : Int), x = .byt z.toArray ∧ y = .int i ∧ z.length ≤ sizeLine ∧ 0 ≤ i ∧ i < z.length ∧ Q (.int ((z.getD i.toNat 0).toNat : Nat)) H) ta tb) := by
  intro pins s σ H Q I h
  refine Subscript_ (binT ha hb I h fun v u s2 x y H2 I2 rx ry q => ?_)
  obtain ⟨z, i, rfl, rfl, hz, h0, h1, q⟩ := q
  obtain ⟨t, rfl⟩ := rx
  obtain ⟨t', rfl⟩ := ry
  have hl : sizeLine = 16777216 := sizeLine_eq
  exact tail_any (PySem.W.typeIs_bytes s2 z.toArray t) PySem.W.FB.slot_bytes_getitem.lookup (PySem.W.getItem_bytes (by omega) h0 h1 ⟨.int ((z.getD i.toNat 0).toNat : Nat), H2, I2.tok _, ⟨_, rfl⟩, q⟩) (hs _ _)

/-! ### scalar builtins, by CallR -/
theorem vals1 {x : V} {us : List Value} (r : Vals [x] us) : ∃ u, us = [u] ∧ RelV x u := by
  cases r with
  | cons r1 r2 => cases r2; exact ⟨_, rfl, r1⟩
theorem vals2 {x y : V} {us : List Value} (r : Vals [x, y] us) : ∃ u w', us = [u, w'] ∧ RelV x u ∧ RelV y w' := by
  cases r with
  | cons r1 r2 =>
    cases r2 with
    | cons r3 r4 => cases r4; exact ⟨_, _, rfl, r1, r3⟩
theorem call_abs : CallR X (.builtin "abs") (fun xs H Q => ∃ i, xs = [.int i] ∧ Q (.int (if i < 0 then -i else i)) H) := by
  intro pins s σ H xs us Q I r h
  obtain ⟨i, rfl, q⟩ := h
  obtain ⟨u, rfl, t, rfl⟩ := vals1 r
  exact call_abs_int fun u tk => ⟨.int (if i < 0 then -i else i), H, I.tok _, ⟨_, rfl⟩, q⟩
theorem call_max2 (hc : X.calm = true) : CallR X (.builtin "max") (fun xs H Q => ∃ i j, xs = [.int i, .int j] ∧ Q (.int (if j > i then j else i)) H) := by
  intro pins s σ H xs us Q I r h
  obtain ⟨i, j, rfl, q⟩ := h
  obtain ⟨u, w', rfl, ⟨t, rfl⟩, ⟨t', rfl⟩⟩ := vals2 r
  refine max_two_ints (I.ok.hd hc) fun h' tk k => ⟨_, H, I.kept k, ?_, q⟩
  by_cases hj : j > i
  · rw [if_pos hj, if_pos hj]; exact ⟨_, rfl⟩
  · rw [if_neg hj, if_neg hj]; exact ⟨_, rfl⟩
theorem call_min2 (hc : X.calm = true) : CallR X (.builtin "min") (fun xs H Q => ∃ i j, xs = [.int i, .int j] ∧ Q (.int (if j < i then j else i)) H) := by
  intro pins s σ H xs us Q I r h
  obtain ⟨i, j, rfl, q⟩ := h
  obtain ⟨u, w', rfl, ⟨t, rfl⟩, ⟨t', rfl⟩⟩ := vals2 r
  refine min_two_ints (I.ok.hd hc) fun h' tk k => ⟨_, H, I.kept k, ?_, q⟩
  by_cases hj : j < i
  · rw [if_pos hj, if_pos hj]; exact ⟨_, rfl⟩
  · rw [if_neg hj, if_neg hj]; exact ⟨_, rfl⟩
theorem call_int1 : CallR X (.type "int") (fun xs H Q => (∃ i, xs = [.int i] ∧ Q (.int i) H) ∨ ∃ k, xs = [.bl k] ∧ Q (.int (if k then 1 else 0)) H) := by
  intro pins s σ H xs us Q I r h
  rcases h with ⟨i, rfl, q⟩ | ⟨k, rfl, q⟩
  · obtain ⟨u, rfl, t, rfl⟩ := vals1 r
    exact call_int_int ⟨.int i, H, I, ⟨_, rfl⟩, q⟩
  · obtain ⟨u, rfl, r1⟩ := vals1 r
    cases r1
    exact call_int_bool ⟨.int (if k then 1 else 0), H, I.tok _, ⟨_, rfl⟩, q⟩
theorem call_bool1 : CallR X (.type "bool") (fun xs H Q => (∃ i, xs = [.int i] ∧ Q (.bl (i != 0)) H) ∨ ∃ k, xs = [.bl k] ∧ Q (.bl k) H) := by
  intro pins s σ H xs us Q I r h
  rcases h with ⟨i, rfl, q⟩ | ⟨k, rfl, q⟩
  · obtain ⟨u, rfl, t, rfl⟩ := vals1 r
    exact call_bool_int ⟨.bl (i != 0), H, I, rfl, q⟩
  · obtain ⟨u, rfl, r1⟩ := vals1 r
    cases r1
    exact call_bool_bool ⟨.bl k, H, I, rfl, q⟩
theorem call_str_int : CallR X (.type "str") (fun xs H Q => ∃ i, xs = [.int i] ∧ i.natAbs.log2 < 1920 ∧ Q (.str (toString i)) H) := by
  intro pins s σ H xs us Q I r h
  obtain ⟨i, rfl, hz, q⟩ := h
  obtain ⟨u, rfl, t, rfl⟩ := vals1 r
  exact PySem.P.str_of_int hz ⟨.str _, H, I.tok _, ⟨_, rfl⟩, q⟩
theorem call_ord : CallR X (.builtin "ord") (fun xs H Q => ∃ x, xs = [.str x] ∧ x.length = 1 ∧ Q (.int (x.cps.getD 0 0 : Nat)) H) := by
  intro pins s σ H xs us Q I r h
  obtain ⟨x, rfl, hz, q⟩ := h
  obtain ⟨u, rfl, t, rfl⟩ := vals1 r
  exact ord_of_one hz ⟨.int _, H, I.tok _, ⟨_, rfl⟩, q⟩
theorem call_chr : CallR X (.builtin "chr") (fun xs H Q => ∃ i, xs = [.int i] ∧ 0 ≤ i ∧ i ≤ 1114111 ∧ Q (.str ⟨#[i.toNat]⟩) H) := by
  intro pins s σ H xs us Q I r h
  obtain ⟨i, rfl, h0, h1, q⟩ := h
  obtain ⟨u, rfl, t, rfl⟩ := vals1 r
  exact chr_of_range h0 h1 ⟨.str _, H, I.tok _, ⟨_, rfl⟩, q⟩
/-- len of a str, a bytes, a list, a tuple -/
def LenV (K : PySem.W.Frag) (x : V) (H : Hp) (n : Nat) : Prop :=
  match x with
  | .str y => y.length ≤ sizeLine ∧ n = y.length
  | .byt y => y.size ≤ sizeLine ∧ n = y.size
  | .ref p => (∃ xs, SqL K H p xs ∧ n = xs.length) ∨ ∃ xs, SqT K H p xs ∧ n = xs.length
  | _ => False
theorem call_len : CallR X (.builtin "len") (fun xs H Q => ∃ x n, xs = [x] ∧ LenV X.K x H n ∧ Q (.int n) H) := by
  intro pins s σ H xs us Q I r h
  obtain ⟨x, n, rfl, e, q⟩ := h
  obtain ⟨u, rfl, rx⟩ := vals1 r
  have hl := line63
  have hs : sizeLine = 16777216 := sizeLine_eq
  cases x with
  | str y =>
    obtain ⟨t, rfl⟩ := rx
    obtain ⟨hy, e'⟩ : y.length ≤ sizeLine ∧ n = y.length := e
    subst e'
    exact len_str (by omega) ⟨.int _, H, I.tok _, ⟨_, rfl⟩, q⟩
  | byt y =>
    obtain ⟨t, rfl⟩ := rx
    obtain ⟨hy, e'⟩ : y.size ≤ sizeLine ∧ n = y.size := e
    subst e'
    exact PySem.W.len_bytes (by omega) ⟨.int _, H, I.tok _, ⟨_, rfl⟩, q⟩
  | ref p =>
    cases rx
    have e' : (∃ xs, SqL X.K H p xs ∧ n = xs.length) ∨ ∃ xs, SqT X.K H p xs ∧ n = xs.length := e
    rcases e' with ⟨xs, hx, e'⟩ | ⟨xs, hx, e'⟩
    · subst e'
      obtain ⟨its, r', pl, hz⟩ := I.list hx
      have hlen := r'.length
      exact Calls.call_len_list pl.isList (by simp only [List.size_toArray]; omega) ⟨.int xs.length, H, I.tok _, ⟨_, by simp only [List.size_toArray]; rw [hlen]⟩, q⟩
    · subst e'
      obtain ⟨its, r', pl, hz⟩ := I.tuple hx
      have hlen := r'.length
      exact len_tuple pl (by simp only [List.size_toArray]; omega) ⟨.int xs.length, H, I.tok _, ⟨_, by simp only [List.size_toArray]; rw [hlen]⟩, q⟩
  | _ => exact (show False from e).elim
/-- divmod: a new tuple -/
theorem call_divmod : CallR X (.builtin "divmod") (fun xs H Q => ∃ i j, xs = [.int i, .int j] ∧ CDiv i j ∧ ∀ p, H p = none → Q (.ref p) (upd H p (.tup [.int (i / j), .int (i % j)]))) := by
  intro pins s σ H xs us Q I r h
  obtain ⟨i, j, rfl, ⟨h1, h2⟩, q⟩ := h
  obtain ⟨u, w', rfl, ⟨t, rfl⟩, ⟨t', rfl⟩⟩ := vals2 r
  refine divmod_int (by omega) ?_ (.inl (PyProof.noPylong_small (by omega)))
  rw [Int.fdiv_eq_ediv_of_nonneg i (by omega), Int.fmod_eq_emod_of_nonneg i (by omega)]
  have hn : H s.heap.objs.size = none := I.hok.fresh (Nat.le_refl _)
  refine ⟨.ref s.heap.objs.size, _, ?_, rfl, q _ hn⟩
  refine I.laid (fun b o e => Heap.get?_push_of_some _ e) (Nat.le_refl _) ⟨by simp only [List.length_cons, List.length_nil]; rw [sizeLine_eq]; decide, [.int (i / j) s.toks, .int (i % j) (s.toks + 1)], .cons ⟨_, rfl⟩ (.cons ⟨_, rfl⟩ .nil), ?_⟩
  exact ⟨_, Heap.get?_push_size s.heap rfl, rfl, 0, rfl⟩
end
end L2

namespace L2
open PySem PySem.Spec PyProof.Rows

/-! ### an instance, its attributes a map -/
structure ObjM (h : Heap) (x dx C : Addr) (mA : Str → Option Value) : Prop where
  obj : h.get? x = some (PySem.W.instObj C dx)
  ns : h.Ns1 dx mA
  ne : dx ≠ x

theorem lookIn_ns {h : Heap} {dx : Addr} {mA : Str → Option Value} (n : h.Ns1 dx mA) : ∃ od, h.get? dx = some od ∧ ∀ name, PySem.W.lookIn name od = some (mA name) := by
  obtain ⟨o, es, ep, ho, hd, hk, _, hm⟩ := n
  refine ⟨o, ho, fun name => ?_⟩
  have e := hm name
  unfold nsFind findBy at e
  rw [← Array.find?_toList] at e
  unfold PySem.W.lookIn
  rw [hd]
  dsimp only
  split
  · rename_i y q
    rw [q] at e
    exact congrArg some e
  · rename_i q
    rw [q] at e
    have a : es.toList.any (·.refKey) = false := by
      rw [List.any_eq_false]
      intro y hy
      obtain ⟨z, t, hkey⟩ := hk y (Array.mem_toList_iff.mp hy)
      simp [DictEntry.refKey, hkey]
    have a' : ¬ es.toList.any (·.refKey) = true := by rw [a]; exact Bool.false_ne_true
    rw [if_neg a']
    exact congrArg some e

theorem ObjM.look {h : Heap} {x dx C : Addr} {mA : Str → Option Value} (I : ObjM h x dx C mA) : ∃ od, PySem.W.InstAt h x (PySem.W.instObj C dx) C (some od) ∧ ∀ name, PySem.W.lookIn name od = some (mA name) :=
  let ⟨od, ho, hl⟩ := lookIn_ns I.ns
  ⟨od, ⟨I.obj, rfl, rfl, ho⟩, hl⟩

section
variable {prog : Program} {w : World} {A : Around} {E : Value → Shared → Prop} {s : Shared} {K : PySem.W.Frag} {x dx C f : Addr} {mA : Str → Option Value} {name : Str} {v : Value}

theorem get_map {expr : Bool} {Q : Value → Shared → Prop} (X : K.In s.heap) (I : ObjM s.heap x dx C mA) (hg : PySem.W.plainGet K C name = true) (hh : PySem.W.hasDictIn K C = true)
    (ha : PySem.W.findIn K (.ref C) name = some none) (hv : mA name = some v) (hv' : PySem.W.handedIn v = true) (h : Q v { s with toks := s.toks + 1 }) :
    wpAny (model prog w) A (getAttr (.ref x) name expr) Q E s := by
  obtain ⟨od, J, hl⟩ := I.look
  exact PySem.W.get_value X J (PySem.W.plainGet_of hg).1 (PySem.W.findObj_own hh ha rfl (by rw [hl, hv])) hv' h

theorem get_const {expr : Bool} {a : Value} {Q : Value → Shared → Prop} (X : K.In s.heap) (I : ObjM s.heap x dx C mA) (hg : PySem.W.plainGet K C name = true) (hh : PySem.W.hasDictIn K C = true)
    (ha : PySem.W.findIn K (.ref C) name = some (some a)) (hn : PySem.W.specialIn K a "__get__" = some none) (hc : PySem.W.copiedNames.contains name = false) (hv : mA name = none) (hv' : PySem.W.handedIn a = true)
    (h : Q a { s with toks := s.toks + 1 }) : wpAny (model prog w) A (getAttr (.ref x) name expr) Q E s := by
  obtain ⟨od, J, hl⟩ := I.look
  exact PySem.W.get_value X J (PySem.W.plainGet_of hg).1 (PySem.W.findObj_cls hh ha hn hv' hc (by rw [hl, hv])) hv' h

theorem get_meth {pl : Sem Bool} {Q : Value × List Value → Shared → Prop} (X : K.In s.heap) (I : ObjM s.heap x dx C mA) (hg : PySem.W.plainGet K C name = true)
    (hf : PySem.W.findIn K (.ref C) name = some (some (.ref f))) (ht : PySem.W.isFn K (.ref f) = true) (hv : mA name = none) (h : Q (.ref f, [.ref x]) s) :
    wpAny (model prog w) A (getMethod (.ref x) name pl) Q E s := by
  obtain ⟨od, J, hl⟩ := I.look
  exact PySem.W.method_fn X J (PySem.W.plainGet_of hg).1 (PySem.W.plainGet_of hg).2 hf (beq_iff_eq.mp ht) (by show (PySem.W.lookIn name od).map (·.isSome) = some false; rw [hl, hv]; rfl) h

theorem set_map {ns : List Str} {Q : Unit → Shared → Prop} (X : K.In s.heap) (I : ObjM s.heap x dx C mA)
    (hs : PySem.W.findIn K (.ref C) "__setattr__" = some (some (.builtin "object.__setattr__"))) (hp : PySem.W.plainOver K C = true) (ht : PySem.W.takerIn K C name = some none) (hh : PySem.W.hasDictIn K C = true)
    (hw : PySem.Within mA ns) (hsz : ns.length ≤ sizeLine)
    (h : ∀ h', ObjM h' x dx C (fun y => if y = name then some v else mA y) → Heap.SameBut dx s.heap h' → Q () { s with heap := h', toks := s.toks + 2 }) :
    wpAny (model prog w) A (setAttr (.ref x) name v) Q E s := by
  obtain ⟨od, J, hl⟩ := I.look
  refine PySem.W.set_plain X J hs (PySem.W.osa_open (s := { s with toks := s.toks + 1 }) (r := none) X J hp ht fun b => ?_)
  obtain ⟨cd, hc, hd'⟩ := PySem.W.any_some hh
  have hx : s.heap.get? x = some ⟨.ref C, some dx, .plain, #[]⟩ := I.obj
  refine wpAny_bind (wpAny_pure (wpAny_bind (wpAny_bind (wpAny_loadPart hx (wpAny_bind (PySem.W.Looks.here (s := { s with toks := s.toks + 1 }) (PySem.W.looks_clsIn X hc) ?_))))))
  rw [hd']
  refine wpAny_pure (a := some dx) (wpAny_bind (wpAny_pure (wpAny_bind ?_)))
  refine wpAny_nsSet1 (s := { s with toks := s.toks + 1 }) I.ns fun h' hn2 hs2 => ?_
  obtain ⟨oD, esD, epD, hoD, hdD, hcD⟩ := hn2.count (PySem.Within.cons name v hw)
  refine wpAny_bind (wpAny_lookBehind hoD (by rw [hdD]; exact pastItsLine_dict (Nat.le_trans hcD (by rw [List.length_cons]; omega))) ?_)
  exact wpAny_pure (h _ ⟨(hs2.2 _ (Ne.symm I.ne)).trans I.obj, hn2, I.ne⟩ hs2)

/-- C(..): the dict at the heap's end, the instance behind it; then its __init__ -/
theorem make_map {R : Result → Shared → Prop} {vs : List Value} {kw : List (Str × Value)} (X : K.In s.heap) (hm : PySem.W.makesIn K C = true)
    (hi : PySem.W.findIn K (.ref C) "__init__" = some (some (.ref f))) (hf : PySem.W.typeIn K (.ref f) = some (.type "function"))
    (h : codeAny (model prog w) (A.under (.builtin "type.__call__" ⟨.ref C :: vs, kw⟩)) (.call (.ref f) ⟨.ref (s.heap.objs.size + 1) :: vs, kw⟩) (PySem.W.InitBack (s.heap.objs.size + 1) R)
      { s with heap := (s.heap.push PySem.W.emptyDict).push (PySem.W.instObj C s.heap.objs.size) }) :
    codeAny (model prog w) A (.call (.ref C) ⟨vs, kw⟩) R s := by
  obtain ⟨hh, g, d, t, os⟩ := s
  exact PySem.W.make_core (PySem.W.makes_of X hm) (PySem.W.looks_findIn X hi) (fun self => PySem.W.bind_fn X self hf) (.inl rfl) h
/-- C() where there is no __init__ but object's -/
theorem make_map0 {R : Result → Shared → Prop} (X : K.In s.heap) (hm : PySem.W.makesIn K C = true)
    (hi : PySem.W.findIn K (.ref C) "__init__" = some (some (.builtin "object.__init__")))
    (hb : ∀ self, PySem.W.Looks (model prog w) s.heap (bindSpecial (.builtin "object.__init__") self) (.builtin "object.__init__", [self]))
    (h : codeAny (model prog w) (A.under (.builtin "type.__call__" ⟨[.ref C], []⟩)) (.call (.builtin "object.__init__") ⟨[.ref (s.heap.objs.size + 1)], []⟩) (PySem.W.InitBack (s.heap.objs.size + 1) R)
      { s with heap := (s.heap.push PySem.W.emptyDict).push (PySem.W.instObj C s.heap.objs.size) }) :
    codeAny (model prog w) A (.call (.ref C) ⟨[], []⟩) R s := by
  obtain ⟨hh, g, d, t, os⟩ := s
  exact PySem.W.make_core (PySem.W.makes_of X hm) (PySem.W.looks_findIn X hi) hb (.inr ⟨rfl, rfl⟩) h
end

/-! ### the attributes as a list of pairs -/
def putF (f : Str) (v : V) : List (Str × V) → List (Str × V)
  | [] => [(f, v)]
  | (g, x) :: r => if g = f then (g, v) :: r else (g, x) :: putF f v r
theorem lookup_putF (f g : Str) (v : V) : ∀ fs : List (Str × V), (putF f v fs).lookup g = if g = f then some v else fs.lookup g
  | [] => by
    show List.lookup g [(f, v)] = _
    by_cases h : g = f
    · have hb : (g == f) = true := beq_iff_eq.mpr h
      simp only [List.lookup, hb, if_pos h]
    · have hb : (g == f) = false := beq_eq_false_iff_ne.mpr h
      simp only [List.lookup, hb, if_neg h]
  | (k, x) :: r => by
    have ih := lookup_putF f g v r
    rw [show putF f v ((k, x) :: r) = (if k = f then (k, v) :: r else (k, x) :: putF f v r) from rfl]
    by_cases hk : k = f
    · rw [if_pos hk]
      by_cases h : g = k
      · have hb : (g == k) = true := beq_iff_eq.mpr h
        simp only [List.lookup, hb, if_pos (h.trans hk)]
      · have hb : (g == k) = false := beq_eq_false_iff_ne.mpr h
        simp only [List.lookup, hb, if_neg (fun e : g = f => h (e.trans hk.symm))]
    · rw [if_neg hk]
      by_cases h : g = k
      · have hb : (g == k) = true := beq_iff_eq.mpr h
        simp only [List.lookup, hb, if_neg (fun e : g = f => hk (h.symm.trans e))]
      · have hb : (g == k) = false := beq_eq_false_iff_ne.mpr h
        simp only [List.lookup, hb]
        exact ih
theorem keys_putF (f : Str) (v : V) : ∀ fs : List (Str × V), f ∈ (putF f v fs).map (·.1) ∧ ∀ g, g ∈ fs.map (·.1) → g ∈ (putF f v fs).map (·.1)
  | [] => ⟨by simp [putF], fun g h => by simp at h⟩
  | (k, x) :: r => by
    obtain ⟨i1, i2⟩ := keys_putF f v r
    rw [show putF f v ((k, x) :: r) = (if k = f then (k, v) :: r else (k, x) :: putF f v r) from rfl]
    by_cases hk : k = f
    · rw [if_pos hk]
      subst hk
      exact ⟨by simp, fun g h => by simpa using h⟩
    · rw [if_neg hk]
      refine ⟨?_, fun g h => ?_⟩
      · rw [List.map_cons]
        exact List.mem_cons_of_mem _ i1
      · rw [List.map_cons] at h ⊢
        rcases List.mem_cons.mp h with e | e
        · exact List.mem_cons.mpr (.inl e)
        · exact List.mem_cons_of_mem _ (i2 g e)
theorem length_putF (f : Str) (v : V) : ∀ fs : List (Str × V), (putF f v fs).length ≤ fs.length + 1
  | [] => by simp [putF]
  | (k, x) :: r => by
    have ih := length_putF f v r
    rw [show putF f v ((k, x) :: r) = (if k = f then (k, v) :: r else (k, x) :: putF f v r) from rfl]
    by_cases hk : k = f
    · rw [if_pos hk, List.length_cons, List.length_cons]; omega
    · rw [if_neg hk, List.length_cons, List.length_cons]; omega

theorem RelO.some_of {v : V} {o : Option Value} (r : RelO (some v) o) : ∃ u, o = some u ∧ RelV v u := by
  cases o with
  | none => exact (show False from r).elim
  | some u => exact ⟨u, rfl, r⟩
theorem RelO.none_of {o : Option Value} (r : RelO none o) : o = none := by
  cases o with
  | none => rfl
  | some u => exact (show False from r).elim
theorem handed_of {v : V} {u : Value} (r : RelV v u) : PySem.W.handedIn u = true := by
  cases v with
  | non => cases (show u = Value.none from r); rfl
  | bl b => cases (show u = Value.bool b from r); rfl
  | int i => obtain ⟨t, e⟩ := (show ∃ t, u = Value.int i t from r); cases e; rfl
  | str x => obtain ⟨t, e⟩ := (show ∃ t, u = Value.str x t from r); cases e; rfl
  | byt b => obtain ⟨t, e⟩ := (show ∃ t, u = Value.bytes b t from r); cases e; rfl
  | flt b => obtain ⟨t, e⟩ := (show ∃ t, u = Value.float b t from r); cases e; rfl
  | ref a => cases (show u = Value.ref a from r); rfl
  | ty n => cases (show u = Value.type n from r); rfl

section
variable {P : Program} {w : World} {H H' : Hp} {h h' : Heap} {a C dx : Addr} {fs fs' : List (Str × V)}
theorem ins_get (hok : HOk P w H h) (e : H a = some (.ins C dx fs)) : ∃ mA, ObjM h a dx C mA ∧ (∀ f, RelO (fs.lookup f) (mA f)) ∧ PySem.Within mA (fs.map (·.1)) ∧ fs.length ≤ 1000 ∧ H dx = some (.own a) := by
  obtain ⟨d, z, ne, ob, mA, n, r, q⟩ := (show ObjOk P w H h a (.ins C dx fs) from hok a _ e)
  exact ⟨mA, ⟨ob, n, ne⟩, r, q, z, d⟩
end

/-! ### what of the text a class must have -/
structure Cls (K : PySem.W.Frag) (C : Addr) : Prop where
  pg : PySem.W.plainGet K C Str.empty = true
  hd : PySem.W.hasDictIn K C = true
  po : PySem.W.plainOver K C = true
  sa : PySem.W.findIn K (.ref C) "__setattr__" = some (some (.builtin "object.__setattr__"))
theorem Cls.get {K : PySem.W.Frag} {C : Addr} (c : Cls K C) (f : Str) : PySem.W.plainGet K C f = true := c.pg
/-- no class of it has the name -/
def NoAttr (K : PySem.W.Frag) (C : Addr) (f : Str) : Prop := PySem.W.findIn K (.ref C) f = some none
theorem NoAttr.taker {K : PySem.W.Frag} {C : Addr} {f : Str} (n : NoAttr K C f) : PySem.W.takerIn K C f = some none := by
  unfold PySem.W.takerIn
  rw [show PySem.W.findIn K (.ref C) f = some none from n]
  rfl
/-- a constant of the class -/
structure Con (K : PySem.W.Frag) (C : Addr) (f : Str) (v : V) (u : Value) : Prop where
  at_ : PySem.W.findIn K (.ref C) f = some (some u)
  rel : RelV v u
  get : PySem.W.specialIn K u "__get__" = some none
  cp : PySem.W.copiedNames.contains f = false
/-- a method: a plain def of the class or of one above it -/
structure Meth (K : PySem.W.Frag) (C : Addr) (m : Str) (f : Addr) : Prop where
  at_ : PySem.W.findIn K (.ref C) m = some (some (.ref f))
  fn : PySem.W.isFn K (.ref f) = true
  kp : PySem.W.keepIn K (.ref f) = true

section
variable {X : Cx} {pins : List (Addr × Obj)} {σ : St} {H : Hp} {s : Shared} {a C dx : Addr} {fs : List (Str × V)} {f : Str} {v : V} {A : Around} {E : Value → Shared → Prop}

theorem getattr_ok {b : Bool} {Q : Value → Shared → Prop} (I : Inv X pins σ H s) (e : H a = some (.ins C dx fs)) (c : Cls X.K C) (n : NoAttr X.K C f) (l : fs.lookup f = some v)
    (h : ∀ u s', Inv X pins σ H s' → RelV v u → Q u s') : wpAny (model X.prog X.w) A (getAttr (.ref a) f b) Q E s := by
  obtain ⟨mA, O, r, _, _, _⟩ := ins_get I.hok e
  obtain ⟨u, hu, ru⟩ := RelO.some_of (v := v) (o := mA f) (by rw [← l]; exact r f)
  exact get_map I.kIn O (c.get f) c.hd n hu (handed_of ru) (h u _ (I.tok _) ru)

theorem getcon_ok {b : Bool} {u : Value} {Q : Value → Shared → Prop} (I : Inv X pins σ H s) (e : H a = some (.ins C dx fs)) (c : Cls X.K C) (k : Con X.K C f v u) (l : fs.lookup f = none)
    (h : ∀ s', Inv X pins σ H s' → Q u s') : wpAny (model X.prog X.w) A (getAttr (.ref a) f b) Q E s := by
  obtain ⟨mA, O, r, _, _, _⟩ := ins_get I.hok e
  have hn : mA f = none := RelO.none_of (by rw [← l]; exact r f)
  exact get_const I.kIn O (c.get f) c.hd k.at_ k.get k.cp hn (handed_of k.rel) (h _ (I.tok _))

theorem getmeth_ok {m : Str} {g : Addr} {pl : Sem Bool} {Q : Value × List Value → Shared → Prop} (I : Inv X pins σ H s) (e : H a = some (.ins C dx fs)) (c : Cls X.K C) (k : Meth X.K C m g) (l : fs.lookup m = none)
    (h : Q (.ref g, [.ref a]) s) : wpAny (model X.prog X.w) A (getMethod (.ref a) m pl) Q E s := by
  obtain ⟨mA, O, r, _, _, _⟩ := ins_get I.hok e
  have hn : mA m = none := RelO.none_of (by rw [← l]; exact r m)
  exact get_meth I.kIn O (c.get m) k.at_ k.fn hn h

theorem setattr_ok {y : V} {u : Value} {Q : Unit → Shared → Prop} (I : Inv X pins σ H s) (e : H a = some (.ins C dx fs)) (c : Cls X.K C) (n : NoAttr X.K C f) (hl : fs.length < 1000) (ry : RelV y u)
    (h : ∀ s', Inv X pins σ (upd H a (.ins C dx (putF f y fs))) s' → Q () s') : wpAny (model X.prog X.w) A (setAttr (.ref a) f u) Q E s := by
  obtain ⟨mA, O, r, wi, _, ho⟩ := ins_get I.hok e
  have hz : (fs.map (·.1)).length ≤ sizeLine := by rw [List.length_map, sizeLine_eq]; omega
  refine set_map I.kIn O c.sa c.po n.taker c.hd wi hz fun h' O' sb => h _ ?_
  have hd : ∃ o, h'.get? dx = some o := let ⟨o, _, _, e', _⟩ := O'.ns; ⟨o, e'⟩
  refine I.write (x := a) (e := dx) (by rw [e]; exact True.intro) (.inr ho) (fun b q hb z => (sb.2 b hb).trans z) hd ?_
  refine ⟨by rw [upd_ne O.ne]; exact ho, ?_, O.ne, O'.obj, _, O'.ns, fun g => ?_, fun g hg => ?_⟩
  · have := length_putF f y fs; omega
  · show RelO ((putF f y fs).lookup g) (if g = f then some u else mA g)
    rw [lookup_putF]
    by_cases q : g = f
    · rw [if_pos q, if_pos q]; exact ry
    · rw [if_neg q, if_neg q]; exact r g
  · by_cases q : g = f
    · rw [q]; exact (keys_putF f y fs).1
    · refine (keys_putF f y fs).2 g (wi g fun z => hg ?_)
      show (if g = f then some u else mA g) = none
      rw [if_neg q]; exact z

/-- a new instance, tracked, without attributes -/
theorem Inv.made (I : Inv X pins σ H s) : Inv X pins σ (upd (upd H s.heap.objs.size (.own (s.heap.objs.size + 1))) (s.heap.objs.size + 1) (.ins C s.heap.objs.size []))
    { s with heap := (s.heap.push PySem.W.emptyDict).push (PySem.W.instObj C s.heap.objs.size) } := by
  have e1 : (s.heap.push PySem.W.emptyDict).get? s.heap.objs.size = some PySem.W.emptyDict := Heap.get?_push_size s.heap rfl
  have e2 : ((s.heap.push PySem.W.emptyDict).push (PySem.W.instObj C s.heap.objs.size)).get? (s.heap.objs.size + 1) = some (PySem.W.instObj C s.heap.objs.size) := by
    have := Heap.get?_push_size (s.heap.push PySem.W.emptyDict) (o := PySem.W.instObj C s.heap.objs.size) rfl
    rwa [Heap.size_push] at this
  have e3 : (s.heap.push PySem.W.emptyDict).Ns s.heap.objs.size (fun _ => none) := ⟨PySem.W.emptyDict, #[], _, e1, rfl, (fun e he => absurd he (by simp)), fun _ => rfl⟩
  have I1 := I.laid (a := s.heap.objs.size) (o := .own (s.heap.objs.size + 1)) (h' := s.heap.push PySem.W.emptyDict) (t' := s.toks) (fun b u q => Heap.get?_push_of_some _ q) (Nat.le_refl _) ⟨_, e1⟩
  refine I1.laid (a := s.heap.objs.size + 1) (o := .ins C s.heap.objs.size []) (t' := s.toks) (fun b u q => Heap.get?_push_of_some _ q) (Nat.le_of_eq (Heap.size_push _ _)) ?_
  have ne : s.heap.objs.size ≠ s.heap.objs.size + 1 := Nat.ne_of_lt (Nat.lt_succ_self _)
  refine ⟨by rw [upd_ne ne, upd_same], Nat.zero_le _, ne, e2, fun _ => none, (Heap.Ns1.of_empty e3).at fun o q => Heap.get?_push_of_some _ q, fun _ => True.intro, fun y hy => absurd rfl hy⟩

/-- e.f where nothing but the object is asked: through attributeBase (super) and the last hold -/
theorem attr_of {prog : Program} {w : World} {env : Env} {e : Expr} {f : Str} {pos : Pos} {s : Shared} {Q : Value → Shared → Prop} (hb : attributeBase e f env (eval e env) = eval e env)
    (h : wpAny (model prog w) A (eval e env) (fun o s₁ => wpAny (model prog w) A (getAttr o f true) Q E s₁) E s) : wpAny (model prog w) A (eval (.Attribute e f pos) env) Q E s :=
  Attribute_any_ h (by rw [arm_eval_Attribute, hb])
end

/-! ### readings and rules -/
/-- e.f, an attribute of the instance -/
def tFld (K : PySem.W.Frag) (ta : TE) (f : Str) : TE := fun σ H Q => ta σ H fun x H1 => ∃ a C dx fs v, x = .ref a ∧ H1 a = some (.ins C dx fs) ∧ Cls K C ∧ NoAttr K C f ∧ fs.lookup f = some v ∧ Q v H1
/-- e.f, a constant of the class -/
def tCon (K : PySem.W.Frag) (ta : TE) (f : Str) : TE := fun σ H Q => ta σ H fun x H1 => ∃ a C dx fs v u, x = .ref a ∧ H1 a = some (.ins C dx fs) ∧ Cls K C ∧ Con K C f v u ∧ fs.lookup f = none ∧ Q v H1
/-- e.f = value -/
def sFld (K : PySem.W.Frag) (ta tv : TE) (f : Str) : TS := fun D σ H => tv σ H fun y H1 => ta σ H1 fun x H2 => ∃ a C dx fs, x = .ref a ∧ H2 a = some (.ins C dx fs) ∧ Cls K C ∧ NoAttr K C f ∧ fs.length < 1000 ∧
  D.nx σ (upd H2 a (.ins C dx (putF f y fs)))
/-- an augmented operator on two values -/
def InOp (X : Cx) (op : Operator) (rd : V → V → Hp → VK → Prop) : Prop :=
  ∀ (pins : List (Addr × Obj)) (s : Shared) (σ : St) (H : Hp) (x y : V) (u v : Value) (Q : VK), Inv X pins σ H s → RelV x u → RelV y v → rd x y H Q → wpAny (model X.prog X.w) X.A (inplaceOp op u v) (EP X pins σ Q) X.xe s
/-- e.f op= value -/
def sFldAug (K : PySem.W.Frag) (ta tv : TE) (rd : V → V → Hp → VK → Prop) (f : Str) : TS := fun D σ H => ta σ H fun x H1 => ∃ a C dx fs v, x = .ref a ∧ H1 a = some (.ins C dx fs) ∧ Cls K C ∧ NoAttr K C f ∧ fs.lookup f = some v ∧
  tv σ H1 fun y H2 => rd v y H2 fun z H3 => ∃ dx' fs', H3 a = some (.ins C dx' fs') ∧ fs'.length < 1000 ∧ D.nx σ (upd H3 a (.ins C dx' (putF f z fs')))

section
variable {X : Cx} {o e value : Expr} {f : Str} {pos pos' tpos : Pos} {ta tv : TE}
theorem pe_fld (he : PE X e ta) (hb : attributeBase e f X.env (eval e X.env) = eval e X.env) : PE X (.Attribute e f pos) (tFld X.K ta f) := by
  intro pins s σ H Q I h
  refine attr_of hb (thn (he pins s σ H _ I h) fun u s1 ⟨x, H1, I1, rx, a, C, dx, fs, v, ex, ea, c, n, l, q⟩ => ?_)
  subst ex
  obtain rfl : u = Value.ref a := rx
  exact getattr_ok I1 ea c n l fun u' s2 I2 ru => ⟨v, H1, I2, ru, q⟩
theorem pe_con (he : PE X e ta) (hb : attributeBase e f X.env (eval e X.env) = eval e X.env) : PE X (.Attribute e f pos) (tCon X.K ta f) := by
  intro pins s σ H Q I h
  refine attr_of hb (thn (he pins s σ H _ I h) fun u s1 ⟨x, H1, I1, rx, a, C, dx, fs, v, u0, ex, ea, c, k, l, q⟩ => ?_)
  subst ex
  obtain rfl : u = Value.ref a := rx
  exact getcon_ok I1 ea c k l fun s2 I2 => ⟨v, H1, I2, k.rel, q⟩
theorem ps_fld (ha : PE X o ta) (hv : PE X value tv) (hs : swapsWith value (some (.Attribute o f pos')) pos.line X.env = pure false) : PS X (.Assign [.Attribute o f pos'] value pos) (sFld X.K ta tv f) := by
  intro pins s σ H D I h
  refine plainObj_wpAny_Assign_Attribute (thn (hv pins s σ H _ I h) fun u s1 ⟨y, H1, I1, ry, q⟩ => thn (ha pins s1 σ H1 _ I1 q) fun ov s2 ⟨x, H2, I2, rx, a, C, dx, fs, ex, ea, c, n, l, q2⟩ => ?_) hs
  subst ex
  obtain rfl : ov = Value.ref a := rx
  exact setattr_ok I2 ea c n l ry fun s3 I3 => ⟨σ, _, I3, q2⟩
theorem ps_fldaug {op : Operator} {rd : V → V → Hp → VK → Prop} (ha : PE X o ta) (hv : PE X value tv) (hop : InOp X op rd) : PS X (.AugAssign (.Attribute o f tpos) op value pos) (sFldAug X.K ta tv rd f) := by
  intro pins s σ H D I h
  refine wpAny_AugAssign_AttributeAny (thn (ha pins s σ H _ I h) fun ov s1 ⟨x, H1, I1, rx, a, C, dx, fs, v, ex, ea, c, n, l, q⟩ => ?_)
  subst ex
  obtain rfl : ov = Value.ref a := rx
  refine getattr_ok I1 ea c n l fun u s2 I2 ru => thn (hv pins s2 σ H1 _ I2 q) fun w3 s3 ⟨y, H2, I3, ry, q3⟩ => thn (hop pins s3 σ H2 v y u w3 _ I3 ru ry q3) fun w4 s4 ⟨z, H3, I4, rz, dx', fs', ea', l', q4⟩ => ?_
  exact setattr_ok I4 ea' c n l' rz fun s5 I5 => ⟨σ, _, I5, q4⟩
def rAdd : V → V → Hp → VK → Prop := fun x y H Q => ∃ i j, x = .int i ∧ y = .int j ∧ Q (.int (i + j)) H
def rSub : V → V → Hp → VK → Prop := fun x y H Q => ∃ i j, x = .int i ∧ y = .int j ∧ Q (.int (i - j)) H
theorem in_add : InOp X .Add rAdd := by
  rintro pins s σ H x y u v Q I rx ry ⟨i, j, rfl, rfl, q⟩
  obtain ⟨t, rfl⟩ := (show ∃ t, u = Value.int i t from rx)
  obtain ⟨t', rfl⟩ := (show ∃ t', v = Value.int j t' from ry)
  exact PyProof.Rows.iadd_int ⟨.int (i + j), H, I.tok _, ⟨_, rfl⟩, q⟩
theorem in_sub : InOp X .Sub rSub := by
  rintro pins s σ H x y u v Q I rx ry ⟨i, j, rfl, rfl, q⟩
  obtain ⟨t, rfl⟩ := (show ∃ t, u = Value.int i t from rx)
  obtain ⟨t', rfl⟩ := (show ∃ t', v = Value.int j t' from ry)
  exact PyProof.Rows.isub_int ⟨.int (i - j), H, I.tok _, ⟨_, rfl⟩, q⟩

/-- what is between an instance and its method: the tree of a method call -/
theorem methcall_of {pl : Sem Bool} {m : Str} {apos : Pos} {args : List Expr} {pins : List (Addr × Obj)} {s : Shared} {σ : St} {H : Hp} {Q : Value → Shared → Prop} {te : TE} (he : PE X e te) (I : Inv X pins σ H s)
    (h : te σ H fun x H1 => ∃ a C dx fs g, x = .ref a ∧ H1 a = some (.ins C dx fs) ∧ Cls X.K C ∧ Meth X.K C m g ∧ fs.lookup m = none ∧
      ∀ s1, Inv X pins σ H1 s1 → wpAny (model X.prog X.w) X.A (callWith pos (.ref g) [.ref a] (backTo pos (starEach args X.env)) (backToKw pos (keywordEach [] X.env))) Q X.xe s1)
    (ht : eval (.Call (.Attribute e m apos) args [] pos) X.env = (do
      let ov ← eval e X.env
      standAt apos.atName
      let (f, first) ← holding [ov] (getMethod ov m pl)
      callWith pos f first (backTo pos (starEach args X.env)) (backToKw pos (keywordEach [] X.env)))) :
    wpAny (model X.prog X.w) X.A (eval (.Call (.Attribute e m apos) args [] pos) X.env) Q X.xe s := by
  refine PySem.W.methodCall_KW (pl := pl) (thn (he pins s σ H _ I h) fun u s1 ⟨x, H1, I1, rx, a, C, dx, fs, g, ex, ea, c, k, l, q⟩ => ?_) ht
  subst ex
  obtain rfl : u = Value.ref a := rx
  exact getmeth_ok I1 ea c k l (q s1 I1)
end

/-! ### isinstance -/
section
variable {X : Cx} {pins : List (Addr × Obj)} {σ : St} {H : Hp} {s : Shared} {A : Around} {E : Value → Shared → Prop} {Q : Value → Shared → Prop} {c : Value} {b : Bool}
/-- the type of a value, as the fragment's deciders take it; for an instance its class -/
inductive TyOf (K : PySem.W.Frag) (H : Hp) : V → Value → Prop where
  | non : TyOf K H .non (.type "NoneType")
  | bl (x : Bool) : TyOf K H (.bl x) (.type "bool")
  | int (i : Int) : TyOf K H (.int i) (.type "int")
  | str (x : Str) : TyOf K H (.str x) (.type "str")
  | flt (x : UInt64) : TyOf K H (.flt x) (.type "float")
  | lst {a : Addr} {xs : List V} (e : H a = some (.lst xs)) : TyOf K H (.ref a) (.type "list")
  | frz {a : Addr} {o : Obj} {xs : List V} (e : H a = some (.frz o (.lst xs))) : TyOf K H (.ref a) (.type "list")
  | tup {a : Addr} {xs : List V} (e : H a = some (.tup xs)) : TyOf K H (.ref a) (.type "tuple")
  | dK {a : Addr} {kvs : List (Key × V)} (e : H a = some (.dK kvs)) : TyOf K H (.ref a) (.type "dict")
  | dT {a : Addr} {kvs : List (List Key × V)} (e : H a = some (.dT kvs)) : TyOf K H (.ref a) (.type "dict")
  | ins {a C dx : Addr} {fs : List (Str × V)} (e : H a = some (.ins C dx fs)) (cl : Cls K C) (ha : PySem.W.findIn K (.ref C) "__class__" = some (some (.builtin "object.__class__")))
      (hn : PySem.W.specialIn K (.builtin "object.__class__") "__get__" = some (some (.builtin "getset_descriptor.__get__"))) (htk : PySem.W.takesIn K (.builtin "object.__class__") = some true)
      (hm : PySem.W.mroIn K C (.type "object") = some true) : TyOf K H (.ref a) (.ref C)
/-- isinstance(x, c) for one class c, a built-in or an own one: kitOne's answer -/
theorem isinst_ok {x : V} {u t : Value} (I : Inv X pins σ H s) (rx : RelV x u) (ty : TyOf X.K H x t) (e : PySem.W.kitOne X.K t c = some b) (h : ∀ tk, Q (.bool b) { s with toks := tk }) :
    wpAny (model X.prog X.w) A (call (.builtin "isinstance") [u, c]) Q E s := by
  cases ty with
  | non => cases (show u = Value.none from rx); exact PySem.W.kia_one PySem.W.kitx_none I.kIn True.intro e (fun z => nomatch z) h
  | bl y => cases (show u = Value.bool y from rx); exact PySem.W.kia_one PySem.W.kitx_bool I.kIn True.intro e (fun z => nomatch z) h
  | int i => obtain ⟨t, q⟩ := (show ∃ t, u = Value.int i t from rx); cases q; exact PySem.W.kia_one PySem.W.kitx_int I.kIn True.intro e (fun z => nomatch z) h
  | str y => obtain ⟨t, q⟩ := (show ∃ t, u = Value.str y t from rx); cases q; exact PySem.W.kia_one PySem.W.kitx_str I.kIn True.intro e (fun z => nomatch z) h
  | flt y => obtain ⟨t, q⟩ := (show ∃ t, u = Value.float y t from rx); cases q; exact PySem.W.kia_one PySem.W.kitx_float I.kIn True.intro e (fun z => nomatch z) h
  | @lst a xs ea =>
    cases (show u = Value.ref a from rx)
    obtain ⟨_, _, n, _, h1⟩ := (show ObjOk X.prog X.w H s.heap a (.lst xs) from I.hok a _ ea)
    exact PySem.W.kia_one PySem.W.kitx_list I.kIn ⟨_, h1, rfl⟩ e (fun z => nomatch z) h
  | @frz a ob xs ea =>
    cases (show u = Value.ref a from rx)
    obtain ⟨_, _, _, n, _, h1⟩ := (show ObjOk X.prog X.w H s.heap a (.frz ob (.lst xs)) from I.hok a _ ea)
    exact PySem.W.kia_one PySem.W.kitx_list I.kIn ⟨_, h1, rfl⟩ e (fun z => nomatch z) h
  | @tup a xs ea =>
    cases (show u = Value.ref a from rx)
    obtain ⟨_, _, _, p⟩ := (show ObjOk X.prog X.w H s.heap a (.tup xs) from I.hok a _ ea)
    obtain ⟨o, h1, h2, _⟩ := p
    exact PySem.W.kia_one PySem.W.kitx_tuple I.kIn ⟨o, h1, h2⟩ e (fun z => nomatch z) h
  | @dK a kvs ea =>
    cases (show u = Value.ref a from rx)
    obtain ⟨_, _, vs, _, p⟩ := (show ObjOk X.prog X.w H s.heap a (.dK kvs) from I.hok a _ ea)
    obtain ⟨o, es, ep, h1, h2, _⟩ := p
    exact PySem.W.kia_one PySem.W.kitx_dict I.kIn ⟨o, h1, h2.1⟩ e (fun z => nomatch z) h
  | @dT a kvs ea =>
    cases (show u = Value.ref a from rx)
    obtain ⟨_, _, xs, _, o, es, ep, h1, h2, _⟩ := (show ObjOk X.prog X.w H s.heap a (.dT kvs) from I.hok a _ ea)
    exact PySem.W.kia_one PySem.W.kitx_dict I.kIn ⟨o, h1, h2.1⟩ e (fun z => nomatch z) h
  | @ins a C dx fs ea cl ha hn htk hm =>
    cases (show u = Value.ref a from rx)
    obtain ⟨mA, O, _⟩ := ins_get I.hok ea
    obtain ⟨od, J, _⟩ := O.look
    exact PySem.W.kia_one (PySem.W.kitx_own (cl.get _) cl.hd ha hn htk hm) I.kIn J e (fun z => nomatch z) h
end
end L2

namespace L2
open PySem PySem.Spec PyProof.Rows

/-! ### room -/
structure Room (k : Nat) (A : Around) : Prop where
  hd : A.handled = none
  dp : A.depth + 3 * k + 5 < recursionLimit
  un : A.units + 16 * k + 200 < cLine
theorem Room.mono {j k : Nat} {A : Around} (r : Room k A) (h : j ≤ k) : Room j A := ⟨r.hd, by have := r.dp; omega, by have := r.un; omega⟩
theorem Room.deeper {k : Nat} {A : Around} (r : Room (k + 1) A) (env : Env) : Room k (A.deeper env) :=
  ⟨r.hd, by have := r.dp; show A.depth + 1 + 3 * k + 5 < _; omega, by have := r.un; show A.units + 3 + 16 * k + 200 < _; omega⟩
theorem Room.in1 {k : Nat} {A : Around} (r : Room (k + 1) A) : Room k A.in1 :=
  ⟨r.hd, by have := r.dp; show A.depth + 3 * k + 5 < _; omega, by have := r.un; show A.units + 1 + 16 * k + 200 < _; omega⟩
theorem make_depth {A : Around} {C : Addr} {us : List Value} {kw : List (Str × Value)} : (A.under (.builtin "type.__call__" ⟨.ref C :: us, kw⟩)).depth = A.depth + 1 := by
  first | rfl | simp [Around.under, Code.weight, Code.isCreation, Code.isGuard, Code.isCaller, Code.frames, Code.isFrame, guardIds]
theorem make_units {A : Around} {C : Addr} {us : List Value} {kw : List (Str × Value)} : (A.under (.builtin "type.__call__" ⟨.ref C :: us, kw⟩)).units = A.units + 1 := by
  first | rfl | simp [Around.under, Code.cUnits, Code.frames, Code.isFrame]
theorem Room.make {k : Nat} {A : Around} (r : Room (k + 1) A) (C : Addr) (us : List Value) (kw : List (Str × Value)) : Room k (A.under (.builtin "type.__call__" ⟨.ref C :: us, kw⟩)) :=
  ⟨r.hd, by have := r.dp; rw [make_depth]; omega, by have := r.un; rw [make_units]; omega⟩
theorem Room.depth {k : Nat} {A : Around} (r : Room k A) : A.depth < recursionLimit := by have := r.dp; omega
theorem Room.units {k : Nat} {A : Around} (r : Room k A) : A.units + 64 < cLine := by have := r.un; omega
theorem Room.units0 {k : Nat} {A : Around} (r : Room k A) : A.units < cLine := by have := r.un; omega

/-! ### argument lists and displays -/
def tNil : TA := fun _ H Q => Q [] H
def tCons (ta : TE) (tr : TA) : TA := fun σ H Q => ta σ H fun x H1 => tr σ H1 fun xs H2 => Q (x :: xs) H2
section
variable {X : Cx} {e : Expr} {es : List Expr} {te : TE} {t : TA} {pos : Pos}
theorem pa_nil : PA X [] tNil := fun _ _ _ _ H Q I h => Calls.spliced_nil ⟨[], H, I, .nil, h⟩
theorem pa_cons (ha : PE X e te) (hr : PA X es t) (hs : starEach (e :: es) X.env = (false, eval e X.env) :: starEach es X.env := by rfl) : PA X (e :: es) (tCons te t) := by
  intro pos pins s σ H Q I h
  rw [hs]
  show wpAny _ _ (spliced ((false, eval e X.env) :: backTo pos (starEach es X.env))) _ _ s
  refine Calls.spliced_cons (thn (ha pins s σ H _ I h) fun u s1 ⟨x, H1, I1, r1, q1⟩ => ?_)
  exact thn (hr pos pins s1 σ H1 _ I1 q1) fun us s2 ⟨xs, H2, I2, r2, q2⟩ => ⟨x :: xs, H2, I2, .cons r1 r2, q2⟩

/-- a tuple, a list of written items -/
def tTup (t : TA) : TE := fun σ H Q => t σ H fun xs H1 => xs.length ≤ sizeLine ∧ ∀ p, H1 p = none → Q (.ref p) (upd H1 p (.tup xs))
def tLst (t : TA) : TE := fun σ H Q => t σ H fun xs H1 => xs.length ≤ sizeLine ∧ ∀ p, H1 p = none → Q (.ref p) (upd H1 p (.lst xs))
theorem pe_tup {x1} (h : PA X es t) : PE X (.Tuple es x1 pos) (tTup t) := by
  intro pins s σ H Q I hq
  refine wpAny_Tuple_spliced (thn (h pos pins s σ H _ I hq) fun us s1 ⟨xs, H1, I1, r, z, q⟩ => ⟨by rw [← r.length]; exact z, ?_⟩)
  have hf : H1 s1.heap.objs.size = none := I1.hok.fresh (Nat.le_refl _)
  refine ⟨.ref s1.heap.objs.size, upd H1 s1.heap.objs.size (.tup xs), I1.laid (t' := s1.toks) (fun b u e => Heap.get?_push_of_some _ e) (Nat.le_refl _) ?_, rfl, q _ hf⟩
  exact ⟨z, us, r, ⟨_, Heap.get?_push_size _ rfl, rfl, _, rfl⟩⟩
theorem pe_lst (h : PA X es t) : PE X (.List es pos) (tLst t) := by
  intro pins s σ H Q I hq
  refine wpAny_List_spliced (thn (h pos pins s σ H _ I hq) fun us s1 ⟨xs, H1, I1, r, z, q⟩ => ⟨by rw [← r.length]; exact z, ?_⟩)
  have hf : H1 s1.heap.objs.size = none := I1.hok.fresh (Nat.le_refl _)
  refine ⟨.ref s1.heap.objs.size, upd H1 s1.heap.objs.size (.lst xs), I1.laid (t' := s1.toks) (fun b u e => Heap.get?_push_of_some _ e) (Nat.le_refl _) ?_, rfl, q _ hf⟩
  exact ⟨z, us, 0, r, Heap.get?_push_size _ rfl⟩
end

/-! ### what a def promises -/
/-- a def's promise: the bound arguments in the parameters' order, the heap, the wanted end, the wanted exception -/
abbrev Sp := List V → Hp → VK → XK → Prop
/-- how an exception lies behind a call (file 08 gives it): the callers' frames, abstract heap and state ahead of the call, the wish, the exception, the state -/
abbrev CXT := List Env → Hp → Shared → XK → Value → Shared → Prop

/-- the state at a call -/
structure Env0 (P : Program) (w : World) (K : PySem.W.Frag) (mg : Str → Option Value) (base : Heap) (A : Around) (outer : List Env) (s : Shared) (H : Hp) : Prop where
  frames : A.frames = some outer
  mod : Mod K mg base
  bs : ∀ b o, base.get? b = some o → s.heap.get? b = some o ∧ H b = none
  bsz : base.objs.size ≤ s.heap.objs.size
  funs : s.heap.FunFrames base outer
  frf : ∀ b ∈ frs outer, H b = none
  hok : HOk P w H s.heap
  bare : AllBare s.gens
/-- a call's end -/
def CE (outer : List Env) (P : Program) (w : World) (H : Hp) (s : Shared) (Q : VK) (u : Value) (s' : Shared) : Prop :=
  ∃ v H', s'.os = s.os ∧ AllBare s'.gens ∧ Un (frs outer) [] H H' s.heap s'.heap ∧ HOk P w H' s'.heap ∧ RelV v u ∧ Q v H'
def CR (CX : CXT) (outer : List Env) (P : Program) (w : World) (H : Hp) (s : Shared) (Q : VK) (E : XK) (r : Result) (s' : Shared) : Prop :=
  match r with
  | .ok (.ret u) => CE outer P w H s Q u s'
  | .ok _ => False
  | .error e => CX outer H s E e s'
structure FnOk (P : Program) (w : World) (K : PySem.W.Frag) (mg : Str → Option Value) (base : Heap) (CX : CXT) (k : Nat) (f : Addr) (fd : FuncData) (ps : List Str) (sp : Sp) : Prop where
  len : ∀ vs H Q E, sp vs H Q E → vs.length = ps.length
  run : ∀ (A : Around) (outer : List Env) (s : Shared) (H : Hp) (args : Args) (us : List Value) (vs : List V) (Q : VK) (E : XK), Room k A → Env0 P w K mg base A outer s H → BindsTo s fd args (ps.zip us) → Vals vs us → sp vs H Q E →
    codeAny (model P w) A (.call (.ref f) args) (CR CX outer P w H s Q E) s
theorem FnOk.mono {P : Program} {w : World} {K : PySem.W.Frag} {mg : Str → Option Value} {base : Heap} {CX : CXT} {j k : Nat} {f : Addr} {fd : FuncData} {ps : List Str} {sp : Sp} (F : FnOk P w K mg base CX j f fd ps sp) (h : j ≤ k) :
    FnOk P w K mg base CX k f fd ps sp := ⟨F.len, fun A outer s H args us vs Q E hr => F.run A outer s H args us vs Q E (hr.mono h)⟩
/-- a weaker promise -/
theorem FnOk.imp {P : Program} {w : World} {K : PySem.W.Frag} {mg : Str → Option Value} {base : Heap} {CX : CXT} {k : Nat} {f : Addr} {fd : FuncData} {ps : List Str} {sp sp' : Sp} (F : FnOk P w K mg base CX k f fd ps sp)
    (h : ∀ vs H Q E, sp' vs H Q E → sp vs H Q E) : FnOk P w K mg base CX k f fd ps sp' :=
  ⟨fun vs H Q E q => F.len vs H Q E (h _ _ _ _ q), fun A outer s H args us vs Q E hr he hb hv hs => F.run A outer s H args us vs Q E hr he hb hv (h _ _ _ _ hs)⟩

theorem Env0.make {P : Program} {w : World} {K : PySem.W.Frag} {mg : Str → Option Value} {base : Heap} {A : Around} {outer : List Env} {s : Shared} {H : Hp} (e : Env0 P w K mg base A outer s H) (C : Addr) (us : List Value) (kw : List (Str × Value)) :
    Env0 P w K mg base (A.under (.builtin "type.__call__" ⟨.ref C :: us, kw⟩)) outer s H := ⟨by first | exact e.frames | (simpa [Around.under, Code.envs, Code.isFrame, pushEnvs] using e.frames), e.mod, e.bs, e.bsz, e.funs, e.frf, e.hok, e.bare⟩
theorem Env0.in1 {P : Program} {w : World} {K : PySem.W.Frag} {mg : Str → Option Value} {base : Heap} {A : Around} {outer : List Env} {s : Shared} {H : Hp} (e : Env0 P w K mg base A outer s H) :
    Env0 P w K mg base A.in1 outer s H := ⟨e.frames, e.mod, e.bs, e.bsz, e.funs, e.frf, e.hok, e.bare⟩

section
variable {X : Cx} {pins : List (Addr × Obj)} {σ : St} {H : Hp} {s s' : Shared}
/-- from a body: what a callee wants -/
theorem Inv.env0 (I : Inv X pins σ H s) : Env0 X.prog X.w X.K X.mg X.base X.A X.stack s H :=
  ⟨I.ok.frames, I.ok.mod, I.bs, Nat.le_trans I.ok.bsz I.sz, I.stack, I.stkFree, I.hok, I.bare⟩
/-- behind a call -/
theorem Inv.after {Q : VK} {u : Value} (I : Inv X pins σ H s) (h : CE X.stack X.prog X.w H s Q u s') : EP X pins σ Q u s' := by
  obtain ⟨v, H', os, bare, un, hok, r, q⟩ := h
  obtain ⟨hh, g, d, t, os'⟩ := s'
  obtain rfl : os' = s.os := os
  exact ⟨v, H', I.call (h' := hh) (g' := g) (d' := d) (t' := t) (ch := []) un hok bare (fun b z => absurd z (by simp)), r, q⟩
end

/-! ### calls -/
/-- f(..): the written arguments, then the defaults dvs; E: what is wanted of an exception -/
def tCall (sp : Sp) (dvs : List V) (E : XK) (t : TA) : TE := fun σ H Q => t σ H fun vs H1 => sp (vs ++ dvs) H1 Q E
/-- o.m(..) of an instance of the class at C -/
def tMeth (C : Addr) (m : Str) (sp : Sp) (dvs : List V) (E : XK) (ta : TE) (t : TA) : TE := fun σ H Q => ta σ H fun x H1 => ∃ a dx fs, x = .ref a ∧ H1 a = some (.ins C dx fs) ∧ fs.lookup m = none ∧
  t σ H1 fun vs H2 => sp (x :: (vs ++ dvs)) H2 Q E
/-- C(..): a new instance and its dict, then __init__ -/
def tMake (C : Addr) (sp : Sp) (dvs : List V) (E : XK) (t : TA) : TE := fun σ H Q => t σ H fun vs H1 => ∀ x dx, H1 x = none → H1 dx = none → dx ≠ x →
  sp (.ref x :: (vs ++ dvs)) (upd (upd H1 dx (.own x)) x (.ins C dx [])) (fun v H2 => v = .non ∧ Q (.ref x) H2) E

/-- how the parameters are bound: us the positional arguments, kw the keywords' values by name, ds the defaults that fill up -/
def Binds (K : PySem.W.Frag) (fd : FuncData) (ps : List Str) (ds : List Value) : Prop :=
  ∀ (s : Shared) (us : List Value), K.In s.heap → (us ++ ds).length = ps.length → BindsTo s fd ⟨us, []⟩ (ps.zip (us ++ ds))
/-- every parameter is given -/
theorem Binds.all {K : PySem.W.Frag} {fd : FuncData} {ps : List Str} (h : ∀ us : List Value, us.length = ps.length → bindArgs fd ⟨us, []⟩ = pure (ps.zip us)) : Binds K fd ps [] := fun s us _ hl => by
  rw [List.append_nil] at hl ⊢
  exact .of_eq (h us hl)

/-- an exception of a callee reaches what this body wants of exceptions -/
def Passes (CX : CXT) (X : Cx) (E : XK) : Prop := ∀ (pins : List (Addr × Obj)) (σ : St) (H : Hp) (s : Shared) (e : Value) (s' : Shared), Inv X pins σ H s → CX X.stack H s E e s' → X.xe e s'

section
variable {X : Cx} {CX : CXT} {k : Nat} {f C : Addr} {fd : FuncData} {ps : List Str} {sp : Sp} {dvs : List V} {ds : List Value} {E : XK} {x m : Str} {p pos apos : Pos} {e o : Expr} {es : List Expr} {ta : TE} {t : TA}

/-- the callee runs -/
theorem run_fn {pins : List (Addr × Obj)} {σ : St} {H : Hp} {s : Shared} {Q : VK} {us : List Value} {vs : List V} (F : FnOk X.prog X.w X.K X.mg X.base CX k f fd ps sp) (hr : Room k X.A) (hb : Binds X.K fd ps ds) (hd : Vals dvs ds) (hx : Passes CX X E)
    (I : Inv X pins σ H s) (r : Vals vs us) (h : sp (vs ++ dvs) H Q E) : wpAny (model X.prog X.w) X.A (call (.ref f) us) (EP X pins σ Q) X.xe s := by
  have r2 : Vals (vs ++ dvs) (us ++ ds) := r.append hd
  have hl : (us ++ ds).length = ps.length := by rw [← r2.length]; exact F.len _ _ _ _ h
  refine wpAny_call (codeAny_mono (F.run X.A X.stack s H ⟨us, []⟩ (us ++ ds) (vs ++ dvs) Q E hr I.env0 (hb s us I.kIn hl) r2 h) fun r s' hq => ?_)
  cases r with
  | error e => exact hx pins σ H s e s' I hq
  | ok fl =>
    cases fl with
    | ret u => exact I.after hq
    | next => exact False.elim hq
    | brk => exact False.elim hq
    | cont => exact False.elim hq

theorem pe_call (F : FnOk X.prog X.w X.K X.mg X.base CX k f fd ps sp) (hr : Room k X.A) (hg : Gl X x) (hm : X.mg x = some (.ref f)) (hk : PySem.W.keepIn X.K (.ref f) = true) (hb : Binds X.K fd ps ds) (hd : Vals dvs ds) (hx : Passes CX X E)
    (ha : PA X (e :: es) t) (hdb : (x == ("__debug__" : Str)) = false := by decide) (he : starEach (e :: es) X.env = (false, eval e X.env) :: starEach es X.env := by rfl) (hpl : (backTo pos (starEach es X.env)).any (·.1) = false := by rfl) :
    PE X (.Call (.Name x p) (e :: es) [] pos) (tCall sp dvs E t) := by
  intro pins s σ H Q I h
  refine wpAny_Call_Name_kw (ld_glob I hg hm ?_ hdb)
  refine PySem.W.callWith_K (h₀ := X.base) I.ok.mod.kin hk (thn (ha pos pins s σ H _ I h) fun us s1 ⟨vs, H1, I1, r, q⟩ => ⟨I1.kIn, ?_⟩) he hpl
  exact run_fn F hr hb hd hx I1 r q
theorem pe_call0 (F : FnOk X.prog X.w X.K X.mg X.base CX k f fd ps sp) (hr : Room k X.A) (hg : Gl X x) (hm : X.mg x = some (.ref f)) (hk : PySem.W.keepIn X.K (.ref f) = true) (hb : Binds X.K fd ps ds) (hd : Vals dvs ds) (hx : Passes CX X E)
    (hdb : (x == ("__debug__" : Str)) = false := by decide) : PE X (.Call (.Name x p) [] [] pos) (tCall sp dvs E tNil) := by
  intro pins s σ H Q I h
  refine wpAny_Call_Name_kw (ld_glob I hg hm ?_ hdb)
  exact PySem.W.callWith_K0 I.kIn hk (run_fn (us := []) F hr hb hd hx I .nil h)

/-- o.m(e, ..) -/
theorem pe_meth {pl : Sem Bool} (he : PE X o ta) (c : Cls X.K C) (hm : Meth X.K C m f) (F : FnOk X.prog X.w X.K X.mg X.base CX k f fd ps sp) (hr : Room k X.A) (hb : Binds X.K fd ps ds) (hd : Vals dvs ds) (hx : Passes CX X E) (ha : PA X (e :: es) t)
    (hst : starEach (e :: es) X.env = (false, eval e X.env) :: starEach es X.env := by rfl) (hpl : (backTo pos (starEach es X.env)).any (·.1) = false := by rfl)
    (ht : eval (.Call (.Attribute o m apos) (e :: es) [] pos) X.env = (do
      let ov ← eval o X.env
      standAt apos.atName
      let (f, first) ← holding [ov] (getMethod ov m pl)
      callWith pos f first (backTo pos (starEach (e :: es) X.env)) (backToKw pos (keywordEach [] X.env))) := by rfl) :
    PE X (.Call (.Attribute o m apos) (e :: es) [] pos) (tMeth C m sp dvs E ta t) := by
  intro pins s σ H Q I h
  refine PySem.W.methodCall_KW (pl := pl) (thn (he pins s σ H _ I h) fun u s1 ⟨x, H1, I1, rx, a, dx, fs, ex, ea, l, q⟩ => ?_) ht
  subst ex
  obtain rfl : u = Value.ref a := rx
  refine getmeth_ok I1 ea c hm l ?_
  refine PySem.W.callWith_K (first := [.ref a]) (h₀ := X.base) I.ok.mod.kin hm.kp (thn (ha pos pins s1 σ H1 _ I1 q) fun us s2 ⟨vs, H2, I2, r, q2⟩ => ⟨I2.kIn, ?_⟩) hst hpl
  exact run_fn (us := .ref a :: us) (vs := .ref a :: vs) F hr hb hd hx I2 (.cons rfl r) q2
/-- o.m() -/
theorem pe_meth0 {pl : Sem Bool} (he : PE X o ta) (c : Cls X.K C) (hm : Meth X.K C m f) (F : FnOk X.prog X.w X.K X.mg X.base CX k f fd ps sp) (hr : Room k X.A) (hb : Binds X.K fd ps ds) (hd : Vals dvs ds) (hx : Passes CX X E)
    (ht : eval (.Call (.Attribute o m apos) [] [] pos) X.env = (do
      let ov ← eval o X.env
      standAt apos.atName
      let (f, first) ← holding [ov] (getMethod ov m pl)
      callWith pos f first (backTo pos (starEach [] X.env)) (backToKw pos (keywordEach [] X.env))) := by rfl) :
    PE X (.Call (.Attribute o m apos) [] [] pos) (tMeth C m sp dvs E ta tNil) := by
  intro pins s σ H Q I h
  refine PySem.W.methodCall_KW (pl := pl) (thn (he pins s σ H _ I h) fun u s1 ⟨x, H1, I1, rx, a, dx, fs, ex, ea, l, q⟩ => ?_) ht
  subst ex
  obtain rfl : u = Value.ref a := rx
  refine getmeth_ok I1 ea c hm l ?_
  exact PySem.W.callWith_K0 (first := [.ref a]) I1.kIn hm.kp (run_fn (us := [.ref a]) (vs := [.ref a]) F hr hb hd hx I1 (.cons rfl .nil) q)

/-- what a class must have to be made -/
structure Mk (K : PySem.W.Frag) (C f : Addr) : Prop where
  makes : PySem.W.makesIn K C = true
  init : PySem.W.findIn K (.ref C) "__init__" = some (some (.ref f))
  fn : PySem.W.isFn K (.ref f) = true
  kp : PySem.W.keepIn K (.ref C) = true

theorem run_make {pins : List (Addr × Obj)} {σ : St} {H : Hp} {s : Shared} {Q : VK} {us : List Value} {vs : List V} (M : Mk X.K C f) (F : FnOk X.prog X.w X.K X.mg X.base CX k f fd ps sp) (hr : Room (k + 1) X.A) (hb : Binds X.K fd ps ds) (hd : Vals dvs ds)
    (hx : Passes CX X E) (I : Inv X pins σ H s) (r : Vals vs us)
    (h : ∀ x dx, H x = none → H dx = none → dx ≠ x → sp (.ref x :: (vs ++ dvs)) (upd (upd H dx (.own x)) x (.ins C dx [])) (fun v H2 => v = .non ∧ Q (.ref x) H2) E) :
    wpAny (model X.prog X.w) X.A (call (.ref C) us) (EP X pins σ Q) X.xe s := by
  have hq := h (s.heap.objs.size + 1) s.heap.objs.size (I.hok.fresh (Nat.le_succ _)) (I.hok.fresh (Nat.le_refl _)) (Nat.ne_of_lt (Nat.lt_succ_self _))
  have I2 := Inv.made (C := C) I
  have r2 : Vals (V.ref (s.heap.objs.size + 1) :: (vs ++ dvs)) (Value.ref (s.heap.objs.size + 1) :: (us ++ ds)) := .cons rfl (r.append hd)
  have hl : (Value.ref (s.heap.objs.size + 1) :: us ++ ds).length = ps.length := by
    have e := r2.length
    rw [F.len _ _ _ _ hq] at e
    exact e.symm
  refine wpAny_call (make_map (f := f) I.kIn M.makes M.init (beq_iff_eq.mp M.fn) (codeAny_mono (F.run _ X.stack _ _ ⟨Value.ref (s.heap.objs.size + 1) :: us, []⟩ (Value.ref (s.heap.objs.size + 1) :: (us ++ ds)) _ _ E (hr.make C us [])
    (I2.env0.make C us []) (hb _ (Value.ref (s.heap.objs.size + 1) :: us) I2.kIn hl) r2 hq) fun r s' hq' => ?_))
  cases r with
  | error e => exact hx pins σ _ _ e s' I2 hq'
  | ok fl =>
    cases fl with
    | ret u =>
      obtain ⟨v, H', I3, rv, ev, q3⟩ := I2.after hq'
      subst ev
      exact ⟨rv, ⟨V.ref (s.heap.objs.size + 1), H', I3, rfl, q3⟩⟩
    | next => exact False.elim hq'
    | brk => exact False.elim hq'
    | cont => exact False.elim hq'
theorem pe_make (M : Mk X.K C f) (F : FnOk X.prog X.w X.K X.mg X.base CX k f fd ps sp) (hr : Room (k + 1) X.A) (hg : Gl X x) (hm : X.mg x = some (.ref C)) (hb : Binds X.K fd ps ds) (hd : Vals dvs ds) (hx : Passes CX X E)
    (ha : PA X (e :: es) t) (hdb : (x == ("__debug__" : Str)) = false := by decide) (he : starEach (e :: es) X.env = (false, eval e X.env) :: starEach es X.env := by rfl) (hpl : (backTo pos (starEach es X.env)).any (·.1) = false := by rfl) :
    PE X (.Call (.Name x p) (e :: es) [] pos) (tMake C sp dvs E t) := by
  intro pins s σ H Q I h
  refine wpAny_Call_Name_kw (ld_glob I hg hm ?_ hdb)
  refine PySem.W.callWith_K (h₀ := X.base) I.ok.mod.kin M.kp (thn (ha pos pins s σ H _ I h) fun us s1 ⟨vs, H1, I1, r, q⟩ => ⟨I1.kIn, ?_⟩) he hpl
  exact run_make M F hr hb hd hx I1 r q
theorem pe_make0 (M : Mk X.K C f) (F : FnOk X.prog X.w X.K X.mg X.base CX k f fd ps sp) (hr : Room (k + 1) X.A) (hg : Gl X x) (hm : X.mg x = some (.ref C)) (hb : Binds X.K fd ps ds) (hd : Vals dvs ds) (hx : Passes CX X E)
    (hdb : (x == ("__debug__" : Str)) = false := by decide) : PE X (.Call (.Name x p) [] [] pos) (tMake C sp dvs E tNil) := by
  intro pins s σ H Q I h
  refine wpAny_Call_Name_kw (ld_glob I hg hm ?_ hdb)
  exact PySem.W.callWith_K0 I.kIn M.kp (run_make (us := []) M F hr hb hd hx I .nil h)
end

/-! ### keywords -/
/-- the values of the keywords, from the left -/
def PK (X : Cx) (kws : List Keyword) (t : TA) : Prop :=
  ∀ (pos : Pos) (pins : List (Addr × Obj)) (s : Shared) (σ : St) (H : Hp) (Q : List V → Hp → Prop), Inv X pins σ H s → t σ H Q → wpAny (model X.prog X.w) X.A (evalAll ((backToKw pos (keywordEach kws X.env)).map (·.2))) (AP X pins σ Q) X.xe s
section
variable {X : Cx} {CX : CXT} {k : Nat} {f C : Addr} {fd : FuncData} {ps ks : List Str} {sp : Sp} {E : XK} {x m : Str} {p pos apos kpos : Pos} {e o : Expr} {es : List Expr} {kws : List Keyword} {te ta : TE} {t tk : TA} {nm : Option Str}
theorem pk_nil : PK X [] tNil := fun _ _ _ _ H Q I h => wpAny_evalAll_nil ⟨[], H, I, .nil, h⟩
theorem pk_cons (ha : PE X e te) (hr : PK X kws t) : PK X (⟨nm, e, kpos⟩ :: kws) (tCons te t) := by
  intro pos pins s σ H Q I h
  show wpAny _ _ (evalAll ((do let v ← eval e X.env; standAt pos; pure v) :: (backToKw pos (keywordEach kws X.env)).map (·.2))) _ _ s
  refine wpAny_evalAll_cons (wpAny_bind (thn (ha pins s σ H _ I h) fun u s1 ⟨x, H1, I1, r1, q1⟩ => wpAny_bind (wpAny_standAt (wpAny_pure ?_))))
  exact thn (hr pos pins s1 σ H1 _ I1 q1) fun us s2 ⟨xs, H2, I2, r2, q2⟩ => ⟨x :: xs, H2, I2, .cons r1 r2, q2⟩

/-- how a call with keywords binds: g puts the positional values us and the keywords' values ws (names ks) in the parameters' order, defaults among them -/
structure KBinds (K : PySem.W.Frag) (fd : FuncData) (ps ks : List Str) (g : List Value → List Value → List Value) (gV : List V → List V → List V) : Prop where
  to : ∀ (s : Shared) (us ws : List Value), K.In s.heap → (g us ws).length = ps.length → BindsTo s fd ⟨us, ks.zip ws⟩ (ps.zip (g us ws))
  rel : ∀ {vs : List V} {us : List Value} {zs : List V} {ws : List Value}, Vals vs us → Vals zs ws → Vals (gV vs zs) (g us ws)
def tCallK (sp : Sp) (gV : List V → List V → List V) (E : XK) (t tk : TA) : TE := fun σ H Q => t σ H fun vs H1 => tk σ H1 fun zs H2 => sp (gV vs zs) H2 Q E
variable {g : List Value → List Value → List Value} {gV : List V → List V → List V}
theorem run_fnk {pins : List (Addr × Obj)} {σ : St} {H : Hp} {s : Shared} {Q : VK} {us ws : List Value} {vs zs : List V} (F : FnOk X.prog X.w X.K X.mg X.base CX k f fd ps sp) (hr : Room k X.A) (hb : KBinds X.K fd ps ks g gV) (hx : Passes CX X E)
    (I : Inv X pins σ H s) (r : Vals vs us) (rz : Vals zs ws) (h : sp (gV vs zs) H Q E) : wpAny (model X.prog X.w) X.A (call (.ref f) us (ks.zip ws)) (EP X pins σ Q) X.xe s := by
  have r2 := hb.rel r rz
  have hl : (g us ws).length = ps.length := by rw [← r2.length]; exact F.len _ _ _ _ h
  refine wpAny_call (codeAny_mono (F.run X.A X.stack s H ⟨us, ks.zip ws⟩ (g us ws) (gV vs zs) Q E hr I.env0 (hb.to s us ws I.kIn hl) r2 h) fun r s' hq => ?_)
  cases r with
  | error e => exact hx pins σ H s e s' I hq
  | ok fl =>
    cases fl with
    | ret u => exact I.after hq
    | next => exact False.elim hq
    | brk => exact False.elim hq
    | cont => exact False.elim hq
/-- f(e, .., k = v, ..) -/
theorem pe_callK (F : FnOk X.prog X.w X.K X.mg X.base CX k f fd ps sp) (hr : Room k X.A) (hg : Gl X x) (hm : X.mg x = some (.ref f)) (hk : PySem.W.keepIn X.K (.ref f) = true) (hb : KBinds X.K fd ps ks g gV) (hx : Passes CX X E)
    (ha : PA X (e :: es) t) (hkw : PK X kws tk) (hall : (backToKw pos (keywordEach kws X.env)).all (·.1.isSome) = true := by rfl) (hks : (backToKw pos (keywordEach kws X.env)).filterMap (·.1) = ks := by rfl)
    (hdb : (x == ("__debug__" : Str)) = false := by decide) (he : starEach (e :: es) X.env = (false, eval e X.env) :: starEach es X.env := by rfl)
    (hpl : ((backTo pos (starEach (e :: es) X.env)).any (·.1) || (backToKw pos (keywordEach kws X.env)).any (·.1.isNone)) = false := by rfl) :
    PE X (.Call (.Name x p) (e :: es) kws pos) (tCallK sp gV E t tk) := by
  intro pins s σ H Q I h
  refine wpAny_Call_Name_kw (ld_glob I hg hm ?_ hdb)
  refine PySem.W.callWith_KW (h₀ := X.base) I.ok.mod.kin hk hall (thn (ha pos pins s σ H _ I h) fun us s1 ⟨vs, H1, I1, r, q⟩ => ?_) hpl he
  refine thn (hkw pos pins s1 σ H1 _ I1 q) fun ws s2 ⟨zs, H2, I2, rz, q2⟩ => ⟨I2.kIn, ?_⟩
  rw [hks]
  exact run_fnk F hr hb hx I2 r rz q2
end

/-! ### a def's body keeps its promise -/
/-- names: the parameters first -/
structure FnScope (N P : List Str) (sc : Scope) : Prop where
  kind : sc.kind = .function
  co : sc.isCoroutine = false
  gen : sc.isGenerator = false
  nd : N.Nodup
  pre : N.take P.length = P
  par : ∀ x ∈ P, sc.names.lookup x = some .local ∨ sc.names.lookup x = some .cell
  nofree : ∀ y ∈ sc.names, y.2 ≠ .free

theorem bindL_out {kindOf : Str → Option NameKind} {x : Str} : ∀ {binds : List (Str × Value)} {m : Str → Option Value}, (∀ v, (x, v) ∉ binds) → bindL kindOf binds m x = m x
  | [], _, _ => rfl
  | (n, v) :: r, m, h => by
    unfold bindL
    rw [bindL_out fun w hw => h w (List.mem_cons_of_mem _ hw)]
    split
    · have : x ≠ n := by rintro rfl; exact h v List.mem_cons_self
      simp [this]
    · rfl
theorem bindC_out {kindOf : Str → Option NameKind} {x : Str} : ∀ {binds : List (Str × Value)} {m : Str → Option Value}, (∀ v, (x, v) ∉ binds) → bindC kindOf binds m x = m x
  | [], _, _ => rfl
  | (n, v) :: r, m, h => by
    unfold bindC
    rw [bindC_out fun w hw => h w (List.mem_cons_of_mem _ hw)]
    split
    · rfl
    · have : x ≠ n := by rintro rfl; exact h v List.mem_cons_self
      simp [this]
theorem bindL_get {kindOf : Str → Option NameKind} {x : Str} {v : Value} : ∀ {P : List Str} {vs : List Value} {i : Nat} {m : Str → Option Value}, P.Nodup → P[i]? = some x → vs[i]? = some v → kindOf x = some .local →
    bindL kindOf (P.zip vs) m x = some v
  | [], _, _, _, _, h, _, _ => by simp at h
  | _ :: _, [], _, _, _, _, h, _ => by simp at h
  | p :: P, w :: vs, 0, m, nd, h1, h2, hk => by
    simp at h1 h2; subst h1; subst h2
    show bindL kindOf ((p, w) :: P.zip vs) m p = _
    unfold bindL
    rw [bindL_out fun v hv => (List.nodup_cons.mp nd).1 (List.of_mem_zip hv).1, if_pos hk]
    simp
  | p :: P, w :: vs, i + 1, m, nd, h1, h2, hk => by
    show bindL kindOf ((p, w) :: P.zip vs) m x = _
    unfold bindL
    exact bindL_get (i := i) (List.nodup_cons.mp nd).2 (by simpa using h1) (by simpa using h2) hk
theorem bindC_get {kindOf : Str → Option NameKind} {x : Str} {v : Value} : ∀ {P : List Str} {vs : List Value} {i : Nat} {m : Str → Option Value}, P.Nodup → P[i]? = some x → vs[i]? = some v → kindOf x ≠ some .local →
    bindC kindOf (P.zip vs) m x = some v
  | [], _, _, _, _, h, _, _ => by simp at h
  | _ :: _, [], _, _, _, _, h, _ => by simp at h
  | p :: P, w :: vs, 0, m, nd, h1, h2, hk => by
    simp at h1 h2; subst h1; subst h2
    show bindC kindOf ((p, w) :: P.zip vs) m p = _
    unfold bindC
    rw [bindC_out fun v hv => (List.nodup_cons.mp nd).1 (List.of_mem_zip hv).1, if_neg hk]
    simp
  | p :: P, w :: vs, i + 1, m, nd, h1, h2, hk => by
    show bindC kindOf ((p, w) :: P.zip vs) m x = _
    unfold bindC
    exact bindC_get (i := i) (List.nodup_cons.mp nd).2 (by simpa using h1) (by simpa using h2) hk

/-- the names' values at the entry -/
def start (N : List Str) (vs : List V) : St := vs.map some ++ List.replicate (N.length - vs.length) none

/-- the context of a def's body, at its entry; an exception leaves the frame, then lies as CX says -/
def cxOf (CX : CXT) (P : Program) (w : World) (K : PySem.W.Frag) (mg : Str → Option Value) (base : Heap) (N : List Str) (qual : Str) (scope : Scope) (f : Addr) (cd : Value) (A : Around) (outer : List Env) (s : Shared) (H : Hp) (E : XK) : Cx where
  prog := P
  w := w
  K := K
  mg := mg
  base := base
  A := A.deeper (envOfC qual scope s.heap.objs.size f cd)
  N := N
  s₀ := s
  H₀ := H
  env := envOfC qual scope s.heap.objs.size f cd
  outer := outer
  stack := envOfC qual scope s.heap.objs.size f cd :: outer
  ex := []
  calm := true
  fn := fun _ => true
  pn := []
  xe := fun e s' => wpAny (model P w) (A.deeper (envOfC qual scope s.heap.objs.size f cd)) (leaving (envOfC qual scope s.heap.objs.size f cd) e) (fun _ s'' => CX outer H s E e s'') (fun e' s'' => CX outer H s E e' s'') s'

theorem cell_has {sc : Scope} {n : Nat} {x : Str} (h : sc.names.lookup x = some .cell) : ∃ c, (cellsFrom n sc.names []).lookup x = some c := by
  have q := PySem.W.cellsFrom_some sc.names n [] (.inl h)
  exact Option.isSome_iff_exists.mp q

theorem inv_start {CX : CXT} {P : Program} {w : World} {K : PySem.W.Frag} {mg : Str → Option Value} {base : Heap} {N ps : List Str} {qual : Str} {scope : Scope} {f : Addr} {cd : Value} {A : Around} {outer : List Env} {s s1 : Shared} {H : Hp} {E : XK} {us : List Value} {vs : List V}
    (S : FnScope N ps scope) (hd : A.handled = none) (e0 : Env0 P w K mg base A outer s H) (hl : vs.length = ps.length) (r : Vals vs us)
    (x : InCallC s s.heap.objs.size (bindL (envOfC qual scope s.heap.objs.size f cd).kindOf (ps.zip us) fun _ => none) (cellsFrom (s.heap.objs.size + 1) scope.names []) (bindC (envOfC qual scope s.heap.objs.size f cd).kindOf (ps.zip us) fun _ => none) s1) :
    Inv (cxOf CX P w K mg base N qual scope f cd A outer s H E) [] (start N vs) H s1 := by
  have hpl : ps.length ≤ N.length := by have := congrArg List.length S.pre; rw [List.length_take] at this; omega
  obtain ⟨h1, tk, rfl, hk⟩ := x.done
  have noA : ∀ b : Addr, b ∉ (cxOf CX P w K mg base N qual scope f cd A outer s H E).ex := fun b z => absurd (show b ∈ ([] : List Addr) from z) (by simp)
  refine ⟨⟨e0.mod, S.kind, rfl, rfl, Nat.le_refl _, fun y z c h1 h2 => ?_, fun y hy => ?_, fun y c _ h => ?_, fun _ => hd, Around.frames_deeper e0.frames, .inr ⟨rfl, rfl⟩, fun b z => absurd z (noA b), e0.bs, e0.bsz, fun b _ _ => noA b, fun b z => absurd z (noA b), e0.funs, e0.frf⟩,
    rfl, e0.bare, Un.kept hk, ⟨_, x.toInCall.ns, fun i y v h1 h2 h3 => ?_⟩, fun y c h => ⟨_, x.cell y c h⟩, e0.hok.fresh (Nat.le_refl _), fun y c h => ?_, fun p hp => absurd (show p ∈ ([] : List (Addr × Obj)) from hp) (by simp), e0.hok.kept hk, ?_⟩
  · exact name_of_addr x.apart (PySem.mem_of_lookup h1) (PySem.mem_of_lookup h2)
  · have hy : scope.names.lookup y = some .cell ∨ scope.names.lookup y = some .free := hy
    rcases hy with hy | hy
    · exact cell_has hy
    · exact absurd rfl (S.nofree _ (PySem.mem_of_lookup hy))
  · exact Nat.le_of_lt (x.above y c (PySem.mem_of_lookup h))
  · have hi : i < vs.length := by
      unfold start at h2
      by_cases hi : i < vs.length
      · exact hi
      · rw [List.getElem?_append_right (by simpa using hi)] at h2
        rw [List.getElem?_replicate] at h2
        split at h2 <;> cases h2
    have ha : vs[i]? = some v := by
      unfold start at h2
      rw [List.getElem?_append_left (by simpa using hi), List.getElem?_map] at h2
      cases e : vs[i]? with
      | none => rw [e] at h2; cases h2
      | some a => rw [e] at h2; cases h2; rfl
    obtain ⟨u, hu, rv⟩ := r.get ha
    have hp : ps[i]? = some y := by
      rw [← S.pre, List.getElem?_take_of_lt (by omega)]; exact h1
    have ndP : ps.Nodup := by rw [← S.pre]; exact S.nd.sublist (List.take_sublist _ _)
    refine ⟨u, rv, ?_⟩
    rcases S.par y (List.mem_of_getElem? hp) with k | k
    · exact .inl ⟨k, bindL_get ndP hp hu k⟩
    · obtain ⟨c, e⟩ := cell_has (n := s.heap.objs.size + 1) k
      refine .inr ⟨.inl k, c, e, ?_⟩
      have q := x.cell y c e
      rw [bindC_get ndP hp hu (by show scope.names.lookup y ≠ _; rw [k]; decide)] at q
      exact q
  · exact e0.hok.fresh (Nat.le_of_lt (x.above y c (PySem.mem_of_lookup h)))
  · unfold start
    show _ = N.length
    rw [List.length_append, List.length_map, List.length_replicate]
    omega

/-- THE RULE: a def (or a method) of the text, by its body. The body's reading t is chosen for each entry; it is run at the parameters' values -/
theorem fn_of {CX : CXT} {P : Program} {w : World} {K : PySem.W.Frag} {mg : Str → Option Value} {base : Heap} {k : Nat} {f : Addr} {name qual : Str} {params : Arguments} {body : List Stmt} {scope : Scope} {dV kV doc pm cdv ct oc : Value} {an od : Option Addr}
    {osl : Array (Option Value)} {N ps : List Str} {sp : Sp} (lk : K.lookup f = some ⟨oc, od, .func (PySem.W.fnOf name qual params body scope dV kV doc pm an cdv ct), osl⟩) (hcd : PySem.W.codeIn K cdv qual = true) (S : FnScope N ps scope)
    (len : ∀ vs H Q E, sp vs H Q E → vs.length = ps.length)
    (hbody : ∀ (A : Around) (outer : List Env) (s : Shared) (H : Hp) (vs : List V) (Q : VK) (E : XK), Room k (A.deeper (envOfC qual scope s.heap.objs.size f cdv)) → sp vs H Q E →
      ∃ t, PSs (cxOf CX P w K mg base N qual scope f cdv A outer s H E) body t ∧ t { nx := fun _ H' => Q .non H', rt := Q } (start N vs) H) :
    FnOk P w K mg base CX (k + 1) f (PySem.W.fnOf name qual params body scope dV kV doc pm an cdv ct) ps sp := by
  refine ⟨len, fun A outer s H args us vs Q E hr e0 hb r hsp => ?_⟩
  have hl := len _ _ _ _ hsp
  have KX : K.In s.heap := e0.mod.kin.keeps fun b o e => (e0.bs b o e).1
  have lim : s.heap.NoLimit := e0.mod.nolimit.keeps fun b o e => (e0.bs b o e).1
  have hkind : ∀ y ∈ ps.zip us, scope.names.lookup y.1 = some .local ∨ (scope.names.lookup y.1 = some .cell ∧ ((cellsFrom (s.heap.objs.size + 1) scope.names []).lookup y.1).isSome = true) := fun ⟨n, v⟩ hy => by
    rcases S.par n (List.of_mem_zip hy).1 with q | q
    · exact .inl q
    · exact .inr ⟨q, PySem.W.cellsFrom_some _ _ _ (.inl q)⟩
  refine codeAny_call_function hr.depth (KX _ _ lk) rfl S.co S.gen rfl (PySem.W.codeRec_of KX hcd) (hb _ _ _ _ ?_)
  refine wpAny_newFunctionEnv_cells S.kind hkind fun env he s1 x => ?_
  subst he
  refine ⟨lim.keeps x.toInCall.keep, codeAny_func ?_⟩
  obtain ⟨t, ht, hq⟩ := hbody A outer s H vs Q E (hr.deeper _) hsp
  have I : Inv (cxOf CX P w K mg base N qual scope f cdv A outer s H E) [] (start N vs) H s1 := inv_start S hr.hd e0 hl r x
  refine wpAny_mono (ht [] s1 (start N vs) H _ I hq) (fun fl s' hs => ?_) fun e s' hs => hs
  have fin : ∀ {σ' : St} {H' : Hp} {v : V} {u : Value}, Inv (cxOf CX P w K mg base N qual scope f cdv A outer s H E) [] σ' H' s' → RelV v u → Q v H' → CE outer P w H s Q u s' :=
    fun {σ' H' v u} J rv q => ⟨v, H', J.os, J.bare, J.base, J.hok, rv, q⟩
  cases fl with
  | ret u =>
    obtain ⟨v, σ', H', J, rv, q⟩ := hs
    exact fin J rv q
  | next =>
    obtain ⟨σ', H', J, q⟩ := hs
    exact fin (v := V.non) (u := Value.none) J rfl q
  | brk =>
    obtain ⟨_, _, _, q⟩ := hs
    exact False.elim q
  | cont =>
    obtain ⟨_, _, _, q⟩ := hs
    exact False.elim q
end L2

namespace L2
open PySem PySem.Spec PyProof.Rows
section
variable {X : Cx} {x : Str} {p pos : Pos} {e : Expr} {es : List Expr} {t : TA} {id T : String} {r : List V → Hp → VK → Prop}

def tCB (r : List V → Hp → VK → Prop) (t : TA) : TE := fun σ H Q => t σ H fun vs H1 => r vs H1 Q
/-- f(e, ..), f a built-in function -/
theorem pe_callB (hc : CallR X (.builtin id) r) (hg : Gl X x) (hm : X.mg x = none) (hv : bootBuiltins x = some (.builtin id)) (ha : PA X (e :: es) t) (hn : x ≠ "__name__" := by decide) (hdb : (x == ("__debug__" : Str)) = false := by decide)
    (he : starEach (e :: es) X.env = (false, eval e X.env) :: starEach es X.env := by rfl) (hpl : (backTo pos (starEach es X.env)).any (·.1) = false := by rfl) : PE X (.Call (.Name x p) (e :: es) [] pos) (tCB r t) := by
  intro pins s σ H Q I h
  refine wpAny_Call_Name_kw (ld_blt I hg hm hv ?_ hn hdb)
  exact PyProof.Rows.callWith_builtin1 (thn (ha pos pins s σ H _ I h) fun us s1 ⟨vs, H1, I1, r1, q1⟩ => hc pins s1 σ H1 vs us Q I1 r1 q1) he hpl
/-- T(e, ..), T a built-in type -/
theorem pe_callTy (hc : CallR X (.type T) r) (hg : Gl X x) (hm : X.mg x = none) (hv : bootBuiltins x = some (.type T)) (ha : PA X (e :: es) t) (hn : x ≠ "__name__" := by decide) (hdb : (x == ("__debug__" : Str)) = false := by decide)
    (he : starEach (e :: es) X.env = (false, eval e X.env) :: starEach es X.env := by rfl) (hpl : (backTo pos (starEach es X.env)).any (·.1) = false := by rfl) : PE X (.Call (.Name x p) (e :: es) [] pos) (tCB r t) := by
  intro pins s σ H Q I h
  refine wpAny_Call_Name_kw (ld_blt I hg hm hv ?_ hn hdb)
  exact PyProof.Rows.callWith_type1 (thn (ha pos pins s σ H _ I h) fun us s1 ⟨vs, H1, I1, r1, q1⟩ => hc pins s1 σ H1 vs us Q I1 r1 q1) he hpl
/-- T() -/
theorem pe_callTy0 (hc : CallR X (.type T) r) (hg : Gl X x) (hm : X.mg x = none) (hv : bootBuiltins x = some (.type T)) (hn : x ≠ "__name__" := by decide) (hdb : (x == ("__debug__" : Str)) = false := by decide) :
    PE X (.Call (.Name x p) [] [] pos) (tCB r tNil) := by
  intro pins s σ H Q I h
  refine wpAny_Call_Name_kw (ld_blt I hg hm hv ?_ hn hdb)
  exact PyProof.Rows.callWith_type0 (hc pins s σ H [] [] Q I .nil h)
end
end L2

namespace HT
open PySem PyProof.Rows

/-- t < u of tuples of ints -/
def lexLt : List Int → List Int → Bool
  | [], [] => false
  | [], _ :: _ => true
  | _ :: _, [] => false
  | x :: xs, y :: ys => if x = y then lexLt xs ys else decide (x < y)
theorem lexLt_cons (x y : Int) (xs ys : List Int) : lexLt (x :: xs) (y :: ys) = if x = y then lexLt xs ys else decide (x < y) := rfl
theorem lexLt_nil_nil : lexLt [] [] = false := rfl
theorem lexLt_nil_cons (y : Int) (ys : List Int) : lexLt [] (y :: ys) = true := rfl
theorem lexLt_cons_nil (x : Int) (xs : List Int) : lexLt (x :: xs) [] = false := rfl

theorem eqAt_int (A : Around) (s : Shared) (a : Int) (t : Tok) (c : Int) (u : Tok) : ∃ e, SeqAt.EqAt A s (.int a t) (.int c u) e ∧ (e = true ↔ a = c) :=
  ⟨(a == c), SeqAt.EqAt.int_int a t c u, by simp⟩
theorem rcLt_int (A : Around) (s : Shared) (a : Int) (t : Tok) (c : Int) (u : Tok) (prog : Program) (w : World) (E : Value → Shared → Prop) (Q : Value → Shared → Prop) (h : Q (.bool (decide (a < c))) s) :
    wpAny (model prog w) A (richCompare .Lt (.int a t) (.int c u)) Q E s :=
  (PyProof.Rows.lt_int h : wpAny (model prog w) A (compareOp .Lt (.int a t) (.int c u)) Q E s)

section
open PySem.SeqAt
open PySem.AutoSeq1 (wpAny_loadPart')
open PySem.MeetsSeq PySem.MeetsSeq2 PySem.MeetsSeq3

theorem tuple_lt_ints (l b : Addr) (items items2 : Array Value) (n n2 : Nat) (dd dd2 : Option Addr) (sl sl2 : Array (Option Value)) (ns ms : List Int) (hi : IntsAre items.toList ns) (hj : IntsAre items2.toList ms) :
    Meets (Builtin.«tuple.__lt__» ⟨[.ref l, .ref b], []⟩)
      (fun _ R s => s.heap.get? l = some { cls := .type "tuple", dict := dd, data := .seq items n, slots := sl } ∧ s.heap.get? b = some { cls := .type "tuple", dict := dd2, data := .seq items2 n2, slots := sl2 } ∧
        R (.ok (.ret (.bool (lexLt ns ms)))) s) :=
  .of_wp fun prog w A R s h => by
    obtain ⟨hp, g, d, tk, os⟩ := s; obtain ⟨hl, hb, h⟩ := h
    have f2 := AutoSeq1.sub_tuple_tuple
    have z1 : items.size = ns.length := by rw [← hi.length]; simp
    have z2 : items2.size = ms.length := by rw [← hj.length]; simp
    wp_walk using wpAny_loadPart' hl, wpAny_loadPart' hb, wpAny_forIn_list _ (fun rest b s' => b.1 = none ∧ s' = ⟨hp, g, d, tk, os⟩ ∧ ∃ (vs ws : List Value) (ns' ms' : List Int), rest = vs.zip ws ∧
      IntsAre vs ns' ∧ IntsAre ws ms' ∧ ns'.length + items2.size = ms'.length + items.size ∧ R (.ok (.ret (.bool (lexLt ns' ms')))) ⟨hp, g, d, tk, os⟩) _
    case turn =>
      rintro ⟨y, x⟩ rest b s' ⟨hb', rfl, vs, ws, ns', ms', hz, hvi, hwi, hlen, hR⟩
      cases hvi with
      | nil => rw [List.zip_nil_left] at hz; cases hz
      | cons a t hvi' =>
        cases hwi with
        | nil => rw [List.zip_nil_right] at hz; cases hz
        | cons c u hwi' =>
          rw [List.zip_cons_cons] at hz
          injection hz with hyx hrest
          injection hyx with hy hx
          subst hy hx
          rw [lexLt_cons] at hR
          simp only [List.length_cons] at hlen
          obtain ⟨e, he, hiff⟩ := eqAt_int A.in1 ⟨hp, g, d, tk, os⟩ a t c u
          refine wpAny_bind (he prog w _ _ ?_)
          cases e with
          | true =>
            rw [if_pos (hiff.mp rfl)] at hR
            wp_walk
            exact ⟨rfl, rfl, _, _, _, _, hrest, hvi', hwi', by omega, hR⟩
          | false =>
            rw [if_neg (fun q => absurd (hiff.mpr q) Bool.false_ne_true)] at hR
            have hri := rcLt_int A.in1 ⟨hp, g, d, tk, os⟩ a t c u prog w
            wp_walk using hri
            exact ⟨_, rfl, by simpa using hR⟩
    case fin =>
      rintro ⟨b1, b2⟩ s' ⟨hb', rfl, vs, ws, ns', ms', hz, hvi, hwi, hlen, hR⟩
      simp only at hb'
      subst hb'
      have hv : lexLt ns' ms' = decide (items.size < items2.size) := by
        cases hvi with
        | nil =>
          cases hwi with
          | nil =>
            simp only [List.length_nil] at hlen
            rw [lexLt_nil_nil]
            exact (decide_eq_false (by omega)).symm
          | cons c u hw =>
            simp only [List.length_nil, List.length_cons] at hlen
            rw [lexLt_nil_cons]
            exact (decide_eq_true (by omega)).symm
        | cons a t hv =>
          cases hwi with
          | nil =>
            simp only [List.length_nil, List.length_cons] at hlen
            rw [lexLt_cons_nil]
            exact (decide_eq_false (by omega)).symm
          | cons c u hw =>
            rw [List.zip_cons_cons] at hz
            cases hz
      rw [hv] at hR
      wp_walk
      exact ⟨_, rfl, by simpa [Builtin.Tuple.tupleCompareSizes] using hR⟩
    case h =>
      exact ⟨rfl, rfl, items.toList, items2.toList, ns, ms, rfl, hi, hj, by omega, h⟩
end

section
variable {prog : Program} {w : World} {A : Around} {E : Value → Shared → Prop} {s : Shared}

theorem lt_tupInts {l b : Addr} {items items2 : Array Value} {ns ms : List Int} {Q : Value → Shared → Prop} (hl : IsTup s.heap l items) (hb : IsTup s.heap b items2) (hi : IntsAre items.toList ns) (hj : IntsAre items2.toList ms)
    (hu : A.units < cLine) (h : Q (.bool (lexLt ns ms)) s) : wpAny (model prog w) A (compareOp .Lt (.ref l) (.ref b)) Q E s := by
  obtain ⟨⟨cls, dd, data, sl⟩, ho, hc, n, hd⟩ := id hl
  obtain ⟨⟨cls2, dd2, data2, sl2⟩, ho2, hc2, n2, hd2⟩ := id hb
  simp only at hc hd hc2 hd2
  subst hc hd hc2 hd2
  exact richCompare_meets_room (op := .Lt) ⟨_, ho, rfl⟩ ⟨_, ho2, rfl⟩ PySem.F.slot_tuple_lt PySem.F.entry_tuple_lt (PySem.F.args_tuple_lt_2 _ _) (tuple_lt_ints l b items items2 n n2 dd dd2 sl sl2 ns ms hi hj)
    ⟨ho, ho2, show Value.bool (lexLt ns ms) ≠ Value.notImplemented ∧ Q (.bool (lexLt ns ms)) s from ⟨(fun x => nomatch x), h⟩⟩ hu

/-- t + u, t not empty -/
theorem cat_tup {t b : Addr} {vs ws : List Value} {Q : Value → Shared → Prop} (ht : IsTup s.heap t vs.toArray) (hb : IsTup s.heap b ws.toArray) (hv : vs ≠ [])
    (h1 : ws = [] → Q (.ref t) s) (h2 : ws ≠ [] → Q (.ref s.heap.objs.size) { s with heap := s.heap.push { cls := .type "tuple", data := .seq (vs ++ ws).toArray } })
    (hsz : vs.length + ws.length ≤ sizeLine) : wpAny (model prog w) A (binaryOp .Add (.ref t) (.ref b)) Q E s := by
  obtain ⟨⟨cls, dd, data, sl⟩, ho, hc, n, hd⟩ := id ht
  obtain ⟨⟨cls2, dd2, data2, sl2⟩, ho2, hc2, n2, hd2⟩ := id hb
  simp only at hc hd hc2 hd2
  subst hc hd hc2 hd2
  have e : vs.toArray ++ ws.toArray = (vs ++ ws).toArray := by simp
  by_cases hw : ws = []
  · exact concat_meets ⟨_, ho, rfl⟩ ⟨_, ho2, rfl⟩ noFill_tuple_add seq_tuple_add PySem.F.slot_tuple_add PySem.F.entry_tuple_add (PySem.F.args_tuple_add_2 _ _)
      (tuple_addW1 t b vs.toArray ws.toArray n n2 dd dd2 sl sl2 (by simpa using hv) (by simp [hw])) ⟨ho, ho2, h1 hw⟩
  · refine concat_meets ⟨_, ho, rfl⟩ ⟨_, ho2, rfl⟩ noFill_tuple_add seq_tuple_add PySem.F.slot_tuple_add PySem.F.entry_tuple_add (PySem.F.args_tuple_add_2 _ _)
      (tuple_addW2 t b vs.toArray ws.toArray n n2 dd dd2 sl sl2 (by simpa using hv) (by simpa using hw) (by rw [List.size_toArray, List.size_toArray]; exact hsz)) ⟨ho, ho2, ?_⟩
    rw [e]
    exact h2 hw

/-! ### t[a:b], not the whole -/
/-- a slice's bound as a place among n (d where it is left out) -/
def sIx (n d : Nat) : Option Int → Nat
  | none => d
  | some v => if v < 0 then (v + (n : Int)).toNat else min v.toNat n
theorem sIx_none (n d : Nat) : sIx n d none = d := rfl
theorem sIx_nat (n d k : Nat) : sIx n d (some (k : Int)) = min k n := by
  show (if (k : Int) < 0 then ((k : Int) + (n : Int)).toNat else min (k : Int).toNat n) = min k n
  rw [if_neg (by omega), Int.toNat_natCast]
theorem sIx_le (n d : Nat) (hd : d ≤ n) (o : Option Int) : sIx n d o ≤ n := by
  cases o with
  | none => exact hd
  | some v =>
    show (if v < 0 then (v + (n : Int)).toNat else min v.toNat n) ≤ n
    by_cases hv : v < 0
    · rw [if_pos hv]; omega
    · rw [if_neg hv]; exact Nat.min_le_right _ _
theorem clip_eq (v : Int) (n d : Nat) : (if v < 0 then max (v + (n : Int)) 0 else min v (n : Int)) = ((sIx n d (some v) : Nat) : Int) := by
  show (if v < 0 then max (v + (n : Int)) 0 else min v (n : Int)) = (((if v < 0 then (v + (n : Int)).toNat else min v.toNat n) : Nat) : Int)
  by_cases hv : v < 0
  · simp only [if_pos hv]; omega
  · simp only [if_neg hv]; omega
theorem adjust_gen (lo hi : Option Int) (n : Nat) : Builtin.Slice.sliceAdjust lo hi 1 (n : Int) = (((sIx n 0 lo : Nat) : Int), ((sIx n n hi : Nat) : Int)) := by
  have h1 : ¬ ((1 : Int) < 0) := by omega
  unfold Builtin.Slice.sliceAdjust
  simp only [h1, if_false]
  refine Prod.ext ?_ ?_
  · cases lo with
    | none => rfl
    | some v => exact clip_eq v n 0
  · cases hi with
    | none => rfl
    | some v => exact clip_eq v n n
theorem places_gen (i j : Nat) : Builtin.Slice.slicePlaces (i : Int) (j : Int) 1 = j - i := by
  unfold Builtin.Slice.slicePlaces
  have h1 : (1 : Int) > 0 := by omega
  simp only [h1, if_true, Int.ediv_one]
  split <;> omega
theorem slicePart_ {v : Value} {o : Option Int} {Q : Option Int → Shared → Prop} (p : IsPart v o) (h : Q o s) : wpAny (model prog w) A (Builtin.Slice.slicePartIndex v) Q E s := by
  cases p with
  | none => exact slicePart_none h
  | int i t => exact slicePart_int h
theorem sliceApplied_gen {sl : Addr} {vl vu : Value} {lo hi : Option Int} {n : Nat} {Q : Int × Int × Nat → Shared → Prop} (hs : s.heap.IsSliceOf sl vl vu .none) (pl : IsPart vl lo) (pu : IsPart vu hi)
    (h : Q (((sIx n 0 lo : Nat) : Int), 1, sIx n n hi - sIx n 0 lo) s) : wpAny (model prog w) A (Builtin.Slice.sliceApplied (.ref sl) (pure (n : Int))) Q E s := by
  obtain ⟨os, hos, hcs, hds⟩ := id hs
  unfold Builtin.Slice.sliceApplied Builtin.Slice.sliceFields
  refine wpAny_bind (wpAny_bind (wpAny_field hos hds (x := vl) rfl (wpAny_bind (wpAny_field hos hds (x := vu) rfl (wpAny_bind (wpAny_field hos hds (x := .none) rfl (wpAny_pure ?_)))))))
  refine wpAny_bind (slicePart_none ?_)
  show wpAny _ _ (if ((1 : Int) == 0) = true then _ else _) _ _ s
  rw [if_neg (by decide)]
  refine wpAny_bind (slicePart_ pl (wpAny_bind (slicePart_ pu (wpAny_bind (wpAny_pure ?_)))))
  show wpAny _ _ (match Builtin.Slice.sliceAdjust lo hi 1 (n : Int) with | (lo, hi) => pure (lo, (1 : Int), Builtin.Slice.slicePlaces lo hi 1)) _ _ s
  rw [adjust_gen lo hi n]
  show wpAny _ _ (pure (((sIx n 0 lo : Nat) : Int), (1 : Int), Builtin.Slice.slicePlaces ((sIx n 0 lo : Nat) : Int) ((sIx n n hi : Nat) : Int) 1)) _ _ s
  rw [places_gen]
  exact wpAny_pure h
theorem pick_gen (xs : Array Value) (i k : Nat) : ((List.range k).filterMap fun (m : Nat) => xs[((i : Int) + (m : Int) * 1).toNat]?).toArray = ((xs.toList.drop i).take k).toArray := by
  have e : (fun (m : Nat) => xs[((i : Int) + (m : Int) * 1).toNat]?) = fun m => xs[i + m]? := by
    funext m
    have : ((i : Int) + (m : Int) * 1).toNat = i + m := by omega
    rw [this]
  rw [e]
  have := pick_run xs i k
  rw [List.filterMap_map] at this
  have e2 : ((fun x => xs[x]?) ∘ fun x => i + x) = fun m => xs[i + m]? := rfl
  rw [e2] at this
  rw [this]

theorem getItem_tuple_cut {t sl : Addr} {items : Array Value} {vl vu : Value} {lo hi : Option Int} {Q : Value → Shared → Prop} (ht : IsTup s.heap t items) (hs : s.heap.IsSliceOf sl vl vu .none) (pl : IsPart vl lo) (pu : IsPart vu hi)
    (hw : ¬ (sIx items.size 0 lo = 0 ∧ sIx items.size items.size hi = items.size))
    (h : Q (.ref s.heap.objs.size) { s with heap := s.heap.push { cls := .type "tuple", data := .seq ((items.toList.drop (sIx items.size 0 lo)).take (sIx items.size items.size hi - sIx items.size 0 lo)).toArray } })
    (hsz : items.size ≤ sizeLine) : wpAny (model prog w) A (getItem (.ref t) (.ref sl)) Q E s := by
  have htake : sizeOk (.seq ((items.toList.drop (sIx items.size 0 lo)).take (sIx items.size items.size hi - sIx items.size 0 lo)).toArray) := by
    show ((items.toList.drop (sIx items.size 0 lo)).take (sIx items.size items.size hi - sIx items.size 0 lo)).toArray.size ≤ sizeLine
    rw [List.size_toArray, List.length_take, List.length_drop, Array.length_toList]
    omega
  have hj : sIx items.size items.size hi ≤ items.size := sIx_le _ _ (Nat.le_refl _) hi
  obtain ⟨os, hos, hcs, hds⟩ := id hs
  have hTs : s.TypeIs (.ref sl) "slice" := ⟨os, hos, hcs⟩
  unfold getItem
  try with_reducible refine wpAny_holding ?_
  first | refine wpAny_bind (wpAny_pure ?_) | skip
  refine wpAny_bind (wpAny_sequenceKey ht.typeIs (by decide) ?_)
  refine wpAny_bind (wpAny_callSpecial?_slot (name := Str.ofString "__getitem__") ht.typeIs PyProof.Rows.slot_tuple_getitem
    (wpAny_call_entry PyProof.Rows.slot_tuple_getitem ht.typeIs entry_tuple_getitem ?_ (args_tuple_getitem _ _)))
  show wpAny _ _ (Builtin.Tuple.tupleItemsOf (.ref t) >>= _) _ _ s
  refine wpAny_bind (tupleItemsOf_ ht ?_)
  refine wpAny_bind (wpAny_typeOf hTs ?_)
  rw [if_pos (by decide)]
  refine wpAny_bind (sliceApplied_gen hs pl pu ?_)
  have hno : ¬ ((((sIx items.size 0 lo : Nat) : Int) == 0 && (1 : Int) == 1 && (sIx items.size items.size hi - sIx items.size 0 lo) == items.size) = true) := by
    intro q
    rw [Bool.and_eq_true, Bool.and_eq_true] at q
    have q1 : ((sIx items.size 0 lo : Nat) : Int) = 0 := eq_of_beq q.1.1
    have q2 : sIx items.size items.size hi - sIx items.size 0 lo = items.size := eq_of_beq q.2
    exact hw ⟨by omega, by omega⟩
  show wpAny _ _ (if (((sIx items.size 0 lo : Nat) : Int) == 0 && (1 : Int) == 1 && (sIx items.size items.size hi - sIx items.size 0 lo) == items.size) = true then _ else _) _ _ s
  rw [if_neg hno, pick_gen]
  first
    | exact wpAny_bind (m := Builtin.Tuple.tupleExact _) (wpAny_newObj_type (wpAny_pure ⟨_, rfl, wpAny_pure h⟩) htake)
    | exact wpAny_bind (m := Builtin.Tuple.tupleExact _) (wpAny_newObj_type (wpAny_bind (wpAny_pure (wpAny_pure ⟨_, rfl, wpAny_pure h⟩))) htake)
    | exact wpAny_bind (wpAny_bind (m := Builtin.Tuple.tupleExact _) (wpAny_newObj_type (wpAny_pure (wpAny_pure ⟨_, rfl, wpAny_pure h⟩)) htake))
    | exact wpAny_bind (wpAny_bind (m := Builtin.Tuple.tupleExact _) (wpAny_newObj_type (wpAny_pure ⟨_, rfl, wpAny_pure h⟩) htake))
end
end HT

namespace L2
open PySem PySem.Spec PyProof.Rows

/-! ### the parts of a slice -/
abbrev TO := St → Hp → (Option Int → Hp → Prop) → Prop
/-- a slice's part (left out, or an int) -/
def PO (X : Cx) (e : Option Expr) (t : TO) : Prop :=
  ∀ (pins : List (Addr × Obj)) (s : Shared) (σ : St) (H : Hp) (Q : Option Int → Hp → Prop), Inv X pins σ H s → t σ H Q →
    wpAny (model X.prog X.w) X.A (evalPart e X.env) (fun u s' => ∃ o H', Inv X pins σ H' s' ∧ IsPart u o ∧ Q o H') X.xe s
def tNoPart : TO := fun _ H Q => Q none H
def tPart (t : TE) : TO := fun σ H Q => t σ H fun x H1 => ∃ i, x = .int i ∧ Q (some i) H1

theorem intsAre_of {ns : List Int} : ∀ {us : List Value}, Vals (ns.map V.int) us → IntsAre us ns := by
  induction ns with
  | nil => intro us r; rw [List.map_nil] at r; cases r; exact .nil
  | cons n ns ih =>
    intro us r
    rw [List.map_cons] at r
    cases r with
    | cons r1 r2 =>
      obtain ⟨t, e⟩ := r1
      subst e
      exact .cons n t (ih r2)

section
variable {X : Cx} {e : Expr} {te : TE} {lo hi : Option Expr} {tl th : TO} {pos p2 : Pos}

theorem po_none : PO X none tNoPart := by
  intro pins s σ H Q I h
  rw [evalPart_none]
  exact wpAny_pure ⟨none, H, I, .none, h⟩
theorem po_some (h : PE X e te) : PO X (some e) (tPart te) := by
  intro pins s σ H Q I hw
  rw [evalPart_some]
  refine thn (h pins s σ H _ I hw) fun u s1 ⟨x, H1, I1, r1, q1⟩ => ?_
  obtain ⟨i, rfl, q⟩ := q1
  obtain ⟨t, rfl⟩ := r1
  exact ⟨some i, H1, I1, .int i t, q⟩

/-- what a slice of a value is, by values: the slice object stands at sl -/
def SlR (X : Cx) (r : V → Option Int → Option Int → Hp → VK → Prop) : Prop :=
  ∀ (pins : List (Addr × Obj)) (s : Shared) (σ : St) (H : Hp) (x : V) (v vl vu : Value) (lo hi : Option Int) (sl : Addr) (Q : VK), Inv X pins σ H s → RelV x v → s.heap.IsSliceOf sl vl vu .none → IsPart vl lo → IsPart vu hi → r x lo hi H Q →
    ∃ T id, typeLookup (.type T) "__getitem__" = pure (some (.builtin id)) ∧ s.TypeIs v T ∧ wpAny (model X.prog X.w) X.A (getItem v (.ref sl)) (EP X pins σ Q) X.xe s
theorem SlR.or {r r' : V → Option Int → Option Int → Hp → VK → Prop} (h : SlR X r) (h' : SlR X r') : SlR X (fun x lo hi H Q => r x lo hi H Q ∨ r' x lo hi H Q) := by
  intro pins s σ H x v vl vu lo hi sl Q I rx hs pl pu q
  rcases q with q | q
  · exact h pins s σ H x v vl vu lo hi sl Q I rx hs pl pu q
  · exact h' pins s σ H x v vl vu lo hi sl Q I rx hs pl pu q
def tSl (r : V → Option Int → Option Int → Hp → VK → Prop) (te : TE) (tl th : TO) : TE := fun σ H Q => te σ H fun x H1 => tl σ H1 fun l H2 => th σ H2 fun u H3 => r x l u H3 Q
/-- a[lo:hi], any a -/
theorem pe_slice {r : V → Option Int → Option Int → Hp → VK → Prop} (hr : SlR X r) (he : PE X e te) (hl : PO X lo tl) (hu : PO X hi th) : PE X (.Subscript e (.Slice lo hi none p2) pos) (tSl r te tl th) := by
  intro pins s σ H Q I h
  refine Subscript_ (thn (he pins s σ H _ I h) fun v s1 ⟨x, H1, I1, r1, q1⟩ => ?_)
  refine wpAny_Slice (thn (hl pins s1 σ H1 _ I1 q1) fun vl s2 ⟨l, H2, I2, pl, q2⟩ => thn (hu pins s2 σ H2 _ I2 q2) fun vu s3 ⟨u, H3, I3, pu, q3⟩ => ?_)
  rw [evalPart_none]
  refine wpAny_pure ?_
  have I4 : Inv X pins σ H3 { s3 with heap := s3.heap.push { cls := .type "slice", data := .fields #[vl, vu, .none] } } := I3.kept (t' := s3.toks) fun b ob q => Heap.get?_push_of_some _ q
  obtain ⟨T, id, hT, ht, hg⟩ := hr pins { s3 with heap := s3.heap.push { cls := .type "slice", data := .fields #[vl, vu, .none] } } σ H3 x v vl vu l u s3.heap.objs.size Q I4 r1 (Heap.IsSliceOf.new ..) pl pu q3
  show wpAny (model X.prog X.w) X.A (subscriptTail e (.Slice lo hi none p2) v (.ref s3.heap.objs.size)) (EP X pins σ Q) X.xe { s3 with heap := s3.heap.push { cls := .type "slice", data := .fields #[vl, vu, .none] } }
  exact tail_any (ops := [.ref s3.heap.objs.size, v]) ht hT hg (by with_unfolding_all rfl)

/-- the items of xs[lo:hi] -/
def cutV (xs : List V) (lo hi : Option Int) : List V := (xs.drop (HT.sIx xs.length 0 lo)).take (HT.sIx xs.length xs.length hi - HT.sIx xs.length 0 lo)
theorem cutV_length (xs : List V) (lo hi : Option Int) : (cutV xs lo hi).length ≤ xs.length := by
  unfold cutV
  rw [List.length_take, List.length_drop]
  omega
/-- t[lo:hi], not the whole of it (the whole would be t itself) -/
def rSlT (K : PySem.W.Frag) : V → Option Int → Option Int → Hp → VK → Prop := fun x lo hi H Q => ∃ a xs, x = .ref a ∧ SqT K H a xs ∧
  ¬ (HT.sIx xs.length 0 lo = 0 ∧ HT.sIx xs.length xs.length hi = xs.length) ∧ ∀ p, H p = none → Q (.ref p) (upd H p (.tup (cutV xs lo hi)))
theorem sl_tup : SlR X (rSlT X.K) := by
  intro pins s σ H x v vl vu lo hi sl Q I rx hs pl pu h
  obtain ⟨a, xs, rfl, hx, hw, q⟩ := h
  cases rx
  obtain ⟨its, r, ht, hz⟩ := I.tuple hx
  have hlen : its.toArray.size = xs.length := by rw [List.size_toArray]; exact r.length.symm
  refine ⟨"tuple", _, PyProof.Rows.slot_tuple_getitem.lookup, ht.typeIs, ?_⟩
  refine HT.getItem_tuple_cut ht hs pl pu (by rw [hlen]; exact hw) ?_ (by rw [hlen]; exact hz)
  rw [hlen]
  refine ⟨.ref s.heap.objs.size, _, I.laid (t' := s.toks) (o := .tup (cutV xs lo hi)) (fun b ob q => Heap.get?_push_of_some _ q) (Nat.le_refl _) ?_, rfl, q _ (I.hok.fresh (Nat.le_refl _))⟩
  exact ⟨Nat.le_trans (cutV_length xs lo hi) hz, _, (r.drop (HT.sIx xs.length 0 lo)).take (HT.sIx xs.length xs.length hi - HT.sIx xs.length 0 lo), IsTup.new _ _⟩

/-! ### t < u, t + u -/
def rLtT (K : PySem.W.Frag) : R2 := fun x y H Q => ∃ a b ns ms, x = .ref a ∧ y = .ref b ∧ SqT K H a (ns.map V.int) ∧ SqT K H b (ms.map V.int) ∧ Q (.bl (HT.lexLt ns ms)) H
theorem op_ltT (hu : X.A.units < cLine) : OpR X (compareOp .Lt) (rLtT X.K) := by
  intro pins s σ H x y v u Q I rx ry h
  obtain ⟨a, b, ns, ms, rfl, rfl, ha, hb, q⟩ := h
  cases rx
  cases ry
  obtain ⟨its, r1, p1, _⟩ := I.tuple ha
  obtain ⟨its2, r2, p2, _⟩ := I.tuple hb
  have i1 : IntsAre its.toArray.toList ns := intsAre_of r1
  have i2 : IntsAre its2.toArray.toList ms := intsAre_of r2
  exact HT.lt_tupInts p1 p2 i1 i2 hu ⟨.bl (HT.lexLt ns ms), H, I, rfl, q⟩
/-- t + u, t not empty: u empty gives t itself -/
def rCatT (K : PySem.W.Frag) : R2 := fun x y H Q => ∃ a b xs ys, x = .ref a ∧ y = .ref b ∧ SqT K H a xs ∧ SqT K H b ys ∧ xs ≠ [] ∧ xs.length + ys.length ≤ sizeLine ∧
  (ys = [] → Q (.ref a) H) ∧ (ys ≠ [] → ∀ p, H p = none → Q (.ref p) (upd H p (.tup (xs ++ ys))))
theorem Vals.nil_iff {xs : List V} {us : List Value} (r : Vals xs us) : us = [] ↔ xs = [] := by
  cases r with
  | nil => simp
  | cons _ _ => simp
theorem op_catT : OpR X (binaryOp .Add) (rCatT X.K) := by
  intro pins s σ H x y v u Q I rx ry h
  obtain ⟨a, b, xs, ys, rfl, rfl, ha, hb, hx, hz, q1, q2⟩ := h
  cases rx
  cases ry
  obtain ⟨its, r1, p1, _⟩ := I.tuple ha
  obtain ⟨its2, r2, p2, _⟩ := I.tuple hb
  refine HT.cat_tup p1 p2 (fun z => hx (r1.nil_iff.mp z)) (fun z => ⟨.ref a, H, I, rfl, q1 (r2.nil_iff.mp z)⟩) (fun z => ?_) (by rw [← r1.length, ← r2.length]; exact hz)
  refine ⟨.ref s.heap.objs.size, _, I.laid (t' := s.toks) (o := .tup (xs ++ ys)) (fun b ob q => Heap.get?_push_of_some _ q) (Nat.le_refl _) ?_, rfl, q2 (fun w => z (r2.nil_iff.mpr w)) _ (I.hok.fresh (Nat.le_refl _))⟩
  exact ⟨by rw [List.length_append]; exact hz, _, r1.append r2, IsTup.new _ _⟩
/-- tuple(t) -/
theorem call_tupleT : CallR X (.type "tuple") (fun xs H Q => ∃ a ys, xs = [.ref a] ∧ SqT X.K H a ys ∧ Q (.ref a) H) := by
  intro pins s σ H xs us Q I r h
  obtain ⟨a, ys, rfl, ha, q⟩ := h
  obtain ⟨u, rfl, ru⟩ := vals1 r
  cases ru
  obtain ⟨its, _, p1, _⟩ := I.tuple ha
  exact call_tuple_same (items := its.toArray) p1 ⟨.ref a, H, I, rfl, q⟩
end
end L2

namespace L2
open PySem PySem.Spec PyProof.Rows

/-! ### places -/
/-- the place that an index of any sign means -/
def ixN (n : Nat) (i : Int) : Option Nat := if 0 ≤ i then (if i < n then some i.toNat else none) else if -(n : Int) ≤ i then some (i + n).toNat else none
def atI {α : Type} (xs : List α) (i : Int) : Option α := (ixN xs.length i).bind fun j => xs[j]?
theorem ixN_seq {n : Nat} {i : Int} {j : Nat} (h : ixN n i = some j) : seqIndex? i n = some j ∧ j < n ∧ -(n : Int) ≤ i ∧ i < n := by
  unfold ixN at h
  by_cases h0 : 0 ≤ i
  · rw [if_pos h0] at h
    by_cases h1 : i < n
    · rw [if_pos h1] at h
      have e : i.toNat = j := Option.some.inj h
      exact ⟨by rw [seqIndex_of h0 h1, e], by omega, by omega, h1⟩
    · rw [if_neg h1] at h; cases h
  · rw [if_neg h0] at h
    by_cases h1 : -(n : Int) ≤ i
    · rw [if_pos h1] at h
      have e : (i + n).toNat = j := Option.some.inj h
      exact ⟨by rw [seqIndex_neg (by omega) h1, e], by omega, h1, by omega⟩
    · rw [if_neg h1] at h; cases h
theorem atI_get {α : Type} {xs : List α} {i : Int} {v : α} (h : atI xs i = some v) : ∃ j, seqIndex? i xs.length = some j ∧ xs[j]? = some v ∧ j < xs.length ∧ -(xs.length : Int) ≤ i ∧ i < xs.length := by
  unfold atI at h
  cases e : ixN xs.length i with
  | none => rw [e] at h; cases h
  | some j =>
    rw [e] at h
    obtain ⟨h1, h2, h3, h4⟩ := ixN_seq e
    exact ⟨j, h1, h, h2, h3, h4⟩
theorem atI_nat {α : Type} {xs : List α} {j : Nat} {v : α} (h : xs[j]? = some v) : atI xs (j : Int) = some v := by
  have hj : j < xs.length := (List.getElem?_eq_some_iff.mp h).1
  have e : ixN xs.length (j : Int) = some j := by
    unfold ixN
    rw [if_pos (by omega), if_pos (by omega)]; simp
  unfold atI; rw [e]; exact h
theorem atI_last {α : Type} (xs : List α) (v : α) : atI (xs ++ [v]) (-1) = some v := by
  have hl : (xs ++ [v]).length = xs.length + 1 := by simp
  have e : ixN (xs ++ [v]).length (-1) = some xs.length := by
    unfold ixN
    rw [hl, if_neg (by decide), if_pos (by omega)]
    congr 1
    omega
  unfold atI
  rw [e]
  show (xs ++ [v])[xs.length]? = some v
  simp

/-! ### what may be subscripted -/
/-- what stands as an index of a plain subscript -/
def PlainIx (b : Expr) : Prop := ∀ o i, subscripted b false o i = operate [o, i] (getItem o i)
/-- a subscript by values -/
def IxR (X : Cx) (r : R2) : Prop :=
  ∀ (value slice : Expr) (pins : List (Addr × Obj)) (s : Shared) (σ : St) (H : Hp) (x y : V) (v u : Value) (Q : VK), Inv X pins σ H s → RelV x v → RelV y u → r x y H Q →
    subscripted slice false v u = operate [v, u] (getItem v u) → wpAny (model X.prog X.w) X.A (subscriptTail value slice v u) (EP X pins σ Q) X.xe s
/-- a call of a builtin's method by values: the receiver, the arguments -/
def MtR (X : Cx) (id : String) (r : V → List V → Hp → VK → Prop) : Prop :=
  ∀ (pins : List (Addr × Obj)) (s : Shared) (σ : St) (H : Hp) (x : V) (xs : List V) (v : Value) (us : List Value) (Q : VK), Inv X pins σ H s → RelV x v → Vals xs us → r x xs H Q →
    wpAny (model X.prog X.w) X.A (call (.builtin id) (v :: us)) (EP X pins σ Q) X.xe s
section
variable {X : Cx} {a b : Expr} {ta tb : TE} {pos : Pos}
theorem IxR.or {r r' : R2} (h : IxR X r) (h' : IxR X r') : IxR X (fun x y H Q => r x y H Q ∨ r' x y H Q) := by
  intro value slice pins s σ H x y v u Q I rx ry q hs
  rcases q with q | q
  · exact h value slice pins s σ H x y v u Q I rx ry q hs
  · exact h' value slice pins s σ H x y v u Q I rx ry q hs
theorem MtR.or {id : String} {r r' : V → List V → Hp → VK → Prop} (h : MtR X id r) (h' : MtR X id r') : MtR X id (fun x xs H Q => r x xs H Q ∨ r' x xs H Q) := by
  intro pins s σ H x xs v us Q I rx rs q
  rcases q with q | q
  · exact h pins s σ H x xs v us Q I rx rs q
  · exact h' pins s σ H x xs v us Q I rx rs q
/-- a[b] -/
theorem pe_ix {r : R2} (hr : IxR X r) (ha : PE X a ta) (hb : PE X b tb) (hs : PlainIx b) : PE X (.Subscript a b pos) (tOp r ta tb) := by
  intro pins s σ H Q I h
  exact Subscript_ (binT ha hb I h fun v u s2 x y H2 I2 rx ry q => hr a b pins s2 σ H2 x y v u Q I2 rx ry q (hs _ _))

def rIxL (K : PySem.W.Frag) : R2 := fun x y H Q => ∃ p xs i v, x = .ref p ∧ y = .int i ∧ SqL K H p xs ∧ atI xs i = some v ∧ Q v H
def rIxT (K : PySem.W.Frag) : R2 := fun x y H Q => ∃ p xs i v, x = .ref p ∧ y = .int i ∧ SqT K H p xs ∧ atI xs i = some v ∧ Q v H
def rIxS : R2 := fun x y H Q => ∃ z i c, x = .str z ∧ y = .int i ∧ z.length ≤ sizeLine ∧ atI z.cps.toList i = some c ∧ Q (.str ⟨#[c]⟩) H
theorem ix_list : IxR X (rIxL X.K) := by
  intro value slice pins s σ H x y v u Q I rx ry h hs
  obtain ⟨p, xs, i, z, rfl, rfl, hq, he, q⟩ := h
  cases rx
  obtain ⟨t, rfl⟩ := ry
  obtain ⟨its, r, pl, hz⟩ := I.list hq
  obtain ⟨j, h1, h2, h3, h4, h5⟩ := atI_get he
  obtain ⟨w, ew, rw'⟩ := r.get h2
  have hl := r.length
  have hn := line63
  have fin : EP X pins σ Q w s := ⟨z, H, I, rw', q⟩
  by_cases h0 : 0 ≤ i
  · have hj : i.toNat = j := by
      rw [seqIndex_of h0 h5] at h1
      exact Option.some.inj h1
    exact item_listR pl.isList h0 (by omega) (by rw [hj]; simpa using ew) fin hs
  · have hj : (i + (its.toArray.size : Int)).toNat = j := by
      rw [seqIndex_neg (by omega) h4] at h1
      rw [List.size_toArray, ← hl]
      exact Option.some.inj h1
    exact subscriptTail_builtinR (x := w) pl.isList.typeIs slot_list_getitem.lookup
      (wpAny_getItem_list_neg (Q := fun r s' => r = w ∧ EP X pins σ Q r s') pl.isList (by omega) (by rw [List.size_toArray] <;> omega) (by omega) (by rw [hj]; simpa using ew) ⟨rfl, fin⟩) hs
theorem ix_tup : IxR X (rIxT X.K) := by
  intro value slice pins s σ H x y v u Q I rx ry h hs
  obtain ⟨p, xs, i, z, rfl, rfl, hq, he, q⟩ := h
  cases rx
  obtain ⟨t, rfl⟩ := ry
  obtain ⟨its, r, pl, hz⟩ := I.tuple hq
  obtain ⟨j, h1, h2, h3, h4, h5⟩ := atI_get he
  obtain ⟨w, ew, rw'⟩ := r.get h2
  have hl := r.length
  have hn := line63
  have fin : EP X pins σ Q w s := ⟨z, H, I, rw', q⟩
  exact subscriptTail_builtinR (x := w) pl.typeIs slot_tuple_getitem.lookup
    (getItem_tuple (j := j) (Q := fun r s' => r = w ∧ EP X pins σ Q r s') pl (by omega) (by omega) (by rw [List.size_toArray, ← hl]; exact h1) (by simpa using ew) ⟨rfl, fin⟩) hs
theorem ix_str : IxR X rIxS := by
  intro value slice pins s σ H x y v u Q I rx ry h hs
  obtain ⟨z, i, c, rfl, rfl, hz, he, q⟩ := h
  obtain ⟨t, rfl⟩ := rx
  obtain ⟨t', rfl⟩ := ry
  obtain ⟨j, h1, h2, h3, h4, h5⟩ := atI_get he
  have hl : z.cps.toList.length = z.length := by simp [Str.length]
  rw [hl] at h1 h4 h5
  have hn := line63
  exact tail_any (typeIs_str s z t) slot_str_getitem.lookup (getItem_str (c := c) (by
    have e1 : decide (i < -(2 ^ 63 : Int)) = false := decide_eq_false (by omega)
    have e2 : decide (i ≥ 2 ^ 63) = false := decide_eq_false (by omega)
    rw [e1, e2, Bool.or_false]) (by rw [h1]; simpa using h2) ⟨.str ⟨#[c]⟩, H, I.tok _, ⟨_, rfl⟩, q⟩) hs
/-- list, tuple or str -/
def rIx (K : PySem.W.Frag) : R2 := fun x y H Q => rIxL K x y H Q ∨ rIxT K x y H Q ∨ rIxS x y H Q
theorem ix_seq : IxR X (rIx X.K) := ix_list.or (ix_tup.or ix_str)

/-! ### xs[i] = v, any sign -/
/-- the list's object behind a store -/
theorem mapSeq_set (its : List Value) (n j : Nat) (u : Value) : Obj.mapSeq (·.setIfInBounds j u) { cls := .type "list", data := .seq its.toArray n } = { cls := .type "list", data := .seq (its.set j u).toArray n } := by
  simp [Obj.mapSeq]
theorem Inv.lst {pins : List (Addr × Obj)} {σ : St} {H : Hp} {s : Shared} {p : Addr} {xs : List V} (I : Inv X pins σ H s) (h : H p = some (.lst xs)) :
    ∃ (its : List Value) (n : Nat), Vals xs its ∧ s.heap.get? p = some { cls := .type "list", data := .seq its.toArray n } ∧ xs.length ≤ sizeLine := by
  obtain ⟨z, its, n, r, e⟩ := I.hok p _ h
  exact ⟨its, n, r, e, z⟩
/-- the list at p is written by an update of its object -/
theorem Inv.lstUpd {pins : List (Addr × Obj)} {σ : St} {H : Hp} {s : Shared} {p : Addr} {xs ys : List V} {its its' : List Value} {n n' : Nat} {f : Obj → Obj} (I : Inv X pins σ H s) (h : H p = some (.lst xs))
    (ho : s.heap.get? p = some { cls := .type "list", data := .seq its.toArray n }) (hf : f { cls := .type "list", data := .seq its.toArray n } = { cls := .type "list", data := .seq its'.toArray n' }) (r : Vals ys its') (hz : ys.length ≤ sizeLine) (t : Nat) :
    Inv X pins σ (upd H p (.lst ys)) { s with heap := s.heap.update p f, toks := t } := by
  have e : (s.heap.update p f).get? p = some { cls := .type "list", data := .seq its'.toArray n' } := by
    rw [Heap.get?_update_self f ho (by rw [hf] <;> rfl), hf]
  refine I.write (x := p) (e := p) (by rw [h]; trivial) (.inl rfl) (fun b u hb q => (Heap.get?_update_other _ _ (Ne.symm hb)).trans q) ⟨_, e⟩ ?_
  exact ⟨hz, its', n', r, e⟩
def rSetL : V → V → V → Hp → (Hp → Prop) → Prop := fun o i v H Q => ∃ p xs k j, o = .ref p ∧ i = .int k ∧ H p = some (.lst xs) ∧ ixN xs.length k = some j ∧ Q (upd H p (.lst (xs.set j v)))
theorem set_list : PSet X rSetL := by
  intro pins s σ H o i v ov iv u Q I ro ri rv h
  obtain ⟨p, xs, k, j, rfl, rfl, hp, hj, q⟩ := h
  cases ro
  obtain ⟨t, rfl⟩ := ri
  obtain ⟨its, n, r, ho, hz⟩ := I.lst hp
  obtain ⟨h1, h2, h3, h4⟩ := ixN_seq hj
  have hl := r.length
  have hn := line63
  have I' : Inv X pins σ (upd H p (.lst (xs.set j v))) { s with heap := s.heap.update p (Obj.mapSeq (·.setIfInBounds j u)) } :=
    I.lstUpd hp ho (mapSeq_set its n j u) (r.set rv j) (by rw [List.length_set]; exact hz) s.toks
  by_cases h0 : 0 ≤ k
  · have hk : k.toNat = j := by
      rw [seqIndex_of h0 h4] at h1
      exact Option.some.inj h1
    exact PySem.W.ki_setAt ho h0 (by omega) (by rw [List.size_toArray, ← hl]; exact h4) (by rw [hk]; exact ⟨_, I', q⟩)
  · have hk : (k + (its.toArray.size : Int)).toNat = j := by
      rw [seqIndex_neg (by omega) h3] at h1
      rw [List.size_toArray, ← hl]
      exact Option.some.inj h1
    exact PySem.W.ki_setBack ho (by omega) (by rw [List.size_toArray, ← hl]; exact h3) (by omega) (by rw [hk]; exact ⟨_, I', q⟩)

/-! ### slices -/
theorem slice_bounds (lo hi : Option Int) (n : Nat) : (sliceBounds lo hi none n).1 = ((HT.sIx n 0 lo : Nat) : Int) ∧ (sliceBounds lo hi none n).2.1 = ((HT.sIx n n hi : Nat) : Int) ∧ (sliceBounds lo hi none n).2.2 = 1 := by
  refine ⟨?_, ?_, rfl⟩
  · cases lo with
    | none => simp [sliceBounds, HT.sIx]
    | some i =>
      simp only [sliceBounds, HT.sIx, Option.getD_none, show (1 : Int) > 0 by decide, if_true]
      by_cases h : i < 0
      · simp only [h, if_true] <;> omega
      · simp only [h, if_false] <;> omega
  · cases hi with
    | none => simp [sliceBounds, HT.sIx]
    | some i =>
      simp only [sliceBounds, HT.sIx, Option.getD_none, show (1 : Int) > 0 by decide, if_true]
      by_cases h : i < 0
      · simp only [h, if_true] <;> omega
      · simp only [h, if_false] <;> omega
theorem slicePick_cut (its : List Value) (lo hi : Option Int) : slicePick its.toArray lo hi none = ((its.drop (HT.sIx its.length 0 lo)).take (HT.sIx its.length its.length hi - HT.sIx its.length 0 lo)).toArray := by
  obtain ⟨h1, h2, h3⟩ := slice_bounds lo hi its.toArray.size
  unfold slicePick
  rw [h1, h2, h3]
  simp only [sliceRange_one, pick_run, List.size_toArray] <;> rfl
/-- xs[lo:hi] of a list: a new list -/
def rSlL (K : PySem.W.Frag) : V → Option Int → Option Int → Hp → VK → Prop := fun x lo hi H Q => ∃ a xs, x = .ref a ∧ SqL K H a xs ∧ ∀ p, H p = none → Q (.ref p) (upd H p (.lst (cutV xs lo hi)))
theorem sl_list : SlR X (rSlL X.K) := by
  intro pins s σ H x v vl vu lo hi sl Q I rx hs pl pu h
  obtain ⟨a, xs, rfl, hx, q⟩ := h
  cases rx
  obtain ⟨its, r, ht, hz⟩ := I.list hx
  have hlen := r.length
  refine ⟨"list", _, slot_list_getitem.lookup, ht.isList.typeIs, ?_⟩
  refine wpAny_getItem_list_slice ht.isList hs pl pu .none (by simp) ?_ (by rw [List.size_toArray] <;> omega)
  rw [slicePick_cut, ← hlen]
  refine ⟨.ref s.heap.objs.size, _, I.laid (t' := s.toks) (o := .lst (cutV xs lo hi)) (fun b ob q => Heap.get?_push_of_some _ q) (Nat.le_refl _) ?_, rfl, q _ (I.hok.fresh (Nat.le_refl _))⟩
  exact ⟨Nat.le_trans (cutV_length xs lo hi) hz, _, 0, (r.drop (HT.sIx xs.length 0 lo)).take (HT.sIx xs.length xs.length hi - HT.sIx xs.length 0 lo), Heap.get?_push_size _ rfl⟩

/-! ### in, not in: flat items -/
def flatV : V → Bool
  | .non => true
  | .bl _ => true
  | .int _ => true
  | .str _ => true
  | _ => false
/-- == of flat values -/
def eqV : V → V → Bool
  | .non, .non => true
  | .bl a, .bl b => a == b
  | .bl a, .int b => (if a then 1 else 0) == b
  | .int a, .bl b => a == (if b then 1 else 0)
  | .int a, .int b => a == b
  | .str a, .str b => a == b
  | _, _ => false
theorem eqAt_V {A : Around} {s : Shared} {y x : V} {u v : Value} (ry : RelV y u) (rx : RelV x v) (fy : flatV y = true) (fx : flatV x = true) : SeqAt.EqAt A s u v (eqV y x) := by
  cases y with
  | non =>
    cases ry
    cases x with
    | non => cases rx; exact SeqAt.EqAt.same _
    | bl b => cases rx; exact SeqAt.EqAt.none_bool b
    | int b => obtain ⟨t, rfl⟩ := rx; exact SeqAt.EqAt.none_int b t
    | str b => obtain ⟨t, rfl⟩ := rx; exact SeqAt.EqAt.none_str b t
    | _ => exact absurd (show false = true from fx) Bool.false_ne_true
  | bl a =>
    cases ry
    cases x with
    | non => cases rx; exact SeqAt.EqAt.bool_none a
    | bl b => cases rx; exact SeqAt.EqAt.bool_bool a b
    | int b => obtain ⟨t, rfl⟩ := rx; exact SeqAt.EqAt.bool_int a b t
    | str b => obtain ⟨t, rfl⟩ := rx; exact SeqAt.EqAt.bool_str a b t
    | _ => exact absurd (show false = true from fx) Bool.false_ne_true
  | int a =>
    obtain ⟨t', rfl⟩ := ry
    cases x with
    | non => cases rx; exact SeqAt.EqAt.int_none a t'
    | bl b => cases rx; exact SeqAt.EqAt.int_bool a t' b
    | int b => obtain ⟨t, rfl⟩ := rx; exact SeqAt.EqAt.int_int a t' b t
    | str b => obtain ⟨t, rfl⟩ := rx; exact SeqAt.EqAt.int_str a t' b t
    | _ => exact absurd (show false = true from fx) Bool.false_ne_true
  | str a =>
    obtain ⟨t', rfl⟩ := ry
    cases x with
    | non => cases rx; exact SeqAt.EqAt.str_none a t'
    | bl b => cases rx; exact SeqAt.EqAt.str_bool a t' b
    | int b => obtain ⟨t, rfl⟩ := rx; exact SeqAt.EqAt.str_int a t' b t
    | str b => obtain ⟨t, rfl⟩ := rx; exact SeqAt.EqAt.str_str a t' b t
    | _ => exact absurd (show false = true from fx) Bool.false_ne_true
  | _ => exact absurd (show false = true from fy) Bool.false_ne_true
/-- the items' answers, read off the values (a value's own answer does not lean on its token) -/
def eqU (x : V) (u : Value) : Bool := match u with
  | .none => eqV .non x
  | .bool b => eqV (.bl b) x
  | .int i _ => eqV (.int i) x
  | .str z _ => eqV (.str z) x
  | _ => false
theorem eqU_of {x y : V} {u : Value} (r : RelV y u) (f : flatV y = true) : eqU x u = eqV y x := by
  cases y with
  | non => cases r; rfl
  | bl b => cases r; rfl
  | int i => obtain ⟨t, rfl⟩ := r; rfl
  | str z => obtain ⟨t, rfl⟩ := r; rfl
  | _ => exact absurd (show false = true from f) Bool.false_ne_true
theorem any_eqU {x : V} : ∀ {xs : List V} {us : List Value}, Vals xs us → xs.all flatV = true → us.any (eqU x) = xs.any fun y => eqV y x
  | _, _, .nil, _ => rfl
  | y :: xs, u :: us, .cons r t, f => by
    rw [List.all_cons, Bool.and_eq_true] at f
    rw [List.any_cons, List.any_cons, eqU_of r f.1, any_eqU t f.2]
theorem mem_eqAt {A : Around} {s : Shared} {x : V} {v : Value} (rx : RelV x v) (fx : flatV x = true) : ∀ {xs : List V} {us : List Value}, Vals xs us → xs.all flatV = true → ∀ u ∈ us, SeqAt.EqAt A s u v (eqU x u)
  | _, _, .nil, _ => fun u hu => by cases hu
  | y :: xs, u :: us, .cons r t, f => fun u' hu => by
    rw [List.all_cons, Bool.and_eq_true] at f
    rcases List.mem_cons.mp hu with rfl | hu
    · rw [eqU_of r f.1]; exact eqAt_V r rx f.1 fx
    · exact mem_eqAt rx fx t f.2 u' hu
def inV (x : V) (xs : List V) : Bool := xs.any fun y => eqV y x
/-- x in a list or tuple of flat items -/
def rIn (K : PySem.W.Frag) (neg : Bool) : R2 := fun x y H Q => ∃ p xs, y = .ref p ∧ (SqL K H p xs ∨ SqT K H p xs) ∧ flatV x = true ∧ xs.all flatV = true ∧ Q (.bl (if neg then !inV x xs else inV x xs)) H
theorem op_in_seq : OpR X (compareOp .In) (rIn X.K false) := by
  intro pins s σ H x y v u Q I rx ry h
  obtain ⟨p, xs, rfl, hq, fx, fs, q⟩ := h
  cases ry
  rcases hq with hq | hq
  · obtain ⟨its, r, pl, hz⟩ := I.list hq
    refine SeqAt.in_listAt (eqU x) pl.isList (fun w hw => mem_eqAt rx fx r fs w (by simpa using hw)) ⟨.bl _, H, I, rfl, ?_⟩
    rw [show its.toArray.any (eqU x) = its.any (eqU x) by simp, any_eqU r fs]
    exact q
  · obtain ⟨its, r, pl, hz⟩ := I.tuple hq
    refine SeqAt.in_tupleAt (eqU x) pl (fun w hw => mem_eqAt rx fx r fs w (by simpa using hw)) ⟨.bl _, H, I, rfl, ?_⟩
    rw [show its.toArray.any (eqU x) = its.any (eqU x) by simp, any_eqU r fs]
    exact q
theorem op_notIn_seq : OpR X (compareOp .NotIn) (rIn X.K true) := by
  intro pins s σ H x y v u Q I rx ry h
  obtain ⟨p, xs, rfl, hq, fx, fs, q⟩ := h
  cases ry
  rcases hq with hq | hq
  · obtain ⟨its, r, pl, hz⟩ := I.list hq
    refine SeqAt.notIn_listAt (eqU x) pl.isList (fun w hw => mem_eqAt rx fx r fs w (by simpa using hw)) ⟨.bl _, H, I, rfl, ?_⟩
    rw [show its.toArray.any (eqU x) = its.any (eqU x) by simp, any_eqU r fs]
    exact q
  · obtain ⟨its, r, pl, hz⟩ := I.tuple hq
    refine SeqAt.notIn_tupleAt (eqU x) pl (fun w hw => mem_eqAt rx fx r fs w (by simpa using hw)) ⟨.bl _, H, I, rfl, ?_⟩
    rw [show its.toArray.any (eqU x) = its.any (eqU x) by simp, any_eqU r fs]
    exact q
theorem op_notIn_str : OpR X (compareOp .NotIn) (fun x y H Q => ∃ i j, x = .str i ∧ y = .str j ∧ Q (.bl (!(!(Builtin.Str.occurrences j i 0 j.length 1).isEmpty))) H) := by
  intro pins s σ H x y v u Q I rx ry h
  obtain ⟨i, j, rfl, rfl, q⟩ := h
  obtain ⟨t, rfl⟩ := rx
  obtain ⟨t', rfl⟩ := ry
  exact notIn_str ⟨.bl _, H, I, rfl, q⟩

/-! ### len, list(x), tuple(x) of any list or tuple that is read -/
theorem call_len_seq : CallR X (.builtin "len") (fun xs H Q => ∃ p ys, xs = [.ref p] ∧ (SqL X.K H p ys ∨ SqT X.K H p ys) ∧ Q (.int ys.length) H) := by
  intro pins s σ H xs us Q I r h
  obtain ⟨p, ys, rfl, hq, q⟩ := h
  obtain ⟨u, rfl, rx⟩ := vals1 r
  cases rx
  have hn := line63
  rcases hq with hq | hq
  · obtain ⟨its, r', pl, hz⟩ := I.list hq
    have hlen := r'.length
    exact Calls.call_len_list pl.isList (by simp only [List.size_toArray] <;> omega) ⟨.int ys.length, H, I.tok _, ⟨s.toks + 1, by rw [List.size_toArray, hlen]⟩, q⟩
  · obtain ⟨its, r', pl, hz⟩ := I.tuple hq
    have hlen := r'.length
    exact len_tuple pl (by simp only [List.size_toArray] <;> omega) ⟨.int ys.length, H, I.tok _, ⟨s.toks + 1, by rw [List.size_toArray, hlen]⟩, q⟩
theorem call_len_str : CallR X (.builtin "len") (fun xs H Q => ∃ z, xs = [.str z] ∧ z.length ≤ sizeLine ∧ Q (.int z.length) H) := by
  intro pins s σ H xs us Q I r h
  obtain ⟨z, rfl, hz, q⟩ := h
  obtain ⟨u, rfl, t, rfl⟩ := vals1 r
  have hn := line63
  exact len_str (by omega) ⟨.int z.length, H, I.tok _, ⟨_, rfl⟩, q⟩
theorem CallR.or {f : Value} {r r' : List V → Hp → VK → Prop} (h : CallR X f r) (h' : CallR X f r') : CallR X f (fun xs H Q => r xs H Q ∨ r' xs H Q) := by
  intro pins s σ H xs us Q I rs q
  rcases q with q | q
  · exact h pins s σ H xs us Q I rs q
  · exact h' pins s σ H xs us Q I rs q
theorem call_list_of : CallR X (.type "list") (fun xs H Q => ∃ p ys, xs = [.ref p] ∧ (SqL X.K H p ys ∨ SqT X.K H p ys) ∧ ∀ l, H l = none → Q (.ref l) (upd H l (.lst ys))) := by
  intro pins s σ H xs us Q I r h
  obtain ⟨p, ys, rfl, hq, q⟩ := h
  obtain ⟨u, rfl, rx⟩ := vals1 r
  cases rx
  have fin : ∀ (its : List Value), Vals ys its → ys.length ≤ sizeLine → ∀ (h' : Heap) (c' : Nat), (∀ b o', s.heap.get? b = some o' → h'.get? b = some o') →
      h'.get? s.heap.objs.size = some { cls := .type "list", dict := none, data := .seq its.toArray c', slots := #[] } → EP X pins σ Q (.ref s.heap.objs.size) { s with heap := h' } := fun its r' hz h' c' kp e =>
    ⟨.ref s.heap.objs.size, _, I.laid (t' := s.toks) kp (Nat.le_refl _) (show ObjOk X.prog X.w _ h' _ (.lst ys) from ⟨hz, its, c', r', e⟩), rfl, q _ (I.hok.fresh (Nat.le_refl _))⟩
  rcases hq with hq | hq
  · obtain ⟨its, r', pl, hz⟩ := I.list hq
    have hlen := r'.length
    obtain ⟨o, ho, hc, n, hd⟩ := pl.isList
    exact call_list_seq p (.inl rfl) ho hc hd (fun h' c' kp e => fin its r' hz h' c' kp e) (by simp only [List.size_toArray] <;> omega)
  · obtain ⟨its, r', pl, hz⟩ := I.tuple hq
    have hlen := r'.length
    obtain ⟨o, ho, hc, n, hd⟩ := pl
    exact call_list_seq p (.inr rfl) ho hc hd (fun h' c' kp e => fin its r' hz h' c' kp e) (by simp only [List.size_toArray] <;> omega)
theorem call_tuple_of : CallR X (.type "tuple") (fun xs H Q => ∃ p ys, xs = [.ref p] ∧ ((SqL X.K H p ys ∧ ∀ l, H l = none → Q (.ref l) (upd H l (.tup ys))) ∨ (SqT X.K H p ys ∧ Q (.ref p) H))) := by
  intro pins s σ H xs us Q I r h
  obtain ⟨p, ys, rfl, h⟩ := h
  obtain ⟨u, rfl, rx⟩ := vals1 r
  cases rx
  rcases h with ⟨hq, q⟩ | ⟨hq, q⟩
  · obtain ⟨its, r', pl, hz⟩ := I.list hq
    have hlen := r'.length
    refine call_tuple_list pl.isList (fun h' kp => ?_) (by simp only [List.size_toArray] <;> omega)
    have I1 : Inv X pins σ H { s with heap := h' } := I.kept (t' := s.toks) kp
    have I2 : Inv X pins σ (upd H h'.objs.size (.tup ys)) { s with heap := h'.push { cls := .type "tuple", data := .seq its.toArray } } :=
      I1.laid (t' := s.toks) (fun b o e => Heap.get?_push_of_some _ e) (Nat.le_refl _) (show ObjOk X.prog X.w _ _ _ (.tup ys) from ⟨hz, its, r', IsTup.new _ _⟩)
    exact ⟨.ref h'.objs.size, _, I2, rfl, q _ (I1.hok.fresh (Nat.le_refl _))⟩
  · obtain ⟨its, r', pl, hz⟩ := I.tuple hq
    exact call_tuple_same pl ⟨.ref p, H, I, rfl, q⟩

/-! ### the call of a builtin's method: o.m(..) -/
/-- the value is of that builtin type -/
def tyV (K : PySem.W.Frag) (T : String) (x : V) (H : Hp) : Prop := match x with
  | .str _ => T = "str"
  | .int _ => T = "int"
  | .ref p => (T = "list" ∧ ∃ xs, SqL K H p xs) ∨ (T = "tuple" ∧ ∃ o, K.lookup p = some o ∧ o.cls = .type "tuple" ∧ o.dict = none) ∨
      (T = "dict" ∧ ((∃ kvs, H p = some (.dK kvs)) ∨ ∃ kvs, H p = some (.dT kvs))) ∨ (T = "set" ∧ ∃ S n, H p = some (.set S n))
  | _ => False
theorem tyV_is {pins : List (Addr × Obj)} {σ : St} {H : Hp} {s : Shared} {T : String} {x : V} {v : Value} (I : Inv X pins σ H s) (r : RelV x v) (ty : tyV X.K T x H) :
    s.TypeIs v T ∧ ∀ a, v = .ref a → ∃ ob, s.heap.get? a = some ob ∧ ob.dict = none := by
  cases x with
  | str z =>
    obtain ⟨t, rfl⟩ := r
    cases (show T = "str" from ty)
    exact ⟨typeIs_str s z t, fun _ e => nomatch e⟩
  | int i =>
    obtain ⟨t, rfl⟩ := r
    cases (show T = "int" from ty)
    exact ⟨typeIs_int s i t, fun _ e => nomatch e⟩
  | ref p =>
    cases r
    rcases ty with ⟨rfl, xs, hq⟩ | ⟨rfl, o, hk, hc, hd⟩ | ⟨rfl, hk⟩ | ⟨rfl, S, n, hk⟩
    · obtain ⟨its, _, pl, _⟩ := I.list hq
      refine ⟨pl.isList.typeIs, fun a e => ?_⟩
      cases e
      obtain ⟨o, n, e, c, hd, _⟩ := pl
      exact ⟨o, e, hd⟩
    · refine ⟨⟨o, I.kIn p o hk, hc⟩, fun a e => ?_⟩
      cases e
      exact ⟨o, I.kIn _ o hk, hd⟩
    · have z : ∃ o, s.heap.get? p = some o ∧ o.ExactDict := by
        rcases hk with ⟨kvs, hk⟩ | ⟨kvs, hk⟩
        · obtain ⟨_, _, _, _, o, _, _, e, ex, _⟩ := I.hok p _ hk
          exact ⟨o, e, ex⟩
        · obtain ⟨_, _, _, _, o, _, _, e, ex, _⟩ := I.hok p _ hk
          exact ⟨o, e, ex⟩
      obtain ⟨o, e, ex⟩ := z
      refine ⟨⟨o, e, ex.1⟩, fun a e2 => ?_⟩
      cases e2
      exact ⟨o, e, ex.2.1⟩
    · obtain ⟨o, _, _, _, e, ex, _⟩ := I.hok p _ hk
      refine ⟨⟨o, e, ex.1⟩, fun a e2 => ?_⟩
      cases e2
      exact ⟨o, e, ex.2.1⟩
  | _ => exact False.elim ty
def tBM0 (K : PySem.W.Frag) (T : String) (r : V → List V → Hp → VK → Prop) (to : TE) : TE := fun σ H Q => to σ H fun x H1 => tyV K T x H1 ∧ r x [] H1 Q
def tBM (K : PySem.W.Frag) (T : String) (r : V → List V → Hp → VK → Prop) (to : TE) (t : TA) : TE := fun σ H Q => to σ H fun x H1 => tyV K T x H1 ∧ t σ H1 fun xs H2 => r x xs H2 Q
variable {o e : Expr} {es : List Expr} {to : TE} {t : TA} {name : Str} {apos cpos : Pos} {T id : String} {r : V → List V → Hp → VK → Prop}
theorem pe_bm0 (pa : PlainAttrs T) (slot : Slot T name id) (hty : typeOf (.builtin id) = pure (.type "method_descriptor")) (hm : MtR X id r) (ho : PE X o to)
    (hbase : attributeBase o name X.env (eval o X.env) = eval o X.env := by rfl) (hline : (apos.endLine == cpos.line) = true := by rfl) : PE X (.Call (.Attribute o name apos) [] [] cpos) (tBM0 X.K T r to) := by
  intro pins s σ H Q I h
  refine wpAny_Call_method0_late hbase hline (thn (ho pins s σ H _ I h) fun v s1 ⟨x, H1, I1, r1, ty, q1⟩ => ?_)
  obtain ⟨h1, h2⟩ := tyV_is I1 r1 ty
  exact ⟨T, id, pa, slot, hty, h1, h2, Calls.callWith_builtin rfl (PySem.evalArgs_none (hm pins s1 σ H1 x [] v [] Q I1 r1 .nil q1))⟩
theorem pe_bm (pa : PlainAttrs T) (slot : Slot T name id) (hty : typeOf (.builtin id) = pure (.type "method_descriptor")) (hm : MtR X id r) (ho : PE X o to) (ha : PA X (e :: es) t)
    (hbase : attributeBase o name X.env (eval o X.env) = eval o X.env := by rfl)
    (hfew : ((backTo cpos (starEach (e :: es) X.env)).all (fun x => !x.1) && (backToKw cpos (keywordEach [] X.env)).all (fun x => x.1.isSome)
      && decide ((e :: es).length + ([] : List Keyword).length + (if ([] : List Keyword).isEmpty then 0 else 1) < 30)) = true := by rfl)
    (hline : (apos.endLine == cpos.line) = true := by rfl) (hs : starEach (e :: es) X.env = (false, eval e X.env) :: starEach es X.env := by rfl) (hplain : (backTo cpos (starEach es X.env)).any (·.1) = false := by rfl) :
    PE X (.Call (.Attribute o name apos) (e :: es) [] cpos) (tBM X.K T r to t) := by
  intro pins s σ H Q I h
  refine wpAny_Call_method_late hbase hfew hline rfl (thn (ho pins s σ H _ I h) fun v s1 ⟨x, H1, I1, r1, ty, q1⟩ => ?_)
  obtain ⟨h1, h2⟩ := tyV_is I1 r1 ty
  refine ⟨T, id, pa, slot, hty, h1, h2, ?_⟩
  have hA := ha cpos pins s1 σ H1 _ I1 q1
  rw [hs] at hA ⊢
  refine Calls.callWith_builtin (by show (false || (backTo cpos (starEach es X.env)).any (·.1)) = false; rw [hplain] <;> rfl) (Calls.evalArgs_plain ?_)
  exact thn hA fun us s2 ⟨vs, H2, I2, r2, q2⟩ => hm pins s2 σ H2 x vs v us Q I2 r1 r2 q2
/- xs.append(e), list.index on a module's tuple .. are MtR facts of 06m -/
end
end L2

namespace L2
open PySem PySem.Spec PyProof.Rows

def MtM (X : Cx) (id : String) (r : V → List V → Hp → VK → Prop) : Prop :=
  ∀ (pins : List (Addr × Obj)) (s : Shared) (σ : St) (H : Hp) (x : V) (xs : List V) (v : Value) (us : List Value) (Q : VK), Inv X pins σ H s → RelV x v → Vals xs us → r x xs H Q →
    wpAny (model X.prog X.w) X.A (call (.builtin id) (v :: us)) (EP X pins σ Q) X.xe s

/-! ### lists of values -/
theorem Vals.one : ∀ {x : V} {us : List Value}, Vals [x] us → ∃ u, us = [u] ∧ RelV x u
  | _, _, .cons r .nil => ⟨_, rfl, r⟩
theorem Vals.two : ∀ {x y : V} {us : List Value}, Vals [x, y] us → ∃ u v, us = [u, v] ∧ RelV x u ∧ RelV y v
  | _, _, _, .cons r (.cons q .nil) => ⟨_, _, rfl, r, q⟩
theorem Vals.zero : ∀ {us : List Value}, Vals [] us → us = []
  | _, .nil => rfl
theorem Vals.dropLast {xs : List V} {us : List Value} (h : Vals xs us) : Vals xs.dropLast us.dropLast := by
  induction h with
  | nil => exact .nil
  | cons r t ih =>
    cases t with
    | nil => exact .nil
    | cons q t' => exact .cons r ih
theorem Vals.eraseIdx : ∀ {xs : List V} {us : List Value} (i : Nat), Vals xs us → Vals (xs.eraseIdx i) (us.eraseIdx i)
  | _, _, _, .nil => .nil
  | _, _, 0, .cons _ t => t
  | _, _, i + 1, .cons r t => .cons r (Vals.eraseIdx i t)
theorem Vals.reverse {xs : List V} {us : List Value} (h : Vals xs us) : Vals xs.reverse us.reverse := by
  induction h with
  | nil => exact .nil
  | cons r t ih => rw [List.reverse_cons, List.reverse_cons]; exact Vals.append ih (.cons r .nil)
theorem Vals.rep {xs : List V} {us : List Value} (h : Vals xs us) : ∀ k : Nat, Vals (List.replicate k xs).flatten (List.replicate k us).flatten
  | 0 => .nil
  | k + 1 => by
    rw [List.replicate_succ, List.replicate_succ, List.flatten_cons, List.flatten_cons]
    exact Vals.append h (Vals.rep h k)
theorem erase_last {α : Type} (l : List α) : l.eraseIdx (l.length - 1) = l.dropLast := by
  induction l with
  | nil => rfl
  | cons a r ih =>
    cases r with
    | nil => rfl
    | cons b r =>
      have e : (a :: b :: r).length - 1 = ((b :: r).length - 1) + 1 := by
        have h1 : (a :: b :: r).length = r.length + 2 := rfl
        have h2 : (b :: r).length = r.length + 1 := rfl
        omega
      rw [e, List.eraseIdx_cons_succ, ih]
      all_goals rfl
theorem len_erase {α : Type} : ∀ (l : List α) (i : Nat), (l.eraseIdx i).length ≤ l.length
  | [], _ => Nat.le_refl _
  | _ :: _, 0 => Nat.le_succ _
  | _ :: r, i + 1 => Nat.succ_le_succ (len_erase r i)
theorem foldl_rep (its : List Value) : ∀ (k : Nat) (acc : List Value),
    List.foldl (fun x1 x2 => x1 ++ x2) acc.toArray (List.replicate k its.toArray) = (acc ++ (List.replicate k its).flatten).toArray
  | 0, acc => by simp
  | k + 1, acc => by
    have e : acc.toArray ++ its.toArray = (acc ++ its).toArray := by simp
    have e2 : (acc ++ its) ++ (List.replicate k its).flatten = acc ++ (List.replicate (k + 1) its).flatten := by
      rw [List.replicate_succ, List.flatten_cons, List.append_assoc]
    rw [← e2, ← foldl_rep its k (acc ++ its), ← e, List.replicate_succ, List.foldl_cons]

section
variable {X : Cx} {pins : List (Addr × Obj)} {σ : St} {H : Hp} {s : Shared} {l b : Addr} {xs ys zs : List V}

/-! ### the two steps: a tracked list is rewritten, a new list is laid -/
theorem Inv.lset {its its' : List Value} {n : Nat} {f : Array Value → Array Value} {t' : Nat} (I : Inv X pins σ H s) (hH : H l = some (.lst xs))
    (e : s.heap.get? l = some { cls := .type "list", data := .seq its.toArray n }) (hf : f its.toArray = its'.toArray) (hv : Vals ys its') (hz : ys.length ≤ sizeLine) :
    Inv X pins σ (upd H l (.lst ys)) { s with heap := s.heap.update l (Obj.mapSeq f), toks := t' } := by
  have q := PySem.IsL.update e f
  rw [hf] at q
  refine I.write (x := l) (e := l) (by rw [hH]; exact trivial) (.inl rfl) (fun b' u hb hu => (Heap.get?_update_other s.heap (Obj.mapSeq f) (Ne.symm hb)).trans hu) ⟨_, q⟩ ?_
  exact ⟨hz, its', _, hv, q⟩
theorem Inv.lnew {its : List Value} {t' : Nat} (I : Inv X pins σ H s) (hv : Vals ys its) (hz : ys.length ≤ sizeLine) :
    Inv X pins σ (upd H s.heap.objs.size (.lst ys)) { s with heap := s.heap.push { cls := .type "list", data := .seq its.toArray }, toks := t' } :=
  I.laid (fun _ _ q => Heap.get?_push_of_some _ q) (Nat.le_refl _) ⟨hz, its, 0, hv, Heap.get?_push_size _ rfl⟩
theorem Inv.fresh (I : Inv X pins σ H s) : H s.heap.objs.size = none := I.hok.fresh (Nat.le_refl _)
theorem Inv.lstM (I : Inv X pins σ H s) (hH : H l = some (.lst xs)) : xs.length ≤ sizeLine ∧ ∃ (its : List Value) (n : Nat), Vals xs its ∧ xs.length = its.length ∧ s.heap.get? l = some { cls := .type "list", data := .seq its.toArray n } := by
  obtain ⟨z, its, n, r, e⟩ := I.hok l _ hH
  exact ⟨z, its, n, r, r.length, e⟩

theorem notLongL {n : Nat} (h : n ≤ sizeLine) : Builtin.List.listTooLong n = false := by
  unfold Builtin.List.listTooLong
  exact decide_eq_false (by omega)
end

section
variable {X : Cx}

/-! ### methods -/
def rAppend : V → List V → Hp → VK → Prop := fun x vs H Q => ∃ l xs y, x = .ref l ∧ vs = [y] ∧ H l = some (.lst xs) ∧ xs.length < sizeLine ∧ Q .non (upd H l (.lst (xs ++ [y])))
theorem mt_append : MtM X "list.append" rAppend := by
  intro pins s σ H x vs v us Q I rx rv h
  obtain ⟨l, xs, y, rfl, rfl, hH, hz, q⟩ := h
  cases rx
  obtain ⟨u, rfl, ru⟩ := rv.one
  obtain ⟨z, its, n, r, hl, e⟩ := I.lstM hH
  refine call_meets F.slot_list_append ⟨_, e, rfl⟩ F.entry_list_append (F.args_list_append_2 _ _) (PySem.list_append l its.toArray n u (by rw [List.size_toArray]; omega)) ⟨e, ?_⟩
  refine ⟨.non, _, I.lset (its' := its ++ [u]) hH e (by simp) (r.append (.cons ru .nil)) ?_, rfl, q⟩
  rw [List.length_append, List.length_singleton]
  omega

def rExtend : V → List V → Hp → VK → Prop := fun x vs H Q => ∃ l b xs zs, x = .ref l ∧ vs = [.ref b] ∧ H l = some (.lst xs) ∧ H b = some (.lst zs) ∧ xs.length + zs.length ≤ sizeLine ∧ Q .non (upd H l (.lst (xs ++ zs)))
theorem mt_extend : MtM X "list.extend" rExtend := by
  intro pins s σ H x vs v us Q I rx rv h
  obtain ⟨l, b, xs, zs, rfl, rfl, hH, hB, hz, q⟩ := h
  cases rx
  obtain ⟨u, rfl, ru⟩ := rv.one
  cases ru
  obtain ⟨z, its, n, r, hl, e⟩ := I.lstM hH
  obtain ⟨z2, its2, n2, r2, hl2, e2⟩ := I.lstM hB
  have hsz : its.toArray.size + its2.toArray.size ≤ sizeLine := by rw [List.size_toArray, List.size_toArray]; omega
  have hlong : ¬ (!its.toArray.isEmpty && Builtin.List.listTooLong (its.toArray.size + its2.toArray.size)) = true := by
    rw [notLongL hsz, Bool.and_false]
    exact Bool.false_ne_true
  refine call_meets F.slot_list_extend ⟨_, e, rfl⟩ F.entry_list_extend (F.args_list_extend_2 _ _)
    (AutoSeq1.list_extend_list_list_0 l its.toArray n b its2.toArray n2 hlong (by rw [List.size_toArray]; omega) (by omega)) ⟨e, e2, ?_⟩
  refine ⟨.non, _, I.lset (its' := its ++ its2) hH e (by simp) (r.append r2) ?_, rfl, q⟩
  rw [List.length_append]
  omega

def rPop : V → List V → Hp → VK → Prop := fun x vs H Q => ∃ l xs y, x = .ref l ∧ vs = [] ∧ H l = some (.lst xs) ∧ xs[xs.length - 1]? = some y ∧ Q y (upd H l (.lst xs.dropLast))
theorem mt_pop : MtM X "list.pop" rPop := by
  intro pins s σ H x vs v us Q I rx rv h
  obtain ⟨l, xs, y, rfl, rfl, hH, hy, q⟩ := h
  cases rx
  have hus := rv.zero
  subst hus
  obtain ⟨z, its, n, r, hl, e⟩ := I.lstM hH
  obtain ⟨u, hu, ru⟩ := r.get hy
  have hy' : its.toArray[its.toArray.size - 1]? = some u := by
    show its.toArray[its.length - 1]? = some u
    rw [← Array.getElem?_toList, ← hl]
    exact hu
  refine call_meets F.slot_list_pop ⟨_, e, rfl⟩ F.entry_list_pop (F.args_list_pop_1 _) (MeetsSeq.list_pop_last l its.toArray n u hy' (by rw [List.size_toArray]; omega)) ⟨e, ?_⟩
  refine ⟨y, _, I.lset (its' := its.dropLast) hH e ?_ r.dropLast ?_, ru, q⟩
  · show its.toArray.eraseIdxIfInBounds (its.toArray.size - 1) = its.dropLast.toArray
    rw [List.size_toArray, List.eraseIdxIfInBounds_toArray, erase_last]
  · rw [List.length_dropLast]
    omega

def rPopAt : V → List V → Hp → VK → Prop := fun x vs H Q => ∃ l xs i k y, x = .ref l ∧ vs = [.int i] ∧ H l = some (.lst xs) ∧ -(2 ^ 63) ≤ i ∧ i < 2 ^ 63 ∧ seqIndex? i xs.length = some k ∧ xs[k]? = some y ∧ Q y (upd H l (.lst (xs.eraseIdx k)))
theorem mt_popAt : MtM X "list.pop" rPopAt := by
  intro pins s σ H x vs v us Q I rx rv h
  obtain ⟨l, xs, i, k, y, rfl, rfl, hH, h1, h2, hk, hy, q⟩ := h
  cases rx
  obtain ⟨u, rfl, ru⟩ := rv.one
  obtain ⟨t, rfl⟩ := ru
  obtain ⟨z, its, n, r, hl, e⟩ := I.lstM hH
  obtain ⟨w, hw, rw'⟩ := r.get hy
  refine call_meets F.slot_list_pop ⟨_, e, rfl⟩ F.entry_list_pop (F.args_list_pop_2 _ _)
    (MeetsSeq.list_pop_at l its.toArray n i t k w (fitsIndex_both h1 h2) (by rw [List.size_toArray, ← hl]; exact hk) (by rw [← Array.getElem?_toList]; exact hw) (by rw [List.size_toArray]; omega)) ⟨e, ?_⟩
  refine ⟨y, _, I.lset (its' := its.eraseIdx k) hH e ?_ (r.eraseIdx k) ?_, rw', q⟩
  · show its.toArray.eraseIdxIfInBounds k = (its.eraseIdx k).toArray
    rw [List.eraseIdxIfInBounds_toArray]
  · have := len_erase xs k
    omega

def rReverse : V → List V → Hp → VK → Prop := fun x vs H Q => ∃ l xs, x = .ref l ∧ vs = [] ∧ H l = some (.lst xs) ∧ Q .non (upd H l (.lst xs.reverse))
theorem mt_reverse : MtM X "list.reverse" rReverse := by
  intro pins s σ H x vs v us Q I rx rv h
  obtain ⟨l, xs, rfl, rfl, hH, q⟩ := h
  cases rx
  have hus := rv.zero
  subst hus
  obtain ⟨z, its, n, r, hl, e⟩ := I.lstM hH
  refine call_meets F.slot_list_reverse ⟨_, e, rfl⟩ F.entry_list_reverse (F.args_list_reverse_1 _) (AutoSeq1.list_reverse_list_0 l its.toArray n (by rw [List.size_toArray]; omega)) ⟨e, ?_⟩
  refine ⟨.non, _, I.lset (its' := its.reverse) hH e (by simp) r.reverse ?_, rfl, q⟩
  rw [List.length_reverse]
  omega

def rClear : V → List V → Hp → VK → Prop := fun x vs H Q => ∃ l xs, x = .ref l ∧ vs = [] ∧ H l = some (.lst xs) ∧ Q .non (upd H l (.lst []))
theorem mt_clear : MtM X "list.clear" rClear := by
  intro pins s σ H x vs v us Q I rx rv h
  obtain ⟨l, xs, rfl, rfl, hH, q⟩ := h
  cases rx
  have hus := rv.zero
  subst hus
  obtain ⟨z, its, n, r, hl, e⟩ := I.lstM hH
  refine call_meets F.slot_list_clear ⟨_, e, rfl⟩ F.entry_list_clear (F.args_list_clear_1 _) (AutoSeq1.list_clear_list_0 l its.toArray n (by rw [List.size_toArray]; omega)) ⟨e, ?_⟩
  exact ⟨.non, _, I.lset (its' := []) (ys := []) hH e rfl .nil (Nat.zero_le _), rfl, q⟩

/-! ### list + list, list += list, list * int -/
def rCat : R2 := fun x y H Q => ∃ l b xs zs, x = .ref l ∧ y = .ref b ∧ H l = some (.lst xs) ∧ H b = some (.lst zs) ∧ xs.length + zs.length ≤ sizeLine ∧ ∀ p, H p = none → Q (.ref p) (upd H p (.lst (xs ++ zs)))
theorem op_cat : OpR X (binaryOp .Add) rCat := by
  intro pins s σ H x y v u Q I rx ry h
  obtain ⟨l, b, xs, zs, rfl, rfl, hH, hB, hz, q⟩ := h
  cases rx
  cases ry
  obtain ⟨z, its, n, r, hl, e⟩ := I.lstM hH
  obtain ⟨z2, its2, n2, r2, hl2, e2⟩ := I.lstM hB
  refine PySem.P.add_list e e2 ?_ (by rw [List.size_toArray, List.size_toArray]; omega)
  have ea : its.toArray ++ its2.toArray = (its ++ its2).toArray := by simp
  rw [ea]
  exact ⟨.ref _, _, I.lnew (t' := s.toks) (r.append r2) (by rw [List.length_append]; omega), rfl, q _ I.fresh⟩
/-- a list times an int (a negative one is nothing) -/
def rRep : R2 := fun x y H Q => ∃ l k xs, x = .ref l ∧ y = .int k ∧ H l = some (.lst xs) ∧ -(2 ^ 63) ≤ k ∧ k < 2 ^ 63 ∧ xs.length * k.toNat ≤ sizeLine ∧
  ∀ p, H p = none → Q (.ref p) (upd H p (.lst (List.replicate k.toNat xs).flatten))
theorem len_rep {α : Type} (xs : List α) (k : Nat) : (List.replicate k xs).flatten.length = k * xs.length := by
  induction k with
  | zero => simp
  | succ k ih => rw [List.replicate_succ, List.flatten_cons, List.length_append, ih, Nat.succ_mul, Nat.add_comm]
theorem op_rep : OpR X (binaryOp .Mult) rRep := by
  intro pins s σ H x y v u Q I rx ry h
  obtain ⟨l, k, xs, rfl, rfl, hH, h1, h2, hz, q⟩ := h
  cases rx
  obtain ⟨t, rfl⟩ := ry
  obtain ⟨z, its, n, r, hl, e⟩ := I.lstM hH
  have hlen : its.toArray.size * k.toNat ≤ sizeLine := by rw [List.size_toArray, ← hl]; exact hz
  have hcap : ¬ its.toArray.size * k.toNat > (2 ^ 63 - 1) / 8 := by
    have : (sizeLine : Nat) ≤ (2 ^ 63 - 1) / 8 := by decide
    omega
  have hfit : ¬ (!Builtin.List.listFitsIndex k) = true := by
    rw [fitsIndex_both h1 h2]
    exact Bool.false_ne_true
  have hlong : ¬ Builtin.List.listTooLong (its.toArray.size * k.toNat) = true := by
    rw [notLongL hlen]
    exact Bool.false_ne_true
  have hnew : List.foldl (fun x1 x2 => x1 ++ x2) #[] (List.replicate (if its.toArray.isEmpty = true then 0 else k.toNat) its.toArray) = (List.replicate k.toNat its).flatten.toArray := by
    have f0 : ∀ m : Nat, List.foldl (fun x1 x2 => x1 ++ x2) #[] (List.replicate m its.toArray) = (List.replicate m its).flatten.toArray := fun m => by
      have := foldl_rep its m []
      rw [List.nil_append] at this
      exact this
    rw [f0]
    cases its with
    | nil => simp
    | cons a r' => rw [if_neg (by simp)]
  refine wpAny_binaryOp_repeat_ref (T := "list") (U := "int") (by decide) ⟨_, e, rfl⟩ (fun s' => typeIs_int s' k t) noFill_list_mul F.fills_int_mul F.slot_int_rmul repeat_list F.slot_int_index.lookup
    (call_meets F.slot_int_rmul (typeIs_int s k t) F.entry_int_rmul (F.args_int_rmul_2 _ _) (int___rmul___int_list k t l its.toArray n)
      ⟨e, rfl, ⟨_, e, rfl⟩, call_meets F.slot_list_mul ⟨_, e, rfl⟩ F.entry_list_mul (F.args_list_mul_2 _ _) (AutoListH.list___mul___list_int_3 l its.toArray n k t hfit hcap hlong) ⟨e, ?_⟩⟩)
  rw [hnew]
  exact ⟨.ref _, _, I.lnew (t' := s.toks) (r.rep k.toNat) (by rw [len_rep, Nat.mul_comm]; exact hz), rfl, q _ I.fresh⟩

/-! ### del xs[i] -/
theorem del_list {pins : List (Addr × Obj)} {s : Shared} {σ : St} {H : Hp} {l : Addr} {xs : List V} {i : Int} {t : Tok} {k : Nat} {Q : Unit → Shared → Prop} (I : Inv X pins σ H s) (hH : H l = some (.lst xs))
    (h1 : -(2 ^ 63) ≤ i) (h2 : i < 2 ^ 63) (hk : seqIndex? i xs.length = some k) (h : ∀ s', Inv X pins σ (upd H l (.lst (xs.eraseIdx k))) s' → Q () s') :
    wpAny (model X.prog X.w) X.A (delItem (.ref l) (.int i t)) Q X.xe s := by
  obtain ⟨z, its, n, r, hl, e⟩ := I.lstM hH
  refine PySem.P.delItem_list (k := k) e (fitsIndex_both h1 h2) (by rw [List.size_toArray, ← hl]; exact hk) (h _ ?_) (by rw [List.size_toArray]; omega)
  refine I.lset (its' := its.eraseIdx k) (t' := s.toks) hH e ?_ (r.eraseIdx k) ?_
  · show its.toArray.eraseIdxIfInBounds k = (its.eraseIdx k).toArray
    rw [List.eraseIdxIfInBounds_toArray]
  · have := len_erase xs k
    omega
end

/-! ### xs[a:b] = ys -/
section
variable {prog : Program} {w : World} {A : Around} {E : Value → Shared → Prop} {s : Shared}
theorem splice_eq (its its2 : List Value) (a c : Nat) : its.toArray.extract 0 a ++ its2.toArray ++ its.toArray.extract c its.toArray.size = (its.take a ++ its2 ++ its.drop c).toArray := by
  apply Array.toList_inj.mp
  first
    | (simp
       exact List.take_of_length_le (by simp))
    | simp [List.take_of_length_le]
    | simp
theorem bounds_run {a c n : Nat} (hac : a ≤ c) (hc : c ≤ n) : sliceBounds (some (a : Int)) (some (c : Int)) none n = ((a : Int), (c : Int), 1) := by
  simp only [sliceBounds, Option.getD_none]
  have h1 : ¬ ((a : Int) < 0) := by omega
  have h2 : ¬ ((c : Int) < 0) := by omega
  simp only [h1, h2, if_false, show (1 : Int) > 0 by decide, if_true]
  congr 1
  · omega
  · congr 1; omega
set_option maxRecDepth 100000 in
/-- list.__setitem__ with a slice of step one and another list -/
theorem setItem_slice {l b sl : Addr} {items new : Array Value} {n n2 : Nat} {vl vu : Value} {a c : Nat} {Q : Unit → Shared → Prop}
    (e : s.heap.get? l = some { cls := .type "list", data := .seq items n }) (e2 : s.heap.get? b = some { cls := .type "list", data := .seq new n2 }) (hne : l ≠ b)
    (hs : s.heap.IsSliceOf sl vl vu .none) (pl : IsPart vl (some (a : Int))) (pu : IsPart vu (some (c : Int))) (hac : a ≤ c) (hc : c ≤ items.size)
    (hsz : items.size + new.size ≤ sizeLine) (h : Q () { s with heap := s.heap.update l (Obj.mapSeq fun xs => xs.extract 0 a ++ new ++ xs.extract c xs.size) }) :
    wpAny (model prog w) A (setItem (.ref l) (.ref sl) (.ref b)) Q E s := by
  have hl : s.heap.IsList l items := PySem.IsL.isList e
  have hb : s.heap.IsList b new := PySem.IsL.isList e2
  obtain ⟨os, hos, hcs, hds⟩ := id hs
  have hTs : s.TypeIs (.ref sl) "slice" := ⟨os, hos, hcs⟩
  have hstep : ¬ ((rawPart none == rawInt 0) = true) := Bool.false_ne_true
  have hsame : Builtin.List.listSameRef (.ref l) (.ref b) = false := by
    unfold Builtin.List.listSameRef
    exact beq_eq_false_iff_ne.mpr hne
  have hmax : (max (a : Int) (c : Int)).toNat = c := by omega
  have hz' : ((fun xs : Array Value => xs.extract 0 a ++ new ++ xs.extract c xs.size) items).size ≤ sizeLine + 1 := by
    simp only [Array.size_append, Array.size_extract]
    omega
  unfold setItem
  try with_reducible refine wpAny_holding ?_
  first | refine wpAny_bind (wpAny_pure ?_) | skip
  refine wpAny_bind (wpAny_sequenceKey hl.typeIs (by decide) ?_)
  refine wpAny_bind (wpAny_callSpecial?_slot (name := Str.ofString "__setitem__") hl.typeIs slot_list_setitem
    (wpAny_call_entry slot_list_setitem hl.typeIs entry_list_setitem ?_ (args_list_setitem _ _ _)))
  show wpAny _ _ (Builtin.List.listSubscript? (.ref sl) >>= _) _ _ s
  refine wpAny_bind ?_
  unfold Builtin.List.listSubscript?
  refine wpAny_bind (wpAny_specialOf hTs slice_no_index ?_)
  simp only [Option.isNone_none, if_true]
  refine wpAny_pure ?_
  show wpAny _ _ (typeOf (.ref sl) >>= _) _ _ s
  refine wpAny_bind (wpAny_typeOf hTs ?_)
  first
    | rw [if_neg (by decide)]
    | refine PySem.W.KFB.if_not (by decide) ?_
  rw [listSliceParts_eq]
  refine wpAny_bind (wpAny_bind (wpAny_field hos hds (x := .none) rfl (wpAny_bind (wpAny_listPart .none ?_))))
  rw [if_neg hstep]
  refine wpAny_bind (wpAny_field hos hds (x := vl) rfl (wpAny_bind (wpAny_listPart pl ?_)))
  refine wpAny_bind (wpAny_field hos hds (x := vu) rfl (wpAny_bind (wpAny_listPart pu (wpAny_pure ?_))))
  first
    | simp only [hsame, Bool.false_eq_true, if_false]
    | refine PySem.W.KFB.if_not hsame ?_
    | (dsimp only
       rw [if_neg (by rw [hsame]; exact Bool.false_ne_true)])
  refine wpAny_bind (m := Builtin.List.listAllItems (.ref b) "must assign iterable to extended slice") ?_
  unfold Builtin.List.listAllItems
  refine wpAny_bind (wpAny_typeOf hb.typeIs ?_)
  first
    | refine PySem.W.KFB.if_so (by decide) ?_
    | rw [if_pos (by decide)]
    | simp only [beq_self_eq_true, Bool.true_or, if_true]
  unfold Builtin.List.listItems
  refine wpAny_bind (wpAny_seqItems e2 rfl (wpAny_pure ?_))
  refine wpAny_bind (wpAny_bind (wpAny_seqItems e rfl (wpAny_pure ?_)))
  refine wpAny_bind (wpAny_of_eq ((sliceIndices_raw (some (a : Int)) (some (c : Int)) none items.size (by simp)).trans (congrArg (pure : Int × Int × Int → Sem (Int × Int × Int)) (bounds_run hac hc))) ?_)
  show wpAny _ _ (if ((1 : Int) == 1) = true then _ else _) _ _ s
  rw [if_pos (by decide)]
  refine wpAny_bind (wpAny_rule ?_)
  first
    | simp only [notLongL hsz, Bool.false_eq_true, if_false]
    | refine PySem.W.KFB.if_not (notLongL hsz) ?_
  first | refine wpAny_bind (wpAny_pure ?_) | skip
  show wpAny _ _ (updateSeq l (fun xs => xs.extract 0 ((a : Int)).toNat ++ new ++ xs.extract (max (a : Int) (c : Int)).toNat xs.size) >>= _) _ _ s
  rw [hmax, Int.toNat_natCast]
  refine wpAny_bind (wpAny_updateSeq (hz := Nat.le_trans (Nat.le_add_right _ _) hsz) (_hz' := hz') e rfl ?_)
  refine wpAny_bind (wpAny_letGo ?_)
  first
    | exact wpAny_bind (wpAny_pure (wpAny_pure ⟨.none, rfl, wpAny_pure h⟩))
    | exact wpAny_pure ⟨.none, rfl, wpAny_pure h⟩
end

section
variable {X : Cx}
/-- xs[a:c] = ys of another list, at the value level: sl is the slice object that was just made -/
theorem set_slice {pins : List (Addr × Obj)} {s : Shared} {σ : St} {H : Hp} {l b sl : Addr} {xs ys : List V} {a c : Int} {vl vu : Value} {Q : Unit → Shared → Prop} (I : Inv X pins σ H s)
    (hH : H l = some (.lst xs)) (hB : H b = some (.lst ys)) (hne : l ≠ b) (hs : s.heap.IsSliceOf sl vl vu .none) (ra : RelV (.int a) vl) (rc : RelV (.int c) vu) (h0 : 0 ≤ a) (hac : a ≤ c) (hc : c ≤ xs.length)
    (hz : xs.length + ys.length ≤ sizeLine) (h : ∀ s', Inv X pins σ (upd H l (.lst (xs.take a.toNat ++ ys ++ xs.drop c.toNat))) s' → Q () s') :
    wpAny (model X.prog X.w) X.A (setItem (.ref l) (.ref sl) (.ref b)) Q X.xe s := by
  obtain ⟨ta, rfl⟩ := ra
  obtain ⟨tc, rfl⟩ := rc
  obtain ⟨z, its, n, r, hl, e⟩ := I.lstM hH
  obtain ⟨z2, its2, n2, r2, hl2, e2⟩ := I.lstM hB
  obtain ⟨a', rfl⟩ := Int.eq_ofNat_of_zero_le h0
  obtain ⟨c', rfl⟩ := Int.eq_ofNat_of_zero_le (Int.le_trans h0 hac)
  simp only [Int.toNat_natCast] at h
  refine setItem_slice (a := a') (c := c') e e2 hne hs (.int _ _) (.int _ _) (by omega) (by rw [List.size_toArray]; omega) (by rw [List.size_toArray, List.size_toArray]; omega) (h _ ?_)
  refine I.lset (its' := its.take a' ++ its2 ++ its.drop c') (t' := s.toks) hH e ?_ (Vals.append (Vals.append (r.take _) r2) (r.drop _)) ?_
  · exact splice_eq its its2 a' c'
  · rw [List.length_append, List.length_append, List.length_take, List.length_drop]
    omega
end
end L2

namespace Att
open PySem PySem.W PySem.Calls PyProof.Rows

/-! ### the script -/
theorem ints_of_wellAll {P : Params} {h : Heap} : ∀ (ns : List Int) (vs : List Value), WellAll P h vs (ns.map WData.int) → IntsAre vs ns := by
  intro ns
  induction ns with
  | nil =>
    intro vs w
    rw [List.map_nil] at w
    cases w
    exact .nil
  | cons n ns ih =>
    intro vs w
    rw [List.map_cons] at w
    cases w with
    | cons a b =>
      cases a
      exact .cons _ _ (ih _ b)

theorem script_of {l : OpenLaw} {n : Nat} (hn : l.most = some n) {P : Params} {h : Heap} {args : List WData} {vals : List Value}
    (hpre : l.row.toRowW.claim.pre args = true) (hwl : WellAll P h vals args) :
    ∃ a vs ns, vals = [Value.ref a] ∧ args = [WData.list (ns.map WData.int)] ∧ h.get? a = some { cls := .type "list", data := .seq vs.toArray } ∧ IntsAre vs ns ∧ ns.length ≤ n := by
  have hsh : WShape.hasAll [] args [.list .int] = true := (pre_splitW hpre).1
  have hc : l.pre.holds [] { args := args } = true := (pre_splitW hpre).2
  obtain ⟨d, r, rfl, h1, h2⟩ := hasAllW_cons hsh
  obtain rfl := hasAllW_nil h2
  obtain ⟨xs, rfl, h3⟩ := hasW_list h1
  obtain ⟨ns, rfl⟩ := items_int h3
  have hlen : ns.length ≤ n := by
    unfold OpenLaw.pre at hc
    have h4 : (WTm.not (.lt (.lit (.int (n : Int))) (.len (.arg 0)))).holds [] { args := [.list (ns.map .int)] } = true := by
      have h4 := (holds_andW hc).1
      rw [hn] at h4
      exact h4
    have h5 := condW_of h4 (w_not (w_lt w_lit (w_len_list (w_arg rfl))))
    rw [List.length_map] at h5
    refine Nat.le_of_not_lt fun q => ?_
    have q' : (n : Int) < ((ns.length : Nat) : Int) := by omega
    first
      | (rw [decide_eq_true q'] at h5; exact absurd h5 (by decide))
      | (simp at h5; omega)
  cases hwl with
  | cons w1 w2 =>
    cases w2
    cases w1 with
    | list ho hall => exact ⟨_, _, ns, rfl, rfl, ho, ints_of_wellAll ns _ hall, hlen⟩

theorem post_true (l : OpenLaw) (args : List WData) : l.row.toRowW.claim.post args (.bool true) args = true :=
  postW_of (r := l.row.toRowW) (X := (true == true))
    (show WShape.has [] (.bool true) .bool = true by first | rfl | decide | simp [WShape.has, WShape.arms, WShape.armsAll])
    (show (WTm.eq .res (.lit (.bool true))).value [] { args := args, res := some (.bool true), after := args } = some (.bool (true == true)) from w_eq_bool (w_res rfl) w_lit) rfl

/-! ### the attachment: holds_open's last premise (the goal 'hc' behind k_head) from a wpAny of the law's body -/
theorem attach {l : OpenLaw} {n : Nat} {q : Program} {loose : List Str} {XP : (Str → Option Value) → Heap → Prop} {YP : World → Heap → Prop} {d : DefRec} {x : Str}
    (hn : l.most = some n) (hdf : d.params.defaults = [])
    (hbind : ∀ pm cd doc v : Value, bindArgs (docDef d.name d.params d.body d.scope pm cd doc) ⟨[v], []⟩ = pure [(x, v)])
    (hx : d.scope.names.lookup x = some .local ∨ d.scope.names.lookup x = some .cell)
    (hk : d.scope.kind = .function) (hco : d.scope.isCoroutine = false) (hgen : d.scope.isGenerator = false)
    (body : ∀ (w : World) (s₀ s₁ s : Shared) (mg mb : Str → Option Value) (fa : Addr) (o : Obj) (pm cd doc : Value) (a : Addr) (vs : List Value) (ns : List Int),
      Ground q loose [] XP w s₀ mg mb s₁.heap → YP w s₁.heap →
      s₁.heap.get? fa = some o → o.data = .func (docDef d.name d.params d.body d.scope pm cd doc) → s₁.heap.CodeRec cd d.name → mg d.name = some (.ref fa) →
      s₁.heap.get? a = some { cls := .type "list", data := .seq vs.toArray } → IntsAre vs ns → ns.length ≤ n →
      s.gens = #[] → s.os = s₁.os →
      Fr s₁.heap s₁.heap.objs.size s.heap (bindL (envOfC d.name d.scope s₁.heap.objs.size fa cd).kindOf [(x, .ref a)] fun _ => none) →
      Cl s₁.heap.objs.size (cellsFrom (s₁.heap.objs.size + 1) d.scope.names []) s.heap (bindC (envOfC d.name d.scope s₁.heap.objs.size fa cd).kindOf [(x, .ref a)] fun _ => none) →
      wpAny (model l.prog w) (callerA.deeper (envOfC d.name d.scope s₁.heap.objs.size fa cd)) (execs d.body (envOfC d.name d.scope s₁.heap.objs.size fa cd))
        (fun f s' => f = .ret (.bool true) ∧ OldK s₁.heap s'.heap ∧ s'.os = s₁.os ∧ AllBare s'.gens) (fun _ _ => False) s) :
    WalkO q loose XP YP l.row.toRowW d [] (fun f vs => PySem.call f vs) := by
  intro w s₀ s₁ mg mb G Y fa o pm cd doc dV kV ho hd hcd hD hmg hg args vals as hpre hlay hrd hwl hlo
  obtain rfl : dV = .none := Dflts.none hD hdf
  obtain rfl : kV = .none := Dflts.noKw hD
  obtain ⟨a, vs, ns, rfl, rfl, hobj, hints, hlen⟩ := script_of hn hpre hwl
  refine enter_call ?_
  refine call_cells_ret (o := o) (by rw [depth_caller]; decide) ho (fd_plain hd) G.T.nolimit hcd (hbind pm cd doc (.ref a)) (fun y hy => ?_) (fun h₁ tk F X => ?_) hco hgen hk
  · obtain rfl : y = (x, Value.ref a) := List.mem_singleton.mp hy
    rcases hx with e | e
    · exact .inl e
    · exact .inr ⟨e, cellsFrom_some _ _ _ (.inl e)⟩
  · refine wpAny_mono (body w s₀ s₁ { s₁ with heap := h₁, toks := tk } mg mb fa o pm cd doc a vs ns G Y ho (fd_plain hd) hcd hmg hobj hints hlen hg rfl F X) (fun f s' hq => ?_) (fun _ _ hq => hq)
    obtain ⟨rfl, h2, h3, h4⟩ := hq
    exact ⟨.inl ⟨.bool true, .bool true, [], rfl, fun _ => rfl, .bool true, post_true l _, fun _ => ⟨List.Pairwise.nil, fun _ hm => (nomatch hm)⟩⟩, h2, h3, h4⟩

/-- the same from a codeAny of the CALL (for a layer whose function contracts speak of calls) -/
theorem attach_call {l : OpenLaw} {n : Nat} {q : Program} {loose : List Str} {XP : (Str → Option Value) → Heap → Prop} {YP : World → Heap → Prop} {d : DefRec}
    (hn : l.most = some n) (hdf : d.params.defaults = [])
    (call : ∀ (w : World) (s₀ s₁ : Shared) (mg mb : Str → Option Value) (fa : Addr) (o : Obj) (pm cd doc : Value) (a : Addr) (vs : List Value) (ns : List Int),
      Ground q loose [] XP w s₀ mg mb s₁.heap → YP w s₁.heap →
      s₁.heap.get? fa = some o → o.data = .func (docDef d.name d.params d.body d.scope pm cd doc) → s₁.heap.CodeRec cd d.name → mg d.name = some (.ref fa) →
      s₁.heap.get? a = some { cls := .type "list", data := .seq vs.toArray } → IntsAre vs ns → ns.length ≤ n → s₁.gens = #[] →
      codeAny (model l.prog w) callerA (.call (.ref fa) ⟨[.ref a], []⟩) (fun r s' => r = .ok (.ret (.bool true)) ∧ OldK s₁.heap s'.heap ∧ s'.os = s₁.os ∧ AllBare s'.gens) s₁) :
    WalkO q loose XP YP l.row.toRowW d [] (fun f vs => PySem.call f vs) := by
  intro w s₀ s₁ mg mb G Y fa o pm cd doc dV kV ho hd hcd hD hmg hg args vals as hpre hlay hrd hwl hlo
  obtain rfl : dV = .none := Dflts.none hD hdf
  obtain rfl : kV = .none := Dflts.noKw hD
  obtain ⟨a, vs, ns, rfl, rfl, hobj, hints, hlen⟩ := script_of hn hpre hwl
  refine enter_call (codeAny_mono (call w s₀ s₁ mg mb fa o pm cd doc a vs ns G Y ho (fd_plain hd) hcd hmg hobj hints hlen hg) fun r s' hq => ?_)
  obtain ⟨rfl, h2, h3, h4⟩ := hq
  exact ⟨.inl ⟨.bool true, .bool true, [], rfl, fun _ => rfl, .bool true, post_true l _, fun _ => ⟨List.Pairwise.nil, fun _ hm => (nomatch hm)⟩⟩, h2, h3, h4⟩

/-- the same where the top left finished generators (o_head chose holds_openN): nothing may have changed at all and no generator may be left -/
theorem attachN {l : OpenLaw} {n : Nat} {q : Program} {loose : List Str} {XP : (Str → Option Value) → Heap → Prop} {YP : World → Heap → Prop} {d : DefRec} {x : Str}
    (hn : l.most = some n) (hdf : d.params.defaults = [])
    (hbind : ∀ pm cd doc v : Value, bindArgs (docDef d.name d.params d.body d.scope pm cd doc) ⟨[v], []⟩ = pure [(x, v)])
    (hx : d.scope.names.lookup x = some .local ∨ d.scope.names.lookup x = some .cell)
    (hk : d.scope.kind = .function) (hco : d.scope.isCoroutine = false) (hgen : d.scope.isGenerator = false)
    (body : ∀ (w : World) (s₀ s₁ s : Shared) (mg mb : Str → Option Value) (fa : Addr) (o : Obj) (pm cd doc : Value) (a : Addr) (vs : List Value) (ns : List Int),
      Ground q loose [] XP w s₀ mg mb s₁.heap → YP w s₁.heap →
      s₁.heap.get? fa = some o → o.data = .func (docDef d.name d.params d.body d.scope pm cd doc) → s₁.heap.CodeRec cd d.name → mg d.name = some (.ref fa) →
      s₁.heap.get? a = some { cls := .type "list", data := .seq vs.toArray } → IntsAre vs ns → ns.length ≤ n →
      s.gens = #[] → s.os = s₁.os →
      Fr s₁.heap s₁.heap.objs.size s.heap (bindL (envOfC d.name d.scope s₁.heap.objs.size fa cd).kindOf [(x, .ref a)] fun _ => none) →
      Cl s₁.heap.objs.size (cellsFrom (s₁.heap.objs.size + 1) d.scope.names []) s.heap (bindC (envOfC d.name d.scope s₁.heap.objs.size fa cd).kindOf [(x, .ref a)] fun _ => none) →
      wpAny (model l.prog w) (callerA.deeper (envOfC d.name d.scope s₁.heap.objs.size fa cd)) (execs d.body (envOfC d.name d.scope s₁.heap.objs.size fa cd))
        (fun f s' => f = .ret (.bool true) ∧ (∀ b o, s₁.heap.get? b = some o → s'.heap.get? b = some o) ∧ s'.os = s₁.os ∧ s'.gens = #[]) (fun _ _ => False) s) :
    WalkN q loose XP YP l.row.toRowW d [] (fun f vs => PySem.call f vs) := by
  intro w s₀ s₁ mg mb G Y fa o pm cd doc dV kV ho hd hcd hD hmg hg args vals as hpre hlay hrd hwl hlo
  obtain rfl : dV = .none := Dflts.none hD hdf
  obtain rfl : kV = .none := Dflts.noKw hD
  obtain ⟨a, vs, ns, rfl, rfl, hobj, hints, hlen⟩ := script_of hn hpre hwl
  refine enter_callW ?_
  refine call_cells_ret (o := o) (by rw [depth_caller]; decide) ho (fd_plain hd) G.T.nolimit hcd (hbind pm cd doc (.ref a)) (fun y hy => ?_) (fun h₁ tk F X => ?_) hco hgen hk
  · obtain rfl : y = (x, Value.ref a) := List.mem_singleton.mp hy
    rcases hx with e | e
    · exact .inl e
    · exact .inr ⟨e, cellsFrom_some _ _ _ (.inl e)⟩
  · refine wpAny_mono (body w s₀ s₁ { s₁ with heap := h₁, toks := tk } mg mb fa o pm cd doc a vs ns G Y ho (fd_plain hd) hcd hmg hobj hints hlen hg rfl F X) (fun f s' hq => ?_) (fun _ _ hq => hq)
    obtain ⟨rfl, h2, h3, h4⟩ := hq
    exact ⟨.inl ⟨.bool true, .bool true, [], rfl, fun _ => rfl, .bool true, post_true l _, fun _ => ⟨List.Pairwise.nil, fun _ hm => (nomatch hm)⟩⟩, h2, h3, h4⟩

/-! ### rules over ANY heap (no ledger) from facts about the written part K: the library's own take a ledger (News) for what they write -/
section
variable {prog : Program} {w : World} {A : Around} {E : Value → Shared → Prop} {s : Shared} {K : Frag}

/-- a def of the module, or a method (qual 'C.m'), entered: the frame is the next address; cells behind it -/
theorem call_fn {R : Result → Shared → Prop} {name qual : Str} {params : Arguments} {body : List Stmt} {scope : Scope} {dV kV doc pm cdv ct oc : Value} {an od : Option Addr} {osl : Array (Option Value)} {f : Addr} {args : Args} {binds : List (Str × Value)}
    (X : K.In s.heap) (hlim : s.heap.NoLimit) (ho : K.lookup f = some ⟨oc, od, .func (fnOf name qual params body scope dV kV doc pm an cdv ct), osl⟩) (hcd : codeIn K cdv qual = true) (hroom : A.depth < recursionLimit)
    (hbind : BindsTo s (fnOf name qual params body scope dV kV doc pm an cdv ct) args binds)
    (hkind : (binds.all fun y => scope.names.lookup y.1 == some .local || scope.names.lookup y.1 == some .cell) = true)
    (h : ∀ s₁, InCallC s s.heap.objs.size (bindL (envOfC qual scope s.heap.objs.size f cdv).kindOf binds fun _ => none) (cellsFrom (s.heap.objs.size + 1) scope.names [])
        (bindC (envOfC qual scope s.heap.objs.size f cdv).kindOf binds fun _ => none) s₁ →
      wpAny (model prog w) (A.deeper (envOfC qual scope s.heap.objs.size f cdv)) (execs body (envOfC qual scope s.heap.objs.size f cdv))
        (fun fl s' => R (.ok (.ret (match fl with | .ret v => v | _ => .none))) s')
        (fun e s' => wpAny (model prog w) (A.deeper (envOfC qual scope s.heap.objs.size f cdv)) (leaving (envOfC qual scope s.heap.objs.size f cdv) e) (fun _ s'' => R (.error e) s'') (fun e' s'' => R (.error e') s'') s') s₁)
    (hco : scope.isCoroutine = false) (hgen : scope.isGenerator = false) (hk : scope.kind = .function) : codeAny (model prog w) A (.call (.ref f) args) R s := by
  refine codeAny_call_function hroom (X _ _ ho) rfl hco hgen rfl (codeRec_of X hcd) (hbind _ _ _ _ ?_)
  refine wpAny_newFunctionEnv_cells hk (kindsX hkind _) fun env he s₁ x => ?_
  subst he
  exact ⟨hlim.keeps x.toInCall.keep, codeAny_func (h s₁ x)⟩

/-- C(..): dict at size, instance at size + 1, then __init__ -/
theorem make_obj {R : Result → Shared → Prop} {C fI : Addr} {rest : List Value} {kw : List (Str × Value)}
    (X : K.In s.heap) (hm : makesIn K C = true) (hi : findIn K (.ref C) "__init__" = some (some (.ref fI))) (hf : isFn K (.ref fI) = true)
    (h : codeAny (model prog w) (A.under (.builtin "type.__call__" ⟨.ref C :: rest, kw⟩)) (.call (.ref fI) ⟨.ref (s.heap.objs.size + 1) :: rest, kw⟩) (InitBack (s.heap.objs.size + 1) R)
      { s with heap := (s.heap.push emptyDict).push (instObj C s.heap.objs.size) }) : codeAny (model prog w) A (.call (.ref C) ⟨rest, kw⟩) R s := by
  obtain ⟨hh, g, d, t, os⟩ := s
  exact make_core (makes_of X hm) (looks_findIn X hi) (fun self => bind_fn X self (beq_iff_eq.mp hf)) (.inl rfl) h

/-- x.name where the instance's dict holds the name and the class does not -/
theorem get_field {x C : Addr} {ox : Obj} {es : List DictEntry} {n : Nat} {name : Str} {expr : Bool} {v : Value} {Q : Value → Shared → Prop}
    (X : K.In s.heap) (I : PySem.W.InstAt s.heap x ox C (some (dictOf es n))) (hg : plainGet K C name = true) (hh : hasDictIn K C = true) (ha : findIn K (.ref C) name = some none)
    (hl : getL name es = some (some v)) (hv : handedIn v = true) (h : Q v { s with toks := s.toks + 1 }) : wpAny (model prog w) A (getAttr (.ref x) name expr) Q E s :=
  get_value X I (plainGet_of hg).1 (findObj_own hh ha rfl hl) hv h

/-- x.m(..): the method found in the class -/
theorem get_method {x C f : Addr} {ox : Obj} {es : List DictEntry} {n : Nat} {name : Str} {pl : Sem Bool} {Q : Value × List Value → Shared → Prop}
    (X : K.In s.heap) (I : PySem.W.InstAt s.heap x ox C (some (dictOf es n))) (hg : plainGet K C name = true) (hf : findIn K (.ref C) name = some (some (.ref f))) (ht : isFn K (.ref f) = true)
    (hl : getL name es = some none) (h : Q (.ref f, [.ref x]) s) : wpAny (model prog w) A (getMethod (.ref x) name pl) Q E s :=
  method_fn X I (plainGet_of hg).1 (plainGet_of hg).2 hf (beq_iff_eq.mp ht) (by show (lookIn name (dictOf es n)).map _ = _; rw [lookIn_dict, hl]; rfl) h

/-! the whole heap as the ledger: makes every rule that writes through a ledger a rule over any heap -/
def noObjs (h : Heap) : Heap := { h with objs := #[] }
theorem noObjs_get (h : Heap) (b : Addr) : (noObjs h).get? b = none := by
  cases e : (noObjs h).get? b with
  | none => rfl
  | some o => exact absurd (Heap.lt_size e) (Nat.not_lt_zero _)
def ledger (h : Heap) (L d : Addr) : List (Addr × Obj) := (List.range h.objs.size).filterMap fun a => if a = L ∨ a = d then none else (h.get? a).map fun o => (a, o)
theorem mem_ledger {h : Heap} {L d a : Addr} {o : Obj} : (a, o) ∈ ledger h L d ↔ a ≠ L ∧ a ≠ d ∧ h.get? a = some o := by
  unfold ledger
  rw [List.mem_filterMap]
  constructor
  · rintro ⟨b, _, e⟩
    split at e
    · cases e
    · rename_i hb
      obtain ⟨o', ho, e'⟩ := Option.map_eq_some_iff.mp e
      cases e'
      exact ⟨fun q => hb (.inl q), fun q => hb (.inr q), ho⟩
  · rintro ⟨n1, n2, ho⟩
    refine ⟨a, List.mem_range.mpr (Heap.lt_size ho), ?_⟩
    rw [if_neg (show ¬ (a = L ∨ a = d) from fun q => q.elim n1 n2), ho] <;> rfl
theorem news_ledger {h : Heap} {L d : Addr} {od : Obj} (hne : d ≠ L) (ho : h.get? d = some od) : News (noObjs h) L h ([] ++ (d, od) :: ledger h L d) := by
  rintro ⟨a, o⟩ hp
  rcases List.mem_cons.mp hp with e | hp
  · cases e
    exact ⟨ho, hne, noObjs_get _ _⟩
  · obtain ⟨n1, n2, e⟩ := mem_ledger.mp hp
    exact ⟨e, n1, noObjs_get _ _⟩
theorem fr_all {h : Heap} {L : Addr} {m : Str → Option Value} (n : h.Ns L m) : Fr (noObjs h) L h m :=
  ⟨n, fun b o e => (by rw [noObjs_get] at e; cases e), Nat.zero_le _⟩
/-- Upd of the head entry (for append_K, setItem_K ..) -/
theorem upd_ledger {h : Heap} {L d : Addr} {o o' : Obj} : Upd d o o' ((d, o) :: ledger h L d) ((d, o') :: ledger h L d) :=
  .head fun ⟨_, _⟩ hp => (mem_ledger.mp hp).2.1

/-- x.name = v over any heap: L is any namespace of the heap (the frame's, say): its map stays, its object is not told; all else but the dict stays -/
theorem set_field {x C dx L : Addr} {ox : Obj} {m : Str → Option Value} {es es' : List DictEntry} {n n' : Nat} {name : Str} {v : Value} {Q : Unit → Shared → Prop}
    (X : K.In s.heap) (I : PySem.W.InstAt s.heap x ox C (some (dictOf es n))) (hd : ox.dict = some dx) (hL : s.heap.Ns L m) (hne : dx ≠ L)
    (hs : findIn K (.ref C) "__setattr__" = some (some (.builtin "object.__setattr__"))) (hp : plainOver K C = true) (ht : takerIn K C name = some none) (hh : hasDictIn K C = true) (hl : (getL name es).isSome = true)
    (e : (putL name (PyData.keyHash w.params name) (.str name (s.toks + 1)) v es, putN name es n) = (es', n')) (hz : es'.length ≤ 1000)
    (h : ∀ h' : Heap, h'.Ns L m → h'.get? dx = some (dictOf es' n') → (∀ b o, b ≠ dx → b ≠ L → s.heap.get? b = some o → h'.get? b = some o) → Q () { s with heap := h', toks := s.toks + 2 }) :
    wpAny (model prog w) A (setAttr (.ref x) name v) Q E s := by
  obtain ⟨e1, e2⟩ := Prod.mk.inj e
  have hdx : s.heap.get? dx = some (dictOf es n) := by
    have := I.dict
    rw [hd] at this
    exact this
  refine set_plain X I hs (osa_dict (s := { s with toks := s.toks + 1 }) (h₀ := noObjs s.heap) (L := L) (m := m) (od := dictOf es n) (od' := dictOf es' n') (es := es') (n := n') (pre := []) (post := ledger s.heap L dx)
    (fr_all hL) (news_ledger hne hdx) X I hd hp ht hh hl (fun _ q => nomatch q) (fun ⟨_, _⟩ q => (mem_ledger.mp q).2.1) (by rw [putName_dict, e1, e2]) rfl hz fun h' F' N' => ?_)
  exact h h' F'.ns (N'.get (List.Mem.head _)) fun b o n1 n2 ho => N'.get (List.Mem.tail _ (mem_ledger.mpr ⟨n2, n1, ho⟩))
end
end Att

namespace L2
open PySem PySem.Spec PyProof.Rows

theorem vals_ints : ∀ {vs : List Value} {ns : List Int}, IntsAre vs ns → Vals (ns.map V.int) vs
  | _, _, .nil => .nil
  | _, _, .cons n t h => .cons ⟨t, rfl⟩ (vals_ints h)

/-- nothing is tracked but the script, known to the object (or it is an object of the module) -/
def Only (H : Hp) : Prop := ∀ b, H b = none ∨ ∃ o xs, H b = some (.frz o (.lst xs))

/-- THE HEAD: the law's promise, at the heap behind the top. F, the promise of the law's def, may use that base is part of the heap (so K.In base, base.Ns mainGlobals mg stand in Mod) -/
theorem law_call {P : Program} {w : World} {K : PySem.W.Frag} {mg mb : Str → Option Value} {CX : CXT} {k : Nat} {fa a : Addr} {fd : FuncData} {x : Str} {sp : Sp} {s₁ : Shared} {vs : List Value} {ns : List Int}
    (KX : K.In s₁.heap) (hns : s₁.heap.Ns mainGlobals mg) (hb : s₁.heap.Ns builtinsNs mb) (hbb : ∀ x : Str, x ≠ "__name__" → mb x = bootBuiltins x) (hlim : s₁.heap.NoLimit) (hg : s₁.gens = #[])
    (ha : s₁.heap.get? a = some { cls := .type "list", data := .seq vs.toArray }) (hi : IntsAre vs ns) (hl : ns.length ≤ sizeLine) (hr : Room k callerA)
    (F : ∀ base : Heap, K.In base → base.Ns mainGlobals mg → FnOk P w K mg base CX k fa fd [x] sp) (hbind : ∀ (s : Shared) (u : Value), BindsTo s fd ⟨[u], []⟩ [(x, u)])
    (hsp : ∀ H : Hp, Only H → SqL K H a (ns.map V.int) → sp [.ref a] H (fun v _ => v = .bl true) fun _ _ _ => False)
    (hCX : ∀ H e s', CX [] H s₁ (fun _ _ _ => False) e s' → False) :
    codeAny (model P w) callerA (.call (.ref fa) ⟨[.ref a], []⟩) (fun r s' => r = .ok (.ret (.bool true)) ∧ OldK s₁.heap s'.heap ∧ s'.os = s₁.os ∧ AllBare s'.gens) s₁ := by
  have rv := vals_ints hi
  have lenV := hi.length
  -- from an abstract heap in which nothing but the script may be tracked
  have core : ∀ H : Hp, Only H → SqL K H a (ns.map V.int) → HOk P w H s₁.heap → (∀ b, H b ≠ none → b = a) → (H a ≠ none → K.lookup a = none) →
      codeAny (model P w) callerA (.call (.ref fa) ⟨[.ref a], []⟩) (fun r s' => r = .ok (.ret (.bool true)) ∧ OldK s₁.heap s'.heap ∧ s'.os = s₁.os ∧ AllBare s'.gens) s₁ := by
    intro H hO hS hok hA hK
    have base_of : ∀ {b : Addr} {o : Obj}, s₁.heap.get? b = some o → H b = none → (hidT s₁.heap H).get? b = some o := fun e n => hidT_get e n
    have noA : ∀ {b : Addr} {o : Obj} {es : Array DictEntry} {ep : Nat}, s₁.heap.get? b = some o → o.data = .dict es ep → H b = none := fun {b o es ep} e d => by
      cases q : H b with
      | none => rfl
      | some u =>
        have e' : b = a := hA b (by rw [q]; simp)
        subst e'
        rw [ha] at e; cases e
        have d' : Data.seq vs.toArray _ = Data.dict es ep := d
        cases d'
    have nsK : ∀ {b : Addr} {m : Str → Option Value}, s₁.heap.Ns b m → (hidT s₁.heap H).Ns b m := fun {b m} ⟨o, es, ep, e, d, r⟩ => ⟨o, es, ep, base_of e (noA e d), d, r⟩
    have hKb : K.In (hidT s₁.heap H) := fun b o e => base_of (KX b o e) (by
      cases q : H b with
      | none => rfl
      | some u =>
        have e' : b = a := hA b (by rw [q]; simp)
        subst e'
        rw [hK (by rw [q]; simp)] at e; cases e)
    have hM : Mod K mg (hidT s₁.heap H) := ⟨hKb, nsK hns, ⟨mb, nsK hb, hbb⟩, let ⟨mc, h1, h2⟩ := hlim; ⟨mc, nsK h1, h2⟩⟩
    have e0 : Env0 P w K mg (hidT s₁.heap H) callerA [] s₁ H := ⟨rfl, hM, fun b o e => of_hidT e, Nat.le_of_eq (hidT_size _ _), trivial, fun b hb => absurd (show b ∈ ([] : List Addr) from hb) (by simp), hok, .of_eq hg⟩
    refine codeAny_mono ((F _ hKb (nsK hns)).run callerA [] s₁ H ⟨[.ref a], []⟩ [.ref a] [.ref a] _ _ hr e0 (hbind s₁ (.ref a)) (.cons rfl .nil) (hsp H hO hS)) fun r s' h => ?_
    cases r with
    | error e => exact (hCX H e s' h).elim
    | ok fl =>
      cases fl with
      | next => exact False.elim h
      | brk => exact False.elim h
      | cont => exact False.elim h
      | ret u =>
        obtain ⟨v, H', os, bare, un, hok', r', q⟩ := h
        have q' : v = .bl true := q
        subst q'
        obtain rfl : u = Value.bool true := r'
        refine ⟨rfl, OldK.of_keep fun b o e => ?_, os, bare⟩
        cases q : H b with
        | none => exact un.keep b o e q (by intro z; exact absurd (show b ∈ ([] : List Addr) from z) (by simp)) (by simp)
        | some u =>
          rcases hO b with z | ⟨ob, xs, z⟩
          · rw [q] at z; cases z
          · have z2 := un.frzs b ob _ z
            obtain ⟨e1, _⟩ := hok b _ z
            obtain ⟨e2, _⟩ := hok' b _ z2
            rw [e] at e1; cases e1
            exact e2
  cases hk : K.lookup a with
  | some o =>
    -- the script is one of the module's own objects
    have e := KX a o hk
    rw [ha] at e
    cases e
    refine core (fun _ => none) (fun _ => .inl rfl) (.inr ⟨_, vs.toArray, _, hk, rfl, rfl, rfl, by rw [List.size_toArray, lenV]; exact hl, by simpa using rv⟩) (fun b u z => by have z' : (none : Option HO) = some u := z; cases z') (fun b z => absurd rfl z) fun z => absurd rfl z
  | none =>
    refine core (fun b => if b = a then some (.frz { cls := .type "list", data := .seq vs.toArray } (.lst (ns.map V.int))) else none) (fun b => ?_) (.inl (.inr ⟨{ cls := .type "list", data := .seq vs.toArray }, if_pos rfl⟩)) (fun b u z => ?_) (fun b z => ?_) fun _ => hk
    · by_cases hb : b = a
      · exact .inr ⟨_, _, if_pos hb⟩
      · exact .inl (if_neg hb)
    · by_cases hb : b = a
      · have z' := (if_pos hb).symm.trans z
        cases z'
        subst hb
        exact ⟨ha, by rw [List.length_map]; exact hl, vs, _, rv, ha⟩
      · have z' := (if_neg hb).symm.trans z
        cases z'
    · by_cases hb : b = a
      · exact hb
      · exact absurd (if_neg hb) z
end L2

namespace L2
open PySem PySem.Spec PyProof.Rows

abbrev KOf {K : PySem.W.Frag} {h : Heap} (_ : K.In h) : PySem.W.Frag := K

/-- the goal that k_head leaves (case hc), from the law's promise. F gives the function object fd (K's own) once, then the promise over every base -/
theorem walk_of {l : PySem.W.OpenLaw} {n k : Nat} {q : Program} {loose : List Str} {XP : (Str → Option Value) → Heap → Prop} {YP : World → Heap → Prop} {d : DefRec} {K : Params → PySem.W.Frag} {CX : World → CXT} {sp : World → Sp} {x : Str}
    (hn : l.most = some n) (hn2 : n ≤ sizeLine) (hdf : d.params.defaults = []) (hr : Room k callerA)
    (hY : ∀ (w : World) (h : Heap), YP w h → (K w.params).In h)
    (F : ∀ (w : World) (mg : Str → Option Value) (fa : Addr) (h : Heap), (K w.params).In h → h.Ns mainGlobals mg → mg d.name = some (.ref fa) →
      ∃ fd : FuncData, (∀ (s : Shared) (u : Value), BindsTo s fd ⟨[u], []⟩ [(x, u)]) ∧
        ∀ base : Heap, (K w.params).In base → base.Ns mainGlobals mg → FnOk l.prog w (K w.params) mg base (CX w) k fa fd [x] (sp w))
    (hsp : ∀ (w : World) (H : Hp) (a : Addr) (ns : List Int), ns.length ≤ n → Only H → SqL (K w.params) H a (ns.map V.int) → sp w [.ref a] H (fun v _ => v = .bl true) fun _ _ _ => False)
    (hCX : ∀ (w : World) (H : Hp) (s : Shared) (e : Value) (s' : Shared), CX w [] H s (fun _ _ _ => False) e s' → False) :
    PySem.W.WalkO q loose XP YP l.row.toRowW d [] (fun f vs => PySem.call f vs) := by
  refine Att.attach_call hn hdf fun w s₀ s₁ mg mb fa o pm cd doc a vs ns G Y ho hd hcd hmg hobj hints hlen hg => ?_
  have KX := hY w _ Y
  obtain ⟨fd, hb, hF⟩ := F w mg fa _ KX G.T.g hmg
  exact law_call KX G.T.g G.T.b G.T.builtins G.T.nolimit hg hobj hints (Nat.le_trans hlen hn2) hr hF hb (fun H hO hS => hsp w H a ns hlen hO hS) fun H e s' => hCX w H s₁ e s'
/-- the same where the promise hangs on the written part alone: (sp := My.sp_law), no hole under a binder -/
theorem walk_ofK {l : PySem.W.OpenLaw} {n k : Nat} {q : Program} {loose : List Str} {XP : (Str → Option Value) → Heap → Prop} {YP : World → Heap → Prop} {d : DefRec} {K : Params → PySem.W.Frag} {CX : CXT} {sp : PySem.W.Frag → Sp} {x : Str}
    (hn : l.most = some n) (hn2 : n ≤ sizeLine) (hdf : d.params.defaults = []) (hr : Room k callerA)
    (hY : ∀ (w : World) (h : Heap), YP w h → (K w.params).In h)
    (F : ∀ (w : World) (mg : Str → Option Value) (fa : Addr) (h : Heap), (K w.params).In h → h.Ns mainGlobals mg → mg d.name = some (.ref fa) →
      ∃ fd : FuncData, (∀ (s : Shared) (u : Value), BindsTo s fd ⟨[u], []⟩ [(x, u)]) ∧
        ∀ base : Heap, (K w.params).In base → base.Ns mainGlobals mg → FnOk l.prog w (K w.params) mg base CX k fa fd [x] (sp (K w.params)))
    (hsp : ∀ (K : PySem.W.Frag) (H : Hp) (a : Addr) (ns : List Int), ns.length ≤ n → Only H → SqL K H a (ns.map V.int) → sp K [.ref a] H (fun v _ => v = .bl true) fun _ _ _ => False)
    (hCX : ∀ (H : Hp) (s : Shared) (e : Value) (s' : Shared), CX [] H s (fun _ _ _ => False) e s' → False) :
    PySem.W.WalkO q loose XP YP l.row.toRowW d [] (fun f vs => PySem.call f vs) :=
  walk_of (K := K) (CX := fun _ => CX) (sp := fun w => sp (K w.params)) hn hn2 hdf hr hY F (fun w H a ns h1 h2 h3 => hsp (K w.params) H a ns h1 h2 h3) fun _ H s e s' => hCX H s e s'
end L2



/-! SHORT WORDS over the layer: a def of the text, its body, what a loop and a test want. -/
namespace L2
open PySem PySem.Spec PyProof.Rows

/-! ### the text by places -/
/-- the j-th statement of a class's body -/
def inClass (s : Stmt) (j : Nat) : Stmt := match s with
  | .ClassDef _ _ _ body _ _ _ _ _ _ _ => body.getD j (.Pass ⟨0, 0, 0, 0⟩)
  | _ => .Pass ⟨0, 0, 0, 0⟩
def defArgs (s : Stmt) : Arguments := match s with
  | .FunctionDef _ a _ _ _ _ _ _ _ _ => a
  | _ => { posonlyargs := [], args := [], vararg := none, kwonlyargs := [], kw_defaults := [], kwarg := none, defaults := [] }
def defBody (s : Stmt) : List Stmt := match s with
  | .FunctionDef _ _ b _ _ _ _ _ _ _ => b
  | _ => []
def defScope (s : Stmt) : Scope := match s with
  | .FunctionDef _ _ _ _ _ _ sc _ _ _ => sc
  | _ => { kind := .function, names := [], isGenerator := false, isCoroutine := false }

/-! ### no exception leaves a def -/
abbrev CX0 : CXT := fun _ _ _ _ _ _ => False
abbrev E0 : XK := fun _ _ _ => False
theorem pass0 {X : Cx} : Passes CX0 X E0 := fun _ _ _ _ _ _ _ h => h.elim

/-! ### a def (or method) of the text as it stands behind the top -/
structure Fun (K : PySem.W.Frag) (x qual : Str) (st : Stmt) (f : Addr) (fd : FuncData) : Prop where
  ex : ∃ (oc : Value) (od : Option Addr) (kV doc pm : Value) (an : Option Addr) (cdv ct : Value) (osl : Array (Option Value)),
    fd = PySem.W.fnOf x qual (defArgs st) (defBody st) (defScope st) .none kV doc pm an cdv ct ∧ K.lookup f = some ⟨oc, od, .func fd, osl⟩ ∧ PySem.W.codeIn K cdv qual = true
  kp : PySem.W.keepIn K (.ref f) = true
section
variable {P : Program} {w : World} {K : PySem.W.Frag} {mg : Str → Option Value} {base : Heap}
/-- THE RULE for a def: its body as a term of rules, and the reading of that term -/
theorem Fun.ok {x qual : Str} {st : Stmt} {f : Addr} {fd : FuncData} {N ps : List Str} {k : Nat} {sp : Sp} (F : Fun K x qual st f fd) (S : FnScope N ps (defScope st)) (len : ∀ vs H Q E, sp vs H Q E → vs.length = ps.length)
    (hbody : ∀ (cdv : Value) (A : Around) (outer : List Env) (s : Shared) (H : Hp) (vs : List V) (Q : VK) (E : XK), Room k (A.deeper (envOfC qual (defScope st) s.heap.objs.size f cdv)) → sp vs H Q E →
      ∃ t, PSs (cxOf CX0 P w K mg base N qual (defScope st) f cdv A outer s H E).nox (defBody st) t ∧ t { nx := fun _ H' => Q .non H', rt := Q } (start N vs) H) : FnOk P w K mg base CX0 (k + 1) f fd ps sp := by
  obtain ⟨oc, od, kV, doc, pm, an, cdv, ct, osl, rfl, lk, hcd⟩ := F.ex
  refine fn_of lk hcd S len fun A outer s H vs Q E hr hsp => ?_
  obtain ⟨t, h, q⟩ := hbody cdv A outer s H vs Q E hr hsp
  exact ⟨t, h.nox, q⟩
/-- how its arguments bind (no defaults): h is «fun _ _ _ _ _ _ us hl => match us, hl with | [_, _], _ => rfl», one _ a parameter -/
theorem Fun.binds {x qual : Str} {st : Stmt} {f : Addr} {fd : FuncData} {ps : List Str} (F : Fun K x qual st f fd)
    (h : ∀ (kV doc pm : Value) (an : Option Addr) (cdv ct : Value) (us : List Value), us.length = ps.length → bindArgs (PySem.W.fnOf x qual (defArgs st) (defBody st) (defScope st) .none kV doc pm an cdv ct) ⟨us, []⟩ = pure (ps.zip us)) : Binds K fd ps [] := by
  obtain ⟨oc, od, kV, doc, pm, an, cdv, ct, osl, rfl, lk, hcd⟩ := F.ex
  exact .all (h kV doc pm an cdv ct)
theorem fun_mk {x qual : Str} {st : Stmt} {f : Addr} {oc : Value} {od an : Option Addr} {osl : Array (Option Value)} {kV doc pm cdv ct : Value} (l : K.lookup f = some ⟨oc, od, .func (PySem.W.fnOf x qual (defArgs st) (defBody st) (defScope st) .none kV doc pm an cdv ct), osl⟩)
    (c : PySem.W.codeIn K cdv qual = true) (k : PySem.W.keepIn K (.ref f) = true) : Fun K x qual st f (PySem.W.fnOf x qual (defArgs st) (defBody st) (defScope st) .none kV doc pm an cdv ct) := ⟨⟨oc, od, kV, doc, pm, an, cdv, ct, osl, rfl, l, c⟩, k⟩
end
theorem hu_of {A : Around} {k : Nat} (hr : Room k A) : A.units + 1 < cLine := Nat.lt_of_le_of_lt (Nat.add_le_add_left (by decide : 1 ≤ 64) _) hr.units
theorem small1000 {n : Nat} (h : n ≤ 1000) : n < sizeLine := Nat.lt_of_le_of_lt h (by decide)

/-! ### expressions in short: the name that stands in the i-th slot -/
section
variable {X : Cx}
theorem pv (i : Nat) {x : Str} {pos : Pos} (hN : X.N[i]? = some x := by rfl) (hv : Vis X.env.scope x := by first | exact Or.inl rfl | exact Or.inr (Or.inl rfl) | exact Or.inr (Or.inr rfl)) (hd : (x == ("__debug__" : Str)) = false := by decide)
    (hcd : (x == ("__classdict__" : Str)) = false := by decide) : PE X (.Name x pos) (tVar i) := pe_var hN hv hd hcd
end

/-! ### tests -/
theorem iteF {A B : Prop} (h : B) : if false = true then A else B := by
  rw [if_neg Bool.false_ne_true]
  exact h
theorem iteT {A B : Prop} (h : A) : if true = true then A else B := by
  rw [if_pos rfl]
  exact h
theorem ite2 {c A B : Prop} [Decidable c] (h1 : c → A) (h2 : ¬ c → B) : if c then A else B := by
  by_cases h : c
  · rw [if_pos h]
    exact h1 h
  · rw [if_neg h]
    exact h2 h
theorem iteNS {c A B : Prop} [Decidable c] (hc : c) (h : B) : if (!decide c) = true then A else B := by
  rw [decide_eq_true hc]
  exact iteF h

/-! ### heaps -/
/-- all that was tracked is as it was -/
def Same (H H' : Hp) : Prop := ∀ b o, H b = some o → H' b = some o
theorem Same.refl (H : Hp) : Same H H := fun _ _ h => h
theorem Same.trans {H H1 H2 : Hp} (a : Same H H1) (b : Same H1 H2) : Same H H2 := fun c o h => b c o (a c o h)
theorem Same.free {H H' : Hp} (e : Same H H') {l : Addr} (h : H' l = Option.none) : H l = Option.none := by
  cases q : H l with
  | none => rfl
  | some o =>
    rw [e l o q] at h
    cases h
theorem Same.seq {K : PySem.W.Frag} {H H' : Hp} {a : Addr} {xs : List V} (e : Same H H') (h : SqL K H a xs) : SqL K H' a xs := by
  rcases h with (h | ⟨o, h⟩) | h
  · exact .inl (.inl (e _ _ h))
  · exact .inl (.inr ⟨o, e _ _ h⟩)
  · exact .inr h

end L2

set_option maxHeartbeats 4000000
namespace L2
open PySem PySem.Spec PyProof.Rows

/-! ### lists of pairs as tables -/
section
variable {κ : Type} [DecidableEq κ]
def valV (kvs : List (κ × V)) (k : κ) : Option V := (kvs.find? fun kv => decide (kv.1 = k)).map (·.2)
/-- in its place, or at the end -/
def putK (kvs : List (κ × V)) (k : κ) (v : V) : List (κ × V) :=
  if (kvs.any fun kv => decide (kv.1 = k)) = true then kvs.map (fun kv => if kv.1 = k then (kv.1, v) else kv) else kvs ++ [(k, v)]
def dropK (kvs : List (κ × V)) (k : κ) : List (κ × V) := kvs.filter fun kv => decide (kv.1 ≠ k)

theorem valV_nil {k : κ} : valV ([] : List (κ × V)) k = none := rfl
theorem valV_pos {p : κ × V} {r : List (κ × V)} {k : κ} (e : p.1 = k) : valV (p :: r) k = some p.2 := by simp [valV, List.find?_cons, e]
theorem valV_neg {p : κ × V} {r : List (κ × V)} {k : κ} (e : ¬ p.1 = k) : valV (p :: r) k = valV r k := by simp [valV, List.find?_cons, e]
theorem valV_any (k : κ) : ∀ kvs : List (κ × V), (kvs.any fun kv => decide (kv.1 = k)) = (valV kvs k).isSome
  | [] => rfl
  | p :: r => by
    rw [List.any_cons]
    by_cases e : p.1 = k
    · simp only [valV_pos e, decide_eq_true e, Bool.true_or, Option.isSome_some]
    · rw [valV_neg e, decide_eq_false e, Bool.false_or]; exact valV_any k r
theorem valV_map (k j : κ) (y : V) : ∀ kvs : List (κ × V), valV (kvs.map fun kv => if kv.1 = k then (kv.1, y) else kv) j = (valV kvs j).map fun x => if j = k then y else x
  | [] => rfl
  | p :: r => by
    have ih := valV_map k j y r
    rw [List.map_cons]
    by_cases h : p.1 = k
    · rw [if_pos h]
      by_cases e : p.1 = j
      · rw [valV_pos (p := (p.1, y)) e, valV_pos e, Option.map_some, if_pos (e.symm.trans h)]
      · rw [valV_neg (p := (p.1, y)) e, valV_neg e, ih]
    · rw [if_neg h]
      by_cases e : p.1 = j
      · rw [valV_pos (p := p) e, valV_pos e, Option.map_some, if_neg (fun z => h (e.trans z))]
      · rw [valV_neg (p := p) e, valV_neg e, ih]
theorem valV_snoc (k j : κ) (y : V) : ∀ kvs : List (κ × V), valV kvs k = none → valV (kvs ++ [(k, y)]) j = if j = k then some y else valV kvs j
  | [], _ => by
    by_cases e : k = j
    · rw [if_pos e.symm]; exact valV_pos (p := (k, y)) e
    · rw [if_neg (fun z => e z.symm)]; exact valV_neg (p := (k, y)) e
  | p :: r, hn => by
    rw [List.cons_append]
    have hk : ¬ p.1 = k := fun z => by rw [valV_pos z] at hn; cases hn
    rw [valV_neg hk] at hn
    have ih := valV_snoc k j y r hn
    by_cases e : p.1 = j
    · rw [valV_pos e, valV_pos e, if_neg (fun z => hk (e.trans z))]
    · rw [valV_neg e, valV_neg e, ih]
theorem valV_put (kvs : List (κ × V)) (k j : κ) (y : V) : valV (putK kvs k y) j = if j = k then some y else valV kvs j := by
  unfold putK
  by_cases a : (kvs.any fun kv => decide (kv.1 = k)) = true
  · rw [if_pos a, valV_map]
    rw [valV_any] at a
    by_cases e : j = k
    · obtain ⟨x, hx⟩ := Option.isSome_iff_exists.mp a
      rw [if_pos e, e, hx, Option.map_some, if_pos rfl]
    · rw [if_neg e]
      cases valV kvs j with
      | none => rfl
      | some x => rw [Option.map_some, if_neg e]
  · rw [if_neg a]
    refine valV_snoc k j y kvs ?_
    rw [valV_any] at a
    cases q : valV kvs k with
    | none => rfl
    | some x => rw [q] at a; exact (a rfl).elim
theorem length_putK (kvs : List (κ × V)) (k : κ) (v : V) : (putK kvs k v).length ≤ kvs.length + 1 := by
  unfold putK
  split
  · rw [List.length_map]; omega
  · rw [List.length_append, List.length_cons, List.length_nil]; omega
theorem putK_new {kvs : List (κ × V)} {k : κ} (v : V) (h : valV kvs k = none) : putK kvs k v = kvs ++ [(k, v)] := by
  unfold putK
  rw [valV_any, h]
  exact if_neg (by decide)

theorem RelO.isSome_eq {o : Option V} {u : Option Value} (r : RelO o u) : o.isSome = u.isSome := by
  cases o with
  | none => cases u with
    | none => rfl
    | some _ => exact (show False from r).elim
  | some _ => cases u with
    | none => exact (show False from r).elim
    | some _ => rfl
theorem RelO.getD {o : Option V} {u : Option Value} {d : V} {d' : Value} (r : RelO o u) (rd : RelV d d') : RelV (o.getD d) (u.getD d') := by
  cases o with
  | none => cases u with
    | none => exact rd
    | some _ => exact (show False from r).elim
  | some _ => cases u with
    | none => exact (show False from r).elim
    | some _ => exact r

/-- raw tables of the same keys -/
theorem KV.val {kvs : List (κ × V)} {vs : List (κ × Value)} (r : KV kvs vs) (k : κ) : RelO (valV kvs k) (valueAt vs k) := by
  unfold KV at r
  induction r with
  | nil => exact True.intro
  | @cons p q ps qs h t ih =>
    obtain ⟨h1, h2⟩ := h
    by_cases e : p.1 = k
    · have e' : q.1 = k := h1.symm.trans e
      have b : valueAt (q :: qs) k = some q.2 := by simp [valueAt, List.find?_cons, e']
      rw [valV_pos e, b]; exact h2
    · have e' : ¬ q.1 = k := fun z => e (h1.trans z)
      have b : valueAt (q :: qs) k = valueAt qs k := by simp [valueAt, List.find?_cons, e']
      rw [valV_neg e, b]; exact ih
theorem KV.any {kvs : List (κ × V)} {vs : List (κ × Value)} (r : KV kvs vs) (k : κ) : (kvs.any fun kv => decide (kv.1 = k)) = vs.any fun kv => decide (kv.1 = k) := by
  unfold KV at r
  induction r with
  | nil => rfl
  | cons h t ih => rw [List.any_cons, List.any_cons, ih, h.1]
theorem KV.repl {kvs : List (κ × V)} {vs : List (κ × Value)} (r : KV kvs vs) (k : κ) {y : V} {u : Value} (ry : RelV y u) :
    KV (kvs.map fun kv => if kv.1 = k then (kv.1, y) else kv) (vs.map fun kv => if kv.1 = k then (kv.1, u) else kv) := by
  unfold KV at r ⊢
  induction r with
  | nil => exact .nil
  | @cons p q ps qs h t ih =>
    rw [List.map_cons, List.map_cons]
    refine .cons ?_ ih
    obtain ⟨h1, h2⟩ := h
    by_cases e : p.1 = k
    · rw [if_pos e, if_pos (h1.symm.trans e)]; exact ⟨h1, ry⟩
    · rw [if_neg e, if_neg (fun z => e (h1.trans z))]; exact ⟨h1, h2⟩
theorem KV.put {kvs : List (κ × V)} {vs : List (κ × Value)} (r : KV kvs vs) (k : κ) {y : V} {u : Value} (ry : RelV y u) : KV (putK kvs k y) (stored vs k u) := by
  unfold putK stored
  rw [r.any k]
  by_cases e : (vs.any fun kv => decide (kv.1 = k)) = true
  · rw [if_pos e, if_pos e]; exact r.repl k ry
  · rw [if_neg e, if_neg e]; exact Paired.snoc r ⟨rfl, ry⟩
theorem KV.drop {kvs : List (κ × V)} {vs : List (κ × Value)} (r : KV kvs vs) (k : κ) : KV (dropK kvs k) (without vs k) := by
  unfold KV at r ⊢
  unfold dropK without
  induction r with
  | nil => exact .nil
  | @cons p q ps qs h t ih =>
    obtain ⟨h1, h2⟩ := h
    rw [List.filter_cons, List.filter_cons]
    by_cases e : p.1 = k
    · have a : ¬ decide (p.1 ≠ k) = true := by simp [e]
      have b : ¬ decide (q.1 ≠ k) = true := by simp [h1.symm.trans e]
      rw [if_neg a, if_neg b]; exact ih
    · have e' : ¬ q.1 = k := fun z => e (h1.trans z)
      have a : decide (p.1 ≠ k) = true := by simp [e]
      have b : decide (q.1 ≠ k) = true := by simp [e']
      rw [if_pos a, if_pos b]; exact .cons ⟨h1, h2⟩ ih
theorem KV.keys {kvs : List (κ × V)} {vs : List (κ × Value)} (r : KV kvs vs) : kvs.map (·.1) = vs.map (·.1) := by
  unfold KV at r
  induction r with
  | nil => rfl
  | cons h t ih => rw [List.map_cons, List.map_cons, ih, h.1]
theorem KV.length {kvs : List (κ × V)} {vs : List (κ × Value)} (r : KV kvs vs) : kvs.length = vs.length := Paired.length r
theorem dropK_le (kvs : List (κ × V)) (k : κ) : (dropK kvs k).length ≤ kvs.length := List.length_filter_le _ _
end


/-! ### a tracked dict, its keys ints and texts or tuples of these -/
theorem kV_is {P : Program} {w : World} {k : Key} {u : Value} (r : RelV (kV k) u) : (mixKind P w).is k u = true := by
  cases k with
  | inl i => obtain ⟨t, e⟩ := (show ∃ t, u = Value.int i t from r); subst e; exact mixKind_int P w i t
  | inr x => obtain ⟨t, e⟩ := (show ∃ t, u = Value.str x t from r); subst e; exact mixKind_str P w x t
theorem kV_inj {a b : Key} (e : kV a = kV b) : a = b := by
  cases a with
  | inl i => cases b with
    | inl j => have e' : V.int i = V.int j := e; injection e' with e'; rw [e']
    | inr y => exact nomatch (show V.int i = V.str y from e)
  | inr x => cases b with
    | inl j => exact nomatch (show V.str x = V.int j from e)
    | inr y => have e' : V.str x = V.str y := e; injection e' with e'; rw [e']
theorem kVs_inj : ∀ {a b : List Key}, a.map kV = b.map kV → a = b
  | [], [], _ => rfl
  | [], _ :: _, e => by simp at e
  | _ :: _, [], e => by simp at e
  | x :: xs, y :: ys, e => by
    rw [List.map_cons, List.map_cons] at e
    injection e with e1 e2
    rw [kV_inj e1, kVs_inj e2]
theorem items_are {P : Program} {w : World} : ∀ {ks : List Key} {us : List Value}, Vals (ks.map kV) us → ItemsAre (mixKind P w) ks us
  | [], _, r => by rw [List.map_nil] at r; cases r; exact .nil
  | k :: ks, _, r => by
    rw [List.map_cons] at r
    cases r with
    | cons h t => exact .cons (kV_is h) (items_are t)

/-- raw entries of a dict with tuple keys -/
abbrev KT (H : Hp) : List (List Key × V) → List (List Key × Addr × Value) → Prop := Paired fun p q => p.1 = q.1 ∧ H q.2.1 = some (.tup (p.1.map kV)) ∧ RelV p.2 q.2.2
theorem KT.val {H : Hp} {kvs : List (List Key × V)} {xs : List (List Key × Addr × Value)} (r : KT H kvs xs) (k : List Key) : RelO (valV kvs k) ((atKey xs k).map (·.2)) := by
  induction r with
  | nil => exact True.intro
  | @cons p q ps qs h t ih =>
    obtain ⟨h1, _, h2⟩ := h
    by_cases e : p.1 = k
    · have e' : q.1 = k := h1.symm.trans e
      have b : atKey (q :: qs) k = some q.2 := by simp [atKey, List.find?_cons, e']
      rw [valV_pos e, b]; exact h2
    · have e' : ¬ q.1 = k := fun z => e (h1.trans z)
      have b : atKey (q :: qs) k = atKey qs k := by simp [atKey, List.find?_cons, e']
      rw [valV_neg e, b]; exact ih
theorem KT.repl {H : Hp} {kvs : List (List Key × V)} {xs : List (List Key × Addr × Value)} (r : KT H kvs xs) (k : List Key) {y : V} {u : Value} (ry : RelV y u) :
    KT H (kvs.map fun kv => if kv.1 = k then (kv.1, y) else kv) (xs.map (putAt k u)) := by
  induction r with
  | nil => exact .nil
  | @cons p q ps qs h t ih =>
    rw [List.map_cons, List.map_cons]
    refine .cons ?_ ih
    obtain ⟨h1, h2, h3⟩ := h
    unfold putAt
    by_cases e : p.1 = k
    · rw [if_pos e, if_pos (h1.symm.trans e)]; exact ⟨h1, h2, ry⟩
    · rw [if_neg e, if_neg (fun z => e (h1.trans z))]; exact ⟨h1, h2, h3⟩
theorem KT.put {H : Hp} {kvs : List (List Key × V)} {xs : List (List Key × Addr × Value)} (r : KT H kvs xs) (k : List Key) {b : Addr} {y : V} {u : Value} (hb : H b = some (.tup (k.map kV))) (ry : RelV y u) :
    KT H (putK kvs k y) (storedH xs k b u) := by
  have e : (kvs.any fun kv => decide (kv.1 = k)) = (atKey xs k).isSome := by
    rw [valV_any, (r.val k).isSome_eq, Option.isSome_map]
  unfold putK storedH
  rw [e]
  by_cases q : (atKey xs k).isSome = true
  · rw [if_pos q, if_pos q]; exact r.repl k ry
  · rw [if_neg q, if_neg q]; exact Paired.snoc r ⟨rfl, hb, ry⟩
theorem KT.keeps {H H' : Hp} {kvs : List (List Key × V)} {xs : List (List Key × Addr × Value)} (r : KT H kvs xs) (ht : ∀ b ys, H b = some (.tup ys) → H' b = some (.tup ys)) : KT H' kvs xs :=
  Paired.mapP r fun _ _ z => ⟨z.1, ht _ _ z.2.1, z.2.2⟩

section
variable {P : Program} {w : World} {H : Hp} {h : Heap} {a : Addr}
theorem rd_of {u : HO} (ok : HOk P w H h) (e : Rd H a u) : ObjOk P w H h a u := e.ok ok
theorem dk_rd {kvs : List (Key × V)} (ok : HOk P w H h) (e : Rd H a (.dK kvs)) : kvs.length ≤ sizeLine ∧ (a == sysModules) = false ∧ ∃ vs, KV kvs vs ∧ h.DictOf (mixKind P w) a vs :=
  show ObjOk P w H h a (.dK kvs) from rd_of ok e
theorem dk_of {kvs : List (Key × V)} (ok : HOk P w H h) (e : H a = some (.dK kvs)) : kvs.length ≤ sizeLine ∧ (a == sysModules) = false ∧ ∃ vs, KV kvs vs ∧ h.DictOf (mixKind P w) a vs := dk_rd ok (.inl e)
/-- a tracked tuple of ints and texts is a key -/
theorem key_of {ks : List Key} (ok : HOk P w H h) (e : H a = some (.tup (ks.map kV))) : (tupleKind (mixKind P w)).is h ks a := by
  obtain ⟨_, its, r, o, h1, h2, n, h3⟩ := (show ObjOk P w H h a (.tup (ks.map kV)) from ok a _ e)
  exact ⟨o, its.toArray, n, h1, h2, h3, by simpa using items_are r⟩
theorem dt_rd {kvs : List (List Key × V)} (ok : HOk P w H h) (e : Rd H a (.dT kvs)) : kvs.length ≤ sizeLine ∧ (a == sysModules) = false ∧
    ∃ xs, KT H kvs xs ∧ h.DictOfH (tupleKind (mixKind P w)) a xs := by
  obtain ⟨z, y, xs, r, o, es, ep, h1, h2, h3, h4, h5⟩ := (show ObjOk P w H h a (.dT kvs) from rd_of ok e)
  refine ⟨z, y, xs, r, o, es, ep, h1, h2, h3, h4, fun x hx => ?_, h5⟩
  have all : ∀ {l : List (List Key × V)} {m : List (List Key × Addr × Value)}, KT H l m → ∀ x ∈ m, (tupleKind (mixKind P w)).is h x.1 x.2.1 := by
    intro l m q
    induction q with
    | nil => intro x hx; exact nomatch hx
    | @cons p q ps qs hq t ih =>
      intro x hx
      rcases List.mem_cons.mp hx with e | hx
      · subst e
        exact key_of ok (by rw [← hq.1]; exact hq.2.1)
      · exact ih x hx
  exact all r x hx
theorem dt_of {kvs : List (List Key × V)} (ok : HOk P w H h) (e : H a = some (.dT kvs)) : kvs.length ≤ sizeLine ∧ (a == sysModules) = false ∧
    ∃ xs, KT H kvs xs ∧ h.DictOfH (tupleKind (mixKind P w)) a xs := dt_rd ok (.inl e)
end

/-- what the dict at a holds at the key y -/
def DGet (H : Hp) (a : Addr) (y : V) (r : Option V) : Prop :=
  (∃ kvs k, Rd H a (.dK kvs) ∧ y = kV k ∧ r = valV kvs k) ∨ ∃ kvs k b, Rd H a (.dT kvs) ∧ y = .ref b ∧ H b = some (.tup (k.map kV)) ∧ r = valV kvs k
/-- the heap behind a[y] = v -/
def DPut (H : Hp) (a : Addr) (y v : V) (H' : Hp) : Prop :=
  (∃ kvs k, H a = some (.dK kvs) ∧ y = kV k ∧ kvs.length < sizeLine ∧ H' = upd H a (.dK (putK kvs k v))) ∨
  ∃ kvs k b, H a = some (.dT kvs) ∧ y = .ref b ∧ H b = some (.tup (k.map kV)) ∧ kvs.length < sizeLine ∧ H' = upd H a (.dT (putK kvs k v))
theorem DGet.k {H : Hp} {a : Addr} {kvs : List (Key × V)} {k : Key} (e : H a = some (.dK kvs)) : DGet H a (kV k) (valV kvs k) := .inl ⟨kvs, k, .inl e, rfl, rfl⟩
theorem DGet.t {H : Hp} {a b : Addr} {kvs : List (List Key × V)} {k : List Key} (e : H a = some (.dT kvs)) (eb : H b = some (.tup (k.map kV))) : DGet H a (.ref b) (valV kvs k) := .inr ⟨kvs, k, b, .inl e, rfl, eb, rfl⟩
theorem DPut.k {H : Hp} {a : Addr} {kvs : List (Key × V)} {k : Key} {v : V} (e : H a = some (.dK kvs)) (hl : kvs.length < sizeLine) : DPut H a (kV k) v (upd H a (.dK (putK kvs k v))) := .inl ⟨kvs, k, e, rfl, hl, rfl⟩
theorem DPut.t {H : Hp} {a b : Addr} {kvs : List (List Key × V)} {k : List Key} {v : V} (e : H a = some (.dT kvs)) (eb : H b = some (.tup (k.map kV))) (hl : kvs.length < sizeLine) :
    DPut H a (.ref b) v (upd H a (.dT (putK kvs k v))) := .inr ⟨kvs, k, b, e, rfl, eb, hl, rfl⟩


section
variable {X : Cx} {pins : List (Addr × Obj)} {σ : St} {H : Hp} {s : Shared} {a : Addr} {y v : V} {u r : Value} {o : Option V} {A : Around} {E : Value → Shared → Prop}

theorem Inv.big (I : Inv X pins σ H s) : sysModules < s.heap.objs.size := by
  have h : mainGlobals < s.heap.objs.size := (I.mod.glob.keeps I.bk).lt
  exact Nat.lt_trans (by decide) h

/-- d[y], there -/
theorem d_getItem {Q : Value → Shared → Prop} (hu : A.units + 1 < cLine) (I : Inv X pins σ H s) (g : DGet H a y (some v)) (ry : RelV y u) (h : ∀ w' s', Inv X pins σ H s' → RelV v w' → Q w' s') :
    wpAny (model X.prog X.w) A (getItem (.ref a) u) Q E s := by
  rcases g with ⟨kvs, k, e, ey, l⟩ | ⟨kvs, k, b, e, ey, eb, l⟩
  · subst ey
    obtain ⟨z, hd, vs, rel, dd⟩ := dk_rd I.hok e
    obtain ⟨w', hw, rw'⟩ := RelO.some_of (v := v) (o := valueAt vs k) (by rw [l]; exact rel.val k)
    exact wpAny_getItem_of (kV_is ry) dd.mapOf hw (h w' _ (I.tok _) rw')
  · subst ey
    cases (show u = Value.ref b from ry)
    obtain ⟨z, hd, xs, rel, dd⟩ := dt_rd I.hok e
    obtain ⟨w', hw, rw'⟩ := RelO.some_of (v := v) (o := (atKey xs k).map (·.2)) (by rw [l]; exact rel.val k)
    obtain ⟨p, hp, hp2⟩ := Option.map_eq_some_iff.mp hw
    refine wpAny_getItem_heap (tupleKind_room_in1 hu) (key_of I.hok eb) dd hp ?_
    rw [hp2]
    exact h w' _ (I.tok _) rw'
/-- y in d -/
theorem d_in {Q : Value → Shared → Prop} (hu : A.units + 1 < cLine) (I : Inv X pins σ H s) (g : DGet H a y o) (ry : RelV y u) (h : ∀ s', Inv X pins σ H s' → Q (.bool o.isSome) s') :
    wpAny (model X.prog X.w) A (compareOp .In u (.ref a)) Q E s := by
  rcases g with ⟨kvs, k, e, ey, l⟩ | ⟨kvs, k, b, e, ey, eb, l⟩
  · subst ey
    obtain ⟨z, hd, vs, rel, dd⟩ := dk_rd I.hok e
    refine wpAny_in_of (kV_is ry) hd dd.mapOf ?_
    rw [← (rel.val k).isSome_eq, ← l]
    exact h _ (I.tok _)
  · subst ey
    cases (show u = Value.ref b from ry)
    obtain ⟨z, hd, xs, rel, dd⟩ := dt_rd I.hok e
    refine wpAny_in_heap (tupleKind_room_in1 hu) (key_of I.hok eb) hd dd ?_
    have q := (rel.val k).isSome_eq
    rw [Option.isSome_map] at q
    rw [← q, ← l]
    exact h _ (I.tok _)
theorem d_notIn {Q : Value → Shared → Prop} (hu : A.units + 1 < cLine) (I : Inv X pins σ H s) (g : DGet H a y o) (ry : RelV y u) (h : ∀ s', Inv X pins σ H s' → Q (.bool (!o.isSome)) s') :
    wpAny (model X.prog X.w) A (compareOp .NotIn u (.ref a)) Q E s := by
  rcases g with ⟨kvs, k, e, ey, l⟩ | ⟨kvs, k, b, e, ey, eb, l⟩
  · subst ey
    obtain ⟨z, hd, vs, rel, dd⟩ := dk_rd I.hok e
    refine wpAny_notIn_of (kV_is ry) hd dd.mapOf ?_
    rw [← (rel.val k).isSome_eq, ← l]
    exact h _ (I.tok _)
  · subst ey
    cases (show u = Value.ref b from ry)
    obtain ⟨z, hd, xs, rel, dd⟩ := dt_rd I.hok e
    refine wpAny_notIn_heap (tupleKind_room_in1 hu) (key_of I.hok eb) hd dd ?_
    have q := (rel.val k).isSome_eq
    rw [Option.isSome_map] at q
    rw [← q, ← l]
    exact h _ (I.tok _)
/-- a dict's object is replaced -/
theorem d_write {h' : Heap} {t' : Nat} {ob : HO} (I : Inv X pins σ H s) (mu : Mut (H a)) (hs : Heap.SameBut a s.heap h') (he : ∃ q, h'.get? a = some q) (new : ObjOk X.prog X.w (upd H a ob) h' a ob) :
    Inv X pins σ (upd H a ob) { s with heap := h', toks := t' } :=
  I.write (x := a) (e := a) mu (.inl rfl) (fun b q hb z => (hs.2 b hb).trans z) he new
theorem dk_new {P : Program} {w : World} {H' : Hp} {h' : Heap} {kvs : List (Key × V)} {vs : List (Key × Value)} (z : kvs.length ≤ sizeLine) (hd : (a == sysModules) = false) (rel : KV kvs vs) (dd : h'.DictOf (mixKind P w) a vs) :
    ObjOk P w H' h' a (.dK kvs) := ⟨z, hd, vs, rel, dd⟩
/-- d[y] = v -/
theorem d_setItem {H' : Hp} {Q : Unit → Shared → Prop} (hu : A.units + 1 < cLine) (I : Inv X pins σ H s) (g : DPut H a y v H') (ry : RelV y u) (rv : RelV v r) (h : ∀ s', Inv X pins σ H' s' → Q () s') :
    wpAny (model X.prog X.w) A (setItem (.ref a) u r) Q E s := by
  rcases g with ⟨kvs, k, e, ey, l, eH⟩ | ⟨kvs, k, b, e, ey, eb, l, eH⟩
  · subst ey eH
    obtain ⟨z, hd, vs, rel, dd⟩ := dk_of I.hok e
    have hz : vs.length ≤ sizeLine := by rw [← rel.length]; exact z
    have hl : (putK kvs k v).length ≤ sizeLine := by have := length_putK kvs k v; omega
    refine wpAny_setItem_pairs (hsz := hz) (kV_is ry) dd fun h' dd' hs => h _ ?_
    have he : ∃ q, h'.get? a = some q := let ⟨q, _, _, hq, _⟩ := dd'; ⟨q, hq⟩
    exact d_write I (by rw [e]; exact True.intro) hs he (dk_new hl hd (rel.put k rv) dd')
  · subst ey eH
    cases (show u = Value.ref b from ry)
    obtain ⟨z, hd, xs, rel, dd⟩ := dt_of I.hok e
    have hz : xs.length ≤ sizeLine := by rw [← Paired.length rel]; exact z
    have hl : (putK kvs k v).length ≤ sizeLine := by have := length_putK kvs k v; omega
    refine wpAny_setItem_heap (hsz := hz) (tupleKind_room_in1 hu) (key_of I.hok eb) dd fun h' dd' hs => h _ ?_
    obtain ⟨q, es, ep, hq, h2, h3, h4, _, h5⟩ := dd'
    refine d_write I (by rw [e]; exact True.intro) hs ⟨q, hq⟩ ⟨hl, hd, _, (rel.put k eb rv).keeps fun c ys ec => ?_, q, es, ep, hq, h2, h3, h4, h5⟩
    rw [upd_ne (ne_of ec e (fun z => nomatch z))]
    exact ec
end

section
variable {X : Cx} {pins : List (Addr × Obj)} {σ : St} {H : Hp} {s : Shared} {a : Addr} {kvs : List (Key × V)} {k : Key} {u : Value} {A : Around} {E : Value → Shared → Prop}
/-- del d[k] -/
theorem d_delItem {Q : Unit → Shared → Prop} (I : Inv X pins σ H s) (e : H a = some (.dK kvs)) (ry : RelV (kV k) u) (l : (valV kvs k).isSome = true) (h : ∀ s', Inv X pins σ (upd H a (.dK (dropK kvs k))) s' → Q () s') :
    wpAny (model X.prog X.w) A (delItem (.ref a) u) Q E s := by
  obtain ⟨z, hd, vs, rel, dd⟩ := dk_of I.hok e
  refine wpAny_delItem_slot dd.typeIs (by decide) PySem.F.slot_dict_delitem
    (call_meetsIn PySem.F.slot_dict_delitem dd.typeIs PySem.F.entry_dict_delitem (PySem.F.args_dict_delitem_2 _ _) (meets_dict_delitem_pairs (mixKind X.prog X.w) a (kV_is ry)) ⟨vs, dd, by rw [← rel.length]; exact z, by rw [← (rel.val k).isSome_eq]; exact l, fun h' dd' hs => h _ ?_⟩)
  have he : ∃ q, h'.get? a = some q := let ⟨q, _, _, hq, _⟩ := dd'; ⟨q, hq⟩
  exact d_write I (by rw [e]; exact True.intro) hs he (dk_new (Nat.le_trans (dropK_le kvs k) z) hd (rel.drop k) dd')
/-- d.pop(k[, x]), there -/
theorem d_pop {v : V} {more : List Value} {Q : Value → Shared → Prop} (I : Inv X pins σ H s) (e : H a = some (.dK kvs)) (ry : RelV (kV k) u) (l : valV kvs k = some v) (hm : more = [] ∨ ∃ x, more = [x])
    (h : ∀ w' s', Inv X pins σ (upd H a (.dK (dropK kvs k))) s' → RelV v w' → Q w' s') : wpAny (model X.prog X.w) A (call (.builtin "dict.pop") (.ref a :: u :: more)) Q E s := by
  obtain ⟨z, hd, vs, rel, dd⟩ := dk_of I.hok e
  obtain ⟨w', hw, rw'⟩ := RelO.some_of (v := v) (o := valueAt vs k) (by rw [← l]; exact rel.val k)
  have hp : (keyPart u).isSome = true := by
    cases k with
    | inl i => obtain ⟨t, q⟩ := (show ∃ t, u = Value.int i t from ry); subst q; rfl
    | inr x => obtain ⟨t, q⟩ := (show ∃ t, u = Value.str x t from ry); subst q; rfl
  have ha : argsOk "dict.pop" ⟨.ref a :: u :: more, []⟩ := by
    rcases hm with q | ⟨x, q⟩
    · subst q; exact PySem.F.args_dict_pop_2 _ _
    · subst q; exact PySem.F.args_dict_pop_3 _ _ _
  refine call_meetsIn PySem.F.slot_dict_pop dd.typeIs PySem.F.entry_dict_pop ha (meets_dict_pop_there (mixKind X.prog X.w) a (kV_is ry) more hm hp)
    ⟨vs, w', dd, by rw [← rel.length]; exact z, hw, fun h' dd' hs => h w' _ ?_ rw'⟩
  have he : ∃ q, h'.get? a = some q := let ⟨q, _, _, hq, _⟩ := dd'; ⟨q, hq⟩
  exact d_write I (by rw [e]; exact True.intro) hs he (dk_new (Nat.le_trans (dropK_le kvs k) z) hd (rel.drop k) dd')
/-- d.pop(k, x), not there -/
theorem d_popD {r : Value} {Q : Value → Shared → Prop} (I : Inv X pins σ H s) (e : H a = some (.dK kvs)) (ry : RelV (kV k) u) (l : valV kvs k = none) (h : ∀ s', Inv X pins σ H s' → Q r s') :
    wpAny (model X.prog X.w) A (call (.builtin "dict.pop") [.ref a, u, r]) Q E s := by
  obtain ⟨z, hd, vs, rel, dd⟩ := dk_of I.hok e
  have hn : valueAt vs k = none := RelO.none_of (by rw [← l]; exact rel.val k)
  have hp : (keyPart u).isSome = true := by
    cases k with
    | inl i => obtain ⟨t, q⟩ := (show ∃ t, u = Value.int i t from ry); subst q; rfl
    | inr x => obtain ⟨t, q⟩ := (show ∃ t, u = Value.str x t from ry); subst q; rfl
  exact call_meetsIn PySem.F.slot_dict_pop dd.typeIs PySem.F.entry_dict_pop (PySem.F.args_dict_pop_3 _ _ _) (meets_dict_pop_default (mixKind X.prog X.w) a (kV_is ry) hd hp r) ⟨vs, dd, hn, h _ (I.tok _)⟩
/-- d.clear() -/
theorem d_clear {Q : Value → Shared → Prop} (I : Inv X pins σ H s) (e : H a = some (.dK kvs)) (h : ∀ s', Inv X pins σ (upd H a (.dK [])) s' → Q .none s') : wpAny (model X.prog X.w) A (call (.builtin "dict.clear") [.ref a]) Q E s := by
  obtain ⟨z, hd, vs, rel, dd⟩ := dk_of I.hok e
  refine call_meetsIn PySem.F.slot_dict_clear dd.typeIs PySem.F.entry_dict_clear (PySem.F.args_dict_clear_1 _) (meets_dict_clear (mixKind X.prog X.w) a) ⟨vs, dd, by rw [← rel.length]; exact z, fun h' dd' hs => h _ ?_⟩
  have he : ∃ q, h'.get? a = some q := let ⟨q, _, _, hq, _⟩ := dd'; ⟨q, hq⟩
  exact d_write (t' := s.toks) I (by rw [e]; exact True.intro) hs he (dk_new (Nat.zero_le _) hd .nil dd')
/-- len(d) -/
theorem d_len {Q : Value → Shared → Prop} (I : Inv X pins σ H s) (e : Rd H a (.dK kvs)) (h : ∀ t s', Inv X pins σ H s' → Q (.int kvs.length t) s') : wpAny (model X.prog X.w) A (call (.builtin "len") [.ref a]) Q E s := by
  obtain ⟨z, hd, vs, rel, dd⟩ := dk_rd I.hok e
  refine call_len_dict hd dd (by rw [← rel.length]; rw [sizeLine_eq] at z; omega) ?_
  rw [← rel.length]
  exact h _ _ (I.tok _)
/-- if d -/
theorem d_truth {Q : Bool → Shared → Prop} (I : Inv X pins σ H s) (e : Rd H a (.dK kvs)) (h : ∀ s', Inv X pins σ H s' → Q (!kvs.isEmpty) s') : wpAny (model X.prog X.w) A (truthy (.ref a)) Q E s := by
  obtain ⟨z, hd, vs, rel, dd⟩ := dk_rd I.hok e
  refine wpAny_truthy_dict hd dd (by rw [← rel.length]; rw [sizeLine_eq] at z; omega) ?_
  have q : kvs.isEmpty = vs.isEmpty := by cases rel <;> rfl
  rw [← q]
  exact h _ (I.tok _)
end


/-! ### readings and rules -/
/-- the element of a subscription, not a slice -/
def NoSl (i : Expr) : Prop := ∀ ov iv, subscripted i false ov iv = operate [ov, iv] (getItem ov iv)
theorem subD_of {prog : Program} {w : World} {A : Around} {E : Value → Shared → Prop} {s : Shared} {env : Env} {value slice : Expr} {pos : Pos} {T id : String} {Q : Value → Shared → Prop}
    (hl : typeLookup (.type T) "__getitem__" = pure (some (.builtin id))) (hs : NoSl slice)
    (h : wpAny (model prog w) A (eval value env) (fun o s₁ => wpAny (model prog w) A (eval slice env) (fun i s₂ => s₂.TypeIs o T ∧ wpAny (model prog w) A (getItem o i) Q E s₂) E s₁) E s) :
    wpAny (model prog w) A (eval (.Subscript value slice pos) env) Q E s := by
  refine Subscript_ (wpAny_mono h (fun o s₁ h₁ => wpAny_mono h₁ (fun i s₂ h₂ => ?_) fun _ _ x => x) fun _ _ x => x)
  obtain ⟨hT, h₂⟩ := h₂
  unfold subscriptTail
  refine wpAny_bind ?_
  rw [getitemInPython_of_ne hT.not_modules]
  refine wpAny_bind (wpAny_specialOf hT hl ?_)
  have fin : wpAny (model prog w) A (subscripted slice false o i) (fun r s₃ => wpAny (model prog w) A (letTemporaryGo value o r >>= fun _ => pure r) Q E s₃) E s₂ := by
    rw [hs o i]
    exact wpAny_operating (wpAny_mono h₂ (fun r s₃ h₃ => wpAny_bind (wpAny_letTemporaryGo (wpAny_pure h₃))) fun _ _ x => x)
  first
    | exact wpAny_pure (wpAny_bind fin)
    | exact wpAny_bind (wpAny_pure (wpAny_bind fin))
    | exact wpAny_bind fin

theorem dict_typeIs {X : Cx} {pins : List (Addr × Obj)} {σ : St} {H : Hp} {s : Shared} {a : Addr} {y : V} {o : Option V} (I : Inv X pins σ H s) (g : DGet H a y o) : s.TypeIs (.ref a) "dict" := by
  rcases g with ⟨kvs, k, e, _, _⟩ | ⟨kvs, k, b, e, _, _, _⟩
  · obtain ⟨_, _, vs, _, dd⟩ := dk_rd I.hok e
    exact dd.typeIs
  · obtain ⟨_, _, xs, _, dd⟩ := dt_rd I.hok e
    exact dd.typeIs
theorem dict_noDict {X : Cx} {pins : List (Addr × Obj)} {σ : St} {H : Hp} {s : Shared} {a : Addr} {y : V} {o : Option V} (I : Inv X pins σ H s) (g : DGet H a y o) :
    ∀ b, Value.ref a = .ref b → ∃ ob, s.heap.get? b = some ob ∧ ob.dict = none := fun b q => by
  cases q
  rcases g with ⟨kvs, k, e, _, _⟩ | ⟨kvs, k, b, e, _, _, _⟩
  · obtain ⟨_, _, vs, _, ob, _, _, h1, h2, _⟩ := dk_rd I.hok e
    exact ⟨ob, h1, h2.2.1⟩
  · obtain ⟨_, _, xs, _, ob, _, _, h1, h2, _⟩ := dt_rd I.hok e
    exact ⟨ob, h1, h2.2.1⟩

/-- d[y] -/
def tDGet (td ty : TE) : TE := fun σ H Q => td σ H fun x H1 => ty σ H1 fun y H2 => ∃ a v, x = .ref a ∧ DGet H2 a y (some v) ∧ Q v H2
/-- y in d, y not in d -/
def tDIn (ty td : TE) : TE := fun σ H Q => ty σ H fun y H1 => td σ H1 fun x H2 => ∃ a o, x = .ref a ∧ DGet H2 a y o ∧ Q (.bl o.isSome) H2
def tDNotIn (ty td : TE) : TE := fun σ H Q => ty σ H fun y H1 => td σ H1 fun x H2 => ∃ a o, x = .ref a ∧ DGet H2 a y o ∧ Q (.bl (!o.isSome)) H2
/-- d[y] = v -/
def sDPut (td ty tv : TE) : TS := fun D σ H => tv σ H fun v H1 => td σ H1 fun x H2 => ty σ H2 fun y H3 => ∃ a H4, x = .ref a ∧ DPut H3 a y v H4 ∧ D.nx σ H4
/-- d[y] op= v -/
def sDAug (td ty tv : TE) (rd : V → V → Hp → VK → Prop) : TS := fun D σ H => td σ H fun x H1 => ty σ H1 fun y H2 => ∃ a v, x = .ref a ∧ DGet H2 a y (some v) ∧
  tv σ H2 fun y2 H3 => rd v y2 H3 fun z H4 => ∃ H5, DPut H4 a y z H5 ∧ D.nx σ H5
/-- del d[y] -/
def sDDel (td ty : TE) : TS := fun D σ H => td σ H fun x H1 => ty σ H1 fun y H2 => ∃ a kvs k, x = .ref a ∧ H2 a = some (.dK kvs) ∧ y = kV k ∧ (valV kvs k).isSome = true ∧ D.nx σ (upd H2 a (.dK (dropK kvs k)))

section
variable {X : Cx} {o i e value : Expr} {pos pos' tpos : Pos} {td ty tv : TE}
theorem pe_dget (hu : X.A.units + 1 < cLine) (ho : PE X o td) (hi : PE X i ty) (hs : NoSl i) : PE X (.Subscript o i pos) (tDGet td ty) := by
  intro pins s σ H Q I h
  refine subD_of PySem.F.slot_dict_getitem.lookup hs (thn (ho pins s σ H _ I h) fun u s1 ⟨x, H1, I1, rx, q1⟩ => thn (hi pins s1 σ H1 _ I1 q1) fun iv s2 ⟨y, H2, I2, ry, a, v, ex, g, q2⟩ => ?_)
  subst ex
  obtain rfl : u = Value.ref a := rx
  exact ⟨dict_typeIs I2 g, d_getItem hu I2 g ry fun w' s3 I3 rw' => ⟨v, H2, I3, rw', q2⟩⟩
theorem pc_din (hu : X.A.units + 1 < cLine) (hi : PE X i ty) (ho : PE X o td) : PC X .In i o (tDIn ty td) := by
  intro pins s σ H Q I h
  refine thn (hi pins s σ H _ I h) fun iv s1 ⟨y, H1, I1, ry, q1⟩ => thn (ho pins s1 σ H1 _ I1 q1) fun u s2 ⟨x, H2, I2, rx, a, ov, ex, g, q2⟩ => ?_
  subst ex
  obtain rfl : u = Value.ref a := rx
  exact d_in hu I2 g ry fun s3 I3 => ⟨.bl ov.isSome, H2, I3, rfl, q2⟩
theorem pc_dnotin (hu : X.A.units + 1 < cLine) (hi : PE X i ty) (ho : PE X o td) : PC X .NotIn i o (tDNotIn ty td) := by
  intro pins s σ H Q I h
  refine thn (hi pins s σ H _ I h) fun iv s1 ⟨y, H1, I1, ry, q1⟩ => thn (ho pins s1 σ H1 _ I1 q1) fun u s2 ⟨x, H2, I2, rx, a, ov, ex, g, q2⟩ => ?_
  subst ex
  obtain rfl : u = Value.ref a := rx
  exact d_notIn hu I2 g ry fun s3 I3 => ⟨.bl (!ov.isSome), H2, I3, rfl, q2⟩
theorem ps_dput (hu : X.A.units + 1 < cLine) (ho : PE X o td) (hi : PE X i ty) (hv : PE X value tv) (hs : swapsWith value (some (.Subscript o i pos')) pos.line X.env = pure false) :
    PS X (.Assign [.Subscript o i pos'] value pos) (sDPut td ty tv) := by
  intro pins s σ H D I h
  refine wpAny_Assign_Subscript (thn (hv pins s σ H _ I h) fun r s1 ⟨v, H1, I1, rv, q1⟩ => thn (ho pins s1 σ H1 _ I1 q1) fun u s2 ⟨x, H2, I2, rx, q2⟩ => thn (hi pins s2 σ H2 _ I2 q2) fun iv s3 ⟨y, H3, I3, ry, a, H4, ex, g, q3⟩ => ?_) hs
  subst ex
  obtain rfl : u = Value.ref a := rx
  exact d_setItem hu I3 g ry rv fun s4 I4 => ⟨σ, H4, I4, q3⟩
theorem ps_daug {op : Operator} {rd : V → V → Hp → VK → Prop} (hu : X.A.units + 1 < cLine) (ho : PE X o td) (hi : PE X i ty) (hv : PE X value tv) (hop : InOp X op rd)
    (ha : ∀ ov iv new, augStore i ov iv new = (do holding [new, ov, iv] (setItem ov iv new); release [new, ov, iv] []; pure .next)) : PS X (.AugAssign (.Subscript o i tpos) op value pos) (sDAug td ty tv rd) := by
  intro pins s σ H D I h
  refine wpAny_AugAssign_SubscriptAny (thn (ho pins s σ H _ I h) fun u s1 ⟨x, H1, I1, rx, q1⟩ => thn (hi pins s1 σ H1 _ I1 q1) fun iv s2 ⟨y, H2, I2, ry, a, v, ex, g, q2⟩ => ?_) ha
  subst ex
  obtain rfl : u = Value.ref a := rx
  refine d_getItem hu I2 g ry fun w' s3 I3 rw' => thn (hv pins s3 σ H2 _ I3 q2) fun w2 s4 ⟨y2, H3, I4, ry2, q3⟩ => thn (hop pins s4 σ H3 v y2 w' w2 _ I4 rw' ry2 q3) fun w3 s5 ⟨z, H4, I5, rz, H5, g5, q4⟩ => ?_
  exact d_setItem hu I5 g5 ry rz fun s6 I6 => ⟨σ, H5, I6, q4⟩
theorem ps_ddel (ho : PE X o td) (hi : PE X i ty) : PS X (.Delete [.Subscript o i tpos] pos) (sDDel td ty) := by
  intro pins s σ H D I h
  refine wpAny_Delete (wpAny_deleteEach_cons (wpAny_delete_Subscript (thn (ho pins s σ H _ I h) fun u s1 ⟨x, H1, I1, rx, q1⟩ => thn (hi pins s1 σ H1 _ I1 q1) fun iv s2 ⟨y, H2, I2, ry, a, kvs, k, ex, e, ey, l, q2⟩ => ?_)))
  subst ex ey
  obtain rfl : u = Value.ref a := rx
  exact d_delItem I2 e ry l fun s3 I3 => wpAny_deleteEach_nil ⟨σ, _, I3, q2⟩
end


/-! ### displays -/
theorem dk_empty {P : Program} {w : World} {H : Hp} (h : Heap) (hb : sysModules < h.objs.size) : ObjOk P w H (h.push { cls := .type "dict", data := .dict #[] }) h.objs.size (.dK []) :=
  ⟨Nat.zero_le _, beq_eq_false_iff_ne.mpr (Ne.symm (Nat.ne_of_lt hb)), [], .nil, Heap.DictOf.new h⟩
theorem dt_empty {P : Program} {w : World} {H : Hp} (h : Heap) (hb : sysModules < h.objs.size) : ObjOk P w H (h.push { cls := .type "dict", data := .dict #[] }) h.objs.size (.dT []) :=
  ⟨Nat.zero_le _, beq_eq_false_iff_ne.mpr (Ne.symm (Nat.ne_of_lt hb)), [], .nil, _, #[], 0, Heap.get?_push_size _ rfl, ⟨rfl, rfl, rfl⟩, rfl, rfl, List.nodup_nil⟩
/-- {}, to be a dict of the kind that is wanted -/
def tDNewK : TE := fun _ H Q => ∀ p, H p = none → Q (.ref p) (upd H p (.dK []))
def tDNewT : TE := fun _ H Q => ∀ p, H p = none → Q (.ref p) (upd H p (.dT []))
section
variable {X : Cx} {pos : Pos}
theorem pe_dnewK : PE X (.Dict [] [] pos) tDNewK := fun pins s σ H Q I h =>
  wpAny_Dict_empty ⟨.ref s.heap.objs.size, _, I.laid (a := s.heap.objs.size) (o := .dK []) (t' := s.toks) (fun _ _ q => Heap.get?_push_of_some _ q) (Nat.le_refl _) (dk_empty s.heap I.big), rfl, h _ (I.hok.fresh (Nat.le_refl _))⟩
theorem pe_dnewT : PE X (.Dict [] [] pos) tDNewT := fun pins s σ H Q I h =>
  wpAny_Dict_empty ⟨.ref s.heap.objs.size, _, I.laid (a := s.heap.objs.size) (o := .dT []) (t' := s.toks) (fun _ _ q => Heap.get?_push_of_some _ q) (Nat.le_refl _) (dt_empty s.heap I.big), rfl, h _ (I.hok.fresh (Nat.le_refl _))⟩
end

/-- the pairs of a display, from the left -/
def tPairs : List (TE × TE) → St → Hp → (List (V × V) → Hp → Prop) → Prop
  | [], _, H, Q => Q [] H
  | (tk, tv) :: r, σ, H, Q => tk σ H fun x H1 => tv σ H1 fun y H2 => tPairs r σ H2 fun ps H3 => Q ((x, y) :: ps) H3
abbrev VV : List (V × V) → List (Value × Value) → Prop := Paired fun p q => RelV p.1 q.1 ∧ RelV p.2 q.2
def PPs (X : Cx) (pos : Pos) (keys : List (Option Expr)) (values : List Expr) (trs : List (TE × TE)) : Prop :=
  ∀ (pins : List (Addr × Obj)) (s : Shared) (σ : St) (H : Hp) (Q : List (V × V) → Hp → Prop), Inv X pins σ H s → tPairs trs σ H Q →
    wpAny (model X.prog X.w) X.A (evalPairs (pairTrees keys values X.env pos)) (fun vs s' => ∃ ps H', Inv X pins σ H' s' ∧ VV ps vs ∧ Q ps H') X.xe s
theorem pps_nil {X : Cx} {pos : Pos} : PPs X pos [] [] [] := fun pins s σ H Q I h => pairTrees_nil_walk ⟨[], H, I, .nil, h⟩
theorem pps_cons {X : Cx} {pos : Pos} {k v : Expr} {ks : List (Option Expr)} {vs : List Expr} {tk tv : TE} {trs : List (TE × TE)} (hk : PE X k tk) (hv : PE X v tv) (hr : PPs X pos ks vs trs) :
    PPs X pos (some k :: ks) (v :: vs) ((tk, tv) :: trs) := fun pins s σ H Q I h =>
  pairTrees_cons_walk (thn (hk pins s σ H _ I h) fun u s1 ⟨x, H1, I1, rx, q1⟩ => thn (hv pins s1 σ H1 _ I1 q1) fun w2 s2 ⟨y, H2, I2, ry, q2⟩ =>
    thn (hr pins s2 σ H2 _ I2 q2) fun ws s3 ⟨ps, H3, I3, rel, q3⟩ => ⟨(x, y) :: ps, H3, I3, .cons ⟨rx, ry⟩ rel, q3⟩)

def mergeK (kvs more : List (Key × V)) : List (Key × V) := more.foldl (fun acc kv => putK acc kv.1 kv.2) kvs
theorem KV.merge : ∀ {more : List (Key × V)} {rs : List (Key × Value)} {kvs : List (Key × V)} {vs : List (Key × Value)}, KV more rs → KV kvs vs → KV (mergeK kvs more) (merged vs rs) := by
  intro more rs kvs vs r
  unfold KV at r
  induction r generalizing kvs vs with
  | nil => intro q; exact q
  | @cons p q ps qs h t ih =>
    intro r0
    have e : KV (putK kvs p.1 p.2) (stored vs q.1 q.2) := by
      have := r0.put p.1 h.2
      rw [← h.1]; exact this
    exact ih e
theorem length_mergeK : ∀ (more kvs : List (Key × V)), (mergeK kvs more).length ≤ kvs.length + more.length
  | [], kvs => by show kvs.length ≤ kvs.length + 0; omega
  | p :: r, kvs => by
    have h1 := length_mergeK r (putK kvs p.1 p.2)
    have h2 := length_putK kvs p.1 p.2
    show (mergeK (putK kvs p.1 p.2) r).length ≤ _
    rw [List.length_cons]; omega
theorem carries_of {P : Program} {w : World} : ∀ {kvs : List (Key × V)} {ws : List (Value × Value)}, VV (kvs.map fun kv => (kV kv.1, kv.2)) ws → ∃ rs, Carries (mixKind P w) ws rs ∧ KV kvs rs
  | [], _, r => by rw [List.map_nil] at r; cases r; exact ⟨[], True.intro, .nil⟩
  | p :: kvs, _, r => by
    rw [List.map_cons] at r
    cases r with
    | @cons a b as bs h t =>
      obtain ⟨rs, c, q⟩ := carries_of (P := P) (w := w) t
      obtain ⟨b1, b2⟩ := b
      exact ⟨(p.1, b2) :: rs, ⟨kV_is h.1, rfl, c⟩, .cons ⟨rfl, h.2⟩ q⟩
/-- {k: v, ..} with keys ints and texts; the new dict stands empty while the pairs are made -/
def tDisp (trs : List (TE × TE)) : TE := fun σ H Q => ∀ p, H p = none → tPairs trs σ (upd H p (.dK [])) fun ps H2 => H2 p = some (.dK []) ∧ ∃ kvs : List (Key × V), ps = kvs.map (fun kv => (kV kv.1, kv.2)) ∧ kvs.length ≤ 15 ∧ Q (.ref p) (upd H2 p (.dK (mergeK [] kvs)))
theorem pe_disp {X : Cx} {pos : Pos} {keys : List (Option Expr)} {values : List Expr} {trs : List (TE × TE)} (h : PPs X pos keys values trs) (hall : keys.all (·.isSome) = true) (hl : keys.length = values.length) (h0 : keys ≠ [])
    (h15 : keys.length ≤ 15) : PE X (.Dict keys values pos) (tDisp trs) := by
  intro pins s σ H Q I q
  have hn := I.hok.fresh (Nat.le_refl s.heap.objs.size)
  have I1 := I.laid (a := s.heap.objs.size) (o := .dK []) (h' := s.heap.push { cls := .type "dict", data := .dict #[] }) (t' := s.toks) (fun _ _ q => Heap.get?_push_of_some _ q) (Nat.le_refl _) (dk_empty s.heap I.big)
  refine wpAny_Dict_walk (knd := mixKind X.prog X.w) hall hl h0 h15 (thn (h pins _ σ _ _ I1 (q _ hn)) fun ws s2 ⟨ps, H2, I2, rel, e, kvs, ep, lk, q2⟩ => ?_)
  subst ep
  obtain ⟨rs, c, rk⟩ := carries_of (P := X.prog) (w := X.w) rel
  obtain ⟨z, hd, vs0, r0, dd⟩ := dk_of I2.hok e
  cases r0
  refine ⟨rs, c, dd, fun h' dd' hs => ⟨.ref s.heap.objs.size, _, ?_, rfl, q2⟩⟩
  have hz : (mergeK [] kvs).length ≤ sizeLine := by
    have h1 := length_mergeK kvs []
    rw [List.length_nil] at h1
    rw [sizeLine_eq]; omega
  have he : ∃ q, h'.get? s.heap.objs.size = some q := let ⟨q, _, _, hq, _⟩ := dd'; ⟨q, hq⟩
  exact d_write I2 (by rw [e]; exact True.intro) hs he (dk_new hz hd (rk.merge .nil) dd')


/-! ### methods -/
/-- a method call o.m(e) of a built-in, with one argument: what must be seen of the text -/
structure M1 (X : Cx) (o : Expr) (m : Str) (apos : Pos) (e : Expr) (cpos : Pos) : Prop where
  base : attributeBase o m X.env (eval o X.env) = eval o X.env
  few : ((backTo cpos (starEach [e] X.env)).all (fun x => !x.1) && (backToKw cpos (keywordEach [] X.env)).all (fun x => x.1.isSome)
    && decide (([e] : List Expr).length + ([] : List Keyword).length + (if ([] : List Keyword).isEmpty then 0 else 1) < 30)) = true
  line : (apos.endLine == cpos.line) = true
  trees : backTo cpos (starEach [e] X.env) = [(false, eval e X.env)]
structure M2 (X : Cx) (o : Expr) (m : Str) (apos : Pos) (e f : Expr) (cpos : Pos) : Prop where
  base : attributeBase o m X.env (eval o X.env) = eval o X.env
  few : ((backTo cpos (starEach [e, f] X.env)).all (fun x => !x.1) && (backToKw cpos (keywordEach [] X.env)).all (fun x => x.1.isSome)
    && decide (([e, f] : List Expr).length + ([] : List Keyword).length + (if ([] : List Keyword).isEmpty then 0 else 1) < 30)) = true
  line : (apos.endLine == cpos.line) = true
  trees : backTo cpos (starEach [e, f] X.env) = [(false, eval e X.env), (false, eval f X.env)]

/-- a is a dict, whatever its keys -/
def IsD (H : Hp) (a : Addr) : Prop := (∃ kvs, Rd H a (.dK kvs)) ∨ ∃ kvs, Rd H a (.dT kvs)
theorem isD_at {X : Cx} {pins : List (Addr × Obj)} {σ : St} {H : Hp} {s : Shared} {a : Addr} (I : Inv X pins σ H s) (d : IsD H a) :
    s.TypeIs (.ref a) "dict" ∧ (∀ b, Value.ref a = .ref b → ∃ ob, s.heap.get? b = some ob ∧ ob.dict = none) ∧ (a == sysModules) = false := by
  rcases d with ⟨kvs, e⟩ | ⟨kvs, e⟩
  · obtain ⟨_, hd, vs, _, dd⟩ := dk_rd I.hok e
    refine ⟨dd.typeIs, fun b q => ?_, hd⟩
    cases q
    obtain ⟨ob, _, _, h1, h2, _⟩ := dd
    exact ⟨ob, h1, h2.2.1⟩
  · obtain ⟨_, hd, xs, _, dd⟩ := dt_rd I.hok e
    refine ⟨dd.typeIs, fun b q => ?_, hd⟩
    cases q
    obtain ⟨ob, _, _, h1, h2, _⟩ := dd
    exact ⟨ob, h1, h2.2.1⟩

section
variable {X : Cx} {pins : List (Addr × Obj)} {σ : St} {H : Hp} {s : Shared} {a : Addr} {y d : V} {u r : Value} {o : Option V} {A : Around} {E : Value → Shared → Prop}
/-- d.get(y) -/
theorem d_get1 {Q : Value → Shared → Prop} (hu : A.units + 1 < cLine) (I : Inv X pins σ H s) (g : DGet H a y o) (ry : RelV y u) (h : ∀ w' s', Inv X pins σ H s' → RelV (o.getD .non) w' → Q w' s') :
    wpAny (model X.prog X.w) A (call (.builtin "dict.get") [.ref a, u]) Q E s := by
  rcases g with ⟨kvs, k, e, ey, l⟩ | ⟨kvs, k, b, e, ey, eb, l⟩
  · subst ey
    obtain ⟨z, hd, vs, rel, dd⟩ := dk_rd I.hok e
    refine call_meetsIn PySem.F.slot_dict_get dd.typeIs PySem.F.entry_dict_get (PySem.F.args_dict_get_2 _ _) (meets_dict_get (mixKind X.prog X.w) a (kV_is ry) hd) ⟨_, dd.mapOf, h _ _ (I.tok _) ?_⟩
    rw [l]
    exact (rel.val k).getD rfl
  · subst ey
    cases (show u = Value.ref b from ry)
    obtain ⟨z, hd, xs, rel, dd⟩ := dt_rd I.hok e
    refine call_meetsIn PySem.F.slot_dict_get dd.typeIs PySem.F.entry_dict_get (PySem.F.args_dict_get_2 _ _) (meetsH_dict_get (tupleKind (mixKind X.prog X.w)) a b hd) ⟨tupleKind_room_in1 hu, k, xs, key_of I.hok eb, dd, h _ _ (I.tok _) ?_⟩
    rw [l]
    exact (rel.val k).getD rfl
/-- d.get(y, x) -/
theorem d_get2 {Q : Value → Shared → Prop} (hu : A.units + 1 < cLine) (I : Inv X pins σ H s) (g : DGet H a y o) (ry : RelV y u) (rd : RelV d r) (h : ∀ w' s', Inv X pins σ H s' → RelV (o.getD d) w' → Q w' s') :
    wpAny (model X.prog X.w) A (call (.builtin "dict.get") [.ref a, u, r]) Q E s := by
  rcases g with ⟨kvs, k, e, ey, l⟩ | ⟨kvs, k, b, e, ey, eb, l⟩
  · subst ey
    obtain ⟨z, hd, vs, rel, dd⟩ := dk_rd I.hok e
    refine call_meetsIn PySem.F.slot_dict_get dd.typeIs PySem.F.entry_dict_get (PySem.F.args_dict_get_3 _ _ _) (meets_dict_get_default (mixKind X.prog X.w) a (kV_is ry) hd r) ⟨_, dd.mapOf, h _ _ (I.tok _) ?_⟩
    rw [l]
    exact (rel.val k).getD rd
  · subst ey
    cases (show u = Value.ref b from ry)
    obtain ⟨z, hd, xs, rel, dd⟩ := dt_rd I.hok e
    refine call_meetsIn PySem.F.slot_dict_get dd.typeIs PySem.F.entry_dict_get (PySem.F.args_dict_get_3 _ _ _) (meetsH_dict_get_default (tupleKind (mixKind X.prog X.w)) a b hd r) ⟨tupleKind_room_in1 hu, k, xs, key_of I.hok eb, dd, h _ _ (I.tok _) ?_⟩
    rw [l]
    exact (rel.val k).getD rd
end

def tDGet1 (td ty : TE) : TE := fun σ H Q => td σ H fun x H1 => ∃ a, x = .ref a ∧ IsD H1 a ∧ ty σ H1 fun y H2 => ∃ o, DGet H2 a y o ∧ Q (o.getD .non) H2
def tDGet2 (td ty tx : TE) : TE := fun σ H Q => td σ H fun x H1 => ∃ a, x = .ref a ∧ IsD H1 a ∧ ty σ H1 fun y H2 => tx σ H2 fun z H3 => ∃ o, DGet H3 a y o ∧ Q (o.getD z) H3
/-- d.pop(k): there; d.pop(k, x): there or not -/
def tDPop1 (td ty : TE) : TE := fun σ H Q => td σ H fun x H1 => ∃ a, x = .ref a ∧ IsD H1 a ∧ ty σ H1 fun y H2 => ∃ kvs k v, H2 a = some (.dK kvs) ∧ y = kV k ∧ valV kvs k = some v ∧ Q v (upd H2 a (.dK (dropK kvs k)))
def tDPop2 (td ty tx : TE) : TE := fun σ H Q => td σ H fun x H1 => ∃ a, x = .ref a ∧ IsD H1 a ∧ ty σ H1 fun y H2 => tx σ H2 fun z H3 => ∃ kvs k, H3 a = some (.dK kvs) ∧ y = kV k ∧
  (∀ v, valV kvs k = some v → Q v (upd H3 a (.dK (dropK kvs k)))) ∧ (valV kvs k = none → Q z H3)
section
variable {X : Cx} {o e f : Expr} {apos cpos : Pos} {td ty tx : TE}
theorem pe_dget1 (hu : X.A.units + 1 < cLine) (ho : PE X o td) (he : PE X e ty) (m : M1 X o "get" apos e cpos) : PE X (.Call (.Attribute o "get" apos) [e] [] cpos) (tDGet1 td ty) := by
  intro pins s σ H Q I h
  refine wpAny_Call_method m.base m.few m.line PySem.F.plainAttrs_dict PySem.F.slot_dict_get PySem.F.type_dict_get (thn (ho pins s σ H _ I h) fun u s1 ⟨x, H1, I1, rx, a, ex, d, q1⟩ => ?_)
  subst ex
  obtain rfl : u = Value.ref a := rx
  obtain ⟨t1, t2, _⟩ := isD_at I1 d
  refine ⟨t1, t2, ?_⟩
  rw [m.trees]
  refine Calls.callWith_builtin rfl (Calls.evalArgs_plain (Calls.spliced_cons (thn (he pins s1 σ H1 _ I1 q1) fun iv s2 ⟨y, H2, I2, ry, ov, g, q2⟩ => Calls.spliced_nil ?_)))
  exact d_get1 hu I2 g ry fun w' s3 I3 rw' => ⟨_, H2, I3, rw', q2⟩
theorem pe_dget2 (hu : X.A.units + 1 < cLine) (ho : PE X o td) (he : PE X e ty) (hf : PE X f tx) (m : M2 X o "get" apos e f cpos) : PE X (.Call (.Attribute o "get" apos) [e, f] [] cpos) (tDGet2 td ty tx) := by
  intro pins s σ H Q I h
  refine wpAny_Call_method m.base m.few m.line PySem.F.plainAttrs_dict PySem.F.slot_dict_get PySem.F.type_dict_get (thn (ho pins s σ H _ I h) fun u s1 ⟨x, H1, I1, rx, a, ex, d, q1⟩ => ?_)
  subst ex
  obtain rfl : u = Value.ref a := rx
  obtain ⟨t1, t2, _⟩ := isD_at I1 d
  refine ⟨t1, t2, ?_⟩
  rw [m.trees]
  refine Calls.callWith_builtin rfl (Calls.evalArgs_plain (Calls.spliced_cons (thn (he pins s1 σ H1 _ I1 q1) fun iv s2 ⟨y, H2, I2, ry, q2⟩ =>
    Calls.spliced_cons (thn (hf pins s2 σ H2 _ I2 q2) fun fv s3 ⟨z, H3, I3, rz, ov, g, q3⟩ => Calls.spliced_nil ?_))))
  exact d_get2 hu I3 g ry rz fun w' s4 I4 rw' => ⟨_, H3, I4, rw', q3⟩
theorem pe_dpop1 (ho : PE X o td) (he : PE X e ty) (m : M1 X o "pop" apos e cpos) : PE X (.Call (.Attribute o "pop" apos) [e] [] cpos) (tDPop1 td ty) := by
  intro pins s σ H Q I h
  refine wpAny_Call_method m.base m.few m.line PySem.F.plainAttrs_dict PySem.F.slot_dict_pop PySem.F.type_dict_pop (thn (ho pins s σ H _ I h) fun u s1 ⟨x, H1, I1, rx, a, ex, d, q1⟩ => ?_)
  subst ex
  obtain rfl : u = Value.ref a := rx
  obtain ⟨t1, t2, _⟩ := isD_at I1 d
  refine ⟨t1, t2, ?_⟩
  rw [m.trees]
  refine Calls.callWith_builtin rfl (Calls.evalArgs_plain (Calls.spliced_cons (thn (he pins s1 σ H1 _ I1 q1) fun iv s2 ⟨y, H2, I2, ry, kvs, k, v, ea, ey, l, q2⟩ => Calls.spliced_nil ?_)))
  subst ey
  exact d_pop I2 ea ry l (.inl rfl) fun w' s3 I3 rw' => ⟨v, _, I3, rw', q2⟩
theorem pe_dpop2 (ho : PE X o td) (he : PE X e ty) (hf : PE X f tx) (m : M2 X o "pop" apos e f cpos) : PE X (.Call (.Attribute o "pop" apos) [e, f] [] cpos) (tDPop2 td ty tx) := by
  intro pins s σ H Q I h
  refine wpAny_Call_method m.base m.few m.line PySem.F.plainAttrs_dict PySem.F.slot_dict_pop PySem.F.type_dict_pop (thn (ho pins s σ H _ I h) fun u s1 ⟨x, H1, I1, rx, a, ex, d, q1⟩ => ?_)
  subst ex
  obtain rfl : u = Value.ref a := rx
  obtain ⟨t1, t2, _⟩ := isD_at I1 d
  refine ⟨t1, t2, ?_⟩
  rw [m.trees]
  refine Calls.callWith_builtin rfl (Calls.evalArgs_plain (Calls.spliced_cons (thn (he pins s1 σ H1 _ I1 q1) fun iv s2 ⟨y, H2, I2, ry, q2⟩ =>
    Calls.spliced_cons (thn (hf pins s2 σ H2 _ I2 q2) fun fv s3 ⟨z, H3, I3, rz, kvs, k, ea, ey, q3, q4⟩ => Calls.spliced_nil ?_))))
  subst ey
  cases l : valV kvs k with
  | some v => exact d_pop I3 ea ry l (.inr ⟨fv, rfl⟩) fun w' s4 I4 rw' => ⟨v, _, I4, rw', q3 v l⟩
  | none => exact d_popD I3 ea ry l fun s4 I4 => ⟨z, H3, I4, rz, q4 l⟩
end

/-! ### dict(d): a copy -/
section
variable {X : Cx} {pins : List (Addr × Obj)} {σ : St} {H : Hp} {s : Shared} {a : Addr} {kvs : List (Key × V)} {A : Around} {E : Value → Shared → Prop}
theorem d_copyOf {Q : Value → Shared → Prop} (I : Inv X pins σ H s) (e : Rd H a (.dK kvs)) (h : ∀ p s', H p = none → Inv X pins σ (upd H p (.dK kvs)) s' → Q (.ref p) s') : wpAny (model X.prog X.w) A (call (.type "dict") [.ref a]) Q E s := by
  obtain ⟨z, hd, vs, rel, dd⟩ := dk_rd I.hok e
  refine kt_call_dict hd dd (by rw [← rel.length]; exact z) fun h' dd' hs => ?_
  refine h _ _ (I.hok.fresh (Nat.le_refl _)) (I.laid (a := s.heap.objs.size) (o := .dK kvs) (t' := s.toks) (fun b q hq => ?_) (Nat.le_refl _) (dk_new z (beq_eq_false_iff_ne.mpr (Ne.symm (Nat.ne_of_lt I.big))) rel dd'))
  exact (hs.2 b (Nat.ne_of_lt (Heap.lt_size hq))).trans (Heap.get?_push_of_some _ hq)
end


section
variable {X : Cx} {pins : List (Addr × Obj)} {σ : St} {H : Hp} {s : Shared} {a : Addr} {y : V} {u : Value} {A : Around} {E : Value → Shared → Prop}
/-- d[y], not there: a KeyError -/
theorem d_missing {Q : Value → Shared → Prop} (hu : A.units + 1 < cLine) (hh : A.handled = none) (I : Inv X pins σ H s) (g : DGet H a y none) (ry : RelV y u)
    (h : ∀ h' e t', Heap.NewExc s.heap h' e "KeyError" → E (.ref e) { s with heap := h', toks := t' }) : wpAny (model X.prog X.w) A (getItem (.ref a) u) Q E s := by
  rcases g with ⟨kvs, k, e, ey, l⟩ | ⟨kvs, k, b, e, ey, eb, l⟩
  · subst ey
    obtain ⟨z, hd, vs, rel, dd⟩ := dk_rd I.hok e
    have hn : valueAt vs k = none := RelO.none_of (by rw [l]; exact rel.val k)
    exact wpAny_getItem_missing_of (kV_is ry) hd hh dd.mapOf hn fun h' ex ne => h h' ex _ ne
  · subst ey
    cases (show u = Value.ref b from ry)
    obtain ⟨z, hd, xs, rel, dd⟩ := dt_rd I.hok e
    have hn : (atKey xs k).map (·.2) = none := RelO.none_of (by rw [l]; exact rel.val k)
    exact wpAny_getItem_missing_heap (tupleKind_room_in1 hu) (key_of I.hok eb) hd hh dd (Option.map_eq_none_iff.mp hn) fun h' ex ne => h h' ex _ ne
end
end L2

namespace Ml
open PySem PySem.W PyProof.Rows

/-! a sort's questions answered by a pure order -/
def pw (lt : Nat → Nat → Bool) (n : Nat) {α : Type} : KasT α → (α → Prop) → Prop
  | .ret a, Q => Q a
  | .ask i j k, Q => i < n ∧ j < n ∧ pw lt n (k (lt i j)) Q
section
variable {lt : Nat → Nat → Bool} {n : Nat}
theorem pw_mono {α : Type} {Q Q' : α → Prop} (h : ∀ a, Q a → Q' a) : ∀ (t : KasT α), pw lt n t Q → pw lt n t Q'
  | .ret a, q => h a q
  | .ask i j k, ⟨a, b, q⟩ => ⟨a, b, pw_mono h (k (lt i j)) q⟩
theorem pw_bind {α β : Type} {f : α → KasT β} {Q : β → Prop} : ∀ (t : KasT α), pw lt n t (fun a => pw lt n (f a) Q) → pw lt n (t.bind f) Q
  | .ret _, q => q
  | .ask i j k, ⟨a, b, q⟩ => ⟨a, b, pw_bind (k (lt i j)) q⟩
theorem wp_of_pw {α : Type} {cmp : Nat → Nat → (Bool → Shared → Prop) → Shared → Prop} (J : Shared → Prop)
    (hc : ∀ i j C s, i < n → j < n → J s → (∀ s', J s' → C (lt i j) s') → cmp i j C s) {Q : α → Shared → Prop} :
    ∀ (t : KasT α) (s : Shared), J s → pw lt n t (fun a => ∀ s', J s' → Q a s') → t.kasWp cmp Q s
  | .ret _, s, hj, q => q s hj
  | .ask i j k, s, hj, ⟨a, b, q⟩ => hc i j _ s a b hj fun s' hj' => wp_of_pw J hc (k (lt i j)) s' hj' q

/-- a strict order of all numbers, no two alike -/
structure Ord (lt : Nat → Nat → Bool) : Prop where
  irr : ∀ i, lt i i = false
  tr : ∀ i j k, lt i j = true → lt j k = true → lt i k = true
  tot : ∀ i j, i ≠ j → lt i j = true ∨ lt j i = true

abbrev gt (p : Array Nat) (i : Nat) : Nat := p.getD i 0
theorem gt_get (p : Array Nat) (i : Nat) : gt p i = (p[i]?).getD 0 := by
  unfold gt
  by_cases h : i < p.size
  · simp [Array.getD, h]
  · simp [Array.getD, h]
def Prm (n : Nat) (p : Array Nat) : Prop := p.size = n ∧ p.toList.Perm (List.range n)
theorem Prm.bd {p : Array Nat} (h : Prm n p) {i : Nat} (hi : i < n) : gt p i < n := by
  obtain ⟨hs, hp⟩ := h
  have hi' : i < p.size := by omega
  have e : gt p i = p[i] := by simp [gt, Array.getD, hi']
  have hm : p[i] ∈ p.toList := by simp
  have := List.mem_range.mp (hp.mem_iff.mp hm)
  rw [e]; exact this
theorem Prm.inj {p : Array Nat} (h : Prm n p) {i j : Nat} (hi : i < n) (hj : j < n) (hne : i ≠ j) : gt p i ≠ gt p j := by
  obtain ⟨hs, hp⟩ := h
  have nd : p.toList.Nodup := hp.nodup_iff.mpr List.nodup_range
  have hi' : i < p.size := by omega
  have hj' : j < p.size := by omega
  have e : gt p i = p[i] := by simp [gt, Array.getD, hi']
  have e' : gt p j = p[j] := by simp [gt, Array.getD, hj']
  rw [e, e']
  intro he
  have h1 : p.toList[i]'(by simpa using hi') = p.toList[j]'(by simpa using hj') := by simpa using he
  exact hne ((List.getElem_inj nd).mp h1)
def Asc (lt : Nat → Nat → Bool) (p : Array Nat) (m : Nat) : Prop := ∀ i j, i < j → j < m → lt (gt p i) (gt p j) = true
def Desc (lt : Nat → Nat → Bool) (p : Array Nat) (m : Nat) : Prop := ∀ i j, i < j → j < m → lt (gt p j) (gt p i) = true
variable (O : Ord lt)
include O
theorem Ord.flip {i j : Nat} (h : i ≠ j) (f : lt i j = false) : lt j i = true := by
  rcases O.tot i j h with z | z
  · rw [f] at z; cases z
  · exact z
theorem Asc.step {p : Array Nat} {k : Nat} (P : Prm n p) (a : Asc lt p k) (h1 : 1 ≤ k) (hk : k < n) (f : lt (gt p k) (gt p (k - 1)) = false) : Asc lt p (k + 1) := by
  have l := O.flip (P.inj hk (show k - 1 < n by omega) (by omega)) f
  intro i j hij hj
  by_cases hjk : j = k
  · subst hjk
    by_cases hi : i = j - 1
    · subst hi; exact l
    · exact O.tr _ _ _ (a i (j - 1) (by omega) (by omega)) l
  · exact a i j hij (by omega)
theorem Desc.step {p : Array Nat} {k : Nat} (a : Desc lt p k) (h1 : 1 ≤ k) (f : lt (gt p k) (gt p (k - 1)) = true) : Desc lt p (k + 1) := by
  intro i j hij hj
  by_cases hjk : j = k
  · subst hjk
    by_cases hi : i = j - 1
    · subst hi; exact f
    · exact O.tr _ _ _ f (a i (j - 1) (by omega) (by omega))
  · exact a i j hij (by omega)
theorem asc_pw {p : Array Nat} (P : Prm n p) : ∀ (f k : Nat), k + f = n → 1 ≤ k → Asc lt p k →
    pw lt n (kas_asc p f k) (fun m => k ≤ m ∧ m ≤ n ∧ Asc lt p m ∧ (m < n → lt (gt p m) (gt p (m - 1)) = true))
  | 0, k, hf, h1, a => ⟨Nat.le_refl _, by omega, a, fun h => by omega⟩
  | f + 1, k, hf, h1, a => by
    refine ⟨P.bd (by omega), P.bd (by omega), ?_⟩
    cases c : lt (p.getD k 0) (p.getD (k - 1) 0) with
    | true =>
      dsimp only
      rw [if_pos rfl]
      exact ⟨Nat.le_refl _, by omega, a, fun _ => c⟩
    | false =>
      dsimp only
      rw [if_neg (by simp)]
      refine pw_mono (fun m q => ⟨by omega, q.2⟩) _ (asc_pw P f (k + 1) (by omega) (by omega) (Asc.step O P a h1 (by omega) c))
theorem desc_pw {p : Array Nat} (P : Prm n p) : ∀ (f k : Nat), k + f = n → 1 ≤ k → Desc lt p k →
    pw lt n (kas_desc f p k 0) (fun r => r.1 = p ∧ r.2.2 = 0 ∧ k ≤ r.2.1 ∧ r.2.1 ≤ n ∧ Desc lt p r.2.1)
  | 0, k, hf, h1, a => ⟨rfl, rfl, Nat.le_refl _, by show k ≤ n; omega, a⟩
  | f + 1, k, hf, h1, a => by
    refine ⟨P.bd (by omega), P.bd (by omega), ?_⟩
    cases c : lt (p.getD k 0) (p.getD (k - 1) 0) with
    | true =>
      dsimp only
      rw [if_pos rfl, if_neg (by omega)]
      exact pw_mono (fun r q => ⟨q.1, q.2.1, by omega, q.2.2.2⟩) _ (desc_pw P f (k + 1) (by omega) (by omega) (Desc.step O a h1 c))
    | false =>
      dsimp only
      rw [if_neg (by simp)]
      refine ⟨P.bd (by omega), P.bd (by omega), ?_⟩
      have l : lt (p.getD (k - 1) 0) (p.getD k 0) = true := O.flip (P.inj (show k < n by omega) (show k - 1 < n by omega) (by omega)) c
      rw [l]
      dsimp only
      rw [if_pos rfl]
      exact ⟨rfl, rfl, Nat.le_refl _, by show k ≤ n; omega, a⟩
omit O in
theorem Prm.of_perm {p q : Array Nat} (P : Prm n p) (h : q.Perm p) : Prm n q :=
  ⟨h.size_eq.trans P.1, (Array.perm_iff_toList_perm.mp h).trans P.2⟩
omit O in
theorem gt_rev {p : Array Nat} (P : Prm n p) {k : Nat} (hk : k ≤ n) {i : Nat} (hi : i < k) : gt (kas_rev p 0 k) i = gt p (k - 1 - i) := by
  rw [gt_get, gt_get]
  unfold kas_rev
  rw [getElem?_mirror_all (by rw [P.1]; exact hk), if_pos ⟨Nat.zero_le _, hi⟩]
  rw [Nat.zero_add]
omit O in
theorem Prm.rev {p : Array Nat} (P : Prm n p) (i j : Nat) : Prm n (kas_rev p i j) := P.of_perm (mirror_perm _ _ _ _)
theorem tail3_pw {p : Array Nat} (P : Prm n p) {k : Nat} (h1 : 1 ≤ k) (hk : k ≤ n) (d : Desc lt p k) :
    pw lt n (kas_tail3 k n p) (fun r => 1 ≤ r.1 ∧ r.1 ≤ n ∧ Prm n r.2 ∧ Asc lt r.2 r.1) := by
  unfold kas_tail3
  have a : Asc lt (kas_rev p 0 k) k := fun i j hij hj => by
    rw [gt_rev P hk (by omega), gt_rev P hk hj]
    exact d _ _ (by omega) (by omega)
  exact pw_bind _ (pw_mono (fun m q => ⟨by omega, q.2.1, P.rev 0 k, q.2.2.1⟩) _ (asc_pw O (P.rev 0 k) (n - k) k (by omega) h1 a))
theorem descPart_pw {p : Array Nat} (P : Prm n p) (h2 : 2 ≤ n) (d : Desc lt p 2) :
    pw lt n (kas_descPart 1 n p) (fun r => 1 ≤ r.1 ∧ r.1 ≤ n ∧ Prm n r.2 ∧ Asc lt r.2 r.1) := by
  unfold kas_descPart
  refine pw_bind _ (pw_mono (fun r q => ?_) _ (desc_pw O P (n - (1 + 1)) (1 + 1) (by omega) (by omega) d))
  obtain ⟨e1, e2, h3, h4, dd⟩ := q
  rw [e2, if_neg (by omega), e1]
  exact tail3_pw O P (by omega) h4 dd
theorem count_pw {p : Array Nat} (P : Prm n p) (h2 : 2 ≤ n) :
    pw lt n (kas_count n p) (fun r => 1 ≤ r.1 ∧ r.1 ≤ n ∧ Prm n r.2 ∧ Asc lt r.2 r.1) := by
  unfold kas_count
  have a1 : Asc lt p 1 := fun i j hij hj => by omega
  refine pw_bind _ (pw_mono (fun m q => ?_) _ (asc_pw O P (n - 1) 1 (by omega) (by omega) a1))
  obtain ⟨h1, h3, a, st⟩ := q
  by_cases e : (m == n) = true
  · rw [if_pos e]
    have e' : m = n := by simpa using e
    exact ⟨h1, h3, P, a⟩
  · rw [if_neg e]
    have hm : m < n := by
      have : m ≠ n := by simpa using e
      omega
    by_cases hm1 : m > 1
    · rw [if_pos hm1]
      refine ⟨P.bd (by omega), P.bd (by omega), ?_⟩
      have l : lt (p.getD 0 0) (p.getD (m - 1) 0) = true := a 0 (m - 1) (by omega) (by omega)
      rw [l]
      dsimp only
      rw [if_pos rfl]
      exact ⟨h1, h3, P, a⟩
    · rw [if_neg hm1]
      have e1 : m = 1 := by omega
      subst e1
      refine descPart_pw O P h2 fun i j hij hj => ?_
      have : i = 0 := by omega
      have : j = 1 := by omega
      subst i j
      exact st hm
theorem place_pw {p : Array Nat} (P : Prm n p) {k : Nat} (hk : k < n) (a : Asc lt p k) : ∀ (f l r : Nat), r - l ≤ f → l ≤ r → r ≤ k → (∀ i, i < l → lt (gt p i) (gt p k) = true) → (∀ i, r ≤ i → i < k → lt (gt p k) (gt p i) = true) →
    pw lt n (kas_place p k f l r) (fun l' => l' ≤ k ∧ (∀ i, i < l' → lt (gt p i) (gt p k) = true) ∧ ∀ i, l' ≤ i → i < k → lt (gt p k) (gt p i) = true)
  | 0, l, r, h, h1, h2, lo, hi => ⟨by omega, lo, fun i hl => hi i (by omega)⟩
  | f + 1, l, r, h, h1, h2, lo, hi => by
    unfold kas_place
    by_cases hlr : l ≥ r
    · rw [if_pos hlr]
      exact ⟨by omega, lo, fun i hl => hi i (by omega)⟩
    · rw [if_neg hlr]
      have hm : (l + r) / 2 < r := by omega
      have hm2 : l ≤ (l + r) / 2 := by omega
      refine ⟨P.bd hk, P.bd (by omega), ?_⟩
      cases c : lt (p.getD k 0) (p.getD ((l + r) / 2) 0) with
      | true =>
        dsimp only
        rw [if_pos rfl]
        refine place_pw P hk a f l ((l + r) / 2) (by omega) hm2 (by omega) lo fun i h3 h4 => ?_
        by_cases e : i = (l + r) / 2
        · subst e; exact c
        · exact O.tr _ _ _ c (a _ _ (by omega) h4)
      | false =>
        dsimp only
        rw [if_neg (by simp)]
        refine place_pw P hk a f ((l + r) / 2 + 1) r (by omega) (by omega) h2 (fun i h3 => ?_) hi
        have l1 : lt (gt p ((l + r) / 2)) (gt p k) = true := O.flip (P.inj hk (by omega) (by omega)) c
        by_cases e : i = (l + r) / 2
        · subst e; exact l1
        · exact O.tr _ _ _ (a i _ (by omega) (by omega)) l1
omit O in
theorem gt_bubble {p : Array Nat} (P : Prm n p) {k l : Nat} (hk : k < n) (hl : l ≤ k) (i : Nat) : gt (bubble p k (k - l)) i = if i = l then gt p k else if l < i ∧ i ≤ k then gt p (i - 1) else gt p i := by
  rw [gt_get, getElem?_bubble (by rw [P.1]; exact hk) (k - l) (by omega)]
  have e : k - (k - l) = l := by omega
  rw [e]
  split
  · rw [gt_get]
  · split
    · rw [gt_get]
    · rw [gt_get]
theorem bin_pw : ∀ (f : Nat) (p : Array Nat) (k : Nat), Prm n p → k + f = n → 1 ≤ k → Asc lt p k → pw lt n (kas_bin f p k) (fun q => Prm n q ∧ Asc lt q n)
  | 0, p, k, P, h, h1, a => ⟨P, by rw [← h]; exact a⟩
  | f + 1, p, k, P, h, h1, a => by
    unfold kas_bin
    refine pw_bind _ (pw_mono (fun l q => ?_) _ (place_pw O P (show k < n by omega) a k 0 k (by omega) (by omega) (by omega) (fun i h => by omega) (fun i h h' => by omega)))
    obtain ⟨hl, lo, hi⟩ := q
    refine bin_pw f _ (k + 1) (P.of_perm (bubble_perm _ _ _)) (by omega) (by omega) fun i j hij hj => ?_
    have hk : k < n := by omega
    rw [gt_bubble P hk hl, gt_bubble P hk hl]
    by_cases e1 : i = l
    · rw [if_pos e1, if_neg (by omega), if_pos (by omega)]
      exact hi _ (by omega) (by omega)
    · rw [if_neg e1]
      by_cases e2 : l < i ∧ i ≤ k
      · rw [if_pos e2, if_neg (by omega), if_pos (by omega)]
        exact a _ _ (by omega) (by omega)
      · rw [if_neg e2]
        by_cases e3 : j = l
        · rw [if_pos e3]
          exact lo _ (by omega)
        · rw [if_neg e3]
          by_cases e4 : l < j ∧ j ≤ k
          · rw [if_pos e4]
            exact a _ _ (by omega) (by omega)
          · rw [if_neg e4]
            exact a _ _ (by omega) (by omega)
/-- the sort ends with the places in order -/
theorem sort_pw (h2 : 2 ≤ n) : pw lt n (kas_sort n) (fun p => Prm n p ∧ Asc lt p n) := by
  unfold kas_sort
  have P0 : Prm n (List.toArray (List.range n)) := ⟨by simp, by simp⟩
  refine pw_bind _ (pw_mono (fun r q => ?_) _ (count_pw O P0 h2))
  obtain ⟨h1, h3, P, a⟩ := q
  by_cases e : r.1 < n
  · rw [if_pos e]
    have e2 : max r.1 1 = r.1 := by omega
    rw [e2]
    exact bin_pw O _ _ _ P (by omega) h1 a
  · rw [if_neg e]
    have e2 : r.1 = n := by omega
    rw [e2] at a
    exact ⟨P, a⟩
end
end Ml

namespace Ml
open PySem PySem.Spec PyProof.Rows L2

/-! ### the law's entry where one def of the text keeps a table of code (it makes a lambda) -/
structure Top1 (mg : Str → Option Value) (base : Heap) (c P : Addr) : Prop where
  code : PySem.W.CodeHd base c P
  bm : ∃ bm ob, mg "__builtins__" = some (.ref bm) ∧ bm ≠ builtinsNs ∧ base.get? bm = some ob ∧ ob.cls = .type "module" ∧ ob.dict = some builtinsNs ∧ ob.data = .plain

def OnlyT (P : Addr) (H : Hp) : Prop := H P = some (.tbl #[]) ∧ ∀ b, b ≠ P → H b = none ∨ ∃ o xs, H b = some (.frz o (.lst xs))

theorem law_callT {Pg : Program} {w : World} {K : PySem.W.Frag} {mg mb : Str → Option Value} {CX : CXT} {k : Nat} {fa a c P : Addr} {fd : FuncData} {x : Str} {sp : Sp} {s₁ : Shared} {vs : List Value} {ns : List Int}
    (KX : K.In s₁.heap) (hns : s₁.heap.Ns mainGlobals mg) (hb : s₁.heap.Ns builtinsNs mb) (hbb : ∀ x : Str, x ≠ "__name__" → mb x = bootBuiltins x) (hlim : s₁.heap.NoLimit) (hg : s₁.gens = #[])
    (ha : s₁.heap.get? a = some { cls := .type "list", data := .seq vs.toArray }) (hi : IntsAre vs ns) (hl : ns.length ≤ sizeLine) (hr : Room k callerA)
    (hT : PySem.W.CodeHd s₁.heap c P) (hP : s₁.heap.get? P = some (PySem.W.tabObj #[])) (hKP : K.lookup P = none)
    (hbm : ∃ bm ob, mg "__builtins__" = some (.ref bm) ∧ bm ≠ builtinsNs ∧ s₁.heap.get? bm = some ob ∧ ob.cls = .type "module" ∧ ob.dict = some builtinsNs ∧ ob.data = .plain)
    (F : ∀ base : Heap, K.In base → base.Ns mainGlobals mg → Top1 mg base c P → FnOk Pg w K mg base CX k fa fd [x] sp) (hbind : ∀ (s : Shared) (u : Value), BindsTo s fd ⟨[u], []⟩ [(x, u)])
    (hsp : ∀ H : Hp, OnlyT P H → SqL K H a (ns.map V.int) → sp [.ref a] H (fun v _ => v = .bl true) fun _ _ _ => False)
    (hCX : ∀ H e s', CX [] H s₁ (fun _ _ _ => False) e s' → False) :
    codeAny (model Pg w) callerA (.call (.ref fa) ⟨[.ref a], []⟩) (fun r s' => r = .ok (.ret (.bool true)) ∧ OldK s₁.heap s'.heap ∧ s'.os = s₁.os ∧ AllBare s'.gens) s₁ := by
  have rv := vals_ints hi
  have lenV := hi.length
  have haP : a ≠ P := fun e => by
    rw [e, hP] at ha
    have z := Option.some.inj ha
    cases z
  have core : ∀ H : Hp, OnlyT P H → SqL K H a (ns.map V.int) → HOk Pg w H s₁.heap → (∀ b, H b ≠ none → b = a ∨ b = P) → (H a ≠ none → K.lookup a = none) →
      codeAny (model Pg w) callerA (.call (.ref fa) ⟨[.ref a], []⟩) (fun r s' => r = .ok (.ret (.bool true)) ∧ OldK s₁.heap s'.heap ∧ s'.os = s₁.os ∧ AllBare s'.gens) s₁ := by
    intro H hO hS hok hA hK
    have base_of : ∀ {b : Addr} {o : Obj}, s₁.heap.get? b = some o → H b = none → (hidT s₁.heap H).get? b = some o := fun e n => hidT_get e n
    have other : ∀ {b : Addr} {o : Obj}, s₁.heap.get? b = some o → o.cls ≠ .none → o.cls ≠ .type "list" → H b = none := fun {b o} e h1 h2 => by
      cases q : H b with
      | none => rfl
      | some u =>
        rcases hA b (by rw [q]; simp) with e' | e'
        · rw [e', ha] at e; cases e; exact absurd rfl h2
        · rw [e', hP] at e; cases e; exact absurd rfl h1
    have noA : ∀ {b : Addr} {o : Obj} {es : Array DictEntry} {ep : Nat}, s₁.heap.get? b = some o → o.data = .dict es ep → H b = none := fun {b o es ep} e d => by
      cases q : H b with
      | none => rfl
      | some u =>
        rcases hA b (by rw [q]; simp) with e' | e'
        · rw [e', ha] at e; cases e
          have d' : Data.seq vs.toArray _ = Data.dict es ep := d
          cases d'
        · rw [e', hP] at e; cases e
          have d' : Data.fields #[] = Data.dict es ep := d
          cases d'
    have nsK : ∀ {b : Addr} {m : Str → Option Value}, s₁.heap.Ns b m → (hidT s₁.heap H).Ns b m := fun {b m} ⟨o, es, ep, e, d, r⟩ => ⟨o, es, ep, base_of e (noA e d), d, r⟩
    have hKb : K.In (hidT s₁.heap H) := fun b o e => base_of (KX b o e) (by
      cases q : H b with
      | none => rfl
      | some u =>
        rcases hA b (by rw [q]; simp) with e' | e'
        · subst e'
          rw [hK (by rw [q]; simp)] at e; cases e
        · rw [e', hKP] at e; cases e)
    have hT1 : Top1 mg (hidT s₁.heap H) c P := by
      refine ⟨?_, ?_⟩
      · obtain ⟨o, us, file, tf, flags, tg, inF, text, tt, e1, r1, r2⟩ := hT
        exact ⟨o, us, file, tf, flags, tg, inF, text, tt, base_of e1 (other e1 (by rw [r1]; nofun) (by rw [r1]; decide)), r1, r2⟩
      · obtain ⟨bm, ob, a1, a2, a3, a4, r⟩ := hbm
        exact ⟨bm, ob, a1, a2, base_of a3 (other a3 (by rw [a4]; nofun) (by rw [a4]; decide)), a4, r⟩
    have hM : Mod K mg (hidT s₁.heap H) := ⟨hKb, nsK hns, ⟨mb, nsK hb, hbb⟩, let ⟨mc, h1, h2⟩ := hlim; ⟨mc, nsK h1, h2⟩⟩
    have e0 : Env0 Pg w K mg (hidT s₁.heap H) callerA [] s₁ H := ⟨rfl, hM, fun b o e => of_hidT e, Nat.le_of_eq (hidT_size _ _), trivial, fun b hb => absurd (show b ∈ ([] : List Addr) from hb) (by simp), hok, .of_eq hg⟩
    refine codeAny_mono ((F _ hKb (nsK hns) hT1).run callerA [] s₁ H ⟨[.ref a], []⟩ [.ref a] [.ref a] _ _ hr e0 (hbind s₁ (.ref a)) (.cons rfl .nil) (hsp H hO hS)) fun r s' h => ?_
    cases r with
    | error e => exact (hCX H e s' h).elim
    | ok fl =>
      cases fl with
      | next => exact False.elim h
      | brk => exact False.elim h
      | cont => exact False.elim h
      | ret u =>
        obtain ⟨v, H', os, bare, un, hok', r', q⟩ := h
        have q' : v = .bl true := q
        subst q'
        obtain rfl : u = Value.bool true := r'
        have grown : ∃ more, s'.heap.get? P = some (PySem.W.tabObj (#[] ++ more)) := by
          obtain ⟨more, z⟩ := un.tbls P #[] hO.1
          exact ⟨more, hok' P _ z⟩
        have kept : ∀ b o, b ≠ P → s₁.heap.get? b = some o → s'.heap.get? b = some o := fun b o hb e => by
          cases q : H b with
          | none => exact un.keep b o e q (by intro z; exact absurd (show b ∈ ([] : List Addr) from z) (by simp)) (by simp)
          | some u =>
            rcases hO.2 b hb with z | ⟨ob, xs, z⟩
            · rw [q] at z; cases z
            · have z2 := un.frzs b ob _ z
              obtain ⟨e1, _⟩ := hok b _ z
              obtain ⟨e2, _⟩ := hok' b _ z2
              rw [e] at e1; cases e1
              exact e2
        refine ⟨rfl, ⟨fun b o e => ?_, fun b o e => ?_⟩, os, bare⟩
        · by_cases hbP : b = P
          · subst hbP
            rw [hP] at e
            have z := Option.some.inj e
            subst z
            obtain ⟨more, hm⟩ := grown
            exact .inr (.inl ⟨(hT.tab hP).isCodeTable, rfl, #[], more, rfl, hm⟩)
          · exact .inl (kept b o hbP e)
        · by_cases hbP : b = P
          · subst hbP
            obtain ⟨more, hm⟩ := grown
            exact ⟨_, hm⟩
          · exact ⟨o, kept b o hbP e⟩
  have okP : ∀ H : Hp, ObjOk Pg w H s₁.heap P (.tbl #[]) := fun H => hP
  cases hk : K.lookup a with
  | some o =>
    have e := KX a o hk
    rw [ha] at e
    cases e
    refine core (fun b => if b = P then some (.tbl #[]) else none) ⟨if_pos rfl, fun b hb => .inl (if_neg hb)⟩ (.inr ⟨_, vs.toArray, _, hk, rfl, rfl, rfl, by rw [List.size_toArray, lenV]; exact hl, by simpa using rv⟩) (fun b u z => ?_) (fun b z => ?_) fun z => ?_
    · by_cases hbP : b = P
      · have z' := (if_pos hbP).symm.trans z
        cases z'
        subst hbP
        exact okP _
      · have z' := (if_neg hbP).symm.trans z
        cases z'
    · by_cases hbP : b = P
      · exact .inr hbP
      · exact absurd (if_neg hbP) z
    · exact absurd (if_neg haP) z
  | none =>
    refine core (fun b => if b = P then some (.tbl #[]) else if b = a then some (.frz { cls := .type "list", data := .seq vs.toArray } (.lst (ns.map V.int))) else none) ⟨if_pos rfl, fun b hbP => ?_⟩ (.inl (.inr ⟨{ cls := .type "list", data := .seq vs.toArray }, (if_neg haP).trans (if_pos rfl)⟩)) (fun b u z => ?_) (fun b z => ?_) fun _ => hk
    · by_cases hb : b = a
      · exact .inr ⟨_, _, (if_neg hbP).trans (if_pos hb)⟩
      · exact .inl ((if_neg hbP).trans (if_neg hb))
    · by_cases hbP : b = P
      · have z' := (if_pos hbP).symm.trans z
        cases z'
        subst hbP
        exact okP _
      · have z' := (if_neg hbP).symm.trans z
        by_cases hb : b = a
        · have z'' := (if_pos hb).symm.trans z'
          cases z''
          subst hb
          exact ⟨ha, by rw [List.length_map]; exact hl, vs, _, rv, ha⟩
        · have z'' := (if_neg hb).symm.trans z'
          cases z''
    · by_cases hbP : b = P
      · exact .inr hbP
      · by_cases hb : b = a
        · exact .inl hb
        · exact absurd ((if_neg hbP).trans (if_neg hb)) z

/-- the goal that k_head leaves (case hc), from the law's promise, with one table -/
theorem walk_ofT {l : PySem.W.OpenLaw} {n k : Nat} {q : Program} {loose : List Str} {YP : World → Heap → Prop} {d : DefRec} {K : Params → PySem.W.Frag} {CX : World → CXT} {sp : Addr → PySem.W.Frag → Sp} {x tname : Str} {dt : DefRec}
    {XP : (Str → Option Value) → Heap → Prop}
    (hn : l.most = some n) (hn2 : n ≤ sizeLine) (hdf : d.params.defaults = []) (hr : Room k callerA)
    (hY : ∀ (w : World) (h : Heap), YP w h → (K w.params).In h)
    (hdt : (recsOf q).find? (fun e => e.name == tname) = some dt)
    (F : ∀ (w : World) (mg : Str → Option Value) (fa : Addr) (h : Heap), (K w.params).In h → h.Ns mainGlobals mg → mg d.name = some (.ref fa) →
      ∃ (fd : FuncData) (c P : Addr), PySem.W.tabIn (K w.params) tname = some (c, P) ∧ (K w.params).lookup P = none ∧ (∀ (s : Shared) (u : Value), BindsTo s fd ⟨[u], []⟩ [(x, u)]) ∧
        ∀ base : Heap, (K w.params).In base → base.Ns mainGlobals mg → Top1 mg base c P → FnOk l.prog w (K w.params) mg base (CX w) k fa fd [x] (sp P (K w.params)))
    (hsp : ∀ (P : Addr) (K : PySem.W.Frag) (H : Hp) (a : Addr) (ns : List Int), ns.length ≤ n → OnlyT P H → SqL K H a (ns.map V.int) → sp P K [.ref a] H (fun v _ => v = .bl true) fun _ _ _ => False)
    (hCX : ∀ (w : World) (H : Hp) (s : Shared) (e : Value) (s' : Shared), CX w [] H s (fun _ _ _ => False) e s' → False) :
    PySem.W.WalkO q loose XP YP l.row.toRowW d [] (fun f vs => PySem.call f vs) := by
  refine Att.attach_call hn hdf fun w s₀ s₁ mg mb fa o pm cd doc a vs ns G Y ho hd hcd hmg hobj hints hlen hg => ?_
  have KX := hY w _ Y
  obtain ⟨fd, c, P, ht, hKP, hb, hF⟩ := F w mg fa _ KX G.T.g hmg
  obtain ⟨hC, hP⟩ := PySem.W.tab_of G.T KX hdt ht
  exact law_callT KX G.T.g G.T.b G.T.builtins G.T.nolimit hg hobj hints (Nat.le_trans hlen hn2) hr hC hP hKP G.T.bmain hF hb (fun H hO hS => hsp P _ H a ns hlen hO hS) fun H e s' => hCX w H s₁ e s'
end Ml

namespace Ml
open PySem PySem.Spec PyProof.Rows L2

/-! ### what grows -/
/-- all that is tracked stays, but a table of code may grow -/
structure Ext (H H' : Hp) : Prop where
  keep : ∀ b o, H b = some o → (∀ ps, o ≠ .tbl ps) → H' b = some o
  tbl : ∀ b ps, H b = some (.tbl ps) → ∃ ps', H' b = some (.tbl ps')
theorem Ext.refl (H : Hp) : Ext H H := ⟨fun _ _ e _ => e, fun _ ps e => ⟨ps, e⟩⟩
theorem Ext.trans {H H1 H2 : Hp} (a : Ext H H1) (b : Ext H1 H2) : Ext H H2 := ⟨fun c o e n => b.keep c o (a.keep c o e n) n, fun c ps e => by
  obtain ⟨ps', e'⟩ := a.tbl c ps e
  exact b.tbl c ps' e'⟩
theorem Ext.new {H : Hp} {p : Addr} {o : HO} (h : H p = none) : Ext H (upd H p o) := ⟨fun b u e _ => by rw [upd_ne (ne_of_none e h)]; exact e, fun b ps e => ⟨ps, by rw [upd_ne (ne_of_none e h)]; exact e⟩⟩
theorem Ext.same {H H' : Hp} (h : Same H H') : Ext H H' := ⟨fun b o e _ => h b o e, fun b ps e => ⟨ps, h b _ e⟩⟩
theorem Ext.lst {H H' : Hp} (x : Ext H H') {a : Addr} {xs : List V} (h : H a = some (.lst xs)) : H' a = some (.lst xs) := x.keep a _ h (by intro _ z; cases z)
theorem Ext.tup {H H' : Hp} (x : Ext H H') {a : Addr} {xs : List V} (h : H a = some (.tup xs)) : H' a = some (.tup xs) := x.keep a _ h (by intro _ z; cases z)
theorem Ext.free {H H' : Hp} (x : Ext H H') {a : Addr} (h : H' a = none) : H a = none := by
  cases q : H a with
  | none => rfl
  | some o =>
    by_cases ht : ∃ ps, o = .tbl ps
    · obtain ⟨ps, rfl⟩ := ht
      obtain ⟨ps', e⟩ := x.tbl a ps q
      rw [e] at h; cases h
    · rw [x.keep a o q (fun ps z => ht ⟨ps, z⟩)] at h; cases h

def qualL : Str := "in_turn.<locals>.<lambda>"
/-- a code record -/
def CodeO (c : Addr) (q : Str) : HO := .ext fun h => h.CodeRec (.ref c) q
/-- an object that is known whole -/
def ObjO (f : Addr) (o : Obj) : HO := .ext fun h => h.get? f = some o
theorem objOk_obj {P : Program} {w : World} {H : Hp} {h : Heap} {f : Addr} {o : Obj} (e : h.get? f = some o) : ObjOk P w H h f (ObjO f o) :=
  ⟨e, ⟨o, e⟩, fun _ _ p k => k _ p⟩
theorem objOk_code {P : Program} {w : World} {H : Hp} {h : Heap} {c : Addr} {q : Str} (e : h.CodeRec (.ref c) q) : ObjOk P w H h c (CodeO c q) := by
  refine ⟨e, ?_, fun _ _ p k => ?_⟩
  · obtain ⟨c', o, vs, t, e1, e2, _⟩ := e
    cases e1
    exact ⟨o, e2⟩
  · obtain ⟨c', o, vs, t, e1, e2, r⟩ := p
    cases e1
    exact ⟨c, o, vs, t, rfl, k _ e2, r⟩

/-- the table of the def that makes the lambda, at P; the lambda stands at pos -/
def Tab (pos : Pos) (P : Addr) (H : Hp) : Prop := H P = some (.tbl #[]) ∨ ∃ c', H P = some (.tbl #[rawInt pos.line, rawInt pos.col, .ref c']) ∧ H c' = some (CodeO c' qualL)
theorem Tab.get {pos : Pos} {P : Addr} {H : Hp} (t : Tab pos P H) : ∃ ps, H P = some (.tbl ps) := by
  rcases t with h | ⟨c, h, _⟩
  · exact ⟨_, h⟩
  · exact ⟨_, h⟩
theorem Tab.ne {pos : Pos} {P : Addr} {H : Hp} (t : Tab pos P H) {a : Addr} {o : HO} (h : H a = some o) (n : ∀ ps, o ≠ .tbl ps) : a ≠ P := fun e => by
  obtain ⟨ps, q⟩ := t.get
  rw [e, q] at h
  exact n ps (Option.some.inj h).symm
/-- a heap that holds all but what is new there holds the table too -/
theorem Tab.new {pos : Pos} {P p : Addr} {H : Hp} {o : HO} (t : Tab pos P H) (h : H p = none) : Tab pos P (upd H p o) := by
  rcases t with e | ⟨c, e, f⟩
  · exact .inl (by rw [upd_ne (ne_of_none e h)]; exact e)
  · exact .inr ⟨c, by rw [upd_ne (ne_of_none e h)]; exact e, by rw [upd_ne (ne_of_none f h)]; exact f⟩

/-! ### tracking begins -/
theorem track {X : Cx} {pins : List (Addr × Obj)} {σ : L2.St} {H : Hp} {s : Shared} {d : Addr} {o : HO} (I : Inv X pins σ H s) (f : FpOk X pins H d) (hs : X.s₀.heap.objs.size ≤ d) (new : ObjOk X.prog X.w (upd H d o) s.heap d o) : Inv X pins σ (upd H d o) s := by
  obtain ⟨f0, f1, f2, f3, f4, f5⟩ := f
  have ne : ∀ b u, H b = some u → b ≠ d := fun b u e => ne_of_none e f0
  have J := I.step (g' := s.gens) (d' := s.drawn) (t' := s.toks) (h' := s.heap) (H' := upd H d o) (ch := [d])
    (fun b hb => by
      have e : b = d := by simpa using hb
      subst e
      exact ⟨f3, f1, f4, f5⟩)
    (fun b u _ _ _ e _ => e) (fun b u _ _ _ e _ => ⟨u.slots, e⟩)
    (fun b u hb e n => by rw [upd_ne (fun z => hb (by simp [z]))]; exact n) (fun b u _ e => ⟨u, e⟩)
    (fun b xs e => by rw [upd_ne (ne b _ e)]; exact e) (fun b u xs e => by rw [upd_ne (ne b _ e)]; exact e) (fun b ps e => ⟨#[], by rw [upd_ne (ne b _ e), e]; simp⟩)
    (fun m hm => hm) (fun b u e => by
      by_cases hb : b = d
      · subst hb
        rw [upd_same] at e
        cases e
        exact new
      · rw [upd_ne hb] at e
        exact (I.hok b u e).stay (fun _ _ _ q => q) (fun c q => by rw [upd_ne (ne c _ q)]; exact q) fun c xs q => by rw [upd_ne (ne c _ q)]; exact q) I.bare
  exact J

/-! ### the lambda is made -/
section
variable {X : Cx} {pins : List (Addr × Obj)} {σ : L2.St} {H : Hp} {s : Shared}
/-- the table at P has grown by the code at c', a function stands at f -/
theorem Inv.grown {P c' f : Addr} {ps more : Array Value} {q : Str} {of : Obj} {h' : Heap} {tk : Nat} (I : Inv X pins σ H s) (hP : H P = some (.tbl ps)) (hx : Heap.ExtBut P s.heap h') (h1 : s.heap.objs.size ≤ c') (h2 : c' < f)
    (hc : h'.CodeRec (.ref c') q) (ht : h'.get? P = some (PySem.W.tabObj (ps ++ more))) (hf : h'.get? f = some of) :
    Inv X pins σ (upd (upd (upd H P (.tbl (ps ++ more))) c' (CodeO c' q)) f (ObjO f of)) { s with heap := h', toks := tk } := by
  have old : ∀ b u, s.heap.get? b = some u → b ≠ c' ∧ b ≠ f := fun b u e => by
    have l := Nat.lt_of_lt_of_le (Heap.lt_size e) h1
    exact ⟨Nat.ne_of_lt l, Nat.ne_of_lt (Nat.lt_trans l h2)⟩
  have oldH : ∀ b u, H b = some u → b ≠ c' ∧ b ≠ f := fun b u e => by
    have l := Nat.lt_of_lt_of_le (I.hok.lt e) h1
    exact ⟨Nat.ne_of_lt l, Nat.ne_of_lt (Nat.lt_trans l h2)⟩
  have look : ∀ b u, b ≠ P → H b = some u → upd (upd (upd H P (.tbl (ps ++ more))) c' (CodeO c' q)) f (ObjO f of) b = some u := fun b u hb e => by
    rw [upd_ne (oldH b u e).2, upd_ne (oldH b u e).1, upd_ne hb]; exact e
  have lookP : upd (upd (upd H P (.tbl (ps ++ more))) c' (CodeO c' q)) f (ObjO f of) P = some (.tbl (ps ++ more)) := by
    rw [upd_ne (oldH P _ hP).2, upd_ne (oldH P _ hP).1, upd_same]
  have nP : ∀ b, H b = none → b ≠ P := fun b n z => by rw [z, hP] at n; cases n
  have nPt : ∀ b u, H b = some u → (∀ ps, u ≠ .tbl ps) → b ≠ P := fun b u e n z => by
    rw [z, hP] at e; exact n _ (Option.some.inj e).symm
  refine I.step (g' := s.gens) (d' := s.drawn) (t' := tk) (h' := h') (ch := []) (fun _ z => nomatch z) (fun b o _ _ _ e n => hx b o (nP b n) e) (fun b o _ _ _ e n => ⟨o.slots, hx b o (nP b n) e⟩)
    (fun b o _ e n => by rw [upd_ne (old b o e).2, upd_ne (old b o e).1, upd_ne (nP b n)]; exact n) (fun b o _ e => ?_)
    (fun b xs e => look b _ (nPt b _ e (by intro _ z; cases z)) e) (fun b o xs e => look b _ (nPt b _ e (by intro _ z; cases z)) e) (fun b ps' e => ?_)
    (fun m hm => ?_) (fun b u e => ?_) I.bare
  · by_cases hb : b = P
    · subst hb; exact ⟨_, ht⟩
    · exact ⟨o, hx b o hb e⟩
  · by_cases hb : b = P
    · subst hb
      rw [hP] at e; cases e
      exact ⟨more, lookP⟩
    · exact ⟨#[], by rw [look b _ hb e]; simp⟩
  · exact hm.extBut hx (Ne.symm (nP _ I.free)).symm
  · by_cases hbf : b = f
    · subst hbf
      rw [upd_same] at e; cases e
      exact objOk_obj hf
    · rw [upd_ne hbf] at e
      by_cases hbc : b = c'
      · subst hbc
        rw [upd_same] at e; cases e
        exact objOk_code hc
      · rw [upd_ne hbc] at e
        by_cases hbP : b = P
        · subst hbP
          rw [upd_same] at e; cases e
          exact ht
        · rw [upd_ne hbP] at e
          refine (I.hok b u e).stay (fun c v hc' r => hx c v ?_ r) (fun c r => look c _ (nPt c _ r (by intro _ z; cases z)) r) fun c xs r => look c _ (nPt c _ r (by intro _ z; cases z)) r
          rcases hc' with rfl | hc'
          · exact hbP
          · exact nPt c _ hc' (by intro _ z; cases z)

/-- the lambda's making: what it asks and gives -/
def tLam (P : Addr) (pos : Pos) (params : Arguments) (body : Expr) (scope : Scope) (clos : List (Str × Addr)) (pm : Value) : TE := fun _ H Q =>
  Tab pos P H ∧ ∀ f c' ctv H', Ext H H' → Tab pos P H' → H' c' = some (CodeO c' qualL) → H' f = some (ObjO f (PySem.W.kla_obj "<lambda>" qualL params body scope clos pm c' ctv)) → H f = none → Q (.ref f) H'
theorem pe_lam {c P : Addr} {pos : Pos} {params : Arguments} {body : Expr} {scope : Scope} {clos : List (Str × Addr)} (T : Top1 X.mg X.base c P) (hcode : X.env.code = .ref c) (hq : X.env.qual ++ "<lambda>" = qualL)
    (hdef : defaultsOf params X.env = ([], [])) (hcl : closureFor scope X.env = pure clos) : PE X (.Lambda params body scope pos) (tLam P pos params body scope clos ((X.mg "__name__").getD .none)) := by
  intro pins s σ H Q I h
  obtain ⟨tab, h⟩ := h
  obtain ⟨ps, hP⟩ := tab.get
  have hPo : s.heap.get? P = some (PySem.W.tabObj ps) := I.hok P _ hP
  have C : PySem.W.CodeHd s.heap c P := T.code.keeps I.bk
  have hns : s.heap.Ns mainGlobals X.mg := I.mod.glob.keeps I.bk
  obtain ⟨bm, ob, b1, b2, b3, b4, b5, b6⟩ := T.bm
  have hgP : mainGlobals ≠ P := fun q => by
    obtain ⟨o, es, ep, e, hd, _⟩ := hns
    rw [q, hPo] at e; cases e; cases hd
  have b3' := I.bk _ _ b3
  have hbP : bm ≠ P := fun q => by rw [q, hPo] at b3'; cases b3'; cases b4
  have hbG : bm ≠ mainGlobals := fun q => by
    obtain ⟨o, es, ep, e, hd, _⟩ := hns
    rw [q, e] at b3'; cases b3'; rw [hd] at b6; cases b6
  have hb : s.heap.BuiltinsAt X.mg P := ⟨bm, ob, b1, b2, hbG, hbP, b3', b4, b5, b6⟩
  refine PySem.W.kla_eval hdef ?_
  rw [hq]
  rcases tab with e | ⟨c', e, ec⟩
  · rw [hP] at e
    have e' : ps = #[] := by cases e; rfl
    subst e'
    refine PySem.W.kla_makeFunction (mg := X.mg) hcl I.ok.glob hns hcode C hPo True.intro rfl hgP hb fun c' ctv h' tk hx hge hlt hrec htb => ?_
    have I2 := Inv.grown (tk := tk) (f := h'.objs.size) (h' := h'.push (PySem.W.kla_obj "<lambda>" qualL params body scope clos ((X.mg "__name__").getD .none) c' ctv)) (more := #[rawInt pos.line, rawInt pos.col, .ref c']) I hP
      (fun b o hb e => Heap.get?_push_of_some _ (hx b o hb e)) hge hlt (hrec.push _) (Heap.get?_push_of_some _ htb) (Heap.get?_push_size _ rfl)
    have nC : H c' = none := I.hok.fresh hge
    have nF : H h'.objs.size = none := I.hok.fresh (Nat.le_trans hge (Nat.le_of_lt hlt))
    have nPf : P ≠ h'.objs.size := ne_of_none hP nF
    have nPc : P ≠ c' := ne_of_none hP nC
    refine ⟨.ref h'.objs.size, _, I2, rfl, h _ c' ctv _ ⟨fun b o e n => ?_, fun b ps' e => ?_⟩ (.inr ⟨c', ?_, ?_⟩) ?_ upd_same nF⟩
    · rw [upd_ne (ne_of_none e nF), upd_ne (ne_of_none e nC), upd_ne (fun z => by rw [z, hP] at e; exact n _ (Option.some.inj e).symm)]
      exact e
    · by_cases hb : b = P
      · exact ⟨_, by rw [hb, upd_ne nPf, upd_ne nPc, upd_same]⟩
      · exact ⟨ps', by rw [upd_ne (ne_of_none e nF), upd_ne (ne_of_none e nC), upd_ne hb]; exact e⟩
    · rw [upd_ne nPf, upd_ne nPc, upd_same]; rfl
    · rw [upd_ne (Nat.ne_of_lt hlt), upd_same]
    · rw [upd_ne (Nat.ne_of_lt hlt), upd_same]
  · rw [hP] at e
    have e' : ps = #[rawInt pos.line, rawInt pos.col, .ref c'] := by cases e; rfl
    subst e'
    refine PySem.W.kla_makeFunctionHit (mg := X.mg) (cv := .ref c') hcl I.ok.glob hns hcode C hPo (by simp [TriplesOk, rawInt]) (by simp [codeAmong, rawInt]) hb fun ctv h' tk hk hsz => ?_
    have nF : H h'.objs.size = none := I.hok.fresh hsz
    refine ⟨.ref h'.objs.size, _, Inv.laid (a := h'.objs.size) (o := ObjO h'.objs.size (PySem.W.kla_obj "<lambda>" qualL params body scope clos ((X.mg "__name__").getD .none) c' ctv)) (t' := tk) I (fun b u e => Heap.get?_push_of_some _ (hk b u e)) hsz (objOk_obj (Heap.get?_push_size _ rfl)), rfl,
      h _ c' ctv _ (.new nF) (.inr ⟨c', ?_, ?_⟩) ?_ upd_same nF⟩
    · rw [upd_ne (ne_of_none hP nF)]; exact hP
    · rw [upd_ne (ne_of_none ec nF)]; exact ec
    · rw [upd_ne (ne_of_none ec nF)]; exact ec
end
end Ml

namespace Ml
open PySem PySem.Spec PyProof.Rows L2

abbrev Cable := Int × Int × Int
/-- the list of cables at a -/
def Cab (H : Hp) (a : Addr) (cs : List Cable) : Prop :=
  ∃ rs : List Addr, H a = some (.lst (rs.map V.ref)) ∧ rs.length = cs.length ∧ ∀ (i : Nat) (r : Addr) (c : Cable), rs[i]? = some r → cs[i]? = some c → H r = some (.tup [.int c.1, .int c.2.1, .int c.2.2])
theorem Cab.ext {H H' : Hp} {a : Addr} {cs : List Cable} (x : Ext H H') (h : Cab H a cs) : Cab H' a cs := by
  obtain ⟨rs, e, l, q⟩ := h
  exact ⟨rs, x.lst e, l, fun i r c h1 h2 => x.tup (q i r c h1 h2)⟩
theorem Cab.get {H : Hp} {a : Addr} {cs : List Cable} (h : Cab H a cs) {i : Nat} {c : Cable} (e : cs[i]? = some c) : ∃ xs r, H a = some (.lst xs) ∧ xs.length = cs.length ∧ xs[i]? = some (.ref r) ∧ H r = some (.tup [.int c.1, .int c.2.1, .int c.2.2]) := by
  obtain ⟨rs, ea, l, q⟩ := h
  have hi : i < rs.length := by rw [l]; exact (List.getElem?_eq_some_iff.mp e).1
  exact ⟨_, rs[i], ea, by rw [List.length_map, l], by simp [hi], q i _ c (by simp [hi]) e⟩

def lenAt (cs : List Cable) (i : Nat) : Int := match cs[i]? with
  | some c => c.2.2
  | none => 0
/-- point 3: the one at i is before the one at j -/
def before (cs : List Cable) (i j : Nat) : Bool := decide (lenAt cs i < lenAt cs j) || (decide (lenAt cs i = lenAt cs j) && decide (i < j))
theorem before_ord (cs : List Cable) : Ord (before cs) where
  irr := fun i => by simp [before]
  tr := fun i j k h1 h2 => by
    simp only [before, Bool.or_eq_true, Bool.and_eq_true, decide_eq_true_eq] at h1 h2 ⊢
    omega
  tot := fun i j h => by
    simp only [before, Bool.or_eq_true, Bool.and_eq_true, decide_eq_true_eq]
    omega
structure IsTurn (cs : List Cable) (t : List Nat) : Prop where
  perm : t.Perm (List.range cs.length)
  asc : t.Pairwise (fun i j => before cs i j = true)

/-! ### the lambda is called -/
section
variable {P : Program} {w : World} {K : PySem.W.Frag} {mg : Str → Option Value} {base : Heap} {A : Around} {outer : List Env} {s : Shared} {H : Hp}
def lamCx (P : Program) (w : World) (K : PySem.W.Frag) (mg : Str → Option Value) (base : Heap) (A : Around) (outer : List Env) (s : Shared) (H : Hp) (scope : Scope) (f c' cc : Addr) : Cx where
  prog := P
  w := w
  K := K
  mg := mg
  base := base
  A := A.deeper (PySem.W.envX qualL scope s.heap.objs.size f (.ref c') [(("cables" : Str), cc)])
  N := ["place", "cables"]
  s₀ := s
  H₀ := H
  env := PySem.W.envX qualL scope s.heap.objs.size f (.ref c') [(("cables" : Str), cc)]
  outer := outer
  stack := PySem.W.envX qualL scope s.heap.objs.size f (.ref c') [(("cables" : Str), cc)] :: outer
  ex := []
  calm := true
  fn := fun _ => false
  pn := []
  xe := fun _ _ => False

theorem lam_call {params : Arguments} {body : Expr} {scope : Scope} {f c' cc a : Addr} {pm ctv : Value} {i : Int} {t : Tok} {Q : VK} {te : TE} {k : Nat}
    (hk : scope.kind = .function) (hco : scope.isCoroutine = false) (hgen : scope.isGenerator = false) (hnames : scope.names = [(("place" : Str), NameKind.local), (("cables" : Str), NameKind.free)])
    (hbind : ∀ v : Value, bindArgs (PySem.W.kla_fn "<lambda>" qualL params body scope [(("cables" : Str), cc)] pm (.ref c') ctv) ⟨[v], []⟩ = pure [(("place" : Str), v)])
    (hr : Room k A) (e0 : Env0 P w K mg base A outer s H) (hf : H f = some (ObjO f (PySem.W.kla_obj "<lambda>" qualL params body scope [(("cables" : Str), cc)] pm c' ctv))) (hc : H c' = some (CodeO c' qualL))
    (hcell : s.heap.IsCell cc (some (.ref a))) (hcn : H cc = none)
    (hb : PE (lamCx P w K mg base A outer s H scope f c' cc) body te) (h : te [some (.int i), some (.ref a)] H Q) :
    codeAny (model P w) A (.call (.ref f) ⟨[.int i t], []⟩) (CR CX0 outer P w H s Q E0) s := by
  have ho : s.heap.get? f = some (PySem.W.kla_obj "<lambda>" qualL params body scope [(("cables" : Str), cc)] pm c' ctv) := (e0.hok f _ hf).1
  have hrec : s.heap.CodeRec (.ref c') qualL := (e0.hok c' _ hc).1
  have lim : s.heap.NoLimit := e0.mod.nolimit.keeps fun b o e => (e0.bs b o e).1
  refine PySem.W.kla_callFunE hr.depth ho rfl hco hgen rfl hrec ?_
  rw [hbind]
  refine wpAny_pure (wpAny_newFunctionEnv (fun x hx => ?_) (fun x hx => ?_) (fun h₁ hns hsb => ⟨lim.fresh _ hsb, ?_⟩) hk)
  · have hx' : x ∈ scope.names := hx
    rw [hnames] at hx'
    rcases List.mem_cons.mp hx' with e | hx'
    · rw [e]; nofun
    · rw [List.mem_singleton.mp hx']; nofun
  · rw [List.mem_singleton.mp hx]
    show scope.names.lookup ("place" : Str) = some .local
    rw [hnames]; rfl
  · show codeAny _ _ (.expr body (PySem.W.envX qualL scope s.heap.objs.size f (.ref c') [(("cables" : Str), cc)])) _ _
    have hk₁ : ∀ b o, s.heap.get? b = some o → h₁.get? b = some o := fun b o e => hsb.extBut b o (Nat.ne_of_lt (Heap.lt_size e)) (Heap.get?_push_of_some _ e)
    have look : ∀ x, (PySem.W.envX qualL scope s.heap.objs.size f (.ref c') [(("cables" : Str), cc)]).kindOf x = scope.names.lookup x := fun x => rfl
    have cl : ∀ x c, List.lookup x [(("cables" : Str), cc)] = some c → c = cc ∧ x = "cables" := fun x c e => by
      have m := PySem.mem_of_lookup e
      have m' := List.mem_singleton.mp m
      cases m'
      exact ⟨rfl, rfl⟩
    have noA : ∀ b : Addr, b ∉ (lamCx P w K mg base A outer s H scope f c' cc).ex := fun b z => absurd (show b ∈ ([] : List Addr) from z) (by simp)
    have I : Inv (lamCx P w K mg base A outer s H scope f c' cc) [] [some (.int i), some (.ref a)] H { s with heap := h₁, toks := s.toks + 1 } := by
      refine ⟨⟨e0.mod, hk, rfl, rfl, Nat.le_refl _, fun y z c h1 h2 => ?_, fun y hy => ?_, fun y c z h => ?_, fun _ => hr.hd, Around.frames_deeper e0.frames, .inr ⟨rfl, rfl⟩, fun b z => absurd z (noA b), e0.bs, e0.bsz, fun b _ _ => noA b, fun b z => absurd z (noA b), e0.funs, e0.frf⟩,
        rfl, e0.bare, Un.kept hk₁, ⟨_, hns, fun j y v h1 h2 h3 => ?_⟩, fun y c h => ?_, e0.hok.fresh (Nat.le_refl _), fun y c h => ?_, fun p hp => absurd (show p ∈ ([] : List (Addr × Obj)) from hp) (by simp), e0.hok.kept hk₁, rfl⟩
      · exact (cl y c h1).2.trans (cl z c h2).2.symm
      · have hy' : scope.names.lookup y = some .cell ∨ scope.names.lookup y = some .free := hy
        rw [hnames] at hy'
        have m : (y, NameKind.cell) ∈ [(("place" : Str), NameKind.local), ("cables", NameKind.free)] ∨ (y, NameKind.free) ∈ [(("place" : Str), NameKind.local), ("cables", NameKind.free)] := hy'.imp PySem.mem_of_lookup PySem.mem_of_lookup
        rcases m with m | m
        · rcases List.mem_cons.mp m with e | e
          · cases e
          · cases List.mem_singleton.mp e
        · rcases List.mem_cons.mp m with e | e
          · cases e
          · cases List.mem_singleton.mp e
            exact ⟨cc, rfl⟩
      · cases z
      · match j, h1, h2 with
        | 0, h1, h2 =>
          have e1 : y = "place" := (Option.some.inj h1).symm
          have e2 : v = .int i := (Option.some.inj (Option.some.inj h2)).symm
          subst e1 e2
          exact ⟨.int i t, ⟨t, rfl⟩, .inl ⟨by show scope.names.lookup ("place" : Str) = some .local; rw [hnames]; rfl, rfl⟩⟩
        | 1, h1, h2 =>
          have e1 : y = "cables" := (Option.some.inj h1).symm
          have e2 : v = .ref a := (Option.some.inj (Option.some.inj h2)).symm
          subst e1 e2
          refine ⟨.ref a, rfl, .inr ⟨.inr (by show scope.names.lookup ("cables" : Str) = some .free; rw [hnames]; rfl), cc, rfl, ?_⟩⟩
          obtain ⟨o, ho, hd⟩ := hcell
          exact ⟨o, hk₁ _ _ ho, hd⟩
        | j + 2, h1, h2 => cases h2
      · obtain ⟨rfl, _⟩ := cl y c h
        obtain ⟨o, ho, hd⟩ := hcell
        exact ⟨_, o, hk₁ _ _ ho, hd⟩
      · obtain ⟨rfl, _⟩ := cl y c h
        exact hcn
    refine PySem.W.kla_codeExpr (wpAny_mono (hb [] _ _ H Q I h) (fun v s' ⟨x, H', J, rv, q⟩ => ?_) fun _ _ z => False.elim z)
    exact ⟨x, H', J.os, J.bare, J.base, J.hok, rv, q⟩
end
end Ml

namespace Ml
open PySem PySem.Spec PyProof.Rows L2
open PySem.W (KatTups kas_sort kas_ask kat_kind kat_run kat_snds kat_lt kat_one kat_cons kat_nil kat_yes kat_no KatLex KatGo KasT)

section
variable {prog : Program} {w : World} {A : Around} {E : Value → Shared → Prop} {s : Shared}
theorem collect_range {r : Addr} {n : Nat} {hi : Int} {t u v : Tok} {Q : List Value → Shared → Prop} (hh : A.handled = none) (hr : IsRange s.heap r 0 hi 1 t u v) (hsmall : Builtin.Range.small 0 hi 1 = true)
    (hn : Builtin.Range.rangeSize 0 hi 1 = n) (hlen : n ≤ 2 ^ 24)
    (h : ∀ vs h' tk, (∀ b o, s.heap.get? b = some o → h'.get? b = some o) → List.length vs = n → (∀ (i : Nat) x, vs[i]? = some x → ∃ t, x = Value.int i t) → Q vs { s with heap := h', toks := tk }) :
    wpAny (model prog w) A (collect (.ref r)) Q E s := by
  unfold collect
  refine wpAny_bind (wpAny_runValue (codeAny_builtin entry_proto_collect' ?_))
  show wpAny _ _ (do again (.builtin "list.__iadd__" ⟨[← newList [], .ref r], []⟩)) _ _ s
  refine wpAny_bind (wpAny_newList (wpAny_pure ⟨Code.quiet_builtin _ (by decide +kernel), codeAny_builtin entry_list_iadd' ?_⟩))
  show wpAny _ _ (Builtin.List.listExtendWith (.ref s.heap.objs.size) (.ref r) (.ref s.heap.objs.size)) _ _ { s with heap := s.heap.push (seqObj "list" #[] 0) }
  refine wpAny_extend_range (A := A) (R := fun r s' => match r with
      | .ok (.ret v) => wpAny (model prog w) A (match v with
        | .ref a => (do
          let o ← load a
          match o.data with
          | .seq xs _ => pure xs.toList
          | _ => unsupported "internal:collect")
        | _ => unsupported "internal:collect") Q E s'
      | .ok _ => False
      | .error e => E e s') (s := { s with heap := s.heap.push (seqObj "list" #[] 0) }) hh (Heap.get?_push_of_some _ hr) hsmall hn hlen s.heap.objs.size _ 0 (Heap.get?_push_size _ rfl) fun h' tk acc' c' hk hS' hacc => ?_
  show wpAny (model prog w) A (do
      let o ← load s.heap.objs.size
      match o.data with
      | .seq xs _ => pure xs.toList
      | _ => unsupported "internal:collect") Q E { s with heap := h', toks := tk }
  refine wpAny_bind (wpAny_load hS' ?_)
  refine wpAny_pure (h acc'.toList h' tk (fun b o e => hk b o (Nat.ne_of_lt (Heap.lt_size e)) (Heap.get?_push_of_some _ e)) (by rw [Array.length_toList]; exact hacc.1) fun i x hx => ?_)
  have hx' : acc'[i]? = some x := by simpa using hx
  obtain ⟨t, e⟩ := hacc.2 i x hx'
  exact ⟨t, by rw [e]; congr 1; omega⟩

theorem fold_items {J : Nat → Shared → Prop} {items : List Value} {body : Value → PUnit → Sem (ForInStep PUnit)}
    (hb : ∀ (m : Nat) x s, items[m]? = some x → J m s → wpAny (model prog w) A (body x ⟨⟩) (fun r s' => r = .yield ⟨⟩ ∧ J (m + 1) s') E s) :
    ∀ (r : List Value) (m : Nat) (s : Shared), items.drop m = r → m + r.length = items.length → J m s → wpAny (model prog w) A (forIn r PUnit.unit body) (fun _ s' => J items.length s') E s
  | [], m, s, h, hl, j => by
    rw [List.forIn_nil]
    have e : m = items.length := by simpa using hl
    exact wpAny_pure (by rw [← e]; exact j)
  | x :: r, m, s, h, hl, j => by
    rw [List.length_cons] at hl
    rw [List.forIn_cons]
    have hx : items[m]? = some x := by
      have e := congrArg (fun l : List Value => l[0]?) h
      simpa using e
    refine wpAny_bind (wpAny_mono (hb m x s hx j) (fun q s' hq => ?_) fun _ _ z => z)
    obtain ⟨rfl, j'⟩ := hq
    show wpAny (model prog w) A (forIn r PUnit.unit body) _ E s'
    refine fold_items hb r (m + 1) s' ?_ (by omega) j'
    rw [← List.drop_drop, h]
    rfl

theorem tups_of {h : Heap} : ∀ (ks : List Value), (∀ v ∈ ks, ∃ r o l t i u n, v = Value.ref r ∧ h.get? r = some o ∧ o.cls = .type "tuple" ∧ o.data = .seq #[.int l t, .int i u] n) →
    ∃ fs, KatTups h ks fs ∧ fs.length = ks.length ∧ ∀ v ∈ fs, ∃ l t, v = Value.int l t
  | [], _ => ⟨[], .nil, rfl, fun _ z => nomatch z⟩
  | k :: ks, H => by
    obtain ⟨r, o, l, t, i, u, n, rfl, h1, h2, h3⟩ := H k List.mem_cons_self
    obtain ⟨fs, q1, q2, q3⟩ := tups_of ks fun v hv => H v (List.mem_cons_of_mem _ hv)
    refine ⟨.int l t :: fs, .cons h1 h2 h3 rfl q1, by simp [q2], fun v hv => ?_⟩
    rcases List.mem_cons.mp hv with e | hv
    · exact ⟨l, t, e⟩
    · exact q3 v hv

/-- two keys (length, place) compared -/
theorem key_lt {x y : Addr} {ox oy : Obj} {l1 l2 i j : Int} {t1 t2 u1 u2 : Tok} {n k : Nat} {C : Bool → Shared → Prop} (hx : s.heap.get? x = some ox) (dx : ox.data = .seq #[.int l1 t1, .int i u1] n) (hy : s.heap.get? y = some oy) (dy : oy.data = .seq #[.int l2 t2, .int j u2] k)
    (h : C (decide (l1 < l2) || (decide (l1 = l2) && decide (i < j))) s) : wpAny (model prog w) A (keyLt' (tuples' true) (.ref x) (.ref y)) C E s := by
  refine kat_lt hx dx hy dy ?_
  show KatLex prog w A true _ C [(.int l1 t1, .int l2 t2), (.int i u1, .int j u2)] 0 s
  refine kat_cons (wpAny_eqBool_int ?_)
  by_cases e : l1 = l2
  · subst e
    rw [beq_self_eq_true]
    refine kat_yes (kat_cons (wpAny_eqBool_int ?_))
    by_cases e2 : i = j
    · subst e2
      rw [beq_self_eq_true]
      refine kat_yes (kat_nil ?_)
      have z : (decide (l1 < l1) || (decide (l1 = l1) && decide (i < i))) = false := by simp
      rw [z] at h
      exact h
    · rw [beq_eq_false_iff_ne.mpr e2]
      refine kat_no (kat_one _ _ (lt_int ?_))
      have z : (decide (l1 < l1) || (decide (l1 = l1) && decide (i < j))) = decide (i < j) := by simp
      rw [z] at h
      exact h
  · rw [beq_eq_false_iff_ne.mpr e]
    refine kat_no (oneLt_int ?_)
    have z : (decide (l1 < l2) || (decide (l1 = l2) && decide (i < j))) = decide (l1 < l2) := by simp [e]
    rw [z] at h
    exact h
end

section
variable {X : Cx} {pins : List (Addr × Obj)} {σ : L2.St}
/-- between two keys -/
structure Keys (X : Cx) (pins : List (Addr × Obj)) (σ : L2.St) (H : Hp) (D kS : Addr) (e1 : Nat) (len : Nat → Int) (G : Hp → Prop) (m : Nat) (s : Shared) : Prop where
  ex : ∃ (ks : List Value) (e : Nat) (H1 : Hp), Inv X pins σ H1 s ∧ Ext H H1 ∧ G H1 ∧ s.heap.get? D = some (seqObj "list" #[] e1) ∧ s.heap.get? kS = some (seqObj "list" ks.toArray e) ∧ FpOk X pins H1 D ∧ FpOk X pins H1 kS ∧ ks.length = m ∧
    ∀ i, i < m → ∃ r, ks[i]? = some (.ref r) ∧ H1 r = some (.tup [.int (len i), .int i])

theorem Inv.upd_fp {H : Hp} {s : Shared} {d : Addr} {f : Obj → Obj} {tk : Nat} (I : Inv X pins σ H s) (q : FpOk X pins H d) : Inv X pins σ H { s with heap := s.heap.update d f, toks := tk } := by
  obtain ⟨f0, f1, f2, f3, f4, f5⟩ := q
  exact I.turned (fun b o hb e => (Heap.get?_update_ne _ _ _ _ hb).trans e) f0 f1 f3 f4 f5

theorem sort_tree {H : Hp} {s : Shared} {D f : Addr} {vs : List Value} {n : Nat} {cs : List Cable} {A : Around} {E : Value → Shared → Prop} {G : Hp → Prop} {P : PySem.Fin → Shared → Prop} (I : Inv X pins σ H s) (g0 : G H)
    (gN : ∀ H1 r o, G H1 → H1 r = none → G (upd H1 r o))
    (hD : s.heap.get? D = some (seqObj "list" vs.toArray 0)) (fD : FpOk X pins H D) (hDs : X.s₀.heap.objs.size ≤ D) (hvl : vs.length = n) (hv : ∀ (i : Nat) x, vs[i]? = some x → ∃ t, x = Value.int i t) (hn : cs.length = n) (h64 : n < 64)
    (key : ∀ (i : Nat) (t : Tok) (H1 : Hp) (s1 : Shared), i < n → Inv X pins σ H1 s1 → Ext H H1 → G H1 → wpAny (model X.prog X.w) A (call (.ref f) [.int i t])
      (fun u s2 => ∃ r, u = .ref r ∧ H1 r = none ∧ Un (frs X.stack) [] H1 (upd H1 r (.tup [.int (lenAt cs i), .int i])) s1.heap s2.heap ∧ Inv X pins σ (upd H1 r (.tup [.int (lenAt cs i), .int i])) s2) (fun _ _ => False) s1)
    (fin : ∀ (t : List Nat) (H1 : Hp) (s1 : Shared), IsTurn cs t → Ext H H1 → G H1 → H1 D = none → Inv X pins σ (upd H1 D (.lst (t.map fun (i : Nat) => V.int i))) s1 → P (.done (.ret .none)) s1) :
    wpAny (model X.prog X.w) A (ksk_tree D (.ref f) false) P E s := by
  have hDlt : D < s.heap.objs.size := Heap.lt_size hD
  obtain ⟨e1, ho1⟩ : ∃ e1, (s.heap.update D (Obj.mapSeq fun _ => (#[] : Array Value))).get? D = some (seqObj "list" #[] e1) := ⟨_, get?_update_seq hD fun _ => #[]⟩
  have I1 : Inv X pins σ H { s with heap := s.heap.update D (Obj.mapSeq fun _ => (#[] : Array Value)) } := Inv.upd_fp (tk := s.toks) I fD
  have hkS : ((s.heap.update D (Obj.mapSeq fun _ => (#[] : Array Value))).push (seqObj "tuple" vs.toArray 0)).objs.size = s.heap.objs.size + 1 := by rw [size_push', Heap.size_update]
  unfold ksk_tree
  refine wpAny_bind (listItems_at hD rfl ?_)
  refine wpAny_bind (listUpdate_at hD rfl ?_ (by rw [List.size_toArray, sizeLine_eq]; omega) (Nat.zero_le _))
  refine wpAny_bind (seqEpoch_at ho1 rfl ?_)
  refine wpAny_bind (wpAny_newTuple ?_ (by show vs.length ≤ _; rw [sizeLine_eq]; omega))
  refine wpAny_bind (wpAny_newList ?_ (Nat.zero_le _))
  refine wpAny_holding ?_
  -- the keys
  have I2 : Inv X pins σ H { s with heap := (s.heap.update D (Obj.mapSeq fun _ => (#[] : Array Value))).push (seqObj "tuple" vs.toArray 0) } := I1.kept (t' := s.toks) fun b o e => Heap.get?_push_of_some _ e
  have fk : FpOk X pins H ((s.heap.update D (Obj.mapSeq fun _ => (#[] : Array Value))).push (seqObj "tuple" vs.toArray 0)).objs.size := I2.fpOk (Nat.le_refl _) (I2.hok.fresh (Nat.le_refl _))
  have I3 : Inv X pins σ H { s with heap := ((s.heap.update D (Obj.mapSeq fun _ => (#[] : Array Value))).push (seqObj "tuple" vs.toArray 0)).push (seqObj "list" #[] 0) } := I2.kept (t' := s.toks) fun b o e => Heap.get?_push_of_some _ e
  generalize hkd : ((s.heap.update D (Obj.mapSeq fun _ => (#[] : Array Value))).push (seqObj "tuple" vs.toArray 0)).objs.size = kS at fk hkS ⊢
  have hDk : D ≠ kS := by rw [hkS]; exact Nat.ne_of_lt (Nat.lt_succ_of_lt hDlt)
  have K0 : Keys X pins σ H D kS e1 (lenAt cs) G 0 { s with heap := ((s.heap.update D (Obj.mapSeq fun _ => (#[] : Array Value))).push (seqObj "tuple" vs.toArray 0)).push (seqObj "list" #[] 0) } :=
    ⟨[], 0, H, I3, .refl H, g0, Heap.get?_push_of_some _ (Heap.get?_push_of_some _ ho1), by rw [← hkd]; exact Heap.get?_push_size _ rfl, fD, fk, rfl, fun i hi => absurd hi (Nat.not_lt_zero _)⟩
  unfold ksk_rest
  refine wpAny_bind (wpAny_rule ?_)
  first
    | rw [List.forIn_toArray]
    | (rw [← Array.forIn_toList]; simp only [List.toList_toArray])
    | rw [← Array.forIn_toList]
  refine wpAny_bind (wpAny_mono (fold_items (J := Keys X pins σ H D kS e1 (lenAt cs) G) (fun m x s1 hx j => ?_) vs 0 _ rfl (by simp) K0) (fun _ s1 j => ?_) fun _ _ z => z)
  · obtain ⟨ks, e, H1, J1, x1, g1, d1, k1, fd, fk1, hl, hk⟩ := j.ex
    obtain ⟨t, rfl⟩ := hv m x hx
    have hm : m < n := by rw [← hvl]; exact (List.getElem?_eq_some_iff.mp hx).1
    refine wpAny_bind (wpAny_attempt (wpAny_mono (key m t H1 s1 hm J1 x1 g1) (fun u s2 ⟨r, hu, hr, un, J2⟩ => ?_) fun _ _ hF => hF.elim))
    subst hu
    have nst : ∀ b o, s1.heap.get? b = some o → FpOk X pins H1 b → b ∉ frs X.stack := fun b o _ q z => (List.mem_cons.mp (J1.stkSub b z)).elim q.2.1 q.2.2.1
    have d2 := un.keep D _ d1 fd.1 (nst D _ d1 fd) (by simp)
    have k2 := un.keep kS _ k1 fk1.1 (nst kS _ k1 fk1) (by simp)
    have hrD : D ≠ r := fun z => by
      have l1 := Heap.lt_size d1
      have l2 : H1 r = none := hr
      have := un.free D _ d1 fd.1 (by simp)
      rw [z, upd_same] at this; cases this
    have hrk : kS ≠ r := fun z => by
      have := un.free kS _ k1 fk1.1 (by simp)
      rw [z, upd_same] at this; cases this
    have fd2 : FpOk X pins (upd H1 r (.tup [.int (lenAt cs m), .int m])) D := ⟨by rw [upd_ne hrD]; exact fd.1, fd.2⟩
    have fk2 : FpOk X pins (upd H1 r (.tup [.int (lenAt cs m), .int m])) kS := ⟨by rw [upd_ne hrk]; exact fk1.1, fk1.2⟩
    have ea : (List.toArray ks).push (.ref r) = List.toArray (ks ++ [.ref r]) := by simp
    obtain ⟨c2, hc2⟩ : ∃ c2, (s2.heap.update kS (Obj.mapSeq (·.push (.ref r)))).get? kS = some (seqObj "list" (List.toArray (ks ++ [.ref r])) c2) := ⟨_, by rw [← ea]; exact get?_update_seq k2 (·.push (.ref r))⟩
    try dsimp only
    refine wpAny_bind (listUpdate_at k2 rfl ?_ (by rw [List.size_toArray, sizeLine_eq]; omega) (Nat.le_trans (Nat.le_of_eq (Array.size_push ..)) (by rw [List.size_toArray, sizeLine_eq]; omega)))
    refine wpAny_pure ⟨rfl, ⟨ks ++ [.ref r], c2, _, Inv.upd_fp (tk := s2.toks) J2 fk2, x1.trans (.new hr), gN _ _ _ g1 hr, (Heap.get?_update_ne _ _ _ _ hDk).trans d2, hc2, fd2, fk2, by simp [hl], fun i hi => ?_⟩⟩
    by_cases hi' : i = m
    · subst hi'
      exact ⟨r, by rw [List.getElem?_append_right (by omega)]; simp [hl], upd_same⟩
    · obtain ⟨r', q1, q2⟩ := hk i (by omega)
      exact ⟨r', by rw [List.getElem?_append_left (by omega)]; exact q1, by rw [upd_ne (ne_of_none q2 hr)]; exact q2⟩
  · -- all keys are there
    obtain ⟨ks, e, H1, J1, x1, g1, d1, k1, fd, fk1, hl, hk⟩ := j.ex
    rw [hvl] at hl hk
    have tup : ∀ i, i < n → ∃ r o t u k, ks.getD i Value.none = .ref r ∧ s1.heap.get? r = some o ∧ o.cls = .type "tuple" ∧ o.data = .seq #[.int (lenAt cs i) t, .int i u] k := fun i hi => by
      obtain ⟨r, q1, q2⟩ := hk i hi
      obtain ⟨_, its, rv, o, h1, h2, k, h3⟩ := J1.hok r _ q2
      obtain ⟨u1, u2, rfl, r1, r2⟩ := vals2 rv
      obtain ⟨t, rfl⟩ := r1
      obtain ⟨u, rfl⟩ := r2
      exact ⟨r, o, t, u, k, by rw [List.getD_eq_getElem?_getD, q1]; rfl, h1, h2, h3⟩
    try dsimp only
    refine wpAny_bind (listItems_at k1 rfl ?_)
    have tail : ∀ (st : SortSt) (t : List Nat), IsTurn cs t → (arrOf st).map (·.2) = List.toArray (t.map fun i => vs.getD i Value.none) → failedOf st = none → wpAny (model X.prog X.w) A (ksk_tail D false e1 (.ref kS) st) P E s1 := fun st t ht hout hf => by
      have htl : t.length = n := by rw [ht.perm.length_eq, List.length_range]; exact hn
      have J2 := Inv.upd_fp (f := Obj.mapSeq fun _ => (#[] : Array Value)) (tk := s1.toks) J1 fk1
      have d2 : (s1.heap.update kS (Obj.mapSeq fun _ => (#[] : Array Value))).get? D = some (seqObj "list" #[] e1) := (Heap.get?_update_ne _ _ _ _ hDk).trans d1
      have J3 := Inv.upd_fp (f := Obj.mapSeq fun _ => List.toArray (t.map fun i => vs.getD i Value.none)) (tk := s1.toks) J2 fd
      obtain ⟨c2, hc2⟩ : ∃ c2, ((s1.heap.update kS (Obj.mapSeq fun _ => (#[] : Array Value))).update D (Obj.mapSeq fun _ => List.toArray (t.map fun i => vs.getD i Value.none))).get? D = some (seqObj "list" (List.toArray (t.map fun i => vs.getD i Value.none)) c2) := ⟨_, get?_update_seq d2 fun _ => List.toArray (t.map fun i => vs.getD i Value.none)⟩
      have vals : Vals (t.map fun (i : Nat) => V.int i) (t.map fun i => vs.getD i Value.none) := by
        have all : ∀ l : List Nat, (∀ i ∈ l, i < n) → Vals (l.map fun (i : Nat) => V.int i) (l.map fun i => vs.getD i Value.none) := by
          intro l
          induction l with
          | nil => intro _; exact .nil
          | cons i l ih =>
            intro hb
            refine .cons ?_ (ih fun j hj => hb j (List.mem_cons_of_mem _ hj))
            have hi : i < vs.length := by rw [hvl]; exact hb i List.mem_cons_self
            have ei : vs[i]? = some vs[i] := by simp [hi]
            obtain ⟨u, hu⟩ := hv i _ ei
            exact ⟨u, by show vs.getD i Value.none = _; rw [List.getD_eq_getElem?_getD, ei]; exact hu⟩
        exact all t fun i hi => by
          have := List.mem_range.mp (ht.perm.mem_iff.mp hi)
          omega
      unfold ksk_tail
      try dsimp only
      rw [hout]
      refine wpAny_bind (listUpdate_at k1 rfl ?_ (by rw [List.size_toArray, sizeLine_eq]; omega) (Nat.zero_le _))
      refine wpAny_bind (wpAny_letGo ?_)
      refine wpAny_bind (seqEpoch_at d2 rfl ?_)
      refine wpAny_bind (listUpdate_at d2 rfl ?_ (Nat.zero_le _) (by show (List.toArray (t.map fun i => vs.getD i Value.none)).size ≤ _; rw [List.size_toArray, List.length_map, sizeLine_eq]; omega))
      rw [hf]
      simp only [bne_self_eq_false, Bool.false_eq_true, if_false]
      refine wpAny_pure (fin t H1 _ ht x1 g1 fd.1 (track J3 fd hDs ⟨by rw [List.length_map, sizeLine_eq]; omega, _, c2, vals, hc2⟩))
    unfold ksk_end
    try dsimp only
    simp only [Bool.false_eq_true, if_false]
    by_cases h2 : vs.toArray.size < 2
    · rw [if_pos h2, if_pos h2]
      refine wpAny_bind (wpAny_pure ?_)
      rw [StateT.run_pure]
      refine wpAny_bind (wpAny_pure ?_)
      have h2' : n < 2 := by rw [List.size_toArray] at h2; omega
      refine tail _ (List.range n) ⟨by rw [hn], ?_⟩ ?_ rfl
      · have : n = 0 ∨ n = 1 := by omega
        rcases this with e | e
        · rw [e]; exact .nil
        · rw [e]; simp
      · show ((List.toArray ks).zip vs.toArray).map (·.2) = _
        apply Array.toList_inj.mp
        have ez : (List.range n).map (fun i => vs.getD i Value.none) = vs := by
          refine List.ext_getElem (by simp [hvl]) fun i h1 h3 => ?_
          simp [h3]
        rw [ez]
        have el : (((List.toArray ks).zip vs.toArray).map (·.2)).toList = (List.zip ks vs).map (·.2) := by simp
        rw [el]
        exact List.map_snd_zip (by omega)
    · rw [if_neg h2, if_neg h2]
      have h2' : 2 ≤ n := by rw [List.size_toArray] at h2; omega
      obtain ⟨fs, q1, q2, q3⟩ := tups_of (h := s1.heap) ks fun v hv' => by
        obtain ⟨i, hi, rfl⟩ := List.mem_iff_getElem.mp hv'
        obtain ⟨r, o, t, u, k, a1, a2, a3, a4⟩ := tup i (by omega)
        have e : ks.getD i Value.none = ks[i] := by simp [hi]
        exact ⟨r, o, _, t, _, u, k, by rw [← e]; exact a1, a2, a3, a4⟩
      refine wpAny_bind (kat_kind (T := .type "int") q1 (by omega) (fun v hv' => ?_) rfl ?_)
      · obtain ⟨l, t, rfl⟩ := q3 v hv'
        exact PySem.W.Looks.of_pure rfl
      have ask : (kas_sort n).kasWp (kas_ask X.prog X.w A (tuples' true) ks) (fun p s' => s' = s1 ∧ Prm n p ∧ Asc (before cs) p n) s1 := by
        refine wp_of_pw (lt := before cs) (n := n) (fun s' => s' = s1) (fun i jj C s' hi hj hs hc => ?_) _ s1 rfl (pw_mono (fun p hp s' hs => ⟨hs, hp⟩) _ (sort_pw (before_ord cs) h2'))
        subst hs
        obtain ⟨r, o, t, u, k, a1, a2, a3, a4⟩ := tup i hi
        obtain ⟨r', o', t', u', k', b1, b2, b3, b4⟩ := tup jj hj
        show wpAny _ _ (keyLt' (tuples' true) (ks.getD i Value.none) (ks.getD jj Value.none)) C _ _
        rw [a1, b1]
        refine key_lt a2 a4 b2 b4 ?_
        have := hc s' rfl
        have eb : (decide (lenAt cs i < lenAt cs jj) || (decide (lenAt cs i = lenAt cs jj) && decide ((i : Int) < (jj : Int)))) = before cs i jj := by
          unfold before
          congr 2
          exact decide_eq_decide.mpr (by omega)
        rw [eb]
        exact this
      have ev : vs.length = n := hvl
      refine wpAny_bind (wpAny_mono (kat_run (Q := fun st' s' => ∃ p : Array Nat, p.size = vs.length ∧ arrOf st' = p.map (PySem.W.kas_item ((List.toArray ks).zip vs.toArray)) ∧ failedOf st' = none ∧ s' = s1 ∧ Prm n p ∧ Asc (before cs) p n)
        (by omega) (by omega) (by omega) (fun p' st' s' a1 a2 a3 a4 => ⟨p', a1, a2, a3, a4⟩) (by rw [ev]; exact ask)) ?_ fun _ _ z => z)
      rintro ⟨⟨⟩, st'⟩ s' ⟨p, hp, har, hf, rfl, P1, A1⟩
      try dsimp only
      refine tail st' p.toList ⟨by rw [hn]; exact P1.2, ?_⟩ (kat_snds (by omega) har) hf
      rw [List.pairwise_iff_getElem]
      intro i j hi hj hij
      have hi' : i < p.size := by simpa using hi
      have hj' : j < p.size := by simpa using hj
      have := A1 i j hij (by rw [← P1.1]; exact hj')
      have e1 : gt p i = p[i] := by simp [gt, Array.getD, hi']
      have e2 : gt p j = p[j] := by simp [gt, Array.getD, hj']
      rw [e1, e2] at this
      simpa using this
end
end Ml

namespace Ml
open PySem PySem.Spec PyProof.Rows L2

section
variable {X : Cx}
/-! ### != of two that are alike -/
theorem vals_intsAt {ns : List Int} {us : List Value} (r : Vals (ns.map V.int) us) {j : Nat} (h : j < us.toArray.size) : ∃ t, us.toArray[j] = Value.int (ns.getD j 0) t := by
  have hl := r.length
  rw [List.length_map] at hl
  have hj : j < ns.length := by rw [hl]; simpa using h
  obtain ⟨u, hu, t, e⟩ := r.get (i := j) (x := V.int ns[j]) (by simp [hj])
  refine ⟨t, ?_⟩
  have hj' : j < us.length := by simpa using h
  have e2 : us[j] = u := by
    have : us[j]? = some us[j] := by simp [hj']
    rw [this] at hu
    exact Option.some.inj hu
  simp only [List.getElem_toArray]
  rw [e2, e]
  simp [hj]
def rNeT (K : PySem.W.Frag) : R2 := fun x y H Q => ∃ (a b : Addr) (ns : List Int), x = .ref a ∧ y = .ref b ∧ SqT K H a (ns.map V.int) ∧ SqT K H b (ns.map V.int) ∧ Q (.bl false) H
theorem op_neT (hu : X.A.units < cLine) : OpR X (compareOp .NotEq) (rNeT X.K) := by
  intro pins s σ H x y v u Q I rx ry h
  obtain ⟨a, b, ns, rfl, rfl, ha, hb, q⟩ := h
  cases rx
  cases ry
  obtain ⟨its, r1, p1, _⟩ := I.tuple ha
  obtain ⟨its2, r2, p2, _⟩ := I.tuple hb
  have l1 := r1.length
  have l2 := r2.length
  have hs : its.toArray.size = its2.toArray.size := by simp; omega
  refine SeqAt.RcNeAt.tuples (e := fun _ => true) p1 p2 hu (fun j h1 h2 => ?_) _ _ _ _ ?_
  · obtain ⟨t, e1⟩ := vals_intsAt r1 h1
    obtain ⟨u, e2⟩ := vals_intsAt r2 h2
    rw [e1, e2]
    have := SeqAt.EqAt.int_int (A := X.A.in1) (s := s) (ns.getD j 0) t (ns.getD j 0) u
    rw [beq_self_eq_true] at this
    exact this
  · have e : (!((List.range (min its.toArray.size its2.toArray.size)).all (fun _ => true) && its.toArray.size == its2.toArray.size)) = false := by
      rw [hs]; simp
    exact ⟨.bl _, H, I, rfl, by rw [e]; exact q⟩
def rNeL (K : PySem.W.Frag) : R2 := fun x y H Q => ∃ (a b : Addr) (ns : List Int), x = .ref a ∧ y = .ref b ∧ SqL K H a (ns.map V.int) ∧ SqL K H b (ns.map V.int) ∧ Q (.bl false) H
theorem op_neL (hu : X.A.units < cLine) : OpR X (compareOp .NotEq) (rNeL X.K) := by
  intro pins s σ H x y v u Q I rx ry h
  obtain ⟨a, b, ns, rfl, rfl, ha, hb, q⟩ := h
  cases rx
  cases ry
  obtain ⟨its, r1, p1, _⟩ := I.list ha
  obtain ⟨its2, r2, p2, _⟩ := I.list hb
  have l1 := r1.length
  have l2 := r2.length
  have hs : its.toArray.size = its2.toArray.size := by simp; omega
  refine SeqAt.RcNeAt.lists (e := fun _ => true) p1.isList p2.isList hs hu (fun j h1 h2 => ?_) _ _ _ _ ?_
  · obtain ⟨t, e1⟩ := vals_intsAt r1 h1
    obtain ⟨u, e2⟩ := vals_intsAt r2 h2
    rw [e1, e2]
    have := SeqAt.EqAt.int_int (A := X.A.in1) (s := s) (ns.getD j 0) t (ns.getD j 0) u
    rw [beq_self_eq_true] at this
    exact this
  · have e : (!(List.range its.toArray.size).all (fun _ => true)) = false := by simp
    exact ⟨.bl _, H, I, rfl, by rw [e]; exact q⟩

/-! ### isinstance(x, T), T a built-in type -/
def rIs (K : PySem.W.Frag) : List V → Hp → VK → Prop := fun xs H Q => ∃ x T t b, xs = [x, .ty T] ∧ TyOf K H x t ∧ PySem.W.kitOne K t (.type T) = some b ∧ Q (.bl b) H
theorem call_isinst : CallR X (.builtin "isinstance") (rIs X.K) := by
  intro pins s σ H xs us Q I r h
  obtain ⟨x, T, t, b, rfl, ty, e, q⟩ := h
  obtain ⟨u, w', rfl, r1, r2⟩ := vals2 r
  cases (show w' = Value.type T from r2)
  exact isinst_ok I r1 ty e fun tk => ⟨.bl b, H, I.tok tk, rfl, q⟩

/-! ### range(n) as an object -/
def rRange : List V → Hp → VK → Prop := fun xs H Q => ∃ j, xs = [.int j] ∧ ∀ p, H p = none → Q (.ref p) (upd H p (.rng 0 j))
theorem call_rangeV : CallR X (.type "range") rRange := by
  intro pins s σ H xs us Q I r h
  obtain ⟨j, rfl, q⟩ := h
  obtain ⟨u, rfl, r1⟩ := vals1 r
  obtain ⟨t, rfl⟩ := r1
  have hf : H s.heap.objs.size = none := I.hok.fresh (Nat.le_refl _)
  exact call_range_1 ⟨.ref s.heap.objs.size, upd H s.heap.objs.size (.rng 0 j), I.laid (fun b u e => Heap.get?_push_of_some _ e) (Nat.le_refl _) ⟨_, _, _, Heap.get?_push_size _ rfl⟩, rfl, q _ hf⟩

/-! ### sorted(e, key=lambda ..) -/
theorem pe_sortedK {e lam : Expr} {p kp pos : Pos} {ta : TA} {tl : TE} {r : List V → V → L2.St → Hp → VK → Prop} (hg : Gl X "sorted") (hm : X.mg "sorted" = none) (ha : PA X [e] ta) (hl : PE X lam tl)
    (hc : ∀ (pins : List (Addr × Obj)) (s : Shared) (σ : L2.St) (H : Hp) (vs : List V) (us : List Value) (f : V) (fu : Value) (Q : VK), Inv X pins σ H s → Vals vs us → RelV f fu → r vs f σ H Q →
      wpAny (model X.prog X.w) X.A (call (.builtin "sorted") us [(Str.ofString "key", fu)]) (EP X pins σ Q) X.xe s)
    (he : backTo pos (starEach [e] X.env) = (false, eval e X.env) :: backTo pos (starEach [] X.env) := by rfl) :
    PE X (.Call (.Name "sorted" p) [e] [⟨some "key", lam, kp⟩] pos) (fun σ H Q => ta σ H fun vs H1 => tl σ H1 fun f H2 => r vs f σ H2 Q) := by
  intro pins s σ H Q I h
  refine wpAny_Call_Name_kw (ld_blt I hg hm boot_sorted ?_)
  refine callWith_kw (thn (ha pos pins s σ H _ I h) fun us s1 ⟨vs, H1, I1, r1, q1⟩ => ?_) he (by rw [he]; rfl)
  refine kws_cons (thn (hl pins s1 σ H1 _ I1 q1) fun fu s2 ⟨f, H2, I2, r2, q2⟩ => kws_nil ?_)
  exact hc pins s2 σ H2 vs us f fu Q I2 r1 r2 q2

/-- the call of sorted over a range, by a key that gives (length, place) -/
theorem sorted_call {pins : List (Addr × Obj)} {s : Shared} {σ : L2.St} {H : Hp} {rg f : Addr} {cs : List Cable} {G : Hp → Prop} {Q : VK} (I : Inv X pins σ H s) (hcalm : X.calm = true) (hr : H rg = some (.rng 0 (cs.length : Int))) (h64 : cs.length < 64) (g0 : G H)
    (gN : ∀ H1 r o, G H1 → H1 r = none → G (upd H1 r o))
    (key : ∀ (i : Nat) (t : Tok) (H1 : Hp) (s1 : Shared), i < cs.length → Inv X pins σ H1 s1 → Ext H H1 → G H1 → wpAny (model X.prog X.w) X.A.in1.in1 (call (.ref f) [.int i t])
      (fun u s2 => ∃ r, u = .ref r ∧ H1 r = none ∧ Un (frs X.stack) [] H1 (upd H1 r (.tup [.int (lenAt cs i), .int i])) s1.heap s2.heap ∧ Inv X pins σ (upd H1 r (.tup [.int (lenAt cs i), .int i])) s2) (fun _ _ => False) s1)
    (q : ∀ (t : List Nat) (H1 : Hp) (D : Addr), IsTurn cs t → Ext H H1 → G H1 → H1 D = none → Q (.ref D) (upd H1 D (.lst (t.map fun (i : Nat) => V.int i)))) :
    wpAny (model X.prog X.w) X.A (call (.builtin "sorted") [.ref rg] [(Str.ofString "key", .ref f)]) (EP X pins σ Q) X.xe s := by
  obtain ⟨t0, u0, v0, hro⟩ := I.hok rg _ hr
  refine call_function_entry_kw kind_sorted plain_sorted entry_sorted (ksk_s1 _ _) ?_
  unfold Builtin.«sorted»
  refine wpAny_bind (m := checkCount "sorted" 1 1 _) (wpAny_pure ?_)
  have hsz : Builtin.Range.rangeSize 0 (cs.length : Int) 1 = (cs.length : Nat) := by rw [rangeSize_one]; split <;> omega
  refine wpAny_bind (collect_range (I.ok.hd hcalm) hro (small_one (by omega) (by omega) (by omega) (by omega)) hsz (by omega) fun vs h' tk hk hvl hv => ?_)
  have I1 : Inv X pins σ H { s with heap := h', toks := tk } := I.kept hk
  refine wpAny_bind (wpAny_newList ?_ (by rw [sizeLine_eq]; omega))
  have fD : FpOk X pins H h'.objs.size := I1.fpOk (Nat.le_refl _) (I1.hok.fresh (Nat.le_refl _))
  have hDs : X.s₀.heap.objs.size ≤ h'.objs.size := I1.sz
  have hoL : (h'.push (seqObj "list" vs.toArray 0)).get? h'.objs.size = some (seqObj "list" vs.toArray 0) := Heap.get?_push_size _ rfl
  have I2 : Inv X pins σ H { s with heap := h'.push (seqObj "list" vs.toArray 0), toks := tk } := I1.kept (t' := tk) fun b o e => Heap.get?_push_of_some _ e
  refine wpAny_bind (wpAny_holding (wpAny_call_entry_kw slot_list_sort ⟨_, hoL, rfl⟩ entry_list_sort ?body (ksk_l1 _ _)))
  case body =>
    show wpAny (model X.prog X.w) X.A.in1.in1 (Builtin.«list.sort» ⟨[.ref h'.objs.size], [(Str.ofString "key", .ref f)]⟩) _ _ _
    rw [ksk_t1]
    refine sort_tree (G := G) I2 g0 gN hoL fD hDs hvl hv rfl h64 key fun t H1 s1 ht x1 g1 hn J => ⟨_, rfl, ?_⟩
    exact wpAny_pure ⟨_, rfl, ⟨.ref h'.objs.size, _, J, rfl, q t H1 _ ht x1 g1 hn⟩⟩
end
end Ml

namespace Ml
open PySem PySem.Spec PyProof.Rows L2

/-! ### a comprehension's block -/
/-- the block's context: the frame stays the caller's, the names stand in a dict of their own at C -/
def compCx (X : Cx) (pins : List (Addr × Obj)) (s : Shared) (H : Hp) (scope : Scope) (cl : List (Str × Addr)) (C : Addr) (fp : List Addr) (Nc : List Str) : Cx where
  prog := X.prog
  w := X.w
  K := X.K
  mg := X.mg
  base := X.base
  A := X.A
  N := Nc
  s₀ := s
  H₀ := H
  env := compEnvC scope cl C X.env
  outer := X.stack
  stack := X.stack
  ex := fp
  fn := fun _ => false
  calm := X.calm
  pn := X.pn ++ pins
  xe := fun _ _ => False

/-- what the block's scope must be: x its variable, caps the names it takes from the def (cells there) -/
structure CompOk (X : Cx) (scope : Scope) (cl : List (Str × Addr)) (x : Str) (caps : List Str) : Prop where
  clos : closureFor scope X.env = pure cl
  kind : scope.kind = .function
  nocell : ∀ y ∈ scope.names, y.2 ≠ .cell
  names : ∀ y ∈ scope.names, y.2 = .local → scope.names.lookup y.1 = some .local
  cell : ∀ y c, cl.lookup y = some c → X.env.cells.lookup y = some c
  has : ∀ y, ((relabel scope X.env).names.lookup y = some .cell ∨ (relabel scope X.env).names.lookup y = some .free) → ∃ c, cl.lookup y = some c
  capK : ∀ y ∈ caps, (X.env.kindOf y = some .cell ∨ X.env.kindOf y = some .free) ∧ ((relabel scope X.env).names.lookup y = some .cell ∨ (relabel scope X.env).names.lookup y = some .free)
  nd : (x :: caps).Nodup

def tComp (X : Cx) (caps : List Str) (wi : TI) (tt : TT) (te : TE) : TE := fun σ H Q => wi σ H fun J H1 => ∀ p, H1 p = none → ∃ σc : L2.St,
  σc.length = caps.length ∧ (∀ (j : Nat) (y : Str) (v : V), caps[j]? = some y → σc[j]? = some (some v) → ∃ i : Nat, X.N[i]? = some y ∧ σ[i]? = some (some v)) ∧
  ∃ W : Nat → Nat → L2.St → Hp → Prop, (∃ m, W 0 m (none :: σc) (upd H1 p (.lst []))) ∧ ∀ i m σ' H', W i m σ' H' →
    (J.stop i H' ∧ (∃ xs, H' p = some (.lst xs)) ∧ Q (.ref p) H') ∨ (J.go i H' ∧ ∀ x H2, J.yld i H' x H2 → tt (σ'.set 0 (some x)) H2 fun b H3 =>
      if b = true then te (σ'.set 0 (some x)) H3 fun y H4 => ∃ xs, H4 p = some (.lst xs) ∧ xs.length < sizeLine ∧ ∃ m', m' < m ∧ W (i + 1) m' (σ'.set 0 (some x)) (upd H4 p (.lst (xs ++ [y])))
      else ∃ m', m' < m ∧ W (i + 1) m' (σ'.set 0 (some x)) H3)
def tAll : TT := fun _ H Q => Q true H
theorem tAll_if {σ : L2.St} {H : Hp} {A B : Hp → Prop} (h : A H) : tAll σ H (fun b H3 => if b = true then A H3 else B H3) := by
  show if true = true then A H else B H
  rw [if_pos rfl]
  exact h

/-- the tests of a comprehension: none, or one -/
inductive PIfs (X : Cx) : List Expr → TT → Prop where
  | nil : PIfs X [] tAll
  | one {c : Expr} {t : TT} (h : PT X c t) : PIfs X [c] t

section
variable {X : Cx} {pins : List (Addr × Obj)} {σ : L2.St} {H : Hp} {s : Shared}

theorem ifs_ok {A : Around} {X : Cx} {ifs : List Expr} {tt : TT} (h : PIfs X ifs tt) {pins : List (Addr × Obj)} {σ : L2.St} {H : Hp} {s : Shared} {Q : Bool → Hp → Prop} (I : Inv X pins σ H s) (q : tt σ H Q) :
    wpAny (model X.prog X.w) X.A (forIn ifs true fun c r => if r = true then do let ok ← isTrue c X.env (eval c X.env); pure (ForInStep.yield ok) else pure (ForInStep.yield r)) (TP X pins σ Q) X.xe s := by
  cases h with
  | nil => exact wpAny_tests_nil ⟨H, I, q⟩
  | one h => exact wpAny_tests_one (h pins s σ H Q I q)

theorem comp_run {elt iter : Expr} {ifs : List Expr} {x : Str} {px pos p2 : Pos} {scope : Scope} {cl : List (Str × Addr)} {caps : List Str} {wi : TI} {tt : TT} {te : TE} {Q : VK} {use : Option (Value → Sem Unit)} {R : Value → Shared → Prop}
    (hc : X.calm = true) (ok : CompOk X scope cl x caps) (hx : scope.names.lookup x = some .local) (hi : PI X (.Name x px) iter wi)
    (he : ∀ (pins : List (Addr × Obj)) (s : Shared) (H : Hp) (C : Addr) (fp : List Addr), PIfs (compCx X pins s H scope cl C fp (x :: caps)) ifs tt ∧ PE (compCx X pins s H scope cl C fp (x :: caps)) elt te)
    (hfold : ∀ v, foldedSetIterable iter X.env v = pure v) (I : Inv X pins σ H s) (h : tComp X caps wi tt te σ H Q)
    (fin : ∀ (p : Addr) (C : Addr) (H' : Hp) (s' : Shared) (r : Result), (∃ f, r = .ok f) → Inv X pins σ H' s' → Q (.ref p) H' → (∃ m, s'.heap.Ns C m) → C ≠ X.env.locals → (∀ y c, X.env.cells.lookup y = some c → c ≠ C) →
      (∀ (h' : Heap) (σ' : L2.St) (s'' : Shared), Inv X pins σ' H' s'' → Heap.SameBut C s''.heap h' → Inv X pins σ' H' { s'' with heap := h' }) →
      compPost (model X.prog X.w) X.A X.xe use R (.ref p) C r s') :
    wpAny (model X.prog X.w) X.A (comprehension (.ListComp elt [⟨.Name x px, iter, ifs, 0⟩] scope pos) scope X.env p2 (newList []) false (eval iter X.env) use) R X.xe s := by
  refine wpAny_comprehension_free (use := use) rfl hfold ok.clos ok.kind ok.names (thn (hi pins s σ H _ I h) fun v s1 h1 => thn h1 fun itv s2 h2 => ?_)
  obtain ⟨it, fp, tn, J, H2, e, I2, T, st2, f2, hq⟩ := h2
  subst e
  refine wpAny_newList ?_ (Nat.zero_le _)
  have hfr : H2 s2.heap.objs.size = none := I2.hok.fresh (Nat.le_refl _)
  have I3 : Inv X pins σ (upd H2 s2.heap.objs.size (.lst [])) { s2 with heap := s2.heap.push { cls := .type "list", data := .seq #[] } } := I2.laid (t' := s2.toks) (fun b u e => Heap.get?_push_of_some _ e) (Nat.le_refl _) ⟨Nat.zero_le _, [], 0, .nil, Heap.get?_push_size _ rfl⟩
  obtain ⟨σc, hσl, hσ, W, ⟨m0, w0⟩, turn⟩ := hq s2.heap.objs.size hfr
  have st3 : tn 0 (s2.heap.push { cls := .type "list", data := .seq #[] }) := T.keep 0 _ _ st2 fun b hb o e => Heap.get?_push_of_some _ e
  have fplt : ∀ b ∈ fp, b < s2.heap.objs.size := fun b hb => by
    obtain ⟨o, e, _⟩ := T.obj 0 _ st2 b hb
    exact Heap.lt_size e
  have f3 : ∀ b ∈ fp, FpOk X pins (upd H2 s2.heap.objs.size (.lst [])) b := fun b hb => ⟨by rw [upd_ne (Nat.ne_of_lt (fplt b hb))]; exact (f2 b hb).1, (f2 b hb).2⟩
  generalize hp : s2.heap.objs.size = p at *
  generalize hs3 : ({ s2 with heap := s2.heap.push { cls := .type "list", data := .seq #[] } } : Shared) = s3 at *
  have hh3 : s3.heap = s2.heap.push { cls := .type "list", data := .seq #[] } := by rw [← hs3]
  rw [← hh3] at st3
  have fplt3 : ∀ b ∈ fp, b < s3.heap.objs.size := fun b hb => by
    obtain ⟨o, e, _⟩ := T.obj 0 _ st3 b hb
    exact Heap.lt_size e
  generalize upd H2 p (.lst []) = H3 at *
  refine wpAny_newFunctionEnv ok.nocell (fun _ z => nomatch z) (fun h4 hns hsb => ?_) ok.kind
  show codeAny (model X.prog X.w) X.A (.compStart _ 0 (.ref it) (.ref p) (compEnvC scope cl s3.heap.objs.size X.env)) _ _
  have hk4 : ∀ b o, s3.heap.get? b = some o → h4.get? b = some o := fun b o e => hsb.extBut b o (Nat.ne_of_lt (Heap.lt_size e)) (Heap.get?_push_of_some _ e)
  -- the block's own context
  let Y : Cx := compCx X pins s3 H3 scope cl s3.heap.objs.size fp (x :: caps)
  have stkS : ∀ b, b ∈ frs X.stack → b = X.env.locals ∨ b ∈ X.fs := fun b hb => List.mem_cons.mp (I3.stkSub b hb)
  have I4 : Inv Y [] (none :: σc) H3 { s3 with heap := h4, toks := s3.toks + 0 } := by
    refine ⟨⟨I3.ok.mod, ok.kind, I3.ok.glob, I3.ok.blt, Nat.le_refl _, fun y z c h1 h2 => I3.ok.inj y z c (ok.cell y c h1) (ok.cell z c h2), fun y hy => ok.has y hy, fun y c z h => (nomatch z), fun z => I3.ok.hd z, I3.ok.frames, .inl rfl,
        fun b hb => ⟨Nat.ne_of_lt (fplt3 b hb), fun y c e => (f3 b hb).2.2.2.2.1 y c (ok.cell y c e)⟩, I3.bs, Nat.le_trans I3.ok.bsz I3.sz, fun b o e hb => ?_, fun b hb hb2 => ?_, I3.stack, I3.stkFree⟩,
      rfl, I3.bare, Un.kept hk4, ⟨_, hns, fun j y v h1 h2 h3 => ?_⟩, fun y c h => ?_, I3.hok.fresh (Nat.le_refl _), fun y c h => I3.freeC y c (ok.cell y c h), fun q hq => ?_, I3.hok.kept hk4, ?_⟩
    · obtain ⟨_, _, _, f, _⟩ := f3 b hb
      rcases f with f | f
      · exact I3.ok.noex b o e f
      · exact absurd (Nat.lt_of_lt_of_le (Heap.lt_size e) (Nat.le_trans I3.ok.bsz f)) (Nat.lt_irrefl _)
    · obtain ⟨_, f1, f2', _⟩ := f3 b hb
      exact (stkS b hb2).elim f1 f2'
    · match j, h1, h2 with
      | 0, h1, h2 => cases h2
      | j + 1, h1, h2 =>
        have h1' : caps[j]? = some y := h1
        have h2' : σc[j]? = some (some v) := h2
        obtain ⟨i, g1, g2⟩ := hσ j y v h1' h2'
        have hm : y ∈ caps := List.mem_of_getElem? h1'
        obtain ⟨k1, k2⟩ := ok.capK y hm
        obtain ⟨m, hn, hl⟩ := I3.loc
        obtain ⟨u, ru, lk⟩ := hl i y v g1 g2 (by
          rcases k1 with k | k
          · exact .inr (.inl k)
          · exact .inr (.inr k))
        refine ⟨u, ru, ?_⟩
        rcases lk with ⟨hk, _⟩ | ⟨_, c, hcc, hcell⟩
        · rcases k1 with k | k
          · rw [k] at hk; cases hk
          · rw [k] at hk; cases hk
        · obtain ⟨c', hc'⟩ := ok.has y k2
          have e1 := ok.cell y c' hc'
          rw [hcc] at e1
          cases e1
          obtain ⟨o, ho, hd⟩ := hcell
          exact .inr ⟨k2, c, hc', o, hk4 _ _ ho, hd⟩
    · obtain ⟨v, o, ho, hd⟩ := I3.cell y c (ok.cell y c h)
      exact ⟨v, o, hk4 _ _ ho, hd⟩
    · have hq' : q ∈ X.pn ++ pins := by simpa [Y, compCx] using hq
      obtain ⟨a1, a2, a3, a4, a5⟩ := I3.pin q hq'
      exact ⟨hk4 _ _ a1, a2, Nat.ne_of_lt (Heap.lt_size a1), fun z => (stkS q.1 z).elim a3 a4, a5⟩
    · show (none :: σc).length = (x :: caps).length
      simp [hσl]
  have stat : ∀ {H' : Hp}, (∀ b ∈ fp, H' b = none) → ∀ b ∈ fp, FpOk Y [] H' b := fun {H'} hn b hb => by
    obtain ⟨_, f1, f2', f3', f4, f5⟩ := f3 b hb
    refine ⟨hn b hb, Nat.ne_of_lt (fplt3 b hb), fun z => (stkS b z).elim f1 f2', .inl hb, fun y c e => f4 y c (ok.cell y c e), fun q hq => ?_⟩
    exact f5 q (by simpa [Y, compCx] using hq)
  obtain ⟨hifs, helt⟩ := he pins s3 H3 s3.heap.objs.size fp
  have hxl : (relabel scope X.env).names.lookup x = some .local := lookup_relabel_local hx
  have ndY : Y.N.Nodup := ok.nd
  have noE : ∀ (e : Value) (s' : Shared), Y.xe e s' → (notedBy (model X.prog X.w) X.A Y.env fun e s' => compPost (model X.prog X.w) X.A X.xe use R (.ref p) s3.heap.objs.size (.error e) s') e s' := fun _ _ z => False.elim z
  have loop : codeAny (model X.prog X.w) X.A (.compLoop (.ListComp elt [⟨.Name x px, iter, ifs, 0⟩] scope pos) 0 (.ref it) (.ref p) (compEnvC scope cl s3.heap.objs.size X.env)) (compPost (model X.prog X.w) X.A X.xe use R (.ref p) s3.heap.objs.size) { s3 with heap := h4, toks := s3.toks + 0 } := by
    refine codeAny_compLoop_tests (fun n s' => ∃ i σ' H', Inv Y [] σ' H' s' ∧ tn i s'.heap ∧ (∀ b ∈ fp, H' b = none) ∧ W i n σ' H') ?_ m0 ⟨0, _, H3, I4, T.keep 0 _ _ st3 fun b hb o e => hk4 b o e, fun b hb => (f3 b hb).1, w0⟩ (fun _ => rfl)
    rintro n s5 ⟨i, σ5, H5, I5, st5, fr5, w5⟩
    rcases turn i n σ5 H5 w5 with ⟨stop, ⟨xs5, hp5⟩, q⟩ | ⟨go, step⟩
    · refine wpAny_mono (T.done Y rfl rfl rfl hc i [] s5 σ5 H5 (fun _ _ => False) I5 (stat fr5) st5 stop) (fun r s6 ⟨hr, I6⟩ => ?_) fun _ _ z => False.elim z
      subst hr
      have un6 : Un (frs X.stack) fp H3 H5 s3.heap s6.heap := I6.base
      have hchk : ∀ b ∈ fp, (b ∈ X.ex ∨ X.s₀.heap.objs.size ≤ b) ∧ b ≠ X.env.locals ∧ (∀ y c, X.env.cells.lookup y = some c → c ≠ b) ∧ ∀ q ∈ X.pn ++ pins, q.1 ≠ b := fun b hb => by
        obtain ⟨_, f1, f2', f3', f4, f5⟩ := f3 b hb
        exact ⟨f3', f1, f4, f5⟩
      have I7 : Inv X pins σ H5 s6 := I3.call' (s' := s6) (ch := fp) I6.os un6 I6.hok I6.bare hchk
      obtain ⟨mC, hnC, _⟩ := I6.loc
      have hCL : s3.heap.objs.size ≠ X.env.locals := Nat.ne_of_gt I3.lt
      have hCc : ∀ y c, X.env.cells.lookup y = some c → c ≠ s3.heap.objs.size := fun y c e => by
        obtain ⟨v, o, ho, _⟩ := I3.cell y c e
        exact Nat.ne_of_lt (Heap.lt_size ho)
      refine fin p s3.heap.objs.size H5 s6 _ ⟨_, rfl⟩ I7 q ⟨mC, hnC⟩ hCL hCc fun h' σ' s'' J7 hsame => ?_
      exact J7.turned (it := s3.heap.objs.size) (fun b o hb e => (hsame.2 b hb).trans e) I6.free hCL (.inr I3.sz) hCc fun q hq z => by
        obtain ⟨a1, _⟩ := I3.pin q hq
        exact absurd (Heap.lt_size a1) (by rw [z]; exact Nat.lt_irrefl _)
    · refine wpAny_mono (T.item Y rfl rfl rfl hc i [] s5 σ5 H5 (fun _ _ => False) I5 (stat fr5) st5 go) (fun r s6 ⟨u, hr, h6⟩ => ?_) fun _ _ z => False.elim z
      subst hr
      have pb : ((pure () : Sem Unit) >>= fun _ => assign (.Name x px) Y.env u) = assign (.Name x px) Y.env u := by first | rfl | exact pure_bind _ _
      show wpAny (model X.prog X.w) X.A (assign (.Name x px) Y.env u) _ _ s6
      rw [← pb]
      refine wpAny_bind (wpAny_mono (show wpAny (model X.prog X.w) X.A (pure () : Sem Unit) (fun _ s2 => ∃ x H', Inv Y [] σ5 H' s2 ∧ RelV x u ∧ J.yld i H5 x H' ∧ tn (i + 1) s2.heap ∧ ∀ b ∈ fp, H' b = none) (fun _ _ => False) s6 from h6) (fun _ s6 hx6 => ?_) fun _ _ z => False.elim z)
      obtain ⟨xv, H6, I6, r6, y6, st6, fr6⟩ := hx6
      have I6' := I6.pinned (stat fr6) (T.obj _ _ st6)
      refine wpAny_mono (wpAny_assign_Name (E := fun _ _ => False) (store_ok (X := Y) (Q := fun _ s7 => Inv Y ([] ++ pinsAt fp s6.heap) (σ5.set 0 (some xv)) H6 s7) I6' ndY (i := 0) rfl (.inl hxl) r6 (fun s7 I7 => I7) (.inr hxl))) (fun _ s7 I7 => ?_) fun _ _ z => False.elim z
      have again : ∀ {H8 : Hp} {s8 : Shared} {m' : Nat}, Inv Y ([] ++ pinsAt fp s6.heap) (σ5.set 0 (some xv)) H8 s8 → m' < n → W (i + 1) m' (σ5.set 0 (some xv)) H8 → ∃ m, m < n ∧ ∃ i σ' H', Inv Y [] σ' H' s8 ∧ tn i s8.heap ∧ (∀ b ∈ fp, H' b = none) ∧ W i m σ' H' := fun {H8 s8 m'} I8 hm w8 => by
        refine ⟨m', hm, i + 1, _, H8, I8.unpinned, T.keep _ _ _ st6 fun b hb o e => (I8.pin (b, o) (List.mem_append_right _ (List.mem_append_right _ (mem_pinsAt hb e)))).1, fun b hb => ?_, w8⟩
        obtain ⟨o, e, d⟩ := T.obj _ _ st6 b hb
        exact (I8.pin (b, o) (List.mem_append_right _ (List.mem_append_right _ (mem_pinsAt hb e)))).2.1
      refine wpAny_mono (ifs_ok (A := X.A) hifs I7 (step xv H6 y6)) (fun b s8 ⟨H8, I8, q8⟩ => ?_) fun _ _ z => False.elim z
      cases b with
      | false =>
        rw [if_neg Bool.false_ne_true] at q8 ⊢
        obtain ⟨m', hm, w8⟩ := q8
        exact again I8 hm w8
      | true =>
        rw [if_pos rfl] at q8 ⊢
        refine wpAny_mono (helt _ s8 _ H8 _ I8 q8) (fun yv s9 ⟨y, H9, I9, r9, xs, e9, z9, m', hm, w9⟩ => ?_) fun _ _ z => False.elim z
        refine wpAny_mono (mt_append (X := Y) _ s9 _ H9 (.ref p) [y] (.ref p) [yv] (fun _ H10 => ∃ m', m' < n ∧ W (i + 1) m' (σ5.set 0 (some xv)) H10) I9 rfl (.cons r9 .nil) ⟨p, xs, y, rfl, rfl, e9, z9, m', hm, w9⟩) (fun _ s10 ⟨_, H10, I10, _, m', hm, w10⟩ => ?_) fun _ _ z => False.elim z
        exact again I10 hm w10
  refine codeAny_compStart_list loop (wpAny_mono (T.self X.A 0 _ (fun it' s' => it' = .ref it ∧ s' = { s3 with heap := h4, toks := s3.toks + 0 }) (fun _ _ => False) (T.keep 0 _ _ st3 fun b hb o e => hk4 b o e) ⟨rfl, rfl⟩) (fun it' s' ⟨e1, e2⟩ => ?_) fun _ _ z => False.elim z)
  rw [e1, e2]
  exact loop

theorem pe_comp {elt iter : Expr} {ifs : List Expr} {x : Str} {px pos : Pos} {scope : Scope} {cl : List (Str × Addr)} {caps : List Str} {wi : TI} {tt : TT} {te : TE}
    (hc : X.calm = true) (ok : CompOk X scope cl x caps) (hx : scope.names.lookup x = some .local) (hi : PI X (.Name x px) iter wi)
    (he : ∀ (pins : List (Addr × Obj)) (s : Shared) (H : Hp) (C : Addr) (fp : List Addr), PIfs (compCx X pins s H scope cl C fp (x :: caps)) ifs tt ∧ PE (compCx X pins s H scope cl C fp (x :: caps)) elt te)
    (hfold : ∀ v, foldedSetIterable iter X.env v = pure v := by intro _; rfl) : PE X (.ListComp elt [⟨.Name x px, iter, ifs, 0⟩] scope pos) (tComp X caps wi tt te) := by
  intro pins s σ H Q I h
  rw [eval_ListComp]
  refine comp_run (use := none) hc ok hx hi he hfold I h fun p C H' s' r hr J q hn _ _ st => ?_
  obtain ⟨f, rfl⟩ := hr
  obtain ⟨m, hm⟩ := hn
  exact ⟨m, hm, fun h' hs => ⟨.ref p, H', st h' σ s' J hs, rfl, q⟩⟩

/-- name = [..]: the store comes ahead of the block's end -/
theorem ps_setComp {i : Nat} {y : Str} {elt iter : Expr} {ifs : List Expr} {x : Str} {px py pos spos : Pos} {scope : Scope} {cl : List (Str × Addr)} {caps : List Str} {wi : TI} {tt : TT} {te : TE}
    (hN : X.N.Nodup) (hiN : X.N[i]? = some y) (hy : X.env.scope.names.lookup y = some .local) (hc : X.calm = true) (ok : CompOk X scope cl x caps) (hx : scope.names.lookup x = some .local) (hi : PI X (.Name x px) iter wi)
    (he : ∀ (pins : List (Addr × Obj)) (s : Shared) (H : Hp) (C : Addr) (fp : List Addr), PIfs (compCx X pins s H scope cl C fp (x :: caps)) ifs tt ∧ PE (compCx X pins s H scope cl C fp (x :: caps)) elt te)
    (hsw : swapsWith (.ListComp elt [⟨.Name x px, iter, ifs, 0⟩] scope pos) (some (.Name y py)) spos.line X.env = pure true := by rfl)
    (hfold : ∀ v, foldedSetIterable iter X.env v = pure v := by intro _; rfl) :
    PS X (.Assign [.Name y py] (.ListComp elt [⟨.Name x px, iter, ifs, 0⟩] scope pos) spos) (tAsg (tComp X caps wi tt te) (gName i)) := by
  intro pins s σ H D I h
  rw [exec_Assign_Name_used _ _ _ _ hsw]
  refine wpAny_bind (wpAny_standAt (wpAny_bind ?_))
  show wpAny _ X.A (do let _ ← comprehension (.ListComp elt [⟨.Name x px, iter, ifs, 0⟩] scope pos) scope X.env _ (newList []) false (eval iter X.env) (some (assign (.Name y py) X.env))) _ _ s
  refine wpAny_bind (wpAny_mono (comp_run (use := some (assign (.Name y py) X.env)) (R := fun _ s' => SP X pins D .next s') (Q := fun v H' => D.nx (σ.set i (some v)) H') hc ok hx hi he hfold I h fun p C H' s' r hr J q hn hCL hCc st => ?_) (fun _ s' hq => wpAny_pure (wpAny_pure hq)) fun _ _ z => z)
  obtain ⟨f, rfl⟩ := hr
  obtain ⟨m, hm⟩ := hn
  refine wpAny_assign_Name (store_ok2 J hN hiN (.inl hy) (v := .ref p) rfl (fun s'' J2 ⟨a, hsb, ha⟩ => ?_) (.inr hy))
  have haC : C ≠ a := by
    rcases ha with e | e
    · rw [e]; exact hCL
    · exact (hCc _ _ e).symm
  exact ⟨m, hm.sameBut hsb haC, fun h' hs => ⟨_, H', st h' _ s'' J2 hs, q⟩⟩
end
end Ml

namespace Ml
open PySem PySem.Spec PyProof.Rows L2
theorem small {n : Nat} (h : n ≤ 1000) : n ≤ sizeLine := Nat.le_of_lt (small1000 h)
theorem kit_ii (K : PySem.W.Frag) : PySem.W.kitOne K (.type "int") (.type "int") = some true := rfl
theorem kit_ib (K : PySem.W.Frag) : PySem.W.kitOne K (.type "int") (.type "bool") = some false := by kernel_rfl
theorem kit_tt (K : PySem.W.Frag) : PySem.W.kitOne K (.type "tuple") (.type "tuple") = some true := rfl
theorem kit_ll (K : PySem.W.Frag) : PySem.W.kitOne K (.type "list") (.type "list") = some true := rfl
structure Blt (mg : Str → Option Value) : Prop where
  len : mg "len" = none
  range : mg "range" = none
  isinst : mg "isinstance" = none
  int : mg "int" = none
  bool : mg "bool" = none
  tuple : mg "tuple" = none
  list : mg "list" = none
  sorted : mg "sorted" = none
theorem atI_int {ns : List Int} {k : Int} (h0 : 0 ≤ k) (h : k < (ns.length : Int)) : atI (ns.map V.int) k = some (.int (ns.getD k.toNat 0)) := by
  have hk : k.toNat < ns.length := by omega
  have ek : k = ((k.toNat : Nat) : Int) := by omega
  have q : atI (ns.map V.int) ((k.toNat : Nat) : Int) = some (.int ns[k.toNat]) := atI_nat (by rw [List.getElem?_map, List.getElem?_eq_getElem hk] <;> rfl)
  rw [← ek] at q
  rw [q]
  simp [hk]
/-- cables between masts -/
def Good (cnt : Int) (cs : List Cable) : Prop := ∀ c ∈ cs, 0 ≤ c.1 ∧ c.1 < cnt ∧ 0 ≤ c.2.1 ∧ c.2.1 < cnt ∧ 0 ≤ c.2.2
theorem getD_mem4 {xs : List Int} {k : Int} (h0 : 0 ≤ k) (h : k < (xs.length : Int)) : xs.getD k.toNat 0 ∈ xs := by
  have hk : k.toNat < xs.length := by omega
  rw [List.getD_eq_getElem?_getD, List.getElem?_eq_getElem hk]
  exact List.getElem_mem hk
/-- a def of the text that is called: its promise, its binding, its name -/
structure Dn (Pg : Program) (w : World) (K : PySem.W.Frag) (mg : Str → Option Value) (base : Heap) (k : Nat) (x : Str) (ps : List Str) (f : Addr) (fd : FuncData) (sp : Sp) : Prop where
  ok : FnOk Pg w K mg base CX0 k f fd ps sp
  m : mg x = some (.ref f)
  kp : PySem.W.keepIn K (.ref f) = true
  b : Binds K fd ps []
theorem sIx_big {n : Nat} (h : n ≤ 1000) : HT.sIx n n (some 1000) = n := by
  have := HT.sIx_nat n n 1000
  rw [show ((1000 : Nat) : Int) = 1000 from rfl] at this
  rw [this]; omega
theorem cut_all {xs : List V} (h : xs.length ≤ 1000) : cutV xs none (some 1000) = xs := by
  unfold cutV
  rw [sIx_big h, HT.sIx_none]
  simp
theorem cut_drop {xs : List V} (k : Nat) : cutV xs (some (k : Int)) none = xs.drop (min k xs.length) := by
  unfold cutV
  rw [HT.sIx_nat, HT.sIx_none]
  rw [List.take_of_length_le]
  rw [List.length_drop]
  omega
theorem cut_map {ns : List Int} (k : Nat) : cutV (ns.map V.int) (some (k : Int)) none = (ns.drop (min k ns.length)).map V.int := by
  rw [cut_drop, List.length_map, List.map_drop]
theorem hop7 {k : Int} (h0 : 0 ≤ k) (h : k < 7) : ∃ z : Int, atI [V.int 1, V.int 2, V.int 3, V.int 4, V.int 5, V.int 6, V.int 97] k = some (.int z) ∧ 1 ≤ z ∧ z ≤ 97 := by
  have e : atI ([1, 2, 3, 4, 5, 6, 97].map V.int) k = _ := atI_int (ns := [1, 2, 3, 4, 5, 6, 97]) h0 (by simpa using h)
  refine ⟨_, e, ?_⟩
  have hm := getD_mem4 (xs := [1, 2, 3, 4, 5, 6, 97]) h0 (by simpa using h)
  generalize ([1, 2, 3, 4, 5, 6, 97] : List Int).getD k.toNat 0 = z at hm
  simp only [List.mem_cons, List.mem_nil_iff, or_false] at hm
  omega
theorem Tab.same {pos : Pos} {P : Addr} {H H' : Hp} (t : Tab pos P H) (s : Same H H') : Tab pos P H' := by
  rcases t with e | ⟨c, e, f⟩
  · exact .inl (s _ _ e)
  · exact .inr ⟨c, s _ _ e, s _ _ f⟩
theorem same_new {H : Hp} {p : Addr} (h : H p = none) (o : HO) : Same H (upd H p o) := fun b u q => by rw [upd_ne (ne_of_none q h)]; exact q
end Ml

namespace Ml
open PySem PySem.Spec PyProof.Rows L2

/-- untracked records of ours have turned -/
theorem turnedL {X : Cx} {pins : List (Addr × Obj)} {σ : L2.St} {H : Hp} {s : Shared} {h' : Heap} {t' : Nat} {fp : List Addr} (I : Inv X pins σ H s) (k : ∀ b o, b ∉ fp → s.heap.get? b = some o → h'.get? b = some o)
    (th : ∀ b ∈ fp, ∃ o, h'.get? b = some o) (f : ∀ b ∈ fp, FpOk X pins H b) : Inv X pins σ H { s with heap := h', toks := t' } := by
  have nit : ∀ b u, H b = some u → b ∉ fp := fun b u e z => by rw [(f b z).1] at e; cases e
  refine I.step (g' := s.gens) (d' := s.drawn) (ch := fp) (fun b hb => ?_) (fun b o _ _ hc e _ => k b o hc e) (fun b o _ _ hc e _ => ⟨o.slots, k b o hc e⟩) (fun _ _ _ _ n => n)
    (fun b o hc e => ⟨o, k b o hc e⟩) (fun _ _ e => e) (fun _ _ _ e => e) (fun b ps e => ⟨#[], by rw [e]; simp⟩) (fun m hm => ?_) (fun b u e => ?_) I.bare
  · obtain ⟨_, f1, _, f3, f4, f5⟩ := f b hb
    exact ⟨f3, f1, f4, f5⟩
  · obtain ⟨o, es, ep, ho, r⟩ := hm
    exact ⟨o, es, ep, k _ o (fun z => (f _ z).2.1 rfl) ho, r⟩
  · refine (I.hok b u e).stay (fun c v hc q => k c v ?_ q) (fun _ q => q) fun _ _ q => q
    rcases hc with z | z
    · rw [z]; exact nit b u e
    · exact nit c _ z

/-! ### enumerate(xs) in a for -/
def Ite (K : PySem.W.Frag) (a : Addr) : It :=
  ⟨fun i H => ∃ xs x, SqL K H a xs ∧ xs[i]? = some x, fun i H x H' => ∃ (p : Addr) (v : V), H p = none ∧ x = .ref p ∧ H' = upd H p (.tup [.int (i : Int), v]) ∧ ∀ xs, SqL K H a xs → xs[i]? = some v, fun i H => ∃ xs, SqL K H a xs ∧ xs.length ≤ i⟩
theorem turn_enum {P : Program} {w : World} {K : PySem.W.Frag} {elts : List Expr} {k : Nat} {pos : Pos} (a e it : Addr) (hne : e ≠ it) : Turn P w K (.Tuple elts k pos) (Ite K a) [e, it] e (fun i h => (∃ old, IsEnum h e it (i : Nat) old) ∧ h.IsListIter it a i) where
  mem := by simp
  obj := fun i h st b hb => by
    obtain ⟨⟨old, h1⟩, o, h2, hc, hd⟩ := st
    rcases List.mem_cons.mp hb with z | hb
    · rw [z]
      exact ⟨_, h1, fun v z => by
        have z' : Data.fields _ = Data.cell v := z
        cases z'⟩
    · rw [List.mem_singleton.mp hb]
      exact ⟨o, h2, fun v z => by rw [hd] at z; cases z⟩
  keep := fun i h h' st k => by
    obtain ⟨⟨old, h1⟩, h2⟩ := st
    exact ⟨⟨old, k e (by simp) _ h1⟩, h2.at fun o q => k it (by simp) o q⟩
  item := by
    intro X hP hw hK hc i pins s σ H E I hf st hg
    subst hP hw hK
    obtain ⟨xs, x, hq, hx⟩ := hg
    obtain ⟨its, rv, p, hz⟩ := I.list hq
    obtain ⟨u, hu, ru⟩ := rv.get hx
    obtain ⟨⟨old, he⟩, hit⟩ := st
    refine wpAny_pyNext_enum_item he hit p.isList (x := u) (by simpa using hu) hne fun h1 heo hit1 ht1 hs1 hk1 => ⟨_, rfl, ?_⟩
    refine wpAny_letOwnedTupleGo_enum heo fun h2 he2 hs2 => ?_
    have hel : e < s.heap.objs.size := Heap.lt_size he
    obtain ⟨oi, hoi, _⟩ := id hit
    have hil : it < s.heap.objs.size := Heap.lt_size hoi
    have hk2 : ∀ b o, b ∉ [e, it] → s.heap.get? b = some o → h2.get? b = some o := fun b o hb e' => by
      have b1 : b ≠ e := fun z => hb (by simp [z])
      have b2 : b ≠ it := fun z => hb (by simp [z])
      exact (hs2.2 b b1).trans (hk1 b o b1 b2 e')
    have hit2 : h2.IsListIter it a (i + 1) := by
      obtain ⟨o, ho, r⟩ := hit1
      exact ⟨o, (hs2.2 it (Ne.symm hne)).trans ho, r⟩
    have th : ∀ b ∈ [e, it], ∃ o, h2.get? b = some o := fun b hb => by
      rcases List.mem_cons.mp hb with z | hb
      · rw [z]; exact ⟨_, he2⟩
      · rw [List.mem_singleton.mp hb]
        obtain ⟨o, ho, _⟩ := hit2
        exact ⟨o, ho⟩
    have I2 : Inv X pins σ H { s with heap := h2, toks := s.toks + 1 } := turnedL I hk2 th hf
    have nfp : s.heap.objs.size ∉ [e, it] := fun z => by
      rcases List.mem_cons.mp z with z | z
      · exact absurd hel (by rw [← z]; exact Nat.lt_irrefl _)
      · exact absurd hil (by rw [← List.mem_singleton.mp z]; exact Nat.lt_irrefl _)
    have hn : H s.heap.objs.size = none := I.hok.fresh (Nat.le_refl _)
    have fD : FpOk X pins H s.heap.objs.size := I.fpOk (Nat.le_refl _) hn
    have ht2 : h2.get? s.heap.objs.size = some { cls := .type "tuple", data := .seq #[.int i s.toks, u] } := (hs2.2 _ (Nat.ne_of_gt hel)).trans ht1
    have I3 := track (d := s.heap.objs.size) (o := .tup [.int (i : Int), x]) I2 fD I.sz ⟨by show 2 ≤ sizeLine; decide, [.int i s.toks, u], .cons ⟨_, rfl⟩ (.cons ru .nil), _, ht2, rfl, _, rfl⟩
    refine ⟨.ref s.heap.objs.size, _, I3, rfl, ⟨s.heap.objs.size, x, hn, rfl, rfl, fun ys hy => by rw [I.list_inj hy hq]; exact hx⟩, ⟨⟨u, ?_⟩, hit2⟩, fun b hb => ?_⟩
    · have z : (((i + 1 : Nat)) : Int) = (i : Int) + 1 := by omega
      rw [z]; exact he2
    · rw [upd_ne (fun z => nfp (by rw [← z]; exact hb))]
      exact (hf b hb).1
  done := by
    intro X hP hw hK hc i pins s σ H E I hf st hg
    subst hP hw hK
    obtain ⟨xs, hq, hx⟩ := hg
    obtain ⟨its, rv, p, hz⟩ := I.list hq
    obtain ⟨⟨old, he⟩, hit⟩ := st
    obtain ⟨f0, f1, f2, f3, f4, f5⟩ := hf it (by simp)
    have hl := rv.length
    exact wpAny_pyNext_enum_end (I.ok.hd hc) he hit p.isList (by simp; omega) fun h' eb => ⟨rfl, I.turned (t' := s.toks) (fun b o hb e => eb b o hb e) f0 f1 f3 f4 f5⟩
  self := fun _ _ _ _ _ st h => by
    obtain ⟨⟨old, he⟩, _⟩ := st
    exact wpAny_pyIter_enum he h
def iEnum (K : PySem.W.Frag) (ta : TA) : TI := fun σ H R => ta σ H fun vs H1 => ∃ a, vs = [.ref a] ∧ (∃ xs, SqL K H1 a xs) ∧ R (Ite K a) H1
theorem pi_enum {X : Cx} {elts : List Expr} {k : Nat} {tpos : Pos} {a : Expr} {ta : TA} {p pos : Pos} (hg : Gl X "enumerate") (hm : X.mg "enumerate" = none) (ha : PA X [a] ta) (hs : starEach [a] X.env = [(false, eval a X.env)] := by rfl) :
    PI X (.Tuple elts k tpos) (.Call (.Name "enumerate" p) [a] [] pos) (iEnum X.K ta) := by
  intro pins s σ H R I h
  refine Call_ (ld_blt I hg hm boot_enumerate (PyProof.Rows.callWith_type1 (thn (ha pos pins s σ H _ I h) fun us s1 ⟨vs, H1, I1, r1, q1⟩ => ?_) hs rfl))
  obtain ⟨a, e, ⟨xs, hq⟩, q⟩ := q1
  subst e
  obtain ⟨u, rfl, r2⟩ := vals1 r1
  cases r2
  obtain ⟨its, rv, pl, hz⟩ := I1.list hq
  refine call_enumerate_list pl.isList fun h' he hit hsz hk => ?_
  refine wpAny_pyIter_enum he ?_
  have I2 : Inv X pins σ H1 { s1 with heap := h' } := I1.kept (t' := s1.toks) hk
  refine ⟨_, [_, _], _, _, H1, rfl, I2, turn_enum a _ _ (Nat.succ_ne_self _), ⟨⟨_, he⟩, hit⟩, fun b hb => ?_, q⟩
  rcases List.mem_cons.mp hb with z | hb
  · rw [z]
    exact I1.fpOk (Nat.le_succ _) (I1.hok.fresh (Nat.le_succ _))
  · rw [List.mem_singleton.mp hb]
    exact I1.fpOk (Nat.le_refl _) (I1.hok.fresh (Nat.le_refl _))
/-- over a list that the body leaves as it is: each turn makes a pair -/
theorem for_enum {K : PySem.W.Frag} {a : Addr} {xs : List V} {g : TG} {tb : TS} {D : Ends} {σ : L2.St} {H : Hp} (Pv : Nat → L2.St → Hp → Prop) (h0 : Pv 0 σ H) (hl : ∀ i σ H, i ≤ xs.length → Pv i σ H → SqL K H a xs)
    (hs : ∀ i x σ H p, xs[i]? = some x → Pv i σ H → H p = none → g (.ref p) σ (upd H p (.tup [.int (i : Int), x])) fun σ2 H2 => tb { D with nx := Pv (i + 1), ct := Pv (i + 1), bk := D.nx } σ2 H2) (hd : ∀ σ H, Pv xs.length σ H → D.nx σ H) :
    ∃ W : Nat → Nat → L2.St → Hp → Prop, (∃ m, W 0 m σ H) ∧ ∀ i m σ H, W i m σ H →
      ((Ite K a).stop i H ∧ D.nx σ H) ∨ ((Ite K a).go i H ∧ ∃ N : L2.St → Hp → Prop, (∀ σ' H', N σ' H' → ∃ m', m' < m ∧ W (i + 1) m' σ' H') ∧ ∀ x H', (Ite K a).yld i H x H' → g x σ H' fun σ2 H2 => tb { D with nx := N, ct := N, bk := D.nx } σ2 H2) := by
  refine ⟨fun i m σ H => m = xs.length - i ∧ i ≤ xs.length ∧ Pv i σ H, ⟨xs.length, by simp, Nat.zero_le _, h0⟩, ?_⟩
  rintro i m σ H ⟨rfl, hi, p⟩
  have q := hl i σ H hi p
  by_cases hlt : i < xs.length
  · refine .inr ⟨⟨xs, xs[i], q, by simp [hlt]⟩, Pv (i + 1), fun σ' H' p' => ⟨xs.length - (i + 1), by omega, rfl, hlt, p'⟩, fun x H' y => ?_⟩
    obtain ⟨pp, v, hn, e1, e2, y⟩ := y
    subst e1 e2
    exact hs i v σ _ pp (y xs q) p hn
  · have e : i = xs.length := by omega
    subst e
    exact .inl ⟨⟨xs, q, Nat.le_refl _⟩, hd σ H p⟩

/-! ### sorted of a list of ints; list(range(n)); sum of a list of ints -/
section
variable {X : Cx}
def rSorted (K : PySem.W.Frag) : List V → Hp → VK → Prop := fun xs H Q => ∃ (a : Addr) (ns : List Int), xs = [.ref a] ∧ SqL K H a (ns.map V.int) ∧ ns.length < 64 ∧
  ∀ (p : Addr) (ms : List Int), ms.Perm ns → ms.Pairwise (· ≤ ·) → H p = none → Q (.ref p) (upd H p (.lst (ms.map V.int)))
theorem call_sortedI : CallR X (.builtin "sorted") (rSorted X.K) := by
  intro pins s σ H xs us Q I r h
  obtain ⟨a, ns, rfl, hq, h64, q⟩ := h
  obtain ⟨u, rfl, r1⟩ := vals1 r
  cases r1
  obtain ⟨its, rv, pl, hz⟩ := I.list hq
  have hi := intsAre_of rv
  have hil := hi.length
  refine sorted_ints pl.isList hi (by omega) fun out ms o1 o2 o3 => ?_
  have hk : ∀ b o, s.heap.get? b = some o → (sortedAll s.heap its out).get? b = some o := fun b o e => sortedAll_old e
  obtain ⟨e, he⟩ := sortedAll_at s.heap its out
  have I1 : L2.Inv X pins σ H { s with heap := sortedAll s.heap its out } := I.kept (t' := s.toks) hk
  have hn : H (s.heap.objs.size + 1) = none := I.hok.fresh (Nat.le_succ _)
  refine ⟨.ref (s.heap.objs.size + 1), _, track (d := s.heap.objs.size + 1) (o := .lst (ms.map V.int)) I1 (I.fpOk (Nat.le_succ _) hn) (Nat.le_trans I.sz (Nat.le_succ _)) ⟨?_, out.toList, e, vals_ints o1, by simpa using he⟩, rfl, q _ ms o2 o3 hn⟩
  rw [List.length_map, o2.length_eq, sizeLine_eq]; omega
end
end Ml

namespace Ml
open PySem PySem.Spec PyProof.Rows L2
section
variable {X : Cx}
/-! ### list(range(n)); sum of a list of ints -/
abbrev natVs (ns : List Nat) : List V := ns.map fun (i : Nat) => V.int i
def rListRng : List V → Hp → VK → Prop := fun xs H Q => ∃ (r : Addr) (n : Nat), xs = [.ref r] ∧ H r = some (.rng 0 (n : Int)) ∧ n ≤ 1000 ∧ ∀ l, H l = none → Q (.ref l) (upd H l (.lst (natVs (List.range n))))
theorem call_listRng (hc : X.calm = true) : CallR X (.type "list") rListRng := by
  intro pins s σ H xs us Q I r h
  obtain ⟨a, n, rfl, hr, hn, q⟩ := h
  obtain ⟨u, rfl, r1⟩ := vals1 r
  cases r1
  obtain ⟨t0, u0, v0, hro⟩ := I.hok a _ hr
  have hsz : Builtin.Range.rangeSize 0 (n : Int) 1 = (n : Nat) := by rw [rangeSize_one]; split <;> omega
  refine call_list_range (I.ok.hd hc) hro (small_one (by omega) (by omega) (by omega) (by omega)) hsz (by omega) fun h' tk acc' c' hk hS' hacc => ?_
  have I1 : L2.Inv X pins σ H { s with heap := h', toks := tk } := I.kept hk
  have hf : H s.heap.objs.size = none := I.hok.fresh (Nat.le_refl _)
  have vals : Vals (natVs (List.range n)) acc'.toList := by
    have all : ∀ (us : List Value) (k : Nat), (∀ (j : Nat) v, us[j]? = some v → ∃ t, v = Value.int ((k + j : Nat) : Int) t) → Vals (natVs (List.range' k us.length)) us := by
      intro us
      induction us with
      | nil => intro k _; exact .nil
      | cons v us ih =>
        intro k hv
        rw [List.length_cons, List.range'_succ]
        refine .cons ?_ (ih (k + 1) fun j v hj => ?_)
        · obtain ⟨t, e⟩ := hv 0 v rfl
          exact ⟨t, by rw [e]; rfl⟩
        · obtain ⟨t, e⟩ := hv (j + 1) v (by simpa using hj)
          exact ⟨t, by rw [e]; congr 1; omega⟩
    have z := all acc'.toList 0 fun j v hj => by
      have hj' : acc'[j]? = some v := by simpa using hj
      obtain ⟨t, e⟩ := hacc.2 j v hj'
      exact ⟨t, by rw [e]; congr 1; omega⟩
    rw [Array.length_toList, hacc.1] at z
    rw [List.range_eq_range']
    exact z
  refine ⟨.ref s.heap.objs.size, _, track (d := s.heap.objs.size) (o := .lst (natVs (List.range n))) I1 (I.fpOk (Nat.le_refl _) hf) I.sz ⟨?_, acc'.toList, c', vals, by simpa using hS'⟩, rfl, q _ hf⟩
  rw [List.length_map, List.length_range, sizeLine_eq]; omega
def rSum (K : PySem.W.Frag) : List V → Hp → VK → Prop := fun xs H Q => ∃ (a : Addr) (ns : List Int), xs = [.ref a] ∧ SqL K H a (ns.map V.int) ∧ Q (.int ns.sum) H
theorem call_sumI (hc : X.calm = true) : CallR X (.builtin "sum") (rSum X.K) := by
  intro pins s σ H xs us Q I r h
  obtain ⟨a, ns, rfl, hq, q⟩ := h
  obtain ⟨u, rfl, r1⟩ := vals1 r
  cases r1
  obtain ⟨its, rv, pl, hz⟩ := I.list hq
  have hi := intsAre_of rv
  have hall : AllInts its.toArray := hi.allInts
  obtain ⟨xs, hxs⟩ := hall.items
  have hl : s.heap.IsList a (intItems xs) := by rw [← hxs]; exact pl.isList
  refine sum_intListG (I.ok.hd hc) hl fun h' tk t' hk => ?_
  refine ⟨.int ns.sum, H, I.kept hk, ⟨t', ?_⟩, q⟩
  have e1 : numsOf its.toArray.toList = ns := by rw [show its.toArray.toList = its from rfl]; exact hi.numsOf
  rw [hxs, nums_intItems] at e1
  rw [preSum_eq, List.take_of_length_le (by simp), e1]
end
end Ml

namespace Ml
open PySem PySem.Spec PyProof.Rows L2
/-! ### laying, over plain lists -/
abbrev KSt := List Int × List Nat
def joinL (kept gone : Int) (gs : List Int) : List Int := gs.map fun g => if g = gone then kept else g
def lab (gs : List Int) (m : Int) : Int := gs.getD m.toNat 0
def stepK (cs : List Cable) (st : KSt) (i : Nat) : KSt := match cs[i]? with
  | none => st
  | some c => if lab st.1 c.1 = lab st.1 c.2.1 then st else (joinL (lab st.1 c.1) (lab st.1 c.2.1) st.1, st.2 ++ [i])
def natIs (ns : List Nat) : List Int := ns.map fun (i : Nat) => (i : Int)
def initK (n : Nat) : KSt := (natIs (List.range n), [])
def runK (cs : List Cable) (n : Nat) (t : List Nat) : KSt := t.foldl (stepK cs) (initK n)
theorem natVs_eq (ns : List Nat) : natVs ns = (natIs ns).map V.int := by simp [natVs, natIs]
theorem joinL_length (k g : Int) (gs : List Int) : (joinL k g gs).length = gs.length := List.length_map _
theorem stepK_length (cs : List Cable) (st : KSt) (i : Nat) : (stepK cs st i).1.length = st.1.length := by
  unfold stepK
  split
  · rfl
  · split
    · rfl
    · exact joinL_length _ _ _
theorem foldK_length (cs : List Cable) : ∀ (t : List Nat) (st : KSt), (t.foldl (stepK cs) st).1.length = st.1.length
  | [], _ => rfl
  | i :: t, st => (foldK_length cs t _).trans (stepK_length cs st i)
theorem runK_length (cs : List Cable) (n : Nat) (t : List Nat) : (runK cs n t).1.length = n := by
  unfold runK; rw [foldK_length]; simp [initK, natIs]
theorem stepK_places (cs : List Cable) (st : KSt) (i : Nat) : (stepK cs st i).2.length ≤ st.2.length + 1 := by
  unfold stepK
  split
  · exact Nat.le_succ _
  · split
    · exact Nat.le_succ _
    · simp
theorem foldK_places (cs : List Cable) : ∀ (t : List Nat) (st : KSt), (t.foldl (stepK cs) st).2.length ≤ st.2.length + t.length
  | [], _ => Nat.le_refl _
  | i :: t, st => by
    have h1 := foldK_places cs t (stepK cs st i)
    have h2 := stepK_places cs st i
    rw [List.foldl_cons, List.length_cons]
    omega
theorem runK_places (cs : List Cable) (n : Nat) (t : List Nat) : (runK cs n t).2.length ≤ t.length := by
  have := foldK_places cs t (initK n)
  unfold runK; simpa [initK] using this
theorem runK_take (cs : List Cable) (n : Nat) (t : List Nat) (i : Nat) (h : i < t.length) : runK cs n (t.take (i + 1)) = stepK cs (runK cs n (t.take i)) t[i] := by
  unfold runK
  rw [List.take_succ_eq_append_getElem h, List.foldl_append]
  rfl
theorem Ext.put {H H2 : Hp} {p : Addr} {o : HO} (x : Ext H H2) (h : H p = none) : Ext H (upd H2 p o) :=
  ⟨fun b u e n => by rw [upd_ne (ne_of_none e h)]; exact x.keep b u e n, fun b ps e => by
    obtain ⟨ps', e'⟩ := x.tbl b ps e
    exact ⟨ps', by rw [upd_ne (ne_of_none e h)]; exact e'⟩⟩
theorem Tab.put {pos : Pos} {P p : Addr} {H : Hp} {xs ys : List V} (t : Tab pos P H) (h : H p = some (.lst xs)) : Tab pos P (upd H p (.lst ys)) := by
  have n1 : P ≠ p := (t.ne h (by intro _ z; cases z)).symm
  rcases t with e | ⟨c, e, f⟩
  · exact .inl (by rw [upd_ne n1]; exact e)
  · exact .inr ⟨c, by rw [upd_ne n1]; exact e, by rw [upd_ne (ne_of f h (by intro z; cases z))]; exact f⟩
theorem Good.at {cnt : Int} {cs : List Cable} (g : Good cnt cs) {i : Nat} {c : Cable} (e : cs[i]? = some c) : 0 ≤ c.1 ∧ c.1 < cnt ∧ 0 ≤ c.2.1 ∧ c.2.1 < cnt ∧ 0 ≤ c.2.2 := g c (List.mem_of_getElem? e)
end Ml

namespace Ml
open PySem PySem.Spec PyProof.Rows L2
/-! ### comprehensions whose items leave the heap as it is -/
theorem comp_list {N : List Str} {caps : List Str} {K : PySem.W.Frag} {a p : Addr} {xs ys : List V} {te : TE} {σ : L2.St} (σc : L2.St) {H1 : Hp} {Q : Hp → Prop} (hp : H1 p = none) (ha : SqL K H1 a xs) (hl : ys.length = xs.length) (hz : xs.length ≤ 1000) (hσl : σc.length = caps.length)
    (hσ : ∀ (j : Nat) (y : Str) (v : V), caps[j]? = some y → σc[j]? = some (some v) → ∃ i : Nat, N[i]? = some y ∧ σ[i]? = some (some v))
    (hs : ∀ (i : Nat) (x y : V) (H' : Hp) (R : VK), xs[i]? = some x → ys[i]? = some y → Same H1 H' → R y H' → te (some x :: σc) H' R)
    (q : ∀ H', Same H1 H' → H' p = some (.lst ys) → Q H') :
    ∃ σc : L2.St, σc.length = caps.length ∧ (∀ (j : Nat) (y : Str) (v : V), caps[j]? = some y → σc[j]? = some (some v) → ∃ i : Nat, N[i]? = some y ∧ σ[i]? = some (some v)) ∧
      ∃ W : Nat → Nat → L2.St → Hp → Prop, (∃ m, W 0 m (none :: σc) (upd H1 p (.lst []))) ∧ ∀ i m σ' H', W i m σ' H' →
        ((Itl K a).stop i H' ∧ (∃ xs, H' p = some (.lst xs)) ∧ Q H') ∨ ((Itl K a).go i H' ∧ ∀ x H2, (Itl K a).yld i H' x H2 → tAll (σ'.set 0 (some x)) H2 fun b H3 =>
          if b = true then te (σ'.set 0 (some x)) H3 fun y H4 => ∃ xs, H4 p = some (.lst xs) ∧ xs.length < sizeLine ∧ ∃ m', m' < m ∧ W (i + 1) m' (σ'.set 0 (some x)) (upd H4 p (.lst (xs ++ [y])))
          else ∃ m', m' < m ∧ W (i + 1) m' (σ'.set 0 (some x)) H3) := by
  refine ⟨σc, hσl, hσ, fun i m σ' H' => m = xs.length - i ∧ i ≤ xs.length ∧ (∃ v0, σ' = v0 :: σc) ∧ Same H1 H' ∧ H' p = some (.lst (ys.take i)), ⟨xs.length, rfl, Nat.zero_le _, ⟨_, rfl⟩, fun b o e => by rw [upd_ne (ne_of_none e hp)]; exact e, upd_same⟩, ?_⟩
  rintro i m σ' H' ⟨rfl, hi, ⟨v0, rfl⟩, s2, e2⟩
  have ha2 := s2.seq ha
  by_cases hlt : i < xs.length
  · refine .inr ⟨⟨_, xs[i], ha2, by simp [hlt]⟩, fun x H2 y => ?_⟩
    obtain ⟨rfl, y⟩ := y
    have hx := y _ ha2
    refine tAll_if ?_
    have hiy : i < ys.length := by omega
    refine hs i x ys[i] H2 _ hx (by simp [hiy]) s2 ⟨_, e2, ?_, _, by omega, rfl, hlt, ⟨_, rfl⟩, fun b o e => ?_, ?_⟩
    · rw [List.length_take]; exact small1000 (by omega)
    · rw [upd_ne (ne_of_none e hp)]; exact s2 b o e
    · rw [upd_same, List.take_succ_eq_append_getElem hiy]
  · have e : i = xs.length := by omega
    subst e
    refine .inl ⟨⟨_, ha2, Nat.le_refl _⟩, ⟨_, e2⟩, q H' s2 ?_⟩
    rw [e2, ← hl, List.take_length]
theorem comp_range {N : List Str} {caps : List Str} {n : Nat} {p : Addr} {ys : List V} {te : TE} {σ : L2.St} (σc : L2.St) {H1 : Hp} {Q : Hp → Prop} (hp : H1 p = none) (hl : ys.length = n) (hz : n ≤ 1000) (hσl : σc.length = caps.length)
    (hσ : ∀ (j : Nat) (y : Str) (v : V), caps[j]? = some y → σc[j]? = some (some v) → ∃ i : Nat, N[i]? = some y ∧ σ[i]? = some (some v))
    (hs : ∀ (i : Nat) (y : V) (H' : Hp) (R : VK), i < n → ys[i]? = some y → Same H1 H' → R y H' → te (some (.int (0 + (i : Int))) :: σc) H' R)
    (q : ∀ H', Same H1 H' → H' p = some (.lst ys) → Q H') :
    ∃ σc : L2.St, σc.length = caps.length ∧ (∀ (j : Nat) (y : Str) (v : V), caps[j]? = some y → σc[j]? = some (some v) → ∃ i : Nat, N[i]? = some y ∧ σ[i]? = some (some v)) ∧
      ∃ W : Nat → Nat → L2.St → Hp → Prop, (∃ m, W 0 m (none :: σc) (upd H1 p (.lst []))) ∧ ∀ i m σ' H', W i m σ' H' →
        ((Itr 0 n).stop i H' ∧ (∃ xs, H' p = some (.lst xs)) ∧ Q H') ∨ ((Itr 0 n).go i H' ∧ ∀ x H2, (Itr 0 n).yld i H' x H2 → tAll (σ'.set 0 (some x)) H2 fun b H3 =>
          if b = true then te (σ'.set 0 (some x)) H3 fun y H4 => ∃ xs, H4 p = some (.lst xs) ∧ xs.length < sizeLine ∧ ∃ m', m' < m ∧ W (i + 1) m' (σ'.set 0 (some x)) (upd H4 p (.lst (xs ++ [y])))
          else ∃ m', m' < m ∧ W (i + 1) m' (σ'.set 0 (some x)) H3) := by
  refine ⟨σc, hσl, hσ, fun i m σ' H' => m = n - i ∧ i ≤ n ∧ (∃ v0, σ' = v0 :: σc) ∧ Same H1 H' ∧ H' p = some (.lst (ys.take i)), ⟨n, rfl, Nat.zero_le _, ⟨_, rfl⟩, fun b o e => by rw [upd_ne (ne_of_none e hp)]; exact e, upd_same⟩, ?_⟩
  rintro i m σ' H' ⟨rfl, hi, ⟨v0, rfl⟩, s2, e2⟩
  by_cases hlt : i < n
  · refine .inr ⟨hlt, fun x H2 y => ?_⟩
    obtain ⟨rfl, rfl⟩ := y
    refine tAll_if ?_
    have hiy : i < ys.length := by omega
    refine hs i ys[i] H2 _ hlt (by simp [hiy]) s2 ⟨_, e2, ?_, _, by omega, rfl, hlt, ⟨_, rfl⟩, fun b o e => ?_, ?_⟩
    · rw [List.length_take]; exact small1000 (by omega)
    · rw [upd_ne (ne_of_none e hp)]; exact s2 b o e
    · rw [upd_same, List.take_succ_eq_append_getElem hiy]
  · have e : i = n := by omega
    subst e
    refine .inl ⟨Nat.le_refl _, ⟨_, e2⟩, q H' s2 ?_⟩
    rw [e2, ← hl, List.take_length]
end Ml

namespace Ml
open PySem L2
/-! ### how many labels there are -/
def dl : List Int → List Int
  | [] => []
  | x :: xs => if x ∈ xs then dl xs else x :: dl xs
theorem mem_dl {x : Int} : ∀ {xs : List Int}, x ∈ dl xs ↔ x ∈ xs
  | [] => Iff.rfl
  | y :: ys => by
    unfold dl
    split
    · rename_i h
      rw [mem_dl, List.mem_cons]
      constructor
      · exact .inr
      · rintro (e | e)
        · rw [e]; exact h
        · exact e
    · rw [List.mem_cons, List.mem_cons, mem_dl]
theorem nd_dl : ∀ xs : List Int, (dl xs).Nodup
  | [] => List.nodup_nil
  | y :: ys => by
    unfold dl
    split
    · exact nd_dl ys
    · rename_i h
      exact List.nodup_cons.mpr ⟨fun z => h (mem_dl.mp z), nd_dl ys⟩
theorem len_le {α : Type} [BEq α] [LawfulBEq α] : ∀ {xs ys : List α}, xs.Nodup → (∀ x ∈ xs, x ∈ ys) → xs.length ≤ ys.length
  | [], _, _, _ => Nat.zero_le _
  | x :: xs, ys, nd, h => by
    have hx := h x List.mem_cons_self
    have l := len_le (xs := xs) (ys := ys.erase x) (List.nodup_cons.mp nd).2 fun y hy => by
      refine (List.mem_erase_of_ne ?_).mpr (h y (List.mem_cons_of_mem _ hy))
      intro e
      exact (List.nodup_cons.mp nd).1 (by rw [← e]; exact hy)
    rw [List.length_erase_of_mem hx] at l
    have : 0 < ys.length := List.length_pos_of_mem hx
    rw [List.length_cons]
    omega
def nl (gs : List Int) : Nat := (dl gs).length
theorem nl_nodup {gs : List Int} (h : gs.Nodup) : nl gs = gs.length := by
  refine Nat.le_antisymm (len_le (nd_dl gs) fun x hx => mem_dl.mp hx) (len_le h fun x hx => mem_dl.mpr hx)
theorem lab_get (gs : List Int) {m : Int} (h : m.toNat < gs.length) : gs[m.toNat]? = some (lab gs m) := by
  unfold lab
  rw [List.getD_eq_getElem?_getD, List.getElem?_eq_getElem h]; rfl
theorem lab_mem {gs : List Int} {m : Int} (h : m.toNat < gs.length) : lab gs m ∈ gs := List.mem_of_getElem? (lab_get gs h)
theorem mem_join {x k g : Int} {gs : List Int} (hk : k ∈ gs) (hne : k ≠ g) : x ∈ joinL k g gs ↔ x ∈ gs ∧ x ≠ g := by
  unfold joinL
  rw [List.mem_map]
  constructor
  · rintro ⟨y, hy, e⟩
    by_cases h : y = g
    · rw [if_pos h] at e
      rw [← e]; exact ⟨hk, hne⟩
    · rw [if_neg h] at e
      rw [← e]; exact ⟨hy, h⟩
  · rintro ⟨hx, hg⟩
    exact ⟨x, hx, by rw [if_neg hg]⟩
theorem nl_join {k g : Int} {gs : List Int} (hk : k ∈ gs) (hg : g ∈ gs) (hne : k ≠ g) : nl (joinL k g gs) + 1 = nl gs := by
  have nd : (g :: dl (joinL k g gs)).Nodup := List.nodup_cons.mpr ⟨fun z => ((mem_join hk hne).mp (mem_dl.mp z)).2 rfl, nd_dl _⟩
  have l1 : (g :: dl (joinL k g gs)).length ≤ (dl gs).length := len_le nd fun x hx => by
    rcases List.mem_cons.mp hx with e | hx
    · rw [e]; exact mem_dl.mpr hg
    · exact mem_dl.mpr ((mem_join hk hne).mp (mem_dl.mp hx)).1
  have l2 : (dl gs).length ≤ (g :: dl (joinL k g gs)).length := len_le (nd_dl gs) fun x hx => by
    by_cases e : x = g
    · rw [e]; exact List.mem_cons_self
    · exact List.mem_cons_of_mem _ (mem_dl.mpr ((mem_join hk hne).mpr ⟨mem_dl.mp hx, e⟩))
  rw [List.length_cons] at l1 l2
  exact Nat.le_antisymm l1 l2
/-- hs joins all that gs joins -/
def Coarse (gs hs : List Int) : Prop := gs.length = hs.length ∧ ∀ i j : Nat, i < gs.length → j < gs.length → gs[i]? = gs[j]? → hs[i]? = hs[j]?
theorem Coarse.refl (gs : List Int) : Coarse gs gs := ⟨rfl, fun _ _ _ _ e => e⟩
theorem Coarse.nl {gs hs : List Int} (c : Coarse gs hs) : nl hs ≤ nl gs := by
  -- to each label of hs a label of gs, at the first place where it stands
  have ix : ∀ y, y ∈ hs → ∃ i, i < hs.length ∧ hs[i]? = some y := fun y hy => by
    obtain ⟨i, hi, e⟩ := List.mem_iff_getElem.mp hy
    exact ⟨i, hi, by rw [List.getElem?_eq_getElem hi, e]⟩
  let φ : Int → Int := fun y => gs.getD (hs.findIdx (fun z => decide (z = y))) 0
  have hφ : ∀ y, y ∈ hs → ∃ i, i < hs.length ∧ hs[i]? = some y ∧ gs[i]? = some (φ y) := fun y hy => by
    have hex : hs.findIdx (fun z => decide (z = y)) < hs.length := List.findIdx_lt_length_of_exists ⟨y, hy, by simp⟩
    refine ⟨_, hex, ?_, ?_⟩
    · have := List.findIdx_getElem (w := hex)
      rw [List.getElem?_eq_getElem hex]
      rw [of_decide_eq_true this]
    · show _ = some (gs.getD _ 0)
      rw [List.getD_eq_getElem?_getD, List.getElem?_eq_getElem (by rw [c.1]; exact hex)]; rfl
  have inj : ∀ y z, y ∈ hs → z ∈ hs → φ y = φ z → y = z := fun y z hy hz e => by
    obtain ⟨i, hi, e1, e2⟩ := hφ y hy
    obtain ⟨j, hj, f1, f2⟩ := hφ z hz
    have := c.2 i j (by rw [c.1]; exact hi) (by rw [c.1]; exact hj) (by rw [e2, f2, e])
    rw [e1, f1] at this
    exact Option.some.inj this
  have nd : ((dl hs).map φ).Nodup := by
    have all : ∀ l : List Int, l.Nodup → (∀ y ∈ l, y ∈ hs) → (l.map φ).Nodup := by
      intro l
      induction l with
      | nil => intro _ _; exact List.nodup_nil
      | cons y l ih =>
        intro nd hm
        rw [List.map_cons]
        refine List.nodup_cons.mpr ⟨fun z => ?_, ih (List.nodup_cons.mp nd).2 fun x hx => hm x (List.mem_cons_of_mem _ hx)⟩
        obtain ⟨x, hx, e⟩ := List.mem_map.mp z
        have := inj x y (hm x (List.mem_cons_of_mem _ hx)) (hm y List.mem_cons_self) e
        exact (List.nodup_cons.mp nd).1 (by rw [← this]; exact hx)
    exact all _ (nd_dl hs) fun y hy => mem_dl.mp hy
  have l := len_le (ys := dl gs) nd fun x hx => by
    obtain ⟨y, hy, rfl⟩ := List.mem_map.mp hx
    obtain ⟨i, _, _, e⟩ := hφ y (mem_dl.mp hy)
    exact mem_dl.mpr (List.mem_of_getElem? e)
  rw [List.length_map] at l
  exact l
theorem join_get {k g : Int} {gs : List Int} (i : Nat) : (joinL k g gs)[i]? = (gs[i]?).map fun x => if x = g then k else x := by
  unfold joinL; rw [List.getElem?_map]
/-- joining keeps what was joined -/
theorem join_coarse (k g : Int) (gs : List Int) : Coarse gs (joinL k g gs) := ⟨(joinL_length k g gs).symm, fun i j _ _ e => by rw [join_get, join_get, e]⟩
theorem Coarse.trans {a b c : List Int} (x : Coarse a b) (y : Coarse b c) : Coarse a c := ⟨x.1.trans y.1, fun i j hi hj e => y.2 i j (by rw [← x.1]; exact hi) (by rw [← x.1]; exact hj) (x.2 i j hi hj e)⟩
/-- what joins two labels that hs has joined stays finer than hs -/
theorem Coarse.join {gs hs : List Int} (c : Coarse gs hs) {p q : Nat} (hp : p < gs.length) (hq : q < gs.length) {k g : Int} (ep : gs[p]? = some k) (eq : gs[q]? = some g) (e : hs[p]? = hs[q]?) : Coarse (joinL k g gs) hs := by
  refine ⟨(joinL_length k g gs).trans c.1, fun i j hi hj h => ?_⟩
  rw [joinL_length] at hi hj
  rw [join_get, join_get] at h
  obtain ⟨x, hx⟩ : ∃ x, gs[i]? = some x := ⟨_, List.getElem?_eq_getElem hi⟩
  obtain ⟨y, hy⟩ : ∃ y, gs[j]? = some y := ⟨_, List.getElem?_eq_getElem hj⟩
  rw [hx, hy] at h
  have h' : (if x = g then k else x) = if y = g then k else y := Option.some.inj h
  have toP : ∀ (a : Nat) (z : Int), a < gs.length → gs[a]? = some z → (z = g ∨ z = k) → hs[a]? = hs[p]? := fun a z ha hz o => by
    rcases o with o | o
    · rw [e]; exact c.2 a q ha hq (by rw [hz, eq, o])
    · exact c.2 a p ha hp (by rw [hz, ep, o])
  by_cases hxg : x = g
  · rw [if_pos hxg] at h'
    have hy' : y = g ∨ y = k := by
      by_cases hyg : y = g
      · exact .inl hyg
      · rw [if_neg hyg] at h'; exact .inr h'.symm
    rw [toP i x hi hx (.inl hxg), toP j y hj hy hy']
  · rw [if_neg hxg] at h'
    by_cases hyg : y = g
    · rw [if_pos hyg] at h'
      rw [toP i x hi hx (.inr h'), toP j y hj hy (.inl hyg)]
    · rw [if_neg hyg] at h'
      exact c.2 i j hi hj (by rw [hx, hy, h'])

/-! ### runs -/
section
variable {cs : List Cable} {n : Nat}
/-- the ends of the cable at i bear one label -/
def Same1 (cs : List Cable) (gs : List Int) (i : Nat) : Prop := ∀ c, cs[i]? = some c → lab gs c.1 = lab gs c.2.1
def InN (cs : List Cable) (n : Nat) : Prop := ∀ c ∈ cs, c.1.toNat < n ∧ c.2.1.toNat < n
theorem InN.at {i : Nat} {c : Cable} (h : InN cs n) (e : cs[i]? = some c) : c.1.toNat < n ∧ c.2.1.toNat < n := h c (List.mem_of_getElem? e)
theorem Same1.coarse {gs hs : List Int} {i : Nat} (hN : InN cs gs.length) (c : Coarse gs hs) (h : Same1 cs gs i) : Same1 cs hs i := fun cb e => by
  obtain ⟨h1, h2⟩ := hN.at e
  have := c.2 _ _ h1 h2 (by rw [lab_get gs h1, lab_get gs h2, h cb e])
  rw [lab_get hs (by rw [← c.1]; exact h1), lab_get hs (by rw [← c.1]; exact h2)] at this
  exact Option.some.inj this
theorem step_coarse (st : KSt) (i : Nat) : Coarse st.1 (stepK cs st i).1 := by
  unfold stepK
  split
  · exact .refl _
  · split
    · exact .refl _
    · exact join_coarse _ _ _
theorem fold_coarse : ∀ (t : List Nat) (st : KSt), Coarse st.1 (t.foldl (stepK cs) st).1
  | [], st => .refl _
  | i :: t, st => (step_coarse st i).trans (fold_coarse t _)
theorem step_same (st : KSt) (hN : InN cs st.1.length) (i : Nat) : Same1 cs (stepK cs st i).1 i := fun c e => by
  obtain ⟨h1, h2⟩ := hN.at e
  unfold stepK
  rw [e]
  dsimp only
  split
  · assumption
  · rename_i hne
    have g1 : (joinL (lab st.1 c.1) (lab st.1 c.2.1) st.1)[c.1.toNat]? = some (lab st.1 c.1) := by
      rw [join_get, lab_get _ h1]; show some (if _ then _ else _) = _; rw [if_neg hne]
    have g2 : (joinL (lab st.1 c.1) (lab st.1 c.2.1) st.1)[c.2.1.toNat]? = some (lab st.1 c.1) := by
      rw [join_get, lab_get _ h2]; show some (if _ then _ else _) = _; rw [if_pos rfl]
    rw [lab_get _ (by rw [joinL_length]; exact h1)] at g1
    rw [lab_get _ (by rw [joinL_length]; exact h2)] at g2
    exact (Option.some.inj g1).trans (Option.some.inj g2).symm
theorem fold_same : ∀ (t : List Nat) (st : KSt), InN cs st.1.length → ∀ i ∈ t, Same1 cs (t.foldl (stepK cs) st).1 i
  | [], _, _, i, h => nomatch h
  | j :: t, st, hN, i, h => by
    rcases List.mem_cons.mp h with e | h
    · rw [e]
      exact Same1.coarse (by rw [stepK_length]; exact hN) (fold_coarse t _) (step_same st hN j)
    · exact fold_same t _ (by rw [stepK_length]; exact hN) i h
/-- a run over cables whose ends hs joins stays finer than hs -/
theorem fold_fine {hs : List Int} : ∀ (t : List Nat) (st : KSt), InN cs st.1.length → Coarse st.1 hs → (∀ i ∈ t, Same1 cs hs i) → Coarse (t.foldl (stepK cs) st).1 hs
  | [], _, _, c, _ => c
  | j :: t, st, hN, c, h => by
    refine fold_fine t _ (by rw [stepK_length]; exact hN) ?_ fun i hi => h i (List.mem_cons_of_mem _ hi)
    unfold stepK
    split
    · exact c
    · rename_i cb e
      obtain ⟨h1, h2⟩ := hN.at e
      split
      · exact c
      · refine c.join h1 h2 (lab_get _ h1) (lab_get _ h2) ?_
        rw [lab_get _ (by rw [← c.1]; exact h1), lab_get _ (by rw [← c.1]; exact h2), h j List.mem_cons_self cb e]
/-- each laid cable takes one label away -/
theorem fold_count : ∀ (t : List Nat) (st : KSt), InN cs st.1.length → (t.foldl (stepK cs) st).2.length + nl (t.foldl (stepK cs) st).1 = st.2.length + nl st.1
  | [], _, _ => rfl
  | j :: t, st, hN => by
    rw [List.foldl_cons, fold_count t _ (by rw [stepK_length]; exact hN)]
    unfold stepK
    split
    · rfl
    · rename_i cb e
      obtain ⟨h1, h2⟩ := hN.at e
      split
      · rfl
      · rename_i hne
        have := nl_join (lab_mem h1) (lab_mem h2) hne
        simp only [List.length_append, List.length_singleton]
        omega
theorem init_nodup (n : Nat) : (natIs (List.range n)).Nodup := by
  unfold natIs
  have all : ∀ l : List Nat, l.Nodup → (l.map fun (i : Nat) => (i : Int)).Nodup := by
    intro l
    induction l with
    | nil => intro _; exact List.nodup_nil
    | cons y l ih =>
      intro nd
      rw [List.map_cons]
      refine List.nodup_cons.mpr ⟨fun z => ?_, ih (List.nodup_cons.mp nd).2⟩
      obtain ⟨x, hx, e⟩ := List.mem_map.mp z
      have : x = y := by omega
      exact (List.nodup_cons.mp nd).1 (by rw [← this]; exact hx)
  exact all _ List.nodup_range
theorem init_length (n : Nat) : (initK n).1.length = n := by simp [initK, natIs]
theorem run_count (hN : InN cs n) (t : List Nat) : (runK cs n t).2.length + nl (runK cs n t).1 = n := by
  have := fold_count t (initK n) (by rw [init_length]; exact hN)
  unfold runK
  rw [this]
  show 0 + nl (natIs (List.range n)) = n
  rw [nl_nodup (init_nodup n)]
  simp [natIs]
/-- as few cables are laid over a part as over the whole -/
theorem run_le (hN : InN cs n) {u v : List Nat} (h : ∀ i ∈ v, i ∈ u) : (runK cs n v).2.length ≤ (runK cs n u).2.length := by
  have hN' : InN cs (initK n).1.length := by rw [init_length]; exact hN
  have c : Coarse (runK cs n v).1 (runK cs n u).1 := fold_fine v (initK n) hN' (fold_coarse u _) fun i hi => fold_same u _ hN' i (h i hi)
  have h1 := run_count hN u
  have h2 := run_count hN v
  have h3 := c.nl
  omega
/-- of the laid ones any part is laid whole, gone through alone -/
theorem run_part (hN : InN cs n) (q : Nat → Bool) (t : List Nat) : (runK cs n ((runK cs n t).2.filter q)).2 = (runK cs n t).2.filter q := by
  have key : ∀ (t : List Nat) (st : KSt) (sv : KSt), InN cs st.1.length → Coarse sv.1 st.1 → runK cs n (st.2.filter q) = sv → sv.2 = st.2.filter q →
      (runK cs n ((t.foldl (stepK cs) st).2.filter q)).2 = (t.foldl (stepK cs) st).2.filter q := by
    intro t
    induction t with
    | nil => intro st sv _ _ e1 e2; show (runK cs n (st.2.filter q)).2 = _; rw [e1]; exact e2
    | cons j t ih =>
      intro st sv hN' co e1 e2
      rw [List.foldl_cons]
      have hN2 : InN cs (stepK cs st j).1.length := by rw [stepK_length]; exact hN'
      cases hc : cs[j]? with
      | none =>
        have es : stepK cs st j = st := by unfold stepK; rw [hc]
        rw [es]
        exact ih st sv hN' co e1 e2
      | some cb =>
        obtain ⟨h1, h2⟩ := hN'.at hc
        by_cases hl : lab st.1 cb.1 = lab st.1 cb.2.1
        · have es : stepK cs st j = st := by unfold stepK; rw [hc]; dsimp only; rw [if_pos hl]
          rw [es]
          exact ih st sv hN' co e1 e2
        · have es : stepK cs st j = (joinL (lab st.1 cb.1) (lab st.1 cb.2.1) st.1, st.2 ++ [j]) := by unfold stepK; rw [hc]; dsimp only; rw [if_neg hl]
          have co2 : Coarse sv.1 (stepK cs st j).1 := co.trans (step_coarse st j)
          by_cases hq : q j = true
          · have ef : (stepK cs st j).2.filter q = st.2.filter q ++ [j] := by rw [es]; simp [List.filter_append, hq]
            have hlv : lab sv.1 cb.1 ≠ lab sv.1 cb.2.1 := fun z => hl (by
              have := co.2 _ _ (by rw [co.1]; exact h1) (by rw [co.1]; exact h2) (by rw [lab_get _ (by rw [co.1]; exact h1), lab_get _ (by rw [co.1]; exact h2), z])
              rw [lab_get _ h1, lab_get _ h2] at this
              exact Option.some.inj this)
            have ev : stepK cs sv j = (joinL (lab sv.1 cb.1) (lab sv.1 cb.2.1) sv.1, sv.2 ++ [j]) := by unfold stepK; rw [hc]; dsimp only; rw [if_neg hlv]
            refine ih (stepK cs st j) (stepK cs sv j) hN2 ?_ ?_ ?_
            · have sj := step_same st hN' j cb hc
              rw [ev]
              refine co2.join (by rw [co.1]; exact h1) (by rw [co.1]; exact h2) (lab_get _ (by rw [co.1]; exact h1)) (lab_get _ (by rw [co.1]; exact h2)) ?_
              rw [lab_get _ (by rw [stepK_length]; exact h1), lab_get _ (by rw [stepK_length]; exact h2), sj]
            · rw [ef, ← e1]
              unfold runK
              rw [List.foldl_append]; rfl
            · rw [ev, ef, e2]
          · have ef : (stepK cs st j).2.filter q = st.2.filter q := by rw [es]; simp [List.filter_append, hq]
            exact ih (stepK cs st j) sv hN2 co2 (by rw [ef]; exact e1) (by rw [ef]; exact e2)
  exact key t (initK n) (initK n) (by rw [init_length]; exact hN) (.refl _) rfl rfl
end
end Ml

namespace Ml
open PySem L2
/-! ### the least sum -/
theorem sum_perm {xs ys : List Int} (h : xs.Perm ys) : xs.sum = ys.sum := by
  induction h with
  | nil => rfl
  | cons x _ ih => rw [List.sum_cons, List.sum_cons, ih]
  | swap x y l => simp only [List.sum_cons]; omega
  | trans _ _ a b => exact a.trans b
def wsum (w : Nat → Int) (l : List Nat) : Int := (l.map w).sum
theorem wsum_cons (w : Nat → Int) (x : Nat) (l : List Nat) : wsum w (x :: l) = w x + wsum w l := by unfold wsum; rw [List.map_cons, List.sum_cons]
theorem wsum_append (w : Nat → Int) (a b : List Nat) : wsum w (a ++ b) = wsum w a + wsum w b := by
  induction a with
  | nil => simp [wsum]
  | cons x a ih => rw [List.cons_append, wsum_cons, wsum_cons, ih]; omega
theorem wsum_perm {w : Nat → Int} {a b : List Nat} (h : a.Perm b) : wsum w a = wsum w b := sum_perm (h.map w)
/-- of two choices out of a rising list, the one that is ahead at each beginning, and level at the end, weighs no more -/
theorem ahead {w : Nat → Int} {a b : Nat → Bool} : ∀ (t : List Nat) (d : Nat) (v : Int), t.Pairwise (fun x y => w x ≤ w y) → (∀ x ∈ t, v ≤ w x) →
    (∀ k, ((t.take k).filter b).length ≤ d + ((t.take k).filter a).length) → (t.filter b).length = d + (t.filter a).length → (d : Int) * v + wsum w (t.filter a) ≤ wsum w (t.filter b)
  | [], d, v, _, _, _, he => by
    have : d = 0 := by simpa using he.symm
    subst this
    simp [wsum]
  | x :: t, d, v, hp, hv, hk, he => by
    obtain ⟨h1, h2⟩ := List.pairwise_cons.mp hp
    have hx := hv x List.mem_cons_self
    have k1 := hk 1
    have hd : (d : Int) * v ≤ (d : Int) * w x := Int.mul_le_mul_of_nonneg_left hx (by omega)
    have tk : ∀ k, (x :: t).take (k + 1) = x :: t.take k := fun k => rfl
    by_cases ha : a x = true <;> by_cases hb : b x = true
    · have ih := ahead (a := a) (b := b) t d (w x) h2 h1 (fun k => by
        have := hk (k + 1)
        rw [tk, List.filter_cons_of_pos ha, List.filter_cons_of_pos hb, List.length_cons, List.length_cons] at this
        omega) (by
        rw [List.filter_cons_of_pos ha, List.filter_cons_of_pos hb, List.length_cons, List.length_cons] at he
        omega)
      rw [List.filter_cons_of_pos ha, List.filter_cons_of_pos hb, wsum_cons, wsum_cons]
      omega
    · have ih := ahead (a := a) (b := b) t (d + 1) (w x) h2 h1 (fun k => by
        have := hk (k + 1)
        rw [tk, List.filter_cons_of_pos ha, List.filter_cons_of_neg hb, List.length_cons] at this
        omega) (by
        rw [List.filter_cons_of_pos ha, List.filter_cons_of_neg hb, List.length_cons] at he
        omega)
      rw [List.filter_cons_of_pos ha, List.filter_cons_of_neg hb, wsum_cons]
      have : ((d + 1 : Nat) : Int) * w x = (d : Int) * w x + w x := by rw [Int.natCast_add, Int.add_mul]; simp
      omega
    · rw [tk 0, List.take_zero, List.filter_cons_of_neg ha, List.filter_cons_of_pos hb] at k1
      obtain ⟨d', rfl⟩ : ∃ d', d = d' + 1 := ⟨d - 1, by simp at k1; omega⟩
      have ih := ahead (a := a) (b := b) t d' (w x) h2 h1 (fun k => by
        have := hk (k + 1)
        rw [tk, List.filter_cons_of_neg ha, List.filter_cons_of_pos hb, List.length_cons] at this
        omega) (by
        rw [List.filter_cons_of_neg ha, List.filter_cons_of_pos hb, List.length_cons] at he
        omega)
      rw [List.filter_cons_of_neg ha, List.filter_cons_of_pos hb, wsum_cons]
      have : ((d' + 1 : Nat) : Int) * w x = (d' : Int) * w x + w x := by rw [Int.natCast_add, Int.add_mul]; simp
      omega
    · have ih := ahead (a := a) (b := b) t d (w x) h2 h1 (fun k => by
        have := hk (k + 1)
        rw [tk, List.filter_cons_of_neg ha, List.filter_cons_of_neg hb] at this
        omega) (by
        rw [List.filter_cons_of_neg ha, List.filter_cons_of_neg hb] at he
        omega)
      rw [List.filter_cons_of_neg ha, List.filter_cons_of_neg hb]
      omega
section
variable {cs : List Cable} {n : Nat}
/-- what is laid stays laid, and what comes to it was gone through -/
theorem fold_mem : ∀ (t : List Nat) (st : KSt) (i : Nat), i ∈ (t.foldl (stepK cs) st).2 → i ∈ st.2 ∨ i ∈ t
  | [], _, _, h => .inl h
  | j :: t, st, i, h => by
    rcases fold_mem t _ i h with h | h
    · unfold stepK at h
      split at h
      · exact .inl h
      · split at h
        · exact .inl h
        · rcases List.mem_append.mp h with h | h
          · exact .inl h
          · rw [List.mem_singleton.mp h]; exact .inr List.mem_cons_self
    · exact .inr (List.mem_cons_of_mem _ h)
theorem run_mem {t : List Nat} {i : Nat} (h : i ∈ (runK cs n t).2) : i ∈ t := (fold_mem t (initK n) i h).elim (fun z => nomatch z) id
theorem fold_keep : ∀ (t : List Nat) (st : KSt) (i : Nat), i ∈ st.2 → i ∈ (t.foldl (stepK cs) st).2
  | [], _, _, h => h
  | j :: t, st, i, h => fold_keep t _ i (by
    unfold stepK
    split
    · exact h
    · split
      · exact h
      · exact List.mem_append_left _ h)
theorem fold_nodup : ∀ (t : List Nat) (st : KSt), InN cs st.1.length → st.2.Nodup → (∀ i ∈ st.2, Same1 cs st.1 i) → (t.foldl (stepK cs) st).2.Nodup
  | [], _, _, h, _ => h
  | j :: t, st, hN, nd, hs => by
    have hN2 : InN cs (stepK cs st j).1.length := by rw [stepK_length]; exact hN
    refine fold_nodup t _ hN2 ?_ fun i hi => ?_
    · unfold stepK
      split
      · exact nd
      · rename_i cb e
        split
        · exact nd
        · rename_i hne
          refine List.nodup_append.mpr ⟨nd, by simp, fun x hx y hy z => ?_⟩
          rw [List.mem_singleton] at hy
          subst hy
          subst z
          exact hne (hs _ hx cb e)
    · by_cases hij : i = j
      · rw [hij]; exact step_same st hN j
      · refine Same1.coarse hN (step_coarse st j) (hs i ?_)
        unfold stepK at hi
        split at hi
        · exact hi
        · split at hi
          · exact hi
          · rcases List.mem_append.mp hi with h | h
            · exact h
            · exact absurd (List.mem_singleton.mp h) hij
theorem run_nodup (hN : InN cs n) (t : List Nat) : (runK cs n t).2.Nodup := fold_nodup t (initK n) (by rw [init_length]; exact hN) List.nodup_nil fun _ z => nomatch z
theorem run_beg (t : List Nat) (k i : Nat) (h : i ∈ (runK cs n (t.take k)).2) : i ∈ (runK cs n t).2 := by
  have e : runK cs n t = (t.drop k).foldl (stepK cs) (runK cs n (t.take k)) := by
    unfold runK
    rw [← List.foldl_append, List.take_append_drop]
  rw [e]
  exact fold_keep _ _ i h
theorem filter_perm {t l : List Nat} (ht : t.Nodup) (hl : l.Nodup) (h : ∀ i ∈ l, i ∈ t) : (t.filter fun i => decide (i ∈ l)).Perm l := by
  refine (List.perm_ext_iff_of_nodup (ht.filter _) hl).mpr fun i => ?_
  rw [List.mem_filter, decide_eq_true_eq]
  exact ⟨fun z => z.2, fun z => ⟨h i z, z⟩⟩
theorem run_len_eq (hN : InN cs n) {t u : List Nat} (h : ∀ i, i ∈ t ↔ i ∈ u) : (runK cs n t).2.length = (runK cs n u).2.length :=
  Nat.le_antisymm (run_le hN fun i hi => (h i).mp hi) (run_le hN fun i hi => (h i).mpr hi)
/-- what is laid in turn weighs least -/
theorem least {t u : List Nat} (hN : InN cs n) (w : Nat → Int) (ht : t.Nodup) (hw : t.Pairwise fun x y => w x ≤ w y) (h : ∀ i, i ∈ t ↔ i ∈ u) : wsum w (runK cs n t).2 ≤ wsum w (runK cs n u).2 := by
  have pa := filter_perm ht (run_nodup hN t) fun i hi => run_mem hi
  have pb := filter_perm ht (run_nodup hN u) fun i hi => (h i).mpr (run_mem hi)
  rw [← wsum_perm pa, ← wsum_perm pb]
  cases t with
  | nil => exact Int.le_refl _
  | cons x t =>
    have z := ahead (w := w) (a := fun i => decide (i ∈ (runK cs n (x :: t)).2)) (b := fun i => decide (i ∈ (runK cs n u).2)) (x :: t) 0 (w x) hw
      (fun y hy => by
        rcases List.mem_cons.mp hy with e | hy
        · rw [e]; exact Int.le_refl _
        · exact (List.pairwise_cons.mp hw).1 y hy)
      (fun k => by
        rw [Nat.zero_add]
        generalize hT : x :: t = T at *
        have l1 : (runK cs n (T.take k)).2.length ≤ ((T.take k).filter fun i => decide (i ∈ (runK cs n T).2)).length := len_le (run_nodup hN _) fun i hi => List.mem_filter.mpr ⟨run_mem hi, by rw [decide_eq_true_eq]; exact run_beg T k i hi⟩
        have l2 : (runK cs n ((runK cs n u).2.filter fun i => decide (i ∈ T.take k))).2.length ≤ (runK cs n (T.take k)).2.length := run_le hN fun i hi => by
          have := (List.mem_filter.mp hi).2
          exact of_decide_eq_true this
        rw [run_part hN] at l2
        have l3 : ((T.take k).filter fun i => decide (i ∈ (runK cs n u).2)).length ≤ ((runK cs n u).2.filter fun i => decide (i ∈ T.take k)).length := len_le ((ht.sublist (List.take_sublist k T)).filter _) fun i hi => by
          obtain ⟨g1, g2⟩ := List.mem_filter.mp hi
          exact List.mem_filter.mpr ⟨of_decide_eq_true g2, decide_eq_true g1⟩
        omega)
      (by rw [Nat.zero_add, pa.length_eq, pb.length_eq]; exact (run_len_eq hN h).symm)
    simpa using z
end
end Ml

namespace Ml
open PySem PySem.Spec PyProof.Rows L2
section
variable {X : Cx}
/-! ### d.update(other); list(d.items()) -/
def rUpdate : V → List V → Hp → VK → Prop := fun x vs H Q => ∃ (d o : Addr) (kvs more : List (Key × V)), x = .ref d ∧ vs = [.ref o] ∧ d ≠ o ∧ H d = some (.dK kvs) ∧ H o = some (.dK more) ∧ kvs.length + more.length ≤ 1000 ∧ Q .non (upd H d (.dK (mergeK kvs more)))
theorem mt_update : MtR X "dict.update" rUpdate := by
  intro pins s σ H x vs v us Q I rx rv h
  obtain ⟨d, o, kvs, more, rfl, rfl, hne, hd, ho, hz, q⟩ := h
  cases rx
  obtain ⟨u, rfl, ru⟩ := rv.one
  cases ru
  obtain ⟨z1, n1, ks, r1, D1⟩ := dk_of I.hok hd
  obtain ⟨z2, n2, ms, r2, D2⟩ := dk_of I.hok ho
  have l1 := r1.length
  have l2 := r2.length
  refine call_meetsIn PySem.F.slot_dict_update D1.typeIs PySem.F.entry_dict_update (PySem.F.args_dict_update_2 _ _) (meets_dict_update (mixKind X.prog X.w) d o hne n2) ⟨ks, ms, D1, D2, Ml.small (by omega), fun h' D3 D4 sb => ?_⟩
  refine ⟨.non, _, d_write I (by rw [hd]; exact True.intro) sb (let ⟨q, _, _, hq, _⟩ := D3; ⟨q, hq⟩) (dk_new ?_ n1 (r2.merge r1) D3), rfl, q⟩
  exact Ml.small (Nat.le_trans (length_mergeK more kvs) hz)
/-- several new tuples come under watch -/
theorem track_all {pins : List (Addr × Obj)} {σ : L2.St} {s : Shared} : ∀ (as : List Addr) (xs : List (List V)) (H : Hp), Inv X pins σ H s → as.Nodup → as.length = xs.length → (∀ a ∈ as, FpOk X pins H a ∧ X.s₀.heap.objs.size ≤ a) →
    (∀ (j : Nat) (a : Addr) (x : List V), as[j]? = some a → xs[j]? = some x → x.length ≤ sizeLine ∧ ∃ us, Vals x us ∧ s.heap.get? a = some { cls := .type "tuple", data := .seq us.toArray }) →
    ∃ H', Inv X pins σ H' s ∧ Same H H' ∧ (∀ b, b ∉ as → H' b = H b) ∧ ∀ (j : Nat) (a : Addr) (x : List V), as[j]? = some a → xs[j]? = some x → H' a = some (.tup x)
  | [], [], H, I, _, _, _, _ => ⟨H, I, fun _ _ e => e, fun _ _ => rfl, fun j a x h => by cases h⟩
  | [], _ :: _, _, _, _, hl, _, _ => by cases hl
  | _ :: _, [], _, _, _, hl, _, _ => by cases hl
  | a :: as, x :: xs, H, I, nd, hl, hf, ho => by
    obtain ⟨nd1, nd2⟩ := List.nodup_cons.mp nd
    obtain ⟨hz, us, rv, hu⟩ := ho 0 a x rfl rfl
    obtain ⟨f1, f2⟩ := hf a List.mem_cons_self
    have I1 := track (d := a) (o := .tup x) I f1 f2 ⟨hz, us, rv, _, hu, rfl, _, rfl⟩
    obtain ⟨H', I', s', n', t'⟩ := track_all as xs (upd H a (.tup x)) I1 nd2 (by simpa using hl) (fun b hb => by
      obtain ⟨g1, g2⟩ := hf b (List.mem_cons_of_mem _ hb)
      exact ⟨⟨by rw [upd_ne (fun z => nd1 (by rw [← z]; exact hb))]; exact g1.1, g1.2⟩, g2⟩) (fun j b y h1 h2 => ho (j + 1) b y h1 h2)
    refine ⟨H', I', fun b o e => s' b o (by rw [upd_ne (ne_of_none e f1.1)]; exact e), fun b hb => ?_, fun j b y h1 h2 => ?_⟩
    · rw [n' b (fun z => hb (List.mem_cons_of_mem _ z)), upd_ne (fun z => hb (by rw [z]; exact List.mem_cons_self))]
    · match j, h1, h2 with
      | 0, h1, h2 =>
        cases h1
        cases h2
        rw [n' _ nd1, upd_same]
      | j + 1, h1, h2 => exact t' j b y h1 h2
theorem pairedAt {α β : Type} {R : α → β → Prop} : ∀ {xs : List α} {ys : List β} {j : Nat} {x : α}, Paired R xs ys → xs[j]? = some x → ∃ y, ys[j]? = some y ∧ R x y
  | _, _, _, _, .nil, e => by cases e
  | _, _, 0, _, .cons r _, e => by cases e; exact ⟨_, rfl, r⟩
  | _, _, j + 1, _, .cons _ t, e => pairedAt (j := j) t e
def tListItems (td : TE) : TE := fun σ H Q => td σ H fun x H1 => ∃ (d : Addr) (kvs : List (Key × V)), x = .ref d ∧ H1 d = some (.dK kvs) ∧ kvs.length ≤ 1000 ∧
  ∀ (p : Addr) (as : List Addr) (H' : Hp), as.length = kvs.length → Same H1 H' → H' p = some (.lst (as.map V.ref)) → (∀ (j : Nat) (a : Addr) (kv : Key × V), as[j]? = some a → kvs[j]? = some kv → H' a = some (.tup [kV kv.1, kv.2])) → H1 p = none → Q (.ref p) H'
theorem pe_listItems {o : Expr} {td : TE} {p1 apos q1 q2 : Pos} (hc : X.calm = true) (hg : Gl X "list") (hm : X.mg "list" = none) (ho : PE X o td)
    (hbase : attributeBase o "items" X.env (eval o X.env) = eval o X.env := by rfl) (hline : (apos.endLine == q2.line) = true := by rfl)
    (he : starEach [.Call (.Attribute o "items" apos) [] [] q2] X.env = [(false, eval (.Call (.Attribute o "items" apos) [] [] q2) X.env)] := by rfl) :
    PE X (.Call (.Name "list" p1) [.Call (.Attribute o "items" apos) [] [] q2] [] q1) (tListItems td) := by
  intro pins s σ H Q I h
  refine wpAny_Call_Name_kw (ld_blt I hg hm PyProof.Rows.boot_list ?_ (by decide) (by decide))
  refine PyProof.Rows.callWith_type1 ?_ he rfl
  rw [he]
  show wpAny _ _ (spliced ((false, eval (.Call (.Attribute o "items" apos) [] [] q2) X.env) :: backTo q1 [])) _ _ s
  refine Calls.spliced_cons (wpAny_Call_method0_late hbase hline (thn (ho pins s σ H _ I h) fun v s1 ⟨x, H1, I1, r1, d, kvs, ex, hd, hz, q⟩ => ?_))
  subst ex
  cases r1
  obtain ⟨z1, n1, ks, rk, D1⟩ := dk_of I1.hok hd
  have hl := rk.length
  obtain ⟨t1, t2, _⟩ := isD_at I1 (.inl ⟨kvs, .inl hd⟩)
  refine ⟨"dict", "dict.items", PySem.F.plainAttrs_dict, PySem.F.slot_dict_items, PySem.F.type_dict_items, t1, t2, Calls.callWith_builtin rfl (PySem.evalArgs_none ?_)⟩
  refine call_meetsIn PySem.F.slot_dict_items D1.typeIs PySem.F.entry_dict_items (PySem.F.args_dict_items_1 _) (meets_dict_items (mixKind X.prog X.w) d n1) ⟨⟨ks, D1⟩, ?_⟩
  refine Calls.spliced_nil ?_
  have k2 : ∀ b o, s1.heap.get? b = some o → (s1.heap.push { cls := .type "dict_items", data := .fields #[.ref d] }).get? b = some o := fun b o e => Heap.get?_push_of_some _ e
  have hv : (s1.heap.push { cls := .type "dict_items", data := .fields #[.ref d] }).IsItemsView s1.heap.objs.size d := ⟨_, Heap.get?_push_size _ rfl, rfl, rfl⟩
  have hsz2 : s1.heap.objs.size ≤ (s1.heap.push { cls := .type "dict_items", data := .fields #[.ref d] }).objs.size := by rw [Heap.size_push]; exact Nat.le_succ _
  obtain ⟨ep, D2⟩ := D1.dictAt
  have D3 := D2.keep k2
  generalize s1.heap.push { cls := .type "dict_items", data := .fields #[.ref d] } = h2 at k2 hv hsz2 D3 ⊢
  have I2 : Inv X pins σ H1 { s1 with heap := h2 } := I1.kept (t' := s1.toks) k2
  refine PySem.W.kdx_call (s := { s1 with heap := h2 }) (knd := mixKind X.prog X.w) (kvs := ks) (ep := ep) (I2.ok.hd hc) hv D3 (by rw [← hl]; exact z1) fun h3 tk acc c as k3 o3 al G ea => ?_
  have I3 : Inv X pins σ H1 { s1 with heap := h3, toks := tk } := I2.kept k3
  -- the list
  have hnew : ∀ a, h2.objs.size ≤ a → H1 a = none ∧ FpOk X pins H1 a ∧ X.s₀.heap.objs.size ≤ a := fun a ha => by
    have hn : H1 a = none := I2.hok.fresh ha
    exact ⟨hn, I2.fpOk ha hn, Nat.le_trans I2.sz ha⟩
  have nd : as.Nodup := G.rise.imp fun {x y} hxy => Nat.ne_of_lt hxy
  obtain ⟨H', I', s', n', t'⟩ := track_all as (kvs.map fun kv => [kV kv.1, kv.2]) H1 I3 nd (by rw [List.length_map, al, hl]) (fun a ha => (hnew a (Nat.le_of_lt (G.above a ha))).2) (fun j a x h1 h2 => by
    obtain ⟨key, k, u, g1, g2, g3⟩ := G.pairs j a h1
    rw [List.getElem?_map] at h2
    obtain ⟨kv, g4, rfl⟩ := Option.map_eq_some_iff.mp h2
    obtain ⟨kw, e1, e2⟩ := pairedAt rk g4
    rw [g1] at e1
    cases e1
    refine ⟨by show 2 ≤ sizeLine; decide, [key, u], .cons ?_ (.cons e2.2 .nil), g3⟩
    have g2' : keyIs k key = true := g2
    rw [e2.1]
    rcases keyIs_shape g2' with ⟨i, t, rfl, rfl⟩ | ⟨y, t, rfl, rfl⟩
    · exact ⟨t, rfl⟩
    · exact ⟨t, rfl⟩)
  have np : h2.objs.size ∉ as := fun z => Nat.lt_irrefl _ (G.above _ z)
  obtain ⟨p0, p1, p2⟩ := hnew h2.objs.size (Nat.le_refl _)
  have hn' : H' h2.objs.size = none := by rw [n' _ np]; exact p0
  have f' : FpOk X pins H' h2.objs.size := ⟨hn', p1.2⟩
  refine ⟨.ref h2.objs.size, _, track (d := h2.objs.size) (o := .lst (as.map V.ref)) I' f' p2 ⟨?_, acc.toList, c, ?_, by simpa using o3⟩, rfl, q _ as _ (by rw [al, hl]) (fun b o e => ?_) upd_same (fun j a kv h1 h2 => ?_) p0⟩
  · rw [List.length_map, al, ← hl]; exact z1
  · rw [ea]
    have all : ∀ l : List Addr, Vals (l.map V.ref) (l.map Value.ref) := by
      intro l
      induction l with
      | nil => exact .nil
      | cons b l ih => exact .cons rfl ih
    exact all as
  · rw [upd_ne (ne_of_none (s' b o e) hn')]
    exact s' b o e
  · rw [upd_ne (fun z => np (by rw [← z]; exact List.mem_of_getElem? h1))]
    exact t' j a _ h1 (by rw [List.getElem?_map, h2]; rfl)
end
end Ml

namespace Ml
open PySem L2
/-! ### trees over the laid cables -/
def farI (c : Cable) (m : Int) : Int := if c.1 = m then c.2.1 else c.1
def Has (c : Cable) (m : Int) : Prop := c.1 = m ∨ c.2.1 = m
abbrev Ent := Int × Option Nat
def keys (es : List Ent) : List Int := es.map (·.1)
/-- the masts of es: the first by itself, each later one over a cable of L from one before -/
def Reached (cs : List Cable) (L : List Nat) (es : List Ent) : Prop := ∀ (i : Nat) (m : Int) (p : Nat), es[i]? = some (m, some p) → p ∈ L ∧ ∃ c, cs[p]? = some c ∧ Has c m ∧ ∃ (j : Nat) (o : Option Nat), j < i ∧ es[j]? = some (farI c m, o)
def Closed (cs : List Cable) (L : List Nat) (ks : List Int) : Prop := ∀ m ∈ ks, ∀ p ∈ L, ∀ c, cs[p]? = some c → Has c m → farI c m ∈ ks
structure Tree (cs : List Cable) (L : List Nat) (start : Int) (es : List Ent) : Prop where
  head : es[0]? = some (start, none)
  rest : ∀ (i : Nat) (m : Int) (o : Option Nat), es[i]? = some (m, o) → i ≠ 0 → o ≠ none
  reached : Reached cs L es
  nodup : (keys es).Nodup
theorem far_far {c : Cable} {m : Int} (h : Has c m) (hne : farI c m ≠ m) : farI c (farI c m) = m ∧ Has c (farI c m) := by
  unfold farI Has at *
  by_cases e : c.1 = m
  · rw [if_pos e] at hne ⊢
    rw [if_neg (fun z => hne (z.symm.trans e))]
    exact ⟨e, .inr rfl⟩
  · rw [if_neg e] at hne ⊢
    have h2 : c.2.1 = m := h.resolve_left e
    rw [if_pos rfl]
    exact ⟨h2, .inl rfl⟩
theorem Tree.one (cs : List Cable) (L : List Nat) (s : Int) : Tree cs L s [(s, none)] where
  head := rfl
  rest := fun i m o h hi => by
    match i, h with
    | 0, _ => exact absurd rfl hi
    | i + 1, h => cases h
  reached := fun i m p h => by
    match i, h with
    | 0, h => cases h
    | i + 1, h => cases h
  nodup := by simp [keys]
theorem mem_keys {es : List Ent} {m : Int} : m ∈ keys es ↔ ∃ (i : Nat) (o : Option Nat), es[i]? = some (m, o) := by
  unfold keys
  rw [List.mem_map]
  constructor
  · rintro ⟨⟨m', o⟩, h, rfl⟩
    obtain ⟨i, hi, e⟩ := List.mem_iff_getElem.mp h
    exact ⟨i, o, by rw [List.getElem?_eq_getElem hi, e]⟩
  · rintro ⟨i, o, h⟩
    exact ⟨(m, o), List.mem_of_getElem? h, rfl⟩
theorem keys_append (a b : List Ent) : keys (a ++ b) = keys a ++ keys b := by unfold keys; exact List.map_append
theorem Reached.snoc {cs : List Cable} {L : List Nat} {es : List Ent} {m : Int} {p : Nat} {c : Cable} (h : Reached cs L es) (hp : p ∈ L) (hc : cs[p]? = some c) (hm : Has c m) (hf : farI c m ∈ keys es) : Reached cs L (es ++ [(m, some p)]) := by
  intro i m' p' e
  by_cases hi : i < es.length
  · rw [List.getElem?_append_left hi] at e
    obtain ⟨a, c', b, d, j, o, hj, e'⟩ := h i m' p' e
    exact ⟨a, c', b, d, j, o, hj, by rw [List.getElem?_append_left (by omega)]; exact e'⟩
  · have hi2 : i = es.length := by
      have := (List.getElem?_eq_some_iff.mp e).1
      rw [List.length_append, List.length_singleton] at this
      omega
    subst hi2
    rw [List.getElem?_append_right (Nat.le_refl _), Nat.sub_self] at e
    cases e
    obtain ⟨j, o, e'⟩ := mem_keys.mp hf
    have hj := (List.getElem?_eq_some_iff.mp e').1
    exact ⟨hp, c, hc, hm, j, o, hj, by rw [List.getElem?_append_left hj]; exact e'⟩
theorem nodup_snoc {ks : List Int} {m : Int} (h : ks.Nodup) (hm : m ∉ ks) : (ks ++ [m]).Nodup :=
  List.nodup_append.mpr ⟨h, by simp, fun x hx y hy z => hm (by rw [List.mem_singleton] at hy; rw [← hy, ← z]; exact hx)⟩
theorem Tree.snoc {cs : List Cable} {L : List Nat} {s : Int} {es : List Ent} {m : Int} {p : Nat} {c : Cable} (h : Tree cs L s es) (hp : p ∈ L) (hc : cs[p]? = some c) (hm : Has c m) (hf : farI c m ∈ keys es) (hn : m ∉ keys es) : Tree cs L s (es ++ [(m, some p)]) where
  head := by
    have hl : 0 < es.length := (List.getElem?_eq_some_iff.mp h.head).1
    rw [List.getElem?_append_left hl]; exact h.head
  rest := fun i m' o e hi => by
    by_cases hl : i < es.length
    · rw [List.getElem?_append_left hl] at e
      exact h.rest i m' o e hi
    · have hi2 : i = es.length := by
        have := (List.getElem?_eq_some_iff.mp e).1
        rw [List.length_append, List.length_singleton] at this
        omega
      subst hi2
      rw [List.getElem?_append_right (Nat.le_refl _), Nat.sub_self] at e
      cases e
      exact fun z => by cases z
  reached := h.reached.snoc hp hc hm hf
  nodup := by rw [keys_append]; exact nodup_snoc h.nodup hn
/-- a tree from outside of a closed lot stays outside -/
theorem Tree.apart {cs : List Cable} {L : List Nat} {s : Int} {es : List Ent} {ks : List Int} (h : Tree cs L s es) (hc : Closed cs L ks) (hs : s ∉ ks) : ∀ m ∈ keys es, m ∉ ks := by
  have all : ∀ (n i : Nat) (m : Int) (o : Option Nat), i < n → es[i]? = some (m, o) → m ∉ ks := by
    intro n
    induction n with
    | zero => intro i m o hi; exact absurd hi (Nat.not_lt_zero _)
    | succ n ih =>
      intro i m o hi e hm
      by_cases h0 : i = 0
      · subst h0
        rw [h.head] at e
        cases e
        exact hs hm
      · cases o with
        | none => exact h.rest i m none e h0 rfl
        | some p =>
          obtain ⟨hp, c, ec, hh, j, o', hj, e'⟩ := h.reached i m p e
          exact ih j _ o' (by omega) e' (hc m hm p hp c ec hh)
  intro m hm
  obtain ⟨i, o, e⟩ := mem_keys.mp hm
  exact all (i + 1) i m o (Nat.lt_succ_self _) e
theorem Closed.append {cs : List Cable} {L : List Nat} {a b : List Int} (h1 : Closed cs L a) (h2 : Closed cs L b) : Closed cs L (a ++ b) := fun m hm p hp c hc hh => by
  rcases List.mem_append.mp hm with z | z
  · exact List.mem_append_left _ (h1 m z p hp c hc hh)
  · exact List.mem_append_right _ (h2 m z p hp c hc hh)
/-- trees one after another, each closed -/
structure Forest (cs : List Cable) (L : List Nat) (ts : List (List Ent)) : Prop where
  tree : ∀ t ∈ ts, ∃ s, Tree cs L s t
  closed : ∀ t ∈ ts, Closed cs L (keys t)
  nodup : (keys ts.flatten).Nodup
theorem Forest.nil (cs : List Cable) (L : List Nat) : Forest cs L [] := ⟨fun _ h => (nomatch h), fun _ h => (nomatch h), List.nodup_nil⟩
theorem Forest.all_closed {cs : List Cable} {L : List Nat} {ts : List (List Ent)} (h : ∀ t ∈ ts, Closed cs L (keys t)) : Closed cs L (keys ts.flatten) := by
  induction ts with
  | nil => intro m hm; cases hm
  | cons t ts ih =>
    rw [List.flatten_cons, keys_append]
    exact (h t List.mem_cons_self).append (ih fun u hu => h u (List.mem_cons_of_mem _ hu))
theorem Forest.snoc {cs : List Cable} {L : List Nat} {ts : List (List Ent)} {s : Int} {t : List Ent} (h : Forest cs L ts) (ht : Tree cs L s t) (hc : Closed cs L (keys t)) (hs : s ∉ keys ts.flatten) : Forest cs L (ts ++ [t]) where
  tree := fun u hu => by
    rcases List.mem_append.mp hu with z | z
    · exact h.tree u z
    · rw [List.mem_singleton.mp z]; exact ⟨s, ht⟩
  closed := fun u hu => by
    rcases List.mem_append.mp hu with z | z
    · exact h.closed u z
    · rw [List.mem_singleton.mp z]; exact hc
  nodup := by
    rw [List.flatten_append, keys_append]
    simp only [List.flatten_cons, List.flatten_nil, List.append_nil]
    exact List.nodup_append.mpr ⟨h.nodup, ht.nodup, fun x hx y hy z => ht.apart (Forest.all_closed h.closed) hs y hy (by rw [← z]; exact hx)⟩
/-- the places of es, in their order -/
def gone (es : List Ent) : List Nat := es.filterMap (·.2)
theorem mem_gone {es : List Ent} {p : Nat} : p ∈ gone es ↔ ∃ (i : Nat) (m : Int), es[i]? = some (m, some p) := by
  unfold gone
  rw [List.mem_filterMap]
  constructor
  · rintro ⟨⟨m, o⟩, h, e⟩
    obtain ⟨i, hi, e'⟩ := List.mem_iff_getElem.mp h
    refine ⟨i, m, ?_⟩
    rw [List.getElem?_eq_getElem hi, e']
    have e2 : o = some p := e
    rw [e2]
  · rintro ⟨i, m, h⟩
    exact ⟨(m, some p), List.mem_of_getElem? h, rfl⟩
theorem gone_append (a b : List Ent) : gone (a ++ b) = gone a ++ gone b := by unfold gone; exact List.filterMap_append
/-- as each tree is reached, so is what they make together -/
theorem reached_flat {cs : List Cable} {L : List Nat} : ∀ (ts : List (List Ent)), (∀ t ∈ ts, Reached cs L t) → Reached cs L ts.flatten
  | [], _ => fun i m p e => by cases e
  | t :: ts, h => fun i m p e => by
    rw [List.flatten_cons] at e ⊢
    by_cases hi : i < t.length
    · rw [List.getElem?_append_left hi] at e
      obtain ⟨a, c, b, d, j, o, hj, e'⟩ := h t List.mem_cons_self i m p e
      exact ⟨a, c, b, d, j, o, hj, by rw [List.getElem?_append_left (by omega)]; exact e'⟩
    · rw [List.getElem?_append_right (by omega)] at e
      obtain ⟨a, c, b, d, j, o, hj, e'⟩ := reached_flat ts (fun u hu => h u (List.mem_cons_of_mem _ hu)) _ m p e
      exact ⟨a, c, b, d, j + t.length, o, by omega, by rw [List.getElem?_append_right (by omega), Nat.add_sub_cancel]; exact e'⟩
theorem key_at {es : List Ent} (nd : (keys es).Nodup) {i j : Nat} {m : Int} {o o' : Option Nat} (h1 : es[i]? = some (m, o)) (h2 : es[j]? = some (m, o')) : i = j := by
  have g1 : (keys es)[i]? = some m := by unfold keys; rw [List.getElem?_map, h1]; rfl
  have g2 : (keys es)[j]? = some m := by unfold keys; rw [List.getElem?_map, h2]; rfl
  obtain ⟨l1, e1⟩ := List.getElem?_eq_some_iff.mp g1
  obtain ⟨l2, e2⟩ := List.getElem?_eq_some_iff.mp g2
  rcases Nat.lt_trichotomy i j with z | z | z
  · exact absurd (e1.trans e2.symm) ((List.pairwise_iff_getElem.mp nd) i j l1 l2 z)
  · exact z
  · exact absurd (e2.trans e1.symm) ((List.pairwise_iff_getElem.mp nd) j i l2 l1 z)
theorem has_ends {c : Cable} {m x : Int} (h : Has c m) (hx : Has c x) : x = m ∨ x = farI c m := by
  unfold Has farI at *
  by_cases e : c.1 = m
  · rw [if_pos e]
    rcases hx with z | z
    · exact .inl (z.symm.trans e)
    · exact .inr z.symm
  · rw [if_neg e]
    rcases hx with z | z
    · exact .inr z.symm
    · exact .inl (z.symm.trans (h.resolve_left e))
/-- a cable brings one mast only -/
theorem gone_once {cs : List Cable} {L : List Nat} {es : List Ent} (hr : Reached cs L es) (nd : (keys es).Nodup) {i j : Nat} {m x : Int} {p : Nat} (h1 : es[i]? = some (m, some p)) (h2 : es[j]? = some (x, some p)) : i = j := by
  have half : ∀ {i j : Nat} {m x : Int}, es[i]? = some (m, some p) → es[j]? = some (x, some p) → ¬ i < j := fun {i j m x} h1 h2 hij => by
    obtain ⟨_, c, ec, hm, k, o, hk, ek⟩ := hr i m p h1
    obtain ⟨_, c', ec', hx, _⟩ := hr j x p h2
    rw [ec] at ec'
    cases ec'
    rcases has_ends hm hx with z | z
    · rw [z] at h2
      exact absurd (key_at nd h1 h2) (by omega)
    · rw [z] at h2
      exact absurd (key_at nd ek h2) (by omega)
  rcases Nat.lt_trichotomy i j with z | z | z
  · exact absurd z (half h1 h2)
  · exact z
  · exact absurd z (half h2 h1)
theorem gone_nodup {cs : List Cable} {L : List Nat} : ∀ {es : List Ent}, Reached cs L es → (keys es).Nodup → (gone es).Nodup := by
  intro es hr nd
  have all : ∀ (n : Nat), (gone (es.take n)).Nodup := by
    intro n
    induction n with
    | zero => exact List.nodup_nil
    | succ n ih =>
      by_cases hn : n < es.length
      · rw [List.take_succ_eq_append_getElem hn, gone_append]
        cases ho : es[n].2 with
        | none =>
          have : gone [es[n]] = [] := by simp [gone, ho]
          rw [this, List.append_nil]; exact ih
        | some p =>
          have hg : gone [es[n]] = [p] := by simp [gone, ho]
          rw [hg]
          refine List.nodup_append.mpr ⟨ih, by simp, fun x hx y hy z => ?_⟩
          rw [List.mem_singleton] at hy
          obtain ⟨i, m, e⟩ := mem_gone.mp hx
          have hi : i < n := by
            have := (List.getElem?_eq_some_iff.mp e).1
            rw [List.length_take] at this; omega
          rw [List.getElem?_take_of_lt hi, z, hy] at e
          have e2 : es[n]? = some (es[n].1, some p) := by rw [List.getElem?_eq_getElem hn, ← ho]
          exact absurd (gone_once hr nd e e2) (by omega)
      · rw [List.take_of_length_le (by omega)]
        rw [List.take_of_length_le (by omega)] at ih
        exact ih
  have := all es.length
  rwa [List.take_length] at this
/-! ### how many -/
theorem same_far {cs : List Cable} {hs : List Int} {p : Nat} {c : Cable} {m : Int} (h : Same1 cs hs p) (hc : cs[p]? = some c) (hm : Has c m) : lab hs m = lab hs (farI c m) := by
  have e := h c hc
  unfold farI
  rcases hm with z | z
  · rw [if_pos z, ← z]; exact e
  · by_cases y : c.1 = m
    · rw [if_pos y, ← y]; exact e
    · rw [if_neg y, ← z]; exact e.symm
theorem tree_lab {cs : List Cable} {L : List Nat} {s : Int} {t : List Ent} {hs : List Int} (h : Tree cs L s t) (hg : ∀ p ∈ gone t, Same1 cs hs p) : ∀ m ∈ keys t, lab hs m = lab hs s := by
  have all : ∀ (n i : Nat) (m : Int) (o : Option Nat), i < n → t[i]? = some (m, o) → lab hs m = lab hs s := by
    intro n
    induction n with
    | zero => intro i m o hi; exact absurd hi (Nat.not_lt_zero _)
    | succ n ih =>
      intro i m o hi e
      by_cases h0 : i = 0
      · subst h0
        rw [h.head] at e
        cases e
        rfl
      · cases o with
        | none => exact absurd rfl (h.rest i m none e h0)
        | some p =>
          obtain ⟨hp, c, ec, hh, j, o', hj, e'⟩ := h.reached i m p e
          rw [same_far (hg p (mem_gone.mpr ⟨i, m, e⟩)) ec hh]
          exact ih j _ o' (by omega) e'
  intro m hm
  obtain ⟨i, o, e⟩ := mem_keys.mp hm
  exact all (i + 1) i m o (Nat.lt_succ_self _) e
theorem mem_gone_flat {ts : List (List Ent)} {t : List Ent} (ht : t ∈ ts) {p : Nat} (h : p ∈ gone t) : p ∈ gone ts.flatten := by
  unfold gone at *
  obtain ⟨e, he, q⟩ := List.mem_filterMap.mp h
  exact List.mem_filterMap.mpr ⟨e, List.mem_flatten.mpr ⟨t, ht, he⟩, q⟩
theorem mem_keys_flat {ts : List (List Ent)} {m : Int} : m ∈ keys ts.flatten ↔ ∃ t ∈ ts, m ∈ keys t := by
  unfold keys
  rw [List.mem_map]
  constructor
  · rintro ⟨e, he, rfl⟩
    obtain ⟨t, ht, h⟩ := List.mem_flatten.mp he
    exact ⟨t, ht, List.mem_map.mpr ⟨e, h, rfl⟩⟩
  · rintro ⟨t, ht, h⟩
    obtain ⟨e, he, rfl⟩ := List.mem_map.mp h
    exact ⟨e, List.mem_flatten.mpr ⟨t, ht, he⟩, rfl⟩
theorem run_self {cs : List Cable} {n : Nat} (hN : InN cs n) (t : List Nat) : (runK cs n (runK cs n t).2).2 = (runK cs n t).2 := by
  have := run_part hN (fun _ => true) t
  rw [List.filter_eq_self.mpr fun _ _ => rfl] at this
  exact this
/-- labels under which the ends of each cable of L are alike make the ends of all joined masts alike -/
theorem coarse_of {cs : List Cable} {n : Nat} (hN : InN cs n) {L : List Nat} {hs : List Int} (hl : hs.length = n) (h : ∀ p ∈ L, Same1 cs hs p) : Coarse (runK cs n L).1 hs := by
  have hi := init_length n
  refine fold_fine L (initK n) (by rw [hi]; exact hN) ⟨by rw [hi, hl], fun i j hi' hj' e => ?_⟩ h
  -- no two masts bear one label at first
  have nd := init_nodup n
  obtain ⟨l1, e1⟩ : ∃ l, (initK n).1[i]'l = (initK n).1[i] := ⟨hi', rfl⟩
  rw [List.getElem?_eq_getElem hi', List.getElem?_eq_getElem hj'] at e
  have e' := Option.some.inj e
  have : i = j := by
    rcases Nat.lt_trichotomy i j with z | z | z
    · exact absurd e' ((List.pairwise_iff_getElem.mp nd) i j hi' hj' z)
    · exact z
    · exact absurd e'.symm ((List.pairwise_iff_getElem.mp nd) j i hj' hi' z)
  rw [this]
theorem gone_count {cs : List Cable} {n : Nat} (hN : InN cs n) {t : List Nat} {L : List Nat} (nd : L.Nodup) (hL : ∀ p, p ∈ L ↔ p ∈ (runK cs n t).2) {ts : List (List Ent)} (F : Forest cs L ts) (hall : ∀ m : Int, 0 ≤ m → m < (n : Int) → m ∈ keys ts.flatten)
    (hpos : ∀ c ∈ cs, 0 ≤ c.1 ∧ 0 ≤ c.2.1) : (gone ts.flatten).length = L.length := by
  have hr : Reached cs L ts.flatten := reached_flat ts fun u hu => by
    obtain ⟨s, h⟩ := F.tree u hu
    exact h.reached
  have sub : ∀ p ∈ gone ts.flatten, p ∈ L := fun p hp => by
    obtain ⟨i, m, e⟩ := mem_gone.mp hp
    exact (hr i m p e).1
  refine Nat.le_antisymm (len_le (gone_nodup hr F.nodup) sub) ?_
  have hsl : (runK cs n (gone ts.flatten)).1.length = n := runK_length cs n _
  have hin : InN cs (initK n).1.length := by rw [init_length]; exact hN
  have same : ∀ p ∈ gone ts.flatten, Same1 cs (runK cs n (gone ts.flatten)).1 p := fun p hp => fold_same (gone ts.flatten) (initK n) hin p hp
  have hA : ∀ p ∈ (runK cs n t).2, Same1 cs (runK cs n (gone ts.flatten)).1 p := fun p hp c hc => by
    have hpL := (hL p).mpr hp
    have hcm := List.mem_of_getElem? hc
    obtain ⟨h1, h2⟩ := hN c hcm
    obtain ⟨g1, g2⟩ := hpos c hcm
    obtain ⟨u, hu, hm⟩ := mem_keys_flat.mp (hall c.1 g1 (by omega))
    obtain ⟨s, T⟩ := F.tree u hu
    have lb := tree_lab T fun q hq => same q (mem_gone_flat hu hq)
    have hb := F.closed u hu c.1 hm p hpL c hc (.inl rfl)
    have e : farI c c.1 = c.2.1 := by unfold farI; rw [if_pos rfl]
    rw [e] at hb
    rw [lb _ hm, lb _ hb]
  have co := coarse_of hN hsl hA
  have k1 := run_count hN (runK cs n t).2
  rw [run_self hN] at k1
  have k2 := run_count hN (gone ts.flatten)
  have k3 := co.nl
  have k4 := runK_places cs n (gone ts.flatten)
  have k5 : L.length = (runK cs n t).2.length := Nat.le_antisymm (len_le nd fun p hp => (hL p).mp hp) (len_le (run_nodup hN t) fun p hp => (hL p).mpr hp)
  omega
end Ml

namespace Ml
open PySem PySem.Spec PyProof.Rows L2
/-! ### the dict of masts reached -/
def encO : Option Nat → V
  | none => .non
  | some p => .int (p : Int)
def encE (e : Ent) : Key × V := (.inl e.1, encO e.2)
def encD (es : List Ent) : List (Key × V) := es.map encE
theorem encD_keys (es : List Ent) (m : Int) : (encD es).any (fun kv => decide (kv.1 = Sum.inl m)) = decide (m ∈ keys es) := by
  rw [Bool.eq_iff_iff, List.any_eq_true, decide_eq_true_eq]
  unfold encD keys
  constructor
  · rintro ⟨kv, h, e⟩
    obtain ⟨x, hx, rfl⟩ := List.mem_map.mp h
    have e' : (Sum.inl x.1 : Key) = Sum.inl m := of_decide_eq_true e
    exact List.mem_map.mpr ⟨x, hx, Sum.inl.inj e'⟩
  · intro h
    obtain ⟨x, hx, rfl⟩ := List.mem_map.mp h
    exact ⟨encE x, List.mem_map.mpr ⟨x, hx, rfl⟩, decide_eq_true rfl⟩
theorem val_in {es : List Ent} {m : Int} : (valV (encD es) (.inl m)).isSome = decide (m ∈ keys es) := by rw [← valV_any, encD_keys]
theorem val_none {es : List Ent} {m : Int} (h : m ∉ keys es) : valV (encD es) (.inl m) = none := by
  have := val_in (es := es) (m := m)
  rw [decide_eq_false h] at this
  cases hv : valV (encD es) (.inl m) with
  | none => rfl
  | some v => rw [hv] at this; cases this
theorem put_new {es : List Ent} {m : Int} {p : Nat} (h : m ∉ keys es) : putK (encD es) (.inl m) (.int (p : Int)) = encD (es ++ [(m, some p)]) := by
  rw [putK_new _ (val_none h)]
  unfold encD
  rw [List.map_append]; rfl
theorem merge_apart : ∀ (b a : List Ent), (keys (a ++ b)).Nodup → mergeK (encD a) (encD b) = encD (a ++ b)
  | [], a, _ => by rw [List.append_nil]; rfl
  | e :: b, a, nd => by
    have h1 : e.1 ∉ keys a := fun z => by
      rw [keys_append] at nd
      exact (List.nodup_append.mp nd).2.2 _ z _ List.mem_cons_self rfl
    have h2 : putK (encD a) (encE e).1 (encE e).2 = encD (a ++ [e]) := by
      show putK (encD a) (.inl e.1) (encO e.2) = _
      rw [putK_new _ (val_none h1)]
      unfold encD
      rw [List.map_append]; rfl
    show mergeK (putK (encD a) (encE e).1 (encE e).2) (encD b) = _
    rw [h2, merge_apart b (a ++ [e]) (by rw [List.append_assoc]; exact nd), List.append_assoc]; rfl
theorem val_at {es : List Ent} (nd : (keys es).Nodup) {i : Nat} {m : Int} {o : Option Nat} (h : es[i]? = some (m, o)) : valV (encD es) (.inl m) = some (encO o) := by
  induction es generalizing i with
  | nil => cases h
  | cons e es ih =>
    obtain ⟨n1, n2⟩ := List.nodup_cons.mp nd
    match i, h with
    | 0, h =>
      cases h
      exact valV_pos (p := encE (m, o)) rfl
    | i + 1, h =>
      have hm : m ∈ keys es := mem_keys.mpr ⟨i, o, h⟩
      have hne : ¬ (encE e).1 = Sum.inl m := fun z => n1 (by
        have z' : e.1 = m := Sum.inl.inj z
        have : e.1 ∈ keys es := by rw [z']; exact hm
        exact this)
      show valV (encE e :: encD es) _ = _
      rw [valV_neg hne]
      exact ih n2 h
/-! ### the laid places of each mast -/
def ByM (H : Hp) (b : Addr) (cs : List Cable) (L : List Nat) (n : Nat) : Prop := ∃ rs : List Addr, H b = some (.lst (rs.map V.ref)) ∧ rs.length = n ∧
  ∀ (i : Nat) (r : Addr), rs[i]? = some r → ∃ ps : List Nat, H r = some (.lst (natVs ps)) ∧ ps.length ≤ 200 ∧ ∀ p, p ∈ ps ↔ p ∈ L ∧ ∃ c, cs[p]? = some c ∧ Has c (i : Int)
theorem ByM.same {H H' : Hp} {b : Addr} {cs : List Cable} {L : List Nat} {n : Nat} (h : ByM H b cs L n) (s : Same H H') : ByM H' b cs L n := by
  obtain ⟨rs, e, l, q⟩ := h
  refine ⟨rs, s _ _ e, l, fun i r hr => ?_⟩
  obtain ⟨ps, e1, e2, e3⟩ := q i r hr
  exact ⟨ps, s _ _ e1, e2, e3⟩
/-- while it is made -/
structure BMs (H0 H : Hp) (b : Addr) (rs : List Addr) (f : Nat → List Nat) (n : Nat) : Prop where
  lst : H b = some (.lst (rs.map V.ref))
  len : rs.length = n
  nd : rs.Nodup
  at_ : ∀ (i : Nat) (r : Addr), rs[i]? = some r → H r = some (.lst (natVs (f i))) ∧ H0 r = none
  same : Same H0 H
  nb : H0 b = none
  out : b ∉ rs
theorem BMs.app {H0 H : Hp} {b : Addr} {rs : List Addr} {f : Nat → List Nat} {n k : Nat} {r : Addr} {p : Nat} (h : BMs H0 H b rs f n) (hk : rs[k]? = some r) :
    BMs H0 (upd H r (.lst (natVs (f k) ++ [.int (p : Int)]))) b rs (fun i => if i = k then f i ++ [p] else f i) n where
  lst := by
    rw [upd_ne (fun z => h.out (by rw [z]; exact List.mem_of_getElem? hk))]
    exact h.lst
  len := h.len
  nd := h.nd
  at_ := fun i r' hr => by
    refine ⟨?_, (h.at_ i r' hr).2⟩
    by_cases e : i = k
    · subst e
      rw [hk] at hr
      cases hr
      rw [upd_same, if_pos rfl, natVs, natVs, List.map_append]; rfl
    · rw [if_neg e, upd_ne]
      · exact (h.at_ i r' hr).1
      · intro z
        subst z
        obtain ⟨l1, e1⟩ := List.getElem?_eq_some_iff.mp hr
        obtain ⟨l2, e2⟩ := List.getElem?_eq_some_iff.mp hk
        rcases Nat.lt_trichotomy i k with z | z | z
        · exact (List.pairwise_iff_getElem.mp h.nd) i k l1 l2 z (e1.trans e2.symm)
        · exact e z
        · exact (List.pairwise_iff_getElem.mp h.nd) k i l2 l1 z (e2.trans e1.symm)
  same := fun c o e => by rw [upd_ne (ne_of_none e (h.at_ k r hk).2)]; exact h.same c o e
  nb := h.nb
  out := h.out
/-- what is laid, as places -/
theorem laid_nats {ms : List Int} {A : List Nat} (h : ms.Perm (natIs A)) : ∃ L : List Nat, ms = natIs L ∧ L.Perm A := by
  refine ⟨ms.map Int.toNat, ?_, ?_⟩
  · unfold natIs
    rw [List.map_map]
    have : ∀ m ∈ ms, m = ((fun (i : Nat) => (i : Int)) ∘ Int.toNat) m := fun m hm => by
      have hm' := h.mem_iff.mp hm
      unfold natIs at hm'
      obtain ⟨j, _, rfl⟩ := List.mem_map.mp hm'
      show (j : Int) = (((j : Int).toNat : Nat) : Int)
      omega
    exact (List.map_id ms).symm.trans (List.map_congr_left this)
  · have := h.map Int.toNat
    unfold natIs at this
    rw [List.map_map] at this
    have e : A.map (Int.toNat ∘ fun (i : Nat) => (i : Int)) = A := by
      have : ∀ a ∈ A, (Int.toNat ∘ fun (i : Nat) => (i : Int)) a = id a := fun a _ => by show ((a : Int).toNat) = a; omega
      rw [List.map_congr_left this, List.map_id]
    rw [e] at this
    exact this
end Ml

namespace Ml
open PySem L2
/-! ### ways -/
def Path (cs : List Cable) (L : List Nat) : Int → Int → List Nat → Prop
  | a, b, [] => a = b
  | a, b, p :: r => p ∈ L ∧ ∃ c, cs[p]? = some c ∧ Has c a ∧ Path cs L (farI c a) b r
theorem Path.snoc {cs : List Cable} {L : List Nat} {p : Nat} {c : Cable} (hp : p ∈ L) (hc : cs[p]? = some c) : ∀ {r : List Nat} {a m : Int}, Path cs L a m r → Has c m → Path cs L a (farI c m) (r ++ [p])
  | [], a, m, h, hh => by
    have e : a = m := h
    subst e
    exact ⟨hp, c, hc, hh, rfl⟩
  | x :: r, a, m, ⟨h1, c', h2, h3, h4⟩, hh => ⟨h1, c', h2, h3, Path.snoc hp hc h4 hh⟩
theorem Path.mono {cs : List Cable} {L L' : List Nat} (h : ∀ p ∈ L, p ∈ L') : ∀ {r : List Nat} {a b : Int}, Path cs L a b r → Path cs L' a b r
  | [], _, _, e => e
  | x :: r, _, _, ⟨h1, c', h2, h3, h4⟩ => ⟨h x h1, c', h2, h3, Path.mono h h4⟩
theorem Path.mem {cs : List Cable} {L : List Nat} : ∀ {r : List Nat} {a b : Int}, Path cs L a b r → ∀ p ∈ r, p ∈ L
  | x :: r, _, _, ⟨h1, _, _, _, h4⟩, p, hp => by
    rcases List.mem_cons.mp hp with e | hp
    · rw [e]; exact h1
    · exact h4.mem p hp
theorem Path.split {cs : List Cable} {L : List Nat} {q : Nat} : ∀ {r : List Nat} {a b : Int}, Path cs L a b r → q ∈ r → ∃ r1 r2 x c, r = r1 ++ q :: r2 ∧ Path cs L a x r1 ∧ cs[q]? = some c ∧ Has c x ∧ Path cs L (farI c x) b r2
  | p :: r, a, b, ⟨h1, c, h2, h3, h4⟩, hq => by
    by_cases e : q = p
    · subst e
      exact ⟨[], r, a, c, rfl, rfl, h2, h3, h4⟩
    · have hq' : q ∈ r := (List.mem_cons.mp hq).resolve_left e
      obtain ⟨r1, r2, x, c', e1, e2, e3, e4, e5⟩ := h4.split hq'
      exact ⟨p :: r1, r2, x, c', by rw [e1]; rfl, ⟨h1, c, h2, h3, e2⟩, e3, e4, e5⟩
theorem Path.lab {cs : List Cable} {L : List Nat} {hs : List Int} : ∀ {r : List Nat} {a b : Int}, Path cs L a b r → (∀ p ∈ r, Same1 cs hs p) → lab hs a = lab hs b
  | [], a, b, e, _ => by
    have e' : a = b := e
    rw [e']
  | p :: r, a, b, ⟨h1, c, h2, h3, h4⟩, h => by
    rw [same_far (h p List.mem_cons_self) h2 h3]
    exact h4.lab fun q hq => h q (List.mem_cons_of_mem _ hq)
/-- what was left out changed nothing -/
theorem run_all {cs : List Cable} {n : Nat} (t : List Nat) : runK cs n (runK cs n t).2 = runK cs n t := by
  have key : ∀ (t : List Nat) (st : KSt), runK cs n st.2 = st → runK cs n (t.foldl (stepK cs) st).2 = t.foldl (stepK cs) st := by
    intro t
    induction t with
    | nil => intro st h; exact h
    | cons j t ih =>
      intro st h
      rw [List.foldl_cons]
      refine ih _ ?_
      unfold stepK
      split
      · exact h
      · rename_i c hc
        split
        · exact h
        · rename_i hne
          show runK cs n (st.2 ++ [j]) = _
          unfold runK at h ⊢
          rw [List.foldl_append, h]
          show stepK cs st j = _
          unfold stepK
          rw [hc]
          dsimp only
          rw [if_neg hne]
  exact key t (initK n) rfl
theorem coarse_run {cs : List Cable} {n : Nat} (hN : InN cs n) {t : List Nat} {hs : List Int} (hl : hs.length = n) (h : ∀ p ∈ (runK cs n t).2, Same1 cs hs p) : Coarse (runK cs n t).1 hs := by
  have := coarse_of hN hl h
  rw [run_all] at this
  exact this
theorem coarse_lab {gs hs : List Int} (co : Coarse gs hs) {a b : Int} (ha : a.toNat < gs.length) (hb : b.toNat < gs.length) (e : lab gs a = lab gs b) : lab hs a = lab hs b := by
  have := co.2 _ _ ha hb (by rw [lab_get gs ha, lab_get gs hb, e])
  rw [lab_get hs (by rw [← co.1]; exact ha), lab_get hs (by rw [← co.1]; exact hb)] at this
  exact Option.some.inj this
/-- a lot closed under the laid cables holds both of two joined masts, or neither -/
theorem closed_both {cs : List Cable} {n : Nat} (hN : InN cs n) (hpos : ∀ c ∈ cs, 0 ≤ c.1 ∧ 0 ≤ c.2.1) {t L : List Nat} (hL : ∀ p, p ∈ L ↔ p ∈ (runK cs n t).2) {ks : List Int} (hc : Closed cs L ks) {a b : Int} (ha0 : 0 ≤ a) (hb0 : 0 ≤ b) (ha : a.toNat < n) (hb : b.toNat < n)
    (e : lab (runK cs n t).1 a = lab (runK cs n t).1 b) (hin : b ∈ ks) : a ∈ ks := by
  let hs : List Int := (List.range n).map fun i => if ((i : Nat) : Int) ∈ ks then 1 else 0
  have hl : hs.length = n := by simp [hs]
  have at_ : ∀ m : Int, 0 ≤ m → m.toNat < n → lab hs m = if m ∈ ks then 1 else 0 := fun m h0 hm => by
    unfold lab
    rw [List.getD_eq_getElem?_getD]
    simp only [hs, List.getElem?_map, List.getElem?_range hm, Option.map_some, Option.getD_some]
    rw [show ((m.toNat : Nat) : Int) = m by omega]
  have co := coarse_run hN (t := t) hl fun p hp c hc' => by
    have hcm := List.mem_of_getElem? hc'
    obtain ⟨n1, n2⟩ := hN c hcm
    obtain ⟨p1, p2⟩ := hpos c hcm
    have pL := (hL p).mpr hp
    rw [at_ _ p1 n1, at_ _ p2 n2]
    have f1 : farI c c.1 = c.2.1 := by unfold farI; rw [if_pos rfl]
    have i1 : c.1 ∈ ks → c.2.1 ∈ ks := fun z => by
      have := hc _ z p pL c hc' (.inl rfl)
      rw [f1] at this
      exact this
    have i2 : c.2.1 ∈ ks → c.1 ∈ ks := fun z => by
      have := hc _ z p pL c hc' (.inr rfl)
      by_cases e : c.1 = c.2.1
      · rw [e]; exact z
      · unfold farI at this
        rw [if_neg e] at this
        exact this
    by_cases z : c.1 ∈ ks
    · rw [if_pos z, if_pos (i1 z)]
    · rw [if_neg z, if_neg fun y => z (i2 y)]
  have el := coarse_lab co (by rw [runK_length]; exact ha) (by rw [runK_length]; exact hb) e
  rw [at_ a ha0 ha, at_ b hb0 hb, if_pos hin] at el
  by_cases z : a ∈ ks
  · exact z
  · rw [if_neg z] at el
    cases el
/-- the ends of what is left out are joined -/
theorem left_same {cs : List Cable} {n : Nat} (hN : InN cs n) {t : List Nat} {k : Nat} (hk : k ∈ t) : Same1 cs (runK cs n t).1 k := fold_same t (initK n) (by rw [init_length]; exact hN) k hk
/-- without one of the laid cables its ends are apart -/
theorem apart_without {cs : List Cable} {n : Nat} (hN : InN cs n) {t : List Nat} {q : Nat} (hq : q ∈ (runK cs n t).2) : ¬ Same1 cs (runK cs n ((runK cs n t).2.filter fun p => decide (p ≠ q))).1 q := by
  intro h
  have hin : InN cs (initK n).1.length := by rw [init_length]; exact hN
  have hs : ∀ p ∈ (runK cs n t).2, Same1 cs (runK cs n ((runK cs n t).2.filter fun p => decide (p ≠ q))).1 p := fun p hp => by
    by_cases e : p = q
    · rw [e]; exact h
    · exact fold_same _ (initK n) hin p (List.mem_filter.mpr ⟨hp, decide_eq_true e⟩)
  have co := coarse_run hN (t := t) (runK_length cs n _) hs
  have k1 := run_count hN t
  have k2 := run_count hN ((runK cs n t).2.filter fun p => decide (p ≠ q))
  have k3 := co.nl
  have k4 := runK_places cs n ((runK cs n t).2.filter fun p => decide (p ≠ q))
  have k5 : ((runK cs n t).2.filter fun p => decide (p ≠ q)).length < (runK cs n t).2.length := by
    refine List.length_filter_lt_length_iff_exists.mpr ⟨q, hq, by simp⟩
  omega
theorem same_of_ends {cs : List Cable} {hs : List Int} {q : Nat} {c : Cable} {x : Int} (hc : cs[q]? = some c) (hx : Has c x) (e : lab hs x = lab hs (farI c x)) : Same1 cs hs q := fun c' hc' => by
  rw [hc] at hc'
  cases hc'
  unfold farI at e
  rcases hx with z | z
  · rw [if_pos z, ← z] at e; exact e
  · by_cases y : c.1 = x
    · rw [if_pos y, ← y] at e; exact e
    · rw [if_neg y, ← z] at e; exact e.symm
/-- each cable of the way round a cable that is left out is before it -/
theorem path_before {cs : List Cable} {n : Nat} (hN : InN cs n) {t : List Nat} (ht : IsTurn cs t) {k : Nat} {ck : Cable} (hk : k ∈ t) (hck : cs[k]? = some ck) (hout : k ∉ (runK cs n t).2) {r : List Nat} (hr : Path cs (runK cs n t).2 ck.1 ck.2.1 r) (nd : r.Nodup) {q : Nat} (hq : q ∈ r) : before cs q k = true := by
  have hqA := hr.mem q hq
  have hqt : q ∈ t := run_mem hqA
  have hqk : q ≠ k := fun e => hout (by rw [← e]; exact hqA)
  have tnd : t.Nodup := ht.perm.nodup_iff.mpr List.nodup_range
  obtain ⟨u, v, e⟩ := List.append_of_mem hk
  subst e
  have asc := ht.asc
  rcases List.mem_append.mp hqt with hu | hv
  · exact (List.pairwise_append.mp asc).2.2 q hu k List.mem_cons_self
  · exfalso
    have hqv : q ∈ v := (List.mem_cons.mp hv).resolve_left hqk
    have hqu : q ∉ u := fun z => (List.nodup_append.mp tnd).2.2 q z q hv rfl
    -- at its turn the ends bore one label
    have hrun : runK cs n (u ++ k :: v) = v.foldl (stepK cs) (stepK cs (runK cs n u) k) := by
      unfold runK; rw [List.foldl_append]; rfl
    have same : lab (runK cs n u).1 ck.1 = lab (runK cs n u).1 ck.2.1 := by
      by_cases z : lab (runK cs n u).1 ck.1 = lab (runK cs n u).1 ck.2.1
      · exact z
      · exfalso
        apply hout
        rw [hrun]
        refine fold_keep v _ k ?_
        unfold stepK
        rw [hck]
        dsimp only
        rw [if_neg z]
        exact List.mem_append_right _ (List.mem_singleton.mpr rfl)
    have hin : InN cs (initK n).1.length := by rw [init_length]; exact hN
    have hsame : ∀ p ∈ (runK cs n (u ++ k :: v)).2, p ≠ q → Same1 cs (runK cs n ((runK cs n (u ++ k :: v)).2.filter fun p => decide (p ≠ q))).1 p := fun p hp hne => fold_same _ (initK n) hin p (List.mem_filter.mpr ⟨hp, decide_eq_true hne⟩)
    have hl : (runK cs n ((runK cs n (u ++ k :: v)).2.filter fun p => decide (p ≠ q))).1.length = n := runK_length cs n _
    have apart := apart_without hN hqA
    generalize (runK cs n ((runK cs n (u ++ k :: v)).2.filter fun p => decide (p ≠ q))).1 = hs at hsame hl apart
    have keep : ∀ p ∈ (runK cs n u).2, p ∈ (runK cs n (u ++ k :: v)).2 := fun p hp => by
      rw [hrun]
      refine fold_keep v _ p ?_
      unfold stepK
      split
      · exact hp
      · split
        · exact hp
        · exact List.mem_append_left _ hp
    have co := coarse_run hN (t := u) hl fun p hp => hsame p (keep p hp) fun z => hqu (by rw [← z]; exact run_mem hp)
    obtain ⟨n1, n2⟩ := hN.at hck
    have e1 := coarse_lab co (by rw [runK_length]; exact n1) (by rw [runK_length]; exact n2) same
    obtain ⟨r1, r2, x, c, er, p1, hc, hx, p2⟩ := hr.split hq
    rw [er] at nd
    obtain ⟨nd1, nd2, nd3⟩ := List.nodup_append.mp nd
    have hr1 : ∀ p ∈ r1, Same1 cs hs p := fun p hp => hsame p (p1.mem p hp) fun z => nd3 p hp q List.mem_cons_self z
    have hr2 : ∀ p ∈ r2, Same1 cs hs p := fun p hp => hsame p (p2.mem p hp) fun z => (List.nodup_cons.mp nd2).1 (by rw [← z]; exact hp)
    have e2 := p1.lab hr1
    have e3 := p2.lab hr2
    exact apart (same_of_ends hc hx (by rw [← e2, e3]; exact e1))
end Ml

namespace Ml
open PySem PySem.Spec PyProof.Rows L2

/-! ### an exception of the class at C in flight behind a call -/
def CXn (P : Program) (w : World) (C : Addr) : CXT := fun outer H s E e s' => ∃ (a : Addr) (B : Heap) (a0 : Value) (H' : Hp), e = .ref a ∧ s'.os = s.os ∧ AllBare s'.gens ∧ Un (frs outer) [] H H' s.heap s'.heap ∧
  (∀ b o, s.heap.get? b = some o → H b = none → b ∉ frs outer → B.get? b = some o) ∧ (∀ b o, s.heap.get? b = some o → b ∉ frs outer → ∃ o', B.get? b = some o') ∧
  HOk P w H' B ∧ Heap.FlyingW B outer a (.ref C) a0 s'.heap ∧ E (.ref C) none H'

/-- what no exception leaves, leaves none of this kind -/
theorem FnOk_lift {P : Program} {w : World} {K : PySem.W.Frag} {mg : Str → Option Value} {base : Heap} {CX : CXT} {k : Nat} {f : Addr} {fd : FuncData} {ps : List Str} {sp : Sp} (F : FnOk P w K mg base CX0 k f fd ps sp) : FnOk P w K mg base CX k f fd ps sp :=
  ⟨F.len, fun A outer s H args us vs Q E hr he hb hv hs => codeAny_mono (F.run A outer s H args us vs Q E hr he hb hv hs) fun r s' q => by
    cases r with
    | error e => exact False.elim q
    | ok fl => cases fl <;> exact q⟩

theorem objOk_get {P : Program} {w : World} {H : Hp} {h : Heap} {a : Addr} {o : HO} (x : ObjOk P w H h a o) : ∃ u, h.get? a = some u := by
  cases o with
  | lst xs => obtain ⟨_, _, _, _, e⟩ := x; exact ⟨_, e⟩
  | tup xs => obtain ⟨_, _, _, o, e, _⟩ := x; exact ⟨o, e⟩
  | dK kvs => obtain ⟨_, _, _, _, o, _, _, e, _⟩ := x; exact ⟨o, e⟩
  | dT kvs => obtain ⟨_, _, _, _, o, _, _, e, _⟩ := x; exact ⟨o, e⟩
  | set S n => obtain ⟨o, _, _, _, e, _⟩ := x; exact ⟨o, e⟩
  | ins C dx fs => obtain ⟨_, _, _, e, _⟩ := x; exact ⟨_, e⟩
  | own y => exact x
  | xd fs => obtain ⟨_, ⟨o, _, _, e, _⟩, _⟩ := x; exact ⟨o, e⟩
  | rng lo hi => obtain ⟨_, _, _, e⟩ := x; exact ⟨_, e⟩
  | frz ob u => obtain ⟨e, _⟩ := x; exact ⟨_, e⟩
  | tbl ps => exact ⟨_, x⟩
  | met f y => exact ⟨_, x⟩
  | ext φ => exact x.2.1

/-- the slots of the frames are written, all else stays -/
theorem un_lift {l : List Env} {base B h h1 h2 : Heap} {H H' : Hp} (un : Un (frs l) [] H H' h h1) (kB : ∀ b o, h.get? b = some o → H b = none → b ∉ frs l → B.get? b = some o) (tB : ∀ b o, h.get? b = some o → b ∉ frs l → ∃ o', B.get? b = some o')
    (st : B.StaysIn h2) (sm : h1.UpToSlots h2) (F : h.FunFrames base l) (fr : ∀ b ∈ frs l, H b = none) : Un (frs l) [] H H' h h2 := by
  have slot : ∀ b o, h.get? b = some o → H b = none → b ∈ frs l → b ∉ ([] : List Addr) → ∃ sl, h2.get? b = some { o with slots := sl } := fun b o e n hb hx => by
    obtain ⟨sl, e1⟩ := un.slot b o e n hb hx
    obtain ⟨_, o', ho', hd⟩ := F.mem hb
    rw [e] at ho'
    cases ho'
    obtain ⟨sl', e2⟩ := sm b _ e1 hd
    exact ⟨sl', e2⟩
  refine ⟨fun b o e n hb _ => st b o (kB b o e n hb), slot, un.free, fun b o e hx => ?_, un.tups, un.frzs, un.tbls⟩
  by_cases hb : b ∈ frs l
  · obtain ⟨sl, e2⟩ := slot b o e (fr b hb) hb hx
    exact ⟨_, e2⟩
  · obtain ⟨o', e1⟩ := tB b o e hb
    exact ⟨o', st _ _ e1⟩
section
variable {X : Cx} {pins : List (Addr × Obj)} {σ : L2.St} {H H' : Hp} {s s' : Shared} {B h2 : Heap}
/-- from the body's state to the def's entry -/
theorem un_down (I : Inv X pins σ H s) (hex : X.ex = []) (un : Un (frs X.stack) [] H H' s.heap s'.heap) (kB : ∀ b o, s.heap.get? b = some o → H b = none → b ∉ frs X.stack → B.get? b = some o) (tB : ∀ b o, s.heap.get? b = some o → b ∉ frs X.stack → ∃ o', B.get? b = some o')
    (st : B.StaysIn h2) (sm : s'.heap.UpToSlots h2) :
    Un (frs X.outer) [] X.H₀ H' X.s₀.heap h2 ∧ (∀ b o, X.s₀.heap.get? b = some o → X.H₀ b = none → b ∉ frs X.outer → B.get? b = some o) ∧ (∀ b o, X.s₀.heap.get? b = some o → b ∉ frs X.outer → ∃ o', B.get? b = some o') := by
  have u0 : Un (frs X.outer) [] X.H₀ H X.s₀.heap s.heap := by
    have q := I.base
    rw [hex] at q
    exact q
  have nin : ∀ b o, X.s₀.heap.get? b = some o → b ∉ frs X.outer → b ∉ frs X.stack := fun b o e hb z => by
    rcases List.mem_cons.mp (I.stkSub b z) with r | r
    · exact absurd (Nat.lt_of_lt_of_le (Heap.lt_size e) I.ok.above) (by rw [r]; exact Nat.lt_irrefl _)
    · exact hb r
  have k0 : ∀ b o, X.s₀.heap.get? b = some o → X.H₀ b = none → b ∉ frs X.outer → B.get? b = some o := fun b o e n hb =>
    kB b o (u0.keep b o e n hb (by simp)) (u0.free b o e n (by simp)) (nin b o e hb)
  have t0 : ∀ b o, X.s₀.heap.get? b = some o → b ∉ frs X.outer → ∃ o', B.get? b = some o' := fun b o e hb => by
    obtain ⟨o', e1⟩ := u0.there b o e (by simp)
    exact tB b o' e1 (nin b o e hb)
  refine ⟨?_, k0, t0⟩
  have slot : ∀ b o, X.s₀.heap.get? b = some o → X.H₀ b = none → b ∈ frs X.outer → b ∉ ([] : List Addr) → ∃ sl, h2.get? b = some { o with slots := sl } := fun b o e n hb hx => by
    obtain ⟨sl, e1⟩ := u0.slot b o e n hb hx
    obtain ⟨sl1, e2⟩ := un.any e1 (u0.free b o e n hx) hx
    obtain ⟨_, o', ho', hd⟩ := I.ok.funs.mem hb
    rw [e] at ho'
    cases ho'
    obtain ⟨sl2, e3⟩ := sm b _ e2 hd
    exact ⟨sl2, e3⟩
  refine ⟨fun b o e n hb _ => st b o (k0 b o e n hb), slot, fun b o e n hx => ?_, fun b o e hx => ?_, fun b xs e => un.tups b xs (u0.tups b xs e), fun b o xs e => un.frzs b o xs (u0.frzs b o xs e), fun b ps e => ?_⟩
  · obtain ⟨o', e1⟩ := u0.there b o e hx
    exact un.free b o' e1 (u0.free b o e n hx) hx
  · by_cases hb : b ∈ frs X.outer
    · obtain ⟨sl, e2⟩ := slot b o e (I.ok.frf b hb) hb hx
      exact ⟨_, e2⟩
    · obtain ⟨o', e1⟩ := t0 b o e hb
      exact ⟨o', st _ _ e1⟩
  · obtain ⟨m1, e1⟩ := u0.tbls b ps e
    obtain ⟨m2, e2⟩ := un.tbls b _ e1
    exact ⟨m1 ++ m2, by rw [e2, Array.append_assoc]⟩
end

/-- an exception is raised here -/
def Rz (X : Cx) (C : Addr) (E : XK) : Prop := ∀ (pins : List (Addr × Obj)) (σ : L2.St) (H : Hp) (s : Shared) (e : Addr) (h' : Heap) (args : List Value), Inv X pins σ H s → Heap.MadeExcOf s.heap h' e (.ref C) args → E (.ref C) none H → X.xe (.ref e) { s with heap := h' }
section
variable {P : Program} {w : World} {K : PySem.W.Frag} {mg : Str → Option Value} {base : Heap} {N : List Str} {qual : Str} {scope : Scope} {f : Addr} {cd : Value} {A : Around} {outer : List Env} {s : Shared} {H : Hp} {E : XK} {C : Addr}
theorem rz_def : Rz (cxOf (CXn P w C) P w K mg base N qual scope f cd A outer s H E) C E := by
  intro pins σ H1 s1 e h' args I hx hE
  let stk : List Env := envOfC qual scope s.heap.objs.size f cd :: outer
  let B : Heap := PySem.W.hideAll s1.heap (frs stk)
  have inB : ∀ b o, s1.heap.get? b = some o → b ∉ frs stk → B.get? b = some o := fun b o q hb => PySem.W.hideAll_get _ q hb
  refine wpAny_leaves_madeW (base := B) (h := s1.heap) (env := envOfC qual scope s.heap.objs.size f cd) (outer := outer) (L := s.heap.objs.size) (args := args) I.ok.frames rfl (fun b o q => PySem.W.of_hideAll _ q)
    (PySem.W.funFrames_hide I.stack fun env he b hb => List.mem_filterMap.mpr ⟨env, he, hb⟩) hx fun h2 t x1 x2 x3 x4 => ?_
  obtain ⟨u, k0, t0⟩ := un_down (H' := H1) (s' := { s1 with heap := h' }) (B := B) (h2 := h2) I rfl (Un.kept hx.keeps) (fun b o q _ hb => inB b o q hb) (fun b o q hb => ⟨o, inB b o q hb⟩) x1.1 x4
  refine ⟨e, B, .ref t, H1, rfl, I.os, I.bare, u, k0, t0, fun b o q => ?_, x1, hE⟩
  have nf : ∀ c v, H1 c = some v → c ∉ frs stk := fun c v z hc => by
    have z2 := I.stkFree c hc
    rw [z2] at z; cases z
  refine (I.hok b o q).stay (fun c v hc r => inB c v r ?_) (fun _ r => r) fun _ _ r => r
  rcases hc with rfl | hc
  · exact nf _ _ q
  · exact nf _ _ hc
theorem pass_def : Passes (CXn P w C) (cxOf (CXn P w C) P w K mg base N qual scope f cd A outer s H E) E := by
  intro pins σ H1 s1 e s' I h
  obtain ⟨a, B, a0, H', rfl, os, gb, un, kB, tB, hokB, fl, hE⟩ := h
  refine wpAny_leaves_onW (env := envOfC qual scope s.heap.objs.size f cd) (outer := outer) (L := s.heap.objs.size) I.ok.frames rfl fl fun h2 x1 x2 => ?_
  obtain ⟨u, k0, t0⟩ := un_down (H' := H') (s' := s') (B := B) (h2 := h2) I rfl un kB tB x1.1 x2
  exact ⟨a, B, a0, H', rfl, os.trans I.os, gb, u, k0, t0, hokB, x1, hE⟩
/-- an end of raises passes out of a loop -/
theorem own_def : PassesOwn (model P w) (cxOf (CXn P w C) P w K mg base N qual scope f cd A outer s H E).A (cxOf (CXn P w C) P w K mg base N qual scope f cd A outer s H E).env (cxOf (CXn P w C) P w K mg base N qual scope f cd A outer s H E).xe :=
  PassesOwn.leaving
end

/-! ### raise C(e) -/
theorem cls_at {K : PySem.W.Frag} {h : Heap} {C : Addr} {bmB : List Value} {nid : String} (X : K.In h) (q : PySem.W.excIn K C bmB nid = true) : ∃ bm N nm qn bs hd sn sub ab col dd k0 k1 k2 k3 k5 mN,
    h.get? C = some (excClassObj nm qn C N bs bm hd sn sub ab col dd k0 k1 k2 k3 k5 nid) ∧ h.Ns N mN ∧ mN "__init__" = none ∧ OwnTail h bmB bm := by
  unfold PySem.W.excIn at q
  split at q
  case h_2 => cases q
  rename_i dd cls sl look
  split at q
  case h_2 => cases q
  rename_i C2 tl j0 j1 j2 j3 idn j5 hm hs
  rw [Bool.and_eq_true, Bool.and_eq_true, Bool.and_eq_true, Bool.and_eq_true, Bool.and_eq_true] at q
  obtain ⟨⟨⟨⟨⟨q1, q2⟩, q3⟩, q4⟩, q5⟩, q6⟩ := q
  have e1 := beq_iff_eq.mp q1
  have e2 := beq_iff_eq.mp q2
  have e6 := beq_iff_eq.mp q6
  subst e1 e2
  have look' := X _ _ look
  have hni := PySem.W.nsMap_none_of_in X q5 e6
  have hns := Heap.Ns.of_isNs (PySem.W.isNs_of_in X q5)
  have tail := PySem.W.tail_of_in X q4
  obtain ⟨nm, bs, mro, ns, qn, hd, sn, sub, ab, col, del⟩ := cls
  obtain ⟨sl⟩ := sl
  have hs' : sl = [j0, j1, j2, j3, some (.builtin idn), j5] := hs
  have hm' : mro = .ref C2 :: tl := hm
  have hd' : del = false := by
    have z : (!del) = true := q3
    cases del
    · rfl
    · cases z
  subst hs' hm' hd'
  exact ⟨tl, ns, nm, qn, bs, hd, sn, sub, ab, col, dd, j0, j1, j2, j3, j5, _, look', hns, hni, tail⟩

abbrev bmV : List Value := [.type "ValueError", .type "Exception", .type "BaseException", .type "object"]
def tRaise (C : Addr) (E : XK) (t : TA) : TS := fun _ σ H => t σ H fun vs H1 => vs.length ≤ sizeLine ∧ E (.ref C) none H1
theorem ps_raise {X : Cx} {C : Addr} {E : XK} {x : Str} {e : Expr} {t : TA} {np cpos pos : Pos} (hz : Rz X C E) (hc : X.calm = true) (hg : Gl X x) (hm : X.mg x = some (.ref C)) (hq : PySem.W.excIn X.K C bmV "ValueError.__new__" = true) (ha : PA X [e] t)
    (he : starEach [e] X.env = (false, eval e X.env) :: starEach [] X.env := by rfl) (hdb : (x == ("__debug__" : Str)) = false := by decide) :
    PS X (.Raise (some (.Call (.Name x np) [e] [] cpos)) none pos) (tRaise C E t) := by
  intro pins s σ H D I h
  obtain ⟨bm, N, nm, qn, bs, hd, sn, sub, ab, col, dd, k0, k1, k2, k3, k5, mN, hC, hN, hni, T⟩ := cls_at I.ok.mod.kin hq
  have FB := PySem.F.excBase_ValueError
  refine wpAny_Raise_call_subT (C := C) (nm := nm) (q := qn) (N := N) (bs := bs) (bm := bm) (hdct := hd) (sn := sn) (sub := sub) (ab := ab) (col := col) (dd := dd) (k0 := k0) (k1 := k1) (k2 := k2) (k3 := k3) (k5 := k5)
    FB (mN := mN) (T.hasType FB.hasBase) (I.ok.hd hc) (by rw [he]; rfl) hni (ld_glob I hg hm ⟨rfl, ?_⟩ hdb)
  have h1 := ha cpos pins s σ H _ I h
  rw [he] at h1 ⊢
  refine Calls.evalArgs_plain (thn h1 fun us s2 ⟨vs, H2, I2, r, hl, hE⟩ => ⟨rfl, ?_, I2.bk _ _ hC, hN.keeps I2.bk, T.keeps I2.bk, fun h' e' hx => hz pins σ H2 s2 e' h' us I2 hx hE⟩)
  show us.length ≤ sizeLine
  rw [← r.length]; exact hl

/-! ### f"a{n}b" -/
def tFmt (x y : Str) (te : TE) : TE := fun σ H Q => te σ H fun v H1 => ∃ n : Int, v = .int n ∧ 0 ≤ n ∧ n < 1000 ∧ ∀ z : Str, Q (.str z) H1
theorem fmt_len {n : Int} (h0 : 0 ≤ n) (h1 : n < 1000) : n.natAbs.log2 < 1920 := by
  have h : n.natAbs < 2 ^ 1920 := Nat.lt_of_lt_of_le (show n.natAbs < 2 ^ 10 by omega) (Nat.pow_le_pow_right (by decide) (by decide))
  by_cases hz : n.natAbs = 0
  · rw [hz]; decide
  · exact (Nat.log2_lt hz).mpr h
end Ml

namespace Ml
open PySem PySem.Spec PyProof.Rows L2

/-! ### f"a{n}b" -/
theorem pe_fmt {X : Cx} {x y : Str} {e : Expr} {te : TE} {j1 j2 : Nat} {p1 p2 p3 pos : Pos} (hx : x.length ≤ 1000) (hy : y.length ≤ 1000) (he : PE X e te) :
    PE X (.JoinedStr [.Constant (.str x) j1 p1, .FormattedValue e (-1) none p2, .Constant (.str y) j2 p3] pos) (tFmt x y te) := by
  intro pins s σ H Q I h
  have sz : sizeLine = 16777216 := by decide
  refine wpAny_JoinedStr ?_
  refine Calls.Constant_str ⟨x, _, rfl, by rw [strLen_append, sz]; show 0 + x.length ≤ _; omega, ?_⟩
  refine wpAny_FormattedValue_plain (thn (he pins _ σ H _ (I.tok _) h) fun v s2 ⟨z, H2, I2, r, n, ez, h0, h1, q⟩ => ?_)
  subst ez
  obtain ⟨tk, rfl⟩ := r
  have ln : (Str.ofString (toString n)).length ≤ 4 := by
    have := int_text_length_le10 (a := n) (k := 3) (by decide) (by omega)
    rw [PySem.ofString_length]; exact this
  refine wpAny_formatField_int (fmt_len h0 h1) ⟨_, _, rfl, ?_, ?_⟩
  · rw [strLen_append, strLen_append, sz]
    have : (Str.empty).length = 0 := rfl
    omega
  refine Calls.Constant_str ⟨y, _, rfl, ?_, ?_⟩
  · rw [strLen_append, strLen_append, strLen_append, sz]
    have : (Str.empty).length = 0 := rfl
    omega
  refine ⟨?_, .str _, H2, (I2.tok _), ⟨_, rfl⟩, q _⟩
  rw [strLen_append, strLen_append, strLen_append, sz]
  have : (Str.empty).length = 0 := rfl
  omega

/-! ### an exception that was caught -/
def excO (C a : Addr) : Heap → Prop := fun h => ∃ o, h.get? a = some o ∧ o.cls = .ref C
theorem exc_ans {K : PySem.W.Frag} {a C : Addr} {c : Value} (e : PySem.W.kitOne K (.ref C) c = some true) : Answers (fun s => K.In s.heap ∧ excO C a s.heap) (.ref a) c true := by
  intro dep tk prog w A R s hs
  obtain ⟨hp0, gg, dd, tt, ob⟩ := s
  obtain ⟨⟨X, o, ho, hc⟩, hq⟩ := hs
  have LT : PySem.W.Looks (model prog w) hp0 (typeOf (.ref a)) (.ref C) := hc ▸ (PySem.W.Looks.ld ho).andThen .now
  unfold PySem.W.kitOne at e; unfold Builtin.«isinstance.nested»; refine wpAny_bind (LT.at ?_)
  by_cases q : (Value.ref C == c) = true
  · rw [if_pos q]; first | ((repeat lk); exact hq tt) | exact wpAny_bind (wpAny_rule (hq tt)) | exact wpAny_bind (wpAny_rule (wpAny_pure (hq tt)))
  · rw [if_neg q] at e ⊢
    obtain ⟨t1, t2, t3⟩ := PySem.W.kit_cls (M := model prog w) X e
    have LI : PySem.W.Looks (model prog w) hp0 (isInstance (.ref a) c) true := LT.andThen t3
    refine wpAny_bind (t1.at ?_); rw [if_pos (by decide)]; k_delta "plainIsInstance"; refine wpAny_bind (wpAny_bind (t2.at ?_))
    (simp only [Bool.not_true, Bool.false_eq_true, if_false]; refine wpAny_bind (LI.at ?_))
    first
      | (exact wpAny_pure (wpAny_pure (hq tt)))
      | (simp only [if_true]; first | (exact wpAny_pure (wpAny_pure (hq tt))) | (exact wpAny_pure (hq tt)) | (exact wpAny_bind (wpAny_pure (wpAny_pure (hq tt)))))
/-- isinstance(e, c) of one that is -/
def rIsE (K : PySem.W.Frag) : List V → Hp → VK → Prop := fun xs H Q => ∃ a C v u, xs = [.ref a, v] ∧ RelV v u ∧ (∀ u', RelV v u' → u' = u) ∧ H a = some (.ext (excO C a)) ∧ PySem.W.kitOne K (.ref C) u = some true ∧ Q (.bl true) H
theorem call_isE {X : Cx} : CallR X (.builtin "isinstance") (rIsE X.K) := by
  intro pins s σ H xs us Q I r h
  obtain ⟨a, C, v, u, rfl, r0, uq, ea, k, q⟩ := h
  obtain ⟨u1, u2, rfl, r1, r2⟩ := vals2 r
  cases (show u1 = Value.ref a from r1)
  cases uq _ r2
  have p : excO C a s.heap := (I.hok a _ ea).1
  refine call_isinstance (S := fun _ R s => (X.K.In s.heap ∧ excO C a s.heap) ∧ ∀ tk, R (.ok (.ret (.bool true))) { s with toks := tk })
    (fun prog w A R s hs => isinstance_outer (exc_ans k 0 _ prog w A R s hs) (fun z => by cases z)) ⟨⟨I.kIn, p⟩, fun tk => ⟨.bl true, H, I.tok tk, rfl, q⟩⟩

/-! ### try: .. except C as n: .. -/
section
variable {X : Cx} {pins : List (Addr × Obj)} {σ : L2.St} {H : Hp} {s : Shared}
theorem track_at {d : Addr} {o : HO} (I : Inv X pins σ H s) (f0 : H d = none) (f1 : d ≠ X.env.locals) (f2 : ∀ x c, X.env.cells.lookup x = some c → c ≠ d) (f3 : ∀ p ∈ X.pn ++ pins, p.1 ≠ d) (hs : X.s₀.heap.get? d = none)
    (new : ObjOk X.prog X.w (upd H d o) s.heap d o) : Inv X pins σ (upd H d o) s := by
  have ne : ∀ b u, H b = some u → b ≠ d := fun b u e => ne_of_none e f0
  refine ⟨I.ok, I.os, I.bare, ⟨I.base.keep, I.base.slot, fun b u e n hx => ?_, I.base.there, fun b xs e => ?_, fun b u xs e => ?_, fun b ps e => ?_⟩, I.loc, I.cell, ?_, fun x c e => ?_, fun p hp => ?_, fun b u e => ?_, I.len⟩
  · rw [upd_ne (fun z => by rw [z, hs] at e; cases e)]; exact I.base.free b u e n hx
  · have z := I.base.tups b xs e
    rw [upd_ne (ne _ _ z)]; exact z
  · have z := I.base.frzs b u xs e
    rw [upd_ne (ne _ _ z)]; exact z
  · obtain ⟨m, z⟩ := I.base.tbls b ps e
    exact ⟨m, by rw [upd_ne (ne _ _ z)]; exact z⟩
  · rw [upd_ne (Ne.symm f1)]; exact I.free
  · rw [upd_ne (f2 x c e)]; exact I.freeC x c e
  · obtain ⟨e, n, r⟩ := I.pin p hp
    exact ⟨e, by rw [upd_ne (f3 p hp)]; exact n, r⟩
  · by_cases hb : b = d
    · subst hb
      rw [upd_same] at e
      cases e
      exact new
    · rw [upd_ne hb] at e
      exact (I.hok b u e).stay (fun _ _ _ q => q) (fun c q => by rw [upd_ne (ne c _ q)]; exact q) fun c xs q => by rw [upd_ne (ne c _ q)]; exact q
/-- the frame's names are forgotten -/
theorem gone_ok {h' : Heap} {m' : Str → Option Value} {t' : Nat} (I : Inv X pins σ H s) (hn : h'.Ns X.env.locals m') (hs : Heap.SameBut X.env.locals s.heap h') : Inv X pins (List.replicate X.N.length none) H { s with heap := h', toks := t' } := by
  have neL : ∀ b o, X.s₀.heap.get? b = some o → b ≠ X.env.locals := fun b o e => Nat.ne_of_lt (Nat.lt_of_lt_of_le (Heap.lt_size e) I.ok.above)
  refine ⟨I.ok, I.os, I.bare, ⟨fun b o e n hb hx => (hs.2 b (neL b o e)).trans (I.base.keep b o e n hb hx), fun b o e n hb hx => ?_, I.base.free, fun b o e hx => ?_, I.base.tups, I.base.frzs, I.base.tbls⟩, ⟨m', hn, fun i x v _ e2 _ => ?_⟩, fun y c e => ?_, I.free, I.freeC, fun p hp => ?_, fun b o e => ?_, List.length_replicate⟩
  · obtain ⟨sl, e1⟩ := I.base.slot b o e n hb hx
    exact ⟨sl, (hs.2 b (neL b o e)).trans e1⟩
  · obtain ⟨o', e1⟩ := I.base.there b o e hx
    exact ⟨o', (hs.2 b (neL b o e)).trans e1⟩
  · rw [List.getElem?_replicate] at e2
    split at e2 <;> cases e2
  · obtain ⟨w', z⟩ := I.cell y c e
    exact ⟨w', z.sameBut hs (I.cne y c e)⟩
  · obtain ⟨e, n, ne, nf, d⟩ := I.pin p hp
    exact ⟨(hs.2 p.1 ne).trans e, n, ne, nf, d⟩
  · refine (I.hok b o e).stay (fun c u hc q => (hs.2 c ?_).trans q) (fun _ q => q) fun _ _ q => q
    rintro rfl
    rcases hc with z | z
    · rw [← z, I.free] at e; cases e
    · rw [I.free] at z; cases z
end

/-- pins for all states, another wish -/
abbrev tryCx (X : Cx) (pn : List (Addr × Obj)) (xe : Value → Shared → Prop) : Cx := { X with pn := pn, xe := xe }
/-- within the except suite -/
abbrev hdlCx (X : Cx) (pn : List (Addr × Obj)) (e : Addr) : Cx := { X with pn := pn, xe := fun _ _ => False, A := X.A.mark (some (.ref e)), calm := false }
theorem inv_try {X : Cx} {pins : List (Addr × Obj)} {σ : L2.St} {H : Hp} {s : Shared} {xe : Value → Shared → Prop} (I : Inv X pins σ H s) : Inv (tryCx X (X.pn ++ pins) xe) [] σ H s :=
  ⟨⟨I.ok.mod, I.ok.kind, I.ok.glob, I.ok.blt, I.ok.above, I.ok.inj, I.ok.has, I.ok.cab, I.ok.hd, I.ok.frames, I.ok.stk, I.ok.exf, I.ok.bs, I.ok.bsz, I.ok.noex, I.ok.exfs, I.ok.funs, I.ok.frf⟩, I.os, I.bare, I.base, I.loc, I.cell, I.free, I.freeC,
    fun p hp => I.pin p (by simpa using hp), I.hok, I.len⟩
theorem inv_untry {X : Cx} {pins ps : List (Addr × Obj)} {σ : L2.St} {H : Hp} {s : Shared} {xe : Value → Shared → Prop} (I : Inv (tryCx X (X.pn ++ pins) xe) ps σ H s) : Inv X pins σ H s :=
  ⟨⟨I.ok.mod, I.ok.kind, I.ok.glob, I.ok.blt, I.ok.above, I.ok.inj, I.ok.has, I.ok.cab, I.ok.hd, I.ok.frames, I.ok.stk, I.ok.exf, I.ok.bs, I.ok.bsz, I.ok.noex, I.ok.exfs, I.ok.funs, I.ok.frf⟩, I.os, I.bare, I.base, I.loc, I.cell, I.free, I.freeC,
    fun p hp => I.pin p (List.mem_append_left _ hp), I.hok, I.len⟩
theorem inv_hdl {X : Cx} {pins : List (Addr × Obj)} {σ : L2.St} {H : Hp} {s : Shared} {e : Addr} (I : Inv X pins σ H s) : Inv (hdlCx X (X.pn ++ pins) e) [] σ H s :=
  ⟨⟨I.ok.mod, I.ok.kind, I.ok.glob, I.ok.blt, I.ok.above, I.ok.inj, I.ok.has, I.ok.cab, (fun z => by cases z), I.ok.frames, I.ok.stk, I.ok.exf, I.ok.bs, I.ok.bsz, I.ok.noex, I.ok.exfs, I.ok.funs, I.ok.frf⟩, I.os, I.bare, I.base, I.loc, I.cell, I.free, I.freeC,
    fun p hp => I.pin p (by simpa using hp), I.hok, I.len⟩
theorem inv_unhdl {X : Cx} {pins ps : List (Addr × Obj)} {σ : L2.St} {H : Hp} {s : Shared} {e : Addr} (ok : X.Ok) (I : Inv (hdlCx X (X.pn ++ pins) e) ps σ H s) : Inv X pins σ H s :=
  ⟨ok, I.os, I.bare, I.base, I.loc, I.cell, I.free, I.freeC, fun p hp => I.pin p (List.mem_append_left _ hp), I.hok, I.len⟩

def tTry (C : Addr) (i : Nat) (tb : XK → TS) (th : TS) : TS := fun D σ H =>
  tb (fun _ _ H' => ∀ (σ' : L2.St) (e : Addr), i < σ'.length → H' e = none → th { nx := fun _ _ => False, rt := D.rt } (σ'.set i (some (.ref e))) (upd H' e (.ext (excO C e)))) D σ H
theorem ps_try {X : Cx} {body : List Stmt} {x n : Str} {np hpos pos : Pos} {b₀ : Stmt} {suite : List Stmt} {C CM : Addr} {i : Nat} {tb : XK → TS} {th : TS} (hN : X.N.Nodup) (hi : X.N[i]? = some n) (hlo : X.env.kindOf n = some .local) (hfn : X.fn n = true)
    (hex0 : X.ex = []) (hst : X.stack = X.env :: X.outer) (hfr : X.env.frame = some X.env.locals) (hg : Gl X x) (hm : X.mg x = some (.ref CM)) (hex : PySem.W.exmOne X.K (.ref C) (.ref CM) = some true)
    (hb : ∀ (pn : List (Addr × Obj)) (xe : Value → Shared → Prop) (E : XK), Passes (CXn X.prog X.w C) (tryCx X pn xe) E → PSs (tryCx X pn xe) body (tb E))
    (hh : ∀ (pn : List (Addr × Obj)) (e : Addr), PSs (hdlCx X pn e) (b₀ :: suite) th) (hdb : (x == ("__debug__" : Str)) = false := by decide) :
    PS X (.Try body [.ExceptHandler (some (.Name x np)) (some n) (b₀ :: suite) hpos] [] [] pos) (tTry C i tb th) := by
  intro pins s σ H D I h
  refine wpAny_Try_except ?_
  have ok0 := I.ok
  refine thn (hb (X.pn ++ pins) _ (fun _ _ H' => ∀ (σ' : L2.St) (e : Addr), i < σ'.length → H' e = none → th { nx := fun _ _ => False, rt := D.rt } (σ'.set i (some (.ref e))) (upd H' e (.ext (excO C e)))) ?_ [] s σ H D (inv_try I) h) fun f s1 q => ?_
  · -- it is caught
    intro ps σ1 H1 s1 e s' I1' hcx
    have I1 : Inv X pins σ1 H1 s1 := inv_untry I1'
    obtain ⟨a, B, a0, H', rfl, os, gb, un, kB, tB, hokB, fl, hE⟩ := hcx
    have un : Un (frs X.stack) [] H1 H' s1.heap s'.heap := un
    have kB : ∀ b o, s1.heap.get? b = some o → H1 b = none → b ∉ frs X.stack → B.get? b = some o := kB
    have tB : ∀ b o, s1.heap.get? b = some o → b ∉ frs X.stack → ∃ o', B.get? b = some o' := tB
    have fl : Heap.FlyingW B X.stack a (.ref C) a0 s'.heap := fl
    have frm := ok0.frames
    rw [hst] at fl frm
    show wpAny _ _ (noteFrame (.ref a) X.env) _ _ s'
    refine wpAny_looks_onW frm hfr fl fun h4 held4 sm4 => ?_
    refine wpAny_landsW held4 fun h5 fl5 sm5 => ?_
    have at_ : ∀ h2, B.StaysIn h2 → s'.heap.UpToSlots h2 → Inv X pins σ1 H' { s' with heap := h2 } := fun h2 st sm => by
      have u2 := un_lift (B := B) un kB tB st sm I1.stack I1.stkFree
      exact I1.call' (s' := { s' with heap := h2 }) (ch := []) os u2 (hokB.kept fun b o e => st b o e) gb (fun b z => nomatch z)
    have I5 := at_ h5 fl5.1 (sm4.trans sm5)
    refine wpAny_handleBy_cons (codeAny_handlers_test ?_) (by intro q; cases q)
    obtain ⟨ob, hob, hoc⟩ := fl5.there
    have LT : PySem.W.Looks (model X.prog X.w) h5 (typeOf (.ref a)) (.ref C) := hoc ▸ (PySem.W.Looks.ld hob).andThen .now
    refine ld_glob (X := hdlCx X (X.pn ++ pins) a) (inv_hdl I5) hg hm ?_ hdb
    refine PySem.W.Looks.here (s := { s' with heap := h5 }) (PySem.W.exm_one I5.kIn LT hex) ?_
    show codeAny _ _ (.handlers _ _ _) _ _
    refine (codeAny_handlers_suite_as ?_)
    refine lands_againW (s := { s' with heap := h5 }) fl5 fun h6 fl6 sm6 => ?_
    have I6 := at_ h6 fl6.1 ((sm4.trans sm5).trans sm6)
    obtain ⟨oe, ws, hoe, hoec, hoed, _⟩ := fl6.first
    have Ba : B.get? a = none := fl6.2.1
    have Ha : H' a = none := by
      cases q : H' a with
      | none => rfl
      | some u =>
        obtain ⟨v, hv⟩ := objOk_get (hokB a u q)
        rw [Ba] at hv; cases hv
    have nfr : a ∉ frs X.stack := fun hz => by
      obtain ⟨_, o', ho', hd⟩ := I6.stack.mem hz
      rw [hoe] at ho'
      cases ho'
      exact hd _ hoed
    have old : ∀ b o, s1.heap.get? b = some o → b ∉ frs X.stack → b ≠ a := fun b o e1 hb z => by
      obtain ⟨o', e2⟩ := tB b o e1 hb
      rw [z, Ba] at e2; cases e2
    have I7 : Inv X pins σ1 (upd H' a (.ext (excO C a))) { s' with heap := h6 } := by
      refine track_at I6 Ha (fun z => ?_) (fun y c e1 z => ?_) (fun p hp z => ?_) ?_ ⟨⟨oe, hoe, hoec⟩, ⟨oe, hoe⟩, fun g1 g2 ⟨o, q1, q2⟩ k => ⟨o, k o q1, q2⟩⟩
      · obtain ⟨m, ⟨o, es, ep, ho, hd, _⟩, _⟩ := I6.loc
        rw [← z] at ho
        have ho : h6.get? a = some o := ho
        rw [hoe] at ho
        cases ho
        rw [hoed] at hd; cases hd
      · obtain ⟨v, o, ho, hd⟩ := I6.cell y c e1
        rw [z] at ho
        have ho : h6.get? a = some o := ho
        rw [hoe] at ho
        cases ho
        rw [hoed] at hd; cases hd
      · obtain ⟨e1, _, n1, n2, _⟩ := I1.pin p hp
        refine old p.1 p.2 e1 (fun hz => ?_) z
        rcases List.mem_cons.mp (I1.stkSub _ hz) with r | r
        · exact n1 r
        · exact n2 r
      · cases q : X.s₀.heap.get? a with
        | none => rfl
        | some o =>
          exfalso
          obtain ⟨o', e1⟩ := I1.base.there a o q (by rw [hex0]; simp)
          exact old a o' e1 nfr rfl
    refine store_ok (X := hdlCx X (X.pn ++ pins) a) (i := i) (v := .ref a) (inv_hdl I7) hN hi (Or.inl hlo) rfl (fun s8 I8 => ?_) (Or.inl hfn)
    have hr := hE σ1 a (by rw [I1.len]; exact (List.getElem?_eq_some_iff.mp hi).1) Ha
    refine wpAny_mono (hh (X.pn ++ pins) a [] s8 _ _ _ I8 hr) (fun f9 s9 q9 => ?_) fun _ _ z => False.elim z
    cases f9 with
    | next => obtain ⟨_, _, _, z⟩ := q9; exact False.elim z
    | brk => obtain ⟨_, _, _, z⟩ := q9; exact False.elim z
    | cont => obtain ⟨_, _, _, z⟩ := q9; exact False.elim z
    | ret u =>
      obtain ⟨v, σ9, H9, I9', r9, q9⟩ := q9
      have I9 := inv_unhdl ok0 I9'
      obtain ⟨m, hn, _⟩ := I9.loc
      show wpAny _ _ (do bindName X.env n .none; unbindBehindTheSuite X.env n hpos) _ _ s9
      refine wpAny_nameGoes hlo hn (by rw [ok0.kind]; rfl) fun h10 m10 hn10 hs10 => ?_
      exact ⟨v, _, H9, gone_ok I9 hn10 hs10, r9, q9⟩
  · -- no exception
    cases f with
    | next => obtain ⟨σ', H', I', q⟩ := q; exact wpAny_execs_nil ⟨σ', H', inv_untry I', q⟩
    | brk => obtain ⟨σ', H', I', q⟩ := q; exact ⟨σ', H', inv_untry I', q⟩
    | cont => obtain ⟨σ', H', I', q⟩ := q; exact ⟨σ', H', inv_untry I', q⟩
    | ret u => obtain ⟨v, σ', H', I', r, q⟩ := q; exact ⟨v, σ', H', inv_untry I', r, q⟩
end Ml

namespace Ml
open PySem PySem.Spec PyProof.Rows L2
/-! ### xs.insert(k, y) -/
def insAt {α : Type} (k : Nat) (y : α) (xs : List α) : List α := xs.take k ++ y :: xs.drop k
theorem insAt_length {α : Type} {k : Nat} {y : α} {xs : List α} : (insAt k y xs).length = xs.length + 1 := by
  unfold insAt
  rw [List.length_append, List.length_cons, List.length_take, List.length_drop]
  omega
theorem insAt_map {α β : Type} (f : α → β) {k : Nat} {y : α} {xs : List α} : insAt k (f y) (xs.map f) = (insAt k y xs).map f := by
  unfold insAt
  rw [List.map_append, List.map_cons, List.map_take, List.map_drop]
theorem insAt_get {α β : Type} {k : Nat} {y : α} {z : β} {xs : List α} {ys : List β} (hl : xs.length = ys.length) {i : Nat} {a : α} {b : β} (h1 : (insAt k y xs)[i]? = some a) (h2 : (insAt k z ys)[i]? = some b) :
    (a = y ∧ b = z) ∨ ∃ j : Nat, xs[j]? = some a ∧ ys[j]? = some b := by
  unfold insAt at h1 h2
  have l1 : (xs.take k).length = min k xs.length := List.length_take
  have l2 : (ys.take k).length = min k ys.length := List.length_take
  by_cases hi : i < min k xs.length
  · rw [List.getElem?_append_left (by omega)] at h1 h2
    rw [List.getElem?_take_of_lt (by omega)] at h1 h2
    exact .inr ⟨i, h1, h2⟩
  · rw [List.getElem?_append_right (by omega)] at h1 h2
    rw [l1] at h1
    rw [l2, ← hl] at h2
    cases hj : i - min k xs.length with
    | zero =>
      rw [hj] at h1 h2
      cases h1
      cases h2
      exact .inl ⟨rfl, rfl⟩
    | succ n =>
      rw [hj] at h1 h2
      rw [List.getElem?_cons_succ, List.getElem?_drop] at h1 h2
      exact .inr ⟨_, h1, h2⟩
theorem mem_insAt {α : Type} {k : Nat} {y : α} {xs : List α} : y ∈ insAt k y xs := by
  unfold insAt
  exact List.mem_append_right _ List.mem_cons_self
section
variable {X : Cx}
def rInsert : V → List V → Hp → VK → Prop := fun x vs H Q => ∃ l xs k y, x = .ref l ∧ vs = [.int k, y] ∧ H l = some (.lst xs) ∧ 0 ≤ k ∧ k ≤ (xs.length : Int) ∧ xs.length < 1000 ∧ Q .non (upd H l (.lst (insAt k.toNat y xs)))
theorem mt_insert : MtM X "list.insert" rInsert := by
  intro pins s σ H x vs v us Q I rx rv h
  obtain ⟨l, xs, k, y, rfl, rfl, hH, h0, h1, hz, q⟩ := h
  cases rx
  obtain ⟨u1, u2, rfl, ⟨t, rfl⟩, r2⟩ := vals2 rv
  obtain ⟨z, its, n, r, hl, e⟩ := I.lstM hH
  have ff : Builtin.List.listFitsIndex k = true := by
    unfold Builtin.List.listFitsIndex
    rw [Bool.and_eq_true]
    exact ⟨decide_eq_true (by omega), decide_eq_true (by omega)⟩
  refine call_meets F.slot_list_insert ⟨_, e, rfl⟩ F.entry_list_insert (F.args_list_insert_3 _ _ _) (AutoSeq1.list_insert_list_int_val_1 l its.toArray n k t u2 (by rw [ff]; decide) (by rw [List.size_toArray]; omega)) ⟨e, ?_⟩
  refine ⟨.non, _, I.lset (its' := insAt k.toNat u2 its) hH e ?_ ((r.take k.toNat).append (.cons r2 (r.drop k.toNat))) ?_, rfl, q⟩
  · show ((its.toArray.extract 0 (if k < 0 then (k + (its.toArray.size : Int)).toNat else min k.toNat its.toArray.size)).push u2 ++ its.toArray.extract (if k < 0 then (k + (its.toArray.size : Int)).toNat else min k.toNat its.toArray.size)) = (insAt k.toNat u2 its).toArray
    rw [if_neg (by omega), List.size_toArray, Nat.min_eq_left (by omega)]
    unfold insAt
    simp only [List.extract_toArray, List.push_toArray, List.append_toArray, List.take_append_drop] <;> simp
    exact List.take_of_length_le (by rw [List.length_drop]; omega)
  · show (insAt k.toNat y xs).length ≤ sizeLine
    rw [insAt_length]
    exact Ml.small (by omega)
end
theorem Cab.insert {H : Hp} {p r : Addr} {cs : List Cable} {c : Cable} {k : Nat} (h : Cab H p cs) (hr : H r = some (.tup [.int c.1, .int c.2.1, .int c.2.2])) : ∃ rs : List Addr, H p = some (.lst (rs.map V.ref)) ∧ rs.length = cs.length ∧
    Cab (upd H p (.lst (insAt k (.ref r) (rs.map V.ref)))) p (insAt k c cs) := by
  obtain ⟨rs, e, l, q⟩ := h
  have ne : ∀ b xs, H b = some (.tup xs) → b ≠ p := fun b xs z => ne_of z e (by intro z; cases z)
  refine ⟨rs, e, l, insAt k r rs, ?_, ?_, fun i r' c' h1 h2 => ?_⟩
  · rw [upd_same, insAt_map]
  · rw [insAt_length, insAt_length, l]
  · rcases insAt_get l h1 h2 with ⟨z1, z2⟩ | ⟨j, z1, z2⟩
    · rw [z1, z2, upd_ne (ne _ _ hr)]
      exact hr
    · have z := q j r' c' z1 z2
      rw [upd_ne (ne _ _ z)]
      exact z
end Ml

namespace Ml
open PySem L2
/-! ### the text by places -/
def top (i : Nat) : Stmt := PySem.Challenge.pw_mastline_k02_refused.main.body.getD i (.Pass ⟨0, 0, 0, 0⟩)
abbrev cMast : Stmt := top 1
abbrev cNo : Stmt := top 2
abbrev sMast : Stmt := top 4
abbrev sRefuse : Stmt := top 5
abbrev sTurn : Stmt := top 6
abbrev sJoin : Stmt := top 7
abbrev sLaid : Stmt := top 8
abbrev sTotal : Stmt := top 9
abbrev sFar : Stmt := top 11
abbrev sBy : Stmt := top 12
abbrev sBack : Stmt := top 13
abbrev sBetween : Stmt := top 14
abbrev sUnrolled : Stmt := top 15
abbrev sWay : Stmt := top 16
abbrev sDetours : Stmt := top 17
abbrev sUpto : Stmt := top 19
abbrev sWhole : Stmt := top 20
abbrev sAt : Stmt := top 21
abbrev sCab : Stmt := top 22
abbrev sUnh : Stmt := top 23
abbrev sRefuses : Stmt := top 24
abbrev sAnyRef : Stmt := top 25
abbrev sLaw : Stmt := top 26
def lamOf (s : Stmt) : Expr := match defBody s with
  | [.Return (some (.Call _ _ [⟨_, l, _⟩] _)) _] => l
  | _ => .Constant .none 0 ⟨0, 0, 0, 0⟩
def lamA (e : Expr) : Arguments := match e with
  | .Lambda a _ _ _ => a
  | _ => { posonlyargs := [], args := [], vararg := none, kwonlyargs := [], kw_defaults := [], kwarg := none, defaults := [] }
def lamB (e : Expr) : Expr := match e with
  | .Lambda _ b _ _ => b
  | _ => .Constant .none 0 ⟨0, 0, 0, 0⟩
def lamS (e : Expr) : Scope := match e with
  | .Lambda _ _ s _ => s
  | _ => { kind := .function, names := [], isGenerator := false, isCoroutine := false }
end Ml
namespace Ml
open PySem PySem.Spec PyProof.Rows L2
/-! ### in_turn -/
theorem tab_mk {K : PySem.W.Frag} {x : Str} {f c P : Addr} {oc oc0 : Value} {od od0 : Option Addr} {fd : FuncData} {sl sl0 : Array (Option Value)} {vs0 : Array Value} (a : PySem.W.nsIn K mainGlobals x = some (some (.ref f))) (l : K.lookup f = some ⟨oc, od, .func fd, sl⟩) (e : fd.code = .ref c)
    (l0 : K.lookup c = some ⟨oc0, od0, .fields vs0, sl0⟩) (v0 : vs0[11]? = some (.ref P)) : PySem.W.tabIn K x = some (c, P) := by
  unfold PySem.W.tabIn
  rw [a]
  dsimp only
  rw [l]
  dsimp only
  rw [e]
  dsimp only
  rw [l0]
  dsimp only
  rw [v0]

def spTurn (pos : Pos) (P : Addr) : Sp := fun vs H Q _ => ∃ (a : Addr) (cs : List Cable), vs = [.ref a] ∧ Cab H a cs ∧ cs.length < 64 ∧ Tab pos P H ∧
  ∀ (D : Addr) (t : List Nat) (H' : Hp), IsTurn cs t → Ext H H' → Tab pos P H' → H' D = some (.lst (t.map fun (i : Nat) => V.int i)) → H D = none → Q (.ref D) H'
theorem scTurn : FnScope ["cables"] ["cables"] (defScope sTurn) := ⟨rfl, rfl, rfl, by decide +kernel, rfl, by decide +kernel, by decide +kernel⟩
abbrev posL : Pos := ⟨14, 42, 14, 81⟩
section
variable {Pg : Program} {w : World} {K : PySem.W.Frag} {mg : Str → Option Value} {base : Heap}
theorem ok_turn {f c P : Addr} {oc kV dc pm ct : Value} {od an : Option Addr} {sl : Array (Option Value)} (l1 : K.lookup f = some ⟨oc, od, .func (PySem.W.fnOf "in_turn" "in_turn" (defArgs sTurn) (defBody sTurn) (defScope sTurn) .none kV dc pm an (.ref c) ct), sl⟩)
    (c1 : PySem.W.codeIn K (.ref c) "in_turn" = true) (T1 : Top1 mg base c P) (ms : mg "sorted" = none) (mr : mg "range" = none) (ml : mg "len" = none) :
    FnOk Pg w K mg base CX0 4 f (PySem.W.fnOf "in_turn" "in_turn" (defArgs sTurn) (defBody sTurn) (defScope sTurn) .none kV dc pm an (.ref c) ct) ["cables"] (spTurn posL P) := by
  refine fn_of l1 c1 scTurn (fun vs H Q E h => ?_) (fun A outer s H vs Q E hr h => ?_)
  · obtain ⟨a, cs, rfl, _⟩ := h
    rfl
  obtain ⟨a, cs, rfl, hC, h64, hT, q⟩ := h
  let X : Cx := (cxOf CX0 Pg w K mg base ["cables"] "in_turn" (defScope sTurn) f (.ref c) A outer s H E).nox
  have hcl : ∀ cc : Addr, X.env.cells.lookup ("cables" : Str) = some cc → cc = s.heap.objs.size + 1 := fun cc e => (Option.some.inj e).symm
  have key : ∀ (pins : List (Addr × Obj)) (σ : L2.St) (H1 : Hp) (s1 : Shared) (i : Nat) (t : Tok) (fo c' : Addr) (pm' ctv : Value), i < cs.length → Inv X pins σ H1 s1 → σ[0]? = some (some (.ref a)) → Cab H1 a cs → H1 c' = some (CodeO c' qualL) →
      H1 fo = some (ObjO fo (PySem.W.kla_obj "<lambda>" qualL (lamA (lamOf sTurn)) (lamB (lamOf sTurn)) (lamS (lamOf sTurn)) [(("cables" : Str), s.heap.objs.size + 1)] pm' c' ctv)) →
      wpAny (model Pg w) X.A.in1.in1 (call (.ref fo) [.int i t])
        (fun u s2 => ∃ r, u = .ref r ∧ H1 r = none ∧ Un (frs X.stack) [] H1 (upd H1 r (.tup [.int (lenAt cs i), .int i])) s1.heap s2.heap ∧ Inv X pins σ (upd H1 r (.tup [.int (lenAt cs i), .int i])) s2) (fun _ _ => False) s1 := by
    intro pins σ H1 s1 i t fo c' pm' ctv hi J hσ hC1 hc' hfo
    obtain ⟨m, hn, hl⟩ := J.loc
    obtain ⟨u, ru, lk⟩ := hl 0 "cables" (.ref a) rfl hσ (Or.inr (Or.inl rfl))
    cases ru
    rcases lk with ⟨hk, _⟩ | ⟨_, cc, hcc, hcell⟩
    · cases hk
    obtain rfl := hcl cc hcc
    have hcn := J.freeC "cables" _ hcc
    obtain ⟨cb, hcb⟩ : ∃ cb, cs[i]? = some cb := ⟨cs[i], by simp [hi]⟩
    obtain ⟨xs, r, e1, e2, e3, e4⟩ := hC1.get hcb
    have hlen : lenAt cs i = cb.2.2 := by unfold lenAt; rw [hcb]
    refine wpAny_call (codeAny_mono (lam_call (P := Pg) (w := w) (K := K) (mg := mg) (base := base) (A := X.A.in1.in1) (outer := X.stack) (s := s1) (H := H1) (a := a) (k := 1) (te := tTup (tCons (tOp (rIxT K) (tOp (rIxL K) (tVar 1) (tVar 0)) (tC (.int 2))) (tCons (tVar 0) tNil)))
      (Q := fun v H' => ∃ r, v = .ref r ∧ H1 r = none ∧ H' = upd H1 r (.tup [.int (lenAt cs i), .int i]))
      rfl rfl rfl rfl (fun _ => rfl) hr.in1.in1 J.env0.in1.in1 hfo hc' hcell hcn
      (pe_tup (pa_cons (pe_ix ix_tup (pe_ix ix_list (pv 1) (pv 0) (fun _ _ => rfl)) pe_int (fun _ _ => rfl)) (pa_cons (pv 0) pa_nil))) ?_) fun res s2 hq => ?_)
    · refine ⟨_, rfl, _, rfl, a, xs, i, .ref r, rfl, rfl, .of e1, atI_nat e3, r, _, 2, .int cb.2.2, rfl, rfl, .of e4, rfl, _, rfl, (by show 2 ≤ sizeLine; decide), fun p hp => ⟨p, rfl, hp, by rw [hlen]⟩⟩
    · cases res with
      | error e => exact False.elim hq
      | ok fl =>
        cases fl with
        | next => exact False.elim hq
        | brk => exact False.elim hq
        | cont => exact False.elim hq
        | ret u =>
          obtain ⟨v, H', os, bare, un, hok, rv, r', rfl, hn', rfl⟩ := hq
          cases rv
          exact ⟨r', rfl, hn', un, J.call' (ch := []) os un hok bare (fun b z => absurd z (by simp))⟩
  refine ⟨_, PSs.nox (X := cxOf CX0 Pg w K mg base ["cables"] "in_turn" (defScope sTurn) f (.ref c) A outer s H E)
    (pss_one (ps_ret (pe_sortedK (r := fun vs fv σ H2 Q => ∃ (rg fo c' : Addr) (pm' ctv : Value), vs = [.ref rg] ∧ fv = .ref fo ∧ σ[0]? = some (some (.ref a)) ∧ Cab H2 a cs ∧ H2 rg = some (.rng 0 (cs.length : Int)) ∧ Tab posL P H2 ∧ H2 c' = some (CodeO c' qualL) ∧
        H2 fo = some (ObjO fo (PySem.W.kla_obj "<lambda>" qualL (lamA (lamOf sTurn)) (lamB (lamOf sTurn)) (lamS (lamOf sTurn)) [(("cables" : Str), s.heap.objs.size + 1)] pm' c' ctv)) ∧
        ∀ (t : List Nat) (H1 : Hp) (D : Addr), IsTurn cs t → Ext H2 H1 → Tab posL P H1 → H1 D = none → Q (.ref D) (upd H1 D (.lst (t.map fun (i : Nat) => V.int i))))
      rfl ms (pa_cons (pe_callTy call_rangeV rfl mr boot_range (pa_cons (pe_callB call_len_seq rfl ml PySem.boot_len (pa_cons (pv 0) pa_nil)) pa_nil)) pa_nil) (pe_lam (P := P) (clos := [(("cables" : Str), s.heap.objs.size + 1)]) T1 rfl rfl rfl rfl) ?_))), ?_⟩
  · intro pins s1 σ H2 vs us fv fu Q' I rv rf h
    obtain ⟨rg, fo, c', pm', ctv, rfl, rfl, hσ, hC2, hrg, hT2, hc', hfo, q'⟩ := h
    obtain ⟨u, rfl, r1⟩ := vals1 rv
    cases r1
    cases rf
    refine sorted_call (X := X) (G := fun H1 => Tab posL P H1) I rfl hrg h64 hT2 (fun H1 r o g n => g.new n) (fun i t H1 s2 hi J x g => ?_) q'
    exact key pins σ H1 s2 i t fo c' pm' ctv hi J hσ (hC2.ext x) (x.keep c' _ hc' (by intro ps z; cases z)) (x.keep fo _ hfo (by intro ps z; cases z))
  · obtain ⟨rs, ea, el, eq⟩ := id hC
    refine ⟨_, rfl, a, _, rfl, .inl (.of ea), _, rfl, fun p hp => ?_⟩
    have n0 : (((rs.map V.ref).length : Nat) : Int) = (cs.length : Int) := by rw [List.length_map, el]
    rw [n0]
    refine ⟨hT.new hp, fun fo c' ctv H2 x2 T2 hc' hfo hfn => ⟨p, fo, c', _, ctv, rfl, rfl, rfl, (hC.ext (.new hp)).ext x2, x2.keep p _ upd_same (by intro ps z; cases z), T2, hc', hfo, fun t H1 D ht x1 g1 hD => ?_⟩⟩
    exact q D t _ ht (((Ext.new hp).trans x2).trans (x1.trans (.new hD))) (g1.new hD) upd_same ((((Ext.new hp).trans x2).trans x1).free hD)
end
end Ml

namespace Ml
open PySem PySem.Spec PyProof.Rows L2
/-! ### small defs of the law -/
def spWhole : Sp := fun vs H Q _ => ∃ i : Int, vs = [.int i] ∧ Q (.bl true) H
def spAt (K : PySem.W.Frag) : Sp := fun vs H Q _ => ∃ (a : Addr) (ns : List Int) (k : Int), vs = [.ref a, .int k] ∧ SqL K H a (ns.map V.int) ∧ 0 ≤ k ∧ Q (.int (ns.getD k.toNat 0)) H
def spCab (K : PySem.W.Frag) : Sp := fun vs H Q _ => ∃ (a : Addr) (ns : List Int) (cnt hop : Int), vs = [.ref a, .int cnt, .int hop] ∧ SqL K H a (ns.map V.int) ∧ ns.length ≤ 63 ∧ 0 ≤ cnt ∧ cnt ≤ 101 ∧ 1 ≤ hop ∧ hop ≤ 97 ∧
  ∀ (p : Addr) (cs : List Cable) (H' : Hp), Same H H' → Cab H' p cs → Good cnt cs → cs.length ≤ ns.length → (cnt = 0 → cs = []) → H p = none → Q (.ref p) H'
def spUnh : Sp := fun vs H Q _ => ∃ (a b : Addr) (rs : List Addr) (cs : List Cable), vs = [.ref a, .ref b] ∧ H a = some (.lst (rs.map V.ref)) ∧ H b = some (.lst (rs.map V.ref)) ∧ rs.length = cs.length ∧ cs.length ≤ 63 ∧
  (∀ (i : Nat) (r : Addr) (c : Cable), rs[i]? = some r → cs[i]? = some c → H r = some (.tup [.int c.1, .int c.2.1, .int c.2.2])) ∧ Q (.bl true) H
section
variable {Pg : Program} {w : World} {K : PySem.W.Frag} {mg : Str → Option Value} {base : Heap} {f : Addr} {fd : FuncData}
theorem scWhole : FnScope ["_law_found"] ["_law_found"] (defScope sWhole) := ⟨rfl, rfl, rfl, by decide +kernel, rfl, by decide +kernel, by decide +kernel⟩
theorem ok_whole (F : Fun K "_law_whole" "_law_whole" sWhole f fd) (B : Blt mg) : FnOk Pg w K mg base CX0 1 f fd ["_law_found"] spWhole := by
  refine F.ok scWhole (fun vs H Q E h => ?_) (fun cdv A outer s H vs Q E hr h => ?_)
  · obtain ⟨i, rfl, _⟩ := h
    rfl
  obtain ⟨i, rfl, q⟩ := h
  refine ⟨_, pss_one (ps_ret (pe_and (pe_callB call_isinst rfl B.isinst boot_isinstance (pa_cons (pv 0) (pa_cons (pe_bltn (v := .ty "int") rfl B.int PyProof.Rows.boot_int rfl) pa_nil)))
    (pe_one (pe_not (pe_callB call_isinst rfl B.isinst boot_isinstance (pa_cons (pv 0) (pa_cons (pe_bltn (v := .ty "bool") rfl B.bool PyProof.Rows.boot_bool rfl) pa_nil))))))), ?_⟩
  refine ⟨_, rfl, .int i, "int", .type "int", true, rfl, .int i, kit_ii K, true, rfl, iteT ?_⟩
  exact ⟨_, rfl, .int i, "bool", .type "int", false, rfl, .int i, kit_ib K, false, rfl, q⟩
theorem scAt : FnScope ["_law_script", "_law_k"] ["_law_script", "_law_k"] (defScope sAt) := ⟨rfl, rfl, rfl, by decide +kernel, rfl, by decide +kernel, by decide +kernel⟩
theorem ok_at (F : Fun K "_law_at" "_law_at" sAt f fd) (B : Blt mg) : FnOk Pg w K mg base CX0 1 f fd ["_law_script", "_law_k"] (spAt K) := by
  refine F.ok scAt (fun vs H Q E h => ?_) (fun cdv A outer s H vs Q E hr h => ?_)
  · obtain ⟨a, ns, k, rfl, _⟩ := h
    rfl
  obtain ⟨a, ns, k, rfl, hS, h0, q⟩ := h
  have hl : (ns.map V.int).length = ns.length := List.length_map _
  refine ⟨_, pss_cons (ps_if (pt_cmpR op_lt (pv 1) (pe_callB call_len_seq rfl B.len PySem.boot_len (pa_cons (pv 0) pa_nil)) (nomark _)) (pss_one (ps_ret (pe_ix ix_list (pv 0) (pv 1) (fun _ _ => rfl)))) pss_nil) (pss_one (ps_ret pe_int)), ?_⟩
  refine ⟨_, rfl, _, rfl, a, _, rfl, .inl hS, _, _, rfl, rfl, _, rfl, ?_⟩
  refine ite2 (fun c => ?_) (fun c => ?_)
  · have c' : k < (((ns.map V.int).length : Nat) : Int) := of_decide_eq_true c
    rw [hl] at c'
    exact ⟨_, rfl, _, rfl, a, _, _, _, rfl, rfl, hS, atI_int h0 c', q⟩
  · have c' : ¬ k < (((ns.map V.int).length : Nat) : Int) := of_decide_eq_false (Bool.eq_false_iff.mpr c)
    rw [hl] at c'
    have e : ns.getD k.toNat 0 = 0 := by
      have : ns.length ≤ k.toNat := by omega
      simp [this]
    rw [e] at q
    exact q
theorem scCab : FnScope ["_law_cells", "_law_count", "_law_hop", "_law_cables", "_law_k", "_law_cell", "_law_length", "_law_one", "_law_other"] ["_law_cells", "_law_count", "_law_hop"] (defScope sCab) := ⟨rfl, rfl, rfl, by decide +kernel, rfl, by decide +kernel, by decide +kernel⟩
/-- one cable more -/
theorem Cab.push {H : Hp} {p r : Addr} {cs : List Cable} {c : Cable} (h : Cab H p cs) (hr : H r = none) : ∃ xs, H p = some (.lst xs) ∧ xs.length = cs.length ∧ Cab (upd (upd H r (.tup [.int c.1, .int c.2.1, .int c.2.2])) p (.lst (xs ++ [.ref r]))) p (cs ++ [c]) := by
  obtain ⟨rs, e, l, q⟩ := h
  refine ⟨_, e, by rw [List.length_map, l], rs ++ [r], ?_, ?_, fun i r' c' h1 h2 => ?_⟩
  · rw [upd_same, List.map_append]; rfl
  · rw [List.length_append, List.length_append, l]; rfl
  · have ne : ∀ b xs, H b = some (.tup xs) → b ≠ p := fun b xs z => ne_of z e (by intro z; cases z)
    have nr : r ≠ p := (ne_of_none e hr).symm
    by_cases hi : i < rs.length
    · rw [List.getElem?_append_left hi] at h1
      rw [List.getElem?_append_left (by omega)] at h2
      have z := q i r' c' h1 h2
      rw [upd_ne (ne _ _ z), upd_ne (ne_of_none z hr)]
      exact z
    · have hl1 := (List.getElem?_eq_some_iff.mp h1).1
      rw [List.length_append] at hl1
      have hi2 : i = rs.length := by
        have : ([r] : List Addr).length = 1 := rfl
        omega
      subst hi2
      rw [List.getElem?_append_right (Nat.le_refl _), Nat.sub_self] at h1
      rw [List.getElem?_append_right (by omega), show rs.length - cs.length = 0 by omega] at h2
      cases h1
      cases h2
      rw [upd_ne nr, upd_same]
theorem ok_cab (F : Fun K "_law_some_cables" "_law_some_cables" sCab f fd) (B : Blt mg) : FnOk Pg w K mg base CX0 1 f fd ["_law_cells", "_law_count", "_law_hop"] (spCab K) := by
  refine F.ok scCab (fun vs H Q E h => ?_) (fun cdv A outer s H vs Q E hr h => ?_)
  · obtain ⟨a, ns, cnt, hop, rfl, _⟩ := h
    rfl
  obtain ⟨a, ns, cnt, hop, rfl, hS, h63, hc0, hc1, hh0, hh1, q⟩ := h
  have hl : (ns.map V.int).length = ns.length := List.length_map _
  refine ⟨_, pss_cons (ps_set (i := 3) scCab.nd rfl (Or.inl rfl) (pe_lst pa_nil))
    (pss_cons (ps_if (pt_cmpR op_eq (pv 1) pe_int (nomark _)) (pss_one (ps_ret (pv 3))) pss_nil)
    (pss_cons (ps_for PassesOwn.never rfl (pi_range1 rfl B.range (pa_cons (pe_callB call_len_seq rfl B.len PySem.boot_len (pa_cons (pv 0) pa_nil)) pa_nil)) (pg_name (i := 4) scCab.nd rfl (Or.inl rfl))
      (pss_cons (ps_set (i := 5) scCab.nd rfl (Or.inl rfl) (pe_ix ix_list (pv 0) (pv 4) (fun _ _ => rfl)))
      (pss_cons (ps_set (i := 6) scCab.nd rfl (Or.inl rfl) (pe_op op_mul (pe_op op_mod (pe_op op_fdiv (pv 5) pe_int) pe_int)
        (pe_ix ix_list (pe_lst (pa_cons pe_int (pa_cons (pe_op op_add pe_int (pe_op op_pow pe_int pe_int)) (pa_cons pe_int (pa_cons (pe_op op_add pe_int (pe_op op_mod (pv 5) (pe_op op_pow pe_int pe_int))) pa_nil))))) (pe_op op_mod (pv 2) pe_int) (fun _ _ => rfl))))
      (pss_cons (ps_set (i := 7) scCab.nd rfl (Or.inl rfl) (pe_op op_mod (pe_op op_add (pv 5) (pv 4)) (pv 1)))
      (pss_cons (ps_set (i := 8) scCab.nd rfl (Or.inl rfl) (pe_op op_mod (pe_op op_add (pe_op op_add (pv 7) pe_int) (pe_op op_mod (pe_op op_fdiv (pv 5) pe_int) (pv 2))) (pv 1)))
      (pss_cons (ps_if (pt_cmpR op_eq (pe_op op_mod (pv 5) pe_int) pe_int (nomark _)) (pss_one (ps_set (i := 8) scCab.nd rfl (Or.inl rfl) (pv 7))) pss_nil)
      (pss_one (ps_if (pt_cmpR op_eq (pe_op op_mod (pe_op op_fdiv (pv 5) pe_int) pe_int) pe_int (nomark _))
        (pss_one (ps_expr (pe_bm PySem.F.plainAttrs_list PySem.F.slot_list_append PySem.F.type_list_append mt_append (pv 3) (pa_cons (pe_tup (pa_cons (pv 8) (pa_cons (pv 7) (pa_cons (pv 6) pa_nil)))) pa_nil))))
        (pss_one (ps_expr (pe_bm PySem.F.plainAttrs_list PySem.F.slot_list_append PySem.F.type_list_append mt_append (pv 3) (pa_cons (pe_tup (pa_cons (pv 7) (pa_cons (pv 8) (pa_cons (pv 6) pa_nil)))) pa_nil))))))))))))
    (pss_one (ps_ret (pv 3))))), ?_⟩
  -- cables = []
  refine ⟨(by show 0 ≤ sizeLine; decide), fun p hp => ?_⟩
  have s0 : Same H (upd H p (.lst [])) := fun b o e => by rw [upd_ne (ne_of_none e hp)]; exact e
  have c0 : Cab (upd H p (.lst [])) p [] := ⟨[], upd_same, rfl, fun i r c h1 => by cases h1⟩
  -- if count == 0
  refine ⟨_, rfl, rfl, _, rfl, ?_⟩
  refine ite2 (fun c => ?_) (fun c => ?_)
  · exact ⟨_, rfl, q p [] _ s0 c0 (fun _ z => nomatch z) (Nat.zero_le _) (fun _ => rfl) hp⟩
  have hcn : cnt ≠ 0 := fun z => c (by rw [z]; decide)
  -- for k in range(len(cells))
  refine ⟨_, rfl, a, _, rfl, .inl (s0.seq hS), _, rfl, by omega, by omega, for_range (lo := 0) (n := (((ns.map V.int).length : Nat) : Int).toNat)
    (fun i σ H2 => ∃ (cs : List Cable) (v4 v5 v6 v7 v8 : Option V), σ = [some (.ref a), some (.int cnt), some (.int hop), some (.ref p), v4, v5, v6, v7, v8] ∧ Same H H2 ∧ Cab H2 p cs ∧ Good cnt cs ∧ cs.length = i)
    ⟨[], _, _, _, _, _, rfl, s0, c0, (fun _ z => nomatch z), rfl⟩ ?_ ?_⟩
  · rintro i σ H2 hi ⟨cs, v4, v5, v6, v7, v8, rfl, s2, C2, g2, el⟩
    have hi' : i < ns.length := by omega
    -- cell
    refine ⟨_, rfl, _, rfl, a, _, _, _, rfl, rfl, s2.seq hS, atI_int (by omega) (by omega), ?_⟩
    generalize ns.getD ((0 : Int) + (i : Int)).toNat 0 = cell
    -- length
    have hm4 : 0 ≤ hop % 4 ∧ hop % 4 < 4 := ⟨Int.emod_nonneg _ (by decide), Int.emod_lt_of_pos _ (by decide)⟩
    have hd12 : 0 ≤ cell / 3 % 12 ∧ cell / 3 % 12 < 12 := ⟨Int.emod_nonneg _ (by decide), Int.emod_lt_of_pos _ (by decide)⟩
    refine ⟨_, rfl, _, _, rfl, rfl, ⟨by decide, by decide⟩, _, _, rfl, rfl, (by show (0 : Int) < 12; decide), ?_⟩
    refine ⟨_, _, rfl, rfl, ⟨by decide, by decide, by decide⟩, _, _, rfl, rfl, _, rfl, _, _, rfl, rfl, ⟨by decide, by decide, by decide⟩, _, _, rfl, rfl, (by show (0 : Int) < 10 ^ (30 : Int).toNat; decide), _, _, rfl, rfl, (by show 4 ≤ sizeLine; decide), fun l hl' => ?_⟩
    obtain ⟨z, hz, hz0⟩ : ∃ z : Int, atI [V.int 1, V.int (1 + 10 ^ (20 : Int).toNat), V.int 1, V.int (1 + cell % 10 ^ (30 : Int).toNat)] (hop % 4) = some (.int z) ∧ 0 ≤ z := by
      have e30 : 0 ≤ cell % 10 ^ (30 : Int).toNat := Int.emod_nonneg _ (by decide)
      have all : ∀ zs : List Int, zs.length = 4 → (∀ z ∈ zs, 0 ≤ z) → ∃ z : Int, atI (zs.map V.int) (hop % 4) = some (.int z) ∧ 0 ≤ z := fun zs hz h0 =>
        ⟨_, atI_int hm4.1 (by omega), h0 _ (getD_mem4 hm4.1 (by omega))⟩
      refine all [1, 1 + 10 ^ (20 : Int).toNat, 1, 1 + cell % 10 ^ (30 : Int).toNat] rfl fun z hz => ?_
      rcases List.mem_cons.mp hz with e | hz
      · rw [e]; decide
      rcases List.mem_cons.mp hz with e | hz
      · rw [e]; decide
      rcases List.mem_cons.mp hz with e | hz
      · rw [e]; decide
      rw [List.mem_singleton.mp hz]; omega
    refine ⟨_, rfl, _, _, rfl, rfl, (by show (0 : Int) < 4; decide), l, _, _, _, rfl, rfl, .of upd_same, hz, _, _, rfl, rfl, .inl ⟨by omega, by omega⟩, ?_⟩
    have s3 : Same H2 (upd H2 l (.lst [V.int 1, V.int (1 + 10 ^ (20 : Int).toNat), V.int 1, V.int (1 + cell % 10 ^ (30 : Int).toNat)])) := fun b o e => by rw [upd_ne (ne_of_none e hl')]; exact e
    have C3 := C2.ext (Ext.same s3)
    have s3' := s2.trans s3
    have hL : 0 ≤ cell / 3 % 12 * z := Int.mul_nonneg hd12.1 hz0
    -- one, other
    have hpos : 0 < cnt := by omega
    refine ⟨_, rfl, _, rfl, _, _, rfl, rfl, _, rfl, _, _, rfl, rfl, hpos, ?_⟩
    have h1 : 0 ≤ (cell + (0 + (i : Int))) % cnt ∧ (cell + (0 + (i : Int))) % cnt < cnt := ⟨Int.emod_nonneg _ hcn, Int.emod_lt_of_pos _ hpos⟩
    refine ⟨_, rfl, _, _, rfl, rfl, _, rfl, _, _, rfl, rfl, ⟨by decide, by decide⟩, _, rfl, _, _, rfl, rfl, (by show 0 < hop; omega), _, _, rfl, rfl, _, rfl, _, _, rfl, rfl, hpos, ?_⟩
    have h2 : 0 ≤ ((cell + (0 + (i : Int))) % cnt + 1 + cell / 5 % hop) % cnt ∧ ((cell + (0 + (i : Int))) % cnt + 1 + cell / 5 % hop) % cnt < cnt := ⟨Int.emod_nonneg _ hcn, Int.emod_lt_of_pos _ hpos⟩
    -- the end of a turn
    have endT : ∀ (H3 : Hp), Same H H3 → Cab H3 p cs → ∀ (o1 o2 len : Int), 0 ≤ o1 ∧ o1 < cnt → 0 ≤ o2 ∧ o2 < cnt → 0 ≤ len → ∀ (r : Addr), H3 r = none → ∃ xs, H3 p = some (.lst xs) ∧ xs.length < sizeLine ∧
        ∃ (cs : List Cable), Same H (upd (upd H3 r (.tup [.int o1, .int o2, .int len])) p (.lst (xs ++ [.ref r]))) ∧
          Cab (upd (upd H3 r (.tup [.int o1, .int o2, .int len])) p (.lst (xs ++ [.ref r]))) p cs ∧ Good cnt cs ∧ cs.length = i + 1 := by
      intro H3 s3' C3 o1 o2 len q1 q2 hL r hr'
      obtain ⟨xs, ep, exl, C4⟩ := C3.push (c := (o1, o2, len)) hr'
      refine ⟨xs, ep, small1000 (by omega), cs ++ [(o1, o2, len)], fun b o e => ?_, C4, fun c hc => ?_, by rw [List.length_append, el]; rfl⟩
      · rw [upd_ne (ne_of_none e hp), upd_ne (ne_of_none (s3' b o e) hr')]
        exact s3' b o e
      · rcases List.mem_append.mp hc with hc | hc
        · exact g2 c hc
        · rw [List.mem_singleton.mp hc]
          exact ⟨q1.1, q1.2, q2.1, q2.2, hL⟩
    refine ⟨_, rfl, _, _, rfl, rfl, (by show (0 : Int) < 17; decide), rfl, _, rfl, ?_⟩
    obtain ⟨xs0, ep0, _, _⟩ := id C3
    refine ite2 (fun _ => ⟨_, rfl, ?_⟩) (fun _ => ?_)
    · refine ⟨_, rfl, _, _, rfl, rfl, ⟨by decide, by decide⟩, _, _, rfl, rfl, (by show (0 : Int) < 2; decide), rfl, _, rfl, ?_⟩
      refine ite2 (fun _ => ?_) (fun _ => ?_)
      all_goals
        refine ⟨_, rfl, .inl ⟨rfl, _, .of ep0⟩, _, rfl, _, rfl, _, rfl, (by show 3 ≤ sizeLine; decide), fun r hr' => ?_⟩
        obtain ⟨xs, ep', hx, cs', r1, r2, r3, r4⟩ := endT _ s3' C3 _ _ _ h1 h1 hL r hr'
        exact ⟨p, xs, .ref r, rfl, rfl, by rw [upd_ne (ne_of_none ep' hr')]; exact ep', hx, cs', _, _, _, _, _, rfl, r1, r2, r3, r4⟩
    · refine ⟨_, rfl, _, _, rfl, rfl, ⟨by decide, by decide⟩, _, _, rfl, rfl, (by show (0 : Int) < 2; decide), rfl, _, rfl, ?_⟩
      refine ite2 (fun _ => ?_) (fun _ => ?_)
      · refine ⟨_, rfl, .inl ⟨rfl, _, .of ep0⟩, _, rfl, _, rfl, _, rfl, (by show 3 ≤ sizeLine; decide), fun r hr' => ?_⟩
        obtain ⟨xs, ep', hx, cs', r1, r2, r3, r4⟩ := endT _ s3' C3 _ _ _ h2 h1 hL r hr'
        exact ⟨p, xs, .ref r, rfl, rfl, by rw [upd_ne (ne_of_none ep' hr')]; exact ep', hx, cs', _, _, _, _, _, rfl, r1, r2, r3, r4⟩
      · refine ⟨_, rfl, .inl ⟨rfl, _, .of ep0⟩, _, rfl, _, rfl, _, rfl, (by show 3 ≤ sizeLine; decide), fun r hr' => ?_⟩
        obtain ⟨xs, ep', hx, cs', r1, r2, r3, r4⟩ := endT _ s3' C3 _ _ _ h1 h2 hL r hr'
        exact ⟨p, xs, .ref r, rfl, rfl, by rw [upd_ne (ne_of_none ep' hr')]; exact ep', hx, cs', _, _, _, _, _, rfl, r1, r2, r3, r4⟩
  · rintro σ H2 ⟨cs, v4, v5, v6, v7, v8, rfl, s2, C2, g2, el⟩
    exact ⟨_, rfl, q p cs H2 s2 C2 g2 (by omega) (fun z => absurd z hcn) hp⟩
end
end Ml
namespace Ml
open PySem PySem.Spec PyProof.Rows L2
section
variable {Pg : Program} {w : World} {K : PySem.W.Frag} {mg : Str → Option Value} {base : Heap} {f : Addr} {fd : FuncData}
theorem scUnh : FnScope ["_law_handed", "_law_cables", "_law_k", "_law_part"] ["_law_handed", "_law_cables"] (defScope sUnh) := ⟨rfl, rfl, rfl, by decide +kernel, rfl, by decide +kernel, by decide +kernel⟩
theorem ok_unh {fW : Addr} {fdW : FuncData} (F : Fun K "_law_unhurt" "_law_unhurt" sUnh f fd) (B : Blt mg) (W : Dn Pg w K mg base 1 "_law_whole" ["_law_found"] fW fdW spWhole) : FnOk Pg w K mg base CX0 2 f fd ["_law_handed", "_law_cables"] spUnh := by
  refine F.ok scUnh (fun vs H Q E h => ?_) (fun cdv A outer s H vs Q E hr h => ?_)
  · obtain ⟨a, b, rs, cs, rfl, _⟩ := h
    rfl
  obtain ⟨a, b, rs, cs, rfl, ea, eb, el, h63, ht, q⟩ := h
  have hu := hr.units0
  refine ⟨_, pss_cons (ps_if (pt_cmpR op_ne (pe_callB call_len_seq rfl B.len PySem.boot_len (pa_cons (pv 0) pa_nil)) (pe_callB call_len_seq rfl B.len PySem.boot_len (pa_cons (pv 1) pa_nil)) (nomark _)) (pss_one (ps_ret pe_bl)) pss_nil)
    (pss_cons (ps_for PassesOwn.never rfl (pi_range1 rfl B.range (pa_cons (pe_callB call_len_seq rfl B.len PySem.boot_len (pa_cons (pv 1) pa_nil)) pa_nil)) (pg_name (i := 2) scUnh.nd rfl (Or.inl rfl))
      (pss_cons (ps_if (PW.pt (pw_or (pt_not (pt_val (pe_callB call_isinst rfl B.isinst boot_isinstance (pa_cons (pe_ix ix_list (pv 0) (pv 2) (fun _ _ => rfl)) (pa_cons (pe_bltn (v := .ty "tuple") rfl B.tuple PyProof.Rows.boot_tuple rfl) pa_nil)))))
        (pw_or1 (pt_cmpR op_ne (pe_callB call_len_seq rfl B.len PySem.boot_len (pa_cons (pe_ix ix_list (pv 0) (pv 2) (fun _ _ => rfl)) pa_nil)) pe_int (nomark _))))) (pss_one (ps_ret pe_bl)) pss_nil)
      (pss_cons (ps_for PassesOwn.never rfl (pi_tup (pe_ix ix_list (pv 0) (pv 2) (fun _ _ => rfl))) (pg_name (i := 3) scUnh.nd rfl (Or.inl rfl))
        (pss_one (ps_if (pt_not (pt_val (pe_call W.ok hr rfl W.m W.kp W.b .nil pass0 (pa_cons (pv 3) pa_nil)))) (pss_one (ps_ret pe_bl)) pss_nil)))
      (pss_one (ps_if (pt_cmpR (op_neT hu) (pe_ix ix_list (pv 0) (pv 2) (fun _ _ => rfl)) (pe_ix ix_list (pv 1) (pv 2) (fun _ _ => rfl)) (nomark _)) (pss_one (ps_ret pe_bl)) pss_nil)))))
    (pss_one (ps_ret pe_bl))), ?_⟩
  refine ⟨_, rfl, a, _, rfl, .inl (.of ea), _, rfl, b, _, rfl, .inl (.of eb), rfl, _, rfl, iteNS rfl ?_⟩
  have hl : (rs.map V.ref).length = rs.length := List.length_map _
  refine ⟨_, rfl, b, _, rfl, .inl (.of eb), _, rfl, by omega, by omega, for_range (lo := 0) (n := (((rs.map V.ref).length : Nat) : Int).toNat) (fun i σ H2 => ∃ v2 v3, σ = [some (.ref a), some (.ref b), v2, v3] ∧ H2 = H) ⟨_, _, rfl, rfl⟩ ?_ ?_⟩
  · rintro i σ H2 hi ⟨v2, v3, rfl, rfl⟩
    have hi' : i < rs.length := by omega
    obtain ⟨c, hc⟩ : ∃ c, cs[i]? = some c := ⟨cs[i]'(by omega), by simp⟩
    have hr' : rs[i]? = some rs[i] := by simp [hi']
    have et := ht i _ c hr' hc
    have ei : (0 : Int) + (i : Int) = ((i : Nat) : Int) := by omega
    have hat : atI (rs.map V.ref) (0 + (i : Int)) = some (.ref rs[i]) := by rw [ei]; exact atI_nat (by simp [hi'])
    generalize rs[i] = r at et hat
    refine ⟨_, rfl, _, rfl, a, _, _, .ref r, rfl, rfl, .of ea, hat, .ref r, "tuple", .type "tuple", true, rfl, .tup et, kit_tt K, true, rfl, iteF ?_⟩
    refine ⟨_, rfl, _, rfl, a, _, _, .ref r, rfl, rfl, .of ea, hat, r, _, rfl, .inr (.of et), rfl, _, rfl, iteNS rfl ?_⟩
    refine ⟨_, rfl, _, rfl, a, _, _, .ref r, rfl, rfl, .of ea, hat, r, rfl, ⟨_, .of et⟩, for_tup (K := K) (a := r) (xs := [.int c.1, .int c.2.1, .int c.2.2]) (fun j σ' H' => ∃ v, σ' = [some (.ref a), some (.ref b), some (.int (0 + (i : Int))), v] ∧ H' = H2) ⟨_, rfl, rfl⟩ (fun j σ' H' _ ⟨_, _, e⟩ => by rw [e]; exact .of et) ?_ ?_⟩
    · rintro j x σ' H' hx ⟨v, rfl, rfl⟩
      obtain ⟨z, rfl⟩ : ∃ z, x = V.int z := by
        match j, hx with
        | 0, hx => exact ⟨_, (Option.some.inj hx).symm⟩
        | 1, hx => exact ⟨_, (Option.some.inj hx).symm⟩
        | 2, hx => exact ⟨_, (Option.some.inj hx).symm⟩
      exact ⟨_, rfl, z, rfl, true, rfl, iteF ⟨_, rfl, rfl⟩⟩
    · rintro σ' H' ⟨v, rfl, rfl⟩
      refine ⟨_, rfl, _, rfl, a, _, _, .ref r, rfl, rfl, .of ea, hat, _, rfl, _, rfl, b, _, _, .ref r, rfl, rfl, .of eb, hat, r, r, [c.1, c.2.1, c.2.2], rfl, rfl, .of et, .of et, _, rfl, iteF ?_⟩
      exact ⟨_, _, rfl, rfl⟩
  · rintro σ H2 ⟨v2, v3, rfl, rfl⟩
    exact q
end
end Ml

namespace Ml
open PySem PySem.Spec PyProof.Rows L2
/-! ### laying -/
def spMast : Sp := fun vs H Q _ => ∃ c n : Int, vs = [.int c, .int n] ∧ Q (.bl (decide (0 ≤ n) && decide (n < c))) H
def spRefuse : Sp := fun vs H Q _ => ∃ (cnt : Int) (a : Addr) (cs : List Cable), vs = [.int cnt, .ref a] ∧ Cab H a cs ∧ Good cnt cs ∧ ∀ H', Same H H' → Q .non H'
def spJoin : Sp := fun vs H Q _ => ∃ (a : Addr) (gs : List Int) (kept gone : Int), vs = [.ref a, .int kept, .int gone] ∧ H a = some (.lst (gs.map V.int)) ∧ gs.length ≤ 1000 ∧
  ∀ (p : Addr) (H' : Hp), Same H H' → H' p = some (.lst ((joinL kept gone gs).map V.int)) → H p = none → Q (.ref p) H'
def spLaid (pos : Pos) (P : Addr) : Sp := fun vs H Q _ => ∃ (cnt : Int) (a : Addr) (cs : List Cable), vs = [.int cnt, .ref a] ∧ Cab H a cs ∧ Good cnt cs ∧ 0 ≤ cnt ∧ cnt ≤ 101 ∧ cs.length < 64 ∧ Tab pos P H ∧
  ∀ (p : Addr) (t : List Nat) (ms : List Int) (H' : Hp), IsTurn cs t → ms.Perm (natIs (runK cs cnt.toNat t).2) → ms.Pairwise (· ≤ ·) → Ext H H' → Tab pos P H' → H' p = some (.lst (ms.map V.int)) → H p = none → Q (.ref p) H'
section
variable {Pg : Program} {w : World} {K : PySem.W.Frag} {mg : Str → Option Value} {base : Heap} {f : Addr} {fd : FuncData}
theorem scMast : FnScope ["count", "number"] ["count", "number"] (defScope sMast) := ⟨rfl, rfl, rfl, by decide +kernel, rfl, by decide +kernel, by decide +kernel⟩
theorem ok_mast (F : Fun K "is_mast" "is_mast" sMast f fd) : FnOk Pg w K mg base CX0 1 f fd ["count", "number"] spMast := by
  refine F.ok scMast (fun vs H Q E h => ?_) (fun cdv A outer s H vs Q E hr h => ?_)
  · obtain ⟨c, n, rfl, _⟩ := h
    rfl
  obtain ⟨c, n, rfl, q⟩ := h
  refine ⟨_, pss_one (ps_ret (pe_and (pe_cmpR op_ge (pv 1) pe_int (nomark _)) (pe_one (pe_cmpR op_lt (pv 1) (pv 0) (nomark _))))), ?_⟩
  refine ⟨_, rfl, _, _, rfl, rfl, _, rfl, ?_⟩
  by_cases h0 : 0 ≤ n
  · rw [decide_eq_true h0] at q ⊢
    refine iteT ⟨_, rfl, _, rfl, _, _, rfl, rfl, ?_⟩
    exact q
  · rw [decide_eq_false h0] at q ⊢
    exact iteF q
theorem scRefuse : FnScope ["count", "cables", "place", "cable"] ["count", "cables"] (defScope sRefuse) := ⟨rfl, rfl, rfl, by decide +kernel, rfl, by decide +kernel, by decide +kernel⟩
theorem ok_refuse {fM : Addr} {fdM : FuncData} (F : Fun K "refuse_stray_cables" "refuse_stray_cables" sRefuse f fd) (me : mg "enumerate" = none) (M : Dn Pg w K mg base 1 "is_mast" ["count", "number"] fM fdM spMast) : FnOk Pg w K mg base CX0 2 f fd ["count", "cables"] spRefuse := by
  refine F.ok scRefuse (fun vs H Q E h => ?_) (fun cdv A outer s H vs Q E hr h => ?_)
  · obtain ⟨cnt, a, cs, rfl, _⟩ := h
    rfl
  obtain ⟨cnt, a, cs, rfl, hC, g, q⟩ := h
  refine ⟨_, pss_one (ps_for PassesOwn.never rfl (pi_enum rfl me (pa_cons (pv 1) pa_nil)) (pg_tup rfl (pgs_cons (pg_name (i := 2) scRefuse.nd rfl (Or.inl rfl)) (pgs_cons (pg_name (i := 3) scRefuse.nd rfl (Or.inl rfl)) pgs_nil)))
    (pss_one (ps_if (PW.pt (pw_or (pt_not (pt_val (pe_call M.ok hr rfl M.m M.kp M.b .nil pass0 (pa_cons (pv 0) (pa_cons (pe_ix ix_tup (pv 3) pe_int (fun _ _ => rfl)) pa_nil)))))
      (pw_or1 (pt_not (pt_val (pe_call M.ok hr rfl M.m M.kp M.b .nil pass0 (pa_cons (pv 0) (pa_cons (pe_ix ix_tup (pv 3) pe_int (fun _ _ => rfl)) pa_nil)))))))) pss_never pss_nil))), ?_⟩
  obtain ⟨rs, ea, el, ht⟩ := id hC
  refine ⟨_, rfl, a, rfl, ⟨_, .of ea⟩, for_enum (K := K) (a := a) (xs := rs.map V.ref) (fun i σ H2 => ∃ v2 v3, σ = [some (.int cnt), some (.ref a), v2, v3] ∧ Same H H2) ⟨_, _, rfl, Same.refl H⟩ (fun i σ H2 _ ⟨_, _, _, s2⟩ => .of (s2 _ _ ea)) ?_ ?_⟩
  · rintro i x σ H2 p hx ⟨v2, v3, rfl, s2⟩ hp
    have hi : i < rs.length := by
      have := (List.getElem?_eq_some_iff.mp hx).1
      rw [List.length_map] at this; exact this
    obtain ⟨c, hc⟩ : ∃ c, cs[i]? = some c := ⟨cs[i]'(by omega), by simp⟩
    have hr' : rs[i]? = some rs[i] := by simp [hi]
    obtain rfl : x = .ref rs[i] := by
      rw [List.getElem?_map, hr'] at hx
      exact (Option.some.inj hx).symm
    have s3 : Same H (upd H2 p (.tup [.int (i : Int), .ref rs[i]])) := fun b o e => by rw [upd_ne (ne_of_none (s2 b o e) hp)]; exact s2 b o e
    have et := s3 _ _ (ht i _ c hr' hc)
    obtain ⟨g1, g2, g3, g4, _⟩ := g.at hc
    refine ⟨p, _, rfl, .of upd_same, rfl, _, _, rfl, _, _, rfl, rfl, ?_⟩
    refine ⟨_, rfl, _, rfl, _, _, 0, .int c.1, rfl, rfl, .of et, rfl, cnt, c.1, rfl, _, rfl, ?_⟩
    rw [decide_eq_true g1, decide_eq_true g2]
    refine iteF ?_
    refine ⟨_, rfl, _, rfl, _, _, 1, .int c.2.1, rfl, rfl, .of et, rfl, cnt, c.2.1, rfl, _, rfl, ?_⟩
    rw [decide_eq_true g3, decide_eq_true g4]
    exact iteF ⟨_, _, rfl, s3⟩
  · rintro σ H2 ⟨v2, v3, rfl, s2⟩
    exact q H2 s2
theorem scJoin : FnScope ["groups", "kept", "gone"] ["groups", "kept", "gone"] (defScope sJoin) := ⟨rfl, rfl, rfl, by decide +kernel, rfl, by decide +kernel, by decide +kernel⟩
theorem ok_join (F : Fun K "with_groups_joined" "with_groups_joined" sJoin f fd) : FnOk Pg w K mg base CX0 1 f fd ["groups", "kept", "gone"] spJoin := by
  refine F.ok scJoin (fun vs H Q E h => ?_) (fun cdv A outer s H vs Q E hr h => ?_)
  · obtain ⟨a, gs, kept, gone, rfl, _⟩ := h
    rfl
  obtain ⟨a, gs, kept, gone, rfl, ea, hl, q⟩ := h
  refine ⟨_, pss_one (ps_ret (pe_comp (caps := ["gone", "kept"]) (cl := [("kept", s.heap.objs.size + 1), ("gone", s.heap.objs.size + 1 + 1)]) rfl ⟨rfl, rfl, by decide +kernel, by decide +kernel, ?cc, ?ch, ?ck, by decide +kernel⟩ rfl (pi_list (pv 0))
    (fun _ _ _ _ _ => ⟨.nil, pe_ifExp (pt_cmpR op_eq (pv 0) (pv 1) (nomark _)) (pv 2) (pv 0)⟩))), ?_⟩
  case cc =>
    intro y c h
    have m := PySem.mem_of_lookup h
    rcases List.mem_cons.mp m with e | m
    · cases e; rfl
    · cases List.mem_singleton.mp m; rfl
  case ch =>
    intro y h
    have m : (y, NameKind.cell) ∈ (relabel _ _).names ∨ (y, NameKind.free) ∈ (relabel _ _).names := h.imp PySem.mem_of_lookup PySem.mem_of_lookup
    have m' : (y, NameKind.cell) ∈ [((".0" : Str), NameKind.local), ("group", NameKind.local), ("gone", NameKind.cell), ("kept", NameKind.cell)] ∨ (y, NameKind.free) ∈ [((".0" : Str), NameKind.local), ("group", NameKind.local), ("gone", NameKind.cell), ("kept", NameKind.cell)] := m
    simp only [List.mem_cons, Prod.mk.injEq, reduceCtorEq, and_false, and_true, List.not_mem_nil, or_false, false_or] at m'
    rcases m' with e | e
    · exact ⟨_, by rw [e]; rfl⟩
    · exact ⟨_, by rw [e]; rfl⟩
  case ck =>
    intro y h
    rcases List.mem_cons.mp h with e | h
    · rw [e]; exact ⟨.inl rfl, .inl rfl⟩
    · rw [List.mem_singleton.mp h]; exact ⟨.inl rfl, .inl rfl⟩
  refine ⟨_, rfl, a, rfl, ⟨_, .of ea⟩, fun p hp => ⟨[some (.int gone), some (.int kept)], rfl, ?_, ?_⟩⟩
  · intro j y v h1 h2
    match j, h1, h2 with
    | 0, h1, h2 => cases h1; cases h2; exact ⟨2, rfl, rfl⟩
    | 1, h1, h2 => cases h1; cases h2; exact ⟨1, rfl, rfl⟩
  · have na : a ≠ p := ne_of_none ea hp
    have hll : (gs.map V.int).length = gs.length := List.length_map _
    refine ⟨fun i m σ' H' => m = gs.length - i ∧ i ≤ gs.length ∧ (∃ v0, σ' = [v0, some (.int gone), some (.int kept)]) ∧ Same H H' ∧ H' p = some (.lst ((joinL kept gone (gs.take i)).map V.int)), ⟨gs.length, rfl, Nat.zero_le _, ⟨_, rfl⟩, fun b o e => by rw [upd_ne (ne_of_none e hp)]; exact e, upd_same⟩, ?_⟩
    rintro i m σ' H' ⟨rfl, hi, ⟨v0, rfl⟩, s2, e2⟩
    have ea2 := s2 _ _ ea
    by_cases hlt : i < gs.length
    · refine .inr ⟨⟨_, .int gs[i], .of ea2, by simp [hlt]⟩, fun x H2 y => ?_⟩
      obtain ⟨rfl, y⟩ := y
      obtain rfl : x = .int gs[i] := by
        have := y _ (.of ea2)
        simp only [List.getElem?_map, List.getElem?_eq_getElem hlt, Option.map_some] at this
        exact (Option.some.inj this).symm
      refine tAll_if ?_
      refine ⟨_, rfl, _, rfl, rfl, _, rfl, ?_⟩
      have et : joinL kept gone (gs.take (i + 1)) = joinL kept gone (gs.take i) ++ [if gs[i] = gone then kept else gs[i]] := by
        unfold joinL
        rw [List.take_succ_eq_append_getElem hlt, List.map_append]; rfl
      have fin : ∀ z : Int, (z = if gs[i] = gone then kept else gs[i]) → ∃ xs, H2 p = some (.lst xs) ∧ xs.length < sizeLine ∧ ∃ m', m' < gs.length - i ∧ (m' = gs.length - (i + 1) ∧ i + 1 ≤ gs.length ∧ (∃ v0', [some (V.int gs[i]), some (.int gone), some (.int kept)] = [v0', some (V.int gone), some (.int kept)]) ∧ Same H (upd H2 p (.lst (xs ++ [.int z]))) ∧ (upd H2 p (.lst (xs ++ [.int z]))) p = some (.lst ((joinL kept gone (gs.take (i + 1))).map V.int))) := fun z hz => by
        refine ⟨_, e2, ?_, _, by omega, rfl, hlt, ⟨_, rfl⟩, fun b o e => ?_, ?_⟩
        · rw [List.length_map, joinL_length, List.length_take]; exact small1000 (by omega)
        · rw [upd_ne (ne_of_none e hp)]; exact s2 b o e
        · rw [upd_same, et, List.map_append, hz]; rfl
      refine ite2 (fun c => ?_) (fun c => ?_)
      · have c' : V.int gs[i] = V.int gone := of_decide_eq_true c
        exact ⟨_, rfl, fin kept (by rw [if_pos (by cases c'; rfl)])⟩
      · have c' : ¬ V.int gs[i] = V.int gone := of_decide_eq_false (Bool.eq_false_iff.mpr c)
        exact ⟨_, rfl, fin gs[i] (by rw [if_neg (fun z => c' (by rw [z]))])⟩
    · have e : i = gs.length := by omega
      subst e
      refine .inl ⟨⟨_, .of ea2, by rw [hll]; exact Nat.le_refl _⟩, ⟨_, e2⟩, q p H' s2 (by rw [List.take_length] at e2; exact e2) hp⟩
theorem scLaid : FnScope ["count", "cables", "groups", "places", "place", "one", "other"] ["count", "cables"] (defScope sLaid) := ⟨rfl, rfl, rfl, by decide +kernel, rfl, by decide +kernel, by decide +kernel⟩
theorem ok_laid {P fR fT fJ : Addr} {fdR fdT fdJ : FuncData} (F : Fun K "laid" "laid" sLaid f fd) (B : Blt mg) (R : Dn Pg w K mg base 2 "refuse_stray_cables" ["count", "cables"] fR fdR spRefuse)
    (GT : Dn Pg w K mg base 4 "in_turn" ["cables"] fT fdT (spTurn posL P)) (J : Dn Pg w K mg base 1 "with_groups_joined" ["groups", "kept", "gone"] fJ fdJ spJoin) : FnOk Pg w K mg base CX0 5 f fd ["count", "cables"] (spLaid posL P) := by
  refine F.ok scLaid (fun vs H Q E h => ?_) (fun cdv A outer s H vs Q E hr h => ?_)
  · obtain ⟨cnt, a, cs, rfl, _⟩ := h
    rfl
  obtain ⟨cnt, a, cs, rfl, hC, g, hc0, hc1, h64, hT, q⟩ := h
  have hr1 : Room 1 _ := hr.mono (by decide)
  have hr2 : Room 2 _ := hr.mono (by decide)
  refine ⟨_, pss_cons (ps_expr (pe_call R.ok hr2 rfl R.m R.kp R.b .nil pass0 (pa_cons (pv 0) (pa_cons (pv 1) pa_nil))))
    (pss_cons (ps_set (i := 2) scLaid.nd rfl (Or.inl rfl) (pe_callTy (call_listRng rfl) rfl B.list PyProof.Rows.boot_list (pa_cons (pe_callTy call_rangeV rfl B.range boot_range (pa_cons (pv 0) pa_nil)) pa_nil)))
    (pss_cons (ps_set (i := 3) scLaid.nd rfl (Or.inl rfl) (pe_lst pa_nil))
    (pss_cons (ps_for PassesOwn.never rfl (pi_list (pe_call GT.ok hr rfl GT.m GT.kp GT.b .nil pass0 (pa_cons (pv 1) pa_nil))) (pg_name (i := 4) scLaid.nd rfl (Or.inl rfl))
      (pss_cons (ps_set (i := 5) scLaid.nd rfl (Or.inl rfl) (pe_ix ix_list (pv 2) (pe_ix ix_tup (pe_ix ix_list (pv 1) (pv 4) (fun _ _ => rfl)) pe_int (fun _ _ => rfl)) (fun _ _ => rfl)))
      (pss_cons (ps_set (i := 6) scLaid.nd rfl (Or.inl rfl) (pe_ix ix_list (pv 2) (pe_ix ix_tup (pe_ix ix_list (pv 1) (pv 4) (fun _ _ => rfl)) pe_int (fun _ _ => rfl)) (fun _ _ => rfl)))
      (pss_one (ps_if (pt_cmpR op_ne (pv 5) (pv 6) (nomark _))
        (pss_cons (ps_expr (pe_bm PySem.F.plainAttrs_list PySem.F.slot_list_append PySem.F.type_list_append mt_append (pv 3) (pa_cons (pv 4) pa_nil)))
        (pss_one (ps_set (i := 2) scLaid.nd rfl (Or.inl rfl) (pe_call J.ok hr1 rfl J.m J.kp J.b .nil pass0 (pa_cons (pv 2) (pa_cons (pv 5) (pa_cons (pv 6) pa_nil))))))) pss_nil)))))
    (pss_one (ps_ret (pe_callB call_sortedI rfl B.sorted boot_sorted (pa_cons (pv 3) pa_nil))))))), ?_⟩
  -- refuse
  refine ⟨_, rfl, _, rfl, cnt, a, cs, rfl, hC, g, fun H1 s1 => ?_⟩
  have T1 := hT.same s1
  -- groups
  refine ⟨_, rfl, cnt, rfl, fun p2 hp2 => ?_⟩
  have s2 := same_new hp2 (.rng 0 cnt)
  have ecnt : ((cnt.toNat : Nat) : Int) = cnt := by omega
  refine ⟨p2, cnt.toNat, rfl, by rw [upd_same, ecnt], by omega, fun pg0 hpg0 => ?_⟩
  have s3 := same_new hpg0 (.lst (natVs (List.range cnt.toNat)))
  have eg0 : (upd (upd H1 p2 (.rng 0 cnt)) pg0 (.lst (natVs (List.range cnt.toNat)))) pg0 = some (.lst (natVs (List.range cnt.toNat))) := upd_same
  have s13 : Same H (upd (upd H1 p2 (.rng 0 cnt)) pg0 (.lst (natVs (List.range cnt.toNat)))) := (s1.trans s2).trans s3
  generalize upd (upd H1 p2 (.rng 0 cnt)) pg0 (.lst (natVs (List.range cnt.toNat))) = H3 at s3 eg0 s13 ⊢
  -- places = []
  refine ⟨(by show 0 ≤ sizeLine; decide), fun pp hpp => ?_⟩
  have s4 := same_new hpp (.lst [])
  have ep0 : (upd H3 pp (.lst [])) pp = some (.lst []) := upd_same
  have eg1 := s4 _ _ eg0
  have s14 : Same H (upd H3 pp (.lst [])) := s13.trans s4
  have hppH : H pp = none := s13.free hpp
  generalize upd H3 pp (.lst []) = H4 at s4 ep0 eg1 s14 ⊢
  have T4 := hT.same s14
  -- in_turn(cables)
  refine ⟨_, rfl, a, cs, rfl, hC.ext (.same s14), h64, T4, fun D t H5 ht x5 T5 e5 hD => ?_⟩
  have x15 : Ext H H5 := (Ext.same s14).trans x5
  have hDp : D ≠ pp := fun z => by rw [z, ep0] at hD; cases hD
  have htl : t.length = cs.length := by rw [ht.perm.length_eq, List.length_range]
  refine ⟨D, rfl, ⟨_, .of e5⟩, for_list (K := K) (a := D) (xs := natVs t) (fun i σ H6 => ∃ (pg : Addr) (v4 v5 v6 : Option V), σ = [some (.int cnt), some (.ref a), some (.ref pg), some (.ref pp), v4, v5, v6] ∧ Ext H H6 ∧ Tab posL P H6 ∧ H6 D = some (.lst (natVs t)) ∧
      H6 pg = some (.lst ((runK cs cnt.toNat (t.take i)).1.map V.int)) ∧ H6 pp = some (.lst (natVs (runK cs cnt.toNat (t.take i)).2)) ∧ pg ≠ pp)
    ⟨pg0, _, _, _, rfl, x15, T5, e5, by rw [x5.lst eg1, List.take_zero]; show _ = some (HO.lst ((natIs (List.range cnt.toNat)).map V.int)); rw [natVs_eq], by rw [x5.lst ep0, List.take_zero]; rfl, ne_of_none eg0 hpp⟩ (fun i σ H6 _ ⟨_, _, _, _, _, _, _, e, _⟩ => .of e) ?_ ?_⟩
  · rintro i x σ H6 hx ⟨pg, v4, v5, v6, rfl, x6, T6, e6, eg, ep, hne⟩
    have hi : i < t.length := by
      have := (List.getElem?_eq_some_iff.mp hx).1
      rw [List.length_map] at this; exact this
    obtain rfl : x = .int ((t[i] : Nat) : Int) := by
      simp only [natVs, List.getElem?_map, List.getElem?_eq_getElem hi, Option.map_some] at hx
      exact (Option.some.inj hx).symm
    have hti : t[i] < cs.length := List.mem_range.mp (ht.perm.mem_iff.mp (List.getElem_mem hi))
    obtain ⟨c, hc⟩ : ∃ c, cs[t[i]]? = some c := ⟨cs[t[i]], by simp [hti]⟩
    obtain ⟨xs, r, h1, h2, h3, h4⟩ := (hC.ext x6).get hc
    obtain ⟨g1, g2, g3, g4, _⟩ := g.at hc
    have hlen := runK_length cs cnt.toNat (t.take i)
    have hpl := runK_places cs cnt.toNat (t.take i)
    rw [List.length_take] at hpl
    have hstep := runK_take cs cnt.toNat t i hi
    generalize runK cs cnt.toNat (t.take i) = st at eg ep hlen hpl hstep
    have a1 : atI (st.1.map V.int) c.1 = some (.int (lab st.1 c.1)) := atI_int g1 (by rw [hlen]; omega)
    have a2 : atI (st.1.map V.int) c.2.1 = some (.int (lab st.1 c.2.1)) := atI_int g3 (by rw [hlen]; omega)
    refine ⟨_, rfl, _, rfl, _, rfl, a, xs, _, .ref r, rfl, rfl, .of h1, atI_nat h3, r, _, 0, .int c.1, rfl, rfl, .of h4, rfl, pg, _, _, _, rfl, rfl, .of eg, a1, ?_⟩
    refine ⟨_, rfl, _, rfl, _, rfl, a, xs, _, .ref r, rfl, rfl, .of h1, atI_nat h3, r, _, 1, .int c.2.1, rfl, rfl, .of h4, rfl, pg, _, _, _, rfl, rfl, .of eg, a2, ?_⟩
    refine ⟨_, rfl, _, rfl, rfl, _, rfl, ?_⟩
    by_cases hl : lab st.1 c.1 = lab st.1 c.2.1
    · have es : stepK cs st t[i] = st := by unfold stepK; rw [hc]; dsimp only; rw [if_pos hl]
      rw [es] at hstep
      refine iteNS (by rw [hl]) ?_
      exact ⟨pg, _, _, _, rfl, x6, T6, e6, by rw [hstep]; exact eg, by rw [hstep]; exact ep, hne⟩
    · have es : stepK cs st t[i] = (joinL (lab st.1 c.1) (lab st.1 c.2.1) st.1, st.2 ++ [t[i]]) := by unfold stepK; rw [hc]; dsimp only; rw [if_neg hl]
      rw [es] at hstep
      rw [decide_eq_false (show ¬ V.int (lab st.1 c.1) = V.int (lab st.1 c.2.1) from fun z => hl (V.int.inj z))]
      refine iteT ?_
      refine ⟨_, rfl, .inl ⟨rfl, _, .of ep⟩, _, rfl, pp, _, _, rfl, rfl, ep, ?_, ?_⟩
      · rw [List.length_map]; exact small1000 (by omega)
      have x7 : Ext H (upd H6 pp (.lst (natVs st.2 ++ [.int ((t[i] : Nat) : Int)]))) := x6.put hppH
      have T7 : Tab posL P (upd H6 pp (.lst (natVs st.2 ++ [.int ((t[i] : Nat) : Int)]))) := T6.put ep
      have eD7 : (upd H6 pp (.lst (natVs st.2 ++ [.int ((t[i] : Nat) : Int)]))) D = some (.lst (natVs t)) := by rw [upd_ne hDp]; exact e6
      have eg7 : (upd H6 pp (.lst (natVs st.2 ++ [.int ((t[i] : Nat) : Int)]))) pg = some (.lst (st.1.map V.int)) := by rw [upd_ne hne]; exact eg
      have ep7 : (upd H6 pp (.lst (natVs st.2 ++ [.int ((t[i] : Nat) : Int)]))) pp = some (.lst (natVs (st.2 ++ [t[i]]))) := by rw [upd_same, natVs, natVs, List.map_append]; rfl
      refine ⟨_, rfl, _, rfl, _, rfl, pg, st.1, _, _, rfl, eg7, by omega, fun p' H8 s8 e8 hp8 => ?_⟩
      refine ⟨p', _, _, _, rfl, x7.trans (.same s8), T7.same s8, s8 _ _ eD7, by rw [hstep]; exact e8, by rw [hstep]; exact s8 _ _ ep7, fun z => ?_⟩
      rw [z, ep7] at hp8; cases hp8
  · rintro σ H6 ⟨pg, v4, v5, v6, rfl, x6, T6, e6, eg, ep, hne⟩
    have hfull : t.take (natVs t).length = t := by rw [List.length_map, List.take_length]
    rw [hfull] at ep
    have hpl := runK_places cs cnt.toNat t
    refine ⟨_, rfl, pp, natIs (runK cs cnt.toNat t).2, rfl, .of (by rw [← natVs_eq]; exact ep), ?_, fun p ms hperm hasc hp => ?_⟩
    · show (List.map _ _).length < 64
      rw [List.length_map]; omega
    · exact q p t ms _ ht hperm hasc (x6.trans (.new hp)) (T6.new hp) upd_same (x6.free hp)
end
end Ml

namespace Ml
open PySem PySem.Spec PyProof.Rows L2
/-! ### the sum of the laid -/
theorem mem_natIs {ns : List Nat} {m : Int} : m ∈ natIs ns ↔ ∃ j : Nat, j ∈ ns ∧ m = (j : Int) := by
  unfold natIs
  rw [List.mem_map]
  exact ⟨fun ⟨j, h, e⟩ => ⟨j, h, e.symm⟩, fun ⟨j, h, e⟩ => ⟨j, h, e.symm⟩⟩
theorem inN {cnt : Int} {cs : List Cable} (g : Good cnt cs) : InN cs cnt.toNat := fun c hc => by
  obtain ⟨a, b, c, d, _⟩ := g c hc
  exact ⟨by omega, by omega⟩
theorem IsTurn.nodup {cs : List Cable} {t : List Nat} (h : IsTurn cs t) : t.Nodup := h.perm.nodup_iff.mpr List.nodup_range
theorem IsTurn.lt {cs : List Cable} {t : List Nat} (h : IsTurn cs t) {i : Nat} (hi : i ∈ t) : i < cs.length := List.mem_range.mp (h.perm.mem_iff.mp hi)
theorem laid_lt {cs : List Cable} {t : List Nat} {n : Nat} (h : IsTurn cs t) {ms : List Int} (hp : ms.Perm (natIs (runK cs n t).2)) {m : Int} (hm : m ∈ ms) : ∃ j : Nat, j < cs.length ∧ m = (j : Int) := by
  obtain ⟨j, hj, e⟩ := mem_natIs.mp (hp.mem_iff.mp hm)
  exact ⟨j, h.lt (run_mem hj), e⟩
theorem laid_sum {cs : List Cable} {A : List Nat} {ms : List Int} (hp : ms.Perm (natIs A)) : (ms.map fun m => lenAt cs m.toNat).sum = wsum (lenAt cs) A := by
  rw [sum_perm (hp.map _)]
  unfold wsum natIs
  rw [List.map_map]
  rfl
theorem laid_len {cs : List Cable} {t : List Nat} {n : Nat} (h : IsTurn cs t) {ms : List Int} (hp : ms.Perm (natIs (runK cs n t).2)) : ms.length ≤ cs.length := by
  have e := hp.length_eq
  have l := runK_places cs n t
  have tl : t.length = cs.length := by rw [h.perm.length_eq, List.length_range]
  rw [natIs, List.length_map] at e
  omega
theorem ix_listK {X : Cx} {K : PySem.W.Frag} (h : X.K = K) : IxR X (rIxL K) := by subst h; exact ix_list
theorem ix_tupK {X : Cx} {K : PySem.W.Frag} (h : X.K = K) : IxR X (rIxT K) := by subst h; exact ix_tup
def spTotal (pos : Pos) (P : Addr) : Sp := fun vs H Q _ => ∃ (cnt : Int) (a : Addr) (cs : List Cable), vs = [.int cnt, .ref a] ∧ Cab H a cs ∧ Good cnt cs ∧ 0 ≤ cnt ∧ cnt ≤ 101 ∧ cs.length < 64 ∧ Tab pos P H ∧
  ∀ (t : List Nat) (H' : Hp), IsTurn cs t → Ext H H' → Tab pos P H' → Q (.int (wsum (lenAt cs) (runK cs cnt.toNat t).2)) H'
def spUpto (K : PySem.W.Frag) : Sp := fun vs H Q _ => ∃ (a : Addr) (ns : List Int) (x y : Int), vs = [.ref a, .int x, .int y] ∧ SqL K H a (ns.map V.int) ∧ ns.length ≤ 63 ∧ Q (.int x) H
section
variable {Pg : Program} {w : World} {K : PySem.W.Frag} {mg : Str → Option Value} {base : Heap} {f : Addr} {fd : FuncData}
theorem scTotal : FnScope ["count", "cables"] ["count", "cables"] (defScope sTotal) := ⟨rfl, rfl, rfl, by decide +kernel, rfl, by decide +kernel, by decide +kernel⟩
theorem ok_total {P fL : Addr} {fdL : FuncData} (F : Fun K "total" "total" sTotal f fd) (hS : mg "sum" = none) (L : Dn Pg w K mg base 5 "laid" ["count", "cables"] fL fdL (spLaid posL P)) : FnOk Pg w K mg base CX0 6 f fd ["count", "cables"] (spTotal posL P) := by
  refine F.ok scTotal (fun vs H Q E h => ?_) (fun cdv A outer s H vs Q E hr h => ?_)
  · obtain ⟨cnt, a, cs, rfl, _⟩ := h
    rfl
  obtain ⟨cnt, a, cs, rfl, hC, g, hc0, hc1, h64, hT, q⟩ := h
  refine ⟨_, pss_one (ps_ret (pe_callB (call_sumI rfl) rfl hS boot_sum (pa_cons (pe_comp (caps := ["cables"]) (cl := [("cables", s.heap.objs.size + 1)]) rfl ⟨rfl, rfl, by decide +kernel, by decide +kernel, ?cc, ?ch, ?ck, by decide +kernel⟩ rfl
      (pi_list (pe_call L.ok hr rfl L.m L.kp L.b .nil pass0 (pa_cons (pv 0) (pa_cons (pv 1) pa_nil))))
      (fun _ _ _ _ _ => ⟨.nil, pe_ix (ix_tupK (K := K) rfl) (pe_ix (ix_listK (K := K) rfl) (pv 1) (pv 0) (fun _ _ => rfl)) pe_int (fun _ _ => rfl)⟩)) pa_nil))), ?_⟩
  case cc =>
    intro y c h
    have m := PySem.mem_of_lookup h
    cases List.mem_singleton.mp m; rfl
  case ch =>
    intro y h
    have m : (y, NameKind.cell) ∈ (relabel _ _).names ∨ (y, NameKind.free) ∈ (relabel _ _).names := h.imp PySem.mem_of_lookup PySem.mem_of_lookup
    have m' : (y, NameKind.cell) ∈ [((".0" : Str), NameKind.local), ("place", NameKind.local), ("cables", NameKind.cell)] ∨ (y, NameKind.free) ∈ [((".0" : Str), NameKind.local), ("place", NameKind.local), ("cables", NameKind.cell)] := m
    simp only [List.mem_cons, Prod.mk.injEq, reduceCtorEq, and_false, and_true, List.not_mem_nil, or_false, false_or] at m'
    exact ⟨_, by rw [m']; rfl⟩
  case ck =>
    intro y h
    rw [List.mem_singleton.mp h]; exact ⟨.inl rfl, .inl rfl⟩
  refine ⟨_, rfl, _, rfl, cnt, a, cs, rfl, hC, g, hc0, hc1, h64, hT, fun D t ms H1 ht hperm hasc x1 T1 e1 hD => ⟨D, rfl, ⟨_, .of e1⟩, fun p hp => ?_⟩⟩
  have hml := laid_len ht hperm
  refine comp_list (caps := ["cables"]) (ys := (ms.map fun m => lenAt cs m.toNat).map V.int) [some (.ref a)] hp (.of e1) (by simp) (by rw [List.length_map]; omega) rfl ?_ ?_ ?_
  · intro j y v h1 h2
    match j, h1, h2 with
    | 0, h1, h2 => cases h1; cases h2; exact ⟨1, rfl, rfl⟩
  · intro i x y H2 R hx hy s2 hR
    have hi : i < ms.length := by
      have := (List.getElem?_eq_some_iff.mp hx).1
      rw [List.length_map] at this; exact this
    simp only [List.getElem?_map, List.getElem?_eq_getElem hi, Option.map_some] at hx hy
    obtain ⟨j, hj, ej⟩ := laid_lt ht hperm (List.getElem_mem hi)
    rw [ej] at hx hy
    cases hx
    obtain ⟨c, hc⟩ : ∃ c, cs[j]? = some c := ⟨cs[j], by simp [hj]⟩
    obtain ⟨xs, r, h1, h2, h3, h4⟩ := ((hC.ext x1).ext (.same s2)).get hc
    have ey : y = .int c.2.2 := by
      rw [← Option.some.inj hy]
      show V.int (lenAt cs j) = _
      unfold lenAt; rw [hc]
    rw [ey] at hR
    exact ⟨_, rfl, _, rfl, a, xs, _, .ref r, rfl, rfl, .of h1, atI_nat h3, r, _, 2, .int c.2.2, rfl, rfl, .of h4, rfl, hR⟩
  · intro H2 s2 e2
    have z := q t H2 ht (x1.trans (.same s2)) (T1.same s2)
    rw [← laid_sum hperm] at z
    exact ⟨p, _, rfl, .of e2, z⟩
theorem scUpto : FnScope ["_law_script", "_law_small", "_law_great"] ["_law_script", "_law_small", "_law_great"] (defScope sUpto) := ⟨rfl, rfl, rfl, by decide +kernel, rfl, by decide +kernel, by decide +kernel⟩
theorem ok_upto (F : Fun K "_law_upto" "_law_upto" sUpto f fd) (B : Blt mg) : FnOk Pg w K mg base CX0 1 f fd ["_law_script", "_law_small", "_law_great"] (spUpto K) := by
  refine F.ok scUpto (fun vs H Q E h => ?_) (fun cdv A outer s H vs Q E hr h => ?_)
  · obtain ⟨a, ns, x, y, rfl, _⟩ := h
    rfl
  obtain ⟨a, ns, x, y, rfl, hS, h63, q⟩ := h
  have hl : (ns.map V.int).length = ns.length := List.length_map _
  refine ⟨_, pss_cons (ps_if (pt_cmpR op_gt (pe_callB call_len_seq rfl B.len PySem.boot_len (pa_cons (pv 0) pa_nil)) pe_int (nomark _)) (pss_one (ps_ret (pv 2))) pss_nil) (pss_one (ps_ret (pv 1))), ?_⟩
  refine ⟨_, rfl, a, _, rfl, .inl hS, _, _, rfl, rfl, _, rfl, ?_⟩
  rw [decide_eq_false (show ¬ (63 : Int) < (((ns.map V.int).length : Nat) : Int) by omega)]
  exact iteF ⟨_, rfl, q⟩
end
end Ml

namespace Ml
open PySem PySem.Spec PyProof.Rows L2
/-! ### walking over the laid cables -/
def spFar : Sp := fun vs H Q _ => ∃ (r : Addr) (c : Cable) (m : Int), vs = [.ref r, .int m] ∧ H r = some (.tup [.int c.1, .int c.2.1, .int c.2.2]) ∧ Q (.int (farI c m)) H
def spBy : Sp := fun vs H Q _ => ∃ (cnt : Int) (a b : Addr) (cs : List Cable) (L : List Nat), vs = [.int cnt, .ref a, .ref b] ∧ Cab H a cs ∧ Good cnt cs ∧ 0 ≤ cnt ∧ cnt ≤ 101 ∧ H b = some (.lst (natVs L)) ∧ (∀ p ∈ L, p < cs.length) ∧ L.length < 64 ∧
  ∀ (p : Addr) (H' : Hp), Same H H' → ByM H' p cs L cnt.toNat → H p = none → Q (.ref p) H'
def spBack : Sp := fun vs H Q _ => ∃ (a b : Addr) (start cnt : Int) (cs : List Cable) (L : List Nat), vs = [.ref a, .ref b, .int start] ∧ Cab H a cs ∧ Good cnt cs ∧ cnt ≤ 101 ∧ 0 ≤ start ∧ start < cnt ∧ (∀ p ∈ L, p < cs.length) ∧ ByM H b cs L cnt.toNat ∧
  ∀ (p : Addr) (es : List Ent) (H' : Hp), Same H H' → H' p = some (.dK (encD es)) → Tree cs L start es → Closed cs L (keys es) → (∀ m ∈ keys es, 0 ≤ m ∧ m < cnt) → H p = none → Q (.ref p) H'
theorem far_in {cnt : Int} {cs : List Cable} (g : Good cnt cs) {p : Nat} {c : Cable} (hc : cs[p]? = some c) (m : Int) : 0 ≤ farI c m ∧ farI c m < cnt := by
  obtain ⟨g1, g2, g3, g4, _⟩ := g.at hc
  unfold farI
  split
  · exact ⟨g3, g4⟩
  · exact ⟨g1, g2⟩
theorem atI_ref {rs : List Addr} {k : Int} {r : Addr} (h0 : 0 ≤ k) (h : rs[k.toNat]? = some r) : atI (rs.map V.ref) k = some (.ref r) := by
  have e : atI (rs.map V.ref) ((k.toNat : Nat) : Int) = some (.ref r) := atI_nat (by rw [List.getElem?_map, h]; rfl)
  rw [show ((k.toNat : Nat) : Int) = k by omega] at e
  exact e
/-- so many masts at most -/
theorem keys_few {es : List Ent} {cnt : Int} (nd : (keys es).Nodup) (h : ∀ m ∈ keys es, 0 ≤ m ∧ m < cnt) : es.length ≤ cnt.toNat := by
  have := len_le nd (ys := natIs (List.range cnt.toNat)) fun m hm => by
    obtain ⟨h1, h2⟩ := h m hm
    exact mem_natIs.mpr ⟨m.toNat, List.mem_range.mpr (by omega), by omega⟩
  unfold keys natIs at this
  rw [List.length_map, List.length_map, List.length_range] at this
  exact this
section
variable {Pg : Program} {w : World} {K : PySem.W.Frag} {mg : Str → Option Value} {base : Heap} {f : Addr} {fd : FuncData}
theorem scFar : FnScope ["cable", "mast"] ["cable", "mast"] (defScope sFar) := ⟨rfl, rfl, rfl, by decide +kernel, rfl, by decide +kernel, by decide +kernel⟩
theorem ok_far (F : Fun K "far_end" "far_end" sFar f fd) : FnOk Pg w K mg base CX0 1 f fd ["cable", "mast"] spFar := by
  refine F.ok scFar (fun vs H Q E h => ?_) (fun cdv A outer s H vs Q E hr h => ?_)
  · obtain ⟨r, c, m, rfl, _⟩ := h
    rfl
  obtain ⟨r, c, m, rfl, er, q⟩ := h
  refine ⟨_, pss_one (ps_ret (pe_ifExp (pt_cmpR op_eq (pe_ix ix_tup (pv 0) pe_int (fun _ _ => rfl)) (pv 1) (nomark _)) (pe_ix ix_tup (pv 0) pe_int (fun _ _ => rfl)) (pe_ix ix_tup (pv 0) pe_int (fun _ _ => rfl)))), ?_⟩
  refine ⟨_, rfl, r, _, 0, .int c.1, rfl, rfl, .of er, rfl, _, rfl, rfl, _, rfl, ?_⟩
  by_cases h : c.1 = m
  · rw [decide_eq_true (show V.int c.1 = V.int m by rw [h])]
    refine iteT ⟨_, rfl, r, _, 1, .int c.2.1, rfl, rfl, .of er, rfl, ?_⟩
    unfold farI at q
    rw [if_pos h] at q
    exact q
  · rw [decide_eq_false (show ¬ V.int c.1 = V.int m from fun z => h (V.int.inj z))]
    refine iteF ⟨_, rfl, r, _, 0, .int c.1, rfl, rfl, .of er, rfl, ?_⟩
    unfold farI at q
    rw [if_neg h] at q
    exact q
theorem scBy : FnScope ["count", "cables", "places", "by_mast", "place"] ["count", "cables", "places"] (defScope sBy) := ⟨rfl, rfl, rfl, by decide +kernel, rfl, by decide +kernel, by decide +kernel⟩
theorem ok_by (F : Fun K "places_by_mast" "places_by_mast" sBy f fd) (B : Blt mg) : FnOk Pg w K mg base CX0 1 f fd ["count", "cables", "places"] spBy := by
  refine F.ok scBy (fun vs H Q E h => ?_) (fun cdv A outer s H vs Q E hr h => ?_)
  · obtain ⟨cnt, a, b, cs, L, rfl, _⟩ := h
    rfl
  obtain ⟨cnt, a, b, cs, L, rfl, hC, g, hc0, hc1, hb, hL, h64, q⟩ := h
  refine ⟨_, pss_cons (ps_setComp (i := 3) (caps := []) (cl := []) scBy.nd rfl rfl rfl ⟨rfl, rfl, by decide +kernel, by decide +kernel, (fun _ _ z => nomatch z), ?ch1, (fun _ z => nomatch z), by decide +kernel⟩ rfl (pi_range1 rfl B.range (pa_cons (pv 0) pa_nil)) (fun _ _ _ _ _ => ⟨.nil, pe_lst pa_nil⟩))
    (pss_cons (ps_for PassesOwn.never rfl (pi_list (pv 2)) (pg_name (i := 4) scBy.nd rfl (Or.inl rfl))
      (pss_cons (ps_expr (pe_bm PySem.F.plainAttrs_list PySem.F.slot_list_append PySem.F.type_list_append mt_append (pe_ix ix_list (pv 3) (pe_ix ix_tup (pe_ix ix_list (pv 1) (pv 4) (fun _ _ => rfl)) pe_int (fun _ _ => rfl)) (fun _ _ => rfl)) (pa_cons (pv 4) pa_nil)))
      (pss_one (ps_expr (pe_bm PySem.F.plainAttrs_list PySem.F.slot_list_append PySem.F.type_list_append mt_append (pe_ix ix_list (pv 3) (pe_ix ix_tup (pe_ix ix_list (pv 1) (pv 4) (fun _ _ => rfl)) pe_int (fun _ _ => rfl)) (fun _ _ => rfl)) (pa_cons (pv 4) pa_nil))))))
    (pss_one (ps_ret (pv 3)))), ?_⟩
  case ch1 =>
    intro y h
    have m : (y, NameKind.cell) ∈ (relabel _ _).names ∨ (y, NameKind.free) ∈ (relabel _ _).names := h.imp PySem.mem_of_lookup PySem.mem_of_lookup
    have m' : (y, NameKind.cell) ∈ [((".0" : Str), NameKind.local), ("mast", NameKind.local)] ∨ (y, NameKind.free) ∈ [((".0" : Str), NameKind.local), ("mast", NameKind.local)] := m
    simp [List.mem_cons, Prod.mk.injEq, reduceCtorEq] at m'
  -- one list for each mast
  refine ⟨_, rfl, _, rfl, by omega, by omega, fun p hp => ⟨[], rfl, (fun j y v h1 _ => nomatch h1), ?_⟩⟩
  refine ⟨fun i m σ' H' => m = cnt.toNat - i ∧ i ≤ cnt.toNat ∧ (∃ v0, σ' = [v0]) ∧ ∃ rs, BMs H H' p rs (fun _ => []) i, ⟨cnt.toNat, rfl, Nat.zero_le _, ⟨_, rfl⟩, [], upd_same, rfl, List.nodup_nil, (fun i r h => by cases h), same_new hp _, hp, (fun z => nomatch z)⟩, ?_⟩
  rintro i m σ' H' ⟨rfl, hi, ⟨v0, rfl⟩, rs, M⟩
  by_cases hlt : i < cnt.toNat
  · refine .inr ⟨hlt, fun x H2 y => ?_⟩
    obtain ⟨rfl, rfl⟩ := y
    refine tAll_if ?_
    refine ⟨(by show 0 ≤ sizeLine; decide), fun r hr' => ?_⟩
    have hpr : p ≠ r := ne_of_none M.lst hr'
    refine ⟨_, by rw [upd_ne hpr]; exact M.lst, by rw [List.length_map, M.len]; exact small1000 (by omega), _, by omega, rfl, hlt, ⟨_, rfl⟩, rs ++ [r], ?_⟩
    have hrn : r ∉ rs := fun z => by
      obtain ⟨k, hk, e⟩ := List.mem_iff_getElem.mp z
      have := (M.at_ k r (by rw [List.getElem?_eq_getElem hk, e])).1
      rw [this] at hr'; cases hr'
    refine ⟨by rw [upd_same, List.map_append]; rfl, by rw [List.length_append, M.len]; rfl, List.nodup_append.mpr ⟨M.nd, by simp, fun x hx y hy z => hrn (by rw [List.mem_singleton] at hy; rw [← hy, ← z]; exact hx)⟩, fun k r' h => ?_, fun c o e => ?_, M.nb, fun z => ?_⟩
    · by_cases hk : k < rs.length
      · rw [List.getElem?_append_left hk] at h
        obtain ⟨e1, e2⟩ := M.at_ k r' h
        have n1 : r' ≠ p := fun z => M.out (by rw [← z]; exact List.mem_of_getElem? h)
        have n2 : r' ≠ r := ne_of_none e1 hr'
        exact ⟨by rw [upd_ne n1, upd_ne n2]; exact e1, e2⟩
      · have hk2 : k = rs.length := by
          have := (List.getElem?_eq_some_iff.mp h).1
          rw [List.length_append, List.length_singleton] at this
          omega
        subst hk2
        rw [List.getElem?_append_right (Nat.le_refl _), Nat.sub_self] at h
        cases h
        exact ⟨by rw [upd_ne (Ne.symm hpr), upd_same]; rfl, M.same.free hr'⟩
    · rw [upd_ne (ne_of_none e M.nb), upd_ne (ne_of_none (M.same c o e) hr')]
      exact M.same c o e
    · rcases List.mem_append.mp z with z | z
      · exact M.out z
      · exact hpr (List.mem_singleton.mp z)
  · have ei : i = cnt.toNat := by omega
    subst ei
    refine .inl ⟨Nat.le_refl _, ⟨_, M.lst⟩, ?_⟩
    -- the places
    have ll : (natVs L).length = L.length := List.length_map _
    have eb := M.same _ _ hb
    refine ⟨_, rfl, b, rfl, ⟨_, .of eb⟩, for_list (K := K) (a := b) (xs := natVs L) (fun j σ H2 => ∃ (v4 : Option V) (ft : Nat → List Nat), σ = [some (.int cnt), some (.ref a), some (.ref b), some (.ref p), v4] ∧ BMs H H2 p rs ft cnt.toNat ∧
        (∀ k, k < cnt.toNat → (ft k).length ≤ 2 * j ∧ ∀ x, x ∈ ft k ↔ x ∈ L.take j ∧ ∃ c, cs[x]? = some c ∧ Has c (k : Int)))
      ⟨_, _, rfl, M, fun k _ => ⟨Nat.zero_le _, fun x => by simp⟩⟩ (fun j σ H2 _ ⟨_, _, _, M2, _⟩ => .of (M2.same _ _ hb)) ?_ ?_⟩
    · rintro j x σ H2 hx ⟨v4, ft, rfl, M2, hf⟩
      have hj : j < L.length := by
        have := (List.getElem?_eq_some_iff.mp hx).1
        omega
      obtain rfl : x = .int ((L[j] : Nat) : Int) := by
        simp only [natVs, List.getElem?_map, List.getElem?_eq_getElem hj, Option.map_some] at hx
        exact (Option.some.inj hx).symm
      have hLj := hL _ (List.getElem_mem hj)
      obtain ⟨c, hc⟩ : ∃ c, cs[L[j]]? = some c := ⟨cs[L[j]], by simp [hLj]⟩
      obtain ⟨g1, g2, g3, g4, _⟩ := g.at hc
      have i1 : c.1.toNat < rs.length := by rw [M2.len]; omega
      have i2 : c.2.1.toNat < rs.length := by rw [M2.len]; omega
      have r1 : rs[c.1.toNat]? = some rs[c.1.toNat] := List.getElem?_eq_getElem i1
      have r2 : rs[c.2.1.toNat]? = some rs[c.2.1.toNat] := List.getElem?_eq_getElem i2
      have at1 : atI (rs.map V.ref) c.1 = some (.ref rs[c.1.toNat]) := atI_ref g1 r1
      have at2 : atI (rs.map V.ref) c.2.1 = some (.ref rs[c.2.1.toNat]) := atI_ref g3 r2
      -- first end
      obtain ⟨xs, r, h1, h2, h3, h4⟩ := (hC.ext (.same M2.same)).get hc
      obtain ⟨e1, _⟩ := M2.at_ _ _ r1
      have z1 := (hf c.1.toNat (by rw [← M2.len]; exact i1)).1
      refine ⟨_, rfl, _, rfl, _, rfl, a, xs, _, .ref r, rfl, rfl, .of h1, atI_nat h3, r, _, 0, .int c.1, rfl, rfl, .of h4, rfl, p, _, _, .ref rs[c.1.toNat], rfl, rfl, .of M2.lst, at1, .inl ⟨rfl, _, .of e1⟩, _, rfl, rs[c.1.toNat], _, _, rfl, rfl, e1, by rw [List.length_map]; exact small1000 (by omega), ?_⟩
      have M3 := M2.app (p := L[j]) r1
      generalize upd H2 rs[c.1.toNat] (.lst (natVs (ft c.1.toNat) ++ [.int ((L[j] : Nat) : Int)])) = H3 at M3
      obtain ⟨xs', r', h1', h2', h3', h4'⟩ := (hC.ext (.same M3.same)).get hc
      obtain ⟨e2, _⟩ := M3.at_ _ _ r2
      have z2 := (hf c.2.1.toNat (by rw [← M2.len]; exact i2)).1
      refine ⟨_, rfl, _, rfl, _, rfl, a, xs', _, .ref r', rfl, rfl, .of h1', atI_nat h3', r', _, 1, .int c.2.1, rfl, rfl, .of h4', rfl, p, _, _, .ref rs[c.2.1.toNat], rfl, rfl, .of M3.lst, at2, .inl ⟨rfl, _, .of e2⟩, _, rfl, rs[c.2.1.toNat], _, _, rfl, rfl, e2, ?_, ?_⟩
      · rw [List.length_map]
        refine small1000 ?_
        split
        · rw [List.length_append, List.length_singleton]; omega
        · omega
      have M4 := M3.app (p := L[j]) r2
      refine ⟨_, _, rfl, M4, fun k hk => ?_⟩
      obtain ⟨l0, m0⟩ := hf k hk
      have ek : ∀ e : Int, 0 ≤ e → (k = e.toNat ↔ e = (k : Int)) := fun e he => by omega
      constructor
      · split
        · rw [List.length_append, List.length_singleton]
          split
          · rw [List.length_append, List.length_singleton]; omega
          · omega
        · split
          · rw [List.length_append, List.length_singleton]; omega
          · omega
      · intro x
        have mem : x ∈ (if k = c.2.1.toNat then (if k = c.1.toNat then ft k ++ [L[j]] else ft k) ++ [L[j]] else (if k = c.1.toNat then ft k ++ [L[j]] else ft k)) ↔ x ∈ ft k ∨ (x = L[j] ∧ (k = c.1.toNat ∨ k = c.2.1.toNat)) := by
          by_cases p1 : k = c.1.toNat <;> by_cases p2 : k = c.2.1.toNat
          · rw [if_pos p2, if_pos p1]; simp only [List.mem_append, List.mem_singleton, p1, true_or, and_true]; constructor
            · rintro ((z | z) | z)
              · exact .inl z
              · exact .inr z
              · exact .inr z
            · rintro (z | z)
              · exact .inl (.inl z)
              · exact .inr z
          · rw [if_neg p2, if_pos p1]; simp only [List.mem_append, List.mem_singleton, p1, true_or, and_true]
          · rw [if_pos p2, if_neg p1]; simp only [List.mem_append, List.mem_singleton, p2, or_true, and_true]
          · rw [if_neg p2, if_neg p1]; simp only [p1, p2, or_self, and_false, or_false]
        show x ∈ (if k = c.2.1.toNat then (if k = c.1.toNat then ft k ++ [L[j]] else ft k) ++ [L[j]] else (if k = c.1.toNat then ft k ++ [L[j]] else ft k)) ↔ _
        rw [mem, m0, List.take_succ_eq_append_getElem hj, List.mem_append, List.mem_singleton, ek c.1 g1, ek c.2.1 g3]
        constructor
        · rintro (⟨z1, z2⟩ | ⟨z1, z2⟩)
          · exact ⟨.inl z1, z2⟩
          · exact ⟨.inr z1, c, by rw [z1]; exact hc, z2⟩
        · rintro ⟨z1 | z1, z2⟩
          · exact .inl ⟨z1, z2⟩
          · obtain ⟨c', hc', hh⟩ := z2
            rw [z1, hc] at hc'
            cases hc'
            exact .inr ⟨z1, hh⟩
    · rintro σ H2 ⟨v4, ft, rfl, M2, hf⟩
      rw [ll, List.take_length] at hf
      refine ⟨_, rfl, q p H2 M2.same ⟨rs, M2.lst, M2.len, fun k r hr' => ?_⟩ hp⟩
      have hk : k < cnt.toNat := by rw [← M2.len]; exact (List.getElem?_eq_some_iff.mp hr').1
      obtain ⟨l0, m0⟩ := hf k hk
      exact ⟨ft k, (M2.at_ k r hr').1, by omega, m0⟩
end
end Ml
namespace Ml
open PySem PySem.Spec PyProof.Rows L2
def DoneAt (cs : List Cable) (L : List Nat) (es : List Ent) (m : Int) : Prop := ∀ p ∈ L, ∀ c, cs[p]? = some c → Has c m → farI c m ∈ keys es
theorem DoneAt.more {cs : List Cable} {L : List Nat} {es : List Ent} {m : Int} (h : DoneAt cs L es m) (e : Ent) : DoneAt cs L (es ++ [e]) m := fun p hp c hc hh => by
  rw [keys_append]; exact List.mem_append_left _ (h p hp c hc hh)
section
variable {Pg : Program} {w : World} {K : PySem.W.Frag} {mg : Str → Option Value} {base : Heap} {f : Addr} {fd : FuncData}
theorem scBack : FnScope ["cables", "by_mast", "start", "back", "waiting", "mast", "place", "far"] ["cables", "by_mast", "start"] (defScope sBack) := ⟨rfl, rfl, rfl, by decide +kernel, rfl, by decide +kernel, by decide +kernel⟩
theorem ok_back {fF : Addr} {fdF : FuncData} (F : Fun K "places_back" "places_back" sBack f fd) (B : Blt mg) (FE : Dn Pg w K mg base 1 "far_end" ["cable", "mast"] fF fdF spFar) : FnOk Pg w K mg base CX0 2 f fd ["cables", "by_mast", "start"] spBack := by
  refine F.ok scBack (fun vs H Q E h => ?_) (fun cdv A outer s H vs Q E hr h => ?_)
  · obtain ⟨a, b, st, cnt, cs, L, rfl, _⟩ := h
    rfl
  obtain ⟨a, b, start, cnt, cs, L, rfl, hC, g, hc1, hs0, hs1, hL, hB, q⟩ := h
  have hu := hu_of hr
  refine ⟨_, pss_cons (ps_set (i := 3) scBack.nd rfl (Or.inl rfl) (pe_disp (pps_cons (pv 2) pe_non pps_nil) rfl rfl (by intro z; cases z) (by decide)))
    (pss_cons (ps_set (i := 4) scBack.nd rfl (Or.inl rfl) (pe_lst (pa_cons (pv 2) pa_nil)))
    (pss_cons (ps_while PassesOwn.never (pt_cmpR op_gt (pe_callB call_len_seq rfl B.len PySem.boot_len (pa_cons (pv 4) pa_nil)) pe_int (nomark _))
      (pss_cons (ps_set (i := 5) scBack.nd rfl (Or.inl rfl) (pe_bm0 PySem.F.plainAttrs_list PySem.F.slot_list_pop PySem.F.type_list_pop mt_pop (pv 4)))
      (pss_one (ps_for PassesOwn.never rfl (pi_list (pe_ix ix_list (pv 1) (pv 5) (fun _ _ => rfl))) (pg_name (i := 6) scBack.nd rfl (Or.inl rfl))
        (pss_cons (ps_set (i := 7) scBack.nd rfl (Or.inl rfl) (pe_call FE.ok hr rfl FE.m FE.kp FE.b .nil pass0 (pa_cons (pe_ix ix_list (pv 0) (pv 6) (fun _ _ => rfl)) (pa_cons (pv 5) pa_nil))))
        (pss_one (ps_if (pt_cmp (pc_dnotin hu (pv 7) (pv 3)))
          (pss_cons (ps_dput hu (pv 3) (pv 7) (pv 6) rfl)
          (pss_one (ps_expr (pe_bm PySem.F.plainAttrs_list PySem.F.slot_list_append PySem.F.type_list_append mt_append (pv 4) (pa_cons (pv 7) pa_nil))))) pss_nil)))))))
    (pss_one (ps_ret (pv 3))))), ?_⟩
  -- back = {start: None}
  refine fun pb hpb => ⟨_, rfl, upd_same, [(.inl start, .non)], rfl, (by show 1 ≤ 15; decide), ?_⟩
  have s1 : Same H (upd (upd H pb (.dK [])) pb (.dK (mergeK [] [(.inl start, .non)]))) := fun c o e => by rw [upd_ne (ne_of_none e hpb), upd_ne (ne_of_none e hpb)]; exact e
  have e1 : (upd (upd H pb (.dK [])) pb (.dK (mergeK [] [(.inl start, .non)]))) pb = some (.dK (encD [(start, none)])) := by rw [upd_same]; rfl
  generalize upd (upd H pb (.dK [])) pb (.dK (mergeK [] [(.inl start, .non)])) = H1 at s1 e1
  -- waiting = [start]
  refine ⟨_, rfl, (by show 1 ≤ sizeLine; decide), fun pw hpw => ?_⟩
  have s2 := same_new hpw (.lst [.int start])
  have e2 : (upd H1 pw (.lst [.int start])) pw = some (.lst ([start].map V.int)) := upd_same
  have e12 := s2 _ _ e1
  have hbw : pb ≠ pw := ne_of_none e1 hpw
  have hpwH : H pw = none := s1.free hpw
  have s12 := s1.trans s2
  generalize upd H1 pw (.lst [.int start]) = H2 at s2 e2 e12 s12
  have hB2 := id hB
  obtain ⟨rs, eb, erl, hrs⟩ := hB2
  -- the walk
  refine ⟨fun m σ H3 => ∃ (es : List Ent) (ws : List Int) (v5 v6 v7 : Option V), m = 2 * (cnt.toNat - es.length) + ws.length ∧ σ = [some (.ref a), some (.ref b), some (.int start), some (.ref pb), some (.ref pw), v5, v6, v7] ∧ Same H H3 ∧ H3 pb = some (.dK (encD es)) ∧ H3 pw = some (.lst (ws.map V.int)) ∧
      Tree cs L start es ∧ (∀ m ∈ keys es, 0 ≤ m ∧ m < cnt) ∧ (∀ m ∈ ws, m ∈ keys es) ∧ ws.length ≤ es.length ∧ ∀ m ∈ keys es, m ∉ ws → DoneAt cs L es m,
    ⟨_, [(start, none)], [start], _, _, _, rfl, rfl, s12, e12, e2, Tree.one cs L start, (fun m hm => by rw [List.mem_singleton.mp hm]; exact ⟨hs0, hs1⟩), (fun m hm => by rw [List.mem_singleton.mp hm]; exact List.mem_singleton.mpr rfl), Nat.le_refl _, (fun m hm hn => absurd (by rw [List.mem_singleton.mp hm]; exact List.mem_singleton.mpr rfl) hn)⟩, ?_⟩
  rintro m σ H3 ⟨es, ws, v5, v6, v7, rfl, rfl, s3, eb3, ew3, T3, r3, k3, hwe, d3⟩
  have hfew := keys_few T3.nodup r3
  refine ⟨_, rfl, pw, _, rfl, .inl (.of ew3), _, _, rfl, rfl, _, rfl, ?_⟩
  rcases List.eq_nil_or_concat ws with ews | ⟨ws', m0, ews⟩
  · -- done
    subst ews
    rw [show decide ((0 : Int) < ((([] : List Int).map V.int).length : Nat)) = false from rfl]
    refine iteF ⟨_, rfl, q pb es H3 s3 eb3 T3 (fun m hm => d3 m hm (fun z => nomatch z)) r3 hpb⟩
  have ews2 : ws = ws' ++ [m0] := by rw [ews]; first | rfl | exact List.concat_eq_append
  clear ews
  subst ews2
  have hwl : ((ws' ++ [m0]).map V.int).length = ws'.length + 1 := by simp
  rw [decide_eq_true (show (0 : Int) < ((((ws' ++ [m0]).map V.int).length : Nat) : Int) by omega)]
  refine iteT ?_
  have hm0 : m0 ∈ keys es := k3 m0 (List.mem_append_right _ (List.mem_singleton.mpr rfl))
  obtain ⟨q0, q1⟩ := r3 m0 hm0
  have hri : m0.toNat < rs.length := by rw [erl]; omega
  obtain ⟨r, hr0⟩ : ∃ r, rs[m0.toNat]? = some r := ⟨_, List.getElem?_eq_getElem hri⟩
  obtain ⟨ps, er, hps, hmem⟩ := hrs _ _ hr0
  rw [show ((m0.toNat : Nat) : Int) = m0 by omega] at hmem
  have hpl : (natVs ps).length = ps.length := List.length_map _
  let Inn : Nat → L2.St → Hp → Prop := fun j σ H6 => ∃ (es6 : List Ent) (ws6 : List Int) (v6 v7 : Option V), σ = [some (.ref a), some (.ref b), some (.int start), some (.ref pb), some (.ref pw), some (.int m0), v6, v7] ∧ Same H H6 ∧ H6 pb = some (.dK (encD es6)) ∧ H6 pw = some (.lst (ws6.map V.int)) ∧
      Tree cs L start es6 ∧ (∀ m ∈ keys es6, 0 ≤ m ∧ m < cnt) ∧ (∀ m ∈ ws6, m ∈ keys es6) ∧ m0 ∈ keys es6 ∧ ws6.length + es.length = ws'.length + es6.length ∧ es.length ≤ es6.length ∧ (∀ x ∈ ps.take j, ∀ c, cs[x]? = some c → farI c m0 ∈ keys es6) ∧ ∀ m ∈ keys es6, m ≠ m0 → m ∉ ws6 → DoneAt cs L es6 m
  refine ⟨Inn ps.length, ?_, ?_⟩
  · rintro σ' H' ⟨es6, ws6, v6, v7, rfl, s6, eb6, ew6, T6, r6, k6, hm6, hl6, hle6, hf6, d6⟩
    have hfew6 := keys_few T6.nodup r6
    rw [List.take_length] at hf6
    refine ⟨_, ?_, es6, ws6, _, _, _, rfl, rfl, s6, eb6, ew6, T6, r6, k6, ?_, fun m hm hn => ?_⟩
    · rw [List.length_append, List.length_singleton]
      omega
    · rw [List.length_append, List.length_singleton] at hwe
      omega
    · by_cases e : m = m0
      · subst e
        exact fun p hp c hc hh => hf6 p ((hmem p).mpr ⟨hp, c, hc, hh⟩) c hc
      · exact d6 m hm e hn
  -- mast = waiting.pop()
  have hlast : ((ws' ++ [m0]).map V.int)[((ws' ++ [m0]).map V.int).length - 1]? = some (.int m0) := by
    rw [hwl, List.map_append]
    simp
  have hdrop : ((ws' ++ [m0]).map V.int).dropLast = ws'.map V.int := by rw [List.map_append]; simp
  refine ⟨_, rfl, .inl ⟨rfl, _, .of ew3⟩, pw, _, _, rfl, rfl, ew3, hlast, ?_⟩
  rw [hdrop]
  have s4 : Same H (upd H3 pw (.lst (ws'.map V.int))) := fun c o e => by rw [upd_ne (ne_of_none e hpwH)]; exact s3 c o e
  have eb4 : (upd H3 pw (.lst (ws'.map V.int))) pb = some (.dK (encD es)) := by rw [upd_ne hbw]; exact eb3
  have ew4 : (upd H3 pw (.lst (ws'.map V.int))) pw = some (.lst (ws'.map V.int)) := upd_same
  generalize upd H3 pw (.lst (ws'.map V.int)) = H4 at s4 eb4 ew4
  -- for place in by_mast[mast]
  refine ⟨_, rfl, _, rfl, b, _, _, .ref r, rfl, rfl, .of (s4 _ _ eb), atI_ref q0 hr0, r, rfl, ⟨_, .of (s4 _ _ er)⟩, for_list (K := K) (a := r) (xs := natVs ps) Inn
    ⟨es, ws', _, _, rfl, s4, eb4, ew4, T3, r3, (fun m hm => k3 m (List.mem_append_left _ hm)), hm0, rfl, Nat.le_refl _, (fun x hx => by rw [List.take_zero] at hx; cases hx), fun m hm hne hn => d3 m hm (fun z => (List.mem_append.mp z).elim hn fun z => hne (List.mem_singleton.mp z))⟩
    (fun j σ H6 _ ⟨_, _, _, _, _, s6, _⟩ => .of (s6 _ _ er)) ?_ ?_⟩
  · rintro j x σ H6 hx ⟨es6, ws6, v6, v7, rfl, s6, eb6, ew6, T6, r6, k6, hm6, hl6, hle6, hf6, d6⟩
    have hj : j < ps.length := by
      have := (List.getElem?_eq_some_iff.mp hx).1
      omega
    obtain rfl : x = .int ((ps[j] : Nat) : Int) := by
      simp only [natVs, List.getElem?_map, List.getElem?_eq_getElem hj, Option.map_some] at hx
      exact (Option.some.inj hx).symm
    obtain ⟨hpL, c, hc, hh⟩ := (hmem ps[j]).mp (List.getElem_mem hj)
    obtain ⟨xs, rc, h1, h2, h3, h4⟩ := (hC.ext (.same s6)).get hc
    have hfew6 := keys_few T6.nodup r6
    -- far
    refine ⟨_, rfl, _, rfl, a, xs, _, .ref rc, rfl, rfl, .of h1, atI_nat h3, _, rfl, rc, c, m0, rfl, h4, ?_⟩
    -- if far not in back
    refine ⟨_, rfl, _, rfl, pb, _, rfl, DGet.k (k := .inl (farI c m0)) eb6, _, rfl, ?_⟩
    rw [val_in]
    have take1 : ps.take (j + 1) = ps.take j ++ [ps[j]] := List.take_succ_eq_append_getElem hj
    by_cases hin : farI c m0 ∈ keys es6
    · rw [decide_eq_true hin]
      refine iteF ⟨es6, ws6, _, _, rfl, s6, eb6, ew6, T6, r6, k6, hm6, hl6, hle6, fun x hx c' hc' => ?_, d6⟩
      rw [take1] at hx
      rcases List.mem_append.mp hx with z | z
      · exact hf6 x z c' hc'
      · rw [List.mem_singleton.mp z, hc] at hc'
        cases hc'
        exact hin
    · rw [decide_eq_false hin]
      refine iteT ?_
      refine ⟨_, rfl, _, rfl, _, rfl, pb, _, rfl, DPut.k (k := .inl (farI c m0)) eb6 (by unfold encD; rw [List.length_map]; exact small1000 (by omega)), ?_⟩
      have epb : (upd H6 pb (.dK (putK (encD es6) (.inl (farI c m0)) (.int ((ps[j] : Nat) : Int))))) pb = some (.dK (encD (es6 ++ [(farI c m0, some ps[j])]))) := by rw [upd_same, put_new hin]
      have epw : (upd H6 pb (.dK (putK (encD es6) (.inl (farI c m0)) (.int ((ps[j] : Nat) : Int))))) pw = some (.lst (ws6.map V.int)) := by rw [upd_ne (Ne.symm hbw)]; exact ew6
      have s7 : Same H (upd H6 pb (.dK (putK (encD es6) (.inl (farI c m0)) (.int ((ps[j] : Nat) : Int))))) := fun c o e => by rw [upd_ne (ne_of_none e hpb)]; exact s6 c o e
      generalize upd H6 pb (.dK (putK (encD es6) (.inl (farI c m0)) (.int ((ps[j] : Nat) : Int)))) = H7 at epb epw s7
      have hwl6 : ws6.length ≤ 300 := by
        rw [List.length_append, List.length_singleton] at hwe
        omega
      refine ⟨_, rfl, .inl ⟨rfl, _, .of epw⟩, _, rfl, pw, _, _, rfl, rfl, epw, by rw [List.length_map]; exact small1000 (by omega), ?_⟩
      have hfm : farI c m0 ≠ m0 := fun z => hin (by rw [z]; exact hm6)
      obtain ⟨f1, f2⟩ := far_far hh hfm
      have T8 := T6.snoc hpL hc f2 (by rw [f1]; exact hm6) hin
      refine ⟨es6 ++ [(farI c m0, some ps[j])], ws6 ++ [farI c m0], _, _, rfl, fun d o e => ?_, by rw [upd_ne hbw]; exact epb, by rw [upd_same, List.map_append]; rfl, T8, fun m hm => ?_, fun m hm => ?_, ?_, by rw [List.length_append, List.length_append, List.length_singleton, List.length_singleton]; omega, by rw [List.length_append]; omega, fun x hx c' hc' => ?_, fun m hm hne hn => ?_⟩
      · rw [upd_ne (ne_of_none e hpwH)]; exact s7 d o e
      · rw [keys_append] at hm
        rcases List.mem_append.mp hm with z | z
        · exact r6 m z
        · rw [List.mem_singleton.mp z]; exact far_in g hc m0
      · rw [keys_append]
        rcases List.mem_append.mp hm with z | z
        · exact List.mem_append_left _ (k6 m z)
        · exact List.mem_append_right _ z
      · rw [keys_append]; exact List.mem_append_left _ hm6
      · rw [keys_append]
        rw [take1] at hx
        rcases List.mem_append.mp hx with z | z
        · exact List.mem_append_left _ (hf6 x z c' hc')
        · rw [List.mem_singleton.mp z, hc] at hc'
          cases hc'
          exact List.mem_append_right _ (List.mem_singleton.mpr rfl)
      · rw [keys_append] at hm
        rcases List.mem_append.mp hm with z | z
        · exact (d6 m z hne fun y => hn (List.mem_append_left _ y)).more _
        · exact absurd (List.mem_append_right _ z) hn
  · rintro σ H6 h
    rw [hpl] at h
    exact h
end
end Ml
namespace Ml
open PySem PySem.Spec PyProof.Rows L2
/-- what unrolled tells -/
def Told (H : Hp) (p : Addr) (es : List Ent) : Prop := ∃ as : List Addr, H p = some (.lst (as.map V.ref)) ∧ as.length = es.length ∧ ∀ (j : Nat) (a : Addr) (e : Ent), as[j]? = some a → es[j]? = some e → H a = some (.tup [.int e.1, encO e.2])
def spUnr (pos : Pos) (P : Addr) : Sp := fun vs H Q _ => ∃ (cnt : Int) (a : Addr) (cs : List Cable), vs = [.int cnt, .ref a] ∧ Cab H a cs ∧ Good cnt cs ∧ 0 ≤ cnt ∧ cnt ≤ 101 ∧ cs.length < 64 ∧ Tab pos P H ∧
  ∀ (p : Addr) (t L : List Nat) (ts : List (List Ent)) (H' : Hp), IsTurn cs t → L.Perm (runK cs cnt.toNat t).2 → Forest cs L ts → (∀ m ∈ keys ts.flatten, 0 ≤ m ∧ m < cnt) → (∀ m : Int, 0 ≤ m → m < cnt → m ∈ keys ts.flatten) → Ext H H' → Tab pos P H' → Told H' p ts.flatten → H p = none → Q (.ref p) H'
section
variable {Pg : Program} {w : World} {K : PySem.W.Frag} {mg : Str → Option Value} {base : Heap} {f : Addr} {fd : FuncData}
theorem scUnr : FnScope ["count", "cables", "by_mast", "told", "mast"] ["count", "cables"] (defScope sUnrolled) := ⟨rfl, rfl, rfl, by decide +kernel, rfl, by decide +kernel, by decide +kernel⟩
theorem ok_unr {P fL fY fK : Addr} {fdL fdY fdK : FuncData} (F : Fun K "unrolled" "unrolled" sUnrolled f fd) (B : Blt mg) (GL : Dn Pg w K mg base 5 "laid" ["count", "cables"] fL fdL (spLaid posL P))
    (GY : Dn Pg w K mg base 1 "places_by_mast" ["count", "cables", "places"] fY fdY spBy) (GK : Dn Pg w K mg base 2 "places_back" ["cables", "by_mast", "start"] fK fdK spBack) : FnOk Pg w K mg base CX0 6 f fd ["count", "cables"] (spUnr posL P) := by
  refine F.ok scUnr (fun vs H Q E h => ?_) (fun cdv A outer s H vs Q E hr h => ?_)
  · obtain ⟨cnt, a, cs, rfl, _⟩ := h
    rfl
  obtain ⟨cnt, a, cs, rfl, hC, g, hc0, hc1, h64, hT, q⟩ := h
  have hu := hu_of hr
  have hr1 : Room 1 _ := hr.mono (by decide)
  have hr2 : Room 2 _ := hr.mono (by decide)
  refine ⟨_, pss_cons (ps_set (i := 2) scUnr.nd rfl (Or.inl rfl) (pe_call GY.ok hr1 rfl GY.m GY.kp GY.b .nil pass0 (pa_cons (pv 0) (pa_cons (pv 1) (pa_cons (pe_call GL.ok hr rfl GL.m GL.kp GL.b .nil pass0 (pa_cons (pv 0) (pa_cons (pv 1) pa_nil))) pa_nil)))))
    (pss_cons (ps_set (i := 3) scUnr.nd rfl (Or.inl rfl) pe_dnewK)
    (pss_cons (ps_for PassesOwn.never rfl (pi_range1 rfl B.range (pa_cons (pv 0) pa_nil)) (pg_name (i := 4) scUnr.nd rfl (Or.inl rfl))
      (pss_one (ps_if (pt_cmp (pc_dnotin hu (pv 4) (pv 3)))
        (pss_one (ps_expr (pe_bm PySem.F.plainAttrs_dict PySem.F.slot_dict_update PySem.F.type_dict_update mt_update (pv 3) (pa_cons (pe_call GK.ok hr2 rfl GK.m GK.kp GK.b .nil pass0 (pa_cons (pv 1) (pa_cons (pv 2) (pa_cons (pv 4) pa_nil)))) pa_nil)))) pss_nil)))
    (pss_one (ps_ret (pe_listItems rfl rfl B.list (pv 3)))))), ?_⟩
  -- laid
  refine ⟨_, rfl, _, rfl, _, rfl, _, rfl, cnt, a, cs, rfl, hC, g, hc0, hc1, h64, hT, fun D t ms H1 ht hperm hasc x1 T1 e1 hD => ?_⟩
  have hml := laid_len ht hperm
  obtain ⟨L, rfl, hLA⟩ := laid_nats hperm
  have hLlt : ∀ p ∈ L, p < cs.length := fun p hp => ht.lt (run_mem (hLA.mem_iff.mp hp))
  have hLl : L.length < 64 := by unfold natIs at hml; rw [List.length_map] at hml; omega
  have C1 := hC.ext x1
  -- by_mast
  refine ⟨cnt, a, D, cs, L, rfl, C1, g, hc0, hc1, by rw [natVs_eq]; exact e1, hLlt, hLl, fun pm H2 s2 M2 hpm => ?_⟩
  have C2 := C1.ext (.same s2)
  have T2 := T1.same s2
  -- told = {}
  refine fun pt hpt => ?_
  have s3 := same_new hpt (.dK [])
  have e3 : (upd H2 pt (.dK [])) pt = some (.dK (encD [])) := upd_same
  generalize upd H2 pt (.dK []) = H3 at s3 e3
  -- the masts
  refine ⟨_, rfl, _, rfl, by omega, by omega, for_range (lo := 0) (n := cnt.toNat)
    (fun i σ H4 => ∃ (ts : List (List Ent)) (v4 : Option V), σ = [some (.int cnt), some (.ref a), some (.ref pm), some (.ref pt), v4] ∧ Same H2 H4 ∧ H4 pt = some (.dK (encD ts.flatten)) ∧ Forest cs L ts ∧ (∀ m ∈ keys ts.flatten, 0 ≤ m ∧ m < cnt) ∧ ∀ m : Int, 0 ≤ m → m < (i : Int) → m ∈ keys ts.flatten)
    ⟨[], _, rfl, s3, e3, Forest.nil cs L, (fun m hm => nomatch hm), fun m h1 h2 => by omega⟩ ?_ ?_⟩
  · rintro i σ H4 hi ⟨ts, v4, rfl, s4, e4, F4, r4, a4⟩
    have ei : (0 : Int) + (i : Int) = (i : Int) := by omega
    rw [ei]
    refine ⟨_, rfl, _, rfl, pt, _, rfl, DGet.k (k := .inl (i : Int)) e4, _, rfl, ?_⟩
    rw [val_in]
    by_cases hin : (i : Int) ∈ keys ts.flatten
    · rw [decide_eq_true hin]
      refine iteF ⟨ts, _, rfl, s4, e4, F4, r4, fun m h1 h2 => ?_⟩
      by_cases e : m = (i : Int)
      · rw [e]; exact hin
      · exact a4 m h1 (by omega)
    · rw [decide_eq_false hin]
      refine iteT ?_
      refine ⟨_, rfl, .inr (.inr (.inl ⟨rfl, .inl ⟨_, e4⟩⟩)), _, rfl, _, rfl, _, rfl, a, pm, (i : Int), cnt, cs, L, rfl, C2.ext (.same s4), g, hc1, by omega, by omega, hLlt, M2.same s4, fun pk es H5 s5 e5 T5 c5 r5 hpk => ?_⟩
      have F5 := F4.snoc T5 c5 hin
      have ef : (ts ++ [es]).flatten = ts.flatten ++ es := by simp
      have nd5 : (keys (ts.flatten ++ es)).Nodup := by rw [← ef]; exact F5.nodup
      have r6 : ∀ m ∈ keys (ts.flatten ++ es), 0 ≤ m ∧ m < cnt := fun m hm => by
        rw [keys_append] at hm
        rcases List.mem_append.mp hm with z | z
        · exact r4 m z
        · exact r5 m z
      have few := keys_few nd5 r6
      rw [List.length_append] at few
      refine ⟨pt, pk, _, _, rfl, rfl, (fun z => by rw [← z, e4] at hpk; cases hpk), s5 _ _ e4, e5, by unfold encD; rw [List.length_map, List.length_map]; omega, ?_⟩
      refine ⟨ts ++ [es], _, rfl, fun c o e => ?_, ?_, F5, by rw [ef]; exact r6, fun m h1 h2 => ?_⟩
      · rw [upd_ne (ne_of_none e hpt)]; exact s5 c o (s4 c o e)
      · rw [upd_same, merge_apart _ _ nd5, ef]
      · rw [ef, keys_append]
        by_cases e : m = (i : Int)
        · rw [e]
          exact List.mem_append_right _ (mem_keys.mpr ⟨0, none, T5.head⟩)
        · exact List.mem_append_left _ (a4 m h1 (by omega))
  · rintro σ H4 ⟨ts, v4, rfl, s4, e4, F4, r4, a4⟩
    have few := keys_few F4.nodup r4
    refine ⟨_, rfl, pt, _, rfl, e4, by unfold encD; rw [List.length_map]; omega, fun p as H5 al s5 e5 t5 hp => ?_⟩
    have x5 : Ext H H5 := x1.trans (.same ((s2.trans s4).trans s5))
    unfold encD at al
    rw [List.length_map] at al
    refine q p t L ts H5 ht hLA F4 r4 (fun m h1 h2 => a4 m h1 (by omega)) x5 (T2.same (s4.trans s5)) ⟨as, e5, al, fun j a' e h1 h2 => ?_⟩ (x1.free (s2.free (s4.free hp)))
    exact t5 j a' (encE e) h1 (by unfold encD; rw [List.getElem?_map, h2]; rfl)
end
end Ml

namespace Ml
open PySem PySem.Spec PyProof.Rows L2
def spBetween : Sp := fun vs H Q _ => ∃ (a b : Addr) (one other cnt : Int) (cs : List Cable) (L : List Nat), vs = [.ref a, .ref b, .int one, .int other] ∧ Cab H a cs ∧ Good cnt cs ∧ cnt ≤ 101 ∧ 0 ≤ one ∧ one < cnt ∧ 0 ≤ other ∧ other < cnt ∧ (∀ p ∈ L, p < cs.length) ∧ ByM H b cs L cnt.toNat ∧
  (∀ (es : List Ent) (H' : Hp), Same H H' → Tree cs L other es → Closed cs L (keys es) → one ∉ keys es → Q .non H') ∧
  ∀ (p : Addr) (r : List Nat) (es : List Ent) (H' : Hp), Same H H' → Tree cs L other es → one ∈ keys es → H' p = some (.lst (natVs r)) → Path cs L one other r → r.Nodup → H p = none → Q (.ref p) H'
section
variable {Pg : Program} {w : World} {K : PySem.W.Frag} {mg : Str → Option Value} {base : Heap} {f : Addr} {fd : FuncData}
theorem scBetween : FnScope ["cables", "by_mast", "one", "other", "back", "row", "mast", "place"] ["cables", "by_mast", "one", "other"] (defScope sBetween) := ⟨rfl, rfl, rfl, by decide +kernel, rfl, by decide +kernel, by decide +kernel⟩
theorem ok_between {fF fK : Addr} {fdF fdK : FuncData} (F : Fun K "way_between" "way_between" sBetween f fd) (FE : Dn Pg w K mg base 1 "far_end" ["cable", "mast"] fF fdF spFar)
    (GK : Dn Pg w K mg base 2 "places_back" ["cables", "by_mast", "start"] fK fdK spBack) : FnOk Pg w K mg base CX0 3 f fd ["cables", "by_mast", "one", "other"] spBetween := by
  refine F.ok scBetween (fun vs H Q E h => ?_) (fun cdv A outer s H vs Q E hr h => ?_)
  · obtain ⟨a, b, one, other, cnt, cs, L, rfl, _⟩ := h
    rfl
  obtain ⟨a, b, one, other, cnt, cs, L, rfl, hC, g, hc1, o0, o1, t0, t1, hL, hB, q1, q2⟩ := h
  have hu := hu_of hr
  have hr1 : Room 1 _ := hr.mono (by decide)
  refine ⟨_, pss_cons (ps_set (i := 4) scBetween.nd rfl (Or.inl rfl) (pe_call GK.ok hr rfl GK.m GK.kp GK.b .nil pass0 (pa_cons (pv 0) (pa_cons (pv 1) (pa_cons (pv 3) pa_nil)))))
    (pss_cons (ps_if (pt_cmp (pc_dnotin hu (pv 2) (pv 4))) (pss_one (ps_ret pe_non)) pss_nil)
    (pss_cons (ps_set (i := 5) scBetween.nd rfl (Or.inl rfl) (pe_lst pa_nil))
    (pss_cons (ps_set (i := 6) scBetween.nd rfl (Or.inl rfl) (pv 2))
    (pss_cons (ps_while PassesOwn.never (pt_cmpR op_ne (pv 6) (pv 3) (nomark _))
      (pss_cons (ps_set (i := 7) scBetween.nd rfl (Or.inl rfl) (pe_dget hu (pv 4) (pv 6) (fun _ _ => rfl)))
      (pss_cons (ps_expr (pe_bm PySem.F.plainAttrs_list PySem.F.slot_list_append PySem.F.type_list_append mt_append (pv 5) (pa_cons (pv 7) pa_nil)))
      (pss_one (ps_set (i := 6) scBetween.nd rfl (Or.inl rfl) (pe_call FE.ok hr1 rfl FE.m FE.kp FE.b .nil pass0 (pa_cons (pe_ix ix_list (pv 0) (pv 7) (fun _ _ => rfl)) (pa_cons (pv 6) pa_nil))))))))
    (pss_one (ps_ret (pv 5))))))), ?_⟩
  -- back
  refine ⟨_, rfl, _, rfl, _, rfl, a, b, other, cnt, cs, L, rfl, hC, g, hc1, t0, t1, hL, hB, fun pb es H1 s1 e1 T1 c1 r1 hpb => ?_⟩
  have few := keys_few T1.nodup r1
  -- if one not in back
  refine ⟨_, rfl, _, rfl, pb, _, rfl, DGet.k (k := .inl one) e1, _, rfl, ?_⟩
  rw [val_in]
  by_cases hin' : one ∉ keys es
  · rw [decide_eq_false hin']
    exact iteT (q1 es H1 s1 T1 c1 hin')
  have hin : one ∈ keys es := Classical.not_not.mp hin'
  rw [decide_eq_true hin]
  refine iteF ?_
  -- row = [], mast = one
  refine ⟨(by show 0 ≤ sizeLine; decide), fun pr hpr => ?_⟩
  have s2 := same_new hpr (.lst [])
  have e2 : (upd H1 pr (.lst [])) pr = some (.lst (natVs [])) := upd_same
  have e12 := s2 _ _ e1
  have hbr : pb ≠ pr := ne_of_none e1 hpr
  have hprH : H pr = none := s1.free hpr
  have s12 := s1.trans s2
  generalize upd H1 pr (.lst []) = H2 at s2 e2 e12 s12
  obtain ⟨i0, w0, ei0⟩ := mem_keys.mp hin
  refine ⟨_, rfl, ?_⟩
  -- the way
  refine ⟨fun m σ H3 => ∃ (mast : Int) (o : Option Nat) (r : List Nat) (v7 : Option V), σ = [some (.ref a), some (.ref b), some (.int one), some (.int other), some (.ref pb), some (.ref pr), some (.int mast), v7] ∧ Same H H3 ∧ H3 pb = some (.dK (encD es)) ∧ H3 pr = some (.lst (natVs r)) ∧
      es[m]? = some (mast, o) ∧ Path cs L one mast r ∧ r.Nodup ∧ ∀ p ∈ r, ∃ (k : Nat) (x : Int), m < k ∧ es[k]? = some (x, some p),
    ⟨i0, one, w0, [], _, rfl, s12, e12, e2, ei0, rfl, List.nodup_nil, (fun p hp => nomatch hp)⟩, ?_⟩
  rintro m σ H3 ⟨mast, o, r, v7, rfl, s3, eb3, er3, em, hP, nd, hr3⟩
  refine ⟨_, rfl, _, rfl, rfl, _, rfl, ?_⟩
  by_cases hm : mast = other
  · refine iteNS (by rw [hm]) ?_
    refine ⟨_, rfl, q2 pr r es H3 s3 T1 hin er3 (by rw [← hm]; exact hP) nd hprH⟩
  rw [decide_eq_false (show ¬ V.int mast = V.int other from fun z => hm (V.int.inj z))]
  refine iteT ?_
  have hm0 : m ≠ 0 := fun z => by
    subst z
    rw [T1.head] at em
    cases em
    exact hm rfl
  cases o with
  | none => exact absurd rfl (T1.rest m mast none em hm0)
  | some pl =>
    obtain ⟨hpL, c, hc, hh, j, o', hj, ej⟩ := T1.reached m mast pl em
    have hpr' : pl ∉ r := fun z => by
      obtain ⟨k, x, hk, ek⟩ := hr3 pl z
      exact absurd (gone_once T1.reached T1.nodup em ek) (by omega)
    have hrl : r.length ≤ cs.length := by
      have := len_le nd (ys := List.range cs.length) fun p hp => List.mem_range.mpr (hL p (hP.mem p hp))
      simpa using this
    have hrk : r.length ≤ 101 := by
      have := len_le nd (ys := gone es) fun p hp => by
        obtain ⟨k, x, _, ek⟩ := hr3 p hp
        exact mem_gone.mpr ⟨k, x, ek⟩
      unfold gone at this
      have z := List.length_filterMap_le (fun e : Ent => e.2) es
      omega
    let N : L2.St → Hp → Prop := fun σ' H' => ∃ (r' : List Nat) (v7 : Option V), σ' = [some (.ref a), some (.ref b), some (.int one), some (.int other), some (.ref pb), some (.ref pr), some (.int (farI c mast)), v7] ∧ Same H H' ∧ H' pb = some (.dK (encD es)) ∧ H' pr = some (.lst (natVs (r ++ [pl]))) ∧ True
    refine ⟨N, ?_, ?_⟩
    · rintro σ' H' ⟨r', v7, rfl, s4, eb4, er4, _⟩
      refine ⟨j, hj, farI c mast, o', r ++ [pl], _, rfl, s4, eb4, er4, ej, hP.snoc hpL hc hh, ?_, fun p hp => ?_⟩
      · exact List.nodup_append.mpr ⟨nd, by simp, fun x hx y hy z => hpr' (by rw [List.mem_singleton] at hy; rw [← hy, ← z]; exact hx)⟩
      · rcases List.mem_append.mp hp with z | z
        · obtain ⟨k, x, hk, ek⟩ := hr3 p z
          exact ⟨k, x, by omega, ek⟩
        · rw [List.mem_singleton.mp z]
          exact ⟨m, mast, hj, em⟩
    -- place = back[mast]
    have dg : DGet H3 pb (.int mast) (some (.int (pl : Int))) := by
      have := DGet.k (k := .inl mast) eb3
      rw [val_at T1.nodup em] at this
      exact this
    refine ⟨_, rfl, _, rfl, pb, _, rfl, dg, ?_⟩
    -- row.append(place)
    refine ⟨_, rfl, .inl ⟨rfl, _, .of er3⟩, _, rfl, pr, _, _, rfl, rfl, er3, by rw [List.length_map]; exact small1000 (by omega), ?_⟩
    have s4 : Same H (upd H3 pr (.lst (natVs r ++ [.int (pl : Int)]))) := fun c o e => by rw [upd_ne (ne_of_none e hprH)]; exact s3 c o e
    have eb4 : (upd H3 pr (.lst (natVs r ++ [.int (pl : Int)]))) pb = some (.dK (encD es)) := by rw [upd_ne hbr]; exact eb3
    have er4 : (upd H3 pr (.lst (natVs r ++ [.int (pl : Int)]))) pr = some (.lst (natVs (r ++ [pl]))) := by rw [upd_same, natVs, natVs, List.map_append]; rfl
    generalize upd H3 pr (.lst (natVs r ++ [.int (pl : Int)])) = H4 at s4 eb4 er4
    -- mast = far_end(cables[place], mast)
    obtain ⟨xs, rc, h1, h2, h3, h4⟩ := (hC.ext (.same s4)).get hc
    refine ⟨_, rfl, _, rfl, a, xs, _, .ref rc, rfl, rfl, .of h1, atI_nat h3, _, rfl, rc, c, mast, rfl, h4, ?_⟩
    exact ⟨r, _, rfl, s4, eb4, er4, trivial⟩
end
end Ml
namespace Ml
open PySem PySem.Spec PyProof.Rows L2
theorem in_ints (m : Int) : ∀ ks : List Int, inV (.int m) (ks.map V.int) = decide (m ∈ ks)
  | [] => rfl
  | k :: ks => by
    have ih := in_ints m ks
    unfold inV at ih ⊢
    rw [List.map_cons, List.any_cons, ih]
    by_cases e : k = m
    · subst e
      rw [show eqV (V.int k) (V.int k) = true by simp [eqV]]
      simp
    · rw [show eqV (V.int k) (V.int m) = false by simp [eqV, e]]
      have : ¬ m = k := fun z => e z.symm
      simp [this]
theorem flat_ints : ∀ ks : List Int, (ks.map V.int).all flatV = true
  | [] => rfl
  | k :: ks => by rw [List.map_cons, List.all_cons, flat_ints ks]; rfl
theorem mem_natIs' {p : Nat} {L : List Nat} : (p : Int) ∈ natIs L ↔ p ∈ L := by
  rw [mem_natIs]
  constructor
  · rintro ⟨j, h, e⟩
    have : p = j := by omega
    rw [this]; exact h
  · intro h
    exact ⟨p, h, rfl⟩
end Ml
namespace Ml
open PySem PySem.Spec PyProof.Rows L2
def outs (L : List Nat) (n : Nat) : List Nat := (List.range n).filter fun k => decide (k ∉ L)
theorem outs_succ (L : List Nat) (n : Nat) : outs L (n + 1) = outs L n ++ (if n ∉ L then [n] else []) := by
  unfold outs
  rw [List.range_succ, List.filter_append]
  congr 1
  by_cases h : n ∈ L
  · simp [h]
  · simp [h]
theorem mem_outs {L : List Nat} {n k : Nat} : k ∈ outs L n ↔ k < n ∧ k ∉ L := by
  unfold outs
  rw [List.mem_filter, List.mem_range, decide_eq_true_eq]
/-- a row for each of ks: its way round -/
def Rows (H : Hp) (pr : Addr) (cs : List Cable) (L : List Nat) (as : List Addr) (ks : List Nat) : Prop := as.length = ks.length ∧
  ∀ (j : Nat) (aj : Addr) (k : Nat), as[j]? = some aj → ks[j]? = some k → ∃ (rr : Addr) (r : List Nat) (c : Cable), aj ≠ pr ∧ rr ≠ pr ∧ H aj = some (.tup [.int (k : Int), .ref rr]) ∧ H rr = some (.lst (natVs r)) ∧ cs[k]? = some c ∧ Path cs L c.1 c.2.1 r ∧ r.Nodup
theorem Rows.ext {H H' : Hp} {pr : Addr} {cs : List Cable} {L : List Nat} {as : List Addr} {ks : List Nat} (h : Rows H pr cs L as ks) (x : Ext H H') : Rows H' pr cs L as ks := ⟨h.1, fun j aj k h1 h2 => by
  obtain ⟨rr, r, c, n1, n2, e1, e2, r3⟩ := h.2 j aj k h1 h2
  exact ⟨rr, r, c, n1, n2, x.tup e1, x.lst e2, r3⟩⟩
theorem Rows.put {H : Hp} {pr : Addr} {cs : List Cable} {L : List Nat} {as : List Addr} {ks : List Nat} {o : HO} (h : Rows H pr cs L as ks) : Rows (upd H pr o) pr cs L as ks := ⟨h.1, fun j aj k h1 h2 => by
  obtain ⟨rr, r, c, n1, n2, e1, e2, r3⟩ := h.2 j aj k h1 h2
  exact ⟨rr, r, c, n1, n2, by rw [upd_ne n1]; exact e1, by rw [upd_ne n2]; exact e2, r3⟩⟩
theorem Rows.snoc {H : Hp} {pr : Addr} {cs : List Cable} {L : List Nat} {as : List Addr} {ks : List Nat} {aj rr : Addr} {k : Nat} {r : List Nat} {c : Cable} (h : Rows H pr cs L as ks) (n1 : aj ≠ pr) (n2 : rr ≠ pr) (e1 : H aj = some (.tup [.int (k : Int), .ref rr])) (e2 : H rr = some (.lst (natVs r))) (hc : cs[k]? = some c)
    (hP : Path cs L c.1 c.2.1 r) (nd : r.Nodup) : Rows H pr cs L (as ++ [aj]) (ks ++ [k]) := by
  refine ⟨by rw [List.length_append, List.length_append, h.1]; rfl, fun j a' k' h1 h2 => ?_⟩
  by_cases hj : j < as.length
  · rw [List.getElem?_append_left hj] at h1
    rw [List.getElem?_append_left (by rw [← h.1]; exact hj)] at h2
    exact h.2 j a' k' h1 h2
  · have hj2 : j = as.length := by
      have := (List.getElem?_eq_some_iff.mp h1).1
      rw [List.length_append, List.length_singleton] at this
      omega
    subst hj2
    rw [List.getElem?_append_right (Nat.le_refl _), Nat.sub_self] at h1
    rw [List.getElem?_append_right (by rw [h.1]; exact Nat.le_refl _), h.1, Nat.sub_self] at h2
    cases h1
    cases h2
    exact ⟨rr, r, c, n1, n2, e1, e2, hc, hP, nd⟩
def spDet (pos : Pos) (P : Addr) : Sp := fun vs H Q _ => ∃ (cnt : Int) (a : Addr) (cs : List Cable), vs = [.int cnt, .ref a] ∧ Cab H a cs ∧ Good cnt cs ∧ 0 ≤ cnt ∧ cnt ≤ 101 ∧ cs.length < 64 ∧ Tab pos P H ∧
  ∀ (p : Addr) (t L : List Nat) (as : List Addr) (H' : Hp), IsTurn cs t → L.Perm (runK cs cnt.toNat t).2 → Rows H' p cs L as (outs L cs.length) → H' p = some (.lst (as.map V.ref)) → Ext H H' → Tab pos P H' → H p = none → Q (.ref p) H'
section
variable {Pg : Program} {w : World} {K : PySem.W.Frag} {mg : Str → Option Value} {base : Heap} {f : Addr} {fd : FuncData}
theorem scDet : FnScope ["count", "cables", "places", "by_mast", "rows", "place", "cable"] ["count", "cables"] (defScope sDetours) := ⟨rfl, rfl, rfl, by decide +kernel, rfl, by decide +kernel, by decide +kernel⟩
theorem ok_det {P fL fY fW : Addr} {fdL fdY fdW : FuncData} (F : Fun K "detours" "detours" sDetours f fd) (me : mg "enumerate" = none) (GL : Dn Pg w K mg base 5 "laid" ["count", "cables"] fL fdL (spLaid posL P))
    (GY : Dn Pg w K mg base 1 "places_by_mast" ["count", "cables", "places"] fY fdY spBy) (GW : Dn Pg w K mg base 3 "way_between" ["cables", "by_mast", "one", "other"] fW fdW spBetween) : FnOk Pg w K mg base CX0 6 f fd ["count", "cables"] (spDet posL P) := by
  refine F.ok scDet (fun vs H Q E h => ?_) (fun cdv A outer s H vs Q E hr h => ?_)
  · obtain ⟨cnt, a, cs, rfl, _⟩ := h
    rfl
  obtain ⟨cnt, a, cs, rfl, hC, g, hc0, hc1, h64, hT, q⟩ := h
  have hr1 : Room 1 _ := hr.mono (by decide)
  have hr3 : Room 3 _ := hr.mono (by decide)
  refine ⟨_, pss_cons (ps_set (i := 2) scDet.nd rfl (Or.inl rfl) (pe_call GL.ok hr rfl GL.m GL.kp GL.b .nil pass0 (pa_cons (pv 0) (pa_cons (pv 1) pa_nil))))
    (pss_cons (ps_set (i := 3) scDet.nd rfl (Or.inl rfl) (pe_call GY.ok hr1 rfl GY.m GY.kp GY.b .nil pass0 (pa_cons (pv 0) (pa_cons (pv 1) (pa_cons (pv 2) pa_nil)))))
    (pss_cons (ps_set (i := 4) scDet.nd rfl (Or.inl rfl) (pe_lst pa_nil))
    (pss_cons (ps_for PassesOwn.never rfl (pi_enum rfl me (pa_cons (pv 1) pa_nil)) (pg_tup rfl (pgs_cons (pg_name (i := 5) scDet.nd rfl (Or.inl rfl)) (pgs_cons (pg_name (i := 6) scDet.nd rfl (Or.inl rfl)) pgs_nil)))
      (pss_one (ps_if (pt_cmpR op_notIn_seq (pv 5) (pv 2) rfl)
        (pss_one (ps_expr (pe_bm PySem.F.plainAttrs_list PySem.F.slot_list_append PySem.F.type_list_append mt_append (pv 4) (pa_cons (pe_tup (pa_cons (pv 5) (pa_cons (pe_call GW.ok hr3 rfl GW.m GW.kp GW.b .nil pass0 (pa_cons (pv 1) (pa_cons (pv 3) (pa_cons (pe_ix ix_tup (pv 6) pe_int (fun _ _ => rfl)) (pa_cons (pe_ix ix_tup (pv 6) pe_int (fun _ _ => rfl)) pa_nil))))) pa_nil))) pa_nil)))) pss_nil)))
    (pss_one (ps_ret (pv 4)))))), ?_⟩
  -- places
  refine ⟨_, rfl, _, rfl, cnt, a, cs, rfl, hC, g, hc0, hc1, h64, hT, fun D t ms H1 ht hperm hasc x1 T1 e1 hD => ?_⟩
  have hml := laid_len ht hperm
  obtain ⟨L, rfl, hLA⟩ := laid_nats hperm
  have hLlt : ∀ p ∈ L, p < cs.length := fun p hp => ht.lt (run_mem (hLA.mem_iff.mp hp))
  have hLl : L.length < 64 := by unfold natIs at hml; rw [List.length_map] at hml; omega
  have C1 := hC.ext x1
  -- by_mast
  refine ⟨_, rfl, _, rfl, _, rfl, cnt, a, D, cs, L, rfl, C1, g, hc0, hc1, by rw [natVs_eq]; exact e1, hLlt, hLl, fun pm H2 s2 M2 hpm => ?_⟩
  have C2 := C1.ext (.same s2)
  have T2 := T1.same s2
  have e2 := s2 _ _ e1
  -- rows = []
  refine ⟨(by show 0 ≤ sizeLine; decide), fun pr hpr => ?_⟩
  have s3 := same_new hpr (.lst [])
  have e3 : (upd H2 pr (.lst [])) pr = some (.lst (([] : List Addr).map V.ref)) := upd_same
  generalize upd H2 pr (.lst []) = H3 at s3 e3
  obtain ⟨rs, ea, el, htp⟩ := id C2
  have hN := inN g
  have hpos : ∀ c ∈ cs, 0 ≤ c.1 ∧ 0 ≤ c.2.1 := fun c hc => by
    obtain ⟨z1, _, z3, _⟩ := g c hc
    exact ⟨z1, z3⟩
  refine ⟨_, rfl, a, rfl, ⟨_, .of (s3 _ _ ea)⟩, for_enum (K := K) (a := a) (xs := rs.map V.ref) (fun i σ H4 => ∃ (v5 v6 : Option V) (as : List Addr), σ = [some (.int cnt), some (.ref a), some (.ref D), some (.ref pm), some (.ref pr), v5, v6] ∧ Same H2 H4 ∧ H4 pr = some (.lst (as.map V.ref)) ∧ Rows H4 pr cs L as (outs L i))
    ⟨_, _, [], rfl, s3, e3, rfl, (fun j aj k h => by cases h)⟩ (fun i σ H4 _ ⟨_, _, _, _, s4, _⟩ => .of (s4 _ _ ea)) ?_ ?_⟩
  · rintro i x σ H4 pp hx ⟨v5, v6, as, rfl, s4, e4, R4⟩ hpp
    have hi : i < rs.length := by
      have := (List.getElem?_eq_some_iff.mp hx).1
      rw [List.length_map] at this; exact this
    have hic : i < cs.length := by omega
    obtain ⟨c, hc⟩ : ∃ c, cs[i]? = some c := ⟨cs[i], by simp [hic]⟩
    have hr' : rs[i]? = some rs[i] := List.getElem?_eq_getElem hi
    obtain rfl : x = .ref rs[i] := by
      rw [List.getElem?_map, hr'] at hx
      exact (Option.some.inj hx).symm
    have s5 := same_new hpp (.tup [.int (i : Int), .ref rs[i]])
    have s25 := s4.trans s5
    have et := s25 _ _ (htp i _ c hr' hc)
    have e5 := s5 _ _ e4
    have R5 := R4.ext (.same s5)
    have epp : (upd H4 pp (.tup [.int (i : Int), .ref rs[i]])) pp = some (.tup [.int (i : Int), .ref rs[i]]) := upd_same
    generalize upd H4 pp (.tup [.int (i : Int), .ref rs[i]]) = H5 at s5 s25 et e5 R5 epp
    obtain ⟨g1, g2, g3, g4, _⟩ := g.at hc
    refine ⟨pp, _, rfl, .of epp, rfl, _, _, rfl, _, _, rfl, rfl, ?_⟩
    -- if place not in places
    refine ⟨_, rfl, _, rfl, D, _, rfl, .inl (.of (s25 _ _ e2)), rfl, flat_ints _, ?_⟩
    refine ⟨!inV (.int (i : Int)) ((natIs L).map V.int), rfl, ?_⟩
    rw [in_ints]
    by_cases hin : i ∈ L
    · rw [decide_eq_true (mem_natIs'.mpr hin)]
      refine iteF ⟨_, _, as, rfl, s25, e5, ?_⟩
      rw [outs_succ, if_neg (fun z => z hin), List.append_nil]
      exact R5
    · rw [decide_eq_false (fun z => hin (mem_natIs'.mp z))]
      refine iteT ?_
      refine ⟨_, rfl, .inl ⟨rfl, _, .of e5⟩, _, rfl, _, rfl, _, rfl, _, rfl, rs[i], _, 0, .int c.1, rfl, rfl, .of et, rfl, _, rfl, rs[i], _, 1, .int c.2.1, rfl, rfl, .of et, rfl, a, pm, c.1, c.2.1, cnt, cs, L, rfl, C2.ext (.same s25), g, hc1, g1, g2, g3, g4, hLlt, M2.same s25, ?_, ?_⟩
      · -- there is a way
        intro es H6 _ T6 c6 hno
        exfalso
        apply hno
        obtain ⟨n1, n2⟩ := hN.at hc
        refine closed_both hN hpos (t := t) (fun p => hLA.mem_iff) c6 g1 g3 n1 n2 ?_ (mem_keys.mpr ⟨0, none, T6.head⟩)
        exact left_same hN (ht.perm.mem_iff.mpr (List.mem_range.mpr hic)) c hc
      · intro rr r es H6 s6 T6 _ err hP nd hrr
        have e6 := s6 _ _ e5
        have nrr : rr ≠ pr := fun z => by rw [z, e5] at hrr; cases hrr
        refine ⟨(by show 2 ≤ sizeLine; decide), fun p7 hp7 => ?_⟩
        have n7 : p7 ≠ pr := fun z => by rw [z, e6] at hp7; cases hp7
        have s7 := same_new hp7 (.tup [.int (i : Int), .ref rr])
        have hal := R5.1
        have hol : (outs L i).length ≤ 64 := by
          unfold outs
          refine Nat.le_trans (List.length_filter_le _ _) ?_
          rw [List.length_range]; omega
        refine ⟨pr, _, _, rfl, rfl, s7 _ _ e6, by rw [List.length_map]; exact small1000 (by omega), ?_⟩
        refine ⟨_, _, as ++ [p7], rfl, fun b o e => ?_, by rw [upd_same, List.map_append]; rfl, ?_⟩
        · rw [upd_ne (ne_of_none e hpr)]
          exact s7 _ _ (s6 _ _ (s25 _ _ e))
        · rw [outs_succ, if_pos hin]
          refine Rows.put ?_
          refine ((R5.ext (.same s6)).ext (.same s7)).snoc n7 nrr upd_same (s7 _ _ err) hc hP nd
  · rintro σ H4 ⟨v5, v6, as, rfl, s4, e4, R4⟩
    have hl : (rs.map V.ref).length = cs.length := by rw [List.length_map, el]
    rw [hl] at R4
    refine ⟨_, rfl, q pr t L as H4 ht hLA R4 e4 (x1.trans (.same (s2.trans s4))) (T2.same s4) (x1.free (s2.free hpr))⟩
end
end Ml

namespace Ml
open PySem PySem.Spec PyProof.Rows L2
def spWay (pos : Pos) (P : Addr) : Sp := fun vs H Q _ => ∃ (cnt : Int) (a : Addr) (one other : Int) (cs : List Cable), vs = [.int cnt, .ref a, .int one, .int other] ∧ Cab H a cs ∧ Good cnt cs ∧ 0 ≤ cnt ∧ cnt ≤ 101 ∧ cs.length < 64 ∧ Tab pos P H ∧ 0 ≤ one ∧ one < cnt ∧ 0 ≤ other ∧ other < cnt ∧
  (∀ (t L : List Nat) (es : List Ent) (H' : Hp), IsTurn cs t → L.Perm (runK cs cnt.toNat t).2 → Ext H H' → Tab pos P H' → Tree cs L other es → Closed cs L (keys es) → one ∉ keys es → Q .non H') ∧
  ∀ (p : Addr) (r t L : List Nat) (es : List Ent) (H' : Hp), IsTurn cs t → L.Perm (runK cs cnt.toNat t).2 → Ext H H' → Tab pos P H' → Tree cs L other es → one ∈ keys es → H' p = some (.lst (natVs r)) → Path cs L one other r → r.Nodup → H p = none → Q (.ref p) H'
section
variable {Pg : Program} {w : World} {K : PySem.W.Frag} {mg : Str → Option Value} {base : Heap} {f : Addr} {fd : FuncData}
theorem scWay : FnScope ["count", "cables", "one", "other", "by_mast"] ["count", "cables", "one", "other"] (defScope sWay) := ⟨rfl, rfl, rfl, by decide +kernel, rfl, by decide +kernel, by decide +kernel⟩
theorem ok_way {P fL fY fB fM : Addr} {fdL fdY fdB fdM : FuncData} (F : Fun K "way" "way" sWay f fd) (GL : Dn Pg w K mg base 5 "laid" ["count", "cables"] fL fdL (spLaid posL P)) (M : Dn Pg w K mg base 1 "is_mast" ["count", "number"] fM fdM spMast)
    (GY : Dn Pg w K mg base 1 "places_by_mast" ["count", "cables", "places"] fY fdY spBy) (GB : Dn Pg w K mg base 3 "way_between" ["cables", "by_mast", "one", "other"] fB fdB spBetween) : FnOk Pg w K mg base CX0 6 f fd ["count", "cables", "one", "other"] (spWay posL P) := by
  refine F.ok scWay (fun vs H Q E h => ?_) (fun cdv A outer s H vs Q E hr h => ?_)
  · obtain ⟨cnt, a, one, other, cs, rfl, _⟩ := h
    rfl
  obtain ⟨cnt, a, one, other, cs, rfl, hC, g, hc0, hc1, h64, hT, o0, o1, t0, t1, q1, q2⟩ := h
  have hr1 : Room 1 _ := hr.mono (by decide)
  have hr3 : Room 3 _ := hr.mono (by decide)
  refine ⟨_, pss_cons (ps_set (i := 4) scWay.nd rfl (Or.inl rfl) (pe_call GY.ok hr1 rfl GY.m GY.kp GY.b .nil pass0 (pa_cons (pv 0) (pa_cons (pv 1) (pa_cons (pe_call GL.ok hr rfl GL.m GL.kp GL.b .nil pass0 (pa_cons (pv 0) (pa_cons (pv 1) pa_nil))) pa_nil)))))
    (pss_cons (ps_if (PW.pt (pw_or (pt_not (pt_val (pe_call M.ok hr1 rfl M.m M.kp M.b .nil pass0 (pa_cons (pv 0) (pa_cons (pv 2) pa_nil))))) (pw_or1 (pt_not (pt_val (pe_call M.ok hr1 rfl M.m M.kp M.b .nil pass0 (pa_cons (pv 0) (pa_cons (pv 3) pa_nil)))))))) pss_never pss_nil)
    (pss_one (ps_ret (pe_call GB.ok hr3 rfl GB.m GB.kp GB.b .nil pass0 (pa_cons (pv 1) (pa_cons (pv 4) (pa_cons (pv 2) (pa_cons (pv 3) pa_nil)))))))), ?_⟩
  refine ⟨_, rfl, _, rfl, _, rfl, _, rfl, cnt, a, cs, rfl, hC, g, hc0, hc1, h64, hT, fun D t ms H1 ht hperm hasc x1 T1 e1 hD => ?_⟩
  have hml := laid_len ht hperm
  obtain ⟨L, rfl, hLA⟩ := laid_nats hperm
  have hLlt : ∀ p ∈ L, p < cs.length := fun p hp => ht.lt (run_mem (hLA.mem_iff.mp hp))
  have hLl : L.length < 64 := by unfold natIs at hml; rw [List.length_map] at hml; omega
  have C1 := hC.ext x1
  refine ⟨cnt, a, D, cs, L, rfl, C1, g, hc0, hc1, by rw [natVs_eq]; exact e1, hLlt, hLl, fun pm H2 s2 M2 hpm => ?_⟩
  have C2 := C1.ext (.same s2)
  have T2 := T1.same s2
  refine ⟨_, rfl, _, rfl, cnt, one, rfl, _, rfl, ?_⟩
  rw [decide_eq_true o0, decide_eq_true o1]
  refine iteF ?_
  refine ⟨_, rfl, _, rfl, cnt, other, rfl, _, rfl, ?_⟩
  rw [decide_eq_true t0, decide_eq_true t1]
  refine iteF ?_
  have x2 := x1.trans (.same s2)
  refine ⟨_, rfl, _, rfl, _, rfl, _, rfl, a, pm, one, other, cnt, cs, L, rfl, C2, g, hc1, o0, o1, t0, t1, hLlt, M2, fun es H3 s3 T3 c3 hno => ?_, fun p r es H3 s3 T3 hin ep hP nd hp => ?_⟩
  · exact q1 t L es H3 ht hLA (x2.trans (.same s3)) (T2.same s3) T3 c3 hno
  · exact q2 p r t L es H3 ht hLA (x2.trans (.same s3)) (T2.same s3) T3 hin ep hP nd (x1.free (s2.free hp))
end
end Ml

namespace Ml
open PySem PySem.Spec PyProof.Rows L2
/-! ### strays -/
def IsM (cnt n : Int) : Prop := 0 ≤ n ∧ n < cnt
instance (cnt n : Int) : Decidable (IsM cnt n) := by unfold IsM; infer_instance
def Stray (cnt : Int) (cs : List Cable) : Prop := ∃ c ∈ cs, ¬ (IsM cnt c.1 ∧ IsM cnt c.2.1)
theorem isM_dec {cnt n : Int} : (decide (0 ≤ n) && decide (n < cnt)) = decide (IsM cnt n) := by
  unfold IsM
  by_cases h : 0 ≤ n <;> by_cases h' : n < cnt <;> simp [h, h']
def spBad (C : Addr) : Sp := fun vs H _ E => ∃ (cnt : Int) (a : Addr) (cs : List Cable), vs = [.int cnt, .ref a] ∧ Cab H a cs ∧ Stray cnt cs ∧ cs.length < 64 ∧ ∀ H', Same H H' → E (.ref C) none H'
def spBadW (pos : Pos) (P C : Addr) : Sp := fun vs H _ E => ∃ (cnt : Int) (a : Addr) (one other : Int) (cs : List Cable), vs = [.int cnt, .ref a, .int one, .int other] ∧ Cab H a cs ∧ cs.length < 64 ∧
  ((Stray cnt cs ∧ ∀ H', Same H H' → E (.ref C) none H') ∨ (Good cnt cs ∧ 0 ≤ cnt ∧ cnt ≤ 101 ∧ Tab pos P H ∧ ¬ (IsM cnt one ∧ IsM cnt other) ∧ ∀ H', Ext H H' → Tab pos P H' → E (.ref C) none H'))
def spOr (a b : Sp) : Sp := fun vs H Q E => a vs H Q E ∨ b vs H Q E
/-- a def that may raise -/
structure Dz (Pg : Program) (w : World) (K : PySem.W.Frag) (mg : Str → Option Value) (base : Heap) (C : Addr) (k : Nat) (x : Str) (ps : List Str) (f : Addr) (fd : FuncData) (sp : Sp) : Prop where
  ok : FnOk Pg w K mg base (CXn Pg w C) k f fd ps sp
  m : mg x = some (.ref f)
  kp : PySem.W.keepIn K (.ref f) = true
  b : Binds K fd ps []
/-- the class -/
structure Kls (K : PySem.W.Frag) (mg : Str → Option Value) (C CM : Addr) : Prop where
  m : mg "NoMast" = some (.ref C)
  q : PySem.W.excIn K C bmV "ValueError.__new__" = true
  mM : mg "MastError" = some (.ref CM)
  x : PySem.W.exmOne K (.ref C) (.ref CM) = some true
  v : PySem.W.kitOne K (.ref C) (.type "ValueError") = some true
  ve : mg "ValueError" = none
section
variable {Pg : Program} {w : World} {K : PySem.W.Frag} {mg : Str → Option Value} {base : Heap} {f C CM : Addr} {fd : FuncData}
theorem Fun_okX {CX : CXT} {x qual : Str} {st : Stmt} {N ps : List Str} {k : Nat} {sp : Sp} (F : Fun K x qual st f fd) (S : FnScope N ps (defScope st)) (len : ∀ vs H Q E, sp vs H Q E → vs.length = ps.length)
    (hbody : ∀ (cdv : Value) (A : Around) (outer : List Env) (s : Shared) (H : Hp) (vs : List V) (Q : VK) (E : XK), Room k (A.deeper (envOfC qual (defScope st) s.heap.objs.size f cdv)) → sp vs H Q E →
      ∃ t, PSs (cxOf CX Pg w K mg base N qual (defScope st) f cdv A outer s H E) (defBody st) t ∧ t { nx := fun _ H' => Q .non H', rt := Q } (start N vs) H) : FnOk Pg w K mg base CX (k + 1) f fd ps sp := by
  obtain ⟨oc, od, kV, doc, pm, an, cdv, ct, osl, rfl, lk, hcd⟩ := F.ex
  exact fn_of lk hcd S len fun A outer s H vs Q E hr hsp => hbody cdv A outer s H vs Q E hr hsp
theorem FnOk_or {CX : CXT} {ps : List Str} {k : Nat} {a b : Sp} (F : FnOk Pg w K mg base CX k f fd ps a) (G : FnOk Pg w K mg base CX k f fd ps b) : FnOk Pg w K mg base CX k f fd ps (spOr a b) :=
  ⟨fun vs H Q E h => h.elim (F.len vs H Q E) (G.len vs H Q E), fun A outer s H args us vs Q E hr he hb hv hs => hs.elim (F.run A outer s H args us vs Q E hr he hb hv) (G.run A outer s H args us vs Q E hr he hb hv)⟩
theorem ok_refuseB {fM : Addr} {fdM : FuncData} (F : Fun K "refuse_stray_cables" "refuse_stray_cables" sRefuse f fd) (me : mg "enumerate" = none) (kl : Kls K mg C CM) (M : Dn Pg w K mg base 1 "is_mast" ["count", "number"] fM fdM spMast) :
    FnOk Pg w K mg base (CXn Pg w C) 2 f fd ["count", "cables"] (spBad C) := by
  refine Fun_okX F scRefuse (fun vs H Q E h => ?_) (fun cdv A outer s H vs Q E hr h => ?_)
  · obtain ⟨cnt, a, cs, rfl, _⟩ := h
    rfl
  obtain ⟨cnt, a, cs, rfl, hC, hst, h64, q⟩ := h
  refine ⟨_, pss_one (ps_for own_def rfl (pi_enum rfl me (pa_cons (pv 1) pa_nil)) (pg_tup rfl (pgs_cons (pg_name (i := 2) scRefuse.nd rfl (Or.inl rfl)) (pgs_cons (pg_name (i := 3) scRefuse.nd rfl (Or.inl rfl)) pgs_nil)))
    (pss_one (ps_if (PW.pt (pw_or (pt_not (pt_val (pe_call M.ok hr rfl M.m M.kp M.b .nil pass0 (pa_cons (pv 0) (pa_cons (pe_ix ix_tup (pv 3) pe_int (fun _ _ => rfl)) pa_nil)))))
      (pw_or1 (pt_not (pt_val (pe_call M.ok hr rfl M.m M.kp M.b .nil pass0 (pa_cons (pv 0) (pa_cons (pe_ix ix_tup (pv 3) pe_int (fun _ _ => rfl)) pa_nil))))))))
      (pss_one (ps_raise rz_def rfl rfl kl.m kl.q (pa_cons (pe_fmt (by decide) (by decide) (pv 2)) pa_nil))) pss_nil))), ?_⟩
  obtain ⟨rs, ea, el, ht⟩ := id hC
  refine ⟨_, rfl, a, rfl, ⟨_, .of ea⟩, for_enum (K := K) (a := a) (xs := rs.map V.ref) (fun i σ H2 => ∃ v2 v3, σ = [some (.int cnt), some (.ref a), v2, v3] ∧ Same H H2 ∧ ∀ (j : Nat) (c : Cable), j < i → cs[j]? = some c → IsM cnt c.1 ∧ IsM cnt c.2.1)
    ⟨_, _, rfl, Same.refl H, fun j c hj => absurd hj (Nat.not_lt_zero _)⟩ (fun i σ H2 _ ⟨_, _, _, s2, _⟩ => .of (s2 _ _ ea)) ?_ ?_⟩
  · rintro i x σ H2 p hx ⟨v2, v3, rfl, s2, g2⟩ hp
    have hi : i < rs.length := by
      have := (List.getElem?_eq_some_iff.mp hx).1
      rw [List.length_map] at this; exact this
    obtain ⟨c, hc⟩ : ∃ c, cs[i]? = some c := ⟨cs[i]'(by omega), by simp⟩
    have hr' : rs[i]? = some rs[i] := by simp [hi]
    obtain rfl : x = .ref rs[i] := by
      rw [List.getElem?_map, hr'] at hx
      exact (Option.some.inj hx).symm
    have s3 : Same H (upd H2 p (.tup [.int (i : Int), .ref rs[i]])) := fun b o e => by rw [upd_ne (ne_of_none (s2 b o e) hp)]; exact s2 b o e
    have et := s3 _ _ (ht i _ c hr' hc)
    refine ⟨p, _, rfl, .of upd_same, rfl, _, _, rfl, _, _, rfl, rfl, ?_⟩
    refine ⟨_, rfl, _, rfl, _, _, 0, .int c.1, rfl, rfl, .of et, rfl, cnt, c.1, rfl, _, rfl, ?_⟩
    rw [isM_dec]
    by_cases g1 : IsM cnt c.1
    · rw [decide_eq_true g1]
      refine iteF ?_
      refine ⟨_, rfl, _, rfl, _, _, 1, .int c.2.1, rfl, rfl, .of et, rfl, cnt, c.2.1, rfl, _, rfl, ?_⟩
      rw [isM_dec]
      by_cases g2' : IsM cnt c.2.1
      · rw [decide_eq_true g2']
        refine iteF ⟨_, _, rfl, s3, fun j d hj hd => ?_⟩
        by_cases e : j = i
        · subst e
          rw [hc] at hd; cases hd
          exact ⟨g1, g2'⟩
        · exact g2 j d (by omega) hd
      · rw [decide_eq_false g2']
        exact iteT ⟨_, rfl, (i : Int), rfl, by omega, by omega, fun z => ⟨by show 1 ≤ sizeLine; decide, q _ s3⟩⟩
    · rw [decide_eq_false g1]
      refine iteT (iteT ?_)
      exact ⟨_, rfl, (i : Int), rfl, by omega, by omega, fun z => ⟨by show 1 ≤ sizeLine; decide, q _ s3⟩⟩
  · rintro σ H2 ⟨v2, v3, rfl, s2, g2⟩
    exfalso
    obtain ⟨c, hc, hn⟩ := hst
    obtain ⟨j, hj, e⟩ := List.getElem_of_mem hc
    exact hn (g2 j c (by rw [List.length_map]; omega) (by rw [List.getElem?_eq_getElem hj, e]))
theorem ok_laidB {fR : Addr} {fdR : FuncData} (F : Fun K "laid" "laid" sLaid f fd) (R : Dz Pg w K mg base C 2 "refuse_stray_cables" ["count", "cables"] fR fdR (spBad C)) : FnOk Pg w K mg base (CXn Pg w C) 5 f fd ["count", "cables"] (spBad C) := by
  refine Fun_okX F scLaid (fun vs H Q E h => ?_) (fun cdv A outer s H vs Q E hr h => ?_)
  · obtain ⟨cnt, a, cs, rfl, _⟩ := h
    rfl
  obtain ⟨cnt, a, cs, rfl, hC, hst, h64, q⟩ := h
  have hr2 : Room 2 _ := hr.mono (by decide)
  refine ⟨_, pss_cons (ps_expr (pe_call R.ok hr2 rfl R.m R.kp R.b .nil pass_def (pa_cons (pv 0) (pa_cons (pv 1) pa_nil)))) pss_never, ?_⟩
  exact ⟨_, rfl, _, rfl, cnt, a, cs, rfl, hC, hst, h64, q⟩
theorem ok_totalB {fL : Addr} {fdL : FuncData} (F : Fun K "total" "total" sTotal f fd) (hS : mg "sum" = none) (L : Dz Pg w K mg base C 5 "laid" ["count", "cables"] fL fdL (spBad C)) : FnOk Pg w K mg base (CXn Pg w C) 6 f fd ["count", "cables"] (spBad C) := by
  refine Fun_okX F scTotal (fun vs H Q E h => ?_) (fun cdv A outer s H vs Q E hr h => ?_)
  · obtain ⟨cnt, a, cs, rfl, _⟩ := h
    rfl
  obtain ⟨cnt, a, cs, rfl, hC, hst, h64, q⟩ := h
  refine ⟨_, pss_one (ps_ret (pe_callB (call_sumI rfl) rfl hS boot_sum (pa_cons (pe_comp (caps := ["cables"]) (cl := [("cables", s.heap.objs.size + 1)]) rfl ⟨rfl, rfl, by decide +kernel, by decide +kernel, ?cc, ?ch, ?ck, by decide +kernel⟩ rfl
      (pi_list (pe_call L.ok hr rfl L.m L.kp L.b .nil pass_def (pa_cons (pv 0) (pa_cons (pv 1) pa_nil))))
      (fun _ _ _ _ _ => ⟨.nil, pe_ix (ix_tupK (K := K) rfl) (pe_ix (ix_listK (K := K) rfl) (pv 1) (pv 0) (fun _ _ => rfl)) pe_int (fun _ _ => rfl)⟩)) pa_nil))), ?_⟩
  case cc =>
    intro y c h
    have m := PySem.mem_of_lookup h
    cases List.mem_singleton.mp m; rfl
  case ch =>
    intro y h
    have m : (y, NameKind.cell) ∈ (relabel _ _).names ∨ (y, NameKind.free) ∈ (relabel _ _).names := h.imp PySem.mem_of_lookup PySem.mem_of_lookup
    have m' : (y, NameKind.cell) ∈ [((".0" : Str), NameKind.local), ("place", NameKind.local), ("cables", NameKind.cell)] ∨ (y, NameKind.free) ∈ [((".0" : Str), NameKind.local), ("place", NameKind.local), ("cables", NameKind.cell)] := m
    simp only [List.mem_cons, Prod.mk.injEq, reduceCtorEq, and_false, and_true, List.not_mem_nil, or_false, false_or] at m'
    exact ⟨_, by rw [m']; rfl⟩
  case ck =>
    intro y h
    rw [List.mem_singleton.mp h]; exact ⟨.inl rfl, .inl rfl⟩
  exact ⟨_, rfl, _, rfl, cnt, a, cs, rfl, hC, hst, h64, q⟩
theorem ok_unrB {fL fY : Addr} {fdL fdY : FuncData} (F : Fun K "unrolled" "unrolled" sUnrolled f fd) (L : Dz Pg w K mg base C 5 "laid" ["count", "cables"] fL fdL (spBad C)) (GY : Dn Pg w K mg base 1 "places_by_mast" ["count", "cables", "places"] fY fdY spBy) :
    FnOk Pg w K mg base (CXn Pg w C) 6 f fd ["count", "cables"] (spBad C) := by
  refine Fun_okX F scUnr (fun vs H Q E h => ?_) (fun cdv A outer s H vs Q E hr h => ?_)
  · obtain ⟨cnt, a, cs, rfl, _⟩ := h
    rfl
  obtain ⟨cnt, a, cs, rfl, hC, hst, h64, q⟩ := h
  have hr1 : Room 1 _ := hr.mono (by decide)
  refine ⟨_, pss_cons (ps_set (i := 2) scUnr.nd rfl (Or.inl rfl) (pe_call GY.ok hr1 rfl GY.m GY.kp GY.b .nil pass0 (pa_cons (pv 0) (pa_cons (pv 1) (pa_cons (pe_call L.ok hr rfl L.m L.kp L.b .nil pass_def (pa_cons (pv 0) (pa_cons (pv 1) pa_nil))) pa_nil))))) pss_never, ?_⟩
  exact ⟨_, rfl, _, rfl, _, rfl, _, rfl, cnt, a, cs, rfl, hC, hst, h64, q⟩
theorem ok_detB {fL : Addr} {fdL : FuncData} (F : Fun K "detours" "detours" sDetours f fd) (L : Dz Pg w K mg base C 5 "laid" ["count", "cables"] fL fdL (spBad C)) : FnOk Pg w K mg base (CXn Pg w C) 6 f fd ["count", "cables"] (spBad C) := by
  refine Fun_okX F scDet (fun vs H Q E h => ?_) (fun cdv A outer s H vs Q E hr h => ?_)
  · obtain ⟨cnt, a, cs, rfl, _⟩ := h
    rfl
  obtain ⟨cnt, a, cs, rfl, hC, hst, h64, q⟩ := h
  refine ⟨_, pss_cons (ps_set (i := 2) scDet.nd rfl (Or.inl rfl) (pe_call L.ok hr rfl L.m L.kp L.b .nil pass_def (pa_cons (pv 0) (pa_cons (pv 1) pa_nil)))) pss_never, ?_⟩
  exact ⟨_, rfl, _, rfl, cnt, a, cs, rfl, hC, hst, h64, q⟩
theorem ok_wayB {P fL fY fM : Addr} {fdL fdY fdM : FuncData} (F : Fun K "way" "way" sWay f fd) (kl : Kls K mg C CM) (L : Dz Pg w K mg base C 5 "laid" ["count", "cables"] fL fdL (spOr (spLaid posL P) (spBad C))) (M : Dn Pg w K mg base 1 "is_mast" ["count", "number"] fM fdM spMast)
    (GY : Dn Pg w K mg base 1 "places_by_mast" ["count", "cables", "places"] fY fdY spBy) : FnOk Pg w K mg base (CXn Pg w C) 6 f fd ["count", "cables", "one", "other"] (spBadW posL P C) := by
  refine Fun_okX F scWay (fun vs H Q E h => ?_) (fun cdv A outer s H vs Q E hr h => ?_)
  · obtain ⟨cnt, a, one, other, cs, rfl, _⟩ := h
    rfl
  obtain ⟨cnt, a, one, other, cs, rfl, hC, h64, h⟩ := h
  have hr1 : Room 1 _ := hr.mono (by decide)
  refine ⟨_, pss_cons (ps_set (i := 4) scWay.nd rfl (Or.inl rfl) (pe_call GY.ok hr1 rfl GY.m GY.kp GY.b .nil pass0 (pa_cons (pv 0) (pa_cons (pv 1) (pa_cons (pe_call L.ok hr rfl L.m L.kp L.b .nil pass_def (pa_cons (pv 0) (pa_cons (pv 1) pa_nil))) pa_nil)))))
    (pss_cons (ps_if (PW.pt (pw_or (pt_not (pt_val (pe_call M.ok hr1 rfl M.m M.kp M.b .nil pass0 (pa_cons (pv 0) (pa_cons (pv 2) pa_nil))))) (pw_or1 (pt_not (pt_val (pe_call M.ok hr1 rfl M.m M.kp M.b .nil pass0 (pa_cons (pv 0) (pa_cons (pv 3) pa_nil))))))))
      (pss_one (ps_raise rz_def rfl rfl kl.m kl.q (pa_cons pe_str pa_nil))) pss_nil) pss_never), ?_⟩
  refine ⟨_, rfl, _, rfl, _, rfl, _, rfl, ?_⟩
  rcases h with ⟨hst, q⟩ | ⟨g, hc0, hc1, hT, hno, q⟩
  · exact .inr ⟨cnt, a, cs, rfl, hC, hst, h64, q⟩
  refine .inl ⟨cnt, a, cs, rfl, hC, g, hc0, hc1, h64, hT, fun D t ms H1 ht hperm hasc x1 T1 e1 hD => ?_⟩
  have hml := laid_len ht hperm
  obtain ⟨L, rfl, hLA⟩ := laid_nats hperm
  have hLlt : ∀ p ∈ L, p < cs.length := fun p hp => ht.lt (run_mem (hLA.mem_iff.mp hp))
  have hLl : L.length < 64 := by unfold natIs at hml; rw [List.length_map] at hml; omega
  have C1 := hC.ext x1
  refine ⟨cnt, a, D, cs, L, rfl, C1, g, hc0, hc1, by rw [natVs_eq]; exact e1, hLlt, hLl, fun pm H2 s2 M2 hpm => ?_⟩
  have fin : E (.ref C) none H2 := q H2 (x1.trans (.same s2)) (T1.same s2)
  refine ⟨_, rfl, _, rfl, cnt, one, rfl, _, rfl, ?_⟩
  rw [isM_dec]
  by_cases g1 : IsM cnt one
  · rw [decide_eq_true g1]
    refine iteF ?_
    refine ⟨_, rfl, _, rfl, cnt, other, rfl, _, rfl, ?_⟩
    rw [isM_dec, decide_eq_false (fun g2 => hno ⟨g1, g2⟩)]
    exact iteT ⟨by show 1 ≤ sizeLine; decide, fin⟩
  · rw [decide_eq_false g1]
    exact iteT (iteT ⟨by show 1 ≤ sizeLine; decide, fin⟩)
end
end Ml

namespace Ml
open PySem PySem.Spec PyProof.Rows L2
/-! ### refused or not -/
def spRf (pos : Pos) (P : Addr) : Sp := fun vs H Q _ => ∃ (turn cnt : Int) (a : Addr) (one other : Int) (cs : List Cable) (b : Bool), vs = [.int turn, .int cnt, .ref a, .int one, .int other] ∧ Cab H a cs ∧ 0 ≤ cnt ∧ cnt ≤ 101 ∧ cs.length < 64 ∧ Tab pos P H ∧
  ((b = true ∧ Stray cnt cs) ∨ (b = false ∧ Good cnt cs ∧ (turn = 4 → IsM cnt one ∧ IsM cnt other)) ∨ (b = true ∧ Good cnt cs ∧ turn = 4 ∧ ¬ (IsM cnt one ∧ IsM cnt other))) ∧ 0 ≤ turn ∧ turn ≤ 4 ∧ ∀ H', Ext H H' → Tab pos P H' → Q (.bl b) H'
theorem call_isEK {X : Cx} {K : PySem.W.Frag} (h : X.K = K) : CallR X (.builtin "isinstance") (rIsE K) := by subst h; exact call_isE
theorem boot_VE : bootBuiltins "ValueError" = some (.type "ValueError") := by decide +kernel
theorem set5 {σ : L2.St} {v : V} (h : 5 < σ.length) : (σ.set 5 (some v))[5]? = some (some v) := by rw [List.getElem?_set_self h]
theorem turn_dec {i j : Int} (c : decide (V.int i = V.int j) = true) : i = j := by
  have z : V.int i = V.int j := of_decide_eq_true c
  cases z; rfl
theorem turn_dec' {i j : Int} (c : ¬ decide (V.int i = V.int j) = true) : i ≠ j := fun z => c (by rw [z]; exact decide_eq_true rfl)
section
variable {Pg : Program} {w : World} {K : PySem.W.Frag} {mg : Str → Option Value} {base : Heap} {f C CM : Addr} {fd : FuncData}
theorem kit_self : PySem.W.kitOne K (.ref C) (.ref C) = some true := by
  unfold PySem.W.kitOne
  rw [if_pos (beq_self_eq_true _)]
theorem iteF' {b : Bool} {p q : Prop} (h : ¬ b = true) (x : q) : if b = true then p else q := by rw [if_neg h]; exact x
theorem scRefuses : FnScope ["_law_turn", "_law_count", "_law_cables", "_law_one", "_law_other", "e"] ["_law_turn", "_law_count", "_law_cables", "_law_one", "_law_other"] (defScope sRefuses) := ⟨rfl, rfl, rfl, by decide +kernel, rfl, by decide +kernel, by decide +kernel⟩
theorem ok_Refuses {P fL fT fU fD fW : Addr} {fdL fdT fdU fdD fdW : FuncData} (F : Fun K "_law_refuses" "_law_refuses" sRefuses f fd) (B : Blt mg) (kl : Kls K mg C CM) (GL : Dz Pg w K mg base C 5 "laid" ["count", "cables"] fL fdL (spOr (spLaid posL P) (spBad C)))
    (GT : Dz Pg w K mg base C 6 "total" ["count", "cables"] fT fdT (spOr (spTotal posL P) (spBad C))) (GU : Dz Pg w K mg base C 6 "unrolled" ["count", "cables"] fU fdU (spOr (spUnr posL P) (spBad C)))
    (GD : Dz Pg w K mg base C 6 "detours" ["count", "cables"] fD fdD (spOr (spDet posL P) (spBad C))) (GW : Dz Pg w K mg base C 6 "way" ["count", "cables", "one", "other"] fW fdW (spOr (spWay posL P) (spBadW posL P C))) :
    FnOk Pg w K mg base CX0 7 f fd ["_law_turn", "_law_count", "_law_cables", "_law_one", "_law_other"] (spRf posL P) := by
  refine F.ok scRefuses (fun vs H Q E h => ?_) (fun cdv A outer s H vs Q E hr h => ?_)
  · obtain ⟨turn, cnt, a, one, other, cs, b, rfl, _⟩ := h
    rfl
  obtain ⟨turn, cnt, a, one, other, cs, b, rfl, hC, hc0, hc1, h64, hT, hcase, ht0, ht4, q⟩ := h
  have hr5 : Room 5 _ := hr.mono (by decide)
  refine ⟨_, pss_cons (ps_try (C := C) (CM := CM) (i := 5) scRefuses.nd rfl rfl rfl rfl rfl rfl rfl kl.mM kl.x
    (fun pn xe E' hp => pss_one (ps_if (pt_cmpR op_eq (pv 0) pe_int (nomark _)) (pss_one (ps_expr (pe_call GL.ok hr5 rfl GL.m GL.kp GL.b .nil hp (pa_cons (pv 1) (pa_cons (pv 2) pa_nil)))))
      (pss_one (ps_if (pt_cmpR op_eq (pv 0) pe_int (nomark _)) (pss_one (ps_expr (pe_call GT.ok hr rfl GT.m GT.kp GT.b .nil hp (pa_cons (pv 1) (pa_cons (pv 2) pa_nil)))))
      (pss_one (ps_if (pt_cmpR op_eq (pv 0) pe_int (nomark _)) (pss_one (ps_expr (pe_call GU.ok hr rfl GU.m GU.kp GU.b .nil hp (pa_cons (pv 1) (pa_cons (pv 2) pa_nil)))))
      (pss_one (ps_if (pt_cmpR op_eq (pv 0) pe_int (nomark _)) (pss_one (ps_expr (pe_call GD.ok hr rfl GD.m GD.kp GD.b .nil hp (pa_cons (pv 1) (pa_cons (pv 2) pa_nil)))))
      (pss_one (ps_expr (pe_call GW.ok hr rfl GW.m GW.kp GW.b .nil hp (pa_cons (pv 1) (pa_cons (pv 2) (pa_cons (pv 3) (pa_cons (pv 4) pa_nil)))))))))))))))
    (fun pn e => pss_one (ps_ret (pe_and (pe_callB (call_isEK (K := K) rfl) rfl B.isinst boot_isinstance (pa_cons (pv 5) (pa_cons (pe_glob (v := .ref C) rfl kl.m rfl) pa_nil))) (pe_one (pe_callB (call_isEK (K := K) rfl) rfl B.isinst boot_isinstance (pa_cons (pv 5) (pa_cons (pe_bltn (v := .ty "ValueError") rfl kl.ve boot_VE rfl) pa_nil)))))))) (pss_one (ps_ret pe_bl)), ?_⟩
  have hn : ∀ H', Ext H H' → Tab posL P H' → b = false → Q (.bl false) H' := fun H' x T z => by
    have := q H' x T
    rw [z] at this
    exact this
  have hc : ∀ (H' : Hp) (e : Addr), Ext H H' → Tab posL P H' → H' e = none → b = true → Q (.bl true) (upd H' e (.ext (excO C e))) := fun H' e x T he z => by
    have := q (upd H' e (.ext (excO C e))) (x.trans (.new he)) (T.same (same_new he _))
    rw [z] at this
    exact this
  rcases hcase with ⟨hb, hst⟩ | ⟨hb, g, hg⟩ | ⟨hb, g, h4, hno⟩
  · refine ⟨_, rfl, rfl, _, rfl, ?_⟩
    refine ite2 (fun _ => ?_) (fun _ => ?_)
    · exact ⟨_, rfl, _, rfl, .inr ⟨cnt, a, cs, rfl, hC, hst, h64, fun H' s' σ' e hl he => ⟨_, set5 hl, e, C, .ref C, .ref C, rfl, rfl, fun _ r => r, upd_same, kit_self, true, rfl, iteT ⟨_, set5 hl, e, C, .ty "ValueError", .type "ValueError", rfl, rfl, fun _ r => r, upd_same, kl.v, hc H' e (.same s') (hT.same s') he hb⟩⟩⟩⟩
    refine ⟨_, rfl, rfl, _, rfl, ?_⟩
    refine ite2 (fun _ => ?_) (fun _ => ?_)
    · exact ⟨_, rfl, _, rfl, .inr ⟨cnt, a, cs, rfl, hC, hst, h64, fun H' s' σ' e hl he => ⟨_, set5 hl, e, C, .ref C, .ref C, rfl, rfl, fun _ r => r, upd_same, kit_self, true, rfl, iteT ⟨_, set5 hl, e, C, .ty "ValueError", .type "ValueError", rfl, rfl, fun _ r => r, upd_same, kl.v, hc H' e (.same s') (hT.same s') he hb⟩⟩⟩⟩
    refine ⟨_, rfl, rfl, _, rfl, ?_⟩
    refine ite2 (fun _ => ?_) (fun _ => ?_)
    · exact ⟨_, rfl, _, rfl, .inr ⟨cnt, a, cs, rfl, hC, hst, h64, fun H' s' σ' e hl he => ⟨_, set5 hl, e, C, .ref C, .ref C, rfl, rfl, fun _ r => r, upd_same, kit_self, true, rfl, iteT ⟨_, set5 hl, e, C, .ty "ValueError", .type "ValueError", rfl, rfl, fun _ r => r, upd_same, kl.v, hc H' e (.same s') (hT.same s') he hb⟩⟩⟩⟩
    refine ⟨_, rfl, rfl, _, rfl, ?_⟩
    refine ite2 (fun _ => ?_) (fun _ => ?_)
    · exact ⟨_, rfl, _, rfl, .inr ⟨cnt, a, cs, rfl, hC, hst, h64, fun H' s' σ' e hl he => ⟨_, set5 hl, e, C, .ref C, .ref C, rfl, rfl, fun _ r => r, upd_same, kit_self, true, rfl, iteT ⟨_, set5 hl, e, C, .ty "ValueError", .type "ValueError", rfl, rfl, fun _ r => r, upd_same, kl.v, hc H' e (.same s') (hT.same s') he hb⟩⟩⟩⟩
    exact ⟨_, rfl, _, rfl, _, rfl, _, rfl, .inr ⟨cnt, a, one, other, cs, rfl, hC, h64, .inl ⟨hst, fun H' s' σ' e hl he => ⟨_, set5 hl, e, C, .ref C, .ref C, rfl, rfl, fun _ r => r, upd_same, kit_self, true, rfl, iteT ⟨_, set5 hl, e, C, .ty "ValueError", .type "ValueError", rfl, rfl, fun _ r => r, upd_same, kl.v, hc H' e (.same s') (hT.same s') he hb⟩⟩⟩⟩⟩
  · refine ⟨_, rfl, rfl, _, rfl, ?_⟩
    refine ite2 (fun _ => ?_) (fun c0 => ?_)
    · exact ⟨_, rfl, _, rfl, .inl ⟨cnt, a, cs, rfl, hC, g, hc0, hc1, h64, hT, fun p t ms H1 _ _ _ x1 T1 _ _ => hn H1 x1 T1 hb⟩⟩
    refine ⟨_, rfl, rfl, _, rfl, ?_⟩
    refine ite2 (fun _ => ?_) (fun c1 => ?_)
    · exact ⟨_, rfl, _, rfl, .inl ⟨cnt, a, cs, rfl, hC, g, hc0, hc1, h64, hT, fun t H1 _ x1 T1 => hn H1 x1 T1 hb⟩⟩
    refine ⟨_, rfl, rfl, _, rfl, ?_⟩
    refine ite2 (fun _ => ?_) (fun c2 => ?_)
    · exact ⟨_, rfl, _, rfl, .inl ⟨cnt, a, cs, rfl, hC, g, hc0, hc1, h64, hT, fun p t L ts H1 _ _ _ _ _ x1 T1 _ _ => hn H1 x1 T1 hb⟩⟩
    refine ⟨_, rfl, rfl, _, rfl, ?_⟩
    refine ite2 (fun _ => ?_) (fun c3 => ?_)
    · exact ⟨_, rfl, _, rfl, .inl ⟨cnt, a, cs, rfl, hC, g, hc0, hc1, h64, hT, fun p t L as H1 _ _ _ _ x1 T1 _ => hn H1 x1 T1 hb⟩⟩
    have n0 := turn_dec' c0
    have n1 := turn_dec' c1
    have n2 := turn_dec' c2
    have n3 := turn_dec' c3
    obtain ⟨m1, m2⟩ := hg (by omega)
    exact ⟨_, rfl, _, rfl, _, rfl, _, rfl, .inl ⟨cnt, a, one, other, cs, rfl, hC, g, hc0, hc1, h64, hT, m1.1, m1.2, m2.1, m2.2, fun t L es H1 _ _ x1 T1 _ _ _ => hn H1 x1 T1 hb, fun p r t L es H1 _ _ x1 T1 _ _ _ _ _ _ => hn H1 x1 T1 hb⟩⟩
  · refine ⟨_, rfl, rfl, _, rfl, iteF' (fun z => absurd (turn_dec z) (by omega)) ?_⟩
    refine ⟨_, rfl, rfl, _, rfl, iteF' (fun z => absurd (turn_dec z) (by omega)) ?_⟩
    refine ⟨_, rfl, rfl, _, rfl, iteF' (fun z => absurd (turn_dec z) (by omega)) ?_⟩
    refine ⟨_, rfl, rfl, _, rfl, iteF' (fun z => absurd (turn_dec z) (by omega)) ?_⟩
    exact ⟨_, rfl, _, rfl, _, rfl, _, rfl, .inr ⟨cnt, a, one, other, cs, rfl, hC, h64, .inr ⟨g, hc0, hc1, hT, hno, fun H' x' T' σ' e hl he => ⟨_, set5 hl, e, C, .ref C, .ref C, rfl, rfl, fun _ r => r, upd_same, kit_self, true, rfl, iteT ⟨_, set5 hl, e, C, .ty "ValueError", .type "ValueError", rfl, rfl, fun _ r => r, upd_same, kl.v, hc H' e x' T' he hb⟩⟩⟩⟩⟩
theorem scAnyRef : FnScope ["_law_turn", "_law_count", "_law_cables", "_law_one", "_law_other", "e"] ["_law_turn", "_law_count", "_law_cables", "_law_one", "_law_other"] (defScope sAnyRef) := ⟨rfl, rfl, rfl, by decide +kernel, rfl, by decide +kernel, by decide +kernel⟩
theorem ok_AnyRef {P fL fT fU fD fW : Addr} {fdL fdT fdU fdD fdW : FuncData} (F : Fun K "_law_any_refusal" "_law_any_refusal" sAnyRef f fd) (B : Blt mg) (kl : Kls K mg C CM) (GL : Dz Pg w K mg base C 5 "laid" ["count", "cables"] fL fdL (spOr (spLaid posL P) (spBad C)))
    (GT : Dz Pg w K mg base C 6 "total" ["count", "cables"] fT fdT (spOr (spTotal posL P) (spBad C))) (GU : Dz Pg w K mg base C 6 "unrolled" ["count", "cables"] fU fdU (spOr (spUnr posL P) (spBad C)))
    (GD : Dz Pg w K mg base C 6 "detours" ["count", "cables"] fD fdD (spOr (spDet posL P) (spBad C))) (GW : Dz Pg w K mg base C 6 "way" ["count", "cables", "one", "other"] fW fdW (spOr (spWay posL P) (spBadW posL P C))) :
    FnOk Pg w K mg base CX0 7 f fd ["_law_turn", "_law_count", "_law_cables", "_law_one", "_law_other"] (spRf posL P) := by
  refine F.ok scAnyRef (fun vs H Q E h => ?_) (fun cdv A outer s H vs Q E hr h => ?_)
  · obtain ⟨turn, cnt, a, one, other, cs, b, rfl, _⟩ := h
    rfl
  obtain ⟨turn, cnt, a, one, other, cs, b, rfl, hC, hc0, hc1, h64, hT, hcase, ht0, ht4, q⟩ := h
  have hr5 : Room 5 _ := hr.mono (by decide)
  refine ⟨_, pss_cons (ps_try (C := C) (CM := CM) (i := 5) scAnyRef.nd rfl rfl rfl rfl rfl rfl rfl kl.mM kl.x
    (fun pn xe E' hp => pss_one (ps_if (pt_cmpR op_eq (pv 0) pe_int (nomark _)) (pss_one (ps_expr (pe_call GL.ok hr5 rfl GL.m GL.kp GL.b .nil hp (pa_cons (pv 1) (pa_cons (pv 2) pa_nil)))))
      (pss_one (ps_if (pt_cmpR op_eq (pv 0) pe_int (nomark _)) (pss_one (ps_expr (pe_call GT.ok hr rfl GT.m GT.kp GT.b .nil hp (pa_cons (pv 1) (pa_cons (pv 2) pa_nil)))))
      (pss_one (ps_if (pt_cmpR op_eq (pv 0) pe_int (nomark _)) (pss_one (ps_expr (pe_call GU.ok hr rfl GU.m GU.kp GU.b .nil hp (pa_cons (pv 1) (pa_cons (pv 2) pa_nil)))))
      (pss_one (ps_if (pt_cmpR op_eq (pv 0) pe_int (nomark _)) (pss_one (ps_expr (pe_call GD.ok hr rfl GD.m GD.kp GD.b .nil hp (pa_cons (pv 1) (pa_cons (pv 2) pa_nil)))))
      (pss_one (ps_expr (pe_call GW.ok hr rfl GW.m GW.kp GW.b .nil hp (pa_cons (pv 1) (pa_cons (pv 2) (pa_cons (pv 3) (pa_cons (pv 4) pa_nil)))))))))))))))
    (fun pn e => pss_one (ps_ret (pe_callB (call_isEK (K := K) rfl) rfl B.isinst boot_isinstance (pa_cons (pv 5) (pa_cons (pe_bltn (v := .ty "ValueError") rfl kl.ve boot_VE rfl) pa_nil)))))) (pss_one (ps_ret pe_bl)), ?_⟩
  have hn : ∀ H', Ext H H' → Tab posL P H' → b = false → Q (.bl false) H' := fun H' x T z => by
    have := q H' x T
    rw [z] at this
    exact this
  have hc : ∀ (H' : Hp) (e : Addr), Ext H H' → Tab posL P H' → H' e = none → b = true → Q (.bl true) (upd H' e (.ext (excO C e))) := fun H' e x T he z => by
    have := q (upd H' e (.ext (excO C e))) (x.trans (.new he)) (T.same (same_new he _))
    rw [z] at this
    exact this
  rcases hcase with ⟨hb, hst⟩ | ⟨hb, g, hg⟩ | ⟨hb, g, h4, hno⟩
  · refine ⟨_, rfl, rfl, _, rfl, ?_⟩
    refine ite2 (fun _ => ?_) (fun _ => ?_)
    · exact ⟨_, rfl, _, rfl, .inr ⟨cnt, a, cs, rfl, hC, hst, h64, fun H' s' σ' e hl he => ⟨_, set5 hl, e, C, .ty "ValueError", .type "ValueError", rfl, rfl, fun _ r => r, upd_same, kl.v, hc H' e (.same s') (hT.same s') he hb⟩⟩⟩
    refine ⟨_, rfl, rfl, _, rfl, ?_⟩
    refine ite2 (fun _ => ?_) (fun _ => ?_)
    · exact ⟨_, rfl, _, rfl, .inr ⟨cnt, a, cs, rfl, hC, hst, h64, fun H' s' σ' e hl he => ⟨_, set5 hl, e, C, .ty "ValueError", .type "ValueError", rfl, rfl, fun _ r => r, upd_same, kl.v, hc H' e (.same s') (hT.same s') he hb⟩⟩⟩
    refine ⟨_, rfl, rfl, _, rfl, ?_⟩
    refine ite2 (fun _ => ?_) (fun _ => ?_)
    · exact ⟨_, rfl, _, rfl, .inr ⟨cnt, a, cs, rfl, hC, hst, h64, fun H' s' σ' e hl he => ⟨_, set5 hl, e, C, .ty "ValueError", .type "ValueError", rfl, rfl, fun _ r => r, upd_same, kl.v, hc H' e (.same s') (hT.same s') he hb⟩⟩⟩
    refine ⟨_, rfl, rfl, _, rfl, ?_⟩
    refine ite2 (fun _ => ?_) (fun _ => ?_)
    · exact ⟨_, rfl, _, rfl, .inr ⟨cnt, a, cs, rfl, hC, hst, h64, fun H' s' σ' e hl he => ⟨_, set5 hl, e, C, .ty "ValueError", .type "ValueError", rfl, rfl, fun _ r => r, upd_same, kl.v, hc H' e (.same s') (hT.same s') he hb⟩⟩⟩
    exact ⟨_, rfl, _, rfl, _, rfl, _, rfl, .inr ⟨cnt, a, one, other, cs, rfl, hC, h64, .inl ⟨hst, fun H' s' σ' e hl he => ⟨_, set5 hl, e, C, .ty "ValueError", .type "ValueError", rfl, rfl, fun _ r => r, upd_same, kl.v, hc H' e (.same s') (hT.same s') he hb⟩⟩⟩⟩
  · refine ⟨_, rfl, rfl, _, rfl, ?_⟩
    refine ite2 (fun _ => ?_) (fun c0 => ?_)
    · exact ⟨_, rfl, _, rfl, .inl ⟨cnt, a, cs, rfl, hC, g, hc0, hc1, h64, hT, fun p t ms H1 _ _ _ x1 T1 _ _ => hn H1 x1 T1 hb⟩⟩
    refine ⟨_, rfl, rfl, _, rfl, ?_⟩
    refine ite2 (fun _ => ?_) (fun c1 => ?_)
    · exact ⟨_, rfl, _, rfl, .inl ⟨cnt, a, cs, rfl, hC, g, hc0, hc1, h64, hT, fun t H1 _ x1 T1 => hn H1 x1 T1 hb⟩⟩
    refine ⟨_, rfl, rfl, _, rfl, ?_⟩
    refine ite2 (fun _ => ?_) (fun c2 => ?_)
    · exact ⟨_, rfl, _, rfl, .inl ⟨cnt, a, cs, rfl, hC, g, hc0, hc1, h64, hT, fun p t L ts H1 _ _ _ _ _ x1 T1 _ _ => hn H1 x1 T1 hb⟩⟩
    refine ⟨_, rfl, rfl, _, rfl, ?_⟩
    refine ite2 (fun _ => ?_) (fun c3 => ?_)
    · exact ⟨_, rfl, _, rfl, .inl ⟨cnt, a, cs, rfl, hC, g, hc0, hc1, h64, hT, fun p t L as H1 _ _ _ _ x1 T1 _ => hn H1 x1 T1 hb⟩⟩
    have n0 := turn_dec' c0
    have n1 := turn_dec' c1
    have n2 := turn_dec' c2
    have n3 := turn_dec' c3
    obtain ⟨m1, m2⟩ := hg (by omega)
    exact ⟨_, rfl, _, rfl, _, rfl, _, rfl, .inl ⟨cnt, a, one, other, cs, rfl, hC, g, hc0, hc1, h64, hT, m1.1, m1.2, m2.1, m2.2, fun t L es H1 _ _ x1 T1 _ _ _ => hn H1 x1 T1 hb, fun p r t L es H1 _ _ x1 T1 _ _ _ _ _ _ => hn H1 x1 T1 hb⟩⟩
  · refine ⟨_, rfl, rfl, _, rfl, iteF' (fun z => absurd (turn_dec z) (by omega)) ?_⟩
    refine ⟨_, rfl, rfl, _, rfl, iteF' (fun z => absurd (turn_dec z) (by omega)) ?_⟩
    refine ⟨_, rfl, rfl, _, rfl, iteF' (fun z => absurd (turn_dec z) (by omega)) ?_⟩
    refine ⟨_, rfl, rfl, _, rfl, iteF' (fun z => absurd (turn_dec z) (by omega)) ?_⟩
    exact ⟨_, rfl, _, rfl, _, rfl, _, rfl, .inr ⟨cnt, a, one, other, cs, rfl, hC, h64, .inr ⟨g, hc0, hc1, hT, hno, fun H' x' T' σ' e hl he => ⟨_, set5 hl, e, C, .ty "ValueError", .type "ValueError", rfl, rfl, fun _ r => r, upd_same, kl.v, hc H' e x' T' he hb⟩⟩⟩⟩
end
end Ml

namespace Ml
open PySem PySem.Spec PyProof.Rows L2
def spLaw (pos : Pos) (P : Addr) (K : PySem.W.Frag) : Sp := fun vs H Q _ => ∃ (a : Addr) (ns : List Int), vs = [.ref a] ∧ SqL K H a (ns.map V.int) ∧ ns.length ≤ 63 ∧ Tab pos P H ∧ ∀ H', Q (.bl true) H'
theorem decV {i j : Int} : decide (V.int i = V.int j) = decide (i = j) := by
  by_cases h : i = j
  · rw [decide_eq_true h, decide_eq_true (by rw [h])]
  · rw [decide_eq_false h, decide_eq_false (fun z => h (by cases z; rfl))]
theorem PS.weak {X : Cx} {st : Stmt} {t t' : TS} (h : PS X st t) (hw : ∀ D σ H, t' D σ H → t D σ H) : PS X st t' := fun pins s σ H D I q => h pins s σ H D I (hw D σ H q)
theorem set_self4 {σ : L2.St} {k : Nat} {v : Option V} (h : σ[k]? = some v) : σ.set k v = σ := by
  refine List.ext_getElem? fun i => ?_
  rw [List.getElem?_set]
  by_cases e : k = i
  · subst e
    have hl := (List.getElem?_eq_some_iff.mp h).1
    rw [if_pos rfl, if_pos hl, h]
  · rw [if_neg e]
/-! readings of the ifs with one way on -/
theorem PT.weak {X : Cx} {e : Expr} {t t' : TT} (h : PT X e t) (hw : ∀ σ H Q, t' σ H Q → t σ H Q) : PT X e t' := fun pins s σ H Q I q => h pins s σ H Q I (hw σ H Q q)
def tOr12 : TT := fun σ H Q => ∃ sp : Int, σ[3]? = some (some (.int sp)) ∧ Q (decide (sp = 1 ∨ sp = 2)) H
def tBad : TS := fun D σ H => ∃ sp : Int, σ[3]? = some (some (.int sp)) ∧ D.nx (σ.set 10 (some (.bl (decide (sp = 1 ∨ sp = 2))))) H
def dueOf (bad : Bool) (cnt sp turn : Int) : Bool := if turn = 4 then bad || decide (cnt = 0 ∨ sp = 3 ∨ sp = 4) else bad
def tDue : TS := fun D σ H => ∃ (bad : Bool) (cnt sp turn : Int), σ[10]? = some (some (.bl bad)) ∧ σ[1]? = some (some (.int cnt)) ∧ σ[3]? = some (some (.int sp)) ∧ σ[11]? = some (some (.int turn)) ∧ σ[12]? = some (some (.bl bad)) ∧
  D.nx (σ.set 12 (some (.bl (dueOf bad cnt sp turn)))) H
def tPut (k : Nat) (n : Int) : TS := fun D σ H => ∃ sp st x : Int, σ[3]? = some (some (.int sp)) ∧ σ[4]? = some (some (.int st)) ∧ σ[k]? = some (some (.int x)) ∧ D.nx (σ.set k (some (.int (if sp = n then st else x)))) H
def slots (p1 pc : Addr) (cnt sp st : Int) (v5 v6 : Option V) : L2.St := [some (.ref p1), some (.int cnt), some (.ref pc), some (.int sp), some (.int st), v5, v6, none, none, none, none, none, none]
def tSpoil (pos : Pos) (P : Addr) : TS := fun D σ H => ∃ (p1 pc : Addr) (ns : List Int) (cs : List Cable) (cnt sp st : Int), σ = slots p1 pc cnt sp st none none ∧ H p1 = some (.lst (ns.map V.int)) ∧ Cab H pc cs ∧ cs.length ≤ 62 ∧ Tab pos P H ∧
  ∀ (H' : Hp) (cs' : List Cable) (v5 v6 : Option V), Cab H' pc cs' → cs'.length ≤ cs.length + 1 → (sp = 1 ∨ sp = 2 → ∃ c ∈ cs', c.1 = st ∨ c.2.1 = st) → (¬ (sp = 1 ∨ sp = 2) → cs' = cs) → Tab pos P H' → D.nx (slots p1 pc cnt sp st v5 v6) H'
theorem menu3 {H : Hp} {r1 r2 r3 : Addr} {st k : Int} (h0 : 0 ≤ k) (h3 : k < 3) (e1 : H r1 = some (.tup [.int st, .int st, .int 3])) (e2 : H r2 = some (.tup [.int st, .int 0, .int 3])) (e3 : H r3 = some (.tup [.int 0, .int st, .int 3])) :
    ∃ (r : Addr) (c : Cable), atI [V.ref r1, V.ref r2, V.ref r3] k = some (.ref r) ∧ H r = some (.tup [.int c.1, .int c.2.1, .int c.2.2]) ∧ (c.1 = st ∨ c.2.1 = st) := by
  have : k = 0 ∨ k = 1 ∨ k = 2 := by omega
  rcases this with rfl | rfl | rfl
  · exact ⟨r1, (st, st, 3), rfl, e1, .inl rfl⟩
  · exact ⟨r2, (st, 0, 3), rfl, e2, .inl rfl⟩
  · exact ⟨r3, (0, st, 3), rfl, e3, .inr rfl⟩
theorem strange5 {cnt k : Int} (hc : 0 ≤ cnt) (h0 : 0 ≤ k) (h5 : k < 5) : ∃ z : Int, atI [V.int (-1), V.int cnt, V.int (cnt + 2), V.int (-2), V.int (-1 - cnt)] k = some (.int z) ∧ ¬ IsM cnt z := by
  have : k = 0 ∨ k = 1 ∨ k = 2 ∨ k = 3 ∨ k = 4 := by omega
  unfold IsM
  rcases this with rfl | rfl | rfl | rfl | rfl
  · exact ⟨_, rfl, by omega⟩
  · exact ⟨_, rfl, by omega⟩
  · exact ⟨_, rfl, by omega⟩
  · exact ⟨_, rfl, by omega⟩
  · exact ⟨_, rfl, by omega⟩
section
variable {Pg : Program} {w : World} {K : PySem.W.Frag} {mg : Str → Option Value} {base : Heap} {f : Addr} {fd : FuncData}
theorem scLaw : FnScope ["_law_script", "_law_count", "_law_cables", "_law_spoil", "_law_strange", "_law_menu", "_law_cable", "_law_one", "_law_other", "_law_handed", "_law_bad", "_law_turn", "_law_due"] ["_law_script"] (defScope sLaw) := ⟨rfl, rfl, rfl, by decide +kernel, rfl, by decide +kernel, by decide +kernel⟩
theorem ok_law {P fA fC fU fX fF fG : Addr} {fdA fdC fdU fdX fdF fdG : FuncData} (F : Fun K "law" "law" sLaw f fd) (B : Blt mg) (hmax : mg "max" = none)
    (GA : Dn Pg w K mg base 1 "_law_at" ["_law_script", "_law_k"] fA fdA (spAt K)) (GC : Dn Pg w K mg base 1 "_law_some_cables" ["_law_cells", "_law_count", "_law_hop"] fC fdC (spCab K))
    (GU : Dn Pg w K mg base 2 "_law_unhurt" ["_law_handed", "_law_cables"] fU fdU spUnh) (GX : Dn Pg w K mg base 1 "_law_upto" ["_law_script", "_law_small", "_law_great"] fX fdX (spUpto K))
    (GF : Dn Pg w K mg base 7 "_law_refuses" ["_law_turn", "_law_count", "_law_cables", "_law_one", "_law_other"] fF fdF (spRf posL P)) (GG : Dn Pg w K mg base 7 "_law_any_refusal" ["_law_turn", "_law_count", "_law_cables", "_law_one", "_law_other"] fG fdG (spRf posL P)) :
    FnOk Pg w K mg base CX0 8 f fd ["_law_script"] (spLaw posL P K) := by
  refine F.ok scLaw (fun vs H Q E h => ?_) (fun cdv A outer s H vs Q E hr h => ?_)
  · obtain ⟨a, ns, rfl, _⟩ := h
    rfl
  obtain ⟨a, ns, rfl, hS, h63, hT, q⟩ := h
  have hr1 : Room 1 _ := hr.mono (by decide)
  have hr2 : Room 2 _ := hr.mono (by decide)
  refine ⟨_, (pss_cons (ps_set (i := 0) scLaw.nd rfl (Or.inl rfl) (pe_slice sl_list (pv 0) po_none (po_some pe_int)))
    (pss_cons (ps_set (i := 1) scLaw.nd rfl (Or.inl rfl) (pe_op op_mod (pe_call GA.ok hr1 rfl GA.m GA.kp GA.b .nil pass0 (pa_cons (pv 0) (pa_cons pe_int pa_nil))) (pe_call GX.ok hr1 rfl GX.m GX.kp GX.b .nil pass0 (pa_cons (pv 0) (pa_cons pe_int (pa_cons pe_int pa_nil))))))
    (pss_cons (ps_set (i := 2) scLaw.nd rfl (Or.inl rfl) (pe_call GC.ok hr1 rfl GC.m GC.kp GC.b .nil pass0 (pa_cons (pe_slice sl_list (pv 0) (po_some pe_int) po_none) (pa_cons (pv 1) (pa_cons (pe_ix ix_list (pe_lst (pa_cons pe_int (pa_cons pe_int (pa_cons pe_int (pa_cons pe_int (pa_cons pe_int (pa_cons pe_int (pa_cons pe_int pa_nil)))))))) (pe_op op_mod (pe_call GA.ok hr1 rfl GA.m GA.kp GA.b .nil pass0 (pa_cons (pv 0) (pa_cons pe_int pa_nil))) pe_int) (fun _ _ => rfl)) pa_nil)))))
    (pss_cons (ps_set (i := 3) scLaw.nd rfl (Or.inl rfl) (pe_op op_mod (pe_call GA.ok hr1 rfl GA.m GA.kp GA.b .nil pass0 (pa_cons (pv 0) (pa_cons pe_int pa_nil))) pe_int))
    (pss_cons (ps_set (i := 4) scLaw.nd rfl (Or.inl rfl) (pe_ix ix_list (pe_lst (pa_cons (pe_un un_neg pe_int) (pa_cons (pv 1) (pa_cons (pe_op op_add (pv 1) pe_int) (pa_cons (pe_un un_neg pe_int) (pa_cons (pe_op op_sub (pe_un un_neg pe_int) (pv 1)) pa_nil))))))
      (pe_op op_mod (pe_op op_fdiv (pe_call GA.ok hr1 rfl GA.m GA.kp GA.b .nil pass0 (pa_cons (pv 0) (pa_cons pe_int pa_nil))) pe_int) pe_int) (fun _ _ => rfl)))
    (pss_cons (PS.weak (t' := tSpoil posL P) (ps_if (PT.weak (t' := tOr12) (PW.pt (pw_or (pt_cmpR op_eq (pv 3) pe_int (nomark _)) (pw_or1 (pt_cmpR op_eq (pv 3) pe_int (nomark _))))) ?wkO)
      (pss_cons (ps_set (i := 5) scLaw.nd rfl (Or.inl rfl) (pe_lst (pa_cons (pe_tup (pa_cons (pv 4) (pa_cons (pv 4) (pa_cons pe_int pa_nil)))) (pa_cons (pe_tup (pa_cons (pv 4) (pa_cons pe_int (pa_cons pe_int pa_nil)))) (pa_cons (pe_tup (pa_cons pe_int (pa_cons (pv 4) (pa_cons pe_int pa_nil)))) pa_nil)))))
      (pss_cons (ps_set (i := 6) scLaw.nd rfl (Or.inl rfl) (pe_ix ix_list (pv 5) (pe_op op_mod (pe_op op_fdiv (pe_call GA.ok hr1 rfl GA.m GA.kp GA.b .nil pass0 (pa_cons (pv 0) (pa_cons pe_int pa_nil))) pe_int) pe_int) (fun _ _ => rfl)))
      (pss_one (ps_expr (pe_bm PySem.F.plainAttrs_list PySem.F.slot_list_insert PySem.F.type_list_insert mt_insert (pv 2)
        (pa_cons (pe_op op_mod (pe_call GA.ok hr1 rfl GA.m GA.kp GA.b .nil pass0 (pa_cons (pv 0) (pa_cons pe_int pa_nil))) (pe_op op_add (pe_callB call_len_seq rfl B.len PySem.boot_len (pa_cons (pv 2) pa_nil)) pe_int)) (pa_cons (pv 6) pa_nil)))))))
      pss_nil) ?wkS)
    (pss_cons (ps_set (i := 7) scLaw.nd rfl (Or.inl rfl) pe_int)
    (pss_cons (ps_set (i := 8) scLaw.nd rfl (Or.inl rfl) (pe_callB (call_max2 rfl) rfl hmax boot_max (pa_cons pe_int (pa_cons (pe_op op_sub (pv 1) pe_int) pa_nil))))
    (pss_cons (PS.weak (t' := tPut 7 3) (ps_if (pt_cmpR op_eq (pv 3) pe_int (nomark _)) (pss_one (ps_set (i := 7) scLaw.nd rfl (Or.inl rfl) (pv 4))) pss_nil) ?wk7)
    (pss_cons (PS.weak (t' := tPut 8 4) (ps_if (pt_cmpR op_eq (pv 3) pe_int (nomark _)) (pss_one (ps_set (i := 8) scLaw.nd rfl (Or.inl rfl) (pv 4))) pss_nil) ?wk8)
    (pss_cons (ps_set (i := 9) scLaw.nd rfl (Or.inl rfl) (pe_callTy call_list_of rfl B.list PyProof.Rows.boot_list (pa_cons (pv 2) pa_nil)))
    (pss_cons (PS.weak (t' := tBad) (ps_set (i := 10) scLaw.nd rfl (Or.inl rfl) (pe_or (pe_cmpR op_eq (pv 3) pe_int (nomark _)) (pe_one (pe_cmpR op_eq (pv 3) pe_int (nomark _))))) ?wkB)
    (pss_cons (ps_for PassesOwn.never rfl (pi_range1 rfl B.range (pa_cons pe_int pa_nil)) (pg_name (i := 11) scLaw.nd rfl (Or.inl rfl))
      (pss_cons (ps_set (i := 12) scLaw.nd rfl (Or.inl rfl) (pv 10))
      (pss_cons (PS.weak (t' := tDue) (ps_if (pt_cmpR op_eq (pv 11) pe_int (nomark _)) (pss_one (ps_set (i := 12) scLaw.nd rfl (Or.inl rfl) (pe_or (pv 10) (pe_or (pe_cmpR op_eq (pv 1) pe_int (nomark _)) (pe_or (pe_cmpR op_eq (pv 3) pe_int (nomark _)) (pe_one (pe_cmpR op_eq (pv 3) pe_int (nomark _)))))))) pss_nil) ?wkD)
      (pss_cons (ps_if (pt_cmpR op_ne (pe_call GF.ok hr rfl GF.m GF.kp GF.b .nil pass0 (pa_cons (pv 11) (pa_cons (pv 1) (pa_cons (pv 9) (pa_cons (pv 7) (pa_cons (pv 8) pa_nil)))))) (pv 12) (nomark _)) (pss_one (ps_ret pe_bl)) pss_nil)
      (pss_one (ps_if (PW.pt (pw_and (pt_val (pv 12)) (pw_and1 (pt_not (pt_val (pe_call GG.ok hr rfl GG.m GG.kp GG.b .nil pass0 (pa_cons (pv 11) (pa_cons (pv 1) (pa_cons (pv 9) (pa_cons (pv 7) (pa_cons (pv 8) pa_nil))))))))))) (pss_one (ps_ret pe_bl)) pss_nil))))))
    (pss_one (ps_ret (pe_call GU.ok hr2 rfl GU.m GU.kp GU.b .nil pass0 (pa_cons (pv 9) (pa_cons (pv 2) pa_nil)))))))))))))))))), ?_⟩
  case wkO =>
    rintro σ H' Q' ⟨sp, h3, hQ⟩
    refine ⟨_, h3, rfl, _, rfl, ?_⟩
    rw [decV]
    by_cases e1 : sp = 1
    · rw [decide_eq_true e1]
      rw [decide_eq_true (.inl e1)] at hQ
      exact iteT hQ
    · rw [decide_eq_false e1]
      refine iteF ⟨_, h3, rfl, _, rfl, ?_⟩
      rw [decV]
      have z : decide (sp = 1 ∨ sp = 2) = decide (sp = 2) := by simp [e1]
      rw [← z]
      exact hQ
  case wkS =>
    rintro D σ H' ⟨p1, pc, ns, cs, cnt, sp, st, rfl, e1, hC, hl, T, hN⟩
    refine ⟨sp, rfl, ?_⟩
    by_cases hsp : sp = 1 ∨ sp = 2
    case neg =>
      rw [decide_eq_false hsp]
      exact iteF (hN H' cs _ _ hC (Nat.le_succ _) (fun z => absurd z hsp) (fun _ => rfl) T)
    rw [decide_eq_true hsp]
    refine iteT ?_
    -- menu
    refine ⟨_, rfl, _, rfl, (by show 3 ≤ sizeLine; decide), fun r1 hr1' => ⟨_, rfl, (by show 3 ≤ sizeLine; decide), fun r2 hr2' => ⟨_, rfl, (by show 3 ≤ sizeLine; decide), fun r3 hr3' => ⟨(by show 3 ≤ sizeLine; decide), fun pm hpm => ?_⟩⟩⟩⟩
    have s1 := same_new hr1' (.tup [.int st, .int st, .int 3])
    have z1 : (upd H' r1 (.tup [.int st, .int st, .int 3])) r1 = some (.tup [.int st, .int st, .int 3]) := upd_same
    generalize upd H' r1 (.tup [.int st, .int st, .int 3]) = Ha at s1 z1 hr2' hr3' hpm ⊢
    have s2 := same_new hr2' (.tup [.int st, .int 0, .int 3])
    have z2 : (upd Ha r2 (.tup [.int st, .int 0, .int 3])) r2 = some (.tup [.int st, .int 0, .int 3]) := upd_same
    generalize upd Ha r2 (.tup [.int st, .int 0, .int 3]) = Hb at s2 z2 hr3' hpm ⊢
    have s3 := same_new hr3' (.tup [.int 0, .int st, .int 3])
    have z3 : (upd Hb r3 (.tup [.int 0, .int st, .int 3])) r3 = some (.tup [.int 0, .int st, .int 3]) := upd_same
    generalize upd Hb r3 (.tup [.int 0, .int st, .int 3]) = Hc at s3 z3 hpm ⊢
    have s4 := same_new hpm (.lst [.ref r1, .ref r2, .ref r3])
    have z4 : (upd Hc pm (.lst [.ref r1, .ref r2, .ref r3])) pm = some (.lst [.ref r1, .ref r2, .ref r3]) := upd_same
    generalize upd Hc pm (.lst [.ref r1, .ref r2, .ref r3]) = Hd at s4 z4 ⊢
    have s04 : Same H' Hd := ((s1.trans s2).trans s3).trans s4
    have e14 := s04 _ _ e1
    have C4 := hC.ext (.same s04)
    have T4 := T.same s04
    obtain ⟨r, c, ek, er, hcst⟩ := menu3 (H := Hd) (st := st) (k := ns.getD (2 : Int).toNat 0 / 18 % 3) (Int.emod_nonneg _ (by decide)) (Int.emod_lt_of_pos _ (by decide)) (s4 _ _ (s3 _ _ (s2 _ _ z1))) (s4 _ _ (s3 _ _ z2)) (s4 _ _ z3)
    -- cable
    refine ⟨_, rfl, _, rfl, p1, ns, 2, rfl, .of e14, by omega, _, _, rfl, rfl, ⟨by decide, by decide⟩, _, _, rfl, rfl, (by show (0 : Int) < 3; decide), pm, _, _, _, rfl, rfl, .of z4, ek, ?_⟩
    -- insert
    have hm : ∀ n : Nat, 0 ≤ ns.getD (6 : Int).toNat 0 % ((n : Int) + 1) ∧ ns.getD (6 : Int).toNat 0 % ((n : Int) + 1) < (n : Int) + 1 := fun n => ⟨Int.emod_nonneg _ (by omega), Int.emod_lt_of_pos _ (by omega)⟩
    obtain ⟨rs, epc, lrs, _⟩ := id C4
    have hml := hm (rs.map V.ref).length
    obtain ⟨rs', epc', lrs', C5⟩ := C4.insert (c := c) (k := (ns.getD (6 : Int).toNat 0 % (((rs.map V.ref).length : Int) + 1)).toNat) er
    obtain rfl : rs' = rs := by
      rw [epc] at epc'
      have z : rs.map V.ref = rs'.map V.ref := HO.lst.inj (Option.some.inj epc')
      exact (List.map_inj_right (fun x y h => by cases h; rfl)).mp z.symm
    have hlr : (rs'.map V.ref).length = cs.length := by rw [List.length_map, lrs]
    refine ⟨_, rfl, .inl ⟨rfl, _, .of epc⟩, _, rfl, p1, ns, 6, rfl, .of e14, by omega, _, rfl, pc, _, rfl, .inl (.of epc), _, _, rfl, rfl, _, _, rfl, rfl, (by omega), _, rfl, pc, _, _, .ref r, rfl, rfl, epc, hml.1, by omega, by omega, ?_⟩
    refine hN _ _ _ _ C5 (by rw [insAt_length]; exact Nat.le_refl _) (fun _ => ⟨c, mem_insAt, hcst⟩) (fun z => absurd hsp z) (T4.put epc)
  case wk7 =>
    rintro D σ H' ⟨sp, st, x, h3, h4, hk, hN⟩
    refine ⟨_, h3, rfl, _, rfl, ?_⟩
    rw [decV]
    refine ite2 (fun c => ?_) (fun c => ?_)
    · rw [if_pos (of_decide_eq_true c)] at hN
      exact ⟨_, h4, hN⟩
    · rw [if_neg (of_decide_eq_false (Bool.eq_false_iff.mpr c)), set_self4 hk] at hN
      exact hN
  case wk8 =>
    rintro D σ H' ⟨sp, st, x, h3, h4, hk, hN⟩
    refine ⟨_, h3, rfl, _, rfl, ?_⟩
    rw [decV]
    refine ite2 (fun c => ?_) (fun c => ?_)
    · rw [if_pos (of_decide_eq_true c)] at hN
      exact ⟨_, h4, hN⟩
    · rw [if_neg (of_decide_eq_false (Bool.eq_false_iff.mpr c)), set_self4 hk] at hN
      exact hN
  case wkB =>
    rintro D σ H' ⟨sp, h3, hN⟩
    refine ⟨_, h3, rfl, _, rfl, ?_⟩
    rw [decV]
    by_cases e1 : sp = 1
    · rw [decide_eq_true e1]
      rw [decide_eq_true (.inl e1)] at hN
      exact iteT hN
    · rw [decide_eq_false e1]
      refine iteF ⟨_, h3, rfl, ?_⟩
      have z : decide (sp = 1 ∨ sp = 2) = decide (V.int sp = V.int 2) := by rw [decV]; simp [e1]
      rw [z] at hN
      exact hN
  case wkD =>
    rintro D σ H' ⟨bad, cnt, sp, turn, h10, h1, h3, h11, h12, hN⟩
    refine ⟨_, h11, rfl, _, rfl, ?_⟩
    rw [decV]
    unfold dueOf at hN
    refine ite2 (fun c => ?_) (fun c => ?_)
    · rw [if_pos (of_decide_eq_true c)] at hN
      refine ⟨_, h10, bad, rfl, ?_⟩
      cases bad with
      | true => exact iteT hN
      | false =>
        rw [Bool.false_or] at hN
        refine iteF ⟨_, h1, rfl, _, rfl, ?_⟩
        rw [decV]
        by_cases e1 : cnt = 0
        · rw [decide_eq_true (.inl e1)] at hN
          rw [decide_eq_true e1]
          exact iteT hN
        · rw [decide_eq_false e1]
          refine iteF ⟨_, h3, rfl, _, rfl, ?_⟩
          rw [decV]
          by_cases e3 : sp = 3
          · rw [decide_eq_true (.inr (.inl e3))] at hN
            rw [decide_eq_true e3]
            exact iteT hN
          · rw [decide_eq_false e3]
            refine iteF ⟨_, h3, rfl, ?_⟩
            have z : decide (cnt = 0 ∨ sp = 3 ∨ sp = 4) = decide (V.int sp = V.int 4) := by rw [decV]; simp [e1, e3]
            rw [z] at hN
            exact hN
    · rw [if_neg (of_decide_eq_false (Bool.eq_false_iff.mpr c)), set_self4 h12] at hN
      exact hN
  -- script = script[:1000]
  refine ⟨_, rfl, _, rfl, a, _, rfl, hS, fun p1 hp1 => ?_⟩
  rw [cut_all (by rw [List.length_map]; omega)]
  have s1 := same_new hp1 (.lst (ns.map V.int))
  have e1 : (upd H p1 (.lst (ns.map V.int))) p1 = some (.lst (ns.map V.int)) := upd_same
  have T1 := hT.same s1
  generalize upd H p1 (.lst (ns.map V.int)) = H1 at s1 e1 T1
  -- count
  refine ⟨_, rfl, p1, ns, 0, rfl, .of e1, by omega, _, rfl, p1, ns, 9, 101, rfl, .of e1, h63, _, _, rfl, rfl, (by show (0 : Int) < 9; decide), ?_⟩
  have hc9 : 0 ≤ ns.getD (0 : Int).toNat 0 % 9 ∧ ns.getD (0 : Int).toNat 0 % 9 < 9 := ⟨Int.emod_nonneg _ (by decide), Int.emod_lt_of_pos _ (by decide)⟩
  -- cells, hop
  refine ⟨_, rfl, _, rfl, p1, _, rfl, .of e1, fun p3 hp3 => ?_⟩
  rw [show ((3 : Int)) = ((3 : Nat) : Int) from rfl, cut_map]
  have s3 := same_new hp3 (.lst ((ns.drop (min 3 ns.length)).map V.int))
  have e3 : (upd H1 p3 (.lst ((ns.drop (min 3 ns.length)).map V.int))) p3 = some (.lst ((ns.drop (min 3 ns.length)).map V.int)) := upd_same
  generalize upd H1 p3 (.lst ((ns.drop (min 3 ns.length)).map V.int)) = H3 at s3 e3
  have T3 := T1.same s3
  refine ⟨_, rfl, (by show 7 ≤ sizeLine; decide), fun p2 hp2 => ?_⟩
  have s2 := same_new hp2 (.lst [.int 1, .int 2, .int 3, .int 4, .int 5, .int 6, .int 97])
  have e2 : (upd H3 p2 (.lst [.int 1, .int 2, .int 3, .int 4, .int 5, .int 6, .int 97])) p2 = some (.lst [.int 1, .int 2, .int 3, .int 4, .int 5, .int 6, .int 97]) := upd_same
  generalize upd H3 p2 (.lst [.int 1, .int 2, .int 3, .int 4, .int 5, .int 6, .int 97]) = H2 at s2 e2
  have T2 := T3.same s2
  have e12 := s2 _ _ (s3 _ _ e1)
  refine ⟨_, rfl, p1, ns, 1, rfl, .of e12, by omega, _, _, rfl, rfl, (by show (0 : Int) < 7; decide), ?_⟩
  obtain ⟨hop, eh, hh0, hh1⟩ := hop7 (Int.emod_nonneg (ns.getD (1 : Int).toNat 0) (by decide : (7 : Int) ≠ 0)) (Int.emod_lt_of_pos _ (by decide))
  refine ⟨p2, _, _, _, rfl, rfl, .of e2, eh, ?_⟩
  -- cables
  generalize hcnt : ns.getD (0 : Int).toNat 0 % 9 = cnt at hc9
  refine ⟨p3, _, cnt, hop, (by rw [← hcnt]; rfl), .of (s2 _ _ e3), by rw [List.length_drop]; omega, by omega, by omega, hh0, hh1, fun pc cs H4 s4 C4 g4 hl4 hce hpc => ?_⟩
  have T4 := T2.same s4
  have hcl : cs.length ≤ 60 ∨ cs.length ≤ 62 := by rw [List.length_drop] at hl4; omega
  have e14 := s4 _ _ e12
  -- spoil
  refine ⟨_, rfl, p1, ns, 2, rfl, .of e14, by omega, _, _, rfl, rfl, (by show (0 : Int) < 6; decide), ?_⟩
  subst hcnt
  -- strange
  refine ⟨1, rfl, _, rfl, _, rfl, _, _, rfl, rfl, 2, rfl, 1, rfl, _, rfl, _, _, rfl, rfl, (by show 5 ≤ sizeLine; decide), fun p5 hp5 => ?_⟩
  have s5 := same_new hp5 (.lst [.int (-1), .int (ns.getD (0 : Int).toNat 0 % 9), .int (ns.getD (0 : Int).toNat 0 % 9 + 2), .int (-2), .int (-1 - ns.getD (0 : Int).toNat 0 % 9)])
  have e5 : (upd H4 p5 (.lst [.int (-1), .int (ns.getD (0 : Int).toNat 0 % 9), .int (ns.getD (0 : Int).toNat 0 % 9 + 2), .int (-2), .int (-1 - ns.getD (0 : Int).toNat 0 % 9)])) p5 = some (.lst [.int (-1), .int (ns.getD (0 : Int).toNat 0 % 9), .int (ns.getD (0 : Int).toNat 0 % 9 + 2), .int (-2), .int (-1 - ns.getD (0 : Int).toNat 0 % 9)]) := upd_same
  have e15 := s5 _ _ e14
  refine ⟨_, rfl, p1, ns, 2, rfl, .of e15, by omega, _, _, rfl, rfl, ⟨by decide, by decide⟩, _, _, rfl, rfl, (by show (0 : Int) < 5; decide), ?_⟩
  obtain ⟨st, est, hst⟩ := strange5 (cnt := ns.getD (0 : Int).toNat 0 % 9) (by omega) (Int.emod_nonneg (ns.getD (2 : Int).toNat 0 / 6) (by decide : (5 : Int) ≠ 0)) (Int.emod_lt_of_pos _ (by decide))
  refine ⟨p5, _, _, _, rfl, rfl, .of e5, est, ?_⟩
  have C5 := C4.ext (.same s5)
  have T5 := T4.same s5
  -- spoiled or not
  refine ⟨p1, pc, ns, cs, ns.getD (0 : Int).toNat 0 % 9, ns.getD (2 : Int).toNat 0 % 6, st, rfl, e15, C5, by omega, T5, fun H6 cs' v5 v6 C6 hl6 hbad hgood T6 => ?_⟩
  generalize ns.getD (0 : Int).toNat 0 % 9 = cnt at hc9 hst g4 ⊢
  generalize ns.getD (2 : Int).toNat 0 % 6 = sp at hbad hgood ⊢
  have hcl6 : cs'.length ≤ 63 := by
    clear hbad hgood
    omega
  -- one, other
  refine ⟨_, rfl, _, _, rfl, rfl, 0, cnt - 1, rfl, ?_⟩
  refine ⟨sp, st, 0, rfl, rfl, rfl, ?_⟩
  refine ⟨sp, st, _, rfl, rfl, rfl, ?_⟩
  generalize ho : (if sp = 3 then st else 0) = one
  generalize ht : (if sp = 4 then st else if cnt - 1 > 0 then cnt - 1 else 0) = other
  have hno : (cnt = 0 ∨ sp = 3 ∨ sp = 4) → ¬ (IsM cnt one ∧ IsM cnt other) := by
    clear hbad hgood
    rintro z ⟨z1, z2⟩
    unfold IsM at hst z1 z2
    rcases z with z | z | z
    · omega
    · rw [if_pos z] at ho
      omega
    · rw [if_pos z] at ht
      omega
  have hyes : ¬ (cnt = 0 ∨ sp = 3 ∨ sp = 4) → IsM cnt one ∧ IsM cnt other := by
    clear hbad hgood
    intro z
    have z1 : cnt ≠ 0 := fun e => z (.inl e)
    have z3 : sp ≠ 3 := fun e => z (.inr (.inl e))
    have z4 : sp ≠ 4 := fun e => z (.inr (.inr e))
    rw [if_neg z3] at ho
    rw [if_neg z4] at ht
    unfold IsM
    rw [← ho, ← ht]
    split <;> omega
  -- handed = list(cables)
  obtain ⟨rs, ec, el, htp⟩ := id C6
  refine ⟨_, rfl, pc, _, rfl, .inl (.of ec), fun ph hph => ?_⟩
  have s7 := same_new hph (.lst (rs.map V.ref))
  have e7 : (upd H6 ph (.lst (rs.map V.ref))) ph = some (.lst (rs.map V.ref)) := upd_same
  generalize upd H6 ph (.lst (rs.map V.ref)) = H7 at s7 e7
  have T7 := T6.same s7
  have C7 : Cab H7 ph cs' := ⟨rs, e7, el, fun i r c h1 h2 => s7 _ _ (htp i r c h1 h2)⟩
  -- bad
  refine ⟨sp, rfl, ?_⟩
  -- the five turns
  refine ⟨_, rfl, by omega, by omega, for_range (lo := 0) (n := (5 : Int).toNat)
    (fun i σ H8 => ∃ v11 v12, σ = [some (.ref p1), some (.int cnt), some (.ref pc), some (.int sp), some (.int st), v5, v6, some (.int one), some (.int other), some (.ref ph), some (.bl (decide (sp = 1 ∨ sp = 2))), v11, v12] ∧ Ext H7 H8 ∧ Tab posL P H8)
    ⟨_, _, (by rw [← ho, ← ht]; rfl), .refl H7, T7⟩ ?_ ?_⟩
  · rintro i σ H8 hi ⟨v11, v12, rfl, x8, T8⟩
    have hi5 : i < 5 := hi
    refine ⟨_, rfl, ?_⟩
    refine ⟨_, cnt, sp, 0 + (i : Int), rfl, rfl, rfl, rfl, rfl, ?_⟩
    have hcase : (dueOf (decide (sp = 1 ∨ sp = 2)) cnt sp (0 + (i : Int)) = true ∧ Stray cnt cs') ∨ (dueOf (decide (sp = 1 ∨ sp = 2)) cnt sp (0 + (i : Int)) = false ∧ Good cnt cs' ∧ ((0 + (i : Int)) = 4 → IsM cnt one ∧ IsM cnt other)) ∨
        (dueOf (decide (sp = 1 ∨ sp = 2)) cnt sp (0 + (i : Int)) = true ∧ Good cnt cs' ∧ (0 + (i : Int)) = 4 ∧ ¬ (IsM cnt one ∧ IsM cnt other)) := by
      unfold dueOf
      by_cases hb : sp = 1 ∨ sp = 2
      · rw [decide_eq_true hb]
        refine .inl ⟨by split <;> rfl, ?_⟩
        obtain ⟨c, hc, hcs⟩ := hbad hb
        refine ⟨c, hc, fun z => ?_⟩
        rcases hcs with y | y
        · exact hst (by rw [← y]; exact z.1)
        · exact hst (by rw [← y]; exact z.2)
      · rw [decide_eq_false hb]
        have g6 : Good cnt cs' := by rw [hgood hb]; exact g4
        by_cases h4 : (0 + (i : Int)) = 4
        · rw [if_pos h4, Bool.false_or]
          by_cases hz : cnt = 0 ∨ sp = 3 ∨ sp = 4
          · exact .inr (.inr ⟨decide_eq_true hz, g6, h4, hno hz⟩)
          · exact .inr (.inl ⟨decide_eq_false hz, g6, fun _ => hyes hz⟩)
        · rw [if_neg h4]
          exact .inr (.inl ⟨rfl, g6, fun z => absurd z h4⟩)
    generalize dueOf (decide (sp = 1 ∨ sp = 2)) cnt sp (0 + (i : Int)) = due at hcase
    refine ⟨_, rfl, _, rfl, _, rfl, _, rfl, _, rfl, 0 + (i : Int), cnt, ph, one, other, cs', due, rfl, C7.ext x8, by omega, by omega, by omega, T8, hcase, by omega, by omega, fun H9 x9 T9 => ?_⟩
    refine ⟨_, rfl, rfl, _, rfl, ?_⟩
    rw [decide_eq_true rfl]
    refine iteF ?_
    refine ⟨_, rfl, due, rfl, ?_⟩
    cases due with
    | false => exact iteF (iteF ⟨_, _, rfl, x8.trans x9, T9⟩)
    | true =>
      refine iteT ⟨_, rfl, _, rfl, _, rfl, _, rfl, _, rfl, 0 + (i : Int), cnt, ph, one, other, cs', true, rfl, (C7.ext x8).ext x9, by omega, by omega, by omega, T9, hcase, by omega, by omega, fun H10 x10 T10 => ⟨_, rfl, iteF ⟨_, _, rfl, (x8.trans x9).trans x10, T10⟩⟩⟩
  · rintro σ H8 ⟨v11, v12, rfl, x8, T8⟩
    exact ⟨_, rfl, _, rfl, ph, pc, rs, cs', rfl, x8.lst e7, x8.lst (s7 _ _ ec), el, hcl6, fun i r c h1 h2 => x8.tup (s7 _ _ (htp i r c h1 h2)), q _⟩
end
end Ml

namespace Ml
open PySem L2
theorem all_mk {l : PySem.W.OpenLaw} {w : World} {K : PySem.W.Frag} {h : Heap} {mg : Str → Option Value} {fa c P f1 f2 f3 f4 f5 f6 f7 f8 f9 f10 f11 f12 f13 f14 f15 f16 f17 f18 f19 f20 f21 : Addr} (X : K.In h) (G : h.Ns mainGlobals mg) (hfa : mg "law" = some (.ref fa))
    {od0 od1 an1 od2 an2 od3 an3 od4 an4 od5 an5 od6 an6 od7 an7 od8 an8 od9 an9 od10 an10 od11 an11 od12 an12 od13 an13 od14 an14 od15 an15 od16 an16 od17 an17 od18 an18 od19 an19 od20 an20 od21 an21 : Option Addr} {sl0 sl1 sl2 sl3 sl4 sl5 sl6 sl7 sl8 sl9 sl10 sl11 sl12 sl13 sl14 sl15 sl16 sl17 sl18 sl19 sl20 sl21 : Array (Option Value)} {vs0 : Array Value} {oc0 oc1 kV1 dc1 pm1 cd1 ct1 oc2 kV2 dc2 pm2 cd2 ct2 oc3 kV3 dc3 pm3 ct3 oc4 kV4 dc4 pm4 cd4 ct4 oc5 kV5 dc5 pm5 cd5 ct5 oc6 kV6 dc6 pm6 cd6 ct6 oc7 kV7 dc7 pm7 cd7 ct7 oc8 kV8 dc8 pm8 cd8 ct8 oc9 kV9 dc9 pm9 cd9 ct9 oc10 kV10 dc10 pm10 cd10 ct10 oc11 kV11 dc11 pm11 cd11 ct11 oc12 kV12 dc12 pm12 cd12 ct12 oc13 kV13 dc13 pm13 cd13 ct13 oc14 kV14 dc14 pm14 cd14 ct14 oc15 kV15 dc15 pm15 cd15 ct15 oc16 kV16 dc16 pm16 cd16 ct16 oc17 kV17 dc17 pm17 cd17 ct17 oc18 kV18 dc18 pm18 cd18 ct18 oc19 kV19 dc19 pm19 cd19 ct19 oc20 kV20 dc20 pm20 cd20 ct20 oc21 kV21 dc21 pm21 cd21 ct21 : Value}
    (a1 : PySem.W.nsIn K mainGlobals "is_mast" = some (some (.ref f1))) (l1 : K.lookup f1 = some ⟨oc1, od1, .func (PySem.W.fnOf "is_mast" "is_mast" (defArgs sMast) (defBody sMast) (defScope sMast) .none kV1 dc1 pm1 an1 cd1 ct1), sl1⟩) (c1 : PySem.W.codeIn K cd1 "is_mast" = true) (k1 : PySem.W.keepIn K (.ref f1) = true)
    (a2 : PySem.W.nsIn K mainGlobals "refuse_stray_cables" = some (some (.ref f2))) (l2 : K.lookup f2 = some ⟨oc2, od2, .func (PySem.W.fnOf "refuse_stray_cables" "refuse_stray_cables" (defArgs sRefuse) (defBody sRefuse) (defScope sRefuse) .none kV2 dc2 pm2 an2 cd2 ct2), sl2⟩) (c2 : PySem.W.codeIn K cd2 "refuse_stray_cables" = true) (k2 : PySem.W.keepIn K (.ref f2) = true)
    (a3 : PySem.W.nsIn K mainGlobals "in_turn" = some (some (.ref f3))) (l3 : K.lookup f3 = some ⟨oc3, od3, .func (PySem.W.fnOf "in_turn" "in_turn" (defArgs sTurn) (defBody sTurn) (defScope sTurn) .none kV3 dc3 pm3 an3 (.ref c) ct3), sl3⟩) (c3 : PySem.W.codeIn K (.ref c) "in_turn" = true) (k3 : PySem.W.keepIn K (.ref f3) = true)
    (a4 : PySem.W.nsIn K mainGlobals "with_groups_joined" = some (some (.ref f4))) (l4 : K.lookup f4 = some ⟨oc4, od4, .func (PySem.W.fnOf "with_groups_joined" "with_groups_joined" (defArgs sJoin) (defBody sJoin) (defScope sJoin) .none kV4 dc4 pm4 an4 cd4 ct4), sl4⟩) (c4 : PySem.W.codeIn K cd4 "with_groups_joined" = true) (k4 : PySem.W.keepIn K (.ref f4) = true)
    (a5 : PySem.W.nsIn K mainGlobals "laid" = some (some (.ref f5))) (l5 : K.lookup f5 = some ⟨oc5, od5, .func (PySem.W.fnOf "laid" "laid" (defArgs sLaid) (defBody sLaid) (defScope sLaid) .none kV5 dc5 pm5 an5 cd5 ct5), sl5⟩) (c5 : PySem.W.codeIn K cd5 "laid" = true) (k5 : PySem.W.keepIn K (.ref f5) = true)
    (a6 : PySem.W.nsIn K mainGlobals "total" = some (some (.ref f6))) (l6 : K.lookup f6 = some ⟨oc6, od6, .func (PySem.W.fnOf "total" "total" (defArgs sTotal) (defBody sTotal) (defScope sTotal) .none kV6 dc6 pm6 an6 cd6 ct6), sl6⟩) (c6 : PySem.W.codeIn K cd6 "total" = true) (k6 : PySem.W.keepIn K (.ref f6) = true)
    (a7 : PySem.W.nsIn K mainGlobals "far_end" = some (some (.ref f7))) (l7 : K.lookup f7 = some ⟨oc7, od7, .func (PySem.W.fnOf "far_end" "far_end" (defArgs sFar) (defBody sFar) (defScope sFar) .none kV7 dc7 pm7 an7 cd7 ct7), sl7⟩) (c7 : PySem.W.codeIn K cd7 "far_end" = true) (k7 : PySem.W.keepIn K (.ref f7) = true)
    (a8 : PySem.W.nsIn K mainGlobals "places_by_mast" = some (some (.ref f8))) (l8 : K.lookup f8 = some ⟨oc8, od8, .func (PySem.W.fnOf "places_by_mast" "places_by_mast" (defArgs sBy) (defBody sBy) (defScope sBy) .none kV8 dc8 pm8 an8 cd8 ct8), sl8⟩) (c8 : PySem.W.codeIn K cd8 "places_by_mast" = true) (k8 : PySem.W.keepIn K (.ref f8) = true)
    (a9 : PySem.W.nsIn K mainGlobals "places_back" = some (some (.ref f9))) (l9 : K.lookup f9 = some ⟨oc9, od9, .func (PySem.W.fnOf "places_back" "places_back" (defArgs sBack) (defBody sBack) (defScope sBack) .none kV9 dc9 pm9 an9 cd9 ct9), sl9⟩) (c9 : PySem.W.codeIn K cd9 "places_back" = true) (k9 : PySem.W.keepIn K (.ref f9) = true)
    (a10 : PySem.W.nsIn K mainGlobals "way_between" = some (some (.ref f10))) (l10 : K.lookup f10 = some ⟨oc10, od10, .func (PySem.W.fnOf "way_between" "way_between" (defArgs sBetween) (defBody sBetween) (defScope sBetween) .none kV10 dc10 pm10 an10 cd10 ct10), sl10⟩) (c10 : PySem.W.codeIn K cd10 "way_between" = true) (k10 : PySem.W.keepIn K (.ref f10) = true)
    (a11 : PySem.W.nsIn K mainGlobals "unrolled" = some (some (.ref f11))) (l11 : K.lookup f11 = some ⟨oc11, od11, .func (PySem.W.fnOf "unrolled" "unrolled" (defArgs sUnrolled) (defBody sUnrolled) (defScope sUnrolled) .none kV11 dc11 pm11 an11 cd11 ct11), sl11⟩) (c11 : PySem.W.codeIn K cd11 "unrolled" = true) (k11 : PySem.W.keepIn K (.ref f11) = true)
    (a12 : PySem.W.nsIn K mainGlobals "way" = some (some (.ref f12))) (l12 : K.lookup f12 = some ⟨oc12, od12, .func (PySem.W.fnOf "way" "way" (defArgs sWay) (defBody sWay) (defScope sWay) .none kV12 dc12 pm12 an12 cd12 ct12), sl12⟩) (c12 : PySem.W.codeIn K cd12 "way" = true) (k12 : PySem.W.keepIn K (.ref f12) = true)
    (a13 : PySem.W.nsIn K mainGlobals "detours" = some (some (.ref f13))) (l13 : K.lookup f13 = some ⟨oc13, od13, .func (PySem.W.fnOf "detours" "detours" (defArgs sDetours) (defBody sDetours) (defScope sDetours) .none kV13 dc13 pm13 an13 cd13 ct13), sl13⟩) (c13 : PySem.W.codeIn K cd13 "detours" = true) (k13 : PySem.W.keepIn K (.ref f13) = true)
    (a14 : PySem.W.nsIn K mainGlobals "_law_upto" = some (some (.ref f14))) (l14 : K.lookup f14 = some ⟨oc14, od14, .func (PySem.W.fnOf "_law_upto" "_law_upto" (defArgs sUpto) (defBody sUpto) (defScope sUpto) .none kV14 dc14 pm14 an14 cd14 ct14), sl14⟩) (c14 : PySem.W.codeIn K cd14 "_law_upto" = true) (k14 : PySem.W.keepIn K (.ref f14) = true)
    (a15 : PySem.W.nsIn K mainGlobals "_law_whole" = some (some (.ref f15))) (l15 : K.lookup f15 = some ⟨oc15, od15, .func (PySem.W.fnOf "_law_whole" "_law_whole" (defArgs sWhole) (defBody sWhole) (defScope sWhole) .none kV15 dc15 pm15 an15 cd15 ct15), sl15⟩) (c15 : PySem.W.codeIn K cd15 "_law_whole" = true) (k15 : PySem.W.keepIn K (.ref f15) = true)
    (a16 : PySem.W.nsIn K mainGlobals "_law_at" = some (some (.ref f16))) (l16 : K.lookup f16 = some ⟨oc16, od16, .func (PySem.W.fnOf "_law_at" "_law_at" (defArgs sAt) (defBody sAt) (defScope sAt) .none kV16 dc16 pm16 an16 cd16 ct16), sl16⟩) (c16 : PySem.W.codeIn K cd16 "_law_at" = true) (k16 : PySem.W.keepIn K (.ref f16) = true)
    (a17 : PySem.W.nsIn K mainGlobals "_law_some_cables" = some (some (.ref f17))) (l17 : K.lookup f17 = some ⟨oc17, od17, .func (PySem.W.fnOf "_law_some_cables" "_law_some_cables" (defArgs sCab) (defBody sCab) (defScope sCab) .none kV17 dc17 pm17 an17 cd17 ct17), sl17⟩) (c17 : PySem.W.codeIn K cd17 "_law_some_cables" = true) (k17 : PySem.W.keepIn K (.ref f17) = true)
    (a18 : PySem.W.nsIn K mainGlobals "_law_unhurt" = some (some (.ref f18))) (l18 : K.lookup f18 = some ⟨oc18, od18, .func (PySem.W.fnOf "_law_unhurt" "_law_unhurt" (defArgs sUnh) (defBody sUnh) (defScope sUnh) .none kV18 dc18 pm18 an18 cd18 ct18), sl18⟩) (c18 : PySem.W.codeIn K cd18 "_law_unhurt" = true) (k18 : PySem.W.keepIn K (.ref f18) = true)
    (a19 : PySem.W.nsIn K mainGlobals "_law_refuses" = some (some (.ref f19))) (l19 : K.lookup f19 = some ⟨oc19, od19, .func (PySem.W.fnOf "_law_refuses" "_law_refuses" (defArgs sRefuses) (defBody sRefuses) (defScope sRefuses) .none kV19 dc19 pm19 an19 cd19 ct19), sl19⟩) (c19 : PySem.W.codeIn K cd19 "_law_refuses" = true) (k19 : PySem.W.keepIn K (.ref f19) = true)
    (a20 : PySem.W.nsIn K mainGlobals "_law_any_refusal" = some (some (.ref f20))) (l20 : K.lookup f20 = some ⟨oc20, od20, .func (PySem.W.fnOf "_law_any_refusal" "_law_any_refusal" (defArgs sAnyRef) (defBody sAnyRef) (defScope sAnyRef) .none kV20 dc20 pm20 an20 cd20 ct20), sl20⟩) (c20 : PySem.W.codeIn K cd20 "_law_any_refusal" = true) (k20 : PySem.W.keepIn K (.ref f20) = true)
    (a21 : PySem.W.nsIn K mainGlobals "law" = some (some (.ref f21))) (l21 : K.lookup f21 = some ⟨oc21, od21, .func (PySem.W.fnOf "law" "law" (defArgs sLaw) (defBody sLaw) (defScope sLaw) .none kV21 dc21 pm21 an21 cd21 ct21), sl21⟩) (c21 : PySem.W.codeIn K cd21 "law" = true) (k21 : PySem.W.keepIn K (.ref f21) = true)
    {C CM : Addr} (aC : PySem.W.nsIn K mainGlobals "NoMast" = some (some (.ref C))) (qC : PySem.W.excIn K C bmV "ValueError.__new__" = true) (aM : PySem.W.nsIn K mainGlobals "MastError" = some (some (.ref CM))) (xM : PySem.W.exmOne K (.ref C) (.ref CM) = some true) (vC : PySem.W.kitOne K (.ref C) (.type "ValueError") = some true)
    (l0 : K.lookup c = some ⟨oc0, od0, .fields vs0, sl0⟩) (v0 : vs0[11]? = some (.ref P)) (t2 : K.lookup P = none)
    (z1 : PySem.W.nsIn K mainGlobals "len" = some none) (z2 : PySem.W.nsIn K mainGlobals "range" = some none) (z3 : PySem.W.nsIn K mainGlobals "isinstance" = some none) (z4 : PySem.W.nsIn K mainGlobals "int" = some none) (z5 : PySem.W.nsIn K mainGlobals "bool" = some none) (z6 : PySem.W.nsIn K mainGlobals "tuple" = some none) (z7 : PySem.W.nsIn K mainGlobals "list" = some none) (z8 : PySem.W.nsIn K mainGlobals "sorted" = some none) (z9 : PySem.W.nsIn K mainGlobals "enumerate" = some none) (z10 : PySem.W.nsIn K mainGlobals "sum" = some none) (z11 : PySem.W.nsIn K mainGlobals "max" = some none) (z12 : PySem.W.nsIn K mainGlobals "ValueError" = some none) :
    ∃ (fd : FuncData) (c P : Addr), PySem.W.tabIn K "in_turn" = some (c, P) ∧ K.lookup P = none ∧ (∀ (s : Shared) (u : Value), BindsTo s fd ⟨[u], []⟩ [("_law_script", u)]) ∧
      ∀ base : Heap, K.In base → base.Ns mainGlobals mg → Top1 mg base c P → FnOk l.prog w K mg base CX0 8 fa fd ["_law_script"] (spLaw posL P K) := by
  have e := hfa.symm.trans (PySem.W.mg_of X G a21)
  cases e
  have B : Blt mg := ⟨PySem.W.mg_none_of X G z1, PySem.W.mg_none_of X G z2, PySem.W.mg_none_of X G z3, PySem.W.mg_none_of X G z4, PySem.W.mg_none_of X G z5, PySem.W.mg_none_of X G z6, PySem.W.mg_none_of X G z7, PySem.W.mg_none_of X G z8⟩
  have X_enumerate := PySem.W.mg_none_of X G z9
  have X_sum := PySem.W.mg_none_of X G z10
  have X_max := PySem.W.mg_none_of X G z11
  have X_ValueError := PySem.W.mg_none_of X G z12
  have t1 : PySem.W.tabIn K "in_turn" = some (c, P) := tab_mk a3 l3 rfl l0 v0
  have F1 := fun_mk (st := sMast) l1 c1 k1
  have F2 := fun_mk (st := sRefuse) l2 c2 k2
  have F3 := fun_mk (st := sTurn) l3 c3 k3
  have F4 := fun_mk (st := sJoin) l4 c4 k4
  have F5 := fun_mk (st := sLaid) l5 c5 k5
  have F6 := fun_mk (st := sTotal) l6 c6 k6
  have F7 := fun_mk (st := sFar) l7 c7 k7
  have F8 := fun_mk (st := sBy) l8 c8 k8
  have F9 := fun_mk (st := sBack) l9 c9 k9
  have F10 := fun_mk (st := sBetween) l10 c10 k10
  have F11 := fun_mk (st := sUnrolled) l11 c11 k11
  have F12 := fun_mk (st := sWay) l12 c12 k12
  have F13 := fun_mk (st := sDetours) l13 c13 k13
  have F14 := fun_mk (st := sUpto) l14 c14 k14
  have F15 := fun_mk (st := sWhole) l15 c15 k15
  have F16 := fun_mk (st := sAt) l16 c16 k16
  have F17 := fun_mk (st := sCab) l17 c17 k17
  have F18 := fun_mk (st := sUnh) l18 c18 k18
  have F19 := fun_mk (st := sRefuses) l19 c19 k19
  have F20 := fun_mk (st := sAnyRef) l20 c20 k20
  have F21 := fun_mk (st := sLaw) l21 c21 k21
  have b1 := F1.binds (ps := ["count", "number"]) fun _ _ _ _ _ _ us hl => match us, hl with | [_, _], _ => rfl
  have b2 := F2.binds (ps := ["count", "cables"]) fun _ _ _ _ _ _ us hl => match us, hl with | [_, _], _ => rfl
  have b3 := F3.binds (ps := ["cables"]) fun _ _ _ _ _ _ us hl => match us, hl with | [_], _ => rfl
  have b4 := F4.binds (ps := ["groups", "kept", "gone"]) fun _ _ _ _ _ _ us hl => match us, hl with | [_, _, _], _ => rfl
  have b5 := F5.binds (ps := ["count", "cables"]) fun _ _ _ _ _ _ us hl => match us, hl with | [_, _], _ => rfl
  have b6 := F6.binds (ps := ["count", "cables"]) fun _ _ _ _ _ _ us hl => match us, hl with | [_, _], _ => rfl
  have b7 := F7.binds (ps := ["cable", "mast"]) fun _ _ _ _ _ _ us hl => match us, hl with | [_, _], _ => rfl
  have b8 := F8.binds (ps := ["count", "cables", "places"]) fun _ _ _ _ _ _ us hl => match us, hl with | [_, _, _], _ => rfl
  have b9 := F9.binds (ps := ["cables", "by_mast", "start"]) fun _ _ _ _ _ _ us hl => match us, hl with | [_, _, _], _ => rfl
  have b10 := F10.binds (ps := ["cables", "by_mast", "one", "other"]) fun _ _ _ _ _ _ us hl => match us, hl with | [_, _, _, _], _ => rfl
  have b11 := F11.binds (ps := ["count", "cables"]) fun _ _ _ _ _ _ us hl => match us, hl with | [_, _], _ => rfl
  have b12 := F12.binds (ps := ["count", "cables", "one", "other"]) fun _ _ _ _ _ _ us hl => match us, hl with | [_, _, _, _], _ => rfl
  have b13 := F13.binds (ps := ["count", "cables"]) fun _ _ _ _ _ _ us hl => match us, hl with | [_, _], _ => rfl
  have b14 := F14.binds (ps := ["_law_script", "_law_small", "_law_great"]) fun _ _ _ _ _ _ us hl => match us, hl with | [_, _, _], _ => rfl
  have b15 := F15.binds (ps := ["_law_found"]) fun _ _ _ _ _ _ us hl => match us, hl with | [_], _ => rfl
  have b16 := F16.binds (ps := ["_law_script", "_law_k"]) fun _ _ _ _ _ _ us hl => match us, hl with | [_, _], _ => rfl
  have b17 := F17.binds (ps := ["_law_cells", "_law_count", "_law_hop"]) fun _ _ _ _ _ _ us hl => match us, hl with | [_, _, _], _ => rfl
  have b18 := F18.binds (ps := ["_law_handed", "_law_cables"]) fun _ _ _ _ _ _ us hl => match us, hl with | [_, _], _ => rfl
  have b19 := F19.binds (ps := ["_law_turn", "_law_count", "_law_cables", "_law_one", "_law_other"]) fun _ _ _ _ _ _ us hl => match us, hl with | [_, _, _, _, _], _ => rfl
  have b20 := F20.binds (ps := ["_law_turn", "_law_count", "_law_cables", "_law_one", "_law_other"]) fun _ _ _ _ _ _ us hl => match us, hl with | [_, _, _, _, _], _ => rfl
  refine ⟨PySem.W.fnOf "law" "law" (defArgs sLaw) (defBody sLaw) (defScope sLaw) .none kV21 dc21 pm21 an21 cd21 ct21, c, P, t1, t2, fun s v => .of_eq rfl, fun base _ _ T1 => ?_⟩
  have D_is_mast : Dn l.prog w K mg base 1 "is_mast" ["count", "number"] _ _ spMast := ⟨ok_mast F1, PySem.W.mg_of X G a1, k1, b1⟩
  have D_refuse_stray_cables : Dn l.prog w K mg base 2 "refuse_stray_cables" ["count", "cables"] _ _ spRefuse := ⟨ok_refuse F2 X_enumerate D_is_mast, PySem.W.mg_of X G a2, k2, b2⟩
  have D_in_turn : Dn l.prog w K mg base 4 "in_turn" ["cables"] _ _ (spTurn posL P) := ⟨ok_turn l3 c3 T1 B.sorted B.range B.len, PySem.W.mg_of X G a3, k3, b3⟩
  have D_with_groups_joined : Dn l.prog w K mg base 1 "with_groups_joined" ["groups", "kept", "gone"] _ _ spJoin := ⟨ok_join F4, PySem.W.mg_of X G a4, k4, b4⟩
  have D_laid : Dn l.prog w K mg base 5 "laid" ["count", "cables"] _ _ (spLaid posL P) := ⟨ok_laid F5 B D_refuse_stray_cables D_in_turn D_with_groups_joined, PySem.W.mg_of X G a5, k5, b5⟩
  have D_total : Dn l.prog w K mg base 6 "total" ["count", "cables"] _ _ (spTotal posL P) := ⟨ok_total F6 X_sum D_laid, PySem.W.mg_of X G a6, k6, b6⟩
  have D_far_end : Dn l.prog w K mg base 1 "far_end" ["cable", "mast"] _ _ spFar := ⟨ok_far F7, PySem.W.mg_of X G a7, k7, b7⟩
  have D_places_by_mast : Dn l.prog w K mg base 1 "places_by_mast" ["count", "cables", "places"] _ _ spBy := ⟨ok_by F8 B, PySem.W.mg_of X G a8, k8, b8⟩
  have D_places_back : Dn l.prog w K mg base 2 "places_back" ["cables", "by_mast", "start"] _ _ spBack := ⟨ok_back F9 B D_far_end, PySem.W.mg_of X G a9, k9, b9⟩
  have D_way_between : Dn l.prog w K mg base 3 "way_between" ["cables", "by_mast", "one", "other"] _ _ spBetween := ⟨ok_between F10 D_far_end D_places_back, PySem.W.mg_of X G a10, k10, b10⟩
  have D_unrolled : Dn l.prog w K mg base 6 "unrolled" ["count", "cables"] _ _ (spUnr posL P) := ⟨ok_unr F11 B D_laid D_places_by_mast D_places_back, PySem.W.mg_of X G a11, k11, b11⟩
  have D_way : Dn l.prog w K mg base 6 "way" ["count", "cables", "one", "other"] _ _ (spWay posL P) := ⟨ok_way F12 D_laid D_is_mast D_places_by_mast D_way_between, PySem.W.mg_of X G a12, k12, b12⟩
  have D_detours : Dn l.prog w K mg base 6 "detours" ["count", "cables"] _ _ (spDet posL P) := ⟨ok_det F13 X_enumerate D_laid D_places_by_mast D_way_between, PySem.W.mg_of X G a13, k13, b13⟩
  have D__law_upto : Dn l.prog w K mg base 1 "_law_upto" ["_law_script", "_law_small", "_law_great"] _ _ (spUpto K) := ⟨ok_upto F14 B, PySem.W.mg_of X G a14, k14, b14⟩
  have D__law_whole : Dn l.prog w K mg base 1 "_law_whole" ["_law_found"] _ _ spWhole := ⟨ok_whole F15 B, PySem.W.mg_of X G a15, k15, b15⟩
  have D__law_at : Dn l.prog w K mg base 1 "_law_at" ["_law_script", "_law_k"] _ _ (spAt K) := ⟨ok_at F16 B, PySem.W.mg_of X G a16, k16, b16⟩
  have D__law_some_cables : Dn l.prog w K mg base 1 "_law_some_cables" ["_law_cells", "_law_count", "_law_hop"] _ _ (spCab K) := ⟨ok_cab F17 B, PySem.W.mg_of X G a17, k17, b17⟩
  have D__law_unhurt : Dn l.prog w K mg base 2 "_law_unhurt" ["_law_handed", "_law_cables"] _ _ spUnh := ⟨ok_unh F18 B D__law_whole, PySem.W.mg_of X G a18, k18, b18⟩
  have kl : Kls K mg C CM := ⟨PySem.W.mg_of X G aC, qC, PySem.W.mg_of X G aM, xM, vC, X_ValueError⟩
  have Zb_refuse_stray_cables : Dz l.prog w K mg base C 2 "refuse_stray_cables" ["count", "cables"] _ _ (spBad C) := ⟨ok_refuseB F2 X_enumerate kl D_is_mast, D_refuse_stray_cables.m, D_refuse_stray_cables.kp, D_refuse_stray_cables.b⟩
  have Zb_laid : Dz l.prog w K mg base C 5 "laid" ["count", "cables"] _ _ (spBad C) := ⟨ok_laidB F5 Zb_refuse_stray_cables, D_laid.m, D_laid.kp, D_laid.b⟩
  have Z_laid : Dz l.prog w K mg base C 5 "laid" ["count", "cables"] _ _ (spOr (spLaid posL P) (spBad C)) := ⟨FnOk_or (FnOk_lift D_laid.ok) Zb_laid.ok, D_laid.m, D_laid.kp, D_laid.b⟩
  have Z_total : Dz l.prog w K mg base C 6 "total" ["count", "cables"] _ _ (spOr (spTotal posL P) (spBad C)) := ⟨FnOk_or (FnOk_lift D_total.ok) (ok_totalB F6 X_sum Zb_laid), D_total.m, D_total.kp, D_total.b⟩
  have Z_unrolled : Dz l.prog w K mg base C 6 "unrolled" ["count", "cables"] _ _ (spOr (spUnr posL P) (spBad C)) := ⟨FnOk_or (FnOk_lift D_unrolled.ok) (ok_unrB F11 Zb_laid D_places_by_mast), D_unrolled.m, D_unrolled.kp, D_unrolled.b⟩
  have Z_detours : Dz l.prog w K mg base C 6 "detours" ["count", "cables"] _ _ (spOr (spDet posL P) (spBad C)) := ⟨FnOk_or (FnOk_lift D_detours.ok) (ok_detB F13 Zb_laid), D_detours.m, D_detours.kp, D_detours.b⟩
  have Z_way : Dz l.prog w K mg base C 6 "way" ["count", "cables", "one", "other"] _ _ (spOr (spWay posL P) (spBadW posL P C)) := ⟨FnOk_or (FnOk_lift D_way.ok) (ok_wayB F12 kl Z_laid D_is_mast D_places_by_mast), D_way.m, D_way.kp, D_way.b⟩
  have D__law_refuses : Dn l.prog w K mg base 7 "_law_refuses" ["_law_turn", "_law_count", "_law_cables", "_law_one", "_law_other"] _ _ (spRf posL P) := ⟨ok_Refuses F19 B kl Z_laid Z_total Z_unrolled Z_detours Z_way, PySem.W.mg_of X G a19, k19, b19⟩
  have D__law_any_refusal : Dn l.prog w K mg base 7 "_law_any_refusal" ["_law_turn", "_law_count", "_law_cables", "_law_one", "_law_other"] _ _ (spRf posL P) := ⟨ok_AnyRef F20 B kl Z_laid Z_total Z_unrolled Z_detours Z_way, PySem.W.mg_of X G a20, k20, b20⟩
  exact ok_law F21 B X_max D__law_at D__law_some_cables D__law_unhurt D__law_upto D__law_refuses D__law_any_refusal
end Ml
open PySem PySem.W PyProof.Rows
set_option maxRecDepth 100000 in
set_option maxHeartbeats 0 in
theorem PySem.Challenge.cw_mastline_k02_refused_holds : PySem.Challenge.rw_mastline_k02_refused.Holds := by
  w_on; o_law; k_head; (case hw => w_witness2)
  k_fill
  refine Ml.walk_ofT (l := PySem.Challenge.rw_mastline_k02_refused) (n := 63) (k := 8) (x := "_law_script") (tname := "in_turn") (CX := fun _ => L2.CX0) (sp := Ml.spLaw Ml.posL) rfl (by decide) rfl ⟨rfl, by decide, by decide⟩ (fun w h Y => PySem.W.km_in_of Y) rfl ?F (fun P K H a ns hl hO hS => ⟨a, ns, rfl, hS, hl, .inl hO.1, fun _ => rfl⟩) (fun _ _ _ _ _ z => z)
  case F =>
    intro w mg fa h KX G hmg
    refine' Ml.all_mk KX G hmg ?a1 ?l1 ?c1 ?k1 ?a2 ?l2 ?c2 ?k2 ?a3 ?l3 ?c3 ?k3 ?a4 ?l4 ?c4 ?k4 ?a5 ?l5 ?c5 ?k5 ?a6 ?l6 ?c6 ?k6 ?a7 ?l7 ?c7 ?k7 ?a8 ?l8 ?c8 ?k8 ?a9 ?l9 ?c9 ?k9 ?a10 ?l10 ?c10 ?k10 ?a11 ?l11 ?c11 ?k11 ?a12 ?l12 ?c12 ?k12 ?a13 ?l13 ?c13 ?k13 ?a14 ?l14 ?c14 ?k14 ?a15 ?l15 ?c15 ?k15 ?a16 ?l16 ?c16 ?k16 ?a17 ?l17 ?c17 ?k17 ?a18 ?l18 ?c18 ?k18 ?a19 ?l19 ?c19 ?k19 ?a20 ?l20 ?c20 ?k20 ?a21 ?l21 ?c21 ?k21 ?aC ?qC ?aM ?xM ?vC ?l0 ?v0 ?t2 ?z1 ?z2 ?z3 ?z4 ?z5 ?z6 ?z7 ?z8 ?z9 ?z10 ?z11 ?z12
    (case a1 => k_is); (case l1 => k_is); (case c1 => k_is); (case k1 => k_is)
    (case a2 => k_is); (case l2 => k_is); (case c2 => k_is); (case k2 => k_is)
    (case a3 => k_is); (case l3 => k_is); (case c3 => k_is); (case k3 => k_is)
    (case a4 => k_is); (case l4 => k_is); (case c4 => k_is); (case k4 => k_is)
    (case a5 => k_is); (case l5 => k_is); (case c5 => k_is); (case k5 => k_is)
    (case a6 => k_is); (case l6 => k_is); (case c6 => k_is); (case k6 => k_is)
    (case a7 => k_is); (case l7 => k_is); (case c7 => k_is); (case k7 => k_is)
    (case a8 => k_is); (case l8 => k_is); (case c8 => k_is); (case k8 => k_is)
    (case a9 => k_is); (case l9 => k_is); (case c9 => k_is); (case k9 => k_is)
    (case a10 => k_is); (case l10 => k_is); (case c10 => k_is); (case k10 => k_is)
    (case a11 => k_is); (case l11 => k_is); (case c11 => k_is); (case k11 => k_is)
    (case a12 => k_is); (case l12 => k_is); (case c12 => k_is); (case k12 => k_is)
    (case a13 => k_is); (case l13 => k_is); (case c13 => k_is); (case k13 => k_is)
    (case a14 => k_is); (case l14 => k_is); (case c14 => k_is); (case k14 => k_is)
    (case a15 => k_is); (case l15 => k_is); (case c15 => k_is); (case k15 => k_is)
    (case a16 => k_is); (case l16 => k_is); (case c16 => k_is); (case k16 => k_is)
    (case a17 => k_is); (case l17 => k_is); (case c17 => k_is); (case k17 => k_is)
    (case a18 => k_is); (case l18 => k_is); (case c18 => k_is); (case k18 => k_is)
    (case a19 => k_is); (case l19 => k_is); (case c19 => k_is); (case k19 => k_is)
    (case a20 => k_is); (case l20 => k_is); (case c20 => k_is); (case k20 => k_is)
    (case a21 => k_is); (case l21 => k_is); (case c21 => k_is); (case k21 => k_is)
    (case aC => k_is); (case qC => first | k_exc | kernel_rfl); (case aM => k_is); (case xM => first | kts_exm | kernel_rfl); (case vC => first | kit_is | kernel_rfl)
    (case l0 => k_is); (case v0 => rfl); (case t2 => first | k_is | kernel_rfl)
    (case z1 => k_is); (case z2 => k_is); (case z3 => k_is); (case z4 => k_is); (case z5 => k_is); (case z6 => k_is); (case z7 => k_is); (case z8 => k_is); (case z9 => k_is); (case z10 => k_is); (case z11 => k_is); (case z12 => k_is)
