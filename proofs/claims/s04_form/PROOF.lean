import PyProof.Rows.All
import Wide.All
import OpenK.AllK
import Wide.FinOn
import PyProof.EqAt
import PyProof.EqKinds
import PyProof.TupleCall
import KE.BitLaws
import KE.OsGo
import Open.SpecLaws
import PySem.Challenge.RW_strandforms_s04_form
set_option Elab.async false
set_option linter.all false
set_option maxRecDepth 100000
set_option Elab.async false
set_option linter.all false
set_option maxRecDepth 100000
/-! THE HAND LAYER, for ints, bools, texts, own classes, lists, tuples, dicts, comprehensions, walks over dicts, enumerate, zip, reversed, texts, calls, loops. Paste it whole ahead of your own text; what your proof does not reach may be deleted. -/
namespace L2
open PySem PySem.Spec PyProof.Rows

/-- a key: an int or a str -/
abbrev Key := Sum Int Str
def keyIs : Key → Value → Bool
  | .inl k, v => Value.isInt k v
  | .inr x, v => Value.isStrOf x v
def keyH (w : World) : Key → Int
  | .inl k => hashInt k
  | .inr x => hashStr w x
theorem keyIs_shape : ∀ {k : Key} {v : Value}, keyIs k v = true → (∃ i t, k = Sum.inl i ∧ v = Value.int i t) ∨ (∃ x t, k = Sum.inr x ∧ v = Value.str x t)
  | .inl i, v, h => by
    obtain ⟨t, e⟩ := Value.isInt_shape (k := i) (v := v) h
    exact .inl ⟨i, t, rfl, e⟩
  | .inr x, v, h => by
    obtain ⟨t, e⟩ := Value.isStrOf_shape (x := x) (v := v) h
    exact .inr ⟨x, t, rfl, e⟩
theorem keyIs_int (i : Int) (t : Tok) : keyIs (.inl i) (.int i t) = true := by simp [keyIs, Value.isInt]
theorem keyIs_str (x : Str) (t : Tok) : keyIs (.inr x) (.str x t) = true := by simp [keyIs, Value.isStrOf]
theorem key_ll (a b : Int) : decide ((Sum.inl a : Key) = Sum.inl b) = (a == b) := by
  by_cases e : a = b
  · subst e; simp
  · have h : ¬ (Sum.inl a : Key) = Sum.inl b := fun q => e (Sum.inl.inj q)
    rw [decide_eq_false h]
    exact (beq_eq_false_iff_ne.mpr e).symm
theorem key_rr (a b : Str) : decide ((Sum.inr a : Key) = Sum.inr b) = decide (a = b) := by
  by_cases e : a = b
  · subst e; simp
  · have h : ¬ (Sum.inr a : Key) = Sum.inr b := fun q => e (Sum.inr.inj q)
    rw [decide_eq_false h, decide_eq_false e]
theorem key_lr (a : Int) (b : Str) : decide ((Sum.inl a : Key) = Sum.inr b) = false := decide_eq_false (fun q => nomatch q)
theorem key_rl (a : Str) (b : Int) : decide ((Sum.inr a : Key) = Sum.inl b) = false := decide_eq_false (fun q => nomatch q)

def mixKind (prog : Program) (w : World) : PySem.KeyKind prog w Key where
  is := keyIs
  hash := keyH w
  inj := fun v a b ha hb => by
    rcases keyIs_shape ha with ⟨i, t, rfl, rfl⟩ | ⟨x, t, rfl, rfl⟩
    · rcases keyIs_shape hb with ⟨j, u, rfl, e⟩ | ⟨y, u, rfl, e⟩
      · injection e with e1 _; rw [e1]
      · exact nomatch e
    · rcases keyIs_shape hb with ⟨j, u, rfl, e⟩ | ⟨y, u, rfl, e⟩
      · exact nomatch e
      · injection e with e1 _; rw [e1]
  byValue := fun k v h => by
    rcases keyIs_shape h with ⟨i, t, rfl, rfl⟩ | ⟨x, t, rfl, rfl⟩ <;> rfl
  pyHash := fun hv h => by
    rcases keyIs_shape hv with ⟨i, t, rfl, rfl⟩ | ⟨x, t, rfl, rfl⟩
    · exact wpAny_pyHash_int h
    · exact wpAny_pyHash_str h
  eqBool := fun hu hv h => by
    rcases keyIs_shape hu with ⟨i, t, rfl, rfl⟩ | ⟨x, t, rfl, rfl⟩
    · rcases keyIs_shape hv with ⟨j, u, rfl, rfl⟩ | ⟨y, u, rfl, rfl⟩
      · rw [key_ll] at h; exact wpAny_eqBool_int h
      · rw [key_lr] at h; exact SeqAt.EqAt.int_str i t y u _ _ _ _ h
    · rcases keyIs_shape hv with ⟨j, u, rfl, rfl⟩ | ⟨y, u, rfl, rfl⟩
      · rw [key_rl] at h; exact SeqAt.EqAt.str_int x t j u _ _ _ _ h
      · rw [key_rr] at h; exact wpAny_eqBool_str h
  «strs» := fun k x t v h => by
    rcases keyIs_shape h with ⟨i, u, rfl, e⟩ | ⟨y, u, rfl, e⟩
    · exact nomatch e
    · injection e with e1 _
      subst e1
      cases v <;> rfl

theorem mixKind_is (prog : Program) (w : World) (k : Key) (v : Value) : (mixKind prog w).is k v = keyIs k v := rfl
theorem mixKind_int (prog : Program) (w : World) (i : Int) (t : Tok) : (mixKind prog w).is (.inl i) (.int i t) = true := keyIs_int i t
theorem mixKind_str (prog : Program) (w : World) (x : Str) (t : Tok) : (mixKind prog w).is (.inr x) (.str x t) = true := keyIs_str x t
end L2

namespace L2
open PySem PySem.Spec PyProof.Rows

/-- a value, without the heap -/
inductive V where
  | non | bl (b : Bool) | int (i : Int) | str (x : Str) | byt (b : Array UInt8) | flt (b : UInt64) | ref (a : Addr) | ty (n : String)
  deriving DecidableEq

def RelV : V → Value → Prop
  | .non, u => u = Value.none
  | .bl b, u => u = Value.bool b
  | .int i, u => ∃ t, u = Value.int i t
  | .str x, u => ∃ t, u = Value.str x t
  | .byt b, u => ∃ t, u = Value.bytes b t
  | .flt b, u => ∃ t, u = Value.float b t
  | .ref a, u => u = Value.ref a
  | .ty n, u => u = Value.type n

abbrev Vals : List V → List Value → Prop := Paired RelV
theorem Vals.length {xs : List V} {us : List Value} (r : Vals xs us) : xs.length = us.length := Paired.length r
theorem Vals.get : ∀ {xs : List V} {us : List Value} {i : Nat} {x : V}, Vals xs us → xs[i]? = some x → ∃ u, us[i]? = some u ∧ RelV x u
  | _, _, _, _, .nil, e => by simp at e
  | _, _, 0, _, .cons r _, e => by simp at e; subst e; exact ⟨_, rfl, r⟩
  | _, _, i + 1, x, .cons _ t, e => by
    obtain ⟨u, h1, h2⟩ := Vals.get (i := i) (x := x) t (by simpa using e)
    exact ⟨u, by simpa using h1, h2⟩
theorem Vals.set {x : V} {u : Value} (r : RelV x u) : ∀ {xs : List V} {us : List Value} (i : Nat), Vals xs us → Vals (xs.set i x) (us.set i u)
  | _, _, _, .nil => .nil
  | _, _, 0, .cons _ t => .cons r t
  | _, _, i + 1, .cons q t => .cons q (Vals.set r i t)
theorem Vals.append : ∀ {xs ys : List V} {us ws : List Value}, Vals xs us → Vals ys ws → Vals (xs ++ ys) (us ++ ws)
  | _, _, _, _, .nil, s => s
  | _, _, _, _, .cons r t, s => .cons r (Vals.append t s)
theorem Vals.take : ∀ {xs : List V} {us : List Value} (n : Nat), Vals xs us → Vals (xs.take n) (us.take n)
  | _, _, 0, _ => .nil
  | _, _, _ + 1, .nil => .nil
  | _, _, n + 1, .cons r t => .cons r (Vals.take n t)
theorem Vals.drop : ∀ {xs : List V} {us : List Value} (n : Nat), Vals xs us → Vals (xs.drop n) (us.drop n)
  | _, _, 0, r => r
  | _, _, _ + 1, .nil => .nil
  | _, _, n + 1, .cons _ t => Vals.drop n t
theorem Vals.none_of : ∀ {xs : List V} {us : List Value} {i : Nat}, Vals xs us → xs[i]? = none → us[i]? = none := fun {xs us i} r e => by
  have h1 := r.length
  have h2 : xs.length ≤ i := List.getElem?_eq_none_iff.mp e
  exact List.getElem?_eq_none_iff.mpr (by omega)

def RelO : Option V → Option Value → Prop
  | some v, some u => RelV v u
  | none, none => True
  | _, _ => False
def KV {κ : Type} : List (κ × V) → List (κ × Value) → Prop := Paired fun (p : κ × V) (q : κ × Value) => p.1 = q.1 ∧ RelV p.2 q.2

/-- a key of a dict (00_mix): an int or a text -/
def kV : Key → V
  | .inl i => .int i
  | .inr x => .str x

/-- what stands at a tracked address -/
inductive HO where
  /-- a list -/
  | lst (xs : List V)
  /-- a tuple (never changes) -/
  | tup (xs : List V)
  /-- a dict whose keys are ints and texts; one whose keys are tuples of ints and texts (the empty one is both) -/
  | dK (kvs : List (Key × V)) | dT (kvs : List (List Key × V))
  /-- a set of ints: its members, its size -/
  | set (S : Int → Bool) (n : Nat)
  /-- an instance of the class at C, its dict at dx, its attributes -/
  | ins (C dx : Addr) (fs : List (Str × V))
  /-- the dict of the instance at x -/
  | own (x : Addr)
  /-- the dict of an exception -/
  | xd (fs : List (Str × V))
  /-- a bound method, f of x -/
  | met (f x : Addr)
  /-- a range object lo, lo + 1, .. below hi -/
  | rng (lo hi : Int)
  /-- a thing that is known to the object (the script; a dict while a loop walks it): read, never written while it is so -/
  | frz (o : Obj) (u : HO)
  /-- a code object's table -/
  | tbl (ps : Array Value)
  /-- any other thing, by what is true of its one object (a def of one's own: SetO a S n := HO.ext fun h => ..) -/
  | ext (φ : Heap → Prop)

abbrev Hp := Addr → Option HO
def upd (H : Hp) (a : Addr) (o : HO) : Hp := fun b => if b = a then some o else H b
theorem upd_same {H : Hp} {a : Addr} {o : HO} : upd H a o a = some o := by unfold upd; rw [if_pos rfl]
theorem upd_ne {H : Hp} {a b : Addr} {o : HO} (h : b ≠ a) : upd H a o b = H b := by unfold upd; rw [if_neg h]
theorem upd_upd {H : Hp} {a : Addr} {o u : HO} : upd (upd H a o) a u = upd H a u := by
  funext b; unfold upd; split <;> rfl
/-- two objects of different content stand apart -/
theorem ne_of {H : Hp} {a b : Addr} {o u : HO} (h : H a = some o) (h' : H b = some u) (d : o ≠ u) : a ≠ b := by
  intro e; subst e; rw [h] at h'; exact d (Option.some.inj h')
theorem ne_of_none {H : Hp} {a b : Addr} {o : HO} (h : H a = some o) (h' : H b = none) : a ≠ b := by
  intro e; subst e; rw [h] at h'; cases h'

section
variable (P : Program) (w : World)
def ObjOk (H : Hp) (h : Heap) (a : Addr) : HO → Prop
  | .lst xs => xs.length ≤ sizeLine ∧ ∃ (its : List Value) (n : Nat), Vals xs its ∧ h.get? a = some { cls := .type "list", data := .seq its.toArray n }
  | .tup xs => xs.length ≤ sizeLine ∧ ∃ its : List Value, Vals xs its ∧ IsTup h a its.toArray
  | .dK kvs => kvs.length ≤ sizeLine ∧ (a == sysModules) = false ∧ ∃ vs, KV kvs vs ∧ h.DictOf (mixKind P w) a vs
  | .dT kvs => kvs.length ≤ sizeLine ∧ (a == sysModules) = false ∧ ∃ xs : List (List Key × Addr × Value),
      Paired (fun (p : List Key × V) (q : List Key × Addr × Value) => p.1 = q.1 ∧ H q.2.1 = some (.tup (p.1.map kV)) ∧ RelV p.2 q.2.2) kvs xs ∧
      ∃ o es ep, h.get? a = some o ∧ o.ExactDict ∧ o.data = .dict es ep ∧ es.toList = xs.map (entryOfKey (tupleKind (mixKind P w))) ∧ (xs.map (·.1)).Nodup
  | .set S n => h.SetOf (intKind P w) a S n
  | .ins C dx fs => H dx = some (.own a) ∧ fs.length ≤ 1000 ∧ dx ≠ a ∧ h.get? a = some (PySem.W.instObj C dx) ∧
      ∃ mA, h.Ns1 dx mA ∧ (∀ f, RelO (fs.lookup f) (mA f)) ∧ PySem.Within mA (fs.map (·.1))
  | .own _ => ∃ o, h.get? a = some o
  | .xd fs => ∃ mA, h.Ns1 a mA ∧ ∀ f, RelO (fs.lookup f) (mA f)
  | .rng lo hi => ∃ t u v, h.get? a = some { cls := .type "range", data := .fields #[.int lo t, .int hi u, .int 1 v] }
  | .frz o u => h.get? a = some o ∧ ObjOk H h a u
  | .tbl ps => h.get? a = some { cls := .none, data := .fields ps }
  | .met f x => h.get? a = some (PySem.W.methodObj (.ref f) (.ref x))
  | .ext φ => φ h ∧ (∃ o, h.get? a = some o) ∧ ∀ h1 h2 : Heap, φ h1 → (∀ o, h1.get? a = some o → h2.get? a = some o) → φ h2
/-- the abstract heap is held -/
def HOk (H : Hp) (h : Heap) : Prop := ∀ a o, H a = some o → ObjOk P w H h a o
end

section
variable {P : Program} {w : World} {H H' : Hp} {h h' : Heap} {a : Addr} {o : HO}
theorem ObjOk.lt (x : ObjOk P w H h a o) : a < h.objs.size := by
  cases o with
  | lst xs => obtain ⟨_, _, _, _, e⟩ := x; exact Heap.lt_size e
  | tup xs => obtain ⟨_, _, _, p⟩ := x; exact p.lt
  | dK kvs => obtain ⟨_, _, _, _, o, _, _, e, _⟩ := x; exact Heap.lt_size e
  | dT kvs => obtain ⟨_, _, _, _, o, _, _, e, _⟩ := x; exact Heap.lt_size e
  | set S n => obtain ⟨o, _, _, _, e, _⟩ := x; exact Heap.lt_size e
  | ins C dx fs => obtain ⟨_, _, _, e, _⟩ := x; exact Heap.lt_size e
  | own y => obtain ⟨_, e⟩ := x; exact Heap.lt_size e
  | xd fs => obtain ⟨_, ⟨_, _, _, e, _⟩, _⟩ := x; exact Heap.lt_size e
  | rng lo hi => obtain ⟨_, _, _, e⟩ := x; exact Heap.lt_size e
  | frz ob u => obtain ⟨e, _⟩ := x; exact Heap.lt_size e
  | tbl ps => exact Heap.lt_size (show h.get? a = some _ from x)
  | met f y => exact Heap.lt_size (show h.get? a = some _ from x)
  | ext φ => obtain ⟨_, ⟨_, e⟩, _⟩ := x; exact Heap.lt_size e
theorem Paired.mapP {α β : Type} {F G : α → β → Prop} : ∀ {l₁ : List α} {l₂ : List β}, Paired F l₁ l₂ → (∀ a b, F a b → G a b) → Paired G l₁ l₂
  | _, _, .nil, _ => .nil
  | _, _, .cons r t, f => .cons (f _ _ r) (Paired.mapP t f)
theorem Paired.imp' {α β : Type} {F G : α → β → Prop} (f : ∀ a b, F a b → G a b) {l₁ : List α} {l₂ : List β} (r : Paired F l₁ l₂) : Paired G l₁ l₂ := Paired.mapP r f
/-- what an object's description leans on: its own object, its own dict, the tuples -/
theorem ObjOk.stay (x : ObjOk P w H h a o) (k : ∀ b u, (b = a ∨ H b = some (.own a)) → h.get? b = some u → h'.get? b = some u)
    (ho : ∀ b, H b = some (.own a) → H' b = some (.own a)) (ht : ∀ b xs, H b = some (.tup xs) → H' b = some (.tup xs)) : ObjOk P w H' h' a o := by
  induction o with
  | lst xs => obtain ⟨z, its, n, r, e⟩ := x; exact ⟨z, its, n, r, k _ _ (.inl rfl) e⟩
  | tup xs => obtain ⟨z, its, r, ob, e, c⟩ := x; exact ⟨z, its, r, ob, k _ _ (.inl rfl) e, c⟩
  | dK kvs => obtain ⟨z, y, vs, r, ob, es, ep, e, c⟩ := x; exact ⟨z, y, vs, r, ob, es, ep, k _ _ (.inl rfl) e, c⟩
  | dT kvs =>
    obtain ⟨z, y, xs, r, ob, es, ep, e, c⟩ := x
    exact ⟨z, y, xs, Paired.mapP r fun p q z => ⟨z.1, ht _ _ z.2.1, z.2.2⟩, ob, es, ep, k _ _ (.inl rfl) e, c⟩
  | set S n => obtain ⟨ob, es, ep, t, e, c⟩ := x; exact ⟨ob, es, ep, t, k _ _ (.inl rfl) e, c⟩
  | ins C dx fs =>
    obtain ⟨d, z, ne, e, mA, ⟨od, es, ep, e2, c⟩, r⟩ := x
    exact ⟨ho _ d, z, ne, k _ _ (.inl rfl) e, mA, ⟨od, es, ep, k _ _ (.inr d) e2, c⟩, r⟩
  | own y => obtain ⟨ob, e⟩ := x; exact ⟨ob, k _ _ (.inl rfl) e⟩
  | xd fs => obtain ⟨mA, ⟨od, es, ep, e, c⟩, r⟩ := x; exact ⟨mA, ⟨od, es, ep, k _ _ (.inl rfl) e, c⟩, r⟩
  | rng lo hi => obtain ⟨t, u, v, e⟩ := x; exact ⟨t, u, v, k _ _ (.inl rfl) e⟩
  | frz ob u ih => obtain ⟨e, q⟩ := x; exact ⟨k _ _ (.inl rfl) e, ih q⟩
  | tbl ps =>
    have e : h.get? a = some { cls := .none, data := .fields ps } := x
    show h'.get? a = some { cls := .none, data := .fields ps }
    exact k a _ (.inl rfl) e
  | met f y =>
    have e : h.get? a = some (PySem.W.methodObj (.ref f) (.ref y)) := x
    show h'.get? a = some (PySem.W.methodObj (.ref f) (.ref y))
    exact k a _ (.inl rfl) e
  | ext φ => obtain ⟨p, ⟨o, e⟩, st⟩ := x; exact ⟨st _ _ p fun o q => k _ _ (.inl rfl) q, ⟨o, k _ _ (.inl rfl) e⟩, st⟩
theorem HOk.lt (x : HOk P w H h) (e : H a = some o) : a < h.objs.size := (x a o e).lt
theorem HOk.fresh (x : HOk P w H h) (e : h.objs.size ≤ a) : H a = none := by
  cases q : H a with
  | none => rfl
  | some u => exact absurd (Nat.lt_of_lt_of_le (x.lt q) e) (Nat.lt_irrefl _)
/-- every object of the heap is kept -/
theorem HOk.kept (x : HOk P w H h) (k : ∀ b u, h.get? b = some u → h'.get? b = some u) : HOk P w H h' := fun a o e =>
  (x a o e).stay (fun b u _ q => k b u q) (fun _ q => q) fun _ _ q => q
/-- a new object is laid and tracked -/
theorem HOk.laid (x : HOk P w H h) (k : ∀ b u, h.get? b = some u → h'.get? b = some u) (hp : h.objs.size ≤ a) (new : ObjOk P w (upd H a o) h' a o) : HOk P w (upd H a o) h' := fun b u e => by
  have hn := x.fresh hp
  by_cases hb : b = a
  · subst hb; rw [upd_same] at e; cases e; exact new
  · rw [upd_ne hb] at e
    exact (x b u e).stay (fun c v _ q => k c v q) (fun c q => by rw [upd_ne (ne_of_none q hn)]; exact q) fun c xs q => by rw [upd_ne (ne_of_none q hn)]; exact q
end

/-- what may be read as u: it is u, or a known u -/
def Rd (H : Hp) (a : Addr) (u : HO) : Prop := H a = some u ∨ ∃ o, H a = some (.frz o u)
theorem Rd.of {H : Hp} {a : Addr} {u : HO} (h : H a = some u) : Rd H a u := .inl h
theorem Rd.ok {P : Program} {w : World} {H : Hp} {h : Heap} {a : Addr} {u : HO} (r : Rd H a u) (x : HOk P w H h) : ObjOk P w H h a u := by
  rcases r with r | ⟨o, r⟩
  · exact x a u r
  · obtain ⟨_, q⟩ := x a _ r
    exact q
/-- what may be written -/
def Mut : Option HO → Prop
  | some (.lst _) => True
  | some (.dK _) => True
  | some (.dT _) => True
  | some (.set _ _) => True
  | some (.ins _ _ _) => True
  | some (.ext _) => True
  | _ => False
section
variable {P : Program} {w : World} {H : Hp} {h h' : Heap} {x e : Addr} {o' : HO}
/-- the object at e is changed: x itself, or the dict of the instance x -/
theorem HOk.write (ok : HOk P w H h) (mu : Mut (H x)) (he : e = x ∨ H e = some (.own x)) (k : ∀ b u, b ≠ e → h.get? b = some u → h'.get? b = some u) (heo : ∃ u, h'.get? e = some u)
    (new : ObjOk P w (upd H x o') h' x o') : HOk P w (upd H x o') h' := fun b u q => by
  have nown : ∀ c y, H c = some (.own y) → c ≠ x := fun c y r z => by subst z; rw [r] at mu; exact mu
  have ntup : ∀ c xs, H c = some (.tup xs) → c ≠ x := fun c xs r z => by subst z; rw [r] at mu; exact mu
  by_cases hb : b = x
  · subst hb; rw [upd_same] at q; cases q; exact new
  · rw [upd_ne hb] at q
    by_cases hbe : b = e
    · have q' : H b = some (.own x) := by
        rcases he with z | z
        · exact absurd (hbe.trans z) hb
        · rw [hbe]; exact z
      rw [q] at q'; cases q'
      obtain ⟨v, hv⟩ := heo
      exact ⟨v, by rw [hbe]; exact hv⟩
    · refine (ok b u q).stay (fun c v hc r => k c v ?_ r) (fun c r => by rw [upd_ne (nown c b r)]; exact r) fun c xs r => by rw [upd_ne (ntup c xs r)]; exact r
      rcases hc with rfl | hc
      · exact hbe
      · rintro rfl
        rcases he with z | z
        · exact nown c b hc z
        · rw [hc] at z; cases z; exact hb rfl
end

/-! ### kept unless tracked; of the frames at fs (the callers') the slots may change (an exception that passes writes there); of the records at ex (iterators) nothing is said -/
structure Un (fs ex : List Addr) (H H' : Hp) (h h' : Heap) : Prop where
  keep : ∀ b o, h.get? b = some o → H b = none → b ∉ fs → b ∉ ex → h'.get? b = some o
  slot : ∀ b o, h.get? b = some o → H b = none → b ∈ fs → b ∉ ex → ∃ sl, h'.get? b = some { o with slots := sl }
  free : ∀ b o, h.get? b = some o → H b = none → b ∉ ex → H' b = none
  there : ∀ b o, h.get? b = some o → b ∉ ex → ∃ o', h'.get? b = some o'
  tups : ∀ b xs, H b = some (.tup xs) → H' b = some (.tup xs)
  frzs : ∀ b o u, H b = some (.frz o u) → H' b = some (.frz o u)
  tbls : ∀ b ps, H b = some (.tbl ps) → ∃ more, H' b = some (.tbl (ps ++ more))
section
variable {fs fs' ex ex' : List Addr} {H H1 H2 : Hp} {h h1 h2 h' : Heap} {a x e : Addr} {o : HO}
theorem Un.any (u : Un fs ex H H1 h h1) {b : Addr} {ob : Obj} (q : h.get? b = some ob) (n : H b = none) (hx : b ∉ ex) : ∃ sl, h1.get? b = some { ob with slots := sl } := by
  by_cases hb : b ∈ fs
  · exact u.slot b ob q n hb hx
  · exact ⟨ob.slots, u.keep b ob q n hb hx⟩
theorem Un.trans (a : Un fs ex H H1 h h1) (b : Un fs ex H1 H2 h1 h2) : Un fs ex H H2 h h2 where
  keep := fun c ob q n hc hx => b.keep c ob (a.keep c ob q n hc hx) (a.free c ob q n hx) hc hx
  slot := fun c ob q n hc hx => by
    obtain ⟨sl, e1⟩ := a.slot c ob q n hc hx
    obtain ⟨sl', e2⟩ := b.slot c _ e1 (a.free c ob q n hx) hc hx
    exact ⟨sl', e2⟩
  free := fun c ob q n hx => by
    obtain ⟨o', e1⟩ := a.there c ob q hx
    exact b.free c o' e1 (a.free c ob q n hx) hx
  there := fun c ob q hx => by
    obtain ⟨o', e1⟩ := a.there c ob q hx
    exact b.there c o' e1 hx
  tups := fun c xs q => b.tups c xs (a.tups c xs q)
  frzs := fun c ob xs q => b.frzs c ob xs (a.frzs c ob xs q)
  tbls := fun c ps q => by
    obtain ⟨m1, e1⟩ := a.tbls c ps q
    obtain ⟨m2, e2⟩ := b.tbls c _ e1
    exact ⟨m1 ++ m2, by rw [e2, Array.append_assoc]⟩
theorem Un.kept (k : ∀ b u, h.get? b = some u → h'.get? b = some u) : Un fs ex H H h h' :=
  ⟨fun b ob q _ _ _ => k b ob q, fun b ob q _ _ _ => ⟨ob.slots, k b ob q⟩, fun _ _ _ n _ => n, fun b ob q _ => ⟨ob, k b ob q⟩, fun _ _ q => q, fun _ _ _ q => q, fun _ ps q => ⟨#[], by rw [q]; simp⟩⟩
theorem Un.refl : Un fs ex H H h h := Un.kept fun _ _ q => q
theorem Un.laid (k : ∀ b u, h.get? b = some u → h'.get? b = some u) (hp : h.objs.size ≤ a) (hn : H a = none) : Un fs ex H (upd H a o) h h' where
  keep := fun b u q _ _ _ => k b u q
  slot := fun b u q _ _ _ => ⟨u.slots, k b u q⟩
  free := fun b u q n _ => by rw [upd_ne (Nat.ne_of_lt (Nat.lt_of_lt_of_le (Heap.lt_size q) hp))]; exact n
  there := fun b u q _ => ⟨u, k b u q⟩
  tups := fun b xs q => by rw [upd_ne (ne_of_none q hn)]; exact q
  frzs := fun b u xs q => by rw [upd_ne (ne_of_none q hn)]; exact q
  tbls := fun b ps q => ⟨#[], by rw [upd_ne (ne_of_none q hn), q]; simp⟩
theorem Un.write (mu : Mut (H x)) (he : e = x ∨ H e = some (.own x)) (k : ∀ b u, b ≠ e → h.get? b = some u → h'.get? b = some u) (heo : ∃ u, h'.get? e = some u) : Un fs ex H (upd H x o) h h' := by
  have hx : ∀ b, H b = none → b ≠ x := fun b n z => by subst z; rw [n] at mu; exact mu
  have hb : ∀ b, H b = none → b ≠ e := fun b n z => by
    subst z
    rcases he with r | r
    · exact hx b n r
    · rw [n] at r; cases r
  have hm : ∀ b u, H b = some u → ¬ Mut (some u) → b ≠ x := fun b u q nm z => by subst z; rw [q] at mu; exact nm mu
  refine ⟨fun b u q n _ _ => k b u (hb b n) q, fun b u q n _ _ => ⟨u.slots, k b u (hb b n) q⟩, fun b u q n _ => by rw [upd_ne (hx b n)]; exact n, fun b u q _ => ?_,
    fun b xs q => by rw [upd_ne (hm b _ q fun z => z)]; exact q, fun b u xs q => by rw [upd_ne (hm b _ q fun z => z)]; exact q, fun b ps q => ⟨#[], by rw [upd_ne (hm b _ q fun z => z), q]; simp⟩⟩
  by_cases hbe : b = e
  · subst hbe; exact heo
  · exact ⟨u, k b u hbe q⟩
theorem Un.mono (u : Un fs ex H H1 h h1) (hs : ∀ b ∈ fs, b ∈ fs') (hx : ∀ b ∈ ex, b ∈ ex') : Un fs' ex' H H1 h h1 :=
  ⟨fun b ob q n hb he => u.keep b ob q n (fun z => hb (hs b z)) fun z => he (hx b z), fun _ _ q n _ he => u.any q n fun z => he (hx _ z), fun b ob q n he => u.free b ob q n fun z => he (hx b z), fun b ob q he => u.there b ob q fun z => he (hx b z), u.tups, u.frzs, u.tbls⟩
end

/-! ### the heap without what is tracked -/
def trk (h : Heap) (H : Hp) : List Addr := (List.range h.objs.size).filter fun a => (H a).isSome
def hidT (h : Heap) (H : Hp) : Heap := PySem.W.hideAll h (trk h H)
theorem hidT_size (h : Heap) (H : Hp) : (hidT h H).objs.size = h.objs.size := PySem.W.hideAll_size _ _
theorem hidT_get {h : Heap} {H : Hp} {b : Addr} {o : Obj} (e : h.get? b = some o) (n : H b = none) : (hidT h H).get? b = some o :=
  PySem.W.hideAll_get _ e fun hm => by
    have q : (H b).isSome = true := (List.mem_filter.mp hm).2
    rw [n] at q; simp at q
theorem of_hidT {h : Heap} {H : Hp} {b : Addr} {o : Obj} (e : (hidT h H).get? b = some o) : h.get? b = some o ∧ H b = none := by
  have e' : h.get? b = some o := PySem.W.of_hideAll (trk h H) e
  refine ⟨e', ?_⟩
  cases q : H b with
  | none => rfl
  | some x =>
    have hm : b ∈ trk h H := List.mem_filter.mpr ⟨List.mem_range.mpr (Heap.lt_size e'), by simp [q]⟩
    have z : (hidT h H).get? b = none := PySem.W.hideAll_none (trk h H) hm
    rw [z] at e; cases e

/-! ### OpenK's ledger, filled with every new object but one -/
def allNews (g h : Heap) (L : Addr) : List (Addr × Obj) := (List.range h.objs.size).filterMap fun a => if a = L ∨ (g.get? a).isSome = true then none else (h.get? a).map fun o => (a, o)
theorem mem_allNews {g h : Heap} {L a : Addr} {o : Obj} (h1 : a ≠ L) (h2 : g.get? a = none) (h3 : h.get? a = some o) : (a, o) ∈ allNews g h L :=
  List.mem_filterMap.mpr ⟨a, List.mem_range.mpr (Heap.lt_size h3), by simp [h1, h2, h3]⟩
theorem of_mem_allNews {g h : Heap} {L : Addr} {p : Addr × Obj} (hp : p ∈ allNews g h L) : p.1 ≠ L ∧ g.get? p.1 = none ∧ h.get? p.1 = some p.2 := by
  obtain ⟨b, _, e⟩ := List.mem_filterMap.mp hp
  split at e
  · cases e
  · rename_i hn
    cases q : h.get? b with
    | none => rw [q] at e; simp at e
    | some u =>
      rw [q] at e
      simp only [Option.map_some, Option.some.injEq] at e
      subst e
      refine ⟨fun z => hn (.inl z), ?_, q⟩
      show g.get? b = none
      cases r : g.get? b with
      | none => rfl
      | some v => exact (hn (.inr (by simp [r]))).elim
def rest (g h : Heap) (L d : Addr) : List (Addr × Obj) := (allNews g h L).filter fun p => decide (p.1 ≠ d)
theorem rest_ne {g h : Heap} {L d : Addr} : ∀ p ∈ rest g h L d, p.1 ≠ d := fun p hp => of_decide_eq_true (List.mem_filter.mp hp).2
theorem mem_rest {g h : Heap} {L d a : Addr} {o : Obj} (h1 : a ≠ L) (h2 : g.get? a = none) (h3 : h.get? a = some o) (h4 : a ≠ d) : (a, o) ∈ rest g h L d :=
  List.mem_filter.mpr ⟨mem_allNews h1 h2 h3, decide_eq_true h4⟩
theorem news_all {g h : Heap} {L : Addr} : News g L h (allNews g h L) := fun p hp => let ⟨a, b, c⟩ := of_mem_allNews hp; ⟨c, a, b⟩
theorem news_at {g h : Heap} {L d : Addr} {o : Obj} (h1 : d ≠ L) (h2 : g.get? d = none) (h3 : h.get? d = some o) : News g L h ((d, o) :: rest g h L d) := fun p hp => by
  rcases List.mem_cons.mp hp with rfl | hp
  · exact ⟨h3, h1, h2⟩
  · exact news_all p (List.mem_filter.mp hp).1
/-- behind a rule that changed d alone: all else but the frame is kept -/
theorem kept_of_news {g h h' : Heap} {L d : Addr} {m : Str → Option Value} (k : ∀ b o, g.get? b = some o → h.get? b = some o) (F : Fr g L h' m) (N : News g L h' (rest g h L d)) :
    ∀ b o, b ≠ L → b ≠ d → h.get? b = some o → h'.get? b = some o := fun b o h1 h2 e => by
  cases q : g.get? b with
  | some u =>
    have := k b u q
    rw [e] at this; cases this
    exact F.keep b _ q
  | none => exact (N (b, o) (mem_rest h1 q e h2)).1
end L2

namespace L2
open PySem PySem.Spec PyProof.Rows

/-- the module's facts, over the base: the heap at the law's entry without what is tracked there -/
structure Mod (K : PySem.W.Frag) (mg : Str → Option Value) (base : Heap) : Prop where
  kin : K.In base
  glob : base.Ns mainGlobals mg
  blt : ∃ mb, base.Ns builtinsNs mb ∧ ∀ x : Str, x ≠ "__name__" → mb x = bootBuiltins x
  nolimit : base.NoLimit

/-- the context: a def's body (or a comprehension's block) running. base: fixed through the whole law; s₀, H₀: the entry; outer: the frames whose slots others may change (a def's callers); stack: all frames that run;
   ex: iterators that were made ahead of the entry and are walked here (a comprehension's); fn: the names whose cells were made at the entry (a def: all; a comprehension's block: its own); calm: not within an except suite; pn: pins that every state bears; xe: what is wanted of an exception that leaves the code -/
structure Cx where
  prog : Program
  w : World
  K : PySem.W.Frag
  mg : Str → Option Value
  base : Heap
  A : Around
  N : List Str
  s_0 : Shared
  H_0 : Hp
  env : Env
  outer : List Env
  stack : List Env
  ex : List Addr
  fn : Str → Bool
  calm : Bool
  pn : List (Addr × Obj)
  xe : Value → Shared → Prop
/-- the callers' frames -/
def frs (l : List Env) : List Addr := l.filterMap (·.frame)
abbrev Cx.fs (X : Cx) : List Addr := frs X.outer

def Vis (sc : Scope) (x : Str) : Prop := sc.names.lookup x = some .local ∨ sc.names.lookup x = some .cell ∨ sc.names.lookup x = some .free
def Loc (sc : Scope) (x : Str) : Prop := sc.names.lookup x = some .local ∨ sc.names.lookup x = some .cell
def Look (env : Env) (h : Heap) (m : Str → Option Value) (x : Str) (u : Value) : Prop :=
  (env.kindOf x = some .local ∧ m x = some u) ∨ ((env.kindOf x = some .cell ∨ env.kindOf x = some .free) ∧ ∃ c, env.cells.lookup x = some c ∧ h.IsCell c (some u))

structure Cx.Ok (X : Cx) : Prop where
  mod : Mod X.K X.mg X.base
  kind : X.env.scope.kind = .function
  glob : X.env.globals = mainGlobals
  blt : X.env.builtins = builtinsNs
  above : X.s_0.heap.objs.size ≤ X.env.locals
  inj : ∀ x y c, X.env.cells.lookup x = some c → X.env.cells.lookup y = some c → x = y
  has : ∀ x, (X.env.kindOf x = some .cell ∨ X.env.kindOf x = some .free) → ∃ c, X.env.cells.lookup x = some c
  cab : ∀ x c, X.fn x = true → X.env.cells.lookup x = some c → X.s_0.heap.objs.size ≤ c
  hd : X.calm = true → X.A.handled = none
  frames : X.A.frames = some X.stack
  stk : X.stack = X.outer ∨ (X.stack = X.env :: X.outer ∧ X.env.frame = some X.env.locals)
  exf : ∀ b ∈ X.ex, b ≠ X.env.locals ∧ ∀ x c, X.env.cells.lookup x = some c → c ≠ b
  bs : ∀ b o, X.base.get? b = some o → X.s_0.heap.get? b = some o ∧ X.H_0 b = none
  bsz : X.base.objs.size ≤ X.s_0.heap.objs.size
  noex : ∀ b o, X.base.get? b = some o → b ∉ X.ex
  exfs : ∀ b ∈ X.ex, b ∉ X.fs
  funs : X.s_0.heap.FunFrames X.base X.outer
  frf : ∀ b ∈ X.fs, X.H_0 b = none

structure Inv (X : Cx) (pins : List (Addr × Obj)) (σ : List (Option V)) (H : Hp) (s : Shared) : Prop where
  ok : X.Ok
  os : s.os = X.s_0.os
  bare : AllBare s.gens
  base : Un X.fs X.ex X.H_0 H X.s_0.heap s.heap
  loc : ∃ m, s.heap.Ns X.env.locals m ∧ ∀ (i : Nat) (x : Str) (v : V), X.N[i]? = some x → σ[i]? = some (some v) → Vis X.env.scope x → ∃ u, RelV v u ∧ Look X.env s.heap m x u
  cell : ∀ x c, X.env.cells.lookup x = some c → ∃ v, s.heap.IsCell c v
  free : H X.env.locals = none
  freeC : ∀ x c, X.env.cells.lookup x = some c → H c = none
  pin : ∀ p ∈ X.pn ++ pins, s.heap.get? p.1 = some p.2 ∧ H p.1 = none ∧ p.1 ≠ X.env.locals ∧ p.1 ∉ X.fs ∧ ∀ v, p.2.data ≠ .cell v
  hok : HOk X.prog X.w H s.heap
  len : σ.length = X.N.length

section
variable {X : Cx} {pins : List (Addr × Obj)} {σ : List (Option V)} {H H' : Hp} {s : Shared} {h' : Heap}

theorem Cx.Ok.nofr (ok : X.Ok) {b : Addr} {o : Obj} (e : X.base.get? b = some o) : b ∉ X.fs := fun hb => by
  have := (ok.funs.mem hb).1
  rw [e] at this; cases this
theorem Inv.bs (I : Inv X pins σ H s) : ∀ b o, X.base.get? b = some o → s.heap.get? b = some o ∧ H b = none := fun b o e =>
  ⟨I.base.keep b o (I.ok.bs b o e).1 (I.ok.bs b o e).2 (I.ok.nofr e) (I.ok.noex b o e), I.base.free b o (I.ok.bs b o e).1 (I.ok.bs b o e).2 (I.ok.noex b o e)⟩
theorem Inv.bk (I : Inv X pins σ H s) : ∀ b o, X.base.get? b = some o → s.heap.get? b = some o := fun b o e => (I.bs b o e).1
theorem Inv.mod (I : Inv X pins σ H s) : Mod X.K X.mg X.base := I.ok.mod
theorem Inv.kIn (I : Inv X pins σ H s) : X.K.In s.heap := I.ok.mod.kin.keeps I.bk
theorem Inv.nolimit (I : Inv X pins σ H s) : s.heap.NoLimit := I.ok.mod.nolimit.keeps I.bk
/-- the frame over the base: for OpenK's rules (K.In X.base is I.mod.kin) -/
theorem Inv.fr (I : Inv X pins σ H s) : ∃ m, Fr X.base X.env.locals s.heap m :=
  let ⟨m, hn, _⟩ := I.loc
  ⟨m, hn, I.bk, Nat.le_trans I.ok.bsz I.ok.above⟩
theorem Inv.lt (I : Inv X pins σ H s) : X.env.locals < s.heap.objs.size := let ⟨_, hn, _⟩ := I.loc; hn.lt
theorem Inv.sz (I : Inv X pins σ H s) : X.s_0.heap.objs.size ≤ s.heap.objs.size := Nat.le_trans I.ok.above (Nat.le_of_lt I.lt)
theorem Inv.nofs (I : Inv X pins σ H s) {a : Addr} (h : s.heap.objs.size ≤ a) : a ∉ X.fs := fun hb => by
  obtain ⟨_, o, ho, _⟩ := I.ok.funs.mem hb
  exact absurd (Nat.lt_of_lt_of_le (Heap.lt_size ho) (Nat.le_trans I.sz h)) (Nat.lt_irrefl _)
theorem Inv.cne (I : Inv X pins σ H s) : ∀ x c, X.env.cells.lookup x = some c → c ≠ X.env.locals := fun x c e z => by
  obtain ⟨v, o, ho, hd⟩ := I.cell x c e
  obtain ⟨m, ⟨o', es, ep, ho', hd', _⟩, _⟩ := I.loc
  rw [z, ho'] at ho; cases ho; rw [hd'] at hd; cases hd
theorem Inv.funs (I : Inv X pins σ H s) : s.heap.FunFrames X.base X.outer := by
  have all : ∀ (l : List Env), (∀ b ∈ frs l, b ∈ X.fs) → X.s_0.heap.FunFrames X.base l → s.heap.FunFrames X.base l := by
    intro l
    induction l with
    | nil => intro _ _; trivial
    | cons env r ih =>
      intro hs hl
      obtain ⟨hk, ⟨L, o, hf, hn, ho, hd⟩, hr⟩ := hl
      have hL : L ∈ X.fs := hs L (by unfold frs; rw [List.filterMap_cons, hf]; exact List.mem_cons_self)
      obtain ⟨sl, e⟩ := I.base.slot L o ho (I.ok.frf L hL) hL fun z => I.ok.exfs L z hL
      exact ⟨hk, ⟨L, _, hf, hn, e, hd⟩, ih (fun b hb => hs b (by unfold frs; rw [List.filterMap_cons, hf]; exact List.mem_cons_of_mem _ hb)) hr⟩
  exact all X.outer (fun _ hb => hb) I.ok.funs

/-- the frames that run, for a call -/
theorem Inv.stack (I : Inv X pins σ H s) : s.heap.FunFrames X.base X.stack := by
  rcases I.ok.stk with e | ⟨e, hf⟩
  · rw [e]; exact I.funs
  · rw [e]
    obtain ⟨m, hn, _⟩ := I.loc
    refine .cons (by rw [I.ok.kind]; decide) hf hn ?_ I.funs
    exact Heap.get?_none_of_le (Nat.le_trans I.ok.bsz I.ok.above)
theorem Inv.stkSub (I : Inv X pins σ H s) : ∀ b ∈ frs X.stack, b ∈ X.env.locals :: X.fs := fun b hb => by
  rcases I.ok.stk with e | ⟨e, hf⟩
  · rw [e] at hb; exact List.mem_cons_of_mem _ hb
  · rw [e] at hb
    unfold frs at hb
    rw [List.filterMap_cons, hf] at hb
    exact hb
theorem Inv.stkFree (I : Inv X pins σ H s) : ∀ b ∈ frs X.stack, H b = none := fun b hb => by
  rcases List.mem_cons.mp (I.stkSub b hb) with e | hb
  · rw [e]; exact I.free
  · obtain ⟨_, o, ho, _⟩ := I.ok.funs.mem hb
    exact I.base.free b o ho (I.ok.frf b hb) fun z => I.ok.exfs b z hb

/-- THE STEP: the untracked objects but the frame and the records at ch are kept (the callers' frames up to slots), the frame's map is kept, the new abstract heap is held -/
theorem Inv.step {g' : Array GenState} {t' : Nat} {d' : Drawn} {ch : List Addr} (I : Inv X pins σ H s)
    (hch : ∀ b ∈ ch, (b ∈ X.ex ∨ X.s_0.heap.objs.size ≤ b) ∧ b ≠ X.env.locals ∧ (∀ x c, X.env.cells.lookup x = some c → c ≠ b) ∧ ∀ p ∈ X.pn ++ pins, p.1 ≠ b)
    (keep : ∀ b o, b ≠ X.env.locals → b ∉ X.fs → b ∉ ch → s.heap.get? b = some o → H b = none → h'.get? b = some o)
    (slot : ∀ b o, b ≠ X.env.locals → b ∈ X.fs → b ∉ ch → s.heap.get? b = some o → H b = none → ∃ sl, h'.get? b = some { o with slots := sl }) (free : ∀ b o, b ∉ ch → s.heap.get? b = some o → H b = none → H' b = none)
    (there : ∀ b o, b ∉ ch → s.heap.get? b = some o → ∃ o', h'.get? b = some o')
    (tups : ∀ b xs, H b = some (.tup xs) → H' b = some (.tup xs)) (frzs : ∀ b o u, H b = some (.frz o u) → H' b = some (.frz o u)) (tbls : ∀ b ps, H b = some (.tbl ps) → ∃ more, H' b = some (.tbl (ps ++ more)))
    (ns : ∀ m, s.heap.Ns X.env.locals m → h'.Ns X.env.locals m) (hok : HOk X.prog X.w H' h') (hg : AllBare g') :
    Inv X pins σ H' { s with heap := h', gens := g', drawn := d', toks := t' } := by
  have neL : ∀ b o, X.s_0.heap.get? b = some o → b ≠ X.env.locals := fun b o e => Nat.ne_of_lt (Nat.lt_of_lt_of_le (Heap.lt_size e) I.ok.above)
  have neC : ∀ b o, X.s_0.heap.get? b = some o → b ∉ X.ex → b ∉ ch := fun b o e hx hb => by
    rcases (hch b hb).1 with z | z
    · exact hx z
    · exact absurd (Nat.lt_of_lt_of_le (Heap.lt_size e) z) (Nat.lt_irrefl _)
  have cellK : ∀ x c, X.env.cells.lookup x = some c → ∀ v, s.heap.IsCell c v → h'.IsCell c v := fun x c e v ⟨o, ho, hd⟩ => by
    have nch : c ∉ ch := fun z => (hch c z).2.2.1 x c e rfl
    by_cases hc : c ∈ X.fs
    · obtain ⟨sl, q⟩ := slot c o (I.cne x c e) hc nch ho (I.freeC x c e)
      exact ⟨_, q, hd⟩
    · exact ⟨o, keep c o (I.cne x c e) hc nch ho (I.freeC x c e), hd⟩
  refine ⟨I.ok, I.os, hg, ⟨fun b o e n hb hx => ?_, fun b o e n hb hx => ?_, fun b o e n hx => ?_, fun b o e hx => ?_, fun b xs e => tups b xs (I.base.tups b xs e), fun b o xs e => frzs b o xs (I.base.frzs b o xs e), fun b ps e => ?_⟩, ?_, fun x c e => ?_, ?_, fun x c e => ?_, fun p hp => ?_, hok, I.len⟩
  · exact keep b o (neL b o e) hb (neC b o e hx) (I.base.keep b o e n hb hx) (I.base.free b o e n hx)
  · obtain ⟨sl, e1⟩ := I.base.slot b o e n hb hx
    obtain ⟨sl', e2⟩ := slot b _ (neL b o e) hb (neC b o e hx) e1 (I.base.free b o e n hx)
    exact ⟨sl', e2⟩
  · obtain ⟨o', e1⟩ := I.base.there b o e hx
    exact free b o' (neC b o e hx) e1 (I.base.free b o e n hx)
  · obtain ⟨o', e1⟩ := I.base.there b o e hx
    exact there b o' (neC b o e hx) e1
  · obtain ⟨m1, e1⟩ := I.base.tbls b ps e
    obtain ⟨m2, e2⟩ := tbls b _ e1
    exact ⟨m1 ++ m2, by rw [e2, Array.append_assoc]⟩
  · obtain ⟨m, hn, hl⟩ := I.loc
    refine ⟨m, ns m hn, fun i x v e1 e2 e3 => ?_⟩
    obtain ⟨u, r, l⟩ := hl i x v e1 e2 e3
    refine ⟨u, r, ?_⟩
    rcases l with l | ⟨k, c, e, z⟩
    · exact .inl l
    · exact .inr ⟨k, c, e, cellK x c e _ z⟩
  · obtain ⟨v, z⟩ := I.cell x c e
    exact ⟨v, cellK x c e v z⟩
  · obtain ⟨m, ⟨o, _, _, ho, _⟩, _⟩ := I.loc
    exact free _ o (fun z => (hch _ z).2.1 rfl) ho I.free
  · obtain ⟨v, o, ho, hd⟩ := I.cell x c e
    exact free c o (fun z => (hch c z).2.2.1 x c e rfl) ho (I.freeC x c e)
  · obtain ⟨e, n, ne, nf, d⟩ := I.pin p hp
    have nch : p.1 ∉ ch := fun z => (hch p.1 z).2.2.2 p hp rfl
    exact ⟨keep p.1 p.2 ne nf nch e n, free p.1 p.2 nch e n, ne, nf, d⟩
/-- .. where the frame's own object is kept too -/
theorem Inv.un {t' : Nat} (I : Inv X pins σ H s) (u : Un X.fs [] H H' s.heap h') (hok : HOk X.prog X.w H' h') : Inv X pins σ H' { s with heap := h', toks := t' } := by
  obtain ⟨m, ⟨o, es, ep, ho, r⟩, _⟩ := id I.loc
  obtain ⟨sl, hL⟩ := u.any ho I.free (by simp)
  exact I.step (g' := s.gens) (d' := s.drawn) (ch := []) (fun _ z => nomatch z) (fun b o _ hb _ e n => u.keep b o e n hb (by simp)) (fun b o _ hb _ e n => u.slot b o e n hb (by simp)) (fun b o _ e n => u.free b o e n (by simp)) (fun b o _ e => u.there b o e (by simp)) u.tups u.frzs u.tbls (fun m' hm => by
    obtain ⟨o', es', ep', ho', r'⟩ := hm
    rw [ho] at ho'; cases ho'
    exact ⟨_, es', ep', hL, r'⟩) hok I.bare
/-- behind a call (or a comprehension's block): the slots of this frame may have changed too, the records at ch may have turned -/
theorem Inv.call {g' : Array GenState} {t' : Nat} {d' : Drawn} {ch : List Addr} (I : Inv X pins σ H s) (u : Un (frs X.stack) ch H H' s.heap h') (hok : HOk X.prog X.w H' h') (hg : AllBare g')
    (hch : ∀ b ∈ ch, (b ∈ X.ex ∨ X.s_0.heap.objs.size ≤ b) ∧ b ≠ X.env.locals ∧ (∀ x c, X.env.cells.lookup x = some c → c ≠ b) ∧ ∀ p ∈ X.pn ++ pins, p.1 ≠ b) :
    Inv X pins σ H' { s with heap := h', gens := g', drawn := d', toks := t' } := by
  obtain ⟨m, ⟨o, es, ep, ho, r⟩, _⟩ := id I.loc
  obtain ⟨sl, hL⟩ := u.any ho I.free fun z => (hch _ z).2.1 rfl
  exact I.step (ch := ch) hch (fun b o hL hb hc e n => u.keep b o e n (fun z => (List.mem_cons.mp (I.stkSub b z)).elim hL hb) hc) (fun b o _ _ hc e n => u.any e n hc) (fun b o hc e n => u.free b o e n hc) (fun b o hc e => u.there b o e hc) u.tups u.frzs u.tbls (fun m' hm => by
    obtain ⟨o', es', ep', ho', r'⟩ := hm
    rw [ho] at ho'; cases ho'
    exact ⟨_, es', ep', hL, r'⟩) hok hg
/-- an untracked record of ours (an iterator) has turned -/
theorem Inv.turned {t' : Nat} {it : Addr} (I : Inv X pins σ H s) (k : ∀ b o, b ≠ it → s.heap.get? b = some o → h'.get? b = some o) (hn : H it = none) (hL : it ≠ X.env.locals)
    (h1 : it ∈ X.ex ∨ X.s_0.heap.objs.size ≤ it) (h2 : ∀ x c, X.env.cells.lookup x = some c → c ≠ it) (h3 : ∀ p ∈ X.pn ++ pins, p.1 ≠ it) : Inv X pins σ H { s with heap := h', toks := t' } := by
  have nit : ∀ b u, H b = some u → b ≠ it := fun b u e z => by rw [z, hn] at e; cases e
  refine I.step (g' := s.gens) (d' := s.drawn) (ch := [it]) (fun b hb => ?_) (fun b o _ _ hc e _ => k b o (fun z => hc (by simp [z])) e) (fun b o _ _ hc e _ => ⟨o.slots, k b o (fun z => hc (by simp [z])) e⟩) (fun _ _ _ _ n => n)
    (fun b o hc e => ⟨o, k b o (fun z => hc (by simp [z])) e⟩) (fun _ _ e => e) (fun _ _ _ e => e) (fun b ps e => ⟨#[], by rw [e]; simp⟩) (fun m hm => ?_) (fun b u e => ?_) I.bare
  · have e : b = it := by simpa using hb
    subst e
    exact ⟨h1, hL, h2, h3⟩
  · obtain ⟨o, es, ep, ho, r⟩ := hm
    exact ⟨o, es, ep, k _ o (Ne.symm hL) ho, r⟩
  · refine (I.hok b u e).stay (fun c v hc q => k c v ?_ q) (fun _ q => q) fun _ _ q => q
    rcases hc with z | z
    · rw [z]; exact nit b u e
    · exact nit c _ z
theorem Inv.tok (I : Inv X pins σ H s) (t : Nat) : Inv X pins σ H { s with toks := t } := I.un (h' := s.heap) (t' := t) Un.refl I.hok
/-- all objects kept -/
theorem Inv.kept {t' : Nat} (I : Inv X pins σ H s) (k : ∀ b u, s.heap.get? b = some u → h'.get? b = some u) : Inv X pins σ H { s with heap := h', toks := t' } := I.un (Un.kept k) (I.hok.kept k)
/-- a new object laid and tracked -/
theorem Inv.laid {a : Addr} {o : HO} {t' : Nat} (I : Inv X pins σ H s) (k : ∀ b u, s.heap.get? b = some u → h'.get? b = some u) (hp : s.heap.objs.size ≤ a) (new : ObjOk X.prog X.w (upd H a o) h' a o) :
    Inv X pins σ (upd H a o) { s with heap := h', toks := t' } := I.un (Un.laid k hp (I.hok.fresh hp)) (I.hok.laid k hp new)
/-- an object written -/
theorem Inv.write {x e : Addr} {o : HO} {t' : Nat} (I : Inv X pins σ H s) (mu : Mut (H x)) (he : e = x ∨ H e = some (.own x)) (k : ∀ b u, b ≠ e → s.heap.get? b = some u → h'.get? b = some u) (heo : ∃ u, h'.get? e = some u)
    (new : ObjOk X.prog X.w (upd H x o) h' x o) : Inv X pins σ (upd H x o) { s with heap := h', toks := t' } := I.un (Un.write mu he k heo) (I.hok.write mu he k heo new)
/-- forgetting slots, pins -/
theorem Inv.weak {σ' : List (Option V)} (I : Inv X pins σ H s) (hl : σ'.length = σ.length) (w : ∀ (i : Nat) v, σ'[i]? = some (some v) → σ[i]? = some (some v)) : Inv X pins σ' H s :=
  ⟨I.ok, I.os, I.bare, I.base, let ⟨m, hn, hl'⟩ := I.loc; ⟨m, hn, fun i x v e1 e2 e3 => hl' i x v e1 (w i v e2) e3⟩, I.cell, I.free, I.freeC, I.pin, I.hok, hl.trans I.len⟩
theorem Inv.pins_of {pins' : List (Addr × Obj)} (I : Inv X pins σ H s) (h : ∀ p ∈ pins', s.heap.get? p.1 = some p.2 ∧ H p.1 = none ∧ p.1 ≠ X.env.locals ∧ p.1 ∉ X.fs ∧ ∀ v, p.2.data ≠ .cell v) : Inv X pins' σ H s :=
  ⟨I.ok, I.os, I.bare, I.base, I.loc, I.cell, I.free, I.freeC, fun p hp => (List.mem_append.mp hp).elim (fun z => I.pin p (List.mem_append_left _ z)) (h p), I.hok, I.len⟩

theorem nodup_ix {N : List Str} (hN : N.Nodup) {i j : Nat} {x : Str} (a : N[i]? = some x) (b : N[j]? = some x) : i = j := by
  obtain ⟨h1, e1⟩ := List.getElem?_eq_some_iff.mp a
  obtain ⟨h2, e2⟩ := List.getElem?_eq_some_iff.mp b
  exact (List.getElem_inj hN).mp (e1.trans e2.symm)

/-- a name is stored; what changed -/
theorem store_ok2 {M : Model} {A : Around} {E : Value → Shared → Prop} {i : Nat} {x : Str} {v : V} {u : Value} {Q : Unit → Shared → Prop} (I : Inv X pins σ H s) (hN : X.N.Nodup) (hi : X.N[i]? = some x) (hx : Loc X.env.scope x) (r : RelV v u)
    (h : ∀ s', Inv X pins (σ.set i (some v)) H s' → (∃ a, Heap.SameBut a s.heap s'.heap ∧ (a = X.env.locals ∨ X.env.cells.lookup x = some a)) → Q () s') (hf : X.fn x = true ∨ X.env.scope.names.lookup x = some .local := by first | exact .inl rfl | exact .inr rfl | assumption) : wpAny M A (storeName X.env x u) Q E s := by
  obtain ⟨m, hn, hl⟩ := id I.loc
  have hcls : (X.env.scope.kind == .class || (X.env.scope.kind == .module && X.env.locals != X.env.globals)) = false := by rw [I.ok.kind]; rfl
  have hiσ : i < σ.length := by rw [I.len]; exact (List.getElem?_eq_some_iff.mp hi).1
  have cne := I.cne
  have tracked : ∀ {a : Addr} {h' : Heap}, (∃ o, s.heap.get? a = some o ∧ H a = none) → Heap.SameBut a s.heap h' → HOk X.prog X.w H h' := fun {a h'} ha hs b ob e => by
    obtain ⟨_, _, hfree⟩ := ha
    refine (I.hok b ob e).stay (fun c w' hc q => (hs.2 c ?_).trans q) (fun _ q => q) fun _ _ q => q
    rintro rfl
    rcases hc with rfl | hc
    · rw [hfree] at e; cases e
    · rw [hfree] at hc; cases hc
  rcases hx with hk | hk
  · refine wpAny_storeName_local hk hn (fun h' hn' hs => ?_) hcls
    obtain ⟨oL, _, _, hoL, _⟩ := id hn
    refine h _ ⟨I.ok, I.os, I.bare, ⟨fun b o e n hb hx => ?_, fun b o e n hb hx => ?_, I.base.free, fun b o e hx => ?_, I.base.tups, I.base.frzs, I.base.tbls⟩, ⟨_, hn', fun j y v' e1 e2 e3 => ?_⟩, fun y c e => ?_, I.free, I.freeC, fun p hp => ?_, tracked ⟨oL, hoL, I.free⟩ hs, by simpa using I.len⟩ ⟨_, hs, .inl rfl⟩
    · exact (hs.2 b (Nat.ne_of_lt (Nat.lt_of_lt_of_le (Heap.lt_size e) I.ok.above))).trans (I.base.keep b o e n hb hx)
    · obtain ⟨sl, e1⟩ := I.base.slot b o e n hb hx
      exact ⟨sl, (hs.2 b (Nat.ne_of_lt (Nat.lt_of_lt_of_le (Heap.lt_size e) I.ok.above))).trans e1⟩
    · obtain ⟨o', e1⟩ := I.base.there b o e hx
      exact ⟨o', (hs.2 b (Nat.ne_of_lt (Nat.lt_of_lt_of_le (Heap.lt_size e) I.ok.above))).trans e1⟩
    · by_cases hj : j = i
      · subst hj
        rw [hi] at e1; cases e1
        rw [List.getElem?_set_self hiσ] at e2
        cases e2
        exact ⟨u, r, .inl ⟨hk, by simp⟩⟩
      · rw [List.getElem?_set_ne (Ne.symm hj)] at e2
        obtain ⟨u', r', q⟩ := hl j y v' e1 e2 e3
        refine ⟨u', r', ?_⟩
        rcases q with ⟨k, e⟩ | ⟨k, c, e, z⟩
        · refine .inl ⟨k, ?_⟩
          have : y ≠ x := fun e => hj (nodup_ix hN e1 (e ▸ hi))
          simp [this, e]
        · exact .inr ⟨k, c, e, z.sameBut hs (cne y c e)⟩
    · obtain ⟨w', z⟩ := I.cell y c e
      exact ⟨w', z.sameBut hs (cne y c e)⟩
    · obtain ⟨e, n, ne, nf, d⟩ := I.pin p hp
      exact ⟨(hs.2 p.1 ne).trans e, n, ne, nf, d⟩
  · have hfn : X.fn x = true := by
      rcases hf with z | z
      · exact z
      · rw [z] at hk; cases hk
    obtain ⟨c, hc⟩ := I.ok.has x (.inl hk)
    obtain ⟨w', z⟩ := I.cell x c hc
    refine wpAny_storeName_cell I.ok.kind hk hc z (fun h' hc' hs => ?_)
    obtain ⟨oc, hoc, hocd⟩ := id z
    refine h { s with heap := h' } ⟨I.ok, I.os, I.bare, ⟨fun b o e n hb hx => ?_, fun b o e n hb hx => ?_, I.base.free, fun b o e hx => ?_, I.base.tups, I.base.frzs, I.base.tbls⟩, ⟨m, hn.sameBut hs (Ne.symm (cne x c hc)), fun j y v' e1 e2 e3 => ?_⟩, fun y c' e => ?_, I.free, I.freeC, fun p hp => ?_, tracked ⟨oc, hoc, I.freeC x c hc⟩ hs, by simpa using I.len⟩ ⟨c, hs, .inr hc⟩
    · exact (hs.2 b (Nat.ne_of_lt (Nat.lt_of_lt_of_le (Heap.lt_size e) (I.ok.cab x c hfn hc)))).trans (I.base.keep b o e n hb hx)
    · obtain ⟨sl, e1⟩ := I.base.slot b o e n hb hx
      exact ⟨sl, (hs.2 b (Nat.ne_of_lt (Nat.lt_of_lt_of_le (Heap.lt_size e) (I.ok.cab x c hfn hc)))).trans e1⟩
    · obtain ⟨o', e1⟩ := I.base.there b o e hx
      exact ⟨o', (hs.2 b (Nat.ne_of_lt (Nat.lt_of_lt_of_le (Heap.lt_size e) (I.ok.cab x c hfn hc)))).trans e1⟩
    · by_cases hj : j = i
      · subst hj
        rw [hi] at e1; cases e1
        rw [List.getElem?_set_self hiσ] at e2
        cases e2
        exact ⟨u, r, .inr ⟨.inl hk, c, hc, hc'⟩⟩
      · rw [List.getElem?_set_ne (Ne.symm hj)] at e2
        obtain ⟨u', r', q⟩ := hl j y v' e1 e2 e3
        refine ⟨u', r', ?_⟩
        rcases q with q | ⟨k, c', e, z'⟩
        · exact .inl q
        · refine .inr ⟨k, c', e, z'.sameBut hs ?_⟩
          rintro rfl
          exact hj (nodup_ix hN e1 (I.ok.inj _ _ _ e hc ▸ hi))
    · by_cases hcc : c' = c
      · subst hcc; exact ⟨_, hc'⟩
      · obtain ⟨w2, z2⟩ := I.cell y c' e
        exact ⟨w2, z2.sameBut hs hcc⟩
    · obtain ⟨e, n, ne, nf, d⟩ := I.pin p hp
      refine ⟨(hs.2 p.1 ?_).trans e, n, ne, nf, d⟩
      intro q
      rw [q, hoc] at e
      have q' : oc = p.2 := Option.some.inj e
      exact d w' (by rw [← q']; exact hocd)
theorem store_ok {M : Model} {A : Around} {E : Value → Shared → Prop} {i : Nat} {x : Str} {v : V} {u : Value} {Q : Unit → Shared → Prop} (I : Inv X pins σ H s) (hN : X.N.Nodup) (hi : X.N[i]? = some x) (hx : Loc X.env.scope x) (r : RelV v u)
    (h : ∀ s', Inv X pins (σ.set i (some v)) H s' → Q () s') (hf : X.fn x = true ∨ X.env.scope.names.lookup x = some .local := by first | exact .inl rfl | exact .inr rfl | assumption) : wpAny M A (storeName X.env x u) Q E s :=
  store_ok2 I hN hi hx r (fun s' I' _ => h s' I') hf
/-- behind a call or a block, the state as it is -/
theorem Inv.call' {s' : Shared} {ch : List Addr} (I : Inv X pins σ H s) (ho : s'.os = s.os) (u : Un (frs X.stack) ch H H' s.heap s'.heap) (hok : HOk X.prog X.w H' s'.heap) (hg : AllBare s'.gens)
    (hch : ∀ b ∈ ch, (b ∈ X.ex ∨ X.s_0.heap.objs.size ≤ b) ∧ b ≠ X.env.locals ∧ (∀ x c, X.env.cells.lookup x = some c → c ≠ b) ∧ ∀ p ∈ X.pn ++ pins, p.1 ≠ b) : Inv X pins σ H' s' := by
  obtain ⟨h', g', d', t', o'⟩ := s'
  have e : o' = s.os := ho
  subst e
  exact I.call (g' := g') (t' := t') (d' := d') u hok hg hch
end

/-! ### the judgements -/
/-- an exception: its class, its own dict's address (where it has one), the abstract heap behind it -/
abbrev XK := Value → Option Addr → Hp → Prop
abbrev St := List (Option V)
abbrev VK := V → Hp → Prop
/-- an expression's reading; a test's; an argument list's -/
abbrev TE := St → Hp → VK → Prop
abbrev TT := St → Hp → (Bool → Hp → Prop) → Prop
abbrev TA := St → Hp → (List V → Hp → Prop) → Prop
/-- what is wanted behind a statement -/
structure Ends where
  nx : St → Hp → Prop
  rt : VK
  bk : St → Hp → Prop := fun _ _ => False
  ct : St → Hp → Prop := fun _ _ => False
abbrev TS := Ends → St → Hp → Prop

def EP (X : Cx) (pins : List (Addr × Obj)) (σ : St) (Q : VK) (u : Value) (s' : Shared) : Prop := ∃ v H', Inv X pins σ H' s' ∧ RelV v u ∧ Q v H'
def TP (X : Cx) (pins : List (Addr × Obj)) (σ : St) (Q : Bool → Hp → Prop) (b : Bool) (s' : Shared) : Prop := ∃ H', Inv X pins σ H' s' ∧ Q b H'
def AP (X : Cx) (pins : List (Addr × Obj)) (σ : St) (Q : List V → Hp → Prop) (us : List Value) (s' : Shared) : Prop := ∃ vs H', Inv X pins σ H' s' ∧ Vals vs us ∧ Q vs H'
def SP (X : Cx) (pins : List (Addr × Obj)) (D : Ends) (f : Flow) (s' : Shared) : Prop :=
  match f with
  | .next => ∃ σ' H', Inv X pins σ' H' s' ∧ D.nx σ' H'
  | .brk => ∃ σ' H', Inv X pins σ' H' s' ∧ D.bk σ' H'
  | .cont => ∃ σ' H', Inv X pins σ' H' s' ∧ D.ct σ' H'
  | .ret u => ∃ v σ' H', Inv X pins σ' H' s' ∧ RelV v u ∧ D.rt v H'

def PE (X : Cx) (e : Expr) (t : TE) : Prop :=
  ∀ (pins : List (Addr × Obj)) (s : Shared) (σ : St) (H : Hp) (Q : VK), Inv X pins σ H s → t σ H Q → wpAny (model X.prog X.w) X.A (eval e X.env) (EP X pins σ Q) X.xe s
def PT (X : Cx) (e : Expr) (t : TT) : Prop :=
  ∀ (pins : List (Addr × Obj)) (s : Shared) (σ : St) (H : Hp) (Q : Bool → Hp → Prop), Inv X pins σ H s → t σ H Q → wpAny (model X.prog X.w) X.A (isTrue e X.env (eval e X.env)) (TP X pins σ Q) X.xe s
/-- a test whatever its 'whole' is (and, or) -/
def PW (X : Cx) (e : Expr) (t : TT) : Prop :=
  ∀ (whole : Sem Value) (pins : List (Addr × Obj)) (s : Shared) (σ : St) (H : Hp) (Q : Bool → Hp → Prop), Inv X pins σ H s → t σ H Q → wpAny (model X.prog X.w) X.A (isTrue e X.env whole) (TP X pins σ Q) X.xe s
theorem PW.pt {X : Cx} {e : Expr} {t : TT} (h : PW X e t) : PT X e t := h _
/-- an argument list (no star), from the left -/
def PA (X : Cx) (es : List Expr) (t : TA) : Prop :=
  ∀ (pos : Pos) (pins : List (Addr × Obj)) (s : Shared) (σ : St) (H : Hp) (Q : List V → Hp → Prop), Inv X pins σ H s → t σ H Q → wpAny (model X.prog X.w) X.A (spliced (backTo pos (starEach es X.env))) (AP X pins σ Q) X.xe s
def PS (X : Cx) (st : Stmt) (t : TS) : Prop :=
  ∀ (pins : List (Addr × Obj)) (s : Shared) (σ : St) (H : Hp) (D : Ends), Inv X pins σ H s → t D σ H → wpAny (model X.prog X.w) X.A (exec st X.env) (SP X pins D) X.xe s
def PSs (X : Cx) (st : List Stmt) (t : TS) : Prop :=
  ∀ (pins : List (Addr × Obj)) (s : Shared) (σ : St) (H : Hp) (D : Ends), Inv X pins σ H s → t D σ H → wpAny (model X.prog X.w) X.A (execs st X.env) (SP X pins D) X.xe s
/-- weaken the end -/
theorem thn {α : Type} {t : Sem α} {Q Q' : α → Shared → Prop} {M : Model} {A : Around} {E : Value → Shared → Prop} {s : Shared} (h : wpAny M A t Q E s) (hQ : ∀ a s, Q a s → Q' a s) : wpAny M A t Q' E s := wpAny_mono h hQ fun _ _ x => x
end L2

namespace L2
open PySem PySem.Spec PyProof.Rows
section
variable {X : Cx}

/-- two expressions in a row -/
theorem bin {a b : Expr} {ta tb : TE} (ha : PE X a ta) (hb : PE X b tb) {pins : List (Addr × Obj)} {s : Shared} {σ : St} {H : Hp} {R : V → V → Hp → Prop} (I : Inv X pins σ H s) (h : ta σ H fun x H1 => tb σ H1 fun y H2 => R x y H2)
    {α : Type} {Q : α → Shared → Prop} {f : Value → Value → Sem α}
    (hf : ∀ v u s2 x y H2, Inv X pins σ H2 s2 → RelV x v → RelV y u → R x y H2 → wpAny (model X.prog X.w) X.A (f v u) Q X.xe s2) :
    wpAny (model X.prog X.w) X.A (eval a X.env) (fun v s₁ => wpAny (model X.prog X.w) X.A (eval b X.env) (fun u s₂ => wpAny (model X.prog X.w) X.A (f v u) Q X.xe s₂) X.xe s₁) X.xe s := by
  refine thn (ha pins s σ H _ I h) fun v s1 ⟨x, H1, I1, r1, q1⟩ => ?_
  refine thn (hb pins s1 σ H1 _ I1 q1) fun u s2 ⟨y, H2, I2, r2, q2⟩ => ?_
  exact hf v u s2 x y H2 I2 r1 r2 q2

/-! ### names and constants -/
def tVar (i : Nat) : TE := fun σ H Q => ∃ v, σ[i]? = some (some v) ∧ Q v H
def tC (v : V) : TE := fun _ H Q => Q v H
theorem pe_var {i : Nat} {x : Str} {pos : Pos} (hN : X.N[i]? = some x) (hv : Vis X.env.scope x) (hd : (x == ("__debug__" : Str)) = false := by decide) (hcd : (x == ("__classdict__" : Str)) = false := by decide) : PE X (.Name x pos) (tVar i) := by
  intro pins s σ H Q I h
  obtain ⟨v, e, h⟩ := h
  obtain ⟨m, hn, hl⟩ := I.loc
  obtain ⟨u, r, l⟩ := hl i x v hN e hv
  have fin : EP X pins σ Q u s := ⟨v, H, I, r, h⟩
  rcases l with ⟨hk, hm⟩ | ⟨hk, c, hc, hcell⟩
  · exact wpAny_Name (wpAny_loadName_local I.ok.kind hk hn hm fin) hd
  · rcases hk with hk | hk
    · exact wpAny_Name (wpAny_loadName_cell I.ok.kind hk hc hcell fin) hd
    · exact wpAny_Name (wpAny_loadName_free I.ok.kind hk hc hcell fin hcd) hd
theorem pe_int {i j pos} : PE X (.Constant (.int i) j pos) (tC (.int i)) := fun _ _ _ H _ I h => wpAny_Constant_int ⟨.int i, H, I.tok _, ⟨_, rfl⟩, h⟩
theorem pe_bl {b j pos} : PE X (.Constant (.bool b) j pos) (tC (.bl b)) := fun _ _ _ H _ I h => Constant_bool ⟨.bl b, H, I, rfl, h⟩
theorem pe_non {j pos} : PE X (.Constant .none j pos) (tC .non) := fun _ _ _ H _ I h => Constant_none ⟨.non, H, I, rfl, h⟩
theorem pe_str {x j pos} : PE X (.Constant (.str x) j pos) (tC (.str x)) := fun _ _ _ H _ I h => Calls.Constant_str ⟨.str x, H, I.tok _, ⟨_, rfl⟩, h⟩

/-- a global name of the def -/
def Gl (X : Cx) (x : Str) : Prop := X.env.kindOf x = some .globalImplicit
theorem ld_glob {E : Value → Shared → Prop} {pins : List (Addr × Obj)} {s : Shared} {σ : St} {H : Hp} {x : Str} {u : Value} {pos : Pos} {Q : Value → Shared → Prop} (I : Inv X pins σ H s) (hg : Gl X x) (hm : X.mg x = some u) (h : Q u s)
    (hd : (x == ("__debug__" : Str)) = false := by decide) : wpAny (model X.prog X.w) X.A (eval (.Name x pos) X.env) Q E s :=
  Calls.Name_function_global I.ok.kind hg (Calls.loadGlobal_global (by rw [I.ok.glob]; exact I.mod.glob.keeps I.bk) hm h) hd
theorem ld_blt {E : Value → Shared → Prop} {pins : List (Addr × Obj)} {s : Shared} {σ : St} {H : Hp} {x : Str} {u : Value} {pos : Pos} {Q : Value → Shared → Prop} (I : Inv X pins σ H s) (hg : Gl X x) (hm : X.mg x = none) (hv : bootBuiltins x = some u) (h : Q u s)
    (hn : x ≠ "__name__" := by decide) (hd : (x == ("__debug__" : Str)) = false := by decide) : wpAny (model X.prog X.w) X.A (eval (.Name x pos) X.env) Q E s := by
  obtain ⟨mb, h1, h2⟩ := I.mod.blt
  exact Calls.Name_function_global I.ok.kind hg (Calls.loadGlobal_builtin (by rw [I.ok.glob]; exact I.mod.glob.keeps I.bk) hm (by rw [I.ok.blt]; exact h1.keeps I.bk) ((h2 x hn).trans hv) h) hd
/-- a module's constant, a class, a function, as a value -/
theorem pe_glob {x : Str} {v : V} {u : Value} {pos : Pos} (hg : Gl X x) (hm : X.mg x = some u) (r : RelV v u) (hd : (x == ("__debug__" : Str)) = false := by decide) : PE X (.Name x pos) (tC v) :=
  fun _ _ _ H _ I h => ld_glob I hg hm ⟨v, H, I, r, h⟩ hd
theorem pe_bltn {x : Str} {v : V} {u : Value} {pos : Pos} (hg : Gl X x) (hm : X.mg x = none) (hv : bootBuiltins x = some u) (r : RelV v u) (hn : x ≠ "__name__" := by decide) (hd : (x == ("__debug__" : Str)) = false := by decide) : PE X (.Name x pos) (tC v) :=
  fun _ _ _ H _ I h => ld_blt I hg hm hv ⟨v, H, I, r, h⟩ hn hd

/-! ### arithmetic -/
/-- two ints -/
def t2I (ta tb : TE) (k : Int → Int → Hp → Prop) : St → Hp → Prop := fun σ H => ta σ H fun x H1 => tb σ H1 fun y H2 => ∃ i j, x = .int i ∧ y = .int j ∧ k i j H2
def tAdd (ta tb : TE) : TE := fun σ H Q => t2I ta tb (fun i j H2 => Q (.int (i + j)) H2) σ H
def tSub (ta tb : TE) : TE := fun σ H Q => t2I ta tb (fun i j H2 => Q (.int (i - j)) H2) σ H
/-- the left factor below 2^64 -/
def tMul (ta tb : TE) : TE := fun σ H Q => t2I ta tb (fun i j H2 => (-(2 ^ 64) < i ∧ i < 2 ^ 64) ∧ Q (.int (i * j)) H2) σ H
variable {a b : Expr} {ta tb : TE} {pos : Pos}
theorem pe_add (ha : PE X a ta) (hb : PE X b tb) : PE X (.BinOp a .Add b pos) (tAdd ta tb) := by
  intro pins s σ H Q I h
  refine wpAny_BinOp (bin ha hb I h fun v u s2 x y H2 I2 rx ry q => ?_)
  obtain ⟨i, j, rfl, rfl, q⟩ := q
  obtain ⟨t, rfl⟩ := rx
  obtain ⟨t', rfl⟩ := ry
  exact add_int ⟨.int _, H2, I2.tok _, ⟨_, rfl⟩, q⟩
theorem pe_sub (ha : PE X a ta) (hb : PE X b tb) : PE X (.BinOp a .Sub b pos) (tSub ta tb) := by
  intro pins s σ H Q I h
  refine wpAny_BinOp (bin ha hb I h fun v u s2 x y H2 I2 rx ry q => ?_)
  obtain ⟨i, j, rfl, rfl, q⟩ := q
  obtain ⟨t, rfl⟩ := rx
  obtain ⟨t', rfl⟩ := ry
  exact sub_int ⟨.int _, H2, I2.tok _, ⟨_, rfl⟩, q⟩
theorem pe_mul (ha : PE X a ta) (hb : PE X b tb) : PE X (.BinOp a .Mult b pos) (tMul ta tb) := by
  intro pins s σ H Q I h
  refine wpAny_BinOp (bin ha hb I h fun v u s2 x y H2 I2 rx ry q => ?_)
  obtain ⟨i, j, rfl, rfl, ⟨q1, q2⟩, q⟩ := q
  obtain ⟨t, rfl⟩ := rx
  obtain ⟨t', rfl⟩ := ry
  exact mul_int ⟨.int _, H2, I2.tok _, ⟨_, rfl⟩, q⟩ (.of_left (intBits_le_64 q1 q2))

/-! ### comparisons -/
def PC (X : Cx) (op : CmpOp) (a b : Expr) (t : TE) : Prop :=
  ∀ (pins : List (Addr × Obj)) (s : Shared) (σ : St) (H : Hp) (Q : VK), Inv X pins σ H s → t σ H Q →
    wpAny (model X.prog X.w) X.A (eval a X.env) (fun v s₁ => wpAny (model X.prog X.w) X.A (eval b X.env) (fun u s₂ => wpAny (model X.prog X.w) X.A (compareOp op v u) (EP X pins σ Q) X.xe s₂) X.xe s₁) X.xe s
theorem nobehind (b : Expr) {op : CmpOp} (h : op ≠ .In) (h2 : op ≠ .NotIn) : behindInMarks op b = false := by
  have e1 : (op == CmpOp.In) = false := by cases op <;> first | rfl | exact absurd rfl h
  have e2 : (op == CmpOp.NotIn) = false := by cases op <;> first | rfl | exact absurd rfl h2
  cases b <;> simp [behindInMarks, e1, e2]
def tCmp (p : Int → Int → Bool) (ta tb : TE) : TE := fun σ H Q => t2I ta tb (fun i j H2 => Q (.bl (p i j)) H2) σ H
abbrev tLt : TE → TE → TE := tCmp fun i j => decide (i < j)
abbrev tLe : TE → TE → TE := tCmp fun i j => decide (i ≤ j)
abbrev tGt : TE → TE → TE := tCmp fun i j => decide (j < i)
abbrev tGe : TE → TE → TE := tCmp fun i j => decide (j ≤ i)
abbrev tEqI : TE → TE → TE := tCmp fun i j => decide (i = j)
abbrev tNeI : TE → TE → TE := tCmp fun i j => !decide (i = j)
/-- a comparison of two ints, by its rule -/
theorem pc_int {op : CmpOp} {p : Int → Int → Bool} (ha : PE X a ta) (hb : PE X b tb)
    (rule : ∀ (i j : Int) (t u : Tok) (Q : Value → Shared → Prop) (s : Shared), Q (.bool (p i j)) s → wpAny (model X.prog X.w) X.A (compareOp op (.int i t) (.int j u)) Q X.xe s) : PC X op a b (tCmp p ta tb) := by
  intro pins s σ H Q I h
  refine bin ha hb I h fun v u s2 x y H2 I2 rx ry q => ?_
  obtain ⟨i, j, rfl, rfl, q⟩ := q
  obtain ⟨t, rfl⟩ := rx
  obtain ⟨t', rfl⟩ := ry
  exact rule i j t t' _ s2 ⟨.bl _, H2, I2, rfl, q⟩
theorem pc_lt (ha : PE X a ta) (hb : PE X b tb) : PC X .Lt a b (tLt ta tb) := pc_int ha hb fun _ _ _ _ _ _ h => lt_int h
theorem pc_le (ha : PE X a ta) (hb : PE X b tb) : PC X .LtE a b (tLe ta tb) := pc_int ha hb fun _ _ _ _ _ _ h => le_int h
theorem pc_gt (ha : PE X a ta) (hb : PE X b tb) : PC X .Gt a b (tGt ta tb) := pc_int ha hb fun _ _ _ _ _ _ h => gt_int h
theorem pc_ge (ha : PE X a ta) (hb : PE X b tb) : PC X .GtE a b (tGe ta tb) := pc_int ha hb fun _ _ _ _ _ _ h => ge_int h
theorem pc_eqI (ha : PE X a ta) (hb : PE X b tb) : PC X .Eq a b (tEqI ta tb) := pc_int ha hb fun _ _ _ _ _ _ h => eq_int (by rw [Bool.beq_eq_decide_eq]; exact h)
theorem pc_neI (ha : PE X a ta) (hb : PE X b tb) : PC X .NotEq a b (tNeI ta tb) := pc_int ha hb fun _ _ _ _ _ _ h => ne_int (by rw [bne, Bool.beq_eq_decide_eq]; exact h)
/-- is None -/
def tIsN (ta : TE) : TE := fun σ H Q => ta σ H fun x H1 => Q (.bl (decide (x = .non))) H1
def tNotN (ta : TE) : TE := fun σ H Q => ta σ H fun x H1 => Q (.bl (!decide (x = .non))) H1
theorem RelV.none_iff {x : V} {v : Value} (r : RelV x v) : (v == Value.none) = decide (x = .non) := by
  cases x with
  | non => cases r; rfl
  | bl _ => cases r; rfl
  | int _ => obtain ⟨t, rfl⟩ := r; rfl
  | str _ => obtain ⟨t, rfl⟩ := r; rfl
  | byt _ => obtain ⟨t, rfl⟩ := r; rfl
  | flt _ => obtain ⟨t, rfl⟩ := r; rfl
  | ref _ => cases r; rfl
  | ty _ => cases r; rfl
theorem pc_isN {j pos'} (ha : PE X a ta) : PC X .Is a (.Constant .none j pos') (tIsN ta) := by
  intro pins s σ H Q I h
  refine thn (ha pins s σ H _ I h) fun v s1 ⟨x, H1, I1, r1, q1⟩ => ?_
  exact Constant_none (is_none_gen ⟨.bl _, H1, I1, by rw [r1.none_iff]; rfl, q1⟩)
theorem pc_notN {j pos'} (ha : PE X a ta) : PC X .IsNot a (.Constant .none j pos') (tNotN ta) := by
  intro pins s σ H Q I h
  refine thn (ha pins s σ H _ I h) fun v s1 ⟨x, H1, I1, r1, q1⟩ => ?_
  exact Constant_none (isnot_none_gen ⟨.bl _, H1, I1, by rw [r1.none_iff]; rfl, q1⟩)
/-- a comparison as a value, as a test -/
def tB (t : TE) : TT := fun σ H Q => t σ H fun x H1 => ∃ c, x = .bl c ∧ Q c H1
theorem pe_cmp {op : CmpOp} {t : TE} (h : PC X op a b t) (h1 : behindInMarks op b = false := by first | exact nobehind _ (by decide) (by decide) | rfl) : PE X (.Compare a [op] [b] pos) t := fun pins s σ H Q I hw => wpAny_Compare1 (h pins s σ H Q I hw) h1
theorem pt_cmp {op : CmpOp} {t : TE} (h : PC X op a b t) (h1 : behindInMarks op b = false := by first | exact nobehind _ (by decide) (by decide) | rfl) : PT X (.Compare a [op] [b] pos) (tB t) := by
  intro pins s σ H Q I hw
  refine wpAny_isTrue_Compare1 (thn (h pins s σ H _ I hw) fun v s1 h1 => thn h1 fun u s2 h2 => thn h2 fun c s3 ⟨x, H1, I1, r1, q1⟩ => ?_) h1
  obtain ⟨d, rfl, q⟩ := q1
  cases r1
  exact wpAny_truthy_bool ⟨H1, I1, q⟩
/-- an expression whose value is a bool, as a test -/
theorem pt_val {e : Expr} {t : TE} (h : PE X e t) (he : ∀ whole, isTrue e X.env whole = (do let v ← whole; standAt e.pos; holding [v] (truthy v)) := by intro _; rfl) : PT X e (tB t) := by
  intro pins s σ H Q I hw
  refine isTrue_plain (thn (h pins s σ H _ I hw) fun v s1 ⟨x, H1, I1, r1, q1⟩ => ?_) (he _)
  obtain ⟨d, rfl, q⟩ := q1
  cases r1
  exact wpAny_truthy_bool ⟨H1, I1, q⟩

/-! ### and, or, not -/
variable {tA tB' : TT} {rest : List Expr}
def tAnd (t u : TT) : TT := fun σ H Q => t σ H fun c H1 => if c = true then u σ H1 Q else Q false H1
def tOr (t u : TT) : TT := fun σ H Q => t σ H fun c H1 => if c = true then Q true H1 else u σ H1 Q
def tNot (t : TT) : TT := fun σ H Q => t σ H fun c H1 => Q (!c) H1
theorem pw_and1 (ha : PT X a tA) : PW X (.BoolOp .And [a] pos) tA := by
  intro wh pins s σ H Q I h
  refine isTrue_and (thn (ha pins s σ H Q I h) fun c s1 e => ?_)
  cases c with
  | true => exact isTrue_and_nil e
  | false => exact e
theorem pw_or1 (ha : PT X a tA) : PW X (.BoolOp .Or [a] pos) tA := by
  intro wh pins s σ H Q I h
  refine isTrue_or (thn (ha pins s σ H Q I h) fun c s1 e => ?_)
  cases c with
  | false => exact isTrue_or_nil e
  | true => exact e
theorem pw_and (ha : PT X a tA) (hb : PW X (.BoolOp .And (b :: rest) pos) tB') : PW X (.BoolOp .And (a :: b :: rest) pos) (tAnd tA tB') := by
  intro wh pins s σ H Q I h
  refine isTrue_and (thn (ha pins s σ H _ I h) fun c s1 ⟨H1, I1, q1⟩ => ?_)
  cases c with
  | true => exact hb wh pins s1 σ H1 Q I1 q1
  | false => exact ⟨H1, I1, q1⟩
theorem pw_or (ha : PT X a tA) (hb : PW X (.BoolOp .Or (b :: rest) pos) tB') : PW X (.BoolOp .Or (a :: b :: rest) pos) (tOr tA tB') := by
  intro wh pins s σ H Q I h
  refine isTrue_or (thn (ha pins s σ H _ I h) fun c s1 ⟨H1, I1, q1⟩ => ?_)
  cases c with
  | true => exact ⟨H1, I1, q1⟩
  | false => exact hb wh pins s1 σ H1 Q I1 q1
theorem pt_not (ha : PT X a tA) : PT X (.UnaryOp .Not a pos) (tNot tA) := by
  intro pins s σ H Q I h
  exact isTrue_not (ha pins s σ H (fun c H1 => Q (!c) H1) I h)
/-- .. as values (bools) -/
def tAndV (ta tb : TE) : TE := fun σ H Q => ta σ H fun x H1 => ∃ c, x = .bl c ∧ if c = true then tb σ H1 Q else Q (.bl false) H1
def tOrV (ta tb : TE) : TE := fun σ H Q => ta σ H fun x H1 => ∃ c, x = .bl c ∧ if c = true then Q (.bl true) H1 else tb σ H1 Q
def tNotV (ta : TE) : TE := fun σ H Q => ta σ H fun x H1 => ∃ c, x = .bl c ∧ Q (.bl (!c)) H1
theorem pe_one {op} {t : TE} (h : PE X a t) : PE X (.BoolOp op [a] pos) t := fun pins s σ H Q I hw => BoolOp_one (h pins s σ H Q I hw)
theorem pe_and (ha : PE X a ta) (hb : PE X (.BoolOp .And (b :: rest) pos) tb) : PE X (.BoolOp .And (a :: b :: rest) pos) (tAndV ta tb) := by
  intro pins s σ H Q I h
  refine BoolOp_and (thn (ha pins s σ H _ I h) fun v s1 ⟨x, H1, I1, r1, q1⟩ => ?_)
  obtain ⟨c, rfl, q1⟩ := q1
  cases r1
  refine wpAny_truthy_bool ?_
  cases c with
  | true => exact hb pins s1 σ H1 Q I1 q1
  | false => exact ⟨.bl false, H1, I1, rfl, q1⟩
theorem pe_or (ha : PE X a ta) (hb : PE X (.BoolOp .Or (b :: rest) pos) tb) : PE X (.BoolOp .Or (a :: b :: rest) pos) (tOrV ta tb) := by
  intro pins s σ H Q I h
  refine BoolOp_or (thn (ha pins s σ H _ I h) fun v s1 ⟨x, H1, I1, r1, q1⟩ => ?_)
  obtain ⟨c, rfl, q1⟩ := q1
  cases r1
  refine wpAny_truthy_bool ?_
  cases c with
  | false => exact hb pins s1 σ H1 Q I1 q1
  | true => exact ⟨.bl true, H1, I1, rfl, q1⟩
theorem pe_not (ha : PE X a ta) : PE X (.UnaryOp .Not a pos) (tNotV ta) := by
  intro pins s σ H Q I h
  refine UnaryOp_ (thn (ha pins s σ H _ I h) fun v s1 ⟨x, H1, I1, r1, q1⟩ => ?_)
  obtain ⟨c, rfl, q1⟩ := q1
  cases r1
  exact not_of (wpAny_truthy_bool ⟨.bl (!c), H1, I1, rfl, q1⟩)
/-- a if t else b -/
def tIf (t : TT) (ta tb : TE) : TE := fun σ H Q => t σ H fun c H1 => if c = true then ta σ H1 Q else tb σ H1 Q
theorem pe_ifExp {c : Expr} (hc : PT X c tA) (ha : PE X a ta) (hb : PE X b tb) : PE X (.IfExp c a b pos) (tIf tA ta tb) := by
  intro pins s σ H Q I h
  refine wpAny_IfExp (thn (hc pins s σ H _ I h) fun d s1 ⟨H1, I1, q1⟩ => ?_)
  cases d with
  | true => exact ha pins s1 σ H1 Q I1 q1
  | false => exact hb pins s1 σ H1 Q I1 q1
end
end L2

namespace L2
open PySem PySem.Spec PyProof.Rows

/-! ### a list, a tuple that is read: tracked, frozen, or an object of the module -/
def SqL (K : PySem.W.Frag) (H : Hp) (a : Addr) (xs : List V) : Prop :=
  Rd H a (.lst xs) ∨
    ∃ (o : Obj) (its : Array Value) (n : Nat), K.lookup a = some o ∧ o.cls = .type "list" ∧ o.dict = none ∧ o.data = .seq its n ∧ its.size ≤ sizeLine ∧ Vals xs its.toList
def SqT (K : PySem.W.Frag) (H : Hp) (a : Addr) (xs : List V) : Prop :=
  Rd H a (.tup xs) ∨
    ∃ (o : Obj) (its : Array Value) (n : Nat), K.lookup a = some o ∧ o.cls = .type "tuple" ∧ o.data = .seq its n ∧ its.size ≤ sizeLine ∧ Vals xs its.toList
def absV : Value → Option V
  | .none => some .non
  | .bool b => some (.bl b)
  | .int i _ => some (.int i)
  | .str x _ => some (.str x)
  | .bytes b _ => some (.byt b)
  | .float b _ => some (.flt b)
  | .ref a => some (.ref a)
  | .type n => some (.ty n)
  | _ => none
theorem RelV.abs {x : V} {u : Value} (r : RelV x u) : absV u = some x := by
  cases x with
  | non => cases r; rfl
  | bl _ => cases r; rfl
  | int _ => obtain ⟨t, rfl⟩ := r; rfl
  | str _ => obtain ⟨t, rfl⟩ := r; rfl
  | byt _ => obtain ⟨t, rfl⟩ := r; rfl
  | flt _ => obtain ⟨t, rfl⟩ := r; rfl
  | ref _ => cases r; rfl
  | ty _ => cases r; rfl
theorem RelV.inj {x y : V} {u : Value} (r : RelV x u) (q : RelV y u) : x = y := Option.some.inj (r.abs.symm.trans q.abs)
theorem Vals.inj : ∀ {xs ys : List V} {us : List Value}, Vals xs us → Vals ys us → xs = ys
  | _, _, _, .nil, .nil => rfl
  | _, _, _, .cons r t, .cons r' t' => by rw [r.inj r', Vals.inj t t']
section
variable {X : Cx} {pins : List (Addr × Obj)} {σ : St} {H : Hp} {s : Shared} {a : Addr} {xs ys : List V}
theorem SqL.of {K : PySem.W.Frag} (h : H a = some (.lst xs)) : SqL K H a xs := .inl (.inl h)
theorem SqT.of {K : PySem.W.Frag} (h : H a = some (.tup xs)) : SqT K H a xs := .inl (.inl h)
theorem Inv.list (I : Inv X pins σ H s) (h : SqL X.K H a xs) : ∃ its : List Value, Vals xs its ∧ PlainL s.heap a its.toArray ∧ xs.length ≤ sizeLine := by
  rcases h with h | ⟨o, its, n, hk, hc, hd, hs, hz, r⟩
  · obtain ⟨z, its, n, r, e⟩ := h.ok I.hok
    exact ⟨its, r, ⟨_, n, e, rfl, rfl, rfl⟩, z⟩
  · refine ⟨its.toList, r, ⟨o, n, I.kIn a o hk, hc, hd, by simpa using hs⟩, ?_⟩
    have e := r.length
    simp only [Array.length_toList] at e
    omega
theorem Inv.tuple (I : Inv X pins σ H s) (h : SqT X.K H a xs) : ∃ its : List Value, Vals xs its ∧ IsTup s.heap a its.toArray ∧ xs.length ≤ sizeLine := by
  rcases h with h | ⟨o, its, n, hk, hc, hs, hz, r⟩
  · obtain ⟨z, its, r, p⟩ := h.ok I.hok
    exact ⟨its, r, p, z⟩
  · refine ⟨its.toList, r, ⟨o, I.kIn a o hk, hc, n, by simpa using hs⟩, ?_⟩
    have e := r.length
    simp only [Array.length_toList] at e
    omega
theorem Inv.list_inj (I : Inv X pins σ H s) (h : SqL X.K H a xs) (h' : SqL X.K H a ys) : xs = ys := by
  obtain ⟨its, r, ⟨o, n, e, _, _, d⟩, _⟩ := I.list h
  obtain ⟨its', r', ⟨o', n', e', _, _, d'⟩, _⟩ := I.list h'
  rw [e] at e'; cases e'
  rw [d] at d'
  injection d' with d1 _
  have : its = its' := by simpa using congrArg Array.toList d1
  subst this
  exact r.inj r'
theorem Inv.tuple_inj (I : Inv X pins σ H s) (h : SqT X.K H a xs) (h' : SqT X.K H a ys) : xs = ys := by
  obtain ⟨its, r, ⟨o, e, _, n, d⟩, _⟩ := I.tuple h
  obtain ⟨its', r', ⟨o', e', _, n', d'⟩, _⟩ := I.tuple h'
  rw [e] at e'; cases e'
  rw [d] at d'
  injection d' with d1 _
  have : its = its' := by simpa using congrArg Array.toList d1
  subst this
  exact r.inj r'
end

/-! ### another wish about exceptions -/
abbrev Cx.wish (X : Cx) (E : Value → Shared → Prop) : Cx := { X with xe := E }
/-- no exception leaves -/
abbrev Cx.nox (X : Cx) : Cx := X.wish fun _ _ => False
theorem Cx.Ok.wish {X : Cx} (ok : X.Ok) (E : Value → Shared → Prop) : (X.wish E).Ok :=
  ⟨ok.mod, ok.kind, ok.glob, ok.blt, ok.above, ok.inj, ok.has, ok.cab, ok.hd, ok.frames, ok.stk, ok.exf, ok.bs, ok.bsz, ok.noex, ok.exfs, ok.funs, ok.frf⟩
theorem Cx.Ok.unwish {X : Cx} {E : Value → Shared → Prop} (ok : (X.wish E).Ok) : X.Ok :=
  ⟨ok.mod, ok.kind, ok.glob, ok.blt, ok.above, ok.inj, ok.has, ok.cab, ok.hd, ok.frames, ok.stk, ok.exf, ok.bs, ok.bsz, ok.noex, ok.exfs, ok.funs, ok.frf⟩
section
variable {X : Cx} {pins : List (Addr × Obj)} {σ : St} {H : Hp} {s : Shared} {E : Value → Shared → Prop}
theorem Inv.wish (I : Inv X pins σ H s) (E : Value → Shared → Prop) : Inv (X.wish E) pins σ H s := ⟨I.ok.wish E, I.os, I.bare, I.base, I.loc, I.cell, I.free, I.freeC, I.pin, I.hok, I.len⟩
theorem Inv.unwish (I : Inv (X.wish E) pins σ H s) : Inv X pins σ H s := ⟨I.ok.unwish, I.os, I.bare, I.base, I.loc, I.cell, I.free, I.freeC, I.pin, I.hok, I.len⟩
theorem SP.unwish {D : Ends} {f : Flow} {s' : Shared} (h : SP (X.wish E) pins D f s') : SP X pins D f s' := by
  cases f with
  | next => obtain ⟨σ', H', I, q⟩ := h; exact ⟨σ', H', I.unwish, q⟩
  | brk => obtain ⟨σ', H', I, q⟩ := h; exact ⟨σ', H', I.unwish, q⟩
  | cont => obtain ⟨σ', H', I, q⟩ := h; exact ⟨σ', H', I.unwish, q⟩
  | ret u => obtain ⟨v, σ', H', I, r, q⟩ := h; exact ⟨v, σ', H', I.unwish, r, q⟩
theorem PE.nox {e : Expr} {t : TE} (h : PE X.nox e t) : PE X e t := fun pins s σ H Q I hw =>
  wpAny_mono (h pins s σ H Q (I.wish _) hw) (fun _ _ ⟨v, H', I', r, q⟩ => ⟨v, H', I'.unwish, r, q⟩) fun _ _ z => False.elim z
theorem PT.nox {e : Expr} {t : TT} (h : PT X.nox e t) : PT X e t := fun pins s σ H Q I hw =>
  wpAny_mono (h pins s σ H Q (I.wish _) hw) (fun _ _ ⟨H', I', q⟩ => ⟨H', I'.unwish, q⟩) fun _ _ z => False.elim z
theorem PSs.nox {st : List Stmt} {t : TS} (h : PSs X.nox st t) : PSs X st t := fun pins s σ H D I hw =>
  wpAny_mono (h pins s σ H D (I.wish _) hw) (fun _ _ q => q.unwish) fun _ _ z => False.elim z
end

/-! ### blocks and small statements -/
section
variable {X : Cx} {st : Stmt} {rest : List Stmt} {t u : TS} {e : Expr} {te : TE} {pos : Pos}
def tNext : TS := fun D σ H => D.nx σ H
def tSeq (t u : TS) : TS := fun D σ H => t { D with nx := u D } σ H
theorem pss_nil : PSs X [] tNext := fun _ _ σ H _ I h => wpAny_execs_nil ⟨σ, H, I, h⟩
theorem pss_cons (h1 : PS X st t) (h2 : PSs X rest u) : PSs X (st :: rest) (tSeq t u) := by
  intro pins s σ H D I h
  refine wpAny_execs_cons (thn (h1 pins s σ H { D with nx := u D } I h) fun f s1 q => ?_)
  cases f with
  | next =>
    obtain ⟨σ', H', I', q⟩ := q
    exact h2 pins s1 σ' H' D I' q
  | ret v => exact q
  | brk => exact q
  | cont => exact q
theorem pss_one (h1 : PS X st t) : PSs X [st] t := by
  intro pins s σ H D I h
  refine wpAny_execs_cons (thn (h1 pins s σ H D I h) fun f s1 q => ?_)
  cases f with
  | next => exact wpAny_execs_nil q
  | ret v => exact q
  | brk => exact q
  | cont => exact q
def tBreak : TS := fun D σ H => D.bk σ H
def tCont : TS := fun D σ H => D.ct σ H
theorem ps_pass : PS X (.Pass pos) tNext := fun _ _ σ H _ I h => wpAny_Pass ⟨σ, H, I, h⟩
theorem ps_break : PS X (.Break pos) tBreak := fun _ _ σ H _ I h => wpAny_Break ⟨σ, H, I, h⟩
theorem ps_continue : PS X (.Continue pos) tCont := fun _ _ σ H _ I h => wpAny_Continue ⟨σ, H, I, h⟩
/-- in a def's body nothing is shown -/
theorem Inv.quiet {pins : List (Addr × Obj)} {σ : St} {H : Hp} {s : Shared} (I : Inv X pins σ H s) : interactive X.env = false := by simp [interactive, I.ok.kind]
/-- a docstring -/
theorem ps_doc {x j pos pos'} : PS X (.Expr (.Constant (.str x) j pos) pos') tNext := fun _ s σ H _ I h => wpAny_Expr (Calls.Constant_str (show SP X _ _ .next { s with toks := s.toks + 1 } from ⟨σ, H, I.tok _, h⟩)) I.quiet
/-- an expression whose value is dropped -/
def tDrop (te : TE) : TS := fun D σ H => te σ H fun _ H1 => D.nx σ H1
theorem ps_expr (he : PE X e te) (hs : swapsWith e none pos.line X.env = pure false := by rfl) : PS X (.Expr e pos) (tDrop te) := by
  intro pins s σ H D I h
  exact wpAny_Expr_any (thn (he pins s σ H _ I h) fun v s1 ⟨x, H1, I1, r1, q1⟩ => ⟨σ, H1, I1, q1⟩) I.quiet hs
def tRet (te : TE) : TS := fun D σ H => te σ H D.rt
theorem ps_ret (he : PE X e te) : PS X (.Return (some e) pos) (tRet te) := by
  intro pins s σ H D I h
  exact wpAny_Return_some (thn (he pins s σ H _ I h) fun v s1 ⟨x, H1, I1, r1, q1⟩ => ⟨x, σ, H1, I1, r1, q1⟩)
def tRetN : TS := fun D _ H => D.rt .non H
theorem ps_retN : PS X (.Return none pos) tRetN := fun _ _ σ H _ I h => wpAny_Return_none ⟨.non, σ, H, I, rfl, h⟩
def tIfS (c : TT) (t u : TS) : TS := fun D σ H => c σ H fun b H1 => if b = true then t D σ H1 else u D σ H1
theorem ps_if {c : Expr} {a b : List Stmt} {tc : TT} (hc : PT X c tc) (ha : PSs X a t) (hb : PSs X b u) : PS X (.If c a b pos) (tIfS tc t u) := by
  intro pins s σ H D I h
  refine wpAny_If (thn (hc pins s σ H _ I h) fun d s1 ⟨H1, I1, q1⟩ => ?_)
  cases d with
  | true => exact ha pins s1 σ H1 D I1 q1
  | false => exact hb pins s1 σ H1 D I1 q1
/-- code that the proof never comes to -/
def tNever : TS := fun _ _ _ => False
theorem ps_never : PS X st tNever := fun _ _ _ _ _ _ h => h.elim
theorem pss_never {sts : List Stmt} : PSs X sts tNever := fun _ _ _ _ _ _ h => h.elim
end

/-! ### targets -/
abbrev TG := V → St → Hp → (St → Hp → Prop) → Prop
abbrev TGs := List V → St → Hp → (St → Hp → Prop) → Prop
def PG (X : Cx) (target : Expr) (t : TG) : Prop :=
  ∀ (pins : List (Addr × Obj)) (s : Shared) (σ : St) (H : Hp) (v : V) (u : Value) (Q : St → Hp → Prop), Inv X pins σ H s → RelV v u → t v σ H Q →
    wpAny (model X.prog X.w) X.A (assign target X.env u) (fun _ s' => ∃ σ' H', Inv X pins σ' H' s' ∧ Q σ' H') X.xe s
/-- several targets, one after another -/
def PGs (X : Cx) (ts : List Expr) (t : TGs) : Prop :=
  ∀ (pins : List (Addr × Obj)) (s : Shared) (σ : St) (H : Hp) (vs : List V) (us : List Value) (Q : St → Hp → Prop), Inv X pins σ H s → Vals vs us → t vs σ H Q →
    wpAny (model X.prog X.w) X.A (assignInOrder ((assignEach ts X.env).map (·.2)) us) (fun _ s' => ∃ σ' H', Inv X pins σ' H' s' ∧ Q σ' H') X.xe s
/-- o[i] = v, by values -/
abbrev TSet := V → V → V → Hp → (Hp → Prop) → Prop
def PSet (X : Cx) (t : TSet) : Prop :=
  ∀ (pins : List (Addr × Obj)) (s : Shared) (σ : St) (H : Hp) (o i v : V) (ov iv u : Value) (Q : Hp → Prop), Inv X pins σ H s → RelV o ov → RelV i iv → RelV v u → t o i v H Q →
    wpAny (model X.prog X.w) X.A (setItem ov iv u) (fun _ s' => ∃ H', Inv X pins σ H' s' ∧ Q H') X.xe s
/-- a op= b, by values -/
abbrev TIp := V → V → Hp → VK → Prop
def PIp (X : Cx) (op : Operator) (t : TIp) : Prop :=
  ∀ (pins : List (Addr × Obj)) (s : Shared) (σ : St) (H : Hp) (x y : V) (v u : Value) (Q : VK), Inv X pins σ H s → RelV x v → RelV y u → t x y H Q →
    wpAny (model X.prog X.w) X.A (inplaceOp op v u) (EP X pins σ Q) X.xe s
section
variable {X : Cx} {pos : Pos}
def gName (i : Nat) : TG := fun v σ H Q => Q (σ.set i (some v)) H
theorem pg_name {i : Nat} {x : Str} (hN : X.N.Nodup) (hi : X.N[i]? = some x) (hx : Loc X.env.scope x) (hf : X.fn x = true ∨ X.env.scope.names.lookup x = some .local := by first | exact .inl rfl | exact .inr rfl | assumption) : PG X (.Name x pos) (gName i) := by
  intro pins s σ H v u Q I r h
  exact wpAny_assign_Name (store_ok I hN hi hx r (fun s' I' => ⟨_, H, I', h⟩) hf)
def gNil : TGs := fun vs σ H Q => vs = [] ∧ Q σ H
def gCons (t : TG) (u : TGs) : TGs := fun vs σ H Q => ∃ v r, vs = v :: r ∧ t v σ H fun σ' H' => u r σ' H' Q
theorem pgs_nil : PGs X [] gNil := by
  intro pins s σ H vs us Q I r h
  obtain ⟨e, h⟩ := h
  subst e
  cases r
  exact assignInOrder_nil ⟨σ, H, I, h⟩
theorem pgs_cons {e : Expr} {es : List Expr} {t : TG} {u : TGs} (h1 : PG X e t) (h2 : PGs X es u)
    (hs : (assignEach (e :: es) X.env).map (·.2) = assign e X.env :: (assignEach es X.env).map (·.2) := by rfl) : PGs X (e :: es) (gCons t u) := by
  intro pins s σ H vs us Q I r h
  obtain ⟨v, vr, e1, h⟩ := h
  subst e1
  cases r with
  | cons r rr =>
    rw [hs]
    refine assignInOrder_cons (thn (h1 pins s σ H _ _ _ I r h) fun _ s1 ⟨σ1, H1, I1, q1⟩ => ?_)
    exact h2 pins s1 σ1 H1 _ _ Q I1 rr q1
/-- (a, b, ..) = a tuple of that length -/
def gTup (K : PySem.W.Frag) (n : Nat) (t : TGs) : TG := fun v σ H Q => ∃ a xs, v = .ref a ∧ SqT K H a xs ∧ xs.length = n ∧ t xs σ H Q
theorem pg_tup {es : List Expr} {k : Nat} {t : TGs} {n : Nat} (hc : X.calm = true) (h : PGs X es t)
    (hn : (assignEach es X.env).length = n := by rfl) (hst : (assignEach es X.env).findIdx? (·.1) = none := by rfl) : PG X (.Tuple es k pos) (gTup X.K n t) := by
  intro pins s σ H v u Q I r hw
  obtain ⟨a, xs, e1, hq, hl, hw⟩ := hw
  subst e1
  cases r
  obtain ⟨its, rv, ht, hz⟩ := I.tuple hq
  refine assign_Tuple_tuple (I.ok.hd hc) ht (by simp [hn, ← hl, rv.length]) hst fun h' hx => ?_
  have I1 : Inv X pins σ H { s with heap := h' } := I.kept (t' := s.toks) fun b o e => hx b o (Nat.ne_of_lt (Heap.lt_size e)) e
  exact h pins _ σ H xs _ Q I1 (by simpa using rv) hw
/-- o[i] = .. -/
def gSub (to ti : TE) (t : TSet) : TG := fun v σ H Q => to σ H fun o H1 => ti σ H1 fun i H2 => t o i v H2 fun H3 => Q σ H3
theorem pg_sub {o i : Expr} {to ti : TE} {t : TSet} (ho : PE X o to) (hi : PE X i ti) (hs : PSet X t)
    (ha : ∀ v, assign (.Subscript o i pos) X.env v = (do
      let ov ← holding [v] (eval o X.env)
      let iv ← holding [v, ov] (eval i X.env)
      standAt pos
      holding [v, ov, iv] (setItem ov iv v)
      release [v, ov, iv] []) := by intro _; rfl) : PG X (.Subscript o i pos) (gSub to ti t) := by
  intro pins s σ H v u Q I r h
  rw [ha]
  refine wpAny_bind (wpAny_holding (thn (ho pins s σ H _ I h) fun ov s1 ⟨x, H1, I1, r1, q1⟩ => ?_))
  refine wpAny_bind (wpAny_holding (thn (hi pins s1 σ H1 _ I1 q1) fun iv s2 ⟨y, H2, I2, r2, q2⟩ => ?_))
  refine wpAny_bind (wpAny_standAt (wpAny_bind (wpAny_holding (thn (hs pins s2 σ H2 x y v ov iv u _ I2 r1 r2 r q2) fun _ s3 ⟨H3, I3, q3⟩ => ?_))))
  exact wpAny_release ⟨σ, H3, I3, q3⟩
/-- target = value -/
def tAsg (te : TE) (g : TG) : TS := fun D σ H => te σ H fun x H1 => g x σ H1 D.nx
theorem ps_asg {tg e : Expr} {te : TE} {g : TG} (he : PE X e te) (hg : PG X tg g) (hs : swapsWithSole [tg] e pos.line X.env = pure false := by rfl) (hw : swappedStores [tg] e X.env = pure none := by rfl)
    (h1 : (assignEach [tg] X.env).map (·.2) = [assign tg X.env] := by rfl) : PS X (.Assign [tg] e pos) (tAsg te g) := by
  intro pins s σ H D I h
  refine wpAny_Assign_stores (thn (he pins s σ H _ I h) fun v s1 ⟨x, H1, I1, r1, q1⟩ => ?_) hs hw
  rw [h1]
  exact thn (hg pins s1 σ H1 x v _ I1 r1 q1) fun _ s2 q => q
/-- name = value -/
theorem ps_set {i : Nat} {x : Str} {e : Expr} {te : TE} {pos' : Pos} (hN : X.N.Nodup) (hi : X.N[i]? = some x) (hx : Loc X.env.scope x) (he : PE X e te) (hs : swapsWith e (some (.Name x pos')) pos.line X.env = pure false := by rfl) (hf : X.fn x = true ∨ X.env.scope.names.lookup x = some .local := by first | exact .inl rfl | exact .inr rfl | assumption) :
    PS X (.Assign [.Name x pos'] e pos) (tAsg te (gName i)) := by
  intro pins s σ H D I h
  refine wpAny_Assign_Name (thn (he pins s σ H _ I h) fun v s1 ⟨y, H1, I1, r1, q1⟩ => ?_) hs
  exact store_ok I1 hN hi hx r1 (fun s2 I2 => ⟨_, H1, I2, q1⟩) hf
/-- a, b = x, y with plain local names: stored from the right; the pair itself is not tracked (the opening rows as in PyProof/Rows/TupAssign.lean:23) -/
def tPar (i j : Nat) (ta : TA) : TS := fun D σ H => ta σ H fun vs H1 => ∃ v w, vs = [v, w] ∧ D.nx ((σ.set i (some v)).set j (some w)) H1
theorem ps_par {i j : Nat} {x y : Str} {a b : Expr} {ta : TA} {px py pt : Pos} {kt k2 pt2} (hc : X.calm = true) (hN : X.N.Nodup) (hi : X.N[i]? = some x) (hj : X.N[j]? = some y) (hij : i ≠ j)
    (hx : X.env.scope.names.lookup x = some .local) (hy : X.env.scope.names.lookup y = some .local) (ha : PA X [a, b] ta)
    (hw : swappedStores [.Tuple [.Name x px, .Name y py] kt pt] (.Tuple [a, b] k2 pt2) X.env = pure (some [x, y]))
    (hs : swapsWithSole [.Tuple [.Name x px, .Name y py] kt pt] (.Tuple [a, b] k2 pt2) pos.line X.env = pure false := by rfl) :
    PS X (.Assign [.Tuple [.Name x px, .Name y py] kt pt] (.Tuple [a, b] k2 pt2) pos) (tPar i j ta) := by
  intro pins s σ H D I h
  rw [exec_Assign_arm]
  refine wpAny_bind (wpAny_standAt ?_)
  rw [hs]
  refine wpAny_bind (wpAny_pure ?_)
  rw [if_neg (by decide)]
  refine wpAny_bind (Tuple_ (thn (ha _ pins s σ H _ I h) fun us s1 ⟨vs, H1, I1, r1, q1⟩ => ?_))
  obtain ⟨v, w, e1, q1⟩ := q1
  subst e1
  obtain ⟨u1, u2, rfl, rv, rw'⟩ : ∃ u1 u2, us = [u1, u2] ∧ RelV v u1 ∧ RelV w u2 := by
    cases r1 with
    | cons p q =>
      cases q with
      | cons p' q' =>
        cases q'
        exact ⟨_, _, rfl, p, p'⟩
  refine wpAny_newObj_type ?_ (by show 2 ≤ sizeLine; decide)
  have I2 : Inv X pins σ H1 { s1 with heap := s1.heap.push { cls := .type "tuple", data := .seq [u1, u2].toArray } } := I1.kept (t' := s1.toks) fun b o e => Heap.get?_push_of_some _ e
  rw [hw]
  refine wpAny_bind (wpAny_pure ?_)
  show wpAny (model X.prog X.w) X.A (do rule "assign.swapped-stores"; let items ← unpackItems (.ref s1.heap.objs.size) 2 none; assignInOrder [fun v => bindName X.env y v, fun v => bindName X.env x v] items.reverse; pure Flow.next) _ _ _
  refine wpAny_bind (wpAny_rule (wpAny_bind (unpackItems_tuple (items := #[u1, u2]) (I.ok.hd hc) (IsTup.new s1.heap _) fun h' hx' => ?_)))
  have I3 := I2.kept (h' := h') (t' := s1.toks) fun b o e => hx' b o (Nat.ne_of_lt (Heap.lt_size e)) e
  show wpAny _ _ (assignInOrder [fun v => bindName X.env y v, fun v => bindName X.env x v] [u2, u1] >>= fun _ => pure Flow.next) _ _ _
  refine wpAny_bind (assignInOrder_cons (wpAny_bindName (store_ok I3 hN hj (.inl hy) rw' (fun s2 I4 => ?_) (.inr hy))))
  refine assignInOrder_cons (wpAny_bindName (store_ok I4 hN hi (.inl hx) rv (fun s3 I5 => assignInOrder_nil (wpAny_pure ?_)) (.inr hx)))
  rw [List.set_comm _ _ (Ne.symm hij)] at I5
  exact ⟨_, H1, I5, q1⟩
/-- name op= e -/
def tAug (i : Nat) (te : TE) (ti : TIp) : TS := fun D σ H => ∃ x, σ[i]? = some (some x) ∧ te σ H fun y H1 => ti x y H1 fun z H2 => D.nx (σ.set i (some z)) H2
theorem ps_aug {i : Nat} {x : Str} {e : Expr} {te : TE} {op : Operator} {ti : TIp} {pos' : Pos} (hN : X.N.Nodup) (hi : X.N[i]? = some x) (hx : Loc X.env.scope x) (he : PE X e te) (ho : PIp X op ti) (hf : X.fn x = true ∨ X.env.scope.names.lookup x = some .local := by first | exact .inl rfl | exact .inr rfl | assumption) :
    PS X (.AugAssign (.Name x pos') op e pos) (tAug i te ti) := by
  intro pins s σ H D I h
  obtain ⟨v, e1, h⟩ := h
  obtain ⟨m, hn, hl⟩ := I.loc
  have vis : Vis X.env.scope x := by rcases hx with k | k; exact .inl k; exact .inr (.inl k)
  obtain ⟨u, r, l⟩ := hl i x v hi e1 vis
  refine wpAny_AugAssign_Name ?_
  have go : wpAny (model X.prog X.w) X.A (eval e X.env) (fun w s₂ => wpAny (model X.prog X.w) X.A (inplaceOp op u w) (fun r s₃ => wpAny (model X.prog X.w) X.A (storeName X.env x r) (fun _ => SP X pins D .next) X.xe s₃) X.xe s₂) X.xe s := by
    refine thn (he pins s σ H _ I h) fun w s1 ⟨y, H1, I1, r1, q1⟩ => ?_
    refine thn (ho pins s1 σ H1 v y u w _ I1 r r1 q1) fun z s2 ⟨zv, H2, I2, r2, q2⟩ => ?_
    exact store_ok I2 hN hi hx r2 (fun s3 I3 => ⟨_, H2, I3, q2⟩) hf
  rcases l with ⟨hk, hm⟩ | ⟨hk, c, hc, hcell⟩
  · exact wpAny_loadName_local I.ok.kind hk hn hm go
  · rcases hk with hk | hk
    · exact wpAny_loadName_cell I.ok.kind hk hc hcell go
    · rcases hx with k | k
      · have : X.env.scope.names.lookup x = some .free := hk
        rw [k] at this; cases this
      · have : X.env.scope.names.lookup x = some .free := hk
        rw [k] at this; cases this
/-- o[i] op= e -/
def tAugS (to ti te : TE) (tget : V → V → Hp → VK → Prop) (tip : TIp) (tset : TSet) : TS := fun D σ H => to σ H fun o H1 => ti σ H1 fun i H2 => tget o i H2 fun x H3 => te σ H3 fun y H4 => tip x y H4 fun z H5 => tset o i z H5 fun H6 => D.nx σ H6
/-- o[i], by values -/
def PGet (X : Cx) (t : V → V → Hp → VK → Prop) : Prop :=
  ∀ (pins : List (Addr × Obj)) (s : Shared) (σ : St) (H : Hp) (o i : V) (ov iv : Value) (Q : VK), Inv X pins σ H s → RelV o ov → RelV i iv → t o i H Q →
    wpAny (model X.prog X.w) X.A (getItem ov iv) (EP X pins σ Q) X.xe s
theorem ps_augS {o i e : Expr} {to ti te : TE} {tget : V → V → Hp → VK → Prop} {tip : TIp} {tset : TSet} {op : Operator} {tpos : Pos} (ho : PE X o to) (hi : PE X i ti) (hg : PGet X tget) (he : PE X e te) (hp : PIp X op tip) (hs : PSet X tset)
    (ha : ∀ ov iv new, augStore i ov iv new = (do holding [new, ov, iv] (setItem ov iv new); release [new, ov, iv] []; pure .next) := by intros; rfl) : PS X (.AugAssign (.Subscript o i tpos) op e pos) (tAugS to ti te tget tip tset) := by
  intro pins s σ H D I h
  refine wpAny_AugAssign_SubscriptAny (thn (ho pins s σ H _ I h) fun ov s1 ⟨x1, H1, I1, r1, q1⟩ => ?_) ha
  refine thn (hi pins s1 σ H1 _ I1 q1) fun iv s2 ⟨x2, H2, I2, r2, q2⟩ => ?_
  refine thn (hg pins s2 σ H2 x1 x2 ov iv _ I2 r1 r2 q2) fun old s3 ⟨x3, H3, I3, r3, q3⟩ => ?_
  refine thn (he pins s3 σ H3 _ I3 q3) fun v s4 ⟨x4, H4, I4, r4, q4⟩ => ?_
  refine thn (hp pins s4 σ H4 x3 x4 old v _ I4 r3 r4 q4) fun new s5 ⟨x5, H5, I5, r5, q5⟩ => ?_
  exact thn (hs pins s5 σ H5 x1 x2 x5 ov iv new _ I5 r1 r2 r5 q5) fun _ s6 ⟨H6, I6, q6⟩ => ⟨σ, H6, I6, q6⟩
/-- ints -/
def ipI (f : Int → Int → Int) : TIp := fun x y H Q => ∃ i j, x = .int i ∧ y = .int j ∧ Q (.int (f i j)) H
theorem ip_add : PIp X .Add (ipI fun i j => i + j) := by
  intro pins s σ H x y v u Q I r1 r2 h
  obtain ⟨i, j, e1, e2, q⟩ := h
  subst e1; subst e2
  obtain ⟨t, rfl⟩ := r1
  obtain ⟨t', rfl⟩ := r2
  exact iadd_int ⟨.int _, H, I.tok _, ⟨_, rfl⟩, q⟩
theorem ip_sub : PIp X .Sub (ipI fun i j => i - j) := by
  intro pins s σ H x y v u Q I r1 r2 h
  obtain ⟨i, j, e1, e2, q⟩ := h
  subst e1; subst e2
  obtain ⟨t, rfl⟩ := r1
  obtain ⟨t', rfl⟩ := r2
  exact isub_int ⟨.int _, H, I.tok _, ⟨_, rfl⟩, q⟩
end

/-! ### while -/
section
variable {X : Cx} {pos : Pos}
/-- the invariant W with its measure -/
def tWhile (c : TT) (tb : TS) : TS := fun D σ H => ∃ W : Nat → St → Hp → Prop, (∃ m, W m σ H) ∧ ∀ m σ H, W m σ H →
  c σ H fun b H1 => if b = true then ∃ N : St → Hp → Prop, (∀ σ' H', N σ' H' → ∃ m', m' < m ∧ W m' σ' H') ∧ tb { D with nx := N, ct := N, bk := D.nx } σ H1 else D.nx σ H1
theorem ps_while {c : Expr} {body : List Stmt} {tc : TT} {tb : TS} (hp : PassesOwn (model X.prog X.w) X.A X.env X.xe) (hc : PT X c tc) (hb : PSs X body tb) : PS X (.While c body [] pos) (tWhile tc tb) := by
  intro pins s σ H D I h
  obtain ⟨W, ⟨m0, w0⟩, turn⟩ := h
  refine wpAny_While (codeAny_whileLoop (fun n s' => ∃ σ' H', Inv X pins σ' H' s' ∧ W n σ' H') ?_ m0 ⟨σ, H, I, w0⟩)
  rintro n s1 ⟨σ1, H1, I1, w1⟩
  refine wpAny_passesOwn hp (thn (hc pins s1 σ1 H1 _ I1 (turn n σ1 H1 w1)) fun b s2 ⟨H2, I2, q2⟩ => ?_)
  cases b with
  | true =>
    obtain ⟨N, hN, q2⟩ := q2
    rw [if_pos rfl]
    refine wpAny_passesOwn hp (thn (hb pins s2 σ1 H2 _ I2 q2) fun f s3 q3 => ?_)
    cases f with
    | next =>
      obtain ⟨σ3, H3, I3, n3⟩ := q3
      obtain ⟨m', hm, w3⟩ := hN σ3 H3 n3
      exact ⟨m', hm, σ3, H3, I3, w3⟩
    | cont =>
      obtain ⟨σ3, H3, I3, n3⟩ := q3
      obtain ⟨m', hm, w3⟩ := hN σ3 H3 n3
      exact ⟨m', hm, σ3, H3, I3, w3⟩
    | brk => exact q3
    | ret v => exact q3
  | false =>
    rw [if_neg Bool.false_ne_true]
    exact wpAny_execs_nil ⟨σ1, H2, I2, q2⟩
end

/-! ### what a loop or a comprehension walks -/
/-- at turn i: it yields x (the heap may grow), or it stops -/
structure It where
  go : Nat → Hp → Prop
  yld : Nat → Hp → V → Hp → Prop
  stop : Nat → Hp → Prop
/-- the iterator's own objects may turn: they are not the frame's, not pinned, younger than the entry (or a comprehension's own) -/
def FpOk (X : Cx) (pins : List (Addr × Obj)) (H : Hp) (b : Addr) : Prop :=
  H b = none ∧ b ≠ X.env.locals ∧ b ∉ X.fs ∧ (b ∈ X.ex ∨ X.s_0.heap.objs.size ≤ b) ∧ (∀ x c, X.env.cells.lookup x = some c → c ≠ b) ∧ ∀ p ∈ X.pn ++ pins, p.1 ≠ b
theorem Inv.fpOk {X : Cx} {pins : List (Addr × Obj)} {σ : St} {H H' : Hp} {s : Shared} {b : Addr} (I : Inv X pins σ H s) (hb : s.heap.objs.size ≤ b) (hn : H' b = none) : FpOk X pins H' b := by
  refine ⟨hn, Nat.ne_of_gt (Nat.lt_of_lt_of_le I.lt hb), I.nofs hb, .inr (Nat.le_trans I.sz hb), fun x c e z => ?_, fun p hp z => ?_⟩
  · obtain ⟨v, q⟩ := I.cell x c e
    exact absurd (Nat.lt_of_lt_of_le q.lt (by rw [z]; exact hb)) (Nat.lt_irrefl _)
  · exact absurd (Nat.lt_of_lt_of_le (Heap.lt_size (I.pin p hp).1) (by rw [z]; exact hb)) (Nat.lt_irrefl _)
structure Turn (P : Program) (w : World) (K : PySem.W.Frag) (tg : Expr) (J : It) (fp : List Addr) (it : Addr) (tn : Nat → Heap → Prop) : Prop where
  mem : it ∈ fp
  obj : ∀ i h, tn i h → ∀ b ∈ fp, ∃ o, h.get? b = some o ∧ ∀ v, o.data ≠ .cell v
  keep : ∀ i h h', tn i h → (∀ b ∈ fp, ∀ o, h.get? b = some o → h'.get? b = some o) → tn i h'
  item : ∀ (X : Cx), X.prog = P → X.w = w → X.K = K → X.calm = true → ∀ (i : Nat) (pins : List (Addr × Obj)) (s : Shared) (σ : St) (H : Hp) (E : Value → Shared → Prop), Inv X pins σ H s → (∀ b ∈ fp, FpOk X pins H b) → tn i s.heap → J.go i H →
    wpAny (model P w) X.A (pyNext (.ref it)) (fun r s1 => ∃ u, r = some u ∧
      wpAny (model P w) X.A (letOwnedTupleGo tg (.ref it) u) (fun _ s2 => ∃ x H', Inv X pins σ H' s2 ∧ RelV x u ∧ J.yld i H x H' ∧ tn (i + 1) s2.heap ∧ ∀ b ∈ fp, H' b = none) E s1) E s
  done : ∀ (X : Cx), X.prog = P → X.w = w → X.K = K → X.calm = true → ∀ (i : Nat) (pins : List (Addr × Obj)) (s : Shared) (σ : St) (H : Hp) (E : Value → Shared → Prop), Inv X pins σ H s → (∀ b ∈ fp, FpOk X pins H b) → tn i s.heap → J.stop i H →
    wpAny (model P w) X.A (pyNext (.ref it)) (fun r s1 => r = none ∧ Inv X pins σ H s1) E s
  self : ∀ (A : Around) (i : Nat) (s : Shared) (Q : Value → Shared → Prop) (E : Value → Shared → Prop), tn i s.heap → Q (.ref it) s → wpAny (model P w) A (pyIter (.ref it)) Q E s
abbrev TI := St → Hp → (It → Hp → Prop) → Prop
/-- an iterator has come -/
def PIE (X : Cx) (pins : List (Addr × Obj)) (σ : St) (tg : Expr) (R : It → Hp → Prop) (itv : Value) (s2 : Shared) : Prop :=
  ∃ (it : Addr) (fp : List Addr) (tn : Nat → Heap → Prop) (J : It) (H' : Hp), itv = .ref it ∧ Inv X pins σ H' s2 ∧ Turn X.prog X.w X.K tg J fp it tn ∧ tn 0 s2.heap ∧ (∀ b ∈ fp, FpOk X pins H' b) ∧ R J H'
def PI (X : Cx) (tg iter : Expr) (wi : TI) : Prop :=
  ∀ (pins : List (Addr × Obj)) (s : Shared) (σ : St) (H : Hp) (R : It → Hp → Prop), Inv X pins σ H s → wi σ H R →
    wpAny (model X.prog X.w) X.A (eval iter X.env) (fun v s1 => wpAny (model X.prog X.w) X.A (pyIter v) (PIE X pins σ tg R) X.xe s1) X.xe s

/-- the step ahead of the store is nothing for an iterator that keeps no tuple -/
theorem go_of {M : Model} {A : Around} {E : Value → Shared → Prop} {s : Shared} {tg : Expr} {it : Addr} {u : Value} {o : Obj} {n : String} {vs : Array Value} {Q : Unit → Shared → Prop} (ho : s.heap.get? it = some o) (hc : o.cls = .type n) (hd : o.data = .fields vs)
    (hn : ["enumerate", "zip", "dict_itemiterator", "dict_reverseitemiterator", "odict_iterator", "itertools.zip_longest", "itertools.pairwise"].contains n = false) (hQ : Q () s) : wpAny M A (letOwnedTupleGo tg (.ref it) u) Q E s := by
  unfold letOwnedTupleGo
  cases tg <;> first
    | exact wpAny_pure hQ
    | (cases u <;> first
        | exact wpAny_pure hQ
        | (refine wpAny_bind (wpAny_load ho ?_)
           rw [hc, hd]
           show wpAny M A (if (["enumerate", "zip", "dict_itemiterator", "dict_reverseitemiterator", "odict_iterator", "itertools.zip_longest", "itertools.pairwise"].contains n && vs[0]? == some (rawInt _)) = true then _ else _) Q E s
           rw [if_neg (by intro h; rw [hn, Bool.false_and] at h; cases h)]
           exact wpAny_pure hQ))

/-- the list at a, as it stands at each turn (a loop may append to it) -/
def Itl (K : PySem.W.Frag) (a : Addr) : It :=
  ⟨fun i H => ∃ xs x, SqL K H a xs ∧ xs[i]? = some x, fun i H x H' => H' = H ∧ ∀ xs, SqL K H a xs → xs[i]? = some x, fun i H => ∃ xs, SqL K H a xs ∧ xs.length ≤ i⟩
def Itt (K : PySem.W.Frag) (a : Addr) : It :=
  ⟨fun i H => ∃ xs x, SqT K H a xs ∧ xs[i]? = some x, fun i H x H' => H' = H ∧ ∀ xs, SqT K H a xs → xs[i]? = some x, fun i H => ∃ xs, SqT K H a xs ∧ xs.length ≤ i⟩
/-- lo, lo + 1, .. (n of them) -/
def Itr (lo : Int) (n : Nat) : It := ⟨fun i _ => i < n, fun i H x H' => H' = H ∧ x = .int (lo + i), fun i _ => n ≤ i⟩
theorem turn_list {P : Program} {w : World} {K : PySem.W.Frag} {tg : Expr} (a it : Addr) : Turn P w K tg (Itl K a) [it] it (fun i h => h.IsListIter it a i) where
  mem := by simp
  obj := fun i h st b hb => by
    have e : b = it := by simpa using hb
    subst e
    obtain ⟨o, e, c, d⟩ := st
    exact ⟨o, e, fun v z => by rw [d] at z; cases z⟩
  keep := fun i h h' st k => st.at fun o e => k it (by simp) o e
  item := by
    intro X hP hw hK hc i pins s σ H E I hf st hg
    subst hP hw hK
    obtain ⟨xs, x, hq, hx⟩ := hg
    obtain ⟨its, rv, p, hz⟩ := I.list hq
    obtain ⟨u, hu, ru⟩ := rv.get hx
    obtain ⟨f0, f1, f2, f3, f4, f5⟩ := hf it (by simp)
    refine wpAny_pyNext_list_item st p.isList (x := u) (by simpa using hu) fun h' st' sb => ?_
    have I1 : Inv X pins σ H { s with heap := h' } := I.turned (t' := s.toks) (fun b o hb e => (sb.2 b hb).trans e) f0 f1 f3 f4 f5
    obtain ⟨o, e, c, d⟩ := id st'
    exact ⟨u, rfl, go_of (s := { s with heap := h' }) e c d (by decide) ⟨x, H, I1, ru, ⟨rfl, fun ys hy => by rw [I.list_inj hy hq]; exact hx⟩, st', fun b hb => (hf b hb).1⟩⟩
  done := by
    intro X hP hw hK hc i pins s σ H E I hf st hg
    subst hP hw hK
    obtain ⟨xs, hq, hx⟩ := hg
    obtain ⟨its, rv, p, hz⟩ := I.list hq
    obtain ⟨f0, f1, f2, f3, f4, f5⟩ := hf it (by simp)
    have hl := rv.length
    exact wpAny_pyNext_list_end (I.ok.hd hc) st p.isList (by simp; omega) fun h' eb => ⟨rfl, I.turned (t' := s.toks) (fun b o hb e => eb b o hb e) f0 f1 f3 f4 f5⟩
  self := fun _ _ _ _ _ st h => wpAny_pyIter_listiter st h
theorem turn_tuple {P : Program} {w : World} {K : PySem.W.Frag} {tg : Expr} (a it : Addr) : Turn P w K tg (Itt K a) [it] it (fun i h => h.IsTupleIter it a i) where
  mem := by simp
  obj := fun i h st b hb => by
    have e : b = it := by simpa using hb
    subst e
    obtain ⟨o, e, c, d⟩ := st
    exact ⟨o, e, fun v z => by rw [d] at z; cases z⟩
  keep := fun i h h' st k => st.at fun o e => k it (by simp) o e
  item := by
    intro X hP hw hK hc i pins s σ H E I hf st hg
    subst hP hw hK
    obtain ⟨xs, x, hq, hx⟩ := hg
    obtain ⟨its, rv, p, hz⟩ := I.tuple hq
    obtain ⟨u, hu, ru⟩ := rv.get hx
    obtain ⟨f0, f1, f2, f3, f4, f5⟩ := hf it (by simp)
    refine wpAny_pyNext_tuple_item st (show s.heap.IsTuple a its.toArray from p) (x := u) (by simpa using hu) fun h' st' sb => ?_
    have I1 : Inv X pins σ H { s with heap := h' } := I.turned (t' := s.toks) (fun b o hb e => (sb.2 b hb).trans e) f0 f1 f3 f4 f5
    obtain ⟨o, e, c, d⟩ := id st'
    exact ⟨u, rfl, go_of (s := { s with heap := h' }) e c d (by decide) ⟨x, H, I1, ru, ⟨rfl, fun ys hy => by rw [I.tuple_inj hy hq]; exact hx⟩, st', fun b hb => (hf b hb).1⟩⟩
  done := by
    intro X hP hw hK hc i pins s σ H E I hf st hg
    subst hP hw hK
    obtain ⟨xs, hq, hx⟩ := hg
    obtain ⟨its, rv, p, hz⟩ := I.tuple hq
    obtain ⟨f0, f1, f2, f3, f4, f5⟩ := hf it (by simp)
    have hl := rv.length
    exact wpAny_pyNext_tuple_end (I.ok.hd hc) st (show s.heap.IsTuple a its.toArray from p) (by simp; omega) fun h' eb => ⟨rfl, I.turned (t' := s.toks) (fun b o hb e => eb b o hb e) f0 f1 f3 f4 f5⟩
  self := fun _ _ _ _ _ st h => wpAny_pyIter_tupleiter st h
theorem turn_range {P : Program} {w : World} {K : PySem.W.Frag} {tg : Expr} (it : Addr) (lo : Int) (n : Nat) : Turn P w K tg (Itr lo n) [it] it (fun i h => IsRangeIter h it (lo + (i : Nat) * 1) ((n : Int) - (i : Nat)) 1) where
  mem := by simp
  obj := fun i h st b hb => by
    have e : b = it := by simpa using hb
    subst e
    exact ⟨_, st, fun v z => by
      have z' : Data.fields _ = Data.cell v := z
      cases z'⟩
  keep := fun i h h' st k => k it (by simp) _ st
  item := by
    intro X hP hw hK hc i pins s σ H E I hf st hg
    subst hP hw hK
    obtain ⟨f0, f1, f2, f3, f4, f5⟩ := hf it (by simp)
    have W := Walks.range (prog := X.prog) (w := X.w) (I.ok.hd hc) it lo 1 n
    refine W.item i s _ _ hg st fun v h' tk hv st' kk => ?_
    obtain ⟨t, rfl⟩ := hv
    have I1 : Inv X pins σ H { s with heap := h', toks := tk } := I.turned (fun b o hb e => kk b o (by simpa using hb) e) f0 f1 f3 f4 f5
    refine ⟨_, rfl, go_of (s := { s with heap := h', toks := tk }) (n := "range_iterator") st' rfl rfl (by decide) ⟨.int (lo + i), H, I1, ⟨t, ?_⟩, ⟨rfl, rfl⟩, st', fun b hb => (hf b hb).1⟩⟩
    rw [Int.mul_one]
  done := by
    intro X hP hw hK hc i pins s σ H E I hf st hg
    subst hP hw hK
    obtain ⟨f0, f1, f2, f3, f4, f5⟩ := hf it (by simp)
    exact wpAny_pyNext_range_end (I.ok.hd hc) st (by have : n ≤ i := hg; omega) fun h' eb => ⟨rfl, I.turned (t' := s.toks) (fun b o hb e => eb b o hb e) f0 f1 f3 f4 f5⟩
  self := fun _ _ _ _ _ st h => wpAny_pyIter_rangeiter st h
end L2

namespace L2
open PySem PySem.Spec PyProof.Rows
section
variable {X : Cx} {tg : Expr}
def iList (K : PySem.W.Frag) (tl : TE) : TI := fun σ H R => tl σ H fun x H1 => ∃ a, x = .ref a ∧ (∃ xs, SqL K H1 a xs) ∧ R (Itl K a) H1
def iTup (K : PySem.W.Frag) (tl : TE) : TI := fun σ H R => tl σ H fun x H1 => ∃ a, x = .ref a ∧ (∃ xs, SqT K H1 a xs) ∧ R (Itt K a) H1
theorem pi_list {l : Expr} {tl : TE} (hl : PE X l tl) : PI X tg l (iList X.K tl) := by
  intro pins s σ H R I h
  refine thn (hl pins s σ H _ I h) fun v s1 ⟨x, H1, I1, r1, q1⟩ => ?_
  obtain ⟨a, e, ⟨xs, hq⟩, q⟩ := q1
  subst e
  cases r1
  obtain ⟨its, rv, p, hz⟩ := I1.list hq
  refine wpAny_pyIter_list p.isList ?_
  refine ⟨s1.heap.objs.size, [s1.heap.objs.size], _, _, H1, rfl, I1.kept (t' := s1.toks) fun b o e => Heap.get?_push_of_some _ e, turn_list a _, ⟨_, Heap.get?_push_size _ rfl, rfl, rfl⟩, fun b hb => ?_, q⟩
  have e : b = s1.heap.objs.size := by simpa using hb
  subst e
  exact I1.fpOk (Nat.le_refl _) (I1.hok.fresh (Nat.le_refl _))
theorem pi_tup {l : Expr} {tl : TE} (hl : PE X l tl) : PI X tg l (iTup X.K tl) := by
  intro pins s σ H R I h
  refine thn (hl pins s σ H _ I h) fun v s1 ⟨x, H1, I1, r1, q1⟩ => ?_
  obtain ⟨a, e, ⟨xs, hq⟩, q⟩ := q1
  subst e
  cases r1
  obtain ⟨its, rv, p, hz⟩ := I1.tuple hq
  refine wpAny_pyIter_tuple (show s1.heap.IsTuple a its.toArray from p) ?_
  refine ⟨s1.heap.objs.size, [s1.heap.objs.size], _, _, H1, rfl, I1.kept (t' := s1.toks) fun b o e => Heap.get?_push_of_some _ e, turn_tuple a _, ⟨_, Heap.get?_push_size _ rfl, rfl, rfl⟩, fun b hb => ?_, q⟩
  have e : b = s1.heap.objs.size := by simpa using hb
  subst e
  exact I1.fpOk (Nat.le_refl _) (I1.hok.fresh (Nat.le_refl _))
/-- a range object just made, walked -/
theorem range_it {pins : List (Addr × Obj)} {σ : St} {H : Hp} {s : Shared} {R : It → Hp → Prop} {E : Value → Shared → Prop} {lo hi : Int} {t u v : Tok} {tk : Nat} (I : Inv X pins σ H s) (h1 : -(2 ^ 62) ≤ lo) (h2 : lo < 2 ^ 62) (h3 : -(2 ^ 62) ≤ hi) (h4 : hi < 2 ^ 62)
    (q : R (Itr lo (hi - lo).toNat) H) : wpAny (model X.prog X.w) X.A (pyIter (.ref s.heap.objs.size)) (PIE X pins σ tg R) E { s with heap := s.heap.push { cls := .type "range", data := .fields #[.int lo t, .int hi u, .int 1 v] }, toks := tk } := by
  refine wpAny_pyIter_range (IsRange.new ..) (small_one h1 h2 h3 h4) ?_
  have I1 : Inv X pins σ H { s with heap := s.heap.push { cls := .type "range", data := .fields #[.int lo t, .int hi u, .int 1 v] }, toks := tk } := I.kept fun b o e => Heap.get?_push_of_some _ e
  refine ⟨(s.heap.push { cls := .type "range", data := .fields #[.int lo t, .int hi u, .int 1 v] }).objs.size, [(s.heap.push { cls := .type "range", data := .fields #[.int lo t, .int hi u, .int 1 v] }).objs.size], _, _, H, rfl,
    I1.kept (t' := tk) fun b o e => Heap.get?_push_of_some _ e, turn_range _ lo (hi - lo).toNat, ?_, fun b hb => ?_, q⟩
  · have e1 : lo + ((0 : Nat) : Int) * 1 = lo := by simp
    have e2 : (((hi - lo).toNat : Nat) : Int) - ((0 : Nat) : Int) = Builtin.Range.rangeSize lo hi 1 := by rw [rangeSize_one]; split <;> omega
    show IsRangeIter _ _ (lo + ((0 : Nat) : Int) * 1) ((((hi - lo).toNat : Nat) : Int) - ((0 : Nat) : Int)) 1
    rw [e1, e2]
    exact Heap.get?_push_size _ rfl
  · have e : b = (s.heap.push { cls := .type "range", data := .fields #[.int lo t, .int hi u, .int 1 v] }).objs.size := by simpa using hb
    subst e
    exact I1.fpOk (Nat.le_refl _) (I1.hok.fresh (Nat.le_refl _))
def iRng1 (ta : TA) : TI := fun σ H R => ta σ H fun vs H1 => ∃ j : Int, vs = [.int j] ∧ -(2 ^ 62) ≤ j ∧ j < 2 ^ 62 ∧ R (Itr 0 j.toNat) H1
def iRng2 (ta : TA) : TI := fun σ H R => ta σ H fun vs H1 => ∃ i j : Int, vs = [.int i, .int j] ∧ (-(2 ^ 62) ≤ i ∧ i < 2 ^ 62 ∧ -(2 ^ 62) ≤ j ∧ j < 2 ^ 62) ∧ R (Itr i (j - i).toNat) H1
theorem pi_range1 {a : Expr} {ta : TA} {p pos : Pos} (hg : Gl X "range") (hm : X.mg "range" = none) (ha : PA X [a] ta) (hs : starEach [a] X.env = [(false, eval a X.env)] := by rfl) : PI X tg (.Call (.Name "range" p) [a] [] pos) (iRng1 ta) := by
  intro pins s σ H R I h
  refine Call_ (ld_blt I hg hm boot_range (PyProof.Rows.callWith_type1 (thn (ha pos pins s σ H _ I h) fun us s1 ⟨vs, H1, I1, r1, q1⟩ => ?_) hs rfl))
  obtain ⟨j, e, q1, q2, q⟩ := q1
  subst e
  cases r1 with
  | cons r rr =>
    cases rr
    obtain ⟨t, rfl⟩ := r
    exact call_range_1 (range_it I1 (by omega) (by omega) q1 q2 (by simpa using q))
theorem pi_range2 {a b : Expr} {ta : TA} {p pos : Pos} (hg : Gl X "range") (hm : X.mg "range" = none) (ha : PA X [a, b] ta) (hs : starEach [a, b] X.env = [(false, eval a X.env), (false, eval b X.env)] := by rfl) (hs2 : starEach [b] X.env = [(false, eval b X.env)] := by rfl) :
    PI X tg (.Call (.Name "range" p) [a, b] [] pos) (iRng2 ta) := by
  intro pins s σ H R I h
  refine Call_ (ld_blt I hg hm boot_range (PyProof.Rows.callWith_type1 (thn (ha pos pins s σ H _ I h) fun us s1 ⟨vs, H1, I1, r1, q1⟩ => ?_) (by rw [hs, hs2]) (by rw [hs2]; rfl)))
  obtain ⟨i, j, e, ⟨q1, q2, q3, q4⟩, q⟩ := q1
  subst e
  cases r1 with
  | cons r rr =>
    cases rr with
    | cons r' rr =>
      cases rr
      obtain ⟨t, rfl⟩ := r
      obtain ⟨t', rfl⟩ := r'
      exact call_range_2 (range_it I1 q1 q2 q3 q4 q)

/-! ### for -/
/-- W: the invariant by the turn and a measure; N: what the body is to reach -/
def tFor (wi : TI) (g : TG) (tb : TS) : TS := fun D σ H => wi σ H fun J H1 => ∃ W : Nat → Nat → St → Hp → Prop, (∃ m, W 0 m σ H1) ∧ ∀ i m σ H, W i m σ H →
  (J.stop i H ∧ D.nx σ H) ∨ (J.go i H ∧ ∃ N : St → Hp → Prop, (∀ σ' H', N σ' H' → ∃ m', m' < m ∧ W (i + 1) m' σ' H') ∧ ∀ x H', J.yld i H x H' → g x σ H' fun σ2 H2 => tb { D with nx := N, ct := N, bk := D.nx } σ2 H2)
/-- the records at fp as they stand -/
def pinsAt (fp : List Addr) (h : Heap) : List (Addr × Obj) := fp.filterMap fun b => (h.get? b).map fun o => (b, o)
theorem mem_pinsAt {fp : List Addr} {h : Heap} {b : Addr} {o : Obj} (hb : b ∈ fp) (e : h.get? b = some o) : (b, o) ∈ pinsAt fp h := List.mem_filterMap.mpr ⟨b, hb, by rw [e]; rfl⟩
theorem of_pinsAt {fp : List Addr} {h : Heap} {p : Addr × Obj} (hp : p ∈ pinsAt fp h) : p.1 ∈ fp ∧ h.get? p.1 = some p.2 := by
  obtain ⟨b, hb, e⟩ := List.mem_filterMap.mp hp
  cases q : h.get? b with
  | none => rw [q] at e; cases e
  | some o =>
    rw [q] at e
    have e' : (b, o) = p := Option.some.inj e
    subst e'
    exact ⟨hb, q⟩
theorem Inv.pinned {pins : List (Addr × Obj)} {σ : St} {H : Hp} {s : Shared} {fp : List Addr} (I : Inv X pins σ H s) (hf : ∀ b ∈ fp, FpOk X pins H b) (ho : ∀ b ∈ fp, ∃ o, s.heap.get? b = some o ∧ ∀ v, o.data ≠ .cell v) : Inv X (pins ++ pinsAt fp s.heap) σ H s :=
  I.pins_of fun p hp => (List.mem_append.mp hp).elim (fun z => I.pin p (List.mem_append_right _ z)) fun z => by
    obtain ⟨hb, e⟩ := of_pinsAt z
    obtain ⟨f0, f1, f2, _⟩ := hf p.1 hb
    obtain ⟨o, e', d⟩ := ho p.1 hb
    rw [e] at e'; cases e'
    exact ⟨e, f0, f1, f2, d⟩
theorem Inv.unpinned {pins pl : List (Addr × Obj)} {σ : St} {H : Hp} {s : Shared} (I : Inv X (pins ++ pl) σ H s) : Inv X pins σ H s := I.pins_of fun p hp => I.pin p (List.mem_append_right _ (List.mem_append_left _ hp))
theorem ps_for {iter : Expr} {body : List Stmt} {wi : TI} {g : TG} {tb : TS} {pos : Pos} (hp : PassesOwn (model X.prog X.w) X.A X.env X.xe) (hc : X.calm = true) (hi : PI X tg iter wi) (hg : PG X tg g) (hb : PSs X body tb)
    (hs : ∀ x, foldedSetIterable iter X.env x = pure x := by intro _; rfl) : PS X (.For tg iter body [] pos) (tFor wi g tb) := by
  intro pins s σ H D I h
  refine wpAny_For (thn (hi pins s σ H _ I h) fun v s1 h1 => thn h1 fun itv s2 h2 => ?_) hs
  obtain ⟨it, fp, tn, J, H2, e, I2, T, st2, f2, W, ⟨m0, w0⟩, turn⟩ := h2
  subst e
  -- what stays true of the iterator's objects through the loop
  have stat : ∀ {H' : Hp}, (∀ b ∈ fp, H' b = none) → ∀ b ∈ fp, FpOk X pins H' b := fun hn b hb => ⟨hn b hb, (f2 b hb).2⟩
  refine codeAny_forLoop_any (fun n s' => ∃ i σ' H', Inv X pins σ' H' s' ∧ tn i s'.heap ∧ (∀ b ∈ fp, H' b = none) ∧ W i n σ' H') ?_ m0 ⟨0, σ, H2, I2, st2, fun b hb => (f2 b hb).1, w0⟩
  rintro n s3 ⟨i, σ3, H3, I3, st3, fr3, w3⟩
  rcases turn i n σ3 H3 w3 with ⟨stop, qn⟩ | ⟨go, N, hN, step⟩
  · refine wpAny_passesOwn hp (thn (T.done X rfl rfl rfl hc i pins s3 σ3 H3 X.xe I3 (stat fr3) st3 stop) fun r s4 ⟨hr, I4⟩ => ?_)
    subst hr
    exact wpAny_execs_nil ⟨σ3, H3, I4, qn⟩
  · refine wpAny_passesOwn hp (thn (T.item X rfl rfl rfl hc i pins s3 σ3 H3 X.xe I3 (stat fr3) st3 go) fun r s4 ⟨u, hr, h4⟩ => ?_)
    subst hr
    refine wpAny_passesOwn hp (thn h4 fun _ s5 ⟨x, H5, I5, r5, y5, st5, fr5⟩ => ?_)
    have I5' := I5.pinned (stat fr5) (T.obj _ _ st5)
    refine wpAny_passesOwn hp (thn (hg _ s5 σ3 H5 x u _ I5' r5 (step x H5 y5)) fun _ s6 ⟨σ6, H6, I6, q6⟩ => ?_)
    refine wpAny_passesOwn hp (thn (hb _ s6 σ6 H6 _ I6 q6) fun f s7 q7 => ?_)
    have again : ∀ {σ7 : St} {H7 : Hp}, Inv X (pins ++ pinsAt fp s5.heap) σ7 H7 s7 → N σ7 H7 → ∃ m, m < n ∧ ∃ i σ' H', Inv X pins σ' H' s7 ∧ tn i s7.heap ∧ (∀ b ∈ fp, H' b = none) ∧ W i m σ' H' := fun {σ7 H7} I7 n7 => by
      obtain ⟨m', hm, w7⟩ := hN σ7 H7 n7
      refine ⟨m', hm, i + 1, σ7, H7, I7.unpinned, T.keep _ _ _ st5 fun b hb o e => (I7.pin (b, o) (List.mem_append_right _ (List.mem_append_right _ (mem_pinsAt hb e)))).1, fun b hb => ?_, w7⟩
      obtain ⟨o, e, d⟩ := T.obj _ _ st5 b hb
      exact (I7.pin (b, o) (List.mem_append_right _ (List.mem_append_right _ (mem_pinsAt hb e)))).2.1
    cases f with
    | next => obtain ⟨σ7, H7, I7, n7⟩ := q7; exact again I7 n7
    | cont => obtain ⟨σ7, H7, I7, n7⟩ := q7; exact again I7 n7
    | brk => obtain ⟨σ7, H7, I7, q7⟩ := q7; exact ⟨σ7, H7, I7.unpinned, q7⟩
    | ret v => obtain ⟨x7, σ7, H7, I7, r7, q7⟩ := q7; exact ⟨x7, σ7, H7, I7.unpinned, r7, q7⟩
end

/-! ### the forms one uses -/
/-- over a list that the body leaves as it is -/
theorem for_list {K : PySem.W.Frag} {a : Addr} {xs : List V} {g : TG} {tb : TS} {D : Ends} {σ : St} {H : Hp} (Pv : Nat → St → Hp → Prop) (h0 : Pv 0 σ H) (hl : ∀ i σ H, i ≤ xs.length → Pv i σ H → SqL K H a xs)
    (hs : ∀ i x σ H, xs[i]? = some x → Pv i σ H → g x σ H fun σ2 H2 => tb { D with nx := Pv (i + 1), ct := Pv (i + 1), bk := D.nx } σ2 H2) (hd : ∀ σ H, Pv xs.length σ H → D.nx σ H) :
    ∃ W : Nat → Nat → St → Hp → Prop, (∃ m, W 0 m σ H) ∧ ∀ i m σ H, W i m σ H →
      ((Itl K a).stop i H ∧ D.nx σ H) ∨ ((Itl K a).go i H ∧ ∃ N : St → Hp → Prop, (∀ σ' H', N σ' H' → ∃ m', m' < m ∧ W (i + 1) m' σ' H') ∧ ∀ x H', (Itl K a).yld i H x H' → g x σ H' fun σ2 H2 => tb { D with nx := N, ct := N, bk := D.nx } σ2 H2) := by
  refine ⟨fun i m σ H => m = xs.length - i ∧ i ≤ xs.length ∧ Pv i σ H, ⟨xs.length, by simp, Nat.zero_le _, h0⟩, ?_⟩
  rintro i m σ H ⟨rfl, hi, p⟩
  have q := hl i σ H hi p
  by_cases hlt : i < xs.length
  · refine .inr ⟨⟨xs, xs[i], q, by simp [hlt]⟩, Pv (i + 1), fun σ' H' p' => ⟨xs.length - (i + 1), by omega, rfl, hlt, p'⟩, fun x H' y => ?_⟩
    obtain ⟨e, y⟩ := y
    subst e
    exact hs i x σ _ (y xs q) p
  · have e : i = xs.length := by omega
    subst e
    exact .inl ⟨⟨xs, q, Nat.le_refl _⟩, hd σ H p⟩
theorem for_tup {K : PySem.W.Frag} {a : Addr} {xs : List V} {g : TG} {tb : TS} {D : Ends} {σ : St} {H : Hp} (Pv : Nat → St → Hp → Prop) (h0 : Pv 0 σ H) (hl : ∀ i σ H, i ≤ xs.length → Pv i σ H → SqT K H a xs)
    (hs : ∀ i x σ H, xs[i]? = some x → Pv i σ H → g x σ H fun σ2 H2 => tb { D with nx := Pv (i + 1), ct := Pv (i + 1), bk := D.nx } σ2 H2) (hd : ∀ σ H, Pv xs.length σ H → D.nx σ H) :
    ∃ W : Nat → Nat → St → Hp → Prop, (∃ m, W 0 m σ H) ∧ ∀ i m σ H, W i m σ H →
      ((Itt K a).stop i H ∧ D.nx σ H) ∨ ((Itt K a).go i H ∧ ∃ N : St → Hp → Prop, (∀ σ' H', N σ' H' → ∃ m', m' < m ∧ W (i + 1) m' σ' H') ∧ ∀ x H', (Itt K a).yld i H x H' → g x σ H' fun σ2 H2 => tb { D with nx := N, ct := N, bk := D.nx } σ2 H2) := by
  refine ⟨fun i m σ H => m = xs.length - i ∧ i ≤ xs.length ∧ Pv i σ H, ⟨xs.length, by simp, Nat.zero_le _, h0⟩, ?_⟩
  rintro i m σ H ⟨rfl, hi, p⟩
  have q := hl i σ H hi p
  by_cases hlt : i < xs.length
  · refine .inr ⟨⟨xs, xs[i], q, by simp [hlt]⟩, Pv (i + 1), fun σ' H' p' => ⟨xs.length - (i + 1), by omega, rfl, hlt, p'⟩, fun x H' y => ?_⟩
    obtain ⟨e, y⟩ := y
    subst e
    exact hs i x σ _ (y xs q) p
  · have e : i = xs.length := by omega
    subst e
    exact .inl ⟨⟨xs, q, Nat.le_refl _⟩, hd σ H p⟩
theorem for_range {lo : Int} {n : Nat} {g : TG} {tb : TS} {D : Ends} {σ : St} {H : Hp} (Pv : Nat → St → Hp → Prop) (h0 : Pv 0 σ H)
    (hs : ∀ i σ H, i < n → Pv i σ H → g (.int (lo + i)) σ H fun σ2 H2 => tb { D with nx := Pv (i + 1), ct := Pv (i + 1), bk := D.nx } σ2 H2) (hd : ∀ σ H, Pv n σ H → D.nx σ H) :
    ∃ W : Nat → Nat → St → Hp → Prop, (∃ m, W 0 m σ H) ∧ ∀ i m σ H, W i m σ H →
      ((Itr lo n).stop i H ∧ D.nx σ H) ∨ ((Itr lo n).go i H ∧ ∃ N : St → Hp → Prop, (∀ σ' H', N σ' H' → ∃ m', m' < m ∧ W (i + 1) m' σ' H') ∧ ∀ x H', (Itr lo n).yld i H x H' → g x σ H' fun σ2 H2 => tb { D with nx := N, ct := N, bk := D.nx } σ2 H2) := by
  refine ⟨fun i m σ H => m = n - i ∧ i ≤ n ∧ Pv i σ H, ⟨n, by simp, Nat.zero_le _, h0⟩, ?_⟩
  rintro i m σ H ⟨rfl, hi, p⟩
  by_cases hlt : i < n
  · refine .inr ⟨hlt, Pv (i + 1), fun σ' H' p' => ⟨n - (i + 1), by omega, rfl, hlt, p'⟩, fun x H' y => ?_⟩
    obtain ⟨e, y⟩ := y
    subst e y
    exact hs i σ _ hlt p
  · have e : i = n := by omega
    subst e
    exact .inl ⟨Nat.le_refl _, hd σ H p⟩
/-- while, by a word and a measure of the state -/
theorem while_by {c : TT} {tb : TS} {D : Ends} {σ : St} {H : Hp} (Pv : St → Hp → Prop) (μ : St → Hp → Nat) (h0 : Pv σ H)
    (hs : ∀ σ H, Pv σ H → c σ H fun b H1 => if b = true then tb { D with nx := fun σ' H' => Pv σ' H' ∧ μ σ' H' < μ σ H, ct := fun σ' H' => Pv σ' H' ∧ μ σ' H' < μ σ H, bk := D.nx } σ H1 else D.nx σ H1)
    (mono : ∀ σ H Q Q', (∀ b H1, Q b H1 → Q' b H1) → c σ H Q → c σ H Q') : tWhile c tb D σ H := by
  refine ⟨fun m σ H => m = μ σ H ∧ Pv σ H, ⟨_, rfl, h0⟩, ?_⟩
  rintro m σ H ⟨rfl, p⟩
  refine mono σ H _ _ (fun b H1 q => ?_) (hs σ H p)
  cases b with
  | true => exact ⟨_, fun σ' H' ⟨p', l⟩ => ⟨_, l, rfl, p'⟩, q⟩
  | false => exact q
end L2

namespace L2
open PySem PySem.Spec PyProof.Rows

abbrev R2 := V → V → Hp → VK → Prop
/-- a two-place operation on values: f is binaryOp op, inplaceOp op or compareOp op -/
def OpR (X : Cx) (f : Value → Value → Sem Value) (r : R2) : Prop :=
  ∀ (pins : List (Addr × Obj)) (s : Shared) (σ : St) (H : Hp) (x y : V) (v u : Value) (Q : VK), Inv X pins σ H s → RelV x v → RelV y u → r x y H Q →
    wpAny (model X.prog X.w) X.A (f v u) (EP X pins σ Q) X.xe s
/-- a one-place operation -/
def UnR (X : Cx) (f : Value → Sem Value) (r : V → Hp → VK → Prop) : Prop :=
  ∀ (pins : List (Addr × Obj)) (s : Shared) (σ : St) (H : Hp) (x : V) (v : Value) (Q : VK), Inv X pins σ H s → RelV x v → r x H Q →
    wpAny (model X.prog X.w) X.A (f v) (EP X pins σ Q) X.xe s
/-- a call of a value that is known (a builtin, a type) with values -/
def CallR (X : Cx) (f : Value) (r : List V → Hp → VK → Prop) : Prop :=
  ∀ (pins : List (Addr × Obj)) (s : Shared) (σ : St) (H : Hp) (xs : List V) (us : List Value) (Q : VK), Inv X pins σ H s → Vals xs us → r xs H Q →
    wpAny (model X.prog X.w) X.A (call f us) (EP X pins σ Q) X.xe s
/-- a value's truth -/
def TruR (X : Cx) (r : V → Hp → (Bool → Hp → Prop) → Prop) : Prop :=
  ∀ (pins : List (Addr × Obj)) (s : Shared) (σ : St) (H : Hp) (x : V) (v : Value) (Q : Bool → Hp → Prop), Inv X pins σ H s → RelV x v → r x H Q →
    wpAny (model X.prog X.w) X.A (truthy v) (TP X pins σ Q) X.xe s

def tOp (r : R2) (ta tb : TE) : TE := fun σ H Q => ta σ H fun x H1 => tb σ H1 fun y H2 => r x y H2 Q
def tUn (r : V → Hp → VK → Prop) (ta : TE) : TE := fun σ H Q => ta σ H fun x H1 => r x H1 Q
/-- ints in, under C, and a value out -/
def rI (C : Int → Int → Prop) (g : Int → Int → V) : R2 := fun x y H Q => ∃ i j, x = .int i ∧ y = .int j ∧ C i j ∧ Q (g i j) H
def rI0 (g : Int → Int → V) : R2 := fun x y H Q => ∃ i j, x = .int i ∧ y = .int j ∧ Q (g i j) H
def rU (g : Int → V) : V → Hp → VK → Prop := fun x H Q => ∃ i, x = .int i ∧ Q (g i) H

section
variable {X : Cx} {a b c : Expr} {ta tb tc : TE} {pos : Pos}

theorem binT (ha : PE X a ta) (hb : PE X b tb) {pins : List (Addr × Obj)} {s : Shared} {σ : St} {H : Hp} {R : V → V → Hp → Prop} (I : Inv X pins σ H s)
    (h : ta σ H fun x H1 => tb σ H1 fun y H2 => R x y H2) {Q : Value → Shared → Prop} {f : Value → Value → Sem Value}
    (hf : ∀ v u s2 x y H2, Inv X pins σ H2 s2 → RelV x v → RelV y u → R x y H2 → wpAny (model X.prog X.w) X.A (f v u) Q X.xe s2) :
    wpAny (model X.prog X.w) X.A (eval a X.env) (fun v s₁ => wpAny (model X.prog X.w) X.A (eval b X.env) (fun u s₂ => wpAny (model X.prog X.w) X.A (f v u) Q X.xe s₂) X.xe s₁) X.xe s := by
  refine thn (ha pins s σ H _ I h) fun v s1 ⟨x, H1, I1, r1, q1⟩ => ?_
  refine thn (hb pins s1 σ H1 _ I1 q1) fun u s2 ⟨y, H2, I2, r2, q2⟩ => ?_
  exact hf v u s2 x y H2 I2 r1 r2 q2

theorem pe_op {op : Operator} {r : R2} (ho : OpR X (binaryOp op) r) (ha : PE X a ta) (hb : PE X b tb) : PE X (.BinOp a op b pos) (tOp r ta tb) := by
  intro pins s σ H Q I h
  exact wpAny_BinOp (binT ha hb I h fun v u s2 x y H2 I2 rx ry q => ho pins s2 σ H2 x y v u Q I2 rx ry q)
theorem pe_un {op : UnaryOp} {r : V → Hp → VK → Prop} (ho : UnR X (unaryOp op) r) (ha : PE X a ta) : PE X (.UnaryOp op a pos) (tUn r ta) := by
  intro pins s σ H Q I h
  exact UnaryOp_ (thn (ha pins s σ H _ I h) fun v s1 ⟨x, H1, I1, r1, q1⟩ => ho pins s1 σ H1 x v Q I1 r1 q1)
/-- a op= e at a name: the name's slot i -/
theorem augR {op : Operator} {r : R2} (ho : OpR X (inplaceOp op) r) {pins : List (Addr × Obj)} {s : Shared} {σ : St} {H : Hp} {x y : V} {v u : Value} {Q : VK} (I : Inv X pins σ H s)
    (rx : RelV x v) (ry : RelV y u) (q : r x y H Q) : wpAny (model X.prog X.w) X.A (inplaceOp op v u) (EP X pins σ Q) X.xe s := ho pins s σ H x y v u Q I rx ry q

/-! ### ints -/
theorem opI {f : Value → Value → Sem Value} {C : Int → Int → Prop} {g : Int → Int → Int}
    (rule : ∀ (i j : Int) (t u : Tok) (s : Shared) (Q : Value → Shared → Prop) (E : Value → Shared → Prop), C i j → Q (.int (g i j) s.toks) { s with toks := s.toks + 1 } → wpAny (model X.prog X.w) X.A (f (.int i t) (.int j u)) Q E s) :
    OpR X f (rI C fun i j => .int (g i j)) := by
  intro pins s σ H x y v u Q I rx ry h
  obtain ⟨i, j, rfl, rfl, hc, q⟩ := h
  obtain ⟨t, rfl⟩ := rx
  obtain ⟨t', rfl⟩ := ry
  exact rule i j t t' s _ _ hc ⟨.int (g i j), H, I.tok _, ⟨_, rfl⟩, q⟩
theorem opI0 {f : Value → Value → Sem Value} {g : Int → Int → Int}
    (rule : ∀ (i j : Int) (t u : Tok) (s : Shared) (Q : Value → Shared → Prop) (E : Value → Shared → Prop), Q (.int (g i j) s.toks) { s with toks := s.toks + 1 } → wpAny (model X.prog X.w) X.A (f (.int i t) (.int j u)) Q E s) :
    OpR X f (rI0 fun i j => .int (g i j)) := by
  intro pins s σ H x y v u Q I rx ry h
  obtain ⟨i, j, rfl, rfl, q⟩ := h
  obtain ⟨t, rfl⟩ := rx
  obtain ⟨t', rfl⟩ := ry
  exact rule i j t t' s _ _ ⟨.int (g i j), H, I.tok _, ⟨_, rfl⟩, q⟩
theorem opB0 {f : Value → Value → Sem Value} {g : Int → Int → Bool}
    (rule : ∀ (i j : Int) (t u : Tok) (s : Shared) (Q : Value → Shared → Prop) (E : Value → Shared → Prop), Q (.bool (g i j)) s → wpAny (model X.prog X.w) X.A (f (.int i t) (.int j u)) Q E s) :
    OpR X f (rI0 fun i j => .bl (g i j)) := by
  intro pins s σ H x y v u Q I rx ry h
  obtain ⟨i, j, rfl, rfl, q⟩ := h
  obtain ⟨t, rfl⟩ := rx
  obtain ⟨t', rfl⟩ := ry
  exact rule i j t t' s _ _ ⟨.bl (g i j), H, I, rfl, q⟩

def CDiv (i j : Int) : Prop := 0 < j ∧ j < 1073741824
def CDivN (i j : Int) : Prop := j ≠ 0 ∧ j.natAbs < 1073741824
def CPow (i j : Int) : Prop := 0 ≤ j ∧ j ≤ 1000000 ∧ i.natAbs < 2 ^ 64
def CMul (i j : Int) : Prop := (-(2 ^ 64) < i ∧ i < 2 ^ 64) ∨ (-(2 ^ 64) < j ∧ j < 2 ^ 64)
theorem CMul.ok {i j : Int} (h : CMul i j) : IntMulOk i j := by
  rcases h with ⟨h1, h2⟩ | ⟨h1, h2⟩
  · exact .of_left (intBits_le_64 h1 h2)
  · exact .of_right (intBits_le_64 h1 h2)
theorem two_pow_nn (k : Nat) : (0 : Int) ≤ 2 ^ k := by
  rw [two_pow_cast]
  exact Int.natCast_nonneg _

theorem op_add : OpR X (binaryOp .Add) (rI0 fun i j => .int (i + j)) := opI0 fun _ _ _ _ _ _ _ q => add_int q
theorem op_sub : OpR X (binaryOp .Sub) (rI0 fun i j => .int (i - j)) := opI0 fun _ _ _ _ _ _ _ q => sub_int q
theorem op_mul : OpR X (binaryOp .Mult) (rI CMul fun i j => .int (i * j)) := opI fun _ _ _ _ _ _ _ hc q => mul_int q hc.ok
/-- // by a positive divisor -/
theorem op_fdiv : OpR X (binaryOp .FloorDiv) (rI CDiv fun i j => .int (i / j)) := opI fun i j _ _ _ _ _ hc q => by
  have h1 : (0 : Int) < j := hc.1
  have h2 : j < 1073741824 := hc.2
  exact floordiv_int (by omega) (by rw [Int.fdiv_eq_ediv_of_nonneg i (by omega)]; exact q) (.inl (PyProof.noPylong_small (by omega)))
theorem op_fdivN : OpR X (binaryOp .FloorDiv) (rI CDivN fun i j => .int (i.fdiv j)) := opI fun _ _ _ _ _ _ _ hc q => floordiv_int hc.1 q (.inl (PyProof.noPylong_small hc.2))
/-- % by a positive divisor of any size -/
theorem op_mod : OpR X (binaryOp .Mod) (rI (fun _ j => 0 < j) fun i j => .int (i % j)) := opI fun i j _ _ _ _ _ hc q => by
  have h1 : (0 : Int) < j := hc
  exact mod_int' (by omega) (by rw [Int.fmod_eq_emod_of_nonneg i (by omega)]; exact q)
theorem op_modN : OpR X (binaryOp .Mod) (rI (fun _ j => j ≠ 0) fun i j => .int (i.fmod j)) := opI fun _ _ _ _ _ _ _ hc q => mod_int' hc q
theorem op_pow : OpR X (binaryOp .Pow) (rI CPow fun i j => .int (i ^ j.toNat)) := opI fun _ _ _ _ _ _ _ hc q => pow_int_small hc.1 hc.2.1 hc.2.2 q
theorem op_shl : OpR X (binaryOp .LShift) (rI CPow fun i j => .int (i * 2 ^ j.toNat)) := opI fun _ _ _ _ _ _ _ hc q => lshift_int_small hc.1 hc.2.1 hc.2.2 q
theorem op_shr : OpR X (binaryOp .RShift) (rI (fun _ j => 0 ≤ j) fun i j => .int (i / 2 ^ j.toNat)) := opI fun i j _ _ _ _ _ hc q =>
  rshift_int hc (by rw [Int.fdiv_eq_ediv_of_nonneg i (two_pow_nn _)]; exact q)
theorem op_and : OpR X (binaryOp .BitAnd) (rI0 fun i j => .int (Builtin.bitAnd i j)) := opI0 fun _ _ _ _ _ _ _ q => and_int q
theorem op_or : OpR X (binaryOp .BitOr) (rI0 fun i j => .int (Builtin.bitOr i j)) := opI0 fun _ _ _ _ _ _ _ q => or_int q
theorem op_xor : OpR X (binaryOp .BitXor) (rI0 fun i j => .int (Builtin.bitXor i j)) := opI0 fun _ _ _ _ _ _ _ q => xor_int q

theorem iop_add : OpR X (inplaceOp .Add) (rI0 fun i j => .int (i + j)) := opI0 fun _ _ _ _ _ _ _ q => iadd_int q
theorem iop_sub : OpR X (inplaceOp .Sub) (rI0 fun i j => .int (i - j)) := opI0 fun _ _ _ _ _ _ _ q => isub_int q
theorem iop_mul : OpR X (inplaceOp .Mult) (rI CMul fun i j => .int (i * j)) := opI fun _ _ _ _ _ _ _ hc q => imul_int q hc.ok
theorem iop_fdiv : OpR X (inplaceOp .FloorDiv) (rI CDiv fun i j => .int (i / j)) := opI fun i j _ _ _ _ _ hc q => by
  have h1 : (0 : Int) < j := hc.1
  have h2 : j < 1073741824 := hc.2
  exact ifloordiv_int (by omega) (by rw [Int.fdiv_eq_ediv_of_nonneg i (by omega)]; exact q) (.inl (PyProof.noPylong_small (by omega)))
theorem iop_mod : OpR X (inplaceOp .Mod) (rI (fun _ j => 0 < j) fun i j => .int (i % j)) := opI fun i j _ _ _ _ _ hc q => by
  have h1 : (0 : Int) < j := hc
  exact imod_int (by omega) (by rw [Int.fmod_eq_emod_of_nonneg i (by omega)]; exact q)
theorem iop_shl : OpR X (inplaceOp .LShift) (rI CPow fun i j => .int (i * 2 ^ j.toNat)) := opI fun _ _ _ _ _ _ _ hc q => ilshift_int_small hc.1 hc.2.1 hc.2.2 q
theorem iop_shr : OpR X (inplaceOp .RShift) (rI (fun _ j => 0 ≤ j) fun i j => .int (i / 2 ^ j.toNat)) := opI fun i j _ _ _ _ _ hc q =>
  irshift_int hc (by rw [Int.fdiv_eq_ediv_of_nonneg i (two_pow_nn _)]; exact q)
theorem iop_and : OpR X (inplaceOp .BitAnd) (rI0 fun i j => .int (Builtin.bitAnd i j)) := opI0 fun _ _ _ _ _ _ _ q => iand_int q
theorem iop_or : OpR X (inplaceOp .BitOr) (rI0 fun i j => .int (Builtin.bitOr i j)) := opI0 fun _ _ _ _ _ _ _ q => ior_int q
theorem iop_xor : OpR X (inplaceOp .BitXor) (rI0 fun i j => .int (Builtin.bitXor i j)) := opI0 fun _ _ _ _ _ _ _ q => ixor_int q

theorem unI {f : Value → Sem Value} {g : Int → Int}
    (rule : ∀ (i : Int) (t : Tok) (s : Shared) (Q : Value → Shared → Prop) (E : Value → Shared → Prop), Q (.int (g i) s.toks) { s with toks := s.toks + 1 } → wpAny (model X.prog X.w) X.A (f (.int i t)) Q E s) :
    UnR X f (rU fun i => .int (g i)) := by
  intro pins s σ H x v Q I rx h
  obtain ⟨i, rfl, q⟩ := h
  obtain ⟨t, rfl⟩ := rx
  exact rule i t s _ _ ⟨.int (g i), H, I.tok _, ⟨_, rfl⟩, q⟩
theorem un_neg : UnR X (unaryOp .USub) (rU fun i => .int (-i)) := unI fun _ _ _ _ _ q => neg_int q
theorem un_inv : UnR X (unaryOp .Invert) (rU fun i => .int (Builtin.bitNot i)) := unI fun _ _ _ _ _ q => invert_int q

/-! ### bools among ints: n += (a < b) -/
theorem op_add_ib : OpR X (binaryOp .Add) (fun x y H Q => ∃ i k, x = .int i ∧ y = .bl k ∧ Q (.int (i + b2i k)) H) := by
  intro pins s σ H x y v u Q I rx ry h
  obtain ⟨i, k, rfl, rfl, q⟩ := h
  obtain ⟨t, rfl⟩ := rx
  cases ry
  exact add_int_bool ⟨.int (i + b2i k), H, I.tok _, ⟨_, rfl⟩, q⟩
end

/-! ### comparisons -/
/-- the scalars that == tells apart as data does -/
def scal : V → V → Bool
  | .non, .non => true | .non, .int _ => true | .int _, .non => true | .non, .bl _ => true | .bl _, .non => true | .non, .str _ => true | .str _, .non => true
  | .int _, .int _ => true | .bl _, .bl _ => true | .str _, .str _ => true | .byt _, .byt _ => true
  | .int _, .str _ => true | .str _, .int _ => true | .bl _, .str _ => true | .str _, .bl _ => true
  | _, _ => false
def rEq : R2 := fun x y H Q => scal x y = true ∧ Q (.bl (decide (x = y))) H
def rNe : R2 := fun x y H Q => scal x y = true ∧ Q (.bl (!decide (x = y))) H

theorem dec_int {i j : Int} : decide (V.int i = V.int j) = (i == j) := by
  rw [Bool.eq_iff_iff]
  simp
theorem dec_bl {i j : Bool} : decide (V.bl i = V.bl j) = (i == j) := by
  rw [Bool.eq_iff_iff]
  simp
theorem dec_str {i j : Str} : decide (V.str i = V.str j) = (i == j) := by
  rw [Bool.eq_iff_iff]
  simp
theorem dec_byt {i j : Array UInt8} : decide (V.byt i = V.byt j) = (i.toList == j.toList) := by
  rw [Bool.eq_iff_iff]
  cases i
  cases j
  simp

section
variable {X : Cx} {a b c : Expr} {ta tb tc : TE} {pos : Pos}
theorem fin_bl {pins : List (Addr × Obj)} {σ : St} {H : Hp} {s : Shared} {Q : VK} {k k' : Bool} (I : Inv X pins σ H s) (q : Q (.bl k) H) (e : k = k') : EP X pins σ Q (.bool k') s := by
  subst e
  exact ⟨.bl k, H, I, rfl, q⟩
theorem op_eq : OpR X (compareOp .Eq) rEq := by
  intro pins s σ H x y v u Q I rx ry h
  obtain ⟨hs, q⟩ := h
  cases x with
  | non =>
    cases rx
    cases y with
    | non => cases ry; exact PySem.EqNone.eq_none_none (fin_bl I q (by simp))
    | bl j => cases ry; exact PySem.EqNone.eq_none_bool (fin_bl I q (by simp))
    | int j => obtain ⟨t', rfl⟩ := ry; exact PySem.EqNone.eq_none_int (fin_bl I q (by simp))
    | str j => obtain ⟨t', rfl⟩ := ry; exact PySem.EqNone.eq_none_str (fin_bl I q (by simp))
    | _ => exact absurd (show false = true from hs) Bool.false_ne_true
  | bl i =>
    cases rx
    cases y with
    | non => cases ry; exact PySem.EqNone.eq_bool_none (fin_bl I q (by simp))
    | bl j => cases ry; exact eq_bool (fin_bl I q dec_bl)
    | str j => obtain ⟨t', rfl⟩ := ry; exact PySem.EqMixed.eq_bool_str (fin_bl I q (by simp))
    | _ => exact absurd (show false = true from hs) Bool.false_ne_true
  | int i =>
    obtain ⟨t, rfl⟩ := rx
    cases y with
    | non => cases ry; exact PySem.EqNone.eq_int_none (fin_bl I q (by simp))
    | int j => obtain ⟨t', rfl⟩ := ry; exact eq_int (fin_bl I q dec_int)
    | str j => obtain ⟨t', rfl⟩ := ry; exact PySem.EqMixed.eq_int_str (fin_bl I q (by simp))
    | _ => exact absurd (show false = true from hs) Bool.false_ne_true
  | str i =>
    obtain ⟨t, rfl⟩ := rx
    cases y with
    | non => cases ry; exact PySem.EqNone.eq_str_none (fin_bl I q (by simp))
    | bl j => cases ry; exact PySem.EqMixed.eq_str_bool (fin_bl I q (by simp))
    | int j => obtain ⟨t', rfl⟩ := ry; exact PySem.EqMixed.eq_str_int (fin_bl I q (by simp))
    | str j => obtain ⟨t', rfl⟩ := ry; exact eq_str (fin_bl I q dec_str)
    | _ => exact absurd (show false = true from hs) Bool.false_ne_true
  | byt i =>
    obtain ⟨t, rfl⟩ := rx
    cases y with
    | byt j => obtain ⟨t', rfl⟩ := ry; exact PySem.W.eq_bytes (fin_bl I q dec_byt)
    | _ => exact absurd (show false = true from hs) Bool.false_ne_true
  | _ => cases y <;> exact absurd (show false = true from hs) Bool.false_ne_true
theorem op_ne : OpR X (compareOp .NotEq) rNe := by
  intro pins s σ H x y v u Q I rx ry h
  obtain ⟨hs, q⟩ := h
  cases x with
  | non =>
    cases rx
    cases y with
    | non => cases ry; exact PySem.EqNone.ne_none_none (fin_bl I q (by simp))
    | bl j => cases ry; exact PySem.EqNone.ne_none_bool (fin_bl I q (by simp))
    | int j => obtain ⟨t', rfl⟩ := ry; exact PySem.EqNone.ne_none_int (fin_bl I q (by simp))
    | str j => obtain ⟨t', rfl⟩ := ry; exact PySem.EqNone.ne_none_str (fin_bl I q (by simp))
    | _ => exact absurd (show false = true from hs) Bool.false_ne_true
  | bl i =>
    cases rx
    cases y with
    | non => cases ry; exact PySem.EqNone.ne_bool_none (fin_bl I q (by simp))
    | bl j => cases ry; exact ne_bool (fin_bl I q (congrArg not dec_bl))
    | str j => obtain ⟨t', rfl⟩ := ry; exact PySem.EqMixed.ne_bool_str (fin_bl I q (by simp))
    | _ => exact absurd (show false = true from hs) Bool.false_ne_true
  | int i =>
    obtain ⟨t, rfl⟩ := rx
    cases y with
    | non => cases ry; exact PySem.EqNone.ne_int_none (fin_bl I q (by simp))
    | int j => obtain ⟨t', rfl⟩ := ry; exact ne_int (fin_bl I q (congrArg not dec_int))
    | str j => obtain ⟨t', rfl⟩ := ry; exact PySem.EqMixed.ne_int_str (fin_bl I q (by simp))
    | _ => exact absurd (show false = true from hs) Bool.false_ne_true
  | str i =>
    obtain ⟨t, rfl⟩ := rx
    cases y with
    | non => cases ry; exact PySem.EqNone.ne_str_none (fin_bl I q (by simp))
    | bl j => cases ry; exact PySem.EqMixed.ne_str_bool (fin_bl I q (by simp))
    | int j => obtain ⟨t', rfl⟩ := ry; exact PySem.EqMixed.ne_str_int (fin_bl I q (by simp))
    | str j => obtain ⟨t', rfl⟩ := ry; exact ne_str (fin_bl I q (congrArg not dec_str))
    | _ => exact absurd (show false = true from hs) Bool.false_ne_true
  | byt i =>
    obtain ⟨t, rfl⟩ := rx
    cases y with
    | byt j => obtain ⟨t', rfl⟩ := ry; exact PySem.W.ne_bytes (fin_bl I q (congrArg not dec_byt))
    | _ => exact absurd (show false = true from hs) Bool.false_ne_true
  | _ => cases y <;> exact absurd (show false = true from hs) Bool.false_ne_true

theorem op_lt : OpR X (compareOp .Lt) (rI0 fun i j => .bl (decide (i < j))) := opB0 fun _ _ _ _ _ _ _ q => lt_int q
theorem op_le : OpR X (compareOp .LtE) (rI0 fun i j => .bl (decide (i ≤ j))) := opB0 fun _ _ _ _ _ _ _ q => le_int q
theorem op_gt : OpR X (compareOp .Gt) (rI0 fun i j => .bl (decide (j < i))) := opB0 fun _ _ _ _ _ _ _ q => gt_int q
theorem op_ge : OpR X (compareOp .GtE) (rI0 fun i j => .bl (decide (j ≤ i))) := opB0 fun _ _ _ _ _ _ _ q => ge_int q
theorem op_lt_str : OpR X (compareOp .Lt) (fun x y H Q => ∃ i j, x = .str i ∧ y = .str j ∧ Q (.bl (decide (i.cps.toList < j.cps.toList))) H) := by
  intro pins s σ H x y v u Q I rx ry h
  obtain ⟨i, j, rfl, rfl, q⟩ := h
  obtain ⟨t, rfl⟩ := rx
  obtain ⟨t', rfl⟩ := ry
  exact lt_str (fin_bl I q rfl)
/-- the one string within the other -/
theorem op_in_str : OpR X (compareOp .In) (fun x y H Q => ∃ i j, x = .str i ∧ y = .str j ∧ Q (.bl (!(Builtin.Str.occurrences j i 0 j.length 1).isEmpty)) H) := by
  intro pins s σ H x y v u Q I rx ry h
  obtain ⟨i, j, rfl, rfl, q⟩ := h
  obtain ⟨t, rfl⟩ := rx
  obtain ⟨t', rfl⟩ := ry
  exact in_str (fin_bl I q rfl)

/-- is None, is not None: the right side a value none -/
theorem op_isN : OpR X (compareOp .Is) (fun x y H Q => y = .non ∧ Q (.bl (decide (x = .non))) H) := by
  intro pins s σ H x y v u Q I rx ry h
  obtain ⟨rfl, q⟩ := h
  cases ry
  refine is_none_gen (fin_bl I q ?_)
  cases x <;> first
    | (cases rx; rfl)
    | (obtain ⟨t, rfl⟩ := rx; rfl)
theorem op_notN : OpR X (compareOp .IsNot) (fun x y H Q => y = .non ∧ Q (.bl (!decide (x = .non))) H) := by
  intro pins s σ H x y v u Q I rx ry h
  obtain ⟨rfl, q⟩ := h
  cases ry
  refine isnot_none_gen (fin_bl I q ?_)
  cases x <;> first
    | (cases rx; rfl)
    | (obtain ⟨t, rfl⟩ := rx; rfl)

theorem op_notin_str : OpR X (compareOp .NotIn) (fun x y H Q => ∃ i j, x = .str i ∧ y = .str j ∧ Q (.bl (!(!(Builtin.Str.occurrences j i 0 j.length 1).isEmpty))) H) := by
  intro pins s σ H x y v u Q I rx ry h
  obtain ⟨i, j, rfl, rfl, q⟩ := h
  obtain ⟨t, rfl⟩ := rx
  obtain ⟨t', rfl⟩ := ry
  exact notIn_str (fin_bl I q rfl)
/-- is, is not of two objects that are tracked lists or instances -/
def isObj : HO → Bool
  | .lst _ => true
  | .ins _ _ _ => true
  | _ => false
theorem obj_there {pins : List (Addr × Obj)} {s : Shared} {σ : St} {H : Hp} {a : Addr} {o : HO} (I : Inv X pins σ H s) (h : H a = some o) (p : isObj o = true) : ∃ ob, s.heap.get? a = some ob ∧ ob.cls ≠ .type "tuple" := by
  cases o with
  | lst xs =>
    obtain ⟨_, its, n, _, e⟩ : xs.length ≤ sizeLine ∧ ∃ (its : List Value) (n : Nat), Vals xs its ∧ s.heap.get? a = some { cls := .type "list", data := .seq its.toArray n } := I.hok a _ h
    exact ⟨_, e, (by show Value.type "list" ≠ .type "tuple"; decide +kernel)⟩
  | ins C dx fs =>
    have x := I.hok a _ h
    obtain ⟨_, _, _, e, _⟩ := x
    exact ⟨_, e, (by show Value.ref C ≠ .type "tuple"; exact fun z => by cases z)⟩
  | _ => exact absurd (show false = true from p) Bool.false_ne_true
theorem op_is_ref : OpR X (compareOp .Is) (fun x y H Q => ∃ a b oa ob, x = .ref a ∧ y = .ref b ∧ H a = some oa ∧ isObj oa = true ∧ H b = some ob ∧ isObj ob = true ∧ Q (.bl (decide (a = b))) H) := by
  intro pins s σ H x y v u Q I rx ry h
  obtain ⟨a, b, oa, ob, rfl, rfl, ha, pa, hb, pb, q⟩ := h
  cases rx
  cases ry
  obtain ⟨o1, e1, n1⟩ := obj_there I ha pa
  obtain ⟨o2, e2, _⟩ := obj_there I hb pb
  by_cases z : a = b
  · subst z
    exact wpAny_is_ref_self (fin_bl I q (by simp))
  · exact wpAny_is_ref_other z e1 e2 n1 (fin_bl I q (by simp [z]))
theorem op_isnot_ref : OpR X (compareOp .IsNot) (fun x y H Q => ∃ a b oa ob, x = .ref a ∧ y = .ref b ∧ H a = some oa ∧ isObj oa = true ∧ H b = some ob ∧ isObj ob = true ∧ Q (.bl (!decide (a = b))) H) := by
  intro pins s σ H x y v u Q I rx ry h
  obtain ⟨a, b, oa, ob, rfl, rfl, ha, pa, hb, pb, q⟩ := h
  cases rx
  cases ry
  obtain ⟨o1, e1, n1⟩ := obj_there I ha pa
  obtain ⟨o2, e2, _⟩ := obj_there I hb pb
  by_cases z : a = b
  · subst z
    exact wpAny_isNot_ref_self (fin_bl I q (by simp))
  · exact wpAny_isNot_ref_other z e1 e2 n1 (fin_bl I q (by simp [z]))

/-- two rules for one operation: by cases -/
theorem OpR.or {f : Value → Value → Sem Value} {r r' : R2} (h : OpR X f r) (h' : OpR X f r') : OpR X f (fun x y H Q => r x y H Q ∨ r' x y H Q) := by
  intro pins s σ H x y v u Q I rx ry q
  rcases q with q | q
  · exact h pins s σ H x y v u Q I rx ry q
  · exact h' pins s σ H x y v u Q I rx ry q

theorem nomark (b : Expr) {op : CmpOp} (h : op ≠ .In := by decide) (h2 : op ≠ .NotIn := by decide) : behindInMarks op b = false := by
  have e1 : (op == CmpOp.In) = false := by cases op <;> first | rfl | exact absurd rfl h
  have e2 : (op == CmpOp.NotIn) = false := by cases op <;> first | rfl | exact absurd rfl h2
  cases b <;> simp [behindInMarks, e1, e2]
/-- a comparison as a value; hm: nomark b, or (for in, not in) by with_unfolding_all rfl -/
theorem pe_cmpR {op : CmpOp} {r : R2} (ho : OpR X (compareOp op) r) (ha : PE X a ta) (hb : PE X b tb) (hm : behindInMarks op b = false) : PE X (.Compare a [op] [b] pos) (tOp r ta tb) := by
  intro pins s σ H Q I h
  exact wpAny_Compare1 (binT ha hb I h fun v u s2 x y H2 I2 rx ry q => ho pins s2 σ H2 x y v u Q I2 rx ry q) hm
/-- a reading of a value as a test -/
def tTest (t : TE) : TT := fun σ H Q => t σ H fun x H' => ∃ k, x = .bl k ∧ Q k H'
theorem pt_cmpR {op : CmpOp} {r : R2} (ho : OpR X (compareOp op) r) (ha : PE X a ta) (hb : PE X b tb) (hm : behindInMarks op b = false) : PT X (.Compare a [op] [b] pos) (tTest (tOp r ta tb)) := by
  intro pins s σ H Q I h
  refine wpAny_isTrue_Compare1 (thn (ha pins s σ H _ I h) fun v s1 ⟨x, H1, I1, r1, q1⟩ => thn (hb pins s1 σ H1 _ I1 q1) fun u s2 ⟨y, H2, I2, r2, q2⟩ =>
    thn (ho pins s2 σ H2 x y v u _ I2 r1 r2 q2) fun c s3 ⟨z, H3, I3, r3, k, e, q3⟩ => ?_) hm
  subst e
  cases r3
  exact wpAny_truthy_bool ⟨H3, I3, q3⟩
/-- a op1 b op2 c -/
def tChain (r r' : R2) (ta tb tc : TE) : TE := fun σ H Q => ta σ H fun x H1 => tb σ H1 fun y H2 => r x y H2 fun z H3 => ∃ k, z = .bl k ∧
  (if k = true then tc σ H3 fun w' H4 => r' y w' H4 Q else Q (.bl false) H3)
theorem pe_chain {op op' : CmpOp} {r r' : R2} (ho : OpR X (compareOp op) r) (ho' : OpR X (compareOp op') r') (ha : PE X a ta) (hb : PE X b tb) (hc : PE X c tc)
    (hm : lastMarks [op, op'] [b, c] = false := by with_unfolding_all rfl) : PE X (.Compare a [op, op'] [b, c] pos) (tChain r r' ta tb tc) := by
  intro pins s σ H Q I h
  refine Compare_chain (thn (ha pins s σ H _ I h) fun v s1 ⟨x, H1, I1, r1, q1⟩ => chain_link (thn (hb pins s1 σ H1 _ I1 q1) fun u s2 ⟨y, H2, I2, r2, q2⟩ =>
    thn (ho pins s2 σ H2 x y v u _ I2 r1 r2 q2) fun d s3 ⟨z, H3, I3, r3, k, e, q3⟩ => ?_)) hm
  subst e
  cases r3
  refine wpAny_truthy_bool ?_
  cases k with
  | false => exact ite_ff ⟨.bl false, H3, I3, rfl, q3⟩
  | true => exact ite_tt (chain_last (thn (hc pins s3 σ H3 _ I3 q3) fun w' s4 ⟨z', H4, I4, r4, q4⟩ => ho' pins s4 σ H4 y z' u w' Q I4 r2 r4 q4))
theorem pt_chain {op op' : CmpOp} {r r' : R2} (ho : OpR X (compareOp op) r) (ho' : OpR X (compareOp op') r') (ha : PE X a ta) (hb : PE X b tb) (hc : PE X c tc)
    (hm : lastMarks [op, op'] [b, c] = false := by with_unfolding_all rfl) : PT X (.Compare a [op, op'] [b, c] pos) (tTest (tChain r r' ta tb tc)) := by
  intro pins s σ H Q I h
  refine isTrue_chain (thn (ha pins s σ H _ I h) fun v s1 ⟨x, H1, I1, r1, q1⟩ => test_link (thn (hb pins s1 σ H1 _ I1 q1) fun u s2 ⟨y, H2, I2, r2, q2⟩ =>
    thn (ho pins s2 σ H2 x y v u _ I2 r1 r2 q2) fun d s3 ⟨z, H3, I3, r3, k, e, q3⟩ => ?_)) hm
  subst e
  cases r3
  refine wpAny_truthy_bool ?_
  cases k with
  | false =>
    obtain ⟨k', e', q'⟩ := q3
    cases e'
    exact ite_ff ⟨H3, I3, q'⟩
  | true =>
    refine ite_tt (test_last (thn (hc pins s3 σ H3 _ I3 q3) fun w' s4 ⟨z', H4, I4, r4, q4⟩ => thn (ho' pins s4 σ H4 y z' u w' _ I4 r2 r4 q4) fun d' s5 ⟨z2, H5, I5, r5, k2, e2, q5⟩ => ?_))
    subst e2
    cases r5
    exact wpAny_truthy_bool ⟨H5, I5, q5⟩

/-! ### truth -/
/-- a value's truth by the abstract heap -/
def TruV (K : PySem.W.Frag) (x : V) (H : Hp) (k : Bool) : Prop :=
  match x with
  | .non => k = false
  | .bl b => k = b
  | .int i => k = (i != 0)
  | .str y => y.length ≤ sizeLine ∧ k = ((y.length : Int) != 0)
  | .byt y => y.size ≤ sizeLine ∧ k = ((y.size : Int) != 0)
  | .ref p => (∃ xs, SqL K H p xs ∧ k = !xs.isEmpty) ∨ (∃ xs, SqT K H p xs ∧ k = !xs.isEmpty) ∨ ∃ kvs, H p = some (.dK kvs) ∧ k = !kvs.isEmpty
  | _ => False
theorem isEmpty_kv {κ : Type} {kvs : List (κ × V)} {vs : List (κ × Value)} (r : KV kvs vs) : (!vs.isEmpty) = !kvs.isEmpty := by
  cases r <;> rfl
theorem isEmpty_of {xs : List V} {its : List Value} (r : Vals xs its) : (!its.toArray.isEmpty) = !xs.isEmpty := by
  cases r <;> simp
theorem line63 : (sizeLine : Nat) < 2 ^ 63 := by rw [sizeLine_eq]; decide
theorem tru_ok : TruR X (fun x H Q => ∃ k, TruV X.K x H k ∧ Q k H) := by
  intro pins s σ H x v Q I rx h
  obtain ⟨k, e, q⟩ := h
  have hl := line63
  have hs : sizeLine = 16777216 := sizeLine_eq
  cases x with
  | non =>
    cases rx
    have e' : k = false := e
    subst e'
    exact truthy_none ⟨H, I, q⟩
  | bl b =>
    cases rx
    have e' : k = b := e
    subst e'
    exact wpAny_truthy_bool ⟨H, I, q⟩
  | int i =>
    obtain ⟨t, rfl⟩ := rx
    have e' : k = (i != 0) := e
    subst e'
    exact PySem.P.truthy_int ⟨H, I, q⟩
  | str y =>
    obtain ⟨t, rfl⟩ := rx
    obtain ⟨hy, e'⟩ : y.length ≤ sizeLine ∧ k = ((y.length : Int) != 0) := e
    subst e'
    exact PySem.P.truthy_str (by omega) ⟨H, I.tok _, q⟩
  | byt y =>
    obtain ⟨t, rfl⟩ := rx
    obtain ⟨hy, e'⟩ : y.size ≤ sizeLine ∧ k = ((y.size : Int) != 0) := e
    subst e'
    exact PySem.W.truthy_bytes (by omega) ⟨H, I.tok _, q⟩
  | ref p =>
    cases rx
    have e' : (∃ xs, SqL X.K H p xs ∧ k = !xs.isEmpty) ∨ (∃ xs, SqT X.K H p xs ∧ k = !xs.isEmpty) ∨ ∃ kvs, H p = some (.dK kvs) ∧ k = !kvs.isEmpty := e
    rcases e' with ⟨xs, hx, e'⟩ | ⟨xs, hx, e'⟩ | ⟨kvs, hx, e'⟩
    · subst e'
      obtain ⟨its, r, pl, hz⟩ := I.list hx
      have hlen := r.length
      exact wpAny_truthy_list pl.isList (by simp only [List.size_toArray]; omega) ⟨H, I.tok _, by rw [isEmpty_of r]; exact q⟩
    · subst e'
      obtain ⟨its, r, pl, hz⟩ := I.tuple hx
      have hlen := r.length
      exact truthy_tuple pl (by simp only [List.size_toArray]; omega) ⟨H, I.tok _, by rw [isEmpty_of r]; exact q⟩
    · subst e'
      obtain ⟨hz, hS, vs, r, m⟩ : kvs.length ≤ sizeLine ∧ (p == sysModules) = false ∧ ∃ vs, KV kvs vs ∧ s.heap.DictOf (mixKind X.prog X.w) p vs := I.hok p _ hx
      have hlen : kvs.length = vs.length := Paired.length r
      exact wpAny_truthy_dict hS m (by omega) ⟨H, I.tok _, by rw [isEmpty_kv r]; exact q⟩
  | _ => exact (show False from e).elim
/-- any expression whose test is its value's truth (a name, a call, a subscript, a field ..: he by fun _ => rfl) -/
theorem pt_truth (ha : PE X a ta) (he : ∀ whole, isTrue a X.env whole = (do let v ← whole; standAt a.pos; holding [v] (truthy v))) :
    PT X a (fun σ H Q => ta σ H fun x H' => ∃ k, TruV X.K x H' k ∧ Q k H') := by
  intro pins s σ H Q I h
  exact isTrue_plain (thn (ha pins s σ H _ I h) fun v s1 ⟨x, H1, I1, r1, q1⟩ => tru_ok pins s1 σ H1 x v Q I1 r1 q1) (he _)

/-! ### strs and bytes -/
theorem pe_byt {x : List UInt8} {k : Nat} : PE X (.Constant (.bytes x) k pos) (fun _ H Q => Q (.byt x.toArray) H) := fun _ _ _ H _ I h => PySem.W.Constant_bytes ⟨.byt x.toArray, H, I.tok _, ⟨_, rfl⟩, h⟩
theorem op_add_str : OpR X (binaryOp .Add) (fun x y H Q => ∃ i j, x = .str i ∧ y = .str j ∧ i.length + j.length ≤ sizeLine ∧ Q (.str (i ++ j)) H) := by
  intro pins s σ H x y v u Q I rx ry h
  obtain ⟨i, j, rfl, rfl, hz, q⟩ := h
  obtain ⟨t, rfl⟩ := rx
  obtain ⟨t', rfl⟩ := ry
  exact add_str (fun t' tk => ⟨.str (i ++ j), H, I.tok _, ⟨_, rfl⟩, q⟩) hz
theorem iop_add_str : OpR X (inplaceOp .Add) (fun x y H Q => ∃ i j, x = .str i ∧ y = .str j ∧ i.length + j.length ≤ sizeLine ∧ Q (.str (i ++ j)) H) := by
  intro pins s σ H x y v u Q I rx ry h
  obtain ⟨i, j, rfl, rfl, hz, q⟩ := h
  obtain ⟨t, rfl⟩ := rx
  obtain ⟨t', rfl⟩ := ry
  exact iadd_str (fun t' tk => ⟨.str (i ++ j), H, I.tok _, ⟨_, rfl⟩, q⟩) hz
theorem op_add_byt : OpR X (binaryOp .Add) (fun x y H Q => ∃ i j, x = .byt i ∧ y = .byt j ∧ i.size + j.size ≤ 16777216 ∧ Q (.byt (i ++ j)) H) := by
  intro pins s σ H x y v u Q I rx ry h
  obtain ⟨i, j, rfl, rfl, hz, q⟩ := h
  obtain ⟨t, rfl⟩ := rx
  obtain ⟨t', rfl⟩ := ry
  exact PySem.W.KBy.add_bytes hz (fun t' tk => ⟨.byt (i ++ j), H, I.tok _, ⟨_, rfl⟩, q⟩)

def PlainIxT (b : Expr) : Prop := ∀ o i, subscripted b false o i = operate [o, i] (getItem o i)
/-- s[i], 0 ≤ i < len -/
theorem pe_item_str (ha : PE X a ta) (hb : PE X b tb) (hs : PlainIxT b) :
    PE X (.Subscript a b pos) (tOp (fun x y H Q => ∃ z i c, x = .str z ∧ y = .int i ∧ 0 ≤ i ∧ i < 2 ^ 63 ∧ i < z.length ∧ z.cps[i.toNat]? = some c ∧ Q (.str ⟨#[c]⟩) H) ta tb) := by
  intro pins s σ H Q I h
  refine Subscript_ (binT ha hb I h fun v u s2 x y H2 I2 rx ry q => ?_)
  obtain ⟨z, i, c, rfl, rfl, h0, h63, h1, hc, q⟩ := q
  obtain ⟨t, rfl⟩ := rx
  obtain ⟨t', rfl⟩ := ry
  have e : seqIndex? i z.length = some i.toNat := PySem.StrLaws.seqIndex_nonneg h0 h1
  exact tail_any (typeIs_str s2 z t) slot_str_getitem.lookup (getItem_str (c := c) (by
    have e1 : decide (i < -(2 ^ 63 : Int)) = false := decide_eq_false (by omega)
    have e2 : decide (i ≥ 2 ^ 63) = false := decide_eq_false (by omega)
    rw [e1, e2] <;> rfl) (by rw [e]; exact hc) ⟨.str ⟨#[c]⟩, H2, I2.tok _, ⟨_, rfl⟩, q⟩) (hs _ _)
/-- b[i], 0 ≤ i < len -/
theorem pe_item_byt (ha : PE X a ta) (hb : PE X b tb) (hs : PlainIxT b) :
    PE X (.Subscript a b pos) (tOp (fun x y H Q => ∃ (z : List UInt8) (i : Int), x = .byt z.toArray ∧ y = .int i ∧ z.length ≤ sizeLine ∧ 0 ≤ i ∧ i < z.length ∧ Q (.int ((z.getD i.toNat 0).toNat : Nat)) H) ta tb) := by
  intro pins s σ H Q I h
  refine Subscript_ (binT ha hb I h fun v u s2 x y H2 I2 rx ry q => ?_)
  obtain ⟨z, i, rfl, rfl, hz, h0, h1, q⟩ := q
  obtain ⟨t, rfl⟩ := rx
  obtain ⟨t', rfl⟩ := ry
  have hl : sizeLine = 16777216 := sizeLine_eq
  exact tail_any (PySem.W.typeIs_bytes s2 z.toArray t) PySem.W.FB.slot_bytes_getitem.lookup (PySem.W.getItem_bytes (by omega) h0 h1 ⟨.int ((z.getD i.toNat 0).toNat : Nat), H2, I2.tok _, ⟨_, rfl⟩, q⟩) (hs _ _)

/-! ### scalar builtins, by CallR -/
theorem vals1 {x : V} {us : List Value} (r : Vals [x] us) : ∃ u, us = [u] ∧ RelV x u := by
  cases r with
  | cons r1 r2 => cases r2; exact ⟨_, rfl, r1⟩
theorem vals2 {x y : V} {us : List Value} (r : Vals [x, y] us) : ∃ u w', us = [u, w'] ∧ RelV x u ∧ RelV y w' := by
  cases r with
  | cons r1 r2 =>
    cases r2 with
    | cons r3 r4 => cases r4; exact ⟨_, _, rfl, r1, r3⟩
theorem call_abs : CallR X (.builtin "abs") (fun xs H Q => ∃ i, xs = [.int i] ∧ Q (.int (if i < 0 then -i else i)) H) := by
  intro pins s σ H xs us Q I r h
  obtain ⟨i, rfl, q⟩ := h
  obtain ⟨u, rfl, t, rfl⟩ := vals1 r
  exact call_abs_int fun u tk => ⟨.int (if i < 0 then -i else i), H, I.tok _, ⟨_, rfl⟩, q⟩
theorem call_max2 (hc : X.calm = true) : CallR X (.builtin "max") (fun xs H Q => ∃ i j, xs = [.int i, .int j] ∧ Q (.int (if j > i then j else i)) H) := by
  intro pins s σ H xs us Q I r h
  obtain ⟨i, j, rfl, q⟩ := h
  obtain ⟨u, w', rfl, ⟨t, rfl⟩, ⟨t', rfl⟩⟩ := vals2 r
  refine max_two_ints (I.ok.hd hc) fun h' tk k => ⟨_, H, I.kept k, ?_, q⟩
  by_cases hj : j > i
  · rw [if_pos hj, if_pos hj]; exact ⟨_, rfl⟩
  · rw [if_neg hj, if_neg hj]; exact ⟨_, rfl⟩
theorem call_min2 (hc : X.calm = true) : CallR X (.builtin "min") (fun xs H Q => ∃ i j, xs = [.int i, .int j] ∧ Q (.int (if j < i then j else i)) H) := by
  intro pins s σ H xs us Q I r h
  obtain ⟨i, j, rfl, q⟩ := h
  obtain ⟨u, w', rfl, ⟨t, rfl⟩, ⟨t', rfl⟩⟩ := vals2 r
  refine min_two_ints (I.ok.hd hc) fun h' tk k => ⟨_, H, I.kept k, ?_, q⟩
  by_cases hj : j < i
  · rw [if_pos hj, if_pos hj]; exact ⟨_, rfl⟩
  · rw [if_neg hj, if_neg hj]; exact ⟨_, rfl⟩
theorem call_int1 : CallR X (.type "int") (fun xs H Q => (∃ i, xs = [.int i] ∧ Q (.int i) H) ∨ ∃ k, xs = [.bl k] ∧ Q (.int (if k then 1 else 0)) H) := by
  intro pins s σ H xs us Q I r h
  rcases h with ⟨i, rfl, q⟩ | ⟨k, rfl, q⟩
  · obtain ⟨u, rfl, t, rfl⟩ := vals1 r
    exact call_int_int ⟨.int i, H, I, ⟨_, rfl⟩, q⟩
  · obtain ⟨u, rfl, r1⟩ := vals1 r
    cases r1
    exact call_int_bool ⟨.int (if k then 1 else 0), H, I.tok _, ⟨_, rfl⟩, q⟩
theorem call_bool1 : CallR X (.type "bool") (fun xs H Q => (∃ i, xs = [.int i] ∧ Q (.bl (i != 0)) H) ∨ ∃ k, xs = [.bl k] ∧ Q (.bl k) H) := by
  intro pins s σ H xs us Q I r h
  rcases h with ⟨i, rfl, q⟩ | ⟨k, rfl, q⟩
  · obtain ⟨u, rfl, t, rfl⟩ := vals1 r
    exact call_bool_int ⟨.bl (i != 0), H, I, rfl, q⟩
  · obtain ⟨u, rfl, r1⟩ := vals1 r
    cases r1
    exact call_bool_bool ⟨.bl k, H, I, rfl, q⟩
theorem call_str_int : CallR X (.type "str") (fun xs H Q => ∃ i, xs = [.int i] ∧ i.natAbs.log2 < 1920 ∧ Q (.str (toString i)) H) := by
  intro pins s σ H xs us Q I r h
  obtain ⟨i, rfl, hz, q⟩ := h
  obtain ⟨u, rfl, t, rfl⟩ := vals1 r
  exact PySem.P.str_of_int hz ⟨.str _, H, I.tok _, ⟨_, rfl⟩, q⟩
theorem call_ord : CallR X (.builtin "ord") (fun xs H Q => ∃ x, xs = [.str x] ∧ x.length = 1 ∧ Q (.int (x.cps.getD 0 0 : Nat)) H) := by
  intro pins s σ H xs us Q I r h
  obtain ⟨x, rfl, hz, q⟩ := h
  obtain ⟨u, rfl, t, rfl⟩ := vals1 r
  exact ord_of_one hz ⟨.int _, H, I.tok _, ⟨_, rfl⟩, q⟩
theorem call_chr : CallR X (.builtin "chr") (fun xs H Q => ∃ i, xs = [.int i] ∧ 0 ≤ i ∧ i ≤ 1114111 ∧ Q (.str ⟨#[i.toNat]⟩) H) := by
  intro pins s σ H xs us Q I r h
  obtain ⟨i, rfl, h0, h1, q⟩ := h
  obtain ⟨u, rfl, t, rfl⟩ := vals1 r
  exact chr_of_range h0 h1 ⟨.str _, H, I.tok _, ⟨_, rfl⟩, q⟩
/-- len of a str, a bytes, a list, a tuple -/
def LenV (K : PySem.W.Frag) (x : V) (H : Hp) (n : Nat) : Prop :=
  match x with
  | .str y => y.length ≤ sizeLine ∧ n = y.length
  | .byt y => y.size ≤ sizeLine ∧ n = y.size
  | .ref p => (∃ xs, SqL K H p xs ∧ n = xs.length) ∨ ∃ xs, SqT K H p xs ∧ n = xs.length
  | _ => False
theorem call_len : CallR X (.builtin "len") (fun xs H Q => ∃ x n, xs = [x] ∧ LenV X.K x H n ∧ Q (.int n) H) := by
  intro pins s σ H xs us Q I r h
  obtain ⟨x, n, rfl, e, q⟩ := h
  obtain ⟨u, rfl, rx⟩ := vals1 r
  have hl := line63
  have hs : sizeLine = 16777216 := sizeLine_eq
  cases x with
  | str y =>
    obtain ⟨t, rfl⟩ := rx
    obtain ⟨hy, e'⟩ : y.length ≤ sizeLine ∧ n = y.length := e
    subst e'
    exact len_str (by omega) ⟨.int _, H, I.tok _, ⟨_, rfl⟩, q⟩
  | byt y =>
    obtain ⟨t, rfl⟩ := rx
    obtain ⟨hy, e'⟩ : y.size ≤ sizeLine ∧ n = y.size := e
    subst e'
    exact PySem.W.len_bytes (by omega) ⟨.int _, H, I.tok _, ⟨_, rfl⟩, q⟩
  | ref p =>
    cases rx
    have e' : (∃ xs, SqL X.K H p xs ∧ n = xs.length) ∨ ∃ xs, SqT X.K H p xs ∧ n = xs.length := e
    rcases e' with ⟨xs, hx, e'⟩ | ⟨xs, hx, e'⟩
    · subst e'
      obtain ⟨its, r', pl, hz⟩ := I.list hx
      have hlen := r'.length
      exact Calls.call_len_list pl.isList (by simp only [List.size_toArray]; omega) ⟨.int xs.length, H, I.tok _, ⟨_, by simp only [List.size_toArray]; rw [hlen]⟩, q⟩
    · subst e'
      obtain ⟨its, r', pl, hz⟩ := I.tuple hx
      have hlen := r'.length
      exact len_tuple pl (by simp only [List.size_toArray]; omega) ⟨.int xs.length, H, I.tok _, ⟨_, by simp only [List.size_toArray]; rw [hlen]⟩, q⟩
  | _ => exact (show False from e).elim
/-- divmod: a new tuple -/
theorem call_divmod : CallR X (.builtin "divmod") (fun xs H Q => ∃ i j, xs = [.int i, .int j] ∧ CDiv i j ∧ ∀ p, H p = none → Q (.ref p) (upd H p (.tup [.int (i / j), .int (i % j)]))) := by
  intro pins s σ H xs us Q I r h
  obtain ⟨i, j, rfl, ⟨h1, h2⟩, q⟩ := h
  obtain ⟨u, w', rfl, ⟨t, rfl⟩, ⟨t', rfl⟩⟩ := vals2 r
  refine divmod_int (by omega) ?_ (.inl (PyProof.noPylong_small (by omega)))
  rw [Int.fdiv_eq_ediv_of_nonneg i (by omega), Int.fmod_eq_emod_of_nonneg i (by omega)]
  have hn : H s.heap.objs.size = none := I.hok.fresh (Nat.le_refl _)
  refine ⟨.ref s.heap.objs.size, _, ?_, rfl, q _ hn⟩
  refine I.laid (fun b o e => Heap.get?_push_of_some _ e) (Nat.le_refl _) ⟨by simp only [List.length_cons, List.length_nil]; rw [sizeLine_eq]; decide, [.int (i / j) s.toks, .int (i % j) (s.toks + 1)], .cons ⟨_, rfl⟩ (.cons ⟨_, rfl⟩ .nil), ?_⟩
  exact ⟨_, Heap.get?_push_size s.heap rfl, rfl, 0, rfl⟩
end
end L2

namespace L2
open PySem PySem.Spec PyProof.Rows

/-! ### an instance, its attributes a map -/
structure ObjM (h : Heap) (x dx C : Addr) (mA : Str → Option Value) : Prop where
  obj : h.get? x = some (PySem.W.instObj C dx)
  ns : h.Ns1 dx mA
  ne : dx ≠ x

theorem lookIn_ns {h : Heap} {dx : Addr} {mA : Str → Option Value} (n : h.Ns1 dx mA) : ∃ od, h.get? dx = some od ∧ ∀ name, PySem.W.lookIn name od = some (mA name) := by
  obtain ⟨o, es, ep, ho, hd, hk, _, hm⟩ := n
  refine ⟨o, ho, fun name => ?_⟩
  have e := hm name
  unfold nsFind findBy at e
  rw [← Array.find?_toList] at e
  unfold PySem.W.lookIn
  rw [hd]
  dsimp only
  split
  · rename_i y q
    rw [q] at e
    exact congrArg some e
  · rename_i q
    rw [q] at e
    have a : es.toList.any (·.refKey) = false := by
      rw [List.any_eq_false]
      intro y hy
      obtain ⟨z, t, hkey⟩ := hk y (Array.mem_toList_iff.mp hy)
      simp [DictEntry.refKey, hkey]
    have a' : ¬ es.toList.any (·.refKey) = true := by rw [a]; exact Bool.false_ne_true
    rw [if_neg a']
    exact congrArg some e

theorem ObjM.look {h : Heap} {x dx C : Addr} {mA : Str → Option Value} (I : ObjM h x dx C mA) : ∃ od, PySem.W.InstAt h x (PySem.W.instObj C dx) C (some od) ∧ ∀ name, PySem.W.lookIn name od = some (mA name) :=
  let ⟨od, ho, hl⟩ := lookIn_ns I.ns
  ⟨od, ⟨I.obj, rfl, rfl, ho⟩, hl⟩

section
variable {prog : Program} {w : World} {A : Around} {E : Value → Shared → Prop} {s : Shared} {K : PySem.W.Frag} {x dx C f : Addr} {mA : Str → Option Value} {name : Str} {v : Value}

theorem get_map {expr : Bool} {Q : Value → Shared → Prop} (X : K.In s.heap) (I : ObjM s.heap x dx C mA) (hg : PySem.W.plainGet K C name = true) (hh : PySem.W.hasDictIn K C = true)
    (ha : PySem.W.findIn K (.ref C) name = some none) (hv : mA name = some v) (hv' : PySem.W.handedIn v = true) (h : Q v { s with toks := s.toks + 1 }) :
    wpAny (model prog w) A (getAttr (.ref x) name expr) Q E s := by
  obtain ⟨od, J, hl⟩ := I.look
  exact PySem.W.get_value X J (PySem.W.plainGet_of hg).1 (PySem.W.findObj_own hh ha rfl (by rw [hl, hv])) hv' h

theorem get_const {expr : Bool} {a : Value} {Q : Value → Shared → Prop} (X : K.In s.heap) (I : ObjM s.heap x dx C mA) (hg : PySem.W.plainGet K C name = true) (hh : PySem.W.hasDictIn K C = true)
    (ha : PySem.W.findIn K (.ref C) name = some (some a)) (hn : PySem.W.specialIn K a "__get__" = some none) (hc : PySem.W.copiedNames.contains name = false) (hv : mA name = none) (hv' : PySem.W.handedIn a = true)
    (h : Q a { s with toks := s.toks + 1 }) : wpAny (model prog w) A (getAttr (.ref x) name expr) Q E s := by
  obtain ⟨od, J, hl⟩ := I.look
  exact PySem.W.get_value X J (PySem.W.plainGet_of hg).1 (PySem.W.findObj_cls hh ha hn hv' hc (by rw [hl, hv])) hv' h

theorem get_meth {pl : Sem Bool} {Q : Value × List Value → Shared → Prop} (X : K.In s.heap) (I : ObjM s.heap x dx C mA) (hg : PySem.W.plainGet K C name = true)
    (hf : PySem.W.findIn K (.ref C) name = some (some (.ref f))) (ht : PySem.W.isFn K (.ref f) = true) (hv : mA name = none) (h : Q (.ref f, [.ref x]) s) :
    wpAny (model prog w) A (getMethod (.ref x) name pl) Q E s := by
  obtain ⟨od, J, hl⟩ := I.look
  exact PySem.W.method_fn X J (PySem.W.plainGet_of hg).1 (PySem.W.plainGet_of hg).2 hf (beq_iff_eq.mp ht) (by show (PySem.W.lookIn name od).map (·.isSome) = some false; rw [hl, hv]; rfl) h

theorem set_map {ns : List Str} {Q : Unit → Shared → Prop} (X : K.In s.heap) (I : ObjM s.heap x dx C mA)
    (hs : PySem.W.findIn K (.ref C) "__setattr__" = some (some (.builtin "object.__setattr__"))) (hp : PySem.W.plainOver K C = true) (ht : PySem.W.takerIn K C name = some none) (hh : PySem.W.hasDictIn K C = true)
    (hw : PySem.Within mA ns) (hsz : ns.length ≤ sizeLine)
    (h : ∀ h', ObjM h' x dx C (fun y => if y = name then some v else mA y) → Heap.SameBut dx s.heap h' → Q () { s with heap := h', toks := s.toks + 2 }) :
    wpAny (model prog w) A (setAttr (.ref x) name v) Q E s := by
  obtain ⟨od, J, hl⟩ := I.look
  refine PySem.W.set_plain X J hs (PySem.W.osa_open (s := { s with toks := s.toks + 1 }) (r := none) X J hp ht fun b => ?_)
  obtain ⟨cd, hc, hd'⟩ := PySem.W.any_some hh
  have hx : s.heap.get? x = some ⟨.ref C, some dx, .plain, #[]⟩ := I.obj
  refine wpAny_bind (wpAny_pure (wpAny_bind (wpAny_bind (wpAny_loadPart hx (wpAny_bind (PySem.W.Looks.here (s := { s with toks := s.toks + 1 }) (PySem.W.looks_clsIn X hc) ?_))))))
  rw [hd']
  refine wpAny_pure (a := some dx) (wpAny_bind (wpAny_pure (wpAny_bind ?_)))
  refine wpAny_nsSet1 (s := { s with toks := s.toks + 1 }) I.ns fun h' hn2 hs2 => ?_
  obtain ⟨oD, esD, epD, hoD, hdD, hcD⟩ := hn2.count (PySem.Within.cons name v hw)
  refine wpAny_bind (wpAny_lookBehind hoD (by rw [hdD]; exact pastItsLine_dict (Nat.le_trans hcD (by rw [List.length_cons]; omega))) ?_)
  exact wpAny_pure (h _ ⟨(hs2.2 _ (Ne.symm I.ne)).trans I.obj, hn2, I.ne⟩ hs2)

/-- C(..): the dict at the heap's end, the instance behind it; then its __init__ -/
theorem make_map {R : Result → Shared → Prop} {vs : List Value} {kw : List (Str × Value)} (X : K.In s.heap) (hm : PySem.W.makesIn K C = true)
    (hi : PySem.W.findIn K (.ref C) "__init__" = some (some (.ref f))) (hf : PySem.W.typeIn K (.ref f) = some (.type "function"))
    (h : codeAny (model prog w) (A.under (.builtin "type.__call__" ⟨.ref C :: vs, kw⟩)) (.call (.ref f) ⟨.ref (s.heap.objs.size + 1) :: vs, kw⟩) (PySem.W.InitBack (s.heap.objs.size + 1) R)
      { s with heap := (s.heap.push PySem.W.emptyDict).push (PySem.W.instObj C s.heap.objs.size) }) :
    codeAny (model prog w) A (.call (.ref C) ⟨vs, kw⟩) R s := by
  obtain ⟨hh, g, d, t, os⟩ := s
  exact PySem.W.make_core (PySem.W.makes_of X hm) (PySem.W.looks_findIn X hi) (fun self => PySem.W.bind_fn X self hf) (.inl rfl) h
/-- C() where there is no __init__ but object's -/
theorem make_map0 {R : Result → Shared → Prop} (X : K.In s.heap) (hm : PySem.W.makesIn K C = true)
    (hi : PySem.W.findIn K (.ref C) "__init__" = some (some (.builtin "object.__init__")))
    (hb : ∀ self, PySem.W.Looks (model prog w) s.heap (bindSpecial (.builtin "object.__init__") self) (.builtin "object.__init__", [self]))
    (h : codeAny (model prog w) (A.under (.builtin "type.__call__" ⟨[.ref C], []⟩)) (.call (.builtin "object.__init__") ⟨[.ref (s.heap.objs.size + 1)], []⟩) (PySem.W.InitBack (s.heap.objs.size + 1) R)
      { s with heap := (s.heap.push PySem.W.emptyDict).push (PySem.W.instObj C s.heap.objs.size) }) :
    codeAny (model prog w) A (.call (.ref C) ⟨[], []⟩) R s := by
  obtain ⟨hh, g, d, t, os⟩ := s
  exact PySem.W.make_core (PySem.W.makes_of X hm) (PySem.W.looks_findIn X hi) hb (.inr ⟨rfl, rfl⟩) h
end

/-! ### the attributes as a list of pairs -/
def putF (f : Str) (v : V) : List (Str × V) → List (Str × V)
  | [] => [(f, v)]
  | (g, x) :: r => if g = f then (g, v) :: r else (g, x) :: putF f v r
theorem lookup_putF (f g : Str) (v : V) : ∀ fs : List (Str × V), (putF f v fs).lookup g = if g = f then some v else fs.lookup g
  | [] => by
    show List.lookup g [(f, v)] = _
    by_cases h : g = f
    · have hb : (g == f) = true := beq_iff_eq.mpr h
      simp only [List.lookup, hb, if_pos h]
    · have hb : (g == f) = false := beq_eq_false_iff_ne.mpr h
      simp only [List.lookup, hb, if_neg h]
  | (k, x) :: r => by
    have ih := lookup_putF f g v r
    rw [show putF f v ((k, x) :: r) = (if k = f then (k, v) :: r else (k, x) :: putF f v r) from rfl]
    by_cases hk : k = f
    · rw [if_pos hk]
      by_cases h : g = k
      · have hb : (g == k) = true := beq_iff_eq.mpr h
        simp only [List.lookup, hb, if_pos (h.trans hk)]
      · have hb : (g == k) = false := beq_eq_false_iff_ne.mpr h
        simp only [List.lookup, hb, if_neg (fun e : g = f => h (e.trans hk.symm))]
    · rw [if_neg hk]
      by_cases h : g = k
      · have hb : (g == k) = true := beq_iff_eq.mpr h
        simp only [List.lookup, hb, if_neg (fun e : g = f => hk (h.symm.trans e))]
      · have hb : (g == k) = false := beq_eq_false_iff_ne.mpr h
        simp only [List.lookup, hb]
        exact ih
theorem keys_putF (f : Str) (v : V) : ∀ fs : List (Str × V), f ∈ (putF f v fs).map (·.1) ∧ ∀ g, g ∈ fs.map (·.1) → g ∈ (putF f v fs).map (·.1)
  | [] => ⟨by simp [putF], fun g h => by simp at h⟩
  | (k, x) :: r => by
    obtain ⟨i1, i2⟩ := keys_putF f v r
    rw [show putF f v ((k, x) :: r) = (if k = f then (k, v) :: r else (k, x) :: putF f v r) from rfl]
    by_cases hk : k = f
    · rw [if_pos hk]
      subst hk
      exact ⟨by simp, fun g h => by simpa using h⟩
    · rw [if_neg hk]
      refine ⟨?_, fun g h => ?_⟩
      · rw [List.map_cons]
        exact List.mem_cons_of_mem _ i1
      · rw [List.map_cons] at h ⊢
        rcases List.mem_cons.mp h with e | e
        · exact List.mem_cons.mpr (.inl e)
        · exact List.mem_cons_of_mem _ (i2 g e)
theorem length_putF (f : Str) (v : V) : ∀ fs : List (Str × V), (putF f v fs).length ≤ fs.length + 1
  | [] => by simp [putF]
  | (k, x) :: r => by
    have ih := length_putF f v r
    rw [show putF f v ((k, x) :: r) = (if k = f then (k, v) :: r else (k, x) :: putF f v r) from rfl]
    by_cases hk : k = f
    · rw [if_pos hk, List.length_cons, List.length_cons]; omega
    · rw [if_neg hk, List.length_cons, List.length_cons]; omega

theorem RelO.some_of {v : V} {o : Option Value} (r : RelO (some v) o) : ∃ u, o = some u ∧ RelV v u := by
  cases o with
  | none => exact (show False from r).elim
  | some u => exact ⟨u, rfl, r⟩
theorem RelO.none_of {o : Option Value} (r : RelO none o) : o = none := by
  cases o with
  | none => rfl
  | some u => exact (show False from r).elim
theorem handed_of {v : V} {u : Value} (r : RelV v u) : PySem.W.handedIn u = true := by
  cases v with
  | non => cases (show u = Value.none from r); rfl
  | bl b => cases (show u = Value.bool b from r); rfl
  | int i => obtain ⟨t, e⟩ := (show ∃ t, u = Value.int i t from r); cases e; rfl
  | str x => obtain ⟨t, e⟩ := (show ∃ t, u = Value.str x t from r); cases e; rfl
  | byt b => obtain ⟨t, e⟩ := (show ∃ t, u = Value.bytes b t from r); cases e; rfl
  | flt b => obtain ⟨t, e⟩ := (show ∃ t, u = Value.float b t from r); cases e; rfl
  | ref a => cases (show u = Value.ref a from r); rfl
  | ty n => cases (show u = Value.type n from r); rfl

section
variable {P : Program} {w : World} {H H' : Hp} {h h' : Heap} {a C dx : Addr} {fs fs' : List (Str × V)}
theorem ins_get (hok : HOk P w H h) (e : H a = some (.ins C dx fs)) : ∃ mA, ObjM h a dx C mA ∧ (∀ f, RelO (fs.lookup f) (mA f)) ∧ PySem.Within mA (fs.map (·.1)) ∧ fs.length ≤ 1000 ∧ H dx = some (.own a) := by
  obtain ⟨d, z, ne, ob, mA, n, r, q⟩ := (show ObjOk P w H h a (.ins C dx fs) from hok a _ e)
  exact ⟨mA, ⟨ob, n, ne⟩, r, q, z, d⟩
end

/-! ### what of the text a class must have -/
structure Cls (K : PySem.W.Frag) (C : Addr) : Prop where
  pg : PySem.W.plainGet K C Str.empty = true
  hd : PySem.W.hasDictIn K C = true
  po : PySem.W.plainOver K C = true
  sa : PySem.W.findIn K (.ref C) "__setattr__" = some (some (.builtin "object.__setattr__"))
theorem Cls.get {K : PySem.W.Frag} {C : Addr} (c : Cls K C) (f : Str) : PySem.W.plainGet K C f = true := c.pg
/-- no class of it has the name -/
def NoAttr (K : PySem.W.Frag) (C : Addr) (f : Str) : Prop := PySem.W.findIn K (.ref C) f = some none
theorem NoAttr.taker {K : PySem.W.Frag} {C : Addr} {f : Str} (n : NoAttr K C f) : PySem.W.takerIn K C f = some none := by
  unfold PySem.W.takerIn
  rw [show PySem.W.findIn K (.ref C) f = some none from n]
  rfl
/-- a constant of the class -/
structure Con (K : PySem.W.Frag) (C : Addr) (f : Str) (v : V) (u : Value) : Prop where
  at_ : PySem.W.findIn K (.ref C) f = some (some u)
  rel : RelV v u
  get : PySem.W.specialIn K u "__get__" = some none
  cp : PySem.W.copiedNames.contains f = false
/-- a method: a plain def of the class or of one above it -/
structure Meth (K : PySem.W.Frag) (C : Addr) (m : Str) (f : Addr) : Prop where
  at_ : PySem.W.findIn K (.ref C) m = some (some (.ref f))
  fn : PySem.W.isFn K (.ref f) = true
  kp : PySem.W.keepIn K (.ref f) = true

section
variable {X : Cx} {pins : List (Addr × Obj)} {σ : St} {H : Hp} {s : Shared} {a C dx : Addr} {fs : List (Str × V)} {f : Str} {v : V} {A : Around} {E : Value → Shared → Prop}

theorem getattr_ok {b : Bool} {Q : Value → Shared → Prop} (I : Inv X pins σ H s) (e : H a = some (.ins C dx fs)) (c : Cls X.K C) (n : NoAttr X.K C f) (l : fs.lookup f = some v)
    (h : ∀ u s', Inv X pins σ H s' → RelV v u → Q u s') : wpAny (model X.prog X.w) A (getAttr (.ref a) f b) Q E s := by
  obtain ⟨mA, O, r, _, _, _⟩ := ins_get I.hok e
  obtain ⟨u, hu, ru⟩ := RelO.some_of (v := v) (o := mA f) (by rw [← l]; exact r f)
  exact get_map I.kIn O (c.get f) c.hd n hu (handed_of ru) (h u _ (I.tok _) ru)

theorem getcon_ok {b : Bool} {u : Value} {Q : Value → Shared → Prop} (I : Inv X pins σ H s) (e : H a = some (.ins C dx fs)) (c : Cls X.K C) (k : Con X.K C f v u) (l : fs.lookup f = none)
    (h : ∀ s', Inv X pins σ H s' → Q u s') : wpAny (model X.prog X.w) A (getAttr (.ref a) f b) Q E s := by
  obtain ⟨mA, O, r, _, _, _⟩ := ins_get I.hok e
  have hn : mA f = none := RelO.none_of (by rw [← l]; exact r f)
  exact get_const I.kIn O (c.get f) c.hd k.at_ k.get k.cp hn (handed_of k.rel) (h _ (I.tok _))

theorem getmeth_ok {m : Str} {g : Addr} {pl : Sem Bool} {Q : Value × List Value → Shared → Prop} (I : Inv X pins σ H s) (e : H a = some (.ins C dx fs)) (c : Cls X.K C) (k : Meth X.K C m g) (l : fs.lookup m = none)
    (h : Q (.ref g, [.ref a]) s) : wpAny (model X.prog X.w) A (getMethod (.ref a) m pl) Q E s := by
  obtain ⟨mA, O, r, _, _, _⟩ := ins_get I.hok e
  have hn : mA m = none := RelO.none_of (by rw [← l]; exact r m)
  exact get_meth I.kIn O (c.get m) k.at_ k.fn hn h

theorem setattr_ok {y : V} {u : Value} {Q : Unit → Shared → Prop} (I : Inv X pins σ H s) (e : H a = some (.ins C dx fs)) (c : Cls X.K C) (n : NoAttr X.K C f) (hl : fs.length < 1000) (ry : RelV y u)
    (h : ∀ s', Inv X pins σ (upd H a (.ins C dx (putF f y fs))) s' → Q () s') : wpAny (model X.prog X.w) A (setAttr (.ref a) f u) Q E s := by
  obtain ⟨mA, O, r, wi, _, ho⟩ := ins_get I.hok e
  have hz : (fs.map (·.1)).length ≤ sizeLine := by rw [List.length_map, sizeLine_eq]; omega
  refine set_map I.kIn O c.sa c.po n.taker c.hd wi hz fun h' O' sb => h _ ?_
  have hd : ∃ o, h'.get? dx = some o := let ⟨o, _, _, e', _⟩ := O'.ns; ⟨o, e'⟩
  refine I.write (x := a) (e := dx) (by rw [e]; exact True.intro) (.inr ho) (fun b q hb z => (sb.2 b hb).trans z) hd ?_
  refine ⟨by rw [upd_ne O.ne]; exact ho, ?_, O.ne, O'.obj, _, O'.ns, fun g => ?_, fun g hg => ?_⟩
  · have := length_putF f y fs; omega
  · show RelO ((putF f y fs).lookup g) (if g = f then some u else mA g)
    rw [lookup_putF]
    by_cases q : g = f
    · rw [if_pos q, if_pos q]; exact ry
    · rw [if_neg q, if_neg q]; exact r g
  · by_cases q : g = f
    · rw [q]; exact (keys_putF f y fs).1
    · refine (keys_putF f y fs).2 g (wi g fun z => hg ?_)
      show (if g = f then some u else mA g) = none
      rw [if_neg q]; exact z

/-- a new instance, tracked, without attributes -/
theorem Inv.made (I : Inv X pins σ H s) : Inv X pins σ (upd (upd H s.heap.objs.size (.own (s.heap.objs.size + 1))) (s.heap.objs.size + 1) (.ins C s.heap.objs.size []))
    { s with heap := (s.heap.push PySem.W.emptyDict).push (PySem.W.instObj C s.heap.objs.size) } := by
  have e1 : (s.heap.push PySem.W.emptyDict).get? s.heap.objs.size = some PySem.W.emptyDict := Heap.get?_push_size s.heap rfl
  have e2 : ((s.heap.push PySem.W.emptyDict).push (PySem.W.instObj C s.heap.objs.size)).get? (s.heap.objs.size + 1) = some (PySem.W.instObj C s.heap.objs.size) := by
    have := Heap.get?_push_size (s.heap.push PySem.W.emptyDict) (o := PySem.W.instObj C s.heap.objs.size) rfl
    rwa [Heap.size_push] at this
  have e3 : (s.heap.push PySem.W.emptyDict).Ns s.heap.objs.size (fun _ => none) := ⟨PySem.W.emptyDict, #[], _, e1, rfl, (fun e he => absurd he (by simp)), fun _ => rfl⟩
  have I1 := I.laid (a := s.heap.objs.size) (o := .own (s.heap.objs.size + 1)) (h' := s.heap.push PySem.W.emptyDict) (t' := s.toks) (fun b u q => Heap.get?_push_of_some _ q) (Nat.le_refl _) ⟨_, e1⟩
  refine I1.laid (a := s.heap.objs.size + 1) (o := .ins C s.heap.objs.size []) (t' := s.toks) (fun b u q => Heap.get?_push_of_some _ q) (Nat.le_of_eq (Heap.size_push _ _)) ?_
  have ne : s.heap.objs.size ≠ s.heap.objs.size + 1 := Nat.ne_of_lt (Nat.lt_succ_self _)
  refine ⟨by rw [upd_ne ne, upd_same], Nat.zero_le _, ne, e2, fun _ => none, (Heap.Ns1.of_empty e3).at fun o q => Heap.get?_push_of_some _ q, fun _ => True.intro, fun y hy => absurd rfl hy⟩

/-- e.f where nothing but the object is asked: through attributeBase (super) and the last hold -/
theorem attr_of {prog : Program} {w : World} {env : Env} {e : Expr} {f : Str} {pos : Pos} {s : Shared} {Q : Value → Shared → Prop} (hb : attributeBase e f env (eval e env) = eval e env)
    (h : wpAny (model prog w) A (eval e env) (fun o s₁ => wpAny (model prog w) A (getAttr o f true) Q E s₁) E s) : wpAny (model prog w) A (eval (.Attribute e f pos) env) Q E s :=
  Attribute_any_ h (by rw [arm_eval_Attribute, hb])
end

/-! ### readings and rules -/
/-- e.f, an attribute of the instance -/
def tFld (K : PySem.W.Frag) (ta : TE) (f : Str) : TE := fun σ H Q => ta σ H fun x H1 => ∃ a C dx fs v, x = .ref a ∧ H1 a = some (.ins C dx fs) ∧ Cls K C ∧ NoAttr K C f ∧ fs.lookup f = some v ∧ Q v H1
/-- e.f, a constant of the class -/
def tCon (K : PySem.W.Frag) (ta : TE) (f : Str) : TE := fun σ H Q => ta σ H fun x H1 => ∃ a C dx fs v u, x = .ref a ∧ H1 a = some (.ins C dx fs) ∧ Cls K C ∧ Con K C f v u ∧ fs.lookup f = none ∧ Q v H1
/-- e.f = value -/
def sFld (K : PySem.W.Frag) (ta tv : TE) (f : Str) : TS := fun D σ H => tv σ H fun y H1 => ta σ H1 fun x H2 => ∃ a C dx fs, x = .ref a ∧ H2 a = some (.ins C dx fs) ∧ Cls K C ∧ NoAttr K C f ∧ fs.length < 1000 ∧
  D.nx σ (upd H2 a (.ins C dx (putF f y fs)))
/-- an augmented operator on two values -/
def InOp (X : Cx) (op : Operator) (rd : V → V → Hp → VK → Prop) : Prop :=
  ∀ (pins : List (Addr × Obj)) (s : Shared) (σ : St) (H : Hp) (x y : V) (u v : Value) (Q : VK), Inv X pins σ H s → RelV x u → RelV y v → rd x y H Q → wpAny (model X.prog X.w) X.A (inplaceOp op u v) (EP X pins σ Q) X.xe s
/-- e.f op= value -/
def sFldAug (K : PySem.W.Frag) (ta tv : TE) (rd : V → V → Hp → VK → Prop) (f : Str) : TS := fun D σ H => ta σ H fun x H1 => ∃ a C dx fs v, x = .ref a ∧ H1 a = some (.ins C dx fs) ∧ Cls K C ∧ NoAttr K C f ∧ fs.lookup f = some v ∧
  tv σ H1 fun y H2 => rd v y H2 fun z H3 => ∃ dx' fs', H3 a = some (.ins C dx' fs') ∧ fs'.length < 1000 ∧ D.nx σ (upd H3 a (.ins C dx' (putF f z fs')))

section
variable {X : Cx} {o e value : Expr} {f : Str} {pos pos' tpos : Pos} {ta tv : TE}
theorem pe_fld (he : PE X e ta) (hb : attributeBase e f X.env (eval e X.env) = eval e X.env) : PE X (.Attribute e f pos) (tFld X.K ta f) := by
  intro pins s σ H Q I h
  refine attr_of hb (thn (he pins s σ H _ I h) fun u s1 ⟨x, H1, I1, rx, a, C, dx, fs, v, ex, ea, c, n, l, q⟩ => ?_)
  subst ex
  obtain rfl : u = Value.ref a := rx
  exact getattr_ok I1 ea c n l fun u' s2 I2 ru => ⟨v, H1, I2, ru, q⟩
theorem pe_con (he : PE X e ta) (hb : attributeBase e f X.env (eval e X.env) = eval e X.env) : PE X (.Attribute e f pos) (tCon X.K ta f) := by
  intro pins s σ H Q I h
  refine attr_of hb (thn (he pins s σ H _ I h) fun u s1 ⟨x, H1, I1, rx, a, C, dx, fs, v, u0, ex, ea, c, k, l, q⟩ => ?_)
  subst ex
  obtain rfl : u = Value.ref a := rx
  exact getcon_ok I1 ea c k l fun s2 I2 => ⟨v, H1, I2, k.rel, q⟩
theorem ps_fld (ha : PE X o ta) (hv : PE X value tv) (hs : swapsWith value (some (.Attribute o f pos')) pos.line X.env = pure false) : PS X (.Assign [.Attribute o f pos'] value pos) (sFld X.K ta tv f) := by
  intro pins s σ H D I h
  refine plainObj_wpAny_Assign_Attribute (thn (hv pins s σ H _ I h) fun u s1 ⟨y, H1, I1, ry, q⟩ => thn (ha pins s1 σ H1 _ I1 q) fun ov s2 ⟨x, H2, I2, rx, a, C, dx, fs, ex, ea, c, n, l, q2⟩ => ?_) hs
  subst ex
  obtain rfl : ov = Value.ref a := rx
  exact setattr_ok I2 ea c n l ry fun s3 I3 => ⟨σ, _, I3, q2⟩
theorem ps_fldaug {op : Operator} {rd : V → V → Hp → VK → Prop} (ha : PE X o ta) (hv : PE X value tv) (hop : InOp X op rd) : PS X (.AugAssign (.Attribute o f tpos) op value pos) (sFldAug X.K ta tv rd f) := by
  intro pins s σ H D I h
  refine wpAny_AugAssign_AttributeAny (thn (ha pins s σ H _ I h) fun ov s1 ⟨x, H1, I1, rx, a, C, dx, fs, v, ex, ea, c, n, l, q⟩ => ?_)
  subst ex
  obtain rfl : ov = Value.ref a := rx
  refine getattr_ok I1 ea c n l fun u s2 I2 ru => thn (hv pins s2 σ H1 _ I2 q) fun w3 s3 ⟨y, H2, I3, ry, q3⟩ => thn (hop pins s3 σ H2 v y u w3 _ I3 ru ry q3) fun w4 s4 ⟨z, H3, I4, rz, dx', fs', ea', l', q4⟩ => ?_
  exact setattr_ok I4 ea' c n l' rz fun s5 I5 => ⟨σ, _, I5, q4⟩
def rAdd : V → V → Hp → VK → Prop := fun x y H Q => ∃ i j, x = .int i ∧ y = .int j ∧ Q (.int (i + j)) H
def rSub : V → V → Hp → VK → Prop := fun x y H Q => ∃ i j, x = .int i ∧ y = .int j ∧ Q (.int (i - j)) H
theorem in_add : InOp X .Add rAdd := by
  rintro pins s σ H x y u v Q I rx ry ⟨i, j, rfl, rfl, q⟩
  obtain ⟨t, rfl⟩ := (show ∃ t, u = Value.int i t from rx)
  obtain ⟨t', rfl⟩ := (show ∃ t', v = Value.int j t' from ry)
  exact PyProof.Rows.iadd_int ⟨.int (i + j), H, I.tok _, ⟨_, rfl⟩, q⟩
theorem in_sub : InOp X .Sub rSub := by
  rintro pins s σ H x y u v Q I rx ry ⟨i, j, rfl, rfl, q⟩
  obtain ⟨t, rfl⟩ := (show ∃ t, u = Value.int i t from rx)
  obtain ⟨t', rfl⟩ := (show ∃ t', v = Value.int j t' from ry)
  exact PyProof.Rows.isub_int ⟨.int (i - j), H, I.tok _, ⟨_, rfl⟩, q⟩

/-- what is between an instance and its method: the tree of a method call -/
theorem methcall_of {pl : Sem Bool} {m : Str} {apos : Pos} {args : List Expr} {pins : List (Addr × Obj)} {s : Shared} {σ : St} {H : Hp} {Q : Value → Shared → Prop} {te : TE} (he : PE X e te) (I : Inv X pins σ H s)
    (h : te σ H fun x H1 => ∃ a C dx fs g, x = .ref a ∧ H1 a = some (.ins C dx fs) ∧ Cls X.K C ∧ Meth X.K C m g ∧ fs.lookup m = none ∧
      ∀ s1, Inv X pins σ H1 s1 → wpAny (model X.prog X.w) X.A (callWith pos (.ref g) [.ref a] (backTo pos (starEach args X.env)) (backToKw pos (keywordEach [] X.env))) Q X.xe s1)
    (ht : eval (.Call (.Attribute e m apos) args [] pos) X.env = (do
      let ov ← eval e X.env
      standAt apos.atName
      let (f, first) ← holding [ov] (getMethod ov m pl)
      callWith pos f first (backTo pos (starEach args X.env)) (backToKw pos (keywordEach [] X.env)))) :
    wpAny (model X.prog X.w) X.A (eval (.Call (.Attribute e m apos) args [] pos) X.env) Q X.xe s := by
  refine PySem.W.methodCall_KW (pl := pl) (thn (he pins s σ H _ I h) fun u s1 ⟨x, H1, I1, rx, a, C, dx, fs, g, ex, ea, c, k, l, q⟩ => ?_) ht
  subst ex
  obtain rfl : u = Value.ref a := rx
  exact getmeth_ok I1 ea c k l (q s1 I1)
end

/-! ### isinstance -/
section
variable {X : Cx} {pins : List (Addr × Obj)} {σ : St} {H : Hp} {s : Shared} {A : Around} {E : Value → Shared → Prop} {Q : Value → Shared → Prop} {c : Value} {b : Bool}
/-- the type of a value, as the fragment's deciders take it; for an instance its class -/
inductive TyOf (K : PySem.W.Frag) (H : Hp) : V → Value → Prop where
  | non : TyOf K H .non (.type "NoneType")
  | bl (x : Bool) : TyOf K H (.bl x) (.type "bool")
  | int (i : Int) : TyOf K H (.int i) (.type "int")
  | str (x : Str) : TyOf K H (.str x) (.type "str")
  | flt (x : UInt64) : TyOf K H (.flt x) (.type "float")
  | lst {a : Addr} {xs : List V} (e : H a = some (.lst xs)) : TyOf K H (.ref a) (.type "list")
  | frz {a : Addr} {o : Obj} {xs : List V} (e : H a = some (.frz o (.lst xs))) : TyOf K H (.ref a) (.type "list")
  | tup {a : Addr} {xs : List V} (e : H a = some (.tup xs)) : TyOf K H (.ref a) (.type "tuple")
  | dK {a : Addr} {kvs : List (Key × V)} (e : H a = some (.dK kvs)) : TyOf K H (.ref a) (.type "dict")
  | dT {a : Addr} {kvs : List (List Key × V)} (e : H a = some (.dT kvs)) : TyOf K H (.ref a) (.type "dict")
  | ins {a C dx : Addr} {fs : List (Str × V)} (e : H a = some (.ins C dx fs)) (cl : Cls K C) (ha : PySem.W.findIn K (.ref C) "__class__" = some (some (.builtin "object.__class__")))
      (hn : PySem.W.specialIn K (.builtin "object.__class__") "__get__" = some (some (.builtin "getset_descriptor.__get__"))) (htk : PySem.W.takesIn K (.builtin "object.__class__") = some true)
      (hm : PySem.W.mroIn K C (.type "object") = some true) : TyOf K H (.ref a) (.ref C)
/-- isinstance(x, c) for one class c, a built-in or an own one: kitOne's answer -/
theorem isinst_ok {x : V} {u t : Value} (I : Inv X pins σ H s) (rx : RelV x u) (ty : TyOf X.K H x t) (e : PySem.W.kitOne X.K t c = some b) (h : ∀ tk, Q (.bool b) { s with toks := tk }) :
    wpAny (model X.prog X.w) A (call (.builtin "isinstance") [u, c]) Q E s := by
  cases ty with
  | non => cases (show u = Value.none from rx); exact PySem.W.kia_one PySem.W.kitx_none I.kIn True.intro e (fun z => nomatch z) h
  | bl y => cases (show u = Value.bool y from rx); exact PySem.W.kia_one PySem.W.kitx_bool I.kIn True.intro e (fun z => nomatch z) h
  | int i => obtain ⟨t, q⟩ := (show ∃ t, u = Value.int i t from rx); cases q; exact PySem.W.kia_one PySem.W.kitx_int I.kIn True.intro e (fun z => nomatch z) h
  | str y => obtain ⟨t, q⟩ := (show ∃ t, u = Value.str y t from rx); cases q; exact PySem.W.kia_one PySem.W.kitx_str I.kIn True.intro e (fun z => nomatch z) h
  | flt y => obtain ⟨t, q⟩ := (show ∃ t, u = Value.float y t from rx); cases q; exact PySem.W.kia_one PySem.W.kitx_float I.kIn True.intro e (fun z => nomatch z) h
  | @lst a xs ea =>
    cases (show u = Value.ref a from rx)
    obtain ⟨_, _, n, _, h1⟩ := (show ObjOk X.prog X.w H s.heap a (.lst xs) from I.hok a _ ea)
    exact PySem.W.kia_one PySem.W.kitx_list I.kIn ⟨_, h1, rfl⟩ e (fun z => nomatch z) h
  | @frz a ob xs ea =>
    cases (show u = Value.ref a from rx)
    obtain ⟨_, _, _, n, _, h1⟩ := (show ObjOk X.prog X.w H s.heap a (.frz ob (.lst xs)) from I.hok a _ ea)
    exact PySem.W.kia_one PySem.W.kitx_list I.kIn ⟨_, h1, rfl⟩ e (fun z => nomatch z) h
  | @tup a xs ea =>
    cases (show u = Value.ref a from rx)
    obtain ⟨_, _, _, p⟩ := (show ObjOk X.prog X.w H s.heap a (.tup xs) from I.hok a _ ea)
    obtain ⟨o, h1, h2, _⟩ := p
    exact PySem.W.kia_one PySem.W.kitx_tuple I.kIn ⟨o, h1, h2⟩ e (fun z => nomatch z) h
  | @dK a kvs ea =>
    cases (show u = Value.ref a from rx)
    obtain ⟨_, _, vs, _, p⟩ := (show ObjOk X.prog X.w H s.heap a (.dK kvs) from I.hok a _ ea)
    obtain ⟨o, es, ep, h1, h2, _⟩ := p
    exact PySem.W.kia_one PySem.W.kitx_dict I.kIn ⟨o, h1, h2.1⟩ e (fun z => nomatch z) h
  | @dT a kvs ea =>
    cases (show u = Value.ref a from rx)
    obtain ⟨_, _, xs, _, o, es, ep, h1, h2, _⟩ := (show ObjOk X.prog X.w H s.heap a (.dT kvs) from I.hok a _ ea)
    exact PySem.W.kia_one PySem.W.kitx_dict I.kIn ⟨o, h1, h2.1⟩ e (fun z => nomatch z) h
  | @ins a C dx fs ea cl ha hn htk hm =>
    cases (show u = Value.ref a from rx)
    obtain ⟨mA, O, _⟩ := ins_get I.hok ea
    obtain ⟨od, J, _⟩ := O.look
    exact PySem.W.kia_one (PySem.W.kitx_own (cl.get _) cl.hd ha hn htk hm) I.kIn J e (fun z => nomatch z) h
end
end L2

namespace L2
open PySem PySem.Spec PyProof.Rows

/-! ### room -/
structure Room (k : Nat) (A : Around) : Prop where
  hd : A.handled = none
  dp : A.depth + 3 * k + 5 < recursionLimit
  un : A.units + 16 * k + 200 < cLine
theorem Room.mono {j k : Nat} {A : Around} (r : Room k A) (h : j ≤ k) : Room j A := ⟨r.hd, by have := r.dp; omega, by have := r.un; omega⟩
theorem Room.deeper {k : Nat} {A : Around} (r : Room (k + 1) A) (env : Env) : Room k (A.deeper env) :=
  ⟨r.hd, by have := r.dp; show A.depth + 1 + 3 * k + 5 < _; omega, by have := r.un; show A.units + 3 + 16 * k + 200 < _; omega⟩
theorem Room.in1 {k : Nat} {A : Around} (r : Room (k + 1) A) : Room k A.in1 :=
  ⟨r.hd, by have := r.dp; show A.depth + 3 * k + 5 < _; omega, by have := r.un; show A.units + 1 + 16 * k + 200 < _; omega⟩
theorem make_depth {A : Around} {C : Addr} {us : List Value} {kw : List (Str × Value)} : (A.under (.builtin "type.__call__" ⟨.ref C :: us, kw⟩)).depth = A.depth + 1 := by
  first | rfl | simp [Around.under, Code.weight, Code.isCreation, Code.isGuard, Code.isCaller, Code.frames, Code.isFrame, guardIds]
theorem make_units {A : Around} {C : Addr} {us : List Value} {kw : List (Str × Value)} : (A.under (.builtin "type.__call__" ⟨.ref C :: us, kw⟩)).units = A.units + 1 := by
  first | rfl | simp [Around.under, Code.cUnits, Code.frames, Code.isFrame]
theorem Room.make {k : Nat} {A : Around} (r : Room (k + 1) A) (C : Addr) (us : List Value) (kw : List (Str × Value)) : Room k (A.under (.builtin "type.__call__" ⟨.ref C :: us, kw⟩)) :=
  ⟨r.hd, by have := r.dp; rw [make_depth]; omega, by have := r.un; rw [make_units]; omega⟩
theorem Room.depth {k : Nat} {A : Around} (r : Room k A) : A.depth < recursionLimit := by have := r.dp; omega
theorem Room.units {k : Nat} {A : Around} (r : Room k A) : A.units + 64 < cLine := by have := r.un; omega
theorem Room.units0 {k : Nat} {A : Around} (r : Room k A) : A.units < cLine := by have := r.un; omega

/-! ### argument lists and displays -/
def tNil : TA := fun _ H Q => Q [] H
def tCons (ta : TE) (tr : TA) : TA := fun σ H Q => ta σ H fun x H1 => tr σ H1 fun xs H2 => Q (x :: xs) H2
section
variable {X : Cx} {e : Expr} {es : List Expr} {te : TE} {t : TA} {pos : Pos}
theorem pa_nil : PA X [] tNil := fun _ _ _ _ H Q I h => Calls.spliced_nil ⟨[], H, I, .nil, h⟩
theorem pa_cons (ha : PE X e te) (hr : PA X es t) (hs : starEach (e :: es) X.env = (false, eval e X.env) :: starEach es X.env := by rfl) : PA X (e :: es) (tCons te t) := by
  intro pos pins s σ H Q I h
  rw [hs]
  show wpAny _ _ (spliced ((false, eval e X.env) :: backTo pos (starEach es X.env))) _ _ s
  refine Calls.spliced_cons (thn (ha pins s σ H _ I h) fun u s1 ⟨x, H1, I1, r1, q1⟩ => ?_)
  exact thn (hr pos pins s1 σ H1 _ I1 q1) fun us s2 ⟨xs, H2, I2, r2, q2⟩ => ⟨x :: xs, H2, I2, .cons r1 r2, q2⟩

/-- a tuple, a list of written items -/
def tTup (t : TA) : TE := fun σ H Q => t σ H fun xs H1 => xs.length ≤ sizeLine ∧ ∀ p, H1 p = none → Q (.ref p) (upd H1 p (.tup xs))
def tLst (t : TA) : TE := fun σ H Q => t σ H fun xs H1 => xs.length ≤ sizeLine ∧ ∀ p, H1 p = none → Q (.ref p) (upd H1 p (.lst xs))
theorem pe_tup {x1} (h : PA X es t) : PE X (.Tuple es x1 pos) (tTup t) := by
  intro pins s σ H Q I hq
  refine wpAny_Tuple_spliced (thn (h pos pins s σ H _ I hq) fun us s1 ⟨xs, H1, I1, r, z, q⟩ => ⟨by rw [← r.length]; exact z, ?_⟩)
  have hf : H1 s1.heap.objs.size = none := I1.hok.fresh (Nat.le_refl _)
  refine ⟨.ref s1.heap.objs.size, upd H1 s1.heap.objs.size (.tup xs), I1.laid (t' := s1.toks) (fun b u e => Heap.get?_push_of_some _ e) (Nat.le_refl _) ?_, rfl, q _ hf⟩
  exact ⟨z, us, r, ⟨_, Heap.get?_push_size _ rfl, rfl, _, rfl⟩⟩
theorem pe_lst (h : PA X es t) : PE X (.List es pos) (tLst t) := by
  intro pins s σ H Q I hq
  refine wpAny_List_spliced (thn (h pos pins s σ H _ I hq) fun us s1 ⟨xs, H1, I1, r, z, q⟩ => ⟨by rw [← r.length]; exact z, ?_⟩)
  have hf : H1 s1.heap.objs.size = none := I1.hok.fresh (Nat.le_refl _)
  refine ⟨.ref s1.heap.objs.size, upd H1 s1.heap.objs.size (.lst xs), I1.laid (t' := s1.toks) (fun b u e => Heap.get?_push_of_some _ e) (Nat.le_refl _) ?_, rfl, q _ hf⟩
  exact ⟨z, us, 0, r, Heap.get?_push_size _ rfl⟩
end

/-! ### what a def promises -/
/-- a def's promise: the bound arguments in the parameters' order, the heap, the wanted end, the wanted exception -/
abbrev Sp := List V → Hp → VK → XK → Prop
/-- how an exception lies behind a call (file 08 gives it): the callers' frames, abstract heap and state ahead of the call, the wish, the exception, the state -/
abbrev CXT := List Env → Hp → Shared → XK → Value → Shared → Prop

/-- the state at a call -/
structure Env0 (P : Program) (w : World) (K : PySem.W.Frag) (mg : Str → Option Value) (base : Heap) (A : Around) (outer : List Env) (s : Shared) (H : Hp) : Prop where
  frames : A.frames = some outer
  mod : Mod K mg base
  bs : ∀ b o, base.get? b = some o → s.heap.get? b = some o ∧ H b = none
  bsz : base.objs.size ≤ s.heap.objs.size
  funs : s.heap.FunFrames base outer
  frf : ∀ b ∈ frs outer, H b = none
  hok : HOk P w H s.heap
  bare : AllBare s.gens
/-- a call's end -/
def CE (outer : List Env) (P : Program) (w : World) (H : Hp) (s : Shared) (Q : VK) (u : Value) (s' : Shared) : Prop :=
  ∃ v H', s'.os = s.os ∧ AllBare s'.gens ∧ Un (frs outer) [] H H' s.heap s'.heap ∧ HOk P w H' s'.heap ∧ RelV v u ∧ Q v H'
def CR (CX : CXT) (outer : List Env) (P : Program) (w : World) (H : Hp) (s : Shared) (Q : VK) (E : XK) (r : Result) (s' : Shared) : Prop :=
  match r with
  | .ok (.ret u) => CE outer P w H s Q u s'
  | .ok _ => False
  | .error e => CX outer H s E e s'
structure FnOk (P : Program) (w : World) (K : PySem.W.Frag) (mg : Str → Option Value) (base : Heap) (CX : CXT) (k : Nat) (f : Addr) (fd : FuncData) (ps : List Str) (sp : Sp) : Prop where
  len : ∀ vs H Q E, sp vs H Q E → vs.length = ps.length
  run : ∀ (A : Around) (outer : List Env) (s : Shared) (H : Hp) (args : Args) (us : List Value) (vs : List V) (Q : VK) (E : XK), Room k A → Env0 P w K mg base A outer s H → BindsTo s fd args (ps.zip us) → Vals vs us → sp vs H Q E →
    codeAny (model P w) A (.call (.ref f) args) (CR CX outer P w H s Q E) s
theorem FnOk.mono {P : Program} {w : World} {K : PySem.W.Frag} {mg : Str → Option Value} {base : Heap} {CX : CXT} {j k : Nat} {f : Addr} {fd : FuncData} {ps : List Str} {sp : Sp} (F : FnOk P w K mg base CX j f fd ps sp) (h : j ≤ k) :
    FnOk P w K mg base CX k f fd ps sp := ⟨F.len, fun A outer s H args us vs Q E hr => F.run A outer s H args us vs Q E (hr.mono h)⟩
/-- a weaker promise -/
theorem FnOk.imp {P : Program} {w : World} {K : PySem.W.Frag} {mg : Str → Option Value} {base : Heap} {CX : CXT} {k : Nat} {f : Addr} {fd : FuncData} {ps : List Str} {sp sp' : Sp} (F : FnOk P w K mg base CX k f fd ps sp)
    (h : ∀ vs H Q E, sp' vs H Q E → sp vs H Q E) : FnOk P w K mg base CX k f fd ps sp' :=
  ⟨fun vs H Q E q => F.len vs H Q E (h _ _ _ _ q), fun A outer s H args us vs Q E hr he hb hv hs => F.run A outer s H args us vs Q E hr he hb hv (h _ _ _ _ hs)⟩

theorem Env0.make {P : Program} {w : World} {K : PySem.W.Frag} {mg : Str → Option Value} {base : Heap} {A : Around} {outer : List Env} {s : Shared} {H : Hp} (e : Env0 P w K mg base A outer s H) (C : Addr) (us : List Value) (kw : List (Str × Value)) :
    Env0 P w K mg base (A.under (.builtin "type.__call__" ⟨.ref C :: us, kw⟩)) outer s H := ⟨by first | exact e.frames | (simpa [Around.under, Code.envs, Code.isFrame, pushEnvs] using e.frames), e.mod, e.bs, e.bsz, e.funs, e.frf, e.hok, e.bare⟩
theorem Env0.in1 {P : Program} {w : World} {K : PySem.W.Frag} {mg : Str → Option Value} {base : Heap} {A : Around} {outer : List Env} {s : Shared} {H : Hp} (e : Env0 P w K mg base A outer s H) :
    Env0 P w K mg base A.in1 outer s H := ⟨e.frames, e.mod, e.bs, e.bsz, e.funs, e.frf, e.hok, e.bare⟩

section
variable {X : Cx} {pins : List (Addr × Obj)} {σ : St} {H : Hp} {s s' : Shared}
/-- from a body: what a callee wants -/
theorem Inv.env0 (I : Inv X pins σ H s) : Env0 X.prog X.w X.K X.mg X.base X.A X.stack s H :=
  ⟨I.ok.frames, I.ok.mod, I.bs, Nat.le_trans I.ok.bsz I.sz, I.stack, I.stkFree, I.hok, I.bare⟩
/-- behind a call -/
theorem Inv.after {Q : VK} {u : Value} (I : Inv X pins σ H s) (h : CE X.stack X.prog X.w H s Q u s') : EP X pins σ Q u s' := by
  obtain ⟨v, H', os, bare, un, hok, r, q⟩ := h
  obtain ⟨hh, g, d, t, os'⟩ := s'
  obtain rfl : os' = s.os := os
  exact ⟨v, H', I.call (h' := hh) (g' := g) (d' := d) (t' := t) (ch := []) un hok bare (fun b z => absurd z (by simp)), r, q⟩
end

/-! ### calls -/
/-- f(..): the written arguments, then the defaults dvs; E: what is wanted of an exception -/
def tCall (sp : Sp) (dvs : List V) (E : XK) (t : TA) : TE := fun σ H Q => t σ H fun vs H1 => sp (vs ++ dvs) H1 Q E
/-- o.m(..) of an instance of the class at C -/
def tMeth (C : Addr) (m : Str) (sp : Sp) (dvs : List V) (E : XK) (ta : TE) (t : TA) : TE := fun σ H Q => ta σ H fun x H1 => ∃ a dx fs, x = .ref a ∧ H1 a = some (.ins C dx fs) ∧ fs.lookup m = none ∧
  t σ H1 fun vs H2 => sp (x :: (vs ++ dvs)) H2 Q E
/-- C(..): a new instance and its dict, then __init__ -/
def tMake (C : Addr) (sp : Sp) (dvs : List V) (E : XK) (t : TA) : TE := fun σ H Q => t σ H fun vs H1 => ∀ x dx, H1 x = none → H1 dx = none → dx ≠ x →
  sp (.ref x :: (vs ++ dvs)) (upd (upd H1 dx (.own x)) x (.ins C dx [])) (fun v H2 => v = .non ∧ Q (.ref x) H2) E

/-- how the parameters are bound: us the positional arguments, kw the keywords' values by name, ds the defaults that fill up -/
def Binds (K : PySem.W.Frag) (fd : FuncData) (ps : List Str) (ds : List Value) : Prop :=
  ∀ (s : Shared) (us : List Value), K.In s.heap → (us ++ ds).length = ps.length → BindsTo s fd ⟨us, []⟩ (ps.zip (us ++ ds))
/-- every parameter is given -/
theorem Binds.all {K : PySem.W.Frag} {fd : FuncData} {ps : List Str} (h : ∀ us : List Value, us.length = ps.length → bindArgs fd ⟨us, []⟩ = pure (ps.zip us)) : Binds K fd ps [] := fun s us _ hl => by
  rw [List.append_nil] at hl ⊢
  exact .of_eq (h us hl)

/-- an exception of a callee reaches what this body wants of exceptions -/
def Passes (CX : CXT) (X : Cx) (E : XK) : Prop := ∀ (pins : List (Addr × Obj)) (σ : St) (H : Hp) (s : Shared) (e : Value) (s' : Shared), Inv X pins σ H s → CX X.stack H s E e s' → X.xe e s'

section
variable {X : Cx} {CX : CXT} {k : Nat} {f C : Addr} {fd : FuncData} {ps : List Str} {sp : Sp} {dvs : List V} {ds : List Value} {E : XK} {x m : Str} {p pos apos : Pos} {e o : Expr} {es : List Expr} {ta : TE} {t : TA}

/-- the callee runs -/
theorem run_fn {pins : List (Addr × Obj)} {σ : St} {H : Hp} {s : Shared} {Q : VK} {us : List Value} {vs : List V} (F : FnOk X.prog X.w X.K X.mg X.base CX k f fd ps sp) (hr : Room k X.A) (hb : Binds X.K fd ps ds) (hd : Vals dvs ds) (hx : Passes CX X E)
    (I : Inv X pins σ H s) (r : Vals vs us) (h : sp (vs ++ dvs) H Q E) : wpAny (model X.prog X.w) X.A (call (.ref f) us) (EP X pins σ Q) X.xe s := by
  have r2 : Vals (vs ++ dvs) (us ++ ds) := r.append hd
  have hl : (us ++ ds).length = ps.length := by rw [← r2.length]; exact F.len _ _ _ _ h
  refine wpAny_call (codeAny_mono (F.run X.A X.stack s H ⟨us, []⟩ (us ++ ds) (vs ++ dvs) Q E hr I.env0 (hb s us I.kIn hl) r2 h) fun r s' hq => ?_)
  cases r with
  | error e => exact hx pins σ H s e s' I hq
  | ok fl =>
    cases fl with
    | ret u => exact I.after hq
    | next => exact False.elim hq
    | brk => exact False.elim hq
    | cont => exact False.elim hq

theorem pe_call (F : FnOk X.prog X.w X.K X.mg X.base CX k f fd ps sp) (hr : Room k X.A) (hg : Gl X x) (hm : X.mg x = some (.ref f)) (hk : PySem.W.keepIn X.K (.ref f) = true) (hb : Binds X.K fd ps ds) (hd : Vals dvs ds) (hx : Passes CX X E)
    (ha : PA X (e :: es) t) (hdb : (x == ("__debug__" : Str)) = false := by decide) (he : starEach (e :: es) X.env = (false, eval e X.env) :: starEach es X.env := by rfl) (hpl : (backTo pos (starEach es X.env)).any (·.1) = false := by rfl) :
    PE X (.Call (.Name x p) (e :: es) [] pos) (tCall sp dvs E t) := by
  intro pins s σ H Q I h
  refine wpAny_Call_Name_kw (ld_glob I hg hm ?_ hdb)
  refine PySem.W.callWith_K (h₀ := X.base) I.ok.mod.kin hk (thn (ha pos pins s σ H _ I h) fun us s1 ⟨vs, H1, I1, r, q⟩ => ⟨I1.kIn, ?_⟩) he hpl
  exact run_fn F hr hb hd hx I1 r q
theorem pe_call0 (F : FnOk X.prog X.w X.K X.mg X.base CX k f fd ps sp) (hr : Room k X.A) (hg : Gl X x) (hm : X.mg x = some (.ref f)) (hk : PySem.W.keepIn X.K (.ref f) = true) (hb : Binds X.K fd ps ds) (hd : Vals dvs ds) (hx : Passes CX X E)
    (hdb : (x == ("__debug__" : Str)) = false := by decide) : PE X (.Call (.Name x p) [] [] pos) (tCall sp dvs E tNil) := by
  intro pins s σ H Q I h
  refine wpAny_Call_Name_kw (ld_glob I hg hm ?_ hdb)
  exact PySem.W.callWith_K0 I.kIn hk (run_fn (us := []) F hr hb hd hx I .nil h)

/-- o.m(e, ..) -/
theorem pe_meth {pl : Sem Bool} (he : PE X o ta) (c : Cls X.K C) (hm : Meth X.K C m f) (F : FnOk X.prog X.w X.K X.mg X.base CX k f fd ps sp) (hr : Room k X.A) (hb : Binds X.K fd ps ds) (hd : Vals dvs ds) (hx : Passes CX X E) (ha : PA X (e :: es) t)
    (hst : starEach (e :: es) X.env = (false, eval e X.env) :: starEach es X.env := by rfl) (hpl : (backTo pos (starEach es X.env)).any (·.1) = false := by rfl)
    (ht : eval (.Call (.Attribute o m apos) (e :: es) [] pos) X.env = (do
      let ov ← eval o X.env
      standAt apos.atName
      let (f, first) ← holding [ov] (getMethod ov m pl)
      callWith pos f first (backTo pos (starEach (e :: es) X.env)) (backToKw pos (keywordEach [] X.env))) := by rfl) :
    PE X (.Call (.Attribute o m apos) (e :: es) [] pos) (tMeth C m sp dvs E ta t) := by
  intro pins s σ H Q I h
  refine PySem.W.methodCall_KW (pl := pl) (thn (he pins s σ H _ I h) fun u s1 ⟨x, H1, I1, rx, a, dx, fs, ex, ea, l, q⟩ => ?_) ht
  subst ex
  obtain rfl : u = Value.ref a := rx
  refine getmeth_ok I1 ea c hm l ?_
  refine PySem.W.callWith_K (first := [.ref a]) (h₀ := X.base) I.ok.mod.kin hm.kp (thn (ha pos pins s1 σ H1 _ I1 q) fun us s2 ⟨vs, H2, I2, r, q2⟩ => ⟨I2.kIn, ?_⟩) hst hpl
  exact run_fn (us := .ref a :: us) (vs := .ref a :: vs) F hr hb hd hx I2 (.cons rfl r) q2
/-- o.m() -/
theorem pe_meth0 {pl : Sem Bool} (he : PE X o ta) (c : Cls X.K C) (hm : Meth X.K C m f) (F : FnOk X.prog X.w X.K X.mg X.base CX k f fd ps sp) (hr : Room k X.A) (hb : Binds X.K fd ps ds) (hd : Vals dvs ds) (hx : Passes CX X E)
    (ht : eval (.Call (.Attribute o m apos) [] [] pos) X.env = (do
      let ov ← eval o X.env
      standAt apos.atName
      let (f, first) ← holding [ov] (getMethod ov m pl)
      callWith pos f first (backTo pos (starEach [] X.env)) (backToKw pos (keywordEach [] X.env))) := by rfl) :
    PE X (.Call (.Attribute o m apos) [] [] pos) (tMeth C m sp dvs E ta tNil) := by
  intro pins s σ H Q I h
  refine PySem.W.methodCall_KW (pl := pl) (thn (he pins s σ H _ I h) fun u s1 ⟨x, H1, I1, rx, a, dx, fs, ex, ea, l, q⟩ => ?_) ht
  subst ex
  obtain rfl : u = Value.ref a := rx
  refine getmeth_ok I1 ea c hm l ?_
  exact PySem.W.callWith_K0 (first := [.ref a]) I1.kIn hm.kp (run_fn (us := [.ref a]) (vs := [.ref a]) F hr hb hd hx I1 (.cons rfl .nil) q)

/-- what a class must have to be made -/
structure Mk (K : PySem.W.Frag) (C f : Addr) : Prop where
  makes : PySem.W.makesIn K C = true
  init : PySem.W.findIn K (.ref C) "__init__" = some (some (.ref f))
  fn : PySem.W.isFn K (.ref f) = true
  kp : PySem.W.keepIn K (.ref C) = true

theorem run_make {pins : List (Addr × Obj)} {σ : St} {H : Hp} {s : Shared} {Q : VK} {us : List Value} {vs : List V} (M : Mk X.K C f) (F : FnOk X.prog X.w X.K X.mg X.base CX k f fd ps sp) (hr : Room (k + 1) X.A) (hb : Binds X.K fd ps ds) (hd : Vals dvs ds)
    (hx : Passes CX X E) (I : Inv X pins σ H s) (r : Vals vs us)
    (h : ∀ x dx, H x = none → H dx = none → dx ≠ x → sp (.ref x :: (vs ++ dvs)) (upd (upd H dx (.own x)) x (.ins C dx [])) (fun v H2 => v = .non ∧ Q (.ref x) H2) E) :
    wpAny (model X.prog X.w) X.A (call (.ref C) us) (EP X pins σ Q) X.xe s := by
  have hq := h (s.heap.objs.size + 1) s.heap.objs.size (I.hok.fresh (Nat.le_succ _)) (I.hok.fresh (Nat.le_refl _)) (Nat.ne_of_lt (Nat.lt_succ_self _))
  have I2 := Inv.made (C := C) I
  have r2 : Vals (V.ref (s.heap.objs.size + 1) :: (vs ++ dvs)) (Value.ref (s.heap.objs.size + 1) :: (us ++ ds)) := .cons rfl (r.append hd)
  have hl : (Value.ref (s.heap.objs.size + 1) :: us ++ ds).length = ps.length := by
    have e := r2.length
    rw [F.len _ _ _ _ hq] at e
    exact e.symm
  refine wpAny_call (make_map (f := f) I.kIn M.makes M.init (beq_iff_eq.mp M.fn) (codeAny_mono (F.run _ X.stack _ _ ⟨Value.ref (s.heap.objs.size + 1) :: us, []⟩ (Value.ref (s.heap.objs.size + 1) :: (us ++ ds)) _ _ E (hr.make C us [])
    (I2.env0.make C us []) (hb _ (Value.ref (s.heap.objs.size + 1) :: us) I2.kIn hl) r2 hq) fun r s' hq' => ?_))
  cases r with
  | error e => exact hx pins σ _ _ e s' I2 hq'
  | ok fl =>
    cases fl with
    | ret u =>
      obtain ⟨v, H', I3, rv, ev, q3⟩ := I2.after hq'
      subst ev
      exact ⟨rv, ⟨V.ref (s.heap.objs.size + 1), H', I3, rfl, q3⟩⟩
    | next => exact False.elim hq'
    | brk => exact False.elim hq'
    | cont => exact False.elim hq'
theorem pe_make (M : Mk X.K C f) (F : FnOk X.prog X.w X.K X.mg X.base CX k f fd ps sp) (hr : Room (k + 1) X.A) (hg : Gl X x) (hm : X.mg x = some (.ref C)) (hb : Binds X.K fd ps ds) (hd : Vals dvs ds) (hx : Passes CX X E)
    (ha : PA X (e :: es) t) (hdb : (x == ("__debug__" : Str)) = false := by decide) (he : starEach (e :: es) X.env = (false, eval e X.env) :: starEach es X.env := by rfl) (hpl : (backTo pos (starEach es X.env)).any (·.1) = false := by rfl) :
    PE X (.Call (.Name x p) (e :: es) [] pos) (tMake C sp dvs E t) := by
  intro pins s σ H Q I h
  refine wpAny_Call_Name_kw (ld_glob I hg hm ?_ hdb)
  refine PySem.W.callWith_K (h₀ := X.base) I.ok.mod.kin M.kp (thn (ha pos pins s σ H _ I h) fun us s1 ⟨vs, H1, I1, r, q⟩ => ⟨I1.kIn, ?_⟩) he hpl
  exact run_make M F hr hb hd hx I1 r q
theorem pe_make0 (M : Mk X.K C f) (F : FnOk X.prog X.w X.K X.mg X.base CX k f fd ps sp) (hr : Room (k + 1) X.A) (hg : Gl X x) (hm : X.mg x = some (.ref C)) (hb : Binds X.K fd ps ds) (hd : Vals dvs ds) (hx : Passes CX X E)
    (hdb : (x == ("__debug__" : Str)) = false := by decide) : PE X (.Call (.Name x p) [] [] pos) (tMake C sp dvs E tNil) := by
  intro pins s σ H Q I h
  refine wpAny_Call_Name_kw (ld_glob I hg hm ?_ hdb)
  exact PySem.W.callWith_K0 I.kIn M.kp (run_make (us := []) M F hr hb hd hx I .nil h)
end

/-! ### keywords -/
/-- the values of the keywords, from the left -/
def PK (X : Cx) (kws : List Keyword) (t : TA) : Prop :=
  ∀ (pos : Pos) (pins : List (Addr × Obj)) (s : Shared) (σ : St) (H : Hp) (Q : List V → Hp → Prop), Inv X pins σ H s → t σ H Q → wpAny (model X.prog X.w) X.A (evalAll ((backToKw pos (keywordEach kws X.env)).map (·.2))) (AP X pins σ Q) X.xe s
section
variable {X : Cx} {CX : CXT} {k : Nat} {f C : Addr} {fd : FuncData} {ps ks : List Str} {sp : Sp} {E : XK} {x m : Str} {p pos apos kpos : Pos} {e o : Expr} {es : List Expr} {kws : List Keyword} {te ta : TE} {t tk : TA} {nm : Option Str}
theorem pk_nil : PK X [] tNil := fun _ _ _ _ H Q I h => wpAny_evalAll_nil ⟨[], H, I, .nil, h⟩
theorem pk_cons (ha : PE X e te) (hr : PK X kws t) : PK X (⟨nm, e, kpos⟩ :: kws) (tCons te t) := by
  intro pos pins s σ H Q I h
  show wpAny _ _ (evalAll ((do let v ← eval e X.env; standAt pos; pure v) :: (backToKw pos (keywordEach kws X.env)).map (·.2))) _ _ s
  refine wpAny_evalAll_cons (wpAny_bind (thn (ha pins s σ H _ I h) fun u s1 ⟨x, H1, I1, r1, q1⟩ => wpAny_bind (wpAny_standAt (wpAny_pure ?_))))
  exact thn (hr pos pins s1 σ H1 _ I1 q1) fun us s2 ⟨xs, H2, I2, r2, q2⟩ => ⟨x :: xs, H2, I2, .cons r1 r2, q2⟩

/-- how a call with keywords binds: g puts the positional values us and the keywords' values ws (names ks) in the parameters' order, defaults among them -/
structure KBinds (K : PySem.W.Frag) (fd : FuncData) (ps ks : List Str) (g : List Value → List Value → List Value) (gV : List V → List V → List V) : Prop where
  to : ∀ (s : Shared) (us ws : List Value), K.In s.heap → (g us ws).length = ps.length → BindsTo s fd ⟨us, ks.zip ws⟩ (ps.zip (g us ws))
  rel : ∀ {vs : List V} {us : List Value} {zs : List V} {ws : List Value}, Vals vs us → Vals zs ws → Vals (gV vs zs) (g us ws)
def tCallK (sp : Sp) (gV : List V → List V → List V) (E : XK) (t tk : TA) : TE := fun σ H Q => t σ H fun vs H1 => tk σ H1 fun zs H2 => sp (gV vs zs) H2 Q E
variable {g : List Value → List Value → List Value} {gV : List V → List V → List V}
theorem run_fnk {pins : List (Addr × Obj)} {σ : St} {H : Hp} {s : Shared} {Q : VK} {us ws : List Value} {vs zs : List V} (F : FnOk X.prog X.w X.K X.mg X.base CX k f fd ps sp) (hr : Room k X.A) (hb : KBinds X.K fd ps ks g gV) (hx : Passes CX X E)
    (I : Inv X pins σ H s) (r : Vals vs us) (rz : Vals zs ws) (h : sp (gV vs zs) H Q E) : wpAny (model X.prog X.w) X.A (call (.ref f) us (ks.zip ws)) (EP X pins σ Q) X.xe s := by
  have r2 := hb.rel r rz
  have hl : (g us ws).length = ps.length := by rw [← r2.length]; exact F.len _ _ _ _ h
  refine wpAny_call (codeAny_mono (F.run X.A X.stack s H ⟨us, ks.zip ws⟩ (g us ws) (gV vs zs) Q E hr I.env0 (hb.to s us ws I.kIn hl) r2 h) fun r s' hq => ?_)
  cases r with
  | error e => exact hx pins σ H s e s' I hq
  | ok fl =>
    cases fl with
    | ret u => exact I.after hq
    | next => exact False.elim hq
    | brk => exact False.elim hq
    | cont => exact False.elim hq
/-- f(e, .., k = v, ..) -/
theorem pe_callK (F : FnOk X.prog X.w X.K X.mg X.base CX k f fd ps sp) (hr : Room k X.A) (hg : Gl X x) (hm : X.mg x = some (.ref f)) (hk : PySem.W.keepIn X.K (.ref f) = true) (hb : KBinds X.K fd ps ks g gV) (hx : Passes CX X E)
    (ha : PA X (e :: es) t) (hkw : PK X kws tk) (hall : (backToKw pos (keywordEach kws X.env)).all (·.1.isSome) = true := by rfl) (hks : (backToKw pos (keywordEach kws X.env)).filterMap (·.1) = ks := by rfl)
    (hdb : (x == ("__debug__" : Str)) = false := by decide) (he : starEach (e :: es) X.env = (false, eval e X.env) :: starEach es X.env := by rfl)
    (hpl : ((backTo pos (starEach (e :: es) X.env)).any (·.1) || (backToKw pos (keywordEach kws X.env)).any (·.1.isNone)) = false := by rfl) :
    PE X (.Call (.Name x p) (e :: es) kws pos) (tCallK sp gV E t tk) := by
  intro pins s σ H Q I h
  refine wpAny_Call_Name_kw (ld_glob I hg hm ?_ hdb)
  refine PySem.W.callWith_KW (h₀ := X.base) I.ok.mod.kin hk hall (thn (ha pos pins s σ H _ I h) fun us s1 ⟨vs, H1, I1, r, q⟩ => ?_) hpl he
  refine thn (hkw pos pins s1 σ H1 _ I1 q) fun ws s2 ⟨zs, H2, I2, rz, q2⟩ => ⟨I2.kIn, ?_⟩
  rw [hks]
  exact run_fnk F hr hb hx I2 r rz q2
end

/-! ### a def's body keeps its promise -/
/-- names: the parameters first -/
structure FnScope (N P : List Str) (sc : Scope) : Prop where
  kind : sc.kind = .function
  co : sc.isCoroutine = false
  gen : sc.isGenerator = false
  nd : N.Nodup
  pre : N.take P.length = P
  par : ∀ x ∈ P, sc.names.lookup x = some .local ∨ sc.names.lookup x = some .cell
  nofree : ∀ y ∈ sc.names, y.2 ≠ .free

theorem bindL_out {kindOf : Str → Option NameKind} {x : Str} : ∀ {binds : List (Str × Value)} {m : Str → Option Value}, (∀ v, (x, v) ∉ binds) → bindL kindOf binds m x = m x
  | [], _, _ => rfl
  | (n, v) :: r, m, h => by
    unfold bindL
    rw [bindL_out fun w hw => h w (List.mem_cons_of_mem _ hw)]
    split
    · have : x ≠ n := by rintro rfl; exact h v List.mem_cons_self
      simp [this]
    · rfl
theorem bindC_out {kindOf : Str → Option NameKind} {x : Str} : ∀ {binds : List (Str × Value)} {m : Str → Option Value}, (∀ v, (x, v) ∉ binds) → bindC kindOf binds m x = m x
  | [], _, _ => rfl
  | (n, v) :: r, m, h => by
    unfold bindC
    rw [bindC_out fun w hw => h w (List.mem_cons_of_mem _ hw)]
    split
    · rfl
    · have : x ≠ n := by rintro rfl; exact h v List.mem_cons_self
      simp [this]
theorem bindL_get {kindOf : Str → Option NameKind} {x : Str} {v : Value} : ∀ {P : List Str} {vs : List Value} {i : Nat} {m : Str → Option Value}, P.Nodup → P[i]? = some x → vs[i]? = some v → kindOf x = some .local →
    bindL kindOf (P.zip vs) m x = some v
  | [], _, _, _, _, h, _, _ => by simp at h
  | _ :: _, [], _, _, _, _, h, _ => by simp at h
  | p :: P, w :: vs, 0, m, nd, h1, h2, hk => by
    simp at h1 h2; subst h1; subst h2
    show bindL kindOf ((p, w) :: P.zip vs) m p = _
    unfold bindL
    rw [bindL_out fun v hv => (List.nodup_cons.mp nd).1 (List.of_mem_zip hv).1, if_pos hk]
    simp
  | p :: P, w :: vs, i + 1, m, nd, h1, h2, hk => by
    show bindL kindOf ((p, w) :: P.zip vs) m x = _
    unfold bindL
    exact bindL_get (i := i) (List.nodup_cons.mp nd).2 (by simpa using h1) (by simpa using h2) hk
theorem bindC_get {kindOf : Str → Option NameKind} {x : Str} {v : Value} : ∀ {P : List Str} {vs : List Value} {i : Nat} {m : Str → Option Value}, P.Nodup → P[i]? = some x → vs[i]? = some v → kindOf x ≠ some .local →
    bindC kindOf (P.zip vs) m x = some v
  | [], _, _, _, _, h, _, _ => by simp at h
  | _ :: _, [], _, _, _, _, h, _ => by simp at h
  | p :: P, w :: vs, 0, m, nd, h1, h2, hk => by
    simp at h1 h2; subst h1; subst h2
    show bindC kindOf ((p, w) :: P.zip vs) m p = _
    unfold bindC
    rw [bindC_out fun v hv => (List.nodup_cons.mp nd).1 (List.of_mem_zip hv).1, if_neg hk]
    simp
  | p :: P, w :: vs, i + 1, m, nd, h1, h2, hk => by
    show bindC kindOf ((p, w) :: P.zip vs) m x = _
    unfold bindC
    exact bindC_get (i := i) (List.nodup_cons.mp nd).2 (by simpa using h1) (by simpa using h2) hk

/-- the names' values at the entry -/
def start (N : List Str) (vs : List V) : St := vs.map some ++ List.replicate (N.length - vs.length) none

/-- the context of a def's body, at its entry; an exception leaves the frame, then lies as CX says -/
def cxOf (CX : CXT) (P : Program) (w : World) (K : PySem.W.Frag) (mg : Str → Option Value) (base : Heap) (N : List Str) (qual : Str) (scope : Scope) (f : Addr) (cd : Value) (A : Around) (outer : List Env) (s : Shared) (H : Hp) (E : XK) : Cx where
  prog := P
  w := w
  K := K
  mg := mg
  base := base
  A := A.deeper (envOfC qual scope s.heap.objs.size f cd)
  N := N
  s_0 := s
  H_0 := H
  env := envOfC qual scope s.heap.objs.size f cd
  outer := outer
  stack := envOfC qual scope s.heap.objs.size f cd :: outer
  ex := []
  calm := true
  fn := fun _ => true
  pn := []
  xe := fun e s' => wpAny (model P w) (A.deeper (envOfC qual scope s.heap.objs.size f cd)) (leaving (envOfC qual scope s.heap.objs.size f cd) e) (fun _ s'' => CX outer H s E e s'') (fun e' s'' => CX outer H s E e' s'') s'

theorem cell_has {sc : Scope} {n : Nat} {x : Str} (h : sc.names.lookup x = some .cell) : ∃ c, (cellsFrom n sc.names []).lookup x = some c := by
  have q := PySem.W.cellsFrom_some sc.names n [] (.inl h)
  exact Option.isSome_iff_exists.mp q

theorem inv_start {CX : CXT} {P : Program} {w : World} {K : PySem.W.Frag} {mg : Str → Option Value} {base : Heap} {N ps : List Str} {qual : Str} {scope : Scope} {f : Addr} {cd : Value} {A : Around} {outer : List Env} {s s1 : Shared} {H : Hp} {E : XK} {us : List Value} {vs : List V}
    (S : FnScope N ps scope) (hd : A.handled = none) (e0 : Env0 P w K mg base A outer s H) (hl : vs.length = ps.length) (r : Vals vs us)
    (x : InCallC s s.heap.objs.size (bindL (envOfC qual scope s.heap.objs.size f cd).kindOf (ps.zip us) fun _ => none) (cellsFrom (s.heap.objs.size + 1) scope.names []) (bindC (envOfC qual scope s.heap.objs.size f cd).kindOf (ps.zip us) fun _ => none) s1) :
    Inv (cxOf CX P w K mg base N qual scope f cd A outer s H E) [] (start N vs) H s1 := by
  have hpl : ps.length ≤ N.length := by have := congrArg List.length S.pre; rw [List.length_take] at this; omega
  obtain ⟨h1, tk, rfl, hk⟩ := x.done
  have noA : ∀ b : Addr, b ∉ (cxOf CX P w K mg base N qual scope f cd A outer s H E).ex := fun b z => absurd (show b ∈ ([] : List Addr) from z) (by simp)
  refine ⟨⟨e0.mod, S.kind, rfl, rfl, Nat.le_refl _, fun y z c h1 h2 => ?_, fun y hy => ?_, fun y c _ h => ?_, fun _ => hd, Around.frames_deeper e0.frames, .inr ⟨rfl, rfl⟩, fun b z => absurd z (noA b), e0.bs, e0.bsz, fun b _ _ => noA b, fun b z => absurd z (noA b), e0.funs, e0.frf⟩,
    rfl, e0.bare, Un.kept hk, ⟨_, x.toInCall.ns, fun i y v h1 h2 h3 => ?_⟩, fun y c h => ⟨_, x.cell y c h⟩, e0.hok.fresh (Nat.le_refl _), fun y c h => ?_, fun p hp => absurd (show p ∈ ([] : List (Addr × Obj)) from hp) (by simp), e0.hok.kept hk, ?_⟩
  · exact name_of_addr x.apart (PySem.mem_of_lookup h1) (PySem.mem_of_lookup h2)
  · have hy : scope.names.lookup y = some .cell ∨ scope.names.lookup y = some .free := hy
    rcases hy with hy | hy
    · exact cell_has hy
    · exact absurd rfl (S.nofree _ (PySem.mem_of_lookup hy))
  · exact Nat.le_of_lt (x.above y c (PySem.mem_of_lookup h))
  · have hi : i < vs.length := by
      unfold start at h2
      by_cases hi : i < vs.length
      · exact hi
      · rw [List.getElem?_append_right (by simpa using hi)] at h2
        rw [List.getElem?_replicate] at h2
        split at h2 <;> cases h2
    have ha : vs[i]? = some v := by
      unfold start at h2
      rw [List.getElem?_append_left (by simpa using hi), List.getElem?_map] at h2
      cases e : vs[i]? with
      | none => rw [e] at h2; cases h2
      | some a => rw [e] at h2; cases h2; rfl
    obtain ⟨u, hu, rv⟩ := r.get ha
    have hp : ps[i]? = some y := by
      rw [← S.pre, List.getElem?_take_of_lt (by omega)]; exact h1
    have ndP : ps.Nodup := by rw [← S.pre]; exact S.nd.sublist (List.take_sublist _ _)
    refine ⟨u, rv, ?_⟩
    rcases S.par y (List.mem_of_getElem? hp) with k | k
    · exact .inl ⟨k, bindL_get ndP hp hu k⟩
    · obtain ⟨c, e⟩ := cell_has (n := s.heap.objs.size + 1) k
      refine .inr ⟨.inl k, c, e, ?_⟩
      have q := x.cell y c e
      rw [bindC_get ndP hp hu (by show scope.names.lookup y ≠ _; rw [k]; decide)] at q
      exact q
  · exact e0.hok.fresh (Nat.le_of_lt (x.above y c (PySem.mem_of_lookup h)))
  · unfold start
    show _ = N.length
    rw [List.length_append, List.length_map, List.length_replicate]
    omega

/-- THE RULE: a def (or a method) of the text, by its body. The body's reading t is chosen for each entry; it is run at the parameters' values -/
theorem fn_of {CX : CXT} {P : Program} {w : World} {K : PySem.W.Frag} {mg : Str → Option Value} {base : Heap} {k : Nat} {f : Addr} {name qual : Str} {params : Arguments} {body : List Stmt} {scope : Scope} {dV kV doc pm cdv ct oc : Value} {an od : Option Addr}
    {osl : Array (Option Value)} {N ps : List Str} {sp : Sp} (lk : K.lookup f = some ⟨oc, od, .func (PySem.W.fnOf name qual params body scope dV kV doc pm an cdv ct), osl⟩) (hcd : PySem.W.codeIn K cdv qual = true) (S : FnScope N ps scope)
    (len : ∀ vs H Q E, sp vs H Q E → vs.length = ps.length)
    (hbody : ∀ (A : Around) (outer : List Env) (s : Shared) (H : Hp) (vs : List V) (Q : VK) (E : XK), Room k (A.deeper (envOfC qual scope s.heap.objs.size f cdv)) → sp vs H Q E →
      ∃ t, PSs (cxOf CX P w K mg base N qual scope f cdv A outer s H E) body t ∧ t { nx := fun _ H' => Q .non H', rt := Q } (start N vs) H) :
    FnOk P w K mg base CX (k + 1) f (PySem.W.fnOf name qual params body scope dV kV doc pm an cdv ct) ps sp := by
  refine ⟨len, fun A outer s H args us vs Q E hr e0 hb r hsp => ?_⟩
  have hl := len _ _ _ _ hsp
  have KX : K.In s.heap := e0.mod.kin.keeps fun b o e => (e0.bs b o e).1
  have lim : s.heap.NoLimit := e0.mod.nolimit.keeps fun b o e => (e0.bs b o e).1
  have hkind : ∀ y ∈ ps.zip us, scope.names.lookup y.1 = some .local ∨ (scope.names.lookup y.1 = some .cell ∧ ((cellsFrom (s.heap.objs.size + 1) scope.names []).lookup y.1).isSome = true) := fun ⟨n, v⟩ hy => by
    rcases S.par n (List.of_mem_zip hy).1 with q | q
    · exact .inl q
    · exact .inr ⟨q, PySem.W.cellsFrom_some _ _ _ (.inl q)⟩
  refine codeAny_call_function hr.depth (KX _ _ lk) rfl S.co S.gen rfl (PySem.W.codeRec_of KX hcd) (hb _ _ _ _ ?_)
  refine wpAny_newFunctionEnv_cells S.kind hkind fun env he s1 x => ?_
  subst he
  refine ⟨lim.keeps x.toInCall.keep, codeAny_func ?_⟩
  obtain ⟨t, ht, hq⟩ := hbody A outer s H vs Q E (hr.deeper _) hsp
  have I : Inv (cxOf CX P w K mg base N qual scope f cdv A outer s H E) [] (start N vs) H s1 := inv_start S hr.hd e0 hl r x
  refine wpAny_mono (ht [] s1 (start N vs) H _ I hq) (fun fl s' hs => ?_) fun e s' hs => hs
  have fin : ∀ {σ' : St} {H' : Hp} {v : V} {u : Value}, Inv (cxOf CX P w K mg base N qual scope f cdv A outer s H E) [] σ' H' s' → RelV v u → Q v H' → CE outer P w H s Q u s' :=
    fun {σ' H' v u} J rv q => ⟨v, H', J.os, J.bare, J.base, J.hok, rv, q⟩
  cases fl with
  | ret u =>
    obtain ⟨v, σ', H', J, rv, q⟩ := hs
    exact fin J rv q
  | next =>
    obtain ⟨σ', H', J, q⟩ := hs
    exact fin (v := V.non) (u := Value.none) J rfl q
  | brk =>
    obtain ⟨_, _, _, q⟩ := hs
    exact False.elim q
  | cont =>
    obtain ⟨_, _, _, q⟩ := hs
    exact False.elim q
end L2

namespace L2
open PySem PySem.Spec PyProof.Rows
section
variable {X : Cx} {x : Str} {p pos : Pos} {e : Expr} {es : List Expr} {t : TA} {id T : String} {r : List V → Hp → VK → Prop}

def tCB (r : List V → Hp → VK → Prop) (t : TA) : TE := fun σ H Q => t σ H fun vs H1 => r vs H1 Q
/-- f(e, ..), f a built-in function -/
theorem pe_callB (hc : CallR X (.builtin id) r) (hg : Gl X x) (hm : X.mg x = none) (hv : bootBuiltins x = some (.builtin id)) (ha : PA X (e :: es) t) (hn : x ≠ "__name__" := by decide) (hdb : (x == ("__debug__" : Str)) = false := by decide)
    (he : starEach (e :: es) X.env = (false, eval e X.env) :: starEach es X.env := by rfl) (hpl : (backTo pos (starEach es X.env)).any (·.1) = false := by rfl) : PE X (.Call (.Name x p) (e :: es) [] pos) (tCB r t) := by
  intro pins s σ H Q I h
  refine wpAny_Call_Name_kw (ld_blt I hg hm hv ?_ hn hdb)
  exact PyProof.Rows.callWith_builtin1 (thn (ha pos pins s σ H _ I h) fun us s1 ⟨vs, H1, I1, r1, q1⟩ => hc pins s1 σ H1 vs us Q I1 r1 q1) he hpl
/-- T(e, ..), T a built-in type -/
theorem pe_callTy (hc : CallR X (.type T) r) (hg : Gl X x) (hm : X.mg x = none) (hv : bootBuiltins x = some (.type T)) (ha : PA X (e :: es) t) (hn : x ≠ "__name__" := by decide) (hdb : (x == ("__debug__" : Str)) = false := by decide)
    (he : starEach (e :: es) X.env = (false, eval e X.env) :: starEach es X.env := by rfl) (hpl : (backTo pos (starEach es X.env)).any (·.1) = false := by rfl) : PE X (.Call (.Name x p) (e :: es) [] pos) (tCB r t) := by
  intro pins s σ H Q I h
  refine wpAny_Call_Name_kw (ld_blt I hg hm hv ?_ hn hdb)
  exact PyProof.Rows.callWith_type1 (thn (ha pos pins s σ H _ I h) fun us s1 ⟨vs, H1, I1, r1, q1⟩ => hc pins s1 σ H1 vs us Q I1 r1 q1) he hpl
/-- T() -/
theorem pe_callTy0 (hc : CallR X (.type T) r) (hg : Gl X x) (hm : X.mg x = none) (hv : bootBuiltins x = some (.type T)) (hn : x ≠ "__name__" := by decide) (hdb : (x == ("__debug__" : Str)) = false := by decide) :
    PE X (.Call (.Name x p) [] [] pos) (tCB r tNil) := by
  intro pins s σ H Q I h
  refine wpAny_Call_Name_kw (ld_blt I hg hm hv ?_ hn hdb)
  exact PyProof.Rows.callWith_type0 (hc pins s σ H [] [] Q I .nil h)
end
end L2

namespace HT
open PySem PyProof.Rows

/-- t < u of tuples of ints -/
def lexLt : List Int → List Int → Bool
  | [], [] => false
  | [], _ :: _ => true
  | _ :: _, [] => false
  | x :: xs, y :: ys => if x = y then lexLt xs ys else decide (x < y)
theorem lexLt_cons (x y : Int) (xs ys : List Int) : lexLt (x :: xs) (y :: ys) = if x = y then lexLt xs ys else decide (x < y) := rfl
theorem lexLt_nil_nil : lexLt [] [] = false := rfl
theorem lexLt_nil_cons (y : Int) (ys : List Int) : lexLt [] (y :: ys) = true := rfl
theorem lexLt_cons_nil (x : Int) (xs : List Int) : lexLt (x :: xs) [] = false := rfl

theorem eqAt_int (A : Around) (s : Shared) (a : Int) (t : Tok) (c : Int) (u : Tok) : ∃ e, SeqAt.EqAt A s (.int a t) (.int c u) e ∧ (e = true ↔ a = c) :=
  ⟨(a == c), SeqAt.EqAt.int_int a t c u, by simp⟩
theorem rcLt_int (A : Around) (s : Shared) (a : Int) (t : Tok) (c : Int) (u : Tok) (prog : Program) (w : World) (E : Value → Shared → Prop) (Q : Value → Shared → Prop) (h : Q (.bool (decide (a < c))) s) :
    wpAny (model prog w) A (richCompare .Lt (.int a t) (.int c u)) Q E s :=
  (PyProof.Rows.lt_int h : wpAny (model prog w) A (compareOp .Lt (.int a t) (.int c u)) Q E s)

section
open PySem.SeqAt
open PySem.AutoSeq1 (wpAny_loadPart')
open PySem.MeetsSeq PySem.MeetsSeq2 PySem.MeetsSeq3

theorem tuple_lt_ints (l b : Addr) (items items2 : Array Value) (n n2 : Nat) (dd dd2 : Option Addr) (sl sl2 : Array (Option Value)) (ns ms : List Int) (hi : IntsAre items.toList ns) (hj : IntsAre items2.toList ms) :
    Meets (Builtin.«tuple.__lt__» ⟨[.ref l, .ref b], []⟩)
      (fun _ R s => s.heap.get? l = some { cls := .type "tuple", dict := dd, data := .seq items n, slots := sl } ∧ s.heap.get? b = some { cls := .type "tuple", dict := dd2, data := .seq items2 n2, slots := sl2 } ∧
        R (.ok (.ret (.bool (lexLt ns ms)))) s) :=
  .of_wp fun prog w A R s h => by
    obtain ⟨hp, g, d, tk, os⟩ := s; obtain ⟨hl, hb, h⟩ := h
    have f2 := AutoSeq1.sub_tuple_tuple
    have z1 : items.size = ns.length := by rw [← hi.length]; simp
    have z2 : items2.size = ms.length := by rw [← hj.length]; simp
    wp_walk using wpAny_loadPart' hl, wpAny_loadPart' hb, wpAny_forIn_list _ (fun rest b s' => b.1 = none ∧ s' = ⟨hp, g, d, tk, os⟩ ∧ ∃ (vs ws : List Value) (ns' ms' : List Int), rest = vs.zip ws ∧
      IntsAre vs ns' ∧ IntsAre ws ms' ∧ ns'.length + items2.size = ms'.length + items.size ∧ R (.ok (.ret (.bool (lexLt ns' ms')))) ⟨hp, g, d, tk, os⟩) _
    case turn =>
      rintro ⟨y, x⟩ rest b s' ⟨hb', rfl, vs, ws, ns', ms', hz, hvi, hwi, hlen, hR⟩
      cases hvi with
      | nil => rw [List.zip_nil_left] at hz; cases hz
      | cons a t hvi' =>
        cases hwi with
        | nil => rw [List.zip_nil_right] at hz; cases hz
        | cons c u hwi' =>
          rw [List.zip_cons_cons] at hz
          injection hz with hyx hrest
          injection hyx with hy hx
          subst hy hx
          rw [lexLt_cons] at hR
          simp only [List.length_cons] at hlen
          obtain ⟨e, he, hiff⟩ := eqAt_int A.in1 ⟨hp, g, d, tk, os⟩ a t c u
          refine wpAny_bind (he prog w _ _ ?_)
          cases e with
          | true =>
            rw [if_pos (hiff.mp rfl)] at hR
            wp_walk
            exact ⟨rfl, rfl, _, _, _, _, hrest, hvi', hwi', by omega, hR⟩
          | false =>
            rw [if_neg (fun q => absurd (hiff.mpr q) Bool.false_ne_true)] at hR
            have hri := rcLt_int A.in1 ⟨hp, g, d, tk, os⟩ a t c u prog w
            wp_walk using hri
            exact ⟨_, rfl, by simpa using hR⟩
    case fin =>
      rintro ⟨b1, b2⟩ s' ⟨hb', rfl, vs, ws, ns', ms', hz, hvi, hwi, hlen, hR⟩
      simp only at hb'
      subst hb'
      have hv : lexLt ns' ms' = decide (items.size < items2.size) := by
        cases hvi with
        | nil =>
          cases hwi with
          | nil =>
            simp only [List.length_nil] at hlen
            rw [lexLt_nil_nil]
            exact (decide_eq_false (by omega)).symm
          | cons c u hw =>
            simp only [List.length_nil, List.length_cons] at hlen
            rw [lexLt_nil_cons]
            exact (decide_eq_true (by omega)).symm
        | cons a t hv =>
          cases hwi with
          | nil =>
            simp only [List.length_nil, List.length_cons] at hlen
            rw [lexLt_cons_nil]
            exact (decide_eq_false (by omega)).symm
          | cons c u hw =>
            rw [List.zip_cons_cons] at hz
            cases hz
      rw [hv] at hR
      wp_walk
      exact ⟨_, rfl, by simpa [Builtin.Tuple.tupleCompareSizes] using hR⟩
    case h =>
      exact ⟨rfl, rfl, items.toList, items2.toList, ns, ms, rfl, hi, hj, by omega, h⟩
end

section
variable {prog : Program} {w : World} {A : Around} {E : Value → Shared → Prop} {s : Shared}

theorem lt_tupInts {l b : Addr} {items items2 : Array Value} {ns ms : List Int} {Q : Value → Shared → Prop} (hl : IsTup s.heap l items) (hb : IsTup s.heap b items2) (hi : IntsAre items.toList ns) (hj : IntsAre items2.toList ms)
    (hu : A.units < cLine) (h : Q (.bool (lexLt ns ms)) s) : wpAny (model prog w) A (compareOp .Lt (.ref l) (.ref b)) Q E s := by
  obtain ⟨⟨cls, dd, data, sl⟩, ho, hc, n, hd⟩ := id hl
  obtain ⟨⟨cls2, dd2, data2, sl2⟩, ho2, hc2, n2, hd2⟩ := id hb
  simp only at hc hd hc2 hd2
  subst hc hd hc2 hd2
  exact richCompare_meets_room (op := .Lt) ⟨_, ho, rfl⟩ ⟨_, ho2, rfl⟩ PySem.F.slot_tuple_lt PySem.F.entry_tuple_lt (PySem.F.args_tuple_lt_2 _ _) (tuple_lt_ints l b items items2 n n2 dd dd2 sl sl2 ns ms hi hj)
    ⟨ho, ho2, show Value.bool (lexLt ns ms) ≠ Value.notImplemented ∧ Q (.bool (lexLt ns ms)) s from ⟨(fun x => nomatch x), h⟩⟩ hu

/-- t + u, t not empty -/
theorem cat_tup {t b : Addr} {vs ws : List Value} {Q : Value → Shared → Prop} (ht : IsTup s.heap t vs.toArray) (hb : IsTup s.heap b ws.toArray) (hv : vs ≠ [])
    (h1 : ws = [] → Q (.ref t) s) (h2 : ws ≠ [] → Q (.ref s.heap.objs.size) { s with heap := s.heap.push { cls := .type "tuple", data := .seq (vs ++ ws).toArray } })
    (hsz : vs.length + ws.length ≤ sizeLine) : wpAny (model prog w) A (binaryOp .Add (.ref t) (.ref b)) Q E s := by
  obtain ⟨⟨cls, dd, data, sl⟩, ho, hc, n, hd⟩ := id ht
  obtain ⟨⟨cls2, dd2, data2, sl2⟩, ho2, hc2, n2, hd2⟩ := id hb
  simp only at hc hd hc2 hd2
  subst hc hd hc2 hd2
  have e : vs.toArray ++ ws.toArray = (vs ++ ws).toArray := by simp
  by_cases hw : ws = []
  · exact concat_meets ⟨_, ho, rfl⟩ ⟨_, ho2, rfl⟩ noFill_tuple_add seq_tuple_add PySem.F.slot_tuple_add PySem.F.entry_tuple_add (PySem.F.args_tuple_add_2 _ _)
      (tuple_addW1 t b vs.toArray ws.toArray n n2 dd dd2 sl sl2 (by simpa using hv) (by simp [hw])) ⟨ho, ho2, h1 hw⟩
  · refine concat_meets ⟨_, ho, rfl⟩ ⟨_, ho2, rfl⟩ noFill_tuple_add seq_tuple_add PySem.F.slot_tuple_add PySem.F.entry_tuple_add (PySem.F.args_tuple_add_2 _ _)
      (tuple_addW2 t b vs.toArray ws.toArray n n2 dd dd2 sl sl2 (by simpa using hv) (by simpa using hw) (by rw [List.size_toArray, List.size_toArray]; exact hsz)) ⟨ho, ho2, ?_⟩
    rw [e]
    exact h2 hw

/-! ### t[a:b], not the whole -/
/-- a slice's bound as a place among n (d where it is left out) -/
def sIx (n d : Nat) : Option Int → Nat
  | none => d
  | some v => if v < 0 then (v + (n : Int)).toNat else min v.toNat n
theorem sIx_none (n d : Nat) : sIx n d none = d := rfl
theorem sIx_nat (n d k : Nat) : sIx n d (some (k : Int)) = min k n := by
  show (if (k : Int) < 0 then ((k : Int) + (n : Int)).toNat else min (k : Int).toNat n) = min k n
  rw [if_neg (by omega), Int.toNat_natCast]
theorem sIx_le (n d : Nat) (hd : d ≤ n) (o : Option Int) : sIx n d o ≤ n := by
  cases o with
  | none => exact hd
  | some v =>
    show (if v < 0 then (v + (n : Int)).toNat else min v.toNat n) ≤ n
    by_cases hv : v < 0
    · rw [if_pos hv]; omega
    · rw [if_neg hv]; exact Nat.min_le_right _ _
theorem clip_eq (v : Int) (n d : Nat) : (if v < 0 then max (v + (n : Int)) 0 else min v (n : Int)) = ((sIx n d (some v) : Nat) : Int) := by
  show (if v < 0 then max (v + (n : Int)) 0 else min v (n : Int)) = (((if v < 0 then (v + (n : Int)).toNat else min v.toNat n) : Nat) : Int)
  by_cases hv : v < 0
  · simp only [if_pos hv]; omega
  · simp only [if_neg hv]; omega
theorem adjust_gen (lo hi : Option Int) (n : Nat) : Builtin.Slice.sliceAdjust lo hi 1 (n : Int) = (((sIx n 0 lo : Nat) : Int), ((sIx n n hi : Nat) : Int)) := by
  have h1 : ¬ ((1 : Int) < 0) := by omega
  unfold Builtin.Slice.sliceAdjust
  simp only [h1, if_false]
  refine Prod.ext ?_ ?_
  · cases lo with
    | none => rfl
    | some v => exact clip_eq v n 0
  · cases hi with
    | none => rfl
    | some v => exact clip_eq v n n
theorem places_gen (i j : Nat) : Builtin.Slice.slicePlaces (i : Int) (j : Int) 1 = j - i := by
  unfold Builtin.Slice.slicePlaces
  have h1 : (1 : Int) > 0 := by omega
  simp only [h1, if_true, Int.ediv_one]
  split <;> omega
theorem slicePart_ {v : Value} {o : Option Int} {Q : Option Int → Shared → Prop} (p : IsPart v o) (h : Q o s) : wpAny (model prog w) A (Builtin.Slice.slicePartIndex v) Q E s := by
  cases p with
  | none => exact slicePart_none h
  | int i t => exact slicePart_int h
theorem sliceApplied_gen {sl : Addr} {vl vu : Value} {lo hi : Option Int} {n : Nat} {Q : Int × Int × Nat → Shared → Prop} (hs : s.heap.IsSliceOf sl vl vu .none) (pl : IsPart vl lo) (pu : IsPart vu hi)
    (h : Q (((sIx n 0 lo : Nat) : Int), 1, sIx n n hi - sIx n 0 lo) s) : wpAny (model prog w) A (Builtin.Slice.sliceApplied (.ref sl) (pure (n : Int))) Q E s := by
  obtain ⟨os, hos, hcs, hds⟩ := id hs
  unfold Builtin.Slice.sliceApplied Builtin.Slice.sliceFields
  refine wpAny_bind (wpAny_bind (wpAny_field hos hds (x := vl) rfl (wpAny_bind (wpAny_field hos hds (x := vu) rfl (wpAny_bind (wpAny_field hos hds (x := .none) rfl (wpAny_pure ?_)))))))
  refine wpAny_bind (slicePart_none ?_)
  show wpAny _ _ (if ((1 : Int) == 0) = true then _ else _) _ _ s
  rw [if_neg (by decide)]
  refine wpAny_bind (slicePart_ pl (wpAny_bind (slicePart_ pu (wpAny_bind (wpAny_pure ?_)))))
  show wpAny _ _ (match Builtin.Slice.sliceAdjust lo hi 1 (n : Int) with | (lo, hi) => pure (lo, (1 : Int), Builtin.Slice.slicePlaces lo hi 1)) _ _ s
  rw [adjust_gen lo hi n]
  show wpAny _ _ (pure (((sIx n 0 lo : Nat) : Int), (1 : Int), Builtin.Slice.slicePlaces ((sIx n 0 lo : Nat) : Int) ((sIx n n hi : Nat) : Int) 1)) _ _ s
  rw [places_gen]
  exact wpAny_pure h
theorem pick_gen (xs : Array Value) (i k : Nat) : ((List.range k).filterMap fun (m : Nat) => xs[((i : Int) + (m : Int) * 1).toNat]?).toArray = ((xs.toList.drop i).take k).toArray := by
  have e : (fun (m : Nat) => xs[((i : Int) + (m : Int) * 1).toNat]?) = fun m => xs[i + m]? := by
    funext m
    have : ((i : Int) + (m : Int) * 1).toNat = i + m := by omega
    rw [this]
  rw [e]
  have := pick_run xs i k
  rw [List.filterMap_map] at this
  have e2 : ((fun x => xs[x]?) ∘ fun x => i + x) = fun m => xs[i + m]? := rfl
  rw [e2] at this
  rw [this]

theorem getItem_tuple_cut {t sl : Addr} {items : Array Value} {vl vu : Value} {lo hi : Option Int} {Q : Value → Shared → Prop} (ht : IsTup s.heap t items) (hs : s.heap.IsSliceOf sl vl vu .none) (pl : IsPart vl lo) (pu : IsPart vu hi)
    (hw : ¬ (sIx items.size 0 lo = 0 ∧ sIx items.size items.size hi = items.size))
    (h : Q (.ref s.heap.objs.size) { s with heap := s.heap.push { cls := .type "tuple", data := .seq ((items.toList.drop (sIx items.size 0 lo)).take (sIx items.size items.size hi - sIx items.size 0 lo)).toArray } })
    (hsz : items.size ≤ sizeLine) : wpAny (model prog w) A (getItem (.ref t) (.ref sl)) Q E s := by
  have htake : sizeOk (.seq ((items.toList.drop (sIx items.size 0 lo)).take (sIx items.size items.size hi - sIx items.size 0 lo)).toArray) := by
    show ((items.toList.drop (sIx items.size 0 lo)).take (sIx items.size items.size hi - sIx items.size 0 lo)).toArray.size ≤ sizeLine
    rw [List.size_toArray, List.length_take, List.length_drop, Array.length_toList]
    omega
  have hj : sIx items.size items.size hi ≤ items.size := sIx_le _ _ (Nat.le_refl _) hi
  obtain ⟨os, hos, hcs, hds⟩ := id hs
  have hTs : s.TypeIs (.ref sl) "slice" := ⟨os, hos, hcs⟩
  unfold getItem
  try with_reducible refine wpAny_holding ?_
  first | refine wpAny_bind (wpAny_pure ?_) | skip
  refine wpAny_bind (wpAny_sequenceKey ht.typeIs (by decide) ?_)
  refine wpAny_bind (wpAny_callSpecial?_slot (name := Str.ofString "__getitem__") ht.typeIs PyProof.Rows.slot_tuple_getitem
    (wpAny_call_entry PyProof.Rows.slot_tuple_getitem ht.typeIs entry_tuple_getitem ?_ (args_tuple_getitem _ _)))
  show wpAny _ _ (Builtin.Tuple.tupleItemsOf (.ref t) >>= _) _ _ s
  refine wpAny_bind (tupleItemsOf_ ht ?_)
  refine wpAny_bind (wpAny_typeOf hTs ?_)
  rw [if_pos (by decide)]
  refine wpAny_bind (sliceApplied_gen hs pl pu ?_)
  have hno : ¬ ((((sIx items.size 0 lo : Nat) : Int) == 0 && (1 : Int) == 1 && (sIx items.size items.size hi - sIx items.size 0 lo) == items.size) = true) := by
    intro q
    rw [Bool.and_eq_true, Bool.and_eq_true] at q
    have q1 : ((sIx items.size 0 lo : Nat) : Int) = 0 := eq_of_beq q.1.1
    have q2 : sIx items.size items.size hi - sIx items.size 0 lo = items.size := eq_of_beq q.2
    exact hw ⟨by omega, by omega⟩
  show wpAny _ _ (if (((sIx items.size 0 lo : Nat) : Int) == 0 && (1 : Int) == 1 && (sIx items.size items.size hi - sIx items.size 0 lo) == items.size) = true then _ else _) _ _ s
  rw [if_neg hno, pick_gen]
  first
    | exact wpAny_bind (m := Builtin.Tuple.tupleExact _) (wpAny_newObj_type (wpAny_pure ⟨_, rfl, wpAny_pure h⟩) htake)
    | exact wpAny_bind (m := Builtin.Tuple.tupleExact _) (wpAny_newObj_type (wpAny_bind (wpAny_pure (wpAny_pure ⟨_, rfl, wpAny_pure h⟩))) htake)
    | exact wpAny_bind (wpAny_bind (m := Builtin.Tuple.tupleExact _) (wpAny_newObj_type (wpAny_pure (wpAny_pure ⟨_, rfl, wpAny_pure h⟩)) htake))
    | exact wpAny_bind (wpAny_bind (m := Builtin.Tuple.tupleExact _) (wpAny_newObj_type (wpAny_pure ⟨_, rfl, wpAny_pure h⟩) htake))
end
end HT

namespace L2
open PySem PySem.Spec PyProof.Rows

/-! ### the parts of a slice -/
abbrev TO := St → Hp → (Option Int → Hp → Prop) → Prop
/-- a slice's part (left out, or an int) -/
def PO (X : Cx) (e : Option Expr) (t : TO) : Prop :=
  ∀ (pins : List (Addr × Obj)) (s : Shared) (σ : St) (H : Hp) (Q : Option Int → Hp → Prop), Inv X pins σ H s → t σ H Q →
    wpAny (model X.prog X.w) X.A (evalPart e X.env) (fun u s' => ∃ o H', Inv X pins σ H' s' ∧ IsPart u o ∧ Q o H') X.xe s
def tNoPart : TO := fun _ H Q => Q none H
def tPart (t : TE) : TO := fun σ H Q => t σ H fun x H1 => ∃ i, x = .int i ∧ Q (some i) H1

theorem intsAre_of {ns : List Int} : ∀ {us : List Value}, Vals (ns.map V.int) us → IntsAre us ns := by
  induction ns with
  | nil => intro us r; rw [List.map_nil] at r; cases r; exact .nil
  | cons n ns ih =>
    intro us r
    rw [List.map_cons] at r
    cases r with
    | cons r1 r2 =>
      obtain ⟨t, e⟩ := r1
      subst e
      exact .cons n t (ih r2)

section
variable {X : Cx} {e : Expr} {te : TE} {lo hi : Option Expr} {tl th : TO} {pos p2 : Pos}

theorem po_none : PO X none tNoPart := by
  intro pins s σ H Q I h
  rw [evalPart_none]
  exact wpAny_pure ⟨none, H, I, .none, h⟩
theorem po_some (h : PE X e te) : PO X (some e) (tPart te) := by
  intro pins s σ H Q I hw
  rw [evalPart_some]
  refine thn (h pins s σ H _ I hw) fun u s1 ⟨x, H1, I1, r1, q1⟩ => ?_
  obtain ⟨i, rfl, q⟩ := q1
  obtain ⟨t, rfl⟩ := r1
  exact ⟨some i, H1, I1, .int i t, q⟩

/-- what a slice of a value is, by values: the slice object stands at sl -/
def SlR (X : Cx) (r : V → Option Int → Option Int → Hp → VK → Prop) : Prop :=
  ∀ (pins : List (Addr × Obj)) (s : Shared) (σ : St) (H : Hp) (x : V) (v vl vu : Value) (lo hi : Option Int) (sl : Addr) (Q : VK), Inv X pins σ H s → RelV x v → s.heap.IsSliceOf sl vl vu .none → IsPart vl lo → IsPart vu hi → r x lo hi H Q →
    ∃ T id, typeLookup (.type T) "__getitem__" = pure (some (.builtin id)) ∧ s.TypeIs v T ∧ wpAny (model X.prog X.w) X.A (getItem v (.ref sl)) (EP X pins σ Q) X.xe s
theorem SlR.or {r r' : V → Option Int → Option Int → Hp → VK → Prop} (h : SlR X r) (h' : SlR X r') : SlR X (fun x lo hi H Q => r x lo hi H Q ∨ r' x lo hi H Q) := by
  intro pins s σ H x v vl vu lo hi sl Q I rx hs pl pu q
  rcases q with q | q
  · exact h pins s σ H x v vl vu lo hi sl Q I rx hs pl pu q
  · exact h' pins s σ H x v vl vu lo hi sl Q I rx hs pl pu q
def tSl (r : V → Option Int → Option Int → Hp → VK → Prop) (te : TE) (tl th : TO) : TE := fun σ H Q => te σ H fun x H1 => tl σ H1 fun l H2 => th σ H2 fun u H3 => r x l u H3 Q
/-- a[lo:hi], any a -/
theorem pe_slice {r : V → Option Int → Option Int → Hp → VK → Prop} (hr : SlR X r) (he : PE X e te) (hl : PO X lo tl) (hu : PO X hi th) : PE X (.Subscript e (.Slice lo hi none p2) pos) (tSl r te tl th) := by
  intro pins s σ H Q I h
  refine Subscript_ (thn (he pins s σ H _ I h) fun v s1 ⟨x, H1, I1, r1, q1⟩ => ?_)
  refine wpAny_Slice (thn (hl pins s1 σ H1 _ I1 q1) fun vl s2 ⟨l, H2, I2, pl, q2⟩ => thn (hu pins s2 σ H2 _ I2 q2) fun vu s3 ⟨u, H3, I3, pu, q3⟩ => ?_)
  rw [evalPart_none]
  refine wpAny_pure ?_
  have I4 : Inv X pins σ H3 { s3 with heap := s3.heap.push { cls := .type "slice", data := .fields #[vl, vu, .none] } } := I3.kept (t' := s3.toks) fun b ob q => Heap.get?_push_of_some _ q
  obtain ⟨T, id, hT, ht, hg⟩ := hr pins { s3 with heap := s3.heap.push { cls := .type "slice", data := .fields #[vl, vu, .none] } } σ H3 x v vl vu l u s3.heap.objs.size Q I4 r1 (Heap.IsSliceOf.new ..) pl pu q3
  show wpAny (model X.prog X.w) X.A (subscriptTail e (.Slice lo hi none p2) v (.ref s3.heap.objs.size)) (EP X pins σ Q) X.xe { s3 with heap := s3.heap.push { cls := .type "slice", data := .fields #[vl, vu, .none] } }
  exact tail_any (ops := [.ref s3.heap.objs.size, v]) ht hT hg (by with_unfolding_all rfl)

/-- the items of xs[lo:hi] -/
def cutV (xs : List V) (lo hi : Option Int) : List V := (xs.drop (HT.sIx xs.length 0 lo)).take (HT.sIx xs.length xs.length hi - HT.sIx xs.length 0 lo)
theorem cutV_length (xs : List V) (lo hi : Option Int) : (cutV xs lo hi).length ≤ xs.length := by
  unfold cutV
  rw [List.length_take, List.length_drop]
  omega
/-- t[lo:hi], not the whole of it (the whole would be t itself) -/
def rSlT (K : PySem.W.Frag) : V → Option Int → Option Int → Hp → VK → Prop := fun x lo hi H Q => ∃ a xs, x = .ref a ∧ SqT K H a xs ∧
  ¬ (HT.sIx xs.length 0 lo = 0 ∧ HT.sIx xs.length xs.length hi = xs.length) ∧ ∀ p, H p = none → Q (.ref p) (upd H p (.tup (cutV xs lo hi)))
theorem sl_tup : SlR X (rSlT X.K) := by
  intro pins s σ H x v vl vu lo hi sl Q I rx hs pl pu h
  obtain ⟨a, xs, rfl, hx, hw, q⟩ := h
  cases rx
  obtain ⟨its, r, ht, hz⟩ := I.tuple hx
  have hlen : its.toArray.size = xs.length := by rw [List.size_toArray]; exact r.length.symm
  refine ⟨"tuple", _, PyProof.Rows.slot_tuple_getitem.lookup, ht.typeIs, ?_⟩
  refine HT.getItem_tuple_cut ht hs pl pu (by rw [hlen]; exact hw) ?_ (by rw [hlen]; exact hz)
  rw [hlen]
  refine ⟨.ref s.heap.objs.size, _, I.laid (t' := s.toks) (o := .tup (cutV xs lo hi)) (fun b ob q => Heap.get?_push_of_some _ q) (Nat.le_refl _) ?_, rfl, q _ (I.hok.fresh (Nat.le_refl _))⟩
  exact ⟨Nat.le_trans (cutV_length xs lo hi) hz, _, (r.drop (HT.sIx xs.length 0 lo)).take (HT.sIx xs.length xs.length hi - HT.sIx xs.length 0 lo), IsTup.new _ _⟩

/-! ### t < u, t + u -/
def rLtT (K : PySem.W.Frag) : R2 := fun x y H Q => ∃ a b ns ms, x = .ref a ∧ y = .ref b ∧ SqT K H a (ns.map V.int) ∧ SqT K H b (ms.map V.int) ∧ Q (.bl (HT.lexLt ns ms)) H
theorem op_ltT (hu : X.A.units < cLine) : OpR X (compareOp .Lt) (rLtT X.K) := by
  intro pins s σ H x y v u Q I rx ry h
  obtain ⟨a, b, ns, ms, rfl, rfl, ha, hb, q⟩ := h
  cases rx
  cases ry
  obtain ⟨its, r1, p1, _⟩ := I.tuple ha
  obtain ⟨its2, r2, p2, _⟩ := I.tuple hb
  have i1 : IntsAre its.toArray.toList ns := intsAre_of r1
  have i2 : IntsAre its2.toArray.toList ms := intsAre_of r2
  exact HT.lt_tupInts p1 p2 i1 i2 hu ⟨.bl (HT.lexLt ns ms), H, I, rfl, q⟩
/-- t + u, t not empty: u empty gives t itself -/
def rCatT (K : PySem.W.Frag) : R2 := fun x y H Q => ∃ a b xs ys, x = .ref a ∧ y = .ref b ∧ SqT K H a xs ∧ SqT K H b ys ∧ xs ≠ [] ∧ xs.length + ys.length ≤ sizeLine ∧
  (ys = [] → Q (.ref a) H) ∧ (ys ≠ [] → ∀ p, H p = none → Q (.ref p) (upd H p (.tup (xs ++ ys))))
theorem Vals.nil_iff {xs : List V} {us : List Value} (r : Vals xs us) : us = [] ↔ xs = [] := by
  cases r with
  | nil => simp
  | cons _ _ => simp
theorem op_catT : OpR X (binaryOp .Add) (rCatT X.K) := by
  intro pins s σ H x y v u Q I rx ry h
  obtain ⟨a, b, xs, ys, rfl, rfl, ha, hb, hx, hz, q1, q2⟩ := h
  cases rx
  cases ry
  obtain ⟨its, r1, p1, _⟩ := I.tuple ha
  obtain ⟨its2, r2, p2, _⟩ := I.tuple hb
  refine HT.cat_tup p1 p2 (fun z => hx (r1.nil_iff.mp z)) (fun z => ⟨.ref a, H, I, rfl, q1 (r2.nil_iff.mp z)⟩) (fun z => ?_) (by rw [← r1.length, ← r2.length]; exact hz)
  refine ⟨.ref s.heap.objs.size, _, I.laid (t' := s.toks) (o := .tup (xs ++ ys)) (fun b ob q => Heap.get?_push_of_some _ q) (Nat.le_refl _) ?_, rfl, q2 (fun w => z (r2.nil_iff.mpr w)) _ (I.hok.fresh (Nat.le_refl _))⟩
  exact ⟨by rw [List.length_append]; exact hz, _, r1.append r2, IsTup.new _ _⟩
/-- tuple(t) -/
theorem call_tupleT : CallR X (.type "tuple") (fun xs H Q => ∃ a ys, xs = [.ref a] ∧ SqT X.K H a ys ∧ Q (.ref a) H) := by
  intro pins s σ H xs us Q I r h
  obtain ⟨a, ys, rfl, ha, q⟩ := h
  obtain ⟨u, rfl, ru⟩ := vals1 r
  cases ru
  obtain ⟨its, _, p1, _⟩ := I.tuple ha
  exact call_tuple_same (items := its.toArray) p1 ⟨.ref a, H, I, rfl, q⟩
end
end L2

namespace L2
open PySem PySem.Spec PyProof.Rows

/-! ### places -/
/-- the place that an index of any sign means -/
def ixN (n : Nat) (i : Int) : Option Nat := if 0 ≤ i then (if i < n then some i.toNat else none) else if -(n : Int) ≤ i then some (i + n).toNat else none
def atI {α : Type} (xs : List α) (i : Int) : Option α := (ixN xs.length i).bind fun j => xs[j]?
theorem ixN_seq {n : Nat} {i : Int} {j : Nat} (h : ixN n i = some j) : seqIndex? i n = some j ∧ j < n ∧ -(n : Int) ≤ i ∧ i < n := by
  unfold ixN at h
  by_cases h0 : 0 ≤ i
  · rw [if_pos h0] at h
    by_cases h1 : i < n
    · rw [if_pos h1] at h
      have e : i.toNat = j := Option.some.inj h
      exact ⟨by rw [seqIndex_of h0 h1, e], by omega, by omega, h1⟩
    · rw [if_neg h1] at h; cases h
  · rw [if_neg h0] at h
    by_cases h1 : -(n : Int) ≤ i
    · rw [if_pos h1] at h
      have e : (i + n).toNat = j := Option.some.inj h
      exact ⟨by rw [seqIndex_neg (by omega) h1, e], by omega, h1, by omega⟩
    · rw [if_neg h1] at h; cases h
theorem atI_get {α : Type} {xs : List α} {i : Int} {v : α} (h : atI xs i = some v) : ∃ j, seqIndex? i xs.length = some j ∧ xs[j]? = some v ∧ j < xs.length ∧ -(xs.length : Int) ≤ i ∧ i < xs.length := by
  unfold atI at h
  cases e : ixN xs.length i with
  | none => rw [e] at h; cases h
  | some j =>
    rw [e] at h
    obtain ⟨h1, h2, h3, h4⟩ := ixN_seq e
    exact ⟨j, h1, h, h2, h3, h4⟩
theorem atI_nat {α : Type} {xs : List α} {j : Nat} {v : α} (h : xs[j]? = some v) : atI xs (j : Int) = some v := by
  have hj : j < xs.length := (List.getElem?_eq_some_iff.mp h).1
  have e : ixN xs.length (j : Int) = some j := by
    unfold ixN
    rw [if_pos (by omega), if_pos (by omega)]; simp
  unfold atI; rw [e]; exact h
theorem atI_last {α : Type} (xs : List α) (v : α) : atI (xs ++ [v]) (-1) = some v := by
  have hl : (xs ++ [v]).length = xs.length + 1 := by simp
  have e : ixN (xs ++ [v]).length (-1) = some xs.length := by
    unfold ixN
    rw [hl, if_neg (by decide), if_pos (by omega)]
    congr 1
    omega
  unfold atI
  rw [e]
  show (xs ++ [v])[xs.length]? = some v
  simp

/-! ### what may be subscripted -/
/-- what stands as an index of a plain subscript -/
def PlainIx (b : Expr) : Prop := ∀ o i, subscripted b false o i = operate [o, i] (getItem o i)
/-- a subscript by values -/
def IxR (X : Cx) (r : R2) : Prop :=
  ∀ (value slice : Expr) (pins : List (Addr × Obj)) (s : Shared) (σ : St) (H : Hp) (x y : V) (v u : Value) (Q : VK), Inv X pins σ H s → RelV x v → RelV y u → r x y H Q →
    subscripted slice false v u = operate [v, u] (getItem v u) → wpAny (model X.prog X.w) X.A (subscriptTail value slice v u) (EP X pins σ Q) X.xe s
/-- a call of a builtin's method by values: the receiver, the arguments -/
def MtR (X : Cx) (id : String) (r : V → List V → Hp → VK → Prop) : Prop :=
  ∀ (pins : List (Addr × Obj)) (s : Shared) (σ : St) (H : Hp) (x : V) (xs : List V) (v : Value) (us : List Value) (Q : VK), Inv X pins σ H s → RelV x v → Vals xs us → r x xs H Q →
    wpAny (model X.prog X.w) X.A (call (.builtin id) (v :: us)) (EP X pins σ Q) X.xe s
section
variable {X : Cx} {a b : Expr} {ta tb : TE} {pos : Pos}
theorem IxR.or {r r' : R2} (h : IxR X r) (h' : IxR X r') : IxR X (fun x y H Q => r x y H Q ∨ r' x y H Q) := by
  intro value slice pins s σ H x y v u Q I rx ry q hs
  rcases q with q | q
  · exact h value slice pins s σ H x y v u Q I rx ry q hs
  · exact h' value slice pins s σ H x y v u Q I rx ry q hs
theorem MtR.or {id : String} {r r' : V → List V → Hp → VK → Prop} (h : MtR X id r) (h' : MtR X id r') : MtR X id (fun x xs H Q => r x xs H Q ∨ r' x xs H Q) := by
  intro pins s σ H x xs v us Q I rx rs q
  rcases q with q | q
  · exact h pins s σ H x xs v us Q I rx rs q
  · exact h' pins s σ H x xs v us Q I rx rs q
/-- a[b] -/
theorem pe_ix {r : R2} (hr : IxR X r) (ha : PE X a ta) (hb : PE X b tb) (hs : PlainIx b) : PE X (.Subscript a b pos) (tOp r ta tb) := by
  intro pins s σ H Q I h
  exact Subscript_ (binT ha hb I h fun v u s2 x y H2 I2 rx ry q => hr a b pins s2 σ H2 x y v u Q I2 rx ry q (hs _ _))

def rIxL (K : PySem.W.Frag) : R2 := fun x y H Q => ∃ p xs i v, x = .ref p ∧ y = .int i ∧ SqL K H p xs ∧ atI xs i = some v ∧ Q v H
def rIxT (K : PySem.W.Frag) : R2 := fun x y H Q => ∃ p xs i v, x = .ref p ∧ y = .int i ∧ SqT K H p xs ∧ atI xs i = some v ∧ Q v H
def rIxS : R2 := fun x y H Q => ∃ z i c, x = .str z ∧ y = .int i ∧ z.length ≤ sizeLine ∧ atI z.cps.toList i = some c ∧ Q (.str ⟨#[c]⟩) H
theorem ix_list : IxR X (rIxL X.K) := by
  intro value slice pins s σ H x y v u Q I rx ry h hs
  obtain ⟨p, xs, i, z, rfl, rfl, hq, he, q⟩ := h
  cases rx
  obtain ⟨t, rfl⟩ := ry
  obtain ⟨its, r, pl, hz⟩ := I.list hq
  obtain ⟨j, h1, h2, h3, h4, h5⟩ := atI_get he
  obtain ⟨w, ew, rw'⟩ := r.get h2
  have hl := r.length
  have hn := line63
  have fin : EP X pins σ Q w s := ⟨z, H, I, rw', q⟩
  by_cases h0 : 0 ≤ i
  · have hj : i.toNat = j := by
      rw [seqIndex_of h0 h5] at h1
      exact Option.some.inj h1
    exact item_listR pl.isList h0 (by omega) (by rw [hj]; simpa using ew) fin hs
  · have hj : (i + (its.toArray.size : Int)).toNat = j := by
      rw [seqIndex_neg (by omega) h4] at h1
      rw [List.size_toArray, ← hl]
      exact Option.some.inj h1
    exact subscriptTail_builtinR (x := w) pl.isList.typeIs slot_list_getitem.lookup
      (wpAny_getItem_list_neg (Q := fun r s' => r = w ∧ EP X pins σ Q r s') pl.isList (by omega) (by rw [List.size_toArray] <;> omega) (by omega) (by rw [hj]; simpa using ew) ⟨rfl, fin⟩) hs
theorem ix_tup : IxR X (rIxT X.K) := by
  intro value slice pins s σ H x y v u Q I rx ry h hs
  obtain ⟨p, xs, i, z, rfl, rfl, hq, he, q⟩ := h
  cases rx
  obtain ⟨t, rfl⟩ := ry
  obtain ⟨its, r, pl, hz⟩ := I.tuple hq
  obtain ⟨j, h1, h2, h3, h4, h5⟩ := atI_get he
  obtain ⟨w, ew, rw'⟩ := r.get h2
  have hl := r.length
  have hn := line63
  have fin : EP X pins σ Q w s := ⟨z, H, I, rw', q⟩
  exact subscriptTail_builtinR (x := w) pl.typeIs slot_tuple_getitem.lookup
    (getItem_tuple (j := j) (Q := fun r s' => r = w ∧ EP X pins σ Q r s') pl (by omega) (by omega) (by rw [List.size_toArray, ← hl]; exact h1) (by simpa using ew) ⟨rfl, fin⟩) hs
theorem ix_str : IxR X rIxS := by
  intro value slice pins s σ H x y v u Q I rx ry h hs
  obtain ⟨z, i, c, rfl, rfl, hz, he, q⟩ := h
  obtain ⟨t, rfl⟩ := rx
  obtain ⟨t', rfl⟩ := ry
  obtain ⟨j, h1, h2, h3, h4, h5⟩ := atI_get he
  have hl : z.cps.toList.length = z.length := by simp [Str.length]
  rw [hl] at h1 h4 h5
  have hn := line63
  exact tail_any (typeIs_str s z t) slot_str_getitem.lookup (getItem_str (c := c) (by
    have e1 : decide (i < -(2 ^ 63 : Int)) = false := decide_eq_false (by omega)
    have e2 : decide (i ≥ 2 ^ 63) = false := decide_eq_false (by omega)
    rw [e1, e2, Bool.or_false]) (by rw [h1]; simpa using h2) ⟨.str ⟨#[c]⟩, H, I.tok _, ⟨_, rfl⟩, q⟩) hs
/-- list, tuple or str -/
def rIx (K : PySem.W.Frag) : R2 := fun x y H Q => rIxL K x y H Q ∨ rIxT K x y H Q ∨ rIxS x y H Q
theorem ix_seq : IxR X (rIx X.K) := ix_list.or (ix_tup.or ix_str)

/-! ### xs[i] = v, any sign -/
/-- the list's object behind a store -/
theorem mapSeq_set (its : List Value) (n j : Nat) (u : Value) : Obj.mapSeq (·.setIfInBounds j u) { cls := .type "list", data := .seq its.toArray n } = { cls := .type "list", data := .seq (its.set j u).toArray n } := by
  simp [Obj.mapSeq]
theorem Inv.lst {pins : List (Addr × Obj)} {σ : St} {H : Hp} {s : Shared} {p : Addr} {xs : List V} (I : Inv X pins σ H s) (h : H p = some (.lst xs)) :
    ∃ (its : List Value) (n : Nat), Vals xs its ∧ s.heap.get? p = some { cls := .type "list", data := .seq its.toArray n } ∧ xs.length ≤ sizeLine := by
  obtain ⟨z, its, n, r, e⟩ := I.hok p _ h
  exact ⟨its, n, r, e, z⟩
/-- the list at p is written by an update of its object -/
theorem Inv.lstUpd {pins : List (Addr × Obj)} {σ : St} {H : Hp} {s : Shared} {p : Addr} {xs ys : List V} {its its' : List Value} {n n' : Nat} {f : Obj → Obj} (I : Inv X pins σ H s) (h : H p = some (.lst xs))
    (ho : s.heap.get? p = some { cls := .type "list", data := .seq its.toArray n }) (hf : f { cls := .type "list", data := .seq its.toArray n } = { cls := .type "list", data := .seq its'.toArray n' }) (r : Vals ys its') (hz : ys.length ≤ sizeLine) (t : Nat) :
    Inv X pins σ (upd H p (.lst ys)) { s with heap := s.heap.update p f, toks := t } := by
  have e : (s.heap.update p f).get? p = some { cls := .type "list", data := .seq its'.toArray n' } := by
    rw [Heap.get?_update_self f ho (by rw [hf] <;> rfl), hf]
  refine I.write (x := p) (e := p) (by rw [h]; trivial) (.inl rfl) (fun b u hb q => (Heap.get?_update_other _ _ (Ne.symm hb)).trans q) ⟨_, e⟩ ?_
  exact ⟨hz, its', n', r, e⟩
def rSetL : V → V → V → Hp → (Hp → Prop) → Prop := fun o i v H Q => ∃ p xs k j, o = .ref p ∧ i = .int k ∧ H p = some (.lst xs) ∧ ixN xs.length k = some j ∧ Q (upd H p (.lst (xs.set j v)))
theorem set_list : PSet X rSetL := by
  intro pins s σ H o i v ov iv u Q I ro ri rv h
  obtain ⟨p, xs, k, j, rfl, rfl, hp, hj, q⟩ := h
  cases ro
  obtain ⟨t, rfl⟩ := ri
  obtain ⟨its, n, r, ho, hz⟩ := I.lst hp
  obtain ⟨h1, h2, h3, h4⟩ := ixN_seq hj
  have hl := r.length
  have hn := line63
  have I' : Inv X pins σ (upd H p (.lst (xs.set j v))) { s with heap := s.heap.update p (Obj.mapSeq (·.setIfInBounds j u)) } :=
    I.lstUpd hp ho (mapSeq_set its n j u) (r.set rv j) (by rw [List.length_set]; exact hz) s.toks
  by_cases h0 : 0 ≤ k
  · have hk : k.toNat = j := by
      rw [seqIndex_of h0 h4] at h1
      exact Option.some.inj h1
    exact PySem.W.ki_setAt ho h0 (by omega) (by rw [List.size_toArray, ← hl]; exact h4) (by rw [hk]; exact ⟨_, I', q⟩)
  · have hk : (k + (its.toArray.size : Int)).toNat = j := by
      rw [seqIndex_neg (by omega) h3] at h1
      rw [List.size_toArray, ← hl]
      exact Option.some.inj h1
    exact PySem.W.ki_setBack ho (by omega) (by rw [List.size_toArray, ← hl]; exact h3) (by omega) (by rw [hk]; exact ⟨_, I', q⟩)

/-! ### slices -/
theorem slice_bounds (lo hi : Option Int) (n : Nat) : (sliceBounds lo hi none n).1 = ((HT.sIx n 0 lo : Nat) : Int) ∧ (sliceBounds lo hi none n).2.1 = ((HT.sIx n n hi : Nat) : Int) ∧ (sliceBounds lo hi none n).2.2 = 1 := by
  refine ⟨?_, ?_, rfl⟩
  · cases lo with
    | none => simp [sliceBounds, HT.sIx]
    | some i =>
      simp only [sliceBounds, HT.sIx, Option.getD_none, show (1 : Int) > 0 by decide, if_true]
      by_cases h : i < 0
      · simp only [h, if_true] <;> omega
      · simp only [h, if_false] <;> omega
  · cases hi with
    | none => simp [sliceBounds, HT.sIx]
    | some i =>
      simp only [sliceBounds, HT.sIx, Option.getD_none, show (1 : Int) > 0 by decide, if_true]
      by_cases h : i < 0
      · simp only [h, if_true] <;> omega
      · simp only [h, if_false] <;> omega
theorem slicePick_cut (its : List Value) (lo hi : Option Int) : slicePick its.toArray lo hi none = ((its.drop (HT.sIx its.length 0 lo)).take (HT.sIx its.length its.length hi - HT.sIx its.length 0 lo)).toArray := by
  obtain ⟨h1, h2, h3⟩ := slice_bounds lo hi its.toArray.size
  unfold slicePick
  rw [h1, h2, h3]
  simp only [sliceRange_one, pick_run, List.size_toArray] <;> rfl
/-- xs[lo:hi] of a list: a new list -/
def rSlL (K : PySem.W.Frag) : V → Option Int → Option Int → Hp → VK → Prop := fun x lo hi H Q => ∃ a xs, x = .ref a ∧ SqL K H a xs ∧ ∀ p, H p = none → Q (.ref p) (upd H p (.lst (cutV xs lo hi)))
theorem sl_list : SlR X (rSlL X.K) := by
  intro pins s σ H x v vl vu lo hi sl Q I rx hs pl pu h
  obtain ⟨a, xs, rfl, hx, q⟩ := h
  cases rx
  obtain ⟨its, r, ht, hz⟩ := I.list hx
  have hlen := r.length
  refine ⟨"list", _, slot_list_getitem.lookup, ht.isList.typeIs, ?_⟩
  refine wpAny_getItem_list_slice ht.isList hs pl pu .none (by simp) ?_ (by rw [List.size_toArray] <;> omega)
  rw [slicePick_cut, ← hlen]
  refine ⟨.ref s.heap.objs.size, _, I.laid (t' := s.toks) (o := .lst (cutV xs lo hi)) (fun b ob q => Heap.get?_push_of_some _ q) (Nat.le_refl _) ?_, rfl, q _ (I.hok.fresh (Nat.le_refl _))⟩
  exact ⟨Nat.le_trans (cutV_length xs lo hi) hz, _, 0, (r.drop (HT.sIx xs.length 0 lo)).take (HT.sIx xs.length xs.length hi - HT.sIx xs.length 0 lo), Heap.get?_push_size _ rfl⟩

/-! ### in, not in: flat items -/
def flatV : V → Bool
  | .non => true
  | .bl _ => true
  | .int _ => true
  | .str _ => true
  | _ => false
/-- == of flat values -/
def eqV : V → V → Bool
  | .non, .non => true
  | .bl a, .bl b => a == b
  | .bl a, .int b => (if a then 1 else 0) == b
  | .int a, .bl b => a == (if b then 1 else 0)
  | .int a, .int b => a == b
  | .str a, .str b => a == b
  | _, _ => false
theorem eqAt_V {A : Around} {s : Shared} {y x : V} {u v : Value} (ry : RelV y u) (rx : RelV x v) (fy : flatV y = true) (fx : flatV x = true) : SeqAt.EqAt A s u v (eqV y x) := by
  cases y with
  | non =>
    cases ry
    cases x with
    | non => cases rx; exact SeqAt.EqAt.same _
    | bl b => cases rx; exact SeqAt.EqAt.none_bool b
    | int b => obtain ⟨t, rfl⟩ := rx; exact SeqAt.EqAt.none_int b t
    | str b => obtain ⟨t, rfl⟩ := rx; exact SeqAt.EqAt.none_str b t
    | _ => exact absurd (show false = true from fx) Bool.false_ne_true
  | bl a =>
    cases ry
    cases x with
    | non => cases rx; exact SeqAt.EqAt.bool_none a
    | bl b => cases rx; exact SeqAt.EqAt.bool_bool a b
    | int b => obtain ⟨t, rfl⟩ := rx; exact SeqAt.EqAt.bool_int a b t
    | str b => obtain ⟨t, rfl⟩ := rx; exact SeqAt.EqAt.bool_str a b t
    | _ => exact absurd (show false = true from fx) Bool.false_ne_true
  | int a =>
    obtain ⟨t', rfl⟩ := ry
    cases x with
    | non => cases rx; exact SeqAt.EqAt.int_none a t'
    | bl b => cases rx; exact SeqAt.EqAt.int_bool a t' b
    | int b => obtain ⟨t, rfl⟩ := rx; exact SeqAt.EqAt.int_int a t' b t
    | str b => obtain ⟨t, rfl⟩ := rx; exact SeqAt.EqAt.int_str a t' b t
    | _ => exact absurd (show false = true from fx) Bool.false_ne_true
  | str a =>
    obtain ⟨t', rfl⟩ := ry
    cases x with
    | non => cases rx; exact SeqAt.EqAt.str_none a t'
    | bl b => cases rx; exact SeqAt.EqAt.str_bool a t' b
    | int b => obtain ⟨t, rfl⟩ := rx; exact SeqAt.EqAt.str_int a t' b t
    | str b => obtain ⟨t, rfl⟩ := rx; exact SeqAt.EqAt.str_str a t' b t
    | _ => exact absurd (show false = true from fx) Bool.false_ne_true
  | _ => exact absurd (show false = true from fy) Bool.false_ne_true
/-- the items' answers, read off the values (a value's own answer does not lean on its token) -/
def eqU (x : V) (u : Value) : Bool := match u with
  | .none => eqV .non x
  | .bool b => eqV (.bl b) x
  | .int i _ => eqV (.int i) x
  | .str z _ => eqV (.str z) x
  | _ => false
theorem eqU_of {x y : V} {u : Value} (r : RelV y u) (f : flatV y = true) : eqU x u = eqV y x := by
  cases y with
  | non => cases r; rfl
  | bl b => cases r; rfl
  | int i => obtain ⟨t, rfl⟩ := r; rfl
  | str z => obtain ⟨t, rfl⟩ := r; rfl
  | _ => exact absurd (show false = true from f) Bool.false_ne_true
theorem any_eqU {x : V} : ∀ {xs : List V} {us : List Value}, Vals xs us → xs.all flatV = true → us.any (eqU x) = xs.any fun y => eqV y x
  | _, _, .nil, _ => rfl
  | y :: xs, u :: us, .cons r t, f => by
    rw [List.all_cons, Bool.and_eq_true] at f
    rw [List.any_cons, List.any_cons, eqU_of r f.1, any_eqU t f.2]
theorem mem_eqAt {A : Around} {s : Shared} {x : V} {v : Value} (rx : RelV x v) (fx : flatV x = true) : ∀ {xs : List V} {us : List Value}, Vals xs us → xs.all flatV = true → ∀ u ∈ us, SeqAt.EqAt A s u v (eqU x u)
  | _, _, .nil, _ => fun u hu => by cases hu
  | y :: xs, u :: us, .cons r t, f => fun u' hu => by
    rw [List.all_cons, Bool.and_eq_true] at f
    rcases List.mem_cons.mp hu with rfl | hu
    · rw [eqU_of r f.1]; exact eqAt_V r rx f.1 fx
    · exact mem_eqAt rx fx t f.2 u' hu
def inV (x : V) (xs : List V) : Bool := xs.any fun y => eqV y x
/-- x in a list or tuple of flat items -/
def rIn (K : PySem.W.Frag) (neg : Bool) : R2 := fun x y H Q => ∃ p xs, y = .ref p ∧ (SqL K H p xs ∨ SqT K H p xs) ∧ flatV x = true ∧ xs.all flatV = true ∧ Q (.bl (if neg then !inV x xs else inV x xs)) H
theorem op_in_seq : OpR X (compareOp .In) (rIn X.K false) := by
  intro pins s σ H x y v u Q I rx ry h
  obtain ⟨p, xs, rfl, hq, fx, fs, q⟩ := h
  cases ry
  rcases hq with hq | hq
  · obtain ⟨its, r, pl, hz⟩ := I.list hq
    refine SeqAt.in_listAt (eqU x) pl.isList (fun w hw => mem_eqAt rx fx r fs w (by simpa using hw)) ⟨.bl _, H, I, rfl, ?_⟩
    rw [show its.toArray.any (eqU x) = its.any (eqU x) by simp, any_eqU r fs]
    exact q
  · obtain ⟨its, r, pl, hz⟩ := I.tuple hq
    refine SeqAt.in_tupleAt (eqU x) pl (fun w hw => mem_eqAt rx fx r fs w (by simpa using hw)) ⟨.bl _, H, I, rfl, ?_⟩
    rw [show its.toArray.any (eqU x) = its.any (eqU x) by simp, any_eqU r fs]
    exact q
theorem op_notIn_seq : OpR X (compareOp .NotIn) (rIn X.K true) := by
  intro pins s σ H x y v u Q I rx ry h
  obtain ⟨p, xs, rfl, hq, fx, fs, q⟩ := h
  cases ry
  rcases hq with hq | hq
  · obtain ⟨its, r, pl, hz⟩ := I.list hq
    refine SeqAt.notIn_listAt (eqU x) pl.isList (fun w hw => mem_eqAt rx fx r fs w (by simpa using hw)) ⟨.bl _, H, I, rfl, ?_⟩
    rw [show its.toArray.any (eqU x) = its.any (eqU x) by simp, any_eqU r fs]
    exact q
  · obtain ⟨its, r, pl, hz⟩ := I.tuple hq
    refine SeqAt.notIn_tupleAt (eqU x) pl (fun w hw => mem_eqAt rx fx r fs w (by simpa using hw)) ⟨.bl _, H, I, rfl, ?_⟩
    rw [show its.toArray.any (eqU x) = its.any (eqU x) by simp, any_eqU r fs]
    exact q
theorem op_notIn_str : OpR X (compareOp .NotIn) (fun x y H Q => ∃ i j, x = .str i ∧ y = .str j ∧ Q (.bl (!(!(Builtin.Str.occurrences j i 0 j.length 1).isEmpty))) H) := by
  intro pins s σ H x y v u Q I rx ry h
  obtain ⟨i, j, rfl, rfl, q⟩ := h
  obtain ⟨t, rfl⟩ := rx
  obtain ⟨t', rfl⟩ := ry
  exact notIn_str ⟨.bl _, H, I, rfl, q⟩

/-! ### len, list(x), tuple(x) of any list or tuple that is read -/
theorem call_len_seq : CallR X (.builtin "len") (fun xs H Q => ∃ p ys, xs = [.ref p] ∧ (SqL X.K H p ys ∨ SqT X.K H p ys) ∧ Q (.int ys.length) H) := by
  intro pins s σ H xs us Q I r h
  obtain ⟨p, ys, rfl, hq, q⟩ := h
  obtain ⟨u, rfl, rx⟩ := vals1 r
  cases rx
  have hn := line63
  rcases hq with hq | hq
  · obtain ⟨its, r', pl, hz⟩ := I.list hq
    have hlen := r'.length
    exact Calls.call_len_list pl.isList (by simp only [List.size_toArray] <;> omega) ⟨.int ys.length, H, I.tok _, ⟨s.toks + 1, by rw [List.size_toArray, hlen]⟩, q⟩
  · obtain ⟨its, r', pl, hz⟩ := I.tuple hq
    have hlen := r'.length
    exact len_tuple pl (by simp only [List.size_toArray] <;> omega) ⟨.int ys.length, H, I.tok _, ⟨s.toks + 1, by rw [List.size_toArray, hlen]⟩, q⟩
theorem call_len_str : CallR X (.builtin "len") (fun xs H Q => ∃ z, xs = [.str z] ∧ z.length ≤ sizeLine ∧ Q (.int z.length) H) := by
  intro pins s σ H xs us Q I r h
  obtain ⟨z, rfl, hz, q⟩ := h
  obtain ⟨u, rfl, t, rfl⟩ := vals1 r
  have hn := line63
  exact len_str (by omega) ⟨.int z.length, H, I.tok _, ⟨_, rfl⟩, q⟩
theorem CallR.or {f : Value} {r r' : List V → Hp → VK → Prop} (h : CallR X f r) (h' : CallR X f r') : CallR X f (fun xs H Q => r xs H Q ∨ r' xs H Q) := by
  intro pins s σ H xs us Q I rs q
  rcases q with q | q
  · exact h pins s σ H xs us Q I rs q
  · exact h' pins s σ H xs us Q I rs q
theorem call_list_of : CallR X (.type "list") (fun xs H Q => ∃ p ys, xs = [.ref p] ∧ (SqL X.K H p ys ∨ SqT X.K H p ys) ∧ ∀ l, H l = none → Q (.ref l) (upd H l (.lst ys))) := by
  intro pins s σ H xs us Q I r h
  obtain ⟨p, ys, rfl, hq, q⟩ := h
  obtain ⟨u, rfl, rx⟩ := vals1 r
  cases rx
  have fin : ∀ (its : List Value), Vals ys its → ys.length ≤ sizeLine → ∀ (h' : Heap) (c' : Nat), (∀ b o', s.heap.get? b = some o' → h'.get? b = some o') →
      h'.get? s.heap.objs.size = some { cls := .type "list", dict := none, data := .seq its.toArray c', slots := #[] } → EP X pins σ Q (.ref s.heap.objs.size) { s with heap := h' } := fun its r' hz h' c' kp e =>
    ⟨.ref s.heap.objs.size, _, I.laid (t' := s.toks) kp (Nat.le_refl _) (show ObjOk X.prog X.w _ h' _ (.lst ys) from ⟨hz, its, c', r', e⟩), rfl, q _ (I.hok.fresh (Nat.le_refl _))⟩
  rcases hq with hq | hq
  · obtain ⟨its, r', pl, hz⟩ := I.list hq
    have hlen := r'.length
    obtain ⟨o, ho, hc, n, hd⟩ := pl.isList
    exact call_list_seq p (.inl rfl) ho hc hd (fun h' c' kp e => fin its r' hz h' c' kp e) (by simp only [List.size_toArray] <;> omega)
  · obtain ⟨its, r', pl, hz⟩ := I.tuple hq
    have hlen := r'.length
    obtain ⟨o, ho, hc, n, hd⟩ := pl
    exact call_list_seq p (.inr rfl) ho hc hd (fun h' c' kp e => fin its r' hz h' c' kp e) (by simp only [List.size_toArray] <;> omega)
theorem call_tuple_of : CallR X (.type "tuple") (fun xs H Q => ∃ p ys, xs = [.ref p] ∧ ((SqL X.K H p ys ∧ ∀ l, H l = none → Q (.ref l) (upd H l (.tup ys))) ∨ (SqT X.K H p ys ∧ Q (.ref p) H))) := by
  intro pins s σ H xs us Q I r h
  obtain ⟨p, ys, rfl, h⟩ := h
  obtain ⟨u, rfl, rx⟩ := vals1 r
  cases rx
  rcases h with ⟨hq, q⟩ | ⟨hq, q⟩
  · obtain ⟨its, r', pl, hz⟩ := I.list hq
    have hlen := r'.length
    refine call_tuple_list pl.isList (fun h' kp => ?_) (by simp only [List.size_toArray] <;> omega)
    have I1 : Inv X pins σ H { s with heap := h' } := I.kept (t' := s.toks) kp
    have I2 : Inv X pins σ (upd H h'.objs.size (.tup ys)) { s with heap := h'.push { cls := .type "tuple", data := .seq its.toArray } } :=
      I1.laid (t' := s.toks) (fun b o e => Heap.get?_push_of_some _ e) (Nat.le_refl _) (show ObjOk X.prog X.w _ _ _ (.tup ys) from ⟨hz, its, r', IsTup.new _ _⟩)
    exact ⟨.ref h'.objs.size, _, I2, rfl, q _ (I1.hok.fresh (Nat.le_refl _))⟩
  · obtain ⟨its, r', pl, hz⟩ := I.tuple hq
    exact call_tuple_same pl ⟨.ref p, H, I, rfl, q⟩

/-! ### the call of a builtin's method: o.m(..) -/
/-- the value is of that builtin type -/
def tyV (K : PySem.W.Frag) (T : String) (x : V) (H : Hp) : Prop := match x with
  | .str _ => T = "str"
  | .int _ => T = "int"
  | .ref p => (T = "list" ∧ ∃ xs, SqL K H p xs) ∨ (T = "tuple" ∧ ∃ o, K.lookup p = some o ∧ o.cls = .type "tuple" ∧ o.dict = none) ∨
      (T = "dict" ∧ ((∃ kvs, H p = some (.dK kvs)) ∨ ∃ kvs, H p = some (.dT kvs))) ∨ (T = "set" ∧ ∃ S n, H p = some (.set S n))
  | _ => False
theorem tyV_is {pins : List (Addr × Obj)} {σ : St} {H : Hp} {s : Shared} {T : String} {x : V} {v : Value} (I : Inv X pins σ H s) (r : RelV x v) (ty : tyV X.K T x H) :
    s.TypeIs v T ∧ ∀ a, v = .ref a → ∃ ob, s.heap.get? a = some ob ∧ ob.dict = none := by
  cases x with
  | str z =>
    obtain ⟨t, rfl⟩ := r
    cases (show T = "str" from ty)
    exact ⟨typeIs_str s z t, fun _ e => nomatch e⟩
  | int i =>
    obtain ⟨t, rfl⟩ := r
    cases (show T = "int" from ty)
    exact ⟨typeIs_int s i t, fun _ e => nomatch e⟩
  | ref p =>
    cases r
    rcases ty with ⟨rfl, xs, hq⟩ | ⟨rfl, o, hk, hc, hd⟩ | ⟨rfl, hk⟩ | ⟨rfl, S, n, hk⟩
    · obtain ⟨its, _, pl, _⟩ := I.list hq
      refine ⟨pl.isList.typeIs, fun a e => ?_⟩
      cases e
      obtain ⟨o, n, e, c, hd, _⟩ := pl
      exact ⟨o, e, hd⟩
    · refine ⟨⟨o, I.kIn p o hk, hc⟩, fun a e => ?_⟩
      cases e
      exact ⟨o, I.kIn _ o hk, hd⟩
    · have z : ∃ o, s.heap.get? p = some o ∧ o.ExactDict := by
        rcases hk with ⟨kvs, hk⟩ | ⟨kvs, hk⟩
        · obtain ⟨_, _, _, _, o, _, _, e, ex, _⟩ := I.hok p _ hk
          exact ⟨o, e, ex⟩
        · obtain ⟨_, _, _, _, o, _, _, e, ex, _⟩ := I.hok p _ hk
          exact ⟨o, e, ex⟩
      obtain ⟨o, e, ex⟩ := z
      refine ⟨⟨o, e, ex.1⟩, fun a e2 => ?_⟩
      cases e2
      exact ⟨o, e, ex.2.1⟩
    · obtain ⟨o, _, _, _, e, ex, _⟩ := I.hok p _ hk
      refine ⟨⟨o, e, ex.1⟩, fun a e2 => ?_⟩
      cases e2
      exact ⟨o, e, ex.2.1⟩
  | _ => exact False.elim ty
def tBM0 (K : PySem.W.Frag) (T : String) (r : V → List V → Hp → VK → Prop) (to : TE) : TE := fun σ H Q => to σ H fun x H1 => tyV K T x H1 ∧ r x [] H1 Q
def tBM (K : PySem.W.Frag) (T : String) (r : V → List V → Hp → VK → Prop) (to : TE) (t : TA) : TE := fun σ H Q => to σ H fun x H1 => tyV K T x H1 ∧ t σ H1 fun xs H2 => r x xs H2 Q
variable {o e : Expr} {es : List Expr} {to : TE} {t : TA} {name : Str} {apos cpos : Pos} {T id : String} {r : V → List V → Hp → VK → Prop}
theorem pe_bm0 (pa : PlainAttrs T) (slot : Slot T name id) (hty : typeOf (.builtin id) = pure (.type "method_descriptor")) (hm : MtR X id r) (ho : PE X o to)
    (hbase : attributeBase o name X.env (eval o X.env) = eval o X.env := by rfl) (hline : (apos.endLine == cpos.line) = true := by rfl) : PE X (.Call (.Attribute o name apos) [] [] cpos) (tBM0 X.K T r to) := by
  intro pins s σ H Q I h
  refine wpAny_Call_method0_late hbase hline (thn (ho pins s σ H _ I h) fun v s1 ⟨x, H1, I1, r1, ty, q1⟩ => ?_)
  obtain ⟨h1, h2⟩ := tyV_is I1 r1 ty
  exact ⟨T, id, pa, slot, hty, h1, h2, Calls.callWith_builtin rfl (PySem.evalArgs_none (hm pins s1 σ H1 x [] v [] Q I1 r1 .nil q1))⟩
theorem pe_bm (pa : PlainAttrs T) (slot : Slot T name id) (hty : typeOf (.builtin id) = pure (.type "method_descriptor")) (hm : MtR X id r) (ho : PE X o to) (ha : PA X (e :: es) t)
    (hbase : attributeBase o name X.env (eval o X.env) = eval o X.env := by rfl)
    (hfew : ((backTo cpos (starEach (e :: es) X.env)).all (fun x => !x.1) && (backToKw cpos (keywordEach [] X.env)).all (fun x => x.1.isSome)
      && decide ((e :: es).length + ([] : List Keyword).length + (if ([] : List Keyword).isEmpty then 0 else 1) < 30)) = true := by rfl)
    (hline : (apos.endLine == cpos.line) = true := by rfl) (hs : starEach (e :: es) X.env = (false, eval e X.env) :: starEach es X.env := by rfl) (hplain : (backTo cpos (starEach es X.env)).any (·.1) = false := by rfl) :
    PE X (.Call (.Attribute o name apos) (e :: es) [] cpos) (tBM X.K T r to t) := by
  intro pins s σ H Q I h
  refine wpAny_Call_method_late hbase hfew hline rfl (thn (ho pins s σ H _ I h) fun v s1 ⟨x, H1, I1, r1, ty, q1⟩ => ?_)
  obtain ⟨h1, h2⟩ := tyV_is I1 r1 ty
  refine ⟨T, id, pa, slot, hty, h1, h2, ?_⟩
  have hA := ha cpos pins s1 σ H1 _ I1 q1
  rw [hs] at hA ⊢
  refine Calls.callWith_builtin (by show (false || (backTo cpos (starEach es X.env)).any (·.1)) = false; rw [hplain] <;> rfl) (Calls.evalArgs_plain ?_)
  exact thn hA fun us s2 ⟨vs, H2, I2, r2, q2⟩ => hm pins s2 σ H2 x vs v us Q I2 r1 r2 q2
/- xs.append(e), list.index on a module's tuple .. are MtR facts of 06m -/
end
end L2

namespace L2
open PySem PySem.Spec PyProof.Rows

def MtM (X : Cx) (id : String) (r : V → List V → Hp → VK → Prop) : Prop :=
  ∀ (pins : List (Addr × Obj)) (s : Shared) (σ : St) (H : Hp) (x : V) (xs : List V) (v : Value) (us : List Value) (Q : VK), Inv X pins σ H s → RelV x v → Vals xs us → r x xs H Q →
    wpAny (model X.prog X.w) X.A (call (.builtin id) (v :: us)) (EP X pins σ Q) X.xe s

/-! ### lists of values -/
theorem Vals.one : ∀ {x : V} {us : List Value}, Vals [x] us → ∃ u, us = [u] ∧ RelV x u
  | _, _, .cons r .nil => ⟨_, rfl, r⟩
theorem Vals.two : ∀ {x y : V} {us : List Value}, Vals [x, y] us → ∃ u v, us = [u, v] ∧ RelV x u ∧ RelV y v
  | _, _, _, .cons r (.cons q .nil) => ⟨_, _, rfl, r, q⟩
theorem Vals.zero : ∀ {us : List Value}, Vals [] us → us = []
  | _, .nil => rfl
theorem Vals.dropLast {xs : List V} {us : List Value} (h : Vals xs us) : Vals xs.dropLast us.dropLast := by
  induction h with
  | nil => exact .nil
  | cons r t ih =>
    cases t with
    | nil => exact .nil
    | cons q t' => exact .cons r ih
theorem Vals.eraseIdx : ∀ {xs : List V} {us : List Value} (i : Nat), Vals xs us → Vals (xs.eraseIdx i) (us.eraseIdx i)
  | _, _, _, .nil => .nil
  | _, _, 0, .cons _ t => t
  | _, _, i + 1, .cons r t => .cons r (Vals.eraseIdx i t)
theorem Vals.reverse {xs : List V} {us : List Value} (h : Vals xs us) : Vals xs.reverse us.reverse := by
  induction h with
  | nil => exact .nil
  | cons r t ih => rw [List.reverse_cons, List.reverse_cons]; exact Vals.append ih (.cons r .nil)
theorem Vals.rep {xs : List V} {us : List Value} (h : Vals xs us) : ∀ k : Nat, Vals (List.replicate k xs).flatten (List.replicate k us).flatten
  | 0 => .nil
  | k + 1 => by
    rw [List.replicate_succ, List.replicate_succ, List.flatten_cons, List.flatten_cons]
    exact Vals.append h (Vals.rep h k)
theorem erase_last {α : Type} (l : List α) : l.eraseIdx (l.length - 1) = l.dropLast := by
  induction l with
  | nil => rfl
  | cons a r ih =>
    cases r with
    | nil => rfl
    | cons b r =>
      have e : (a :: b :: r).length - 1 = ((b :: r).length - 1) + 1 := by
        have h1 : (a :: b :: r).length = r.length + 2 := rfl
        have h2 : (b :: r).length = r.length + 1 := rfl
        omega
      rw [e, List.eraseIdx_cons_succ, ih]
      all_goals rfl
theorem len_erase {α : Type} : ∀ (l : List α) (i : Nat), (l.eraseIdx i).length ≤ l.length
  | [], _ => Nat.le_refl _
  | _ :: _, 0 => Nat.le_succ _
  | _ :: r, i + 1 => Nat.succ_le_succ (len_erase r i)
theorem foldl_rep (its : List Value) : ∀ (k : Nat) (acc : List Value),
    List.foldl (fun x1 x2 => x1 ++ x2) acc.toArray (List.replicate k its.toArray) = (acc ++ (List.replicate k its).flatten).toArray
  | 0, acc => by simp
  | k + 1, acc => by
    have e : acc.toArray ++ its.toArray = (acc ++ its).toArray := by simp
    have e2 : (acc ++ its) ++ (List.replicate k its).flatten = acc ++ (List.replicate (k + 1) its).flatten := by
      rw [List.replicate_succ, List.flatten_cons, List.append_assoc]
    rw [← e2, ← foldl_rep its k (acc ++ its), ← e, List.replicate_succ, List.foldl_cons]

section
variable {X : Cx} {pins : List (Addr × Obj)} {σ : St} {H : Hp} {s : Shared} {l b : Addr} {xs ys zs : List V}

/-! ### the two steps: a tracked list is rewritten, a new list is laid -/
theorem Inv.lset {its its' : List Value} {n : Nat} {f : Array Value → Array Value} {t' : Nat} (I : Inv X pins σ H s) (hH : H l = some (.lst xs))
    (e : s.heap.get? l = some { cls := .type "list", data := .seq its.toArray n }) (hf : f its.toArray = its'.toArray) (hv : Vals ys its') (hz : ys.length ≤ sizeLine) :
    Inv X pins σ (upd H l (.lst ys)) { s with heap := s.heap.update l (Obj.mapSeq f), toks := t' } := by
  have q := PySem.IsL.update e f
  rw [hf] at q
  refine I.write (x := l) (e := l) (by rw [hH]; exact trivial) (.inl rfl) (fun b' u hb hu => (Heap.get?_update_other s.heap (Obj.mapSeq f) (Ne.symm hb)).trans hu) ⟨_, q⟩ ?_
  exact ⟨hz, its', _, hv, q⟩
theorem Inv.lnew {its : List Value} {t' : Nat} (I : Inv X pins σ H s) (hv : Vals ys its) (hz : ys.length ≤ sizeLine) :
    Inv X pins σ (upd H s.heap.objs.size (.lst ys)) { s with heap := s.heap.push { cls := .type "list", data := .seq its.toArray }, toks := t' } :=
  I.laid (fun _ _ q => Heap.get?_push_of_some _ q) (Nat.le_refl _) ⟨hz, its, 0, hv, Heap.get?_push_size _ rfl⟩
theorem Inv.fresh (I : Inv X pins σ H s) : H s.heap.objs.size = none := I.hok.fresh (Nat.le_refl _)
theorem Inv.lstM (I : Inv X pins σ H s) (hH : H l = some (.lst xs)) : xs.length ≤ sizeLine ∧ ∃ (its : List Value) (n : Nat), Vals xs its ∧ xs.length = its.length ∧ s.heap.get? l = some { cls := .type "list", data := .seq its.toArray n } := by
  obtain ⟨z, its, n, r, e⟩ := I.hok l _ hH
  exact ⟨z, its, n, r, r.length, e⟩

theorem notLongL {n : Nat} (h : n ≤ sizeLine) : Builtin.List.listTooLong n = false := by
  unfold Builtin.List.listTooLong
  exact decide_eq_false (by omega)
end

section
variable {X : Cx}

/-! ### methods -/
def rAppend : V → List V → Hp → VK → Prop := fun x vs H Q => ∃ l xs y, x = .ref l ∧ vs = [y] ∧ H l = some (.lst xs) ∧ xs.length < sizeLine ∧ Q .non (upd H l (.lst (xs ++ [y])))
theorem mt_append : MtM X "list.append" rAppend := by
  intro pins s σ H x vs v us Q I rx rv h
  obtain ⟨l, xs, y, rfl, rfl, hH, hz, q⟩ := h
  cases rx
  obtain ⟨u, rfl, ru⟩ := rv.one
  obtain ⟨z, its, n, r, hl, e⟩ := I.lstM hH
  refine call_meets F.slot_list_append ⟨_, e, rfl⟩ F.entry_list_append (F.args_list_append_2 _ _) (PySem.list_append l its.toArray n u (by rw [List.size_toArray]; omega)) ⟨e, ?_⟩
  refine ⟨.non, _, I.lset (its' := its ++ [u]) hH e (by simp) (r.append (.cons ru .nil)) ?_, rfl, q⟩
  rw [List.length_append, List.length_singleton]
  omega

def rExtend : V → List V → Hp → VK → Prop := fun x vs H Q => ∃ l b xs zs, x = .ref l ∧ vs = [.ref b] ∧ H l = some (.lst xs) ∧ H b = some (.lst zs) ∧ xs.length + zs.length ≤ sizeLine ∧ Q .non (upd H l (.lst (xs ++ zs)))
theorem mt_extend : MtM X "list.extend" rExtend := by
  intro pins s σ H x vs v us Q I rx rv h
  obtain ⟨l, b, xs, zs, rfl, rfl, hH, hB, hz, q⟩ := h
  cases rx
  obtain ⟨u, rfl, ru⟩ := rv.one
  cases ru
  obtain ⟨z, its, n, r, hl, e⟩ := I.lstM hH
  obtain ⟨z2, its2, n2, r2, hl2, e2⟩ := I.lstM hB
  have hsz : its.toArray.size + its2.toArray.size ≤ sizeLine := by rw [List.size_toArray, List.size_toArray]; omega
  have hlong : ¬ (!its.toArray.isEmpty && Builtin.List.listTooLong (its.toArray.size + its2.toArray.size)) = true := by
    rw [notLongL hsz, Bool.and_false]
    exact Bool.false_ne_true
  refine call_meets F.slot_list_extend ⟨_, e, rfl⟩ F.entry_list_extend (F.args_list_extend_2 _ _)
    (AutoSeq1.list_extend_list_list_0 l its.toArray n b its2.toArray n2 hlong (by rw [List.size_toArray]; omega) (by omega)) ⟨e, e2, ?_⟩
  refine ⟨.non, _, I.lset (its' := its ++ its2) hH e (by simp) (r.append r2) ?_, rfl, q⟩
  rw [List.length_append]
  omega

def rPop : V → List V → Hp → VK → Prop := fun x vs H Q => ∃ l xs y, x = .ref l ∧ vs = [] ∧ H l = some (.lst xs) ∧ xs[xs.length - 1]? = some y ∧ Q y (upd H l (.lst xs.dropLast))
theorem mt_pop : MtM X "list.pop" rPop := by
  intro pins s σ H x vs v us Q I rx rv h
  obtain ⟨l, xs, y, rfl, rfl, hH, hy, q⟩ := h
  cases rx
  have hus := rv.zero
  subst hus
  obtain ⟨z, its, n, r, hl, e⟩ := I.lstM hH
  obtain ⟨u, hu, ru⟩ := r.get hy
  have hy' : its.toArray[its.toArray.size - 1]? = some u := by
    show its.toArray[its.length - 1]? = some u
    rw [← Array.getElem?_toList, ← hl]
    exact hu
  refine call_meets F.slot_list_pop ⟨_, e, rfl⟩ F.entry_list_pop (F.args_list_pop_1 _) (MeetsSeq.list_pop_last l its.toArray n u hy' (by rw [List.size_toArray]; omega)) ⟨e, ?_⟩
  refine ⟨y, _, I.lset (its' := its.dropLast) hH e ?_ r.dropLast ?_, ru, q⟩
  · show its.toArray.eraseIdxIfInBounds (its.toArray.size - 1) = its.dropLast.toArray
    rw [List.size_toArray, List.eraseIdxIfInBounds_toArray, erase_last]
  · rw [List.length_dropLast]
    omega

def rPopAt : V → List V → Hp → VK → Prop := fun x vs H Q => ∃ l xs i k y, x = .ref l ∧ vs = [.int i] ∧ H l = some (.lst xs) ∧ -(2 ^ 63) ≤ i ∧ i < 2 ^ 63 ∧ seqIndex? i xs.length = some k ∧ xs[k]? = some y ∧ Q y (upd H l (.lst (xs.eraseIdx k)))
theorem mt_popAt : MtM X "list.pop" rPopAt := by
  intro pins s σ H x vs v us Q I rx rv h
  obtain ⟨l, xs, i, k, y, rfl, rfl, hH, h1, h2, hk, hy, q⟩ := h
  cases rx
  obtain ⟨u, rfl, ru⟩ := rv.one
  obtain ⟨t, rfl⟩ := ru
  obtain ⟨z, its, n, r, hl, e⟩ := I.lstM hH
  obtain ⟨w, hw, rw'⟩ := r.get hy
  refine call_meets F.slot_list_pop ⟨_, e, rfl⟩ F.entry_list_pop (F.args_list_pop_2 _ _)
    (MeetsSeq.list_pop_at l its.toArray n i t k w (fitsIndex_both h1 h2) (by rw [List.size_toArray, ← hl]; exact hk) (by rw [← Array.getElem?_toList]; exact hw) (by rw [List.size_toArray]; omega)) ⟨e, ?_⟩
  refine ⟨y, _, I.lset (its' := its.eraseIdx k) hH e ?_ (r.eraseIdx k) ?_, rw', q⟩
  · show its.toArray.eraseIdxIfInBounds k = (its.eraseIdx k).toArray
    rw [List.eraseIdxIfInBounds_toArray]
  · have := len_erase xs k
    omega

def rReverse : V → List V → Hp → VK → Prop := fun x vs H Q => ∃ l xs, x = .ref l ∧ vs = [] ∧ H l = some (.lst xs) ∧ Q .non (upd H l (.lst xs.reverse))
theorem mt_reverse : MtM X "list.reverse" rReverse := by
  intro pins s σ H x vs v us Q I rx rv h
  obtain ⟨l, xs, rfl, rfl, hH, q⟩ := h
  cases rx
  have hus := rv.zero
  subst hus
  obtain ⟨z, its, n, r, hl, e⟩ := I.lstM hH
  refine call_meets F.slot_list_reverse ⟨_, e, rfl⟩ F.entry_list_reverse (F.args_list_reverse_1 _) (AutoSeq1.list_reverse_list_0 l its.toArray n (by rw [List.size_toArray]; omega)) ⟨e, ?_⟩
  refine ⟨.non, _, I.lset (its' := its.reverse) hH e (by simp) r.reverse ?_, rfl, q⟩
  rw [List.length_reverse]
  omega

def rClear : V → List V → Hp → VK → Prop := fun x vs H Q => ∃ l xs, x = .ref l ∧ vs = [] ∧ H l = some (.lst xs) ∧ Q .non (upd H l (.lst []))
theorem mt_clear : MtM X "list.clear" rClear := by
  intro pins s σ H x vs v us Q I rx rv h
  obtain ⟨l, xs, rfl, rfl, hH, q⟩ := h
  cases rx
  have hus := rv.zero
  subst hus
  obtain ⟨z, its, n, r, hl, e⟩ := I.lstM hH
  refine call_meets F.slot_list_clear ⟨_, e, rfl⟩ F.entry_list_clear (F.args_list_clear_1 _) (AutoSeq1.list_clear_list_0 l its.toArray n (by rw [List.size_toArray]; omega)) ⟨e, ?_⟩
  exact ⟨.non, _, I.lset (its' := []) (ys := []) hH e rfl .nil (Nat.zero_le _), rfl, q⟩

/-! ### list + list, list += list, list * int -/
def rCat : R2 := fun x y H Q => ∃ l b xs zs, x = .ref l ∧ y = .ref b ∧ H l = some (.lst xs) ∧ H b = some (.lst zs) ∧ xs.length + zs.length ≤ sizeLine ∧ ∀ p, H p = none → Q (.ref p) (upd H p (.lst (xs ++ zs)))
theorem op_cat : OpR X (binaryOp .Add) rCat := by
  intro pins s σ H x y v u Q I rx ry h
  obtain ⟨l, b, xs, zs, rfl, rfl, hH, hB, hz, q⟩ := h
  cases rx
  cases ry
  obtain ⟨z, its, n, r, hl, e⟩ := I.lstM hH
  obtain ⟨z2, its2, n2, r2, hl2, e2⟩ := I.lstM hB
  refine PySem.P.add_list e e2 ?_ (by rw [List.size_toArray, List.size_toArray]; omega)
  have ea : its.toArray ++ its2.toArray = (its ++ its2).toArray := by simp
  rw [ea]
  exact ⟨.ref _, _, I.lnew (t' := s.toks) (r.append r2) (by rw [List.length_append]; omega), rfl, q _ I.fresh⟩
/-- a list times an int (a negative one is nothing) -/
def rRep : R2 := fun x y H Q => ∃ l k xs, x = .ref l ∧ y = .int k ∧ H l = some (.lst xs) ∧ -(2 ^ 63) ≤ k ∧ k < 2 ^ 63 ∧ xs.length * k.toNat ≤ sizeLine ∧
  ∀ p, H p = none → Q (.ref p) (upd H p (.lst (List.replicate k.toNat xs).flatten))
theorem len_rep {α : Type} (xs : List α) (k : Nat) : (List.replicate k xs).flatten.length = k * xs.length := by
  induction k with
  | zero => simp
  | succ k ih => rw [List.replicate_succ, List.flatten_cons, List.length_append, ih, Nat.succ_mul, Nat.add_comm]
theorem op_rep : OpR X (binaryOp .Mult) rRep := by
  intro pins s σ H x y v u Q I rx ry h
  obtain ⟨l, k, xs, rfl, rfl, hH, h1, h2, hz, q⟩ := h
  cases rx
  obtain ⟨t, rfl⟩ := ry
  obtain ⟨z, its, n, r, hl, e⟩ := I.lstM hH
  have hlen : its.toArray.size * k.toNat ≤ sizeLine := by rw [List.size_toArray, ← hl]; exact hz
  have hcap : ¬ its.toArray.size * k.toNat > (2 ^ 63 - 1) / 8 := by
    have : (sizeLine : Nat) ≤ (2 ^ 63 - 1) / 8 := by decide
    omega
  have hfit : ¬ (!Builtin.List.listFitsIndex k) = true := by
    rw [fitsIndex_both h1 h2]
    exact Bool.false_ne_true
  have hlong : ¬ Builtin.List.listTooLong (its.toArray.size * k.toNat) = true := by
    rw [notLongL hlen]
    exact Bool.false_ne_true
  have hnew : List.foldl (fun x1 x2 => x1 ++ x2) #[] (List.replicate (if its.toArray.isEmpty = true then 0 else k.toNat) its.toArray) = (List.replicate k.toNat its).flatten.toArray := by
    have f0 : ∀ m : Nat, List.foldl (fun x1 x2 => x1 ++ x2) #[] (List.replicate m its.toArray) = (List.replicate m its).flatten.toArray := fun m => by
      have := foldl_rep its m []
      rw [List.nil_append] at this
      exact this
    rw [f0]
    cases its with
    | nil => simp
    | cons a r' => rw [if_neg (by simp)]
  refine wpAny_binaryOp_repeat_ref (T := "list") (U := "int") (by decide) ⟨_, e, rfl⟩ (fun s' => typeIs_int s' k t) noFill_list_mul F.fills_int_mul F.slot_int_rmul repeat_list F.slot_int_index.lookup
    (call_meets F.slot_int_rmul (typeIs_int s k t) F.entry_int_rmul (F.args_int_rmul_2 _ _) (int___rmul___int_list k t l its.toArray n)
      ⟨e, rfl, ⟨_, e, rfl⟩, call_meets F.slot_list_mul ⟨_, e, rfl⟩ F.entry_list_mul (F.args_list_mul_2 _ _) (AutoListH.list___mul___list_int_3 l its.toArray n k t hfit hcap hlong) ⟨e, ?_⟩⟩)
  rw [hnew]
  exact ⟨.ref _, _, I.lnew (t' := s.toks) (r.rep k.toNat) (by rw [len_rep, Nat.mul_comm]; exact hz), rfl, q _ I.fresh⟩

/-! ### del xs[i] -/
theorem del_list {pins : List (Addr × Obj)} {s : Shared} {σ : St} {H : Hp} {l : Addr} {xs : List V} {i : Int} {t : Tok} {k : Nat} {Q : Unit → Shared → Prop} (I : Inv X pins σ H s) (hH : H l = some (.lst xs))
    (h1 : -(2 ^ 63) ≤ i) (h2 : i < 2 ^ 63) (hk : seqIndex? i xs.length = some k) (h : ∀ s', Inv X pins σ (upd H l (.lst (xs.eraseIdx k))) s' → Q () s') :
    wpAny (model X.prog X.w) X.A (delItem (.ref l) (.int i t)) Q X.xe s := by
  obtain ⟨z, its, n, r, hl, e⟩ := I.lstM hH
  refine PySem.P.delItem_list (k := k) e (fitsIndex_both h1 h2) (by rw [List.size_toArray, ← hl]; exact hk) (h _ ?_) (by rw [List.size_toArray]; omega)
  refine I.lset (its' := its.eraseIdx k) (t' := s.toks) hH e ?_ (r.eraseIdx k) ?_
  · show its.toArray.eraseIdxIfInBounds k = (its.eraseIdx k).toArray
    rw [List.eraseIdxIfInBounds_toArray]
  · have := len_erase xs k
    omega
end

/-! ### xs[a:b] = ys -/
section
variable {prog : Program} {w : World} {A : Around} {E : Value → Shared → Prop} {s : Shared}
theorem splice_eq (its its2 : List Value) (a c : Nat) : its.toArray.extract 0 a ++ its2.toArray ++ its.toArray.extract c its.toArray.size = (its.take a ++ its2 ++ its.drop c).toArray := by
  apply Array.toList_inj.mp
  first
    | (simp
       exact List.take_of_length_le (by simp))
    | simp [List.take_of_length_le]
    | simp
theorem bounds_run {a c n : Nat} (hac : a ≤ c) (hc : c ≤ n) : sliceBounds (some (a : Int)) (some (c : Int)) none n = ((a : Int), (c : Int), 1) := by
  simp only [sliceBounds, Option.getD_none]
  have h1 : ¬ ((a : Int) < 0) := by omega
  have h2 : ¬ ((c : Int) < 0) := by omega
  simp only [h1, h2, if_false, show (1 : Int) > 0 by decide, if_true]
  congr 1
  · omega
  · congr 1; omega
set_option maxRecDepth 100000 in
/-- list.__setitem__ with a slice of step one and another list -/
theorem setItem_slice {l b sl : Addr} {items new : Array Value} {n n2 : Nat} {vl vu : Value} {a c : Nat} {Q : Unit → Shared → Prop}
    (e : s.heap.get? l = some { cls := .type "list", data := .seq items n }) (e2 : s.heap.get? b = some { cls := .type "list", data := .seq new n2 }) (hne : l ≠ b)
    (hs : s.heap.IsSliceOf sl vl vu .none) (pl : IsPart vl (some (a : Int))) (pu : IsPart vu (some (c : Int))) (hac : a ≤ c) (hc : c ≤ items.size)
    (hsz : items.size + new.size ≤ sizeLine) (h : Q () { s with heap := s.heap.update l (Obj.mapSeq fun xs => xs.extract 0 a ++ new ++ xs.extract c xs.size) }) :
    wpAny (model prog w) A (setItem (.ref l) (.ref sl) (.ref b)) Q E s := by
  have hl : s.heap.IsList l items := PySem.IsL.isList e
  have hb : s.heap.IsList b new := PySem.IsL.isList e2
  obtain ⟨os, hos, hcs, hds⟩ := id hs
  have hTs : s.TypeIs (.ref sl) "slice" := ⟨os, hos, hcs⟩
  have hstep : ¬ ((rawPart none == rawInt 0) = true) := Bool.false_ne_true
  have hsame : Builtin.List.listSameRef (.ref l) (.ref b) = false := by
    unfold Builtin.List.listSameRef
    exact beq_eq_false_iff_ne.mpr hne
  have hmax : (max (a : Int) (c : Int)).toNat = c := by omega
  have hz' : ((fun xs : Array Value => xs.extract 0 a ++ new ++ xs.extract c xs.size) items).size ≤ sizeLine + 1 := by
    simp only [Array.size_append, Array.size_extract]
    omega
  unfold setItem
  try with_reducible refine wpAny_holding ?_
  first | refine wpAny_bind (wpAny_pure ?_) | skip
  refine wpAny_bind (wpAny_sequenceKey hl.typeIs (by decide) ?_)
  refine wpAny_bind (wpAny_callSpecial?_slot (name := Str.ofString "__setitem__") hl.typeIs slot_list_setitem
    (wpAny_call_entry slot_list_setitem hl.typeIs entry_list_setitem ?_ (args_list_setitem _ _ _)))
  show wpAny _ _ (Builtin.List.listSubscript? (.ref sl) >>= _) _ _ s
  refine wpAny_bind ?_
  unfold Builtin.List.listSubscript?
  refine wpAny_bind (wpAny_specialOf hTs slice_no_index ?_)
  simp only [Option.isNone_none, if_true]
  refine wpAny_pure ?_
  show wpAny _ _ (typeOf (.ref sl) >>= _) _ _ s
  refine wpAny_bind (wpAny_typeOf hTs ?_)
  first
    | rw [if_neg (by decide)]
    | refine PySem.W.KFB.if_not (by decide) ?_
  rw [listSliceParts_eq]
  refine wpAny_bind (wpAny_bind (wpAny_field hos hds (x := .none) rfl (wpAny_bind (wpAny_listPart .none ?_))))
  rw [if_neg hstep]
  refine wpAny_bind (wpAny_field hos hds (x := vl) rfl (wpAny_bind (wpAny_listPart pl ?_)))
  refine wpAny_bind (wpAny_field hos hds (x := vu) rfl (wpAny_bind (wpAny_listPart pu (wpAny_pure ?_))))
  first
    | simp only [hsame, Bool.false_eq_true, if_false]
    | refine PySem.W.KFB.if_not hsame ?_
    | (dsimp only
       rw [if_neg (by rw [hsame]; exact Bool.false_ne_true)])
  refine wpAny_bind (m := Builtin.List.listAllItems (.ref b) "must assign iterable to extended slice") ?_
  unfold Builtin.List.listAllItems
  refine wpAny_bind (wpAny_typeOf hb.typeIs ?_)
  first
    | refine PySem.W.KFB.if_so (by decide) ?_
    | rw [if_pos (by decide)]
    | simp only [beq_self_eq_true, Bool.true_or, if_true]
  unfold Builtin.List.listItems
  refine wpAny_bind (wpAny_seqItems e2 rfl (wpAny_pure ?_))
  refine wpAny_bind (wpAny_bind (wpAny_seqItems e rfl (wpAny_pure ?_)))
  refine wpAny_bind (wpAny_of_eq ((sliceIndices_raw (some (a : Int)) (some (c : Int)) none items.size (by simp)).trans (congrArg (pure : Int × Int × Int → Sem (Int × Int × Int)) (bounds_run hac hc))) ?_)
  show wpAny _ _ (if ((1 : Int) == 1) = true then _ else _) _ _ s
  rw [if_pos (by decide)]
  refine wpAny_bind (wpAny_rule ?_)
  first
    | simp only [notLongL hsz, Bool.false_eq_true, if_false]
    | refine PySem.W.KFB.if_not (notLongL hsz) ?_
  first | refine wpAny_bind (wpAny_pure ?_) | skip
  show wpAny _ _ (updateSeq l (fun xs => xs.extract 0 ((a : Int)).toNat ++ new ++ xs.extract (max (a : Int) (c : Int)).toNat xs.size) >>= _) _ _ s
  rw [hmax, Int.toNat_natCast]
  refine wpAny_bind (wpAny_updateSeq (hz := Nat.le_trans (Nat.le_add_right _ _) hsz) (_hz' := hz') e rfl ?_)
  refine wpAny_bind (wpAny_letGo ?_)
  first
    | exact wpAny_bind (wpAny_pure (wpAny_pure ⟨.none, rfl, wpAny_pure h⟩))
    | exact wpAny_pure ⟨.none, rfl, wpAny_pure h⟩
end

section
variable {X : Cx}
/-- xs[a:c] = ys of another list, at the value level: sl is the slice object that was just made -/
theorem set_slice {pins : List (Addr × Obj)} {s : Shared} {σ : St} {H : Hp} {l b sl : Addr} {xs ys : List V} {a c : Int} {vl vu : Value} {Q : Unit → Shared → Prop} (I : Inv X pins σ H s)
    (hH : H l = some (.lst xs)) (hB : H b = some (.lst ys)) (hne : l ≠ b) (hs : s.heap.IsSliceOf sl vl vu .none) (ra : RelV (.int a) vl) (rc : RelV (.int c) vu) (h0 : 0 ≤ a) (hac : a ≤ c) (hc : c ≤ xs.length)
    (hz : xs.length + ys.length ≤ sizeLine) (h : ∀ s', Inv X pins σ (upd H l (.lst (xs.take a.toNat ++ ys ++ xs.drop c.toNat))) s' → Q () s') :
    wpAny (model X.prog X.w) X.A (setItem (.ref l) (.ref sl) (.ref b)) Q X.xe s := by
  obtain ⟨ta, rfl⟩ := ra
  obtain ⟨tc, rfl⟩ := rc
  obtain ⟨z, its, n, r, hl, e⟩ := I.lstM hH
  obtain ⟨z2, its2, n2, r2, hl2, e2⟩ := I.lstM hB
  obtain ⟨a', rfl⟩ := Int.eq_ofNat_of_zero_le h0
  obtain ⟨c', rfl⟩ := Int.eq_ofNat_of_zero_le (Int.le_trans h0 hac)
  simp only [Int.toNat_natCast] at h
  refine setItem_slice (a := a') (c := c') e e2 hne hs (.int _ _) (.int _ _) (by omega) (by rw [List.size_toArray]; omega) (by rw [List.size_toArray, List.size_toArray]; omega) (h _ ?_)
  refine I.lset (its' := its.take a' ++ its2 ++ its.drop c') (t' := s.toks) hH e ?_ (Vals.append (Vals.append (r.take _) r2) (r.drop _)) ?_
  · exact splice_eq its its2 a' c'
  · rw [List.length_append, List.length_append, List.length_take, List.length_drop]
    omega
end
end L2

namespace L2
open PySem PySem.Spec PyProof.Rows

theorem Vals.ints : ∀ {ns : List Int} {us : List Value}, Vals (ns.map V.int) us → IntsAre us ns
  | [], us, h => by
    rw [List.map_nil] at h
    cases h
    exact IntsAre.nil
  | n :: ns, us, h => by
    rw [List.map_cons] at h
    cases h with
    | cons r t =>
      obtain ⟨k, rfl⟩ := r
      exact IntsAre.cons n k (Vals.ints t)
theorem vals_of_ints : ∀ {us : List Value} {ns : List Int}, IntsAre us ns → Vals (ns.map V.int) us
  | _, _, .nil => by rw [List.map_nil]; exact Paired.nil
  | _, _, .cons n t h => by rw [List.map_cons]; exact Paired.cons (show RelV (V.int n) (Value.int n t) from ⟨t, rfl⟩) (vals_of_ints h)
theorem Vals.strs : ∀ {xs : List Str} {us : List Value}, Vals (xs.map V.str) us → StrsAre us xs
  | [], us, h => by
    rw [List.map_nil] at h
    cases h
    exact StrsAre.nil
  | x :: xs, us, h => by
    rw [List.map_cons] at h
    cases h with
    | cons r t =>
      obtain ⟨k, rfl⟩ := r
      exact StrsAre.cons x k (Vals.strs t)
theorem vals_of_strs : ∀ {us : List Value} {xs : List Str}, StrsAre us xs → Vals (xs.map V.str) us
  | _, _, .nil => by rw [List.map_nil]; exact Paired.nil
  | _, _, .cons x t h => by rw [List.map_cons]; exact Paired.cons (show RelV (V.str x) (Value.str x t) from ⟨t, rfl⟩) (vals_of_strs h)
theorem Vals.bls : ∀ {bs : List Bool} {us : List Value}, Vals (bs.map V.bl) us → us = bs.map Value.bool
  | [], us, h => by
    rw [List.map_nil] at h
    cases h
    rfl
  | b :: bs, us, h => by
    rw [List.map_cons] at h
    cases h with
    | cons r t =>
      cases r
      rw [Vals.bls t, List.map_cons]
theorem Vals.ref1 {a : Addr} {us : List Value} (r : Vals [V.ref a] us) : us = [Value.ref a] := by
  cases r with
  | cons r t =>
    cases t
    cases r
    rfl
theorem Vals.int2 {i j : Int} {us : List Value} (r : Vals [V.int i, V.int j] us) : ∃ t u, us = [Value.int i t, Value.int j u] := by
  cases r with
  | cons r t =>
    cases t with
    | cons r2 t2 =>
      cases t2
      obtain ⟨t, rfl⟩ := r
      obtain ⟨u, rfl⟩ := r2
      exact ⟨t, u, rfl⟩

/-! ### the library's walks over a list of ints, kept objects alone -/
section
variable {prog : Program} {w : World} {A : Around} {E : Value → Shared → Prop} {s : Shared} {l : Addr} {its : List Value} {ns : List Int} {Q : Value → Shared → Prop}
theorem sum_raw (hh : A.handled = none) (hl : s.heap.IsList l its.toArray) (hi : IntsAre its ns)
    (h : ∀ h' tk t', (∀ b o, s.heap.get? b = some o → h'.get? b = some o) → Q (.int ns.sum t') { s with heap := h', toks := tk }) : wpAny (model prog w) A (call (.builtin "sum") [.ref l]) Q E s := by
  obtain ⟨xs, e⟩ := hi.allInts.items
  have hn : numsOf (intItems xs).toList = ns := by rw [← e]; exact hi.numsOf
  rw [nums_intItems] at hn
  rw [e] at hl
  refine PySem.sum_intListG hh hl fun h' tk t' hk => ?_
  have := h h' tk t' hk
  rw [preSum_eq, List.take_of_length_le (by simp), hn]; exact this
theorem max_raw (hh : A.handled = none) (hl : s.heap.IsList l its.toArray) (hi : IntsAre its ns) (hne : 0 < ns.length)
    (h : ∀ h' tk M t', (∀ b o, s.heap.get? b = some o → h'.get? b = some o) → M ∈ ns → (∀ a, a ∈ ns → a ≤ M) → Q (.int M t') { s with heap := h', toks := tk }) : wpAny (model prog w) A (call (.builtin "max") [.ref l]) Q E s := by
  obtain ⟨xs, e⟩ := hi.allInts.items
  have hn : numsOf (intItems xs).toList = ns := by rw [← e]; exact hi.numsOf
  rw [nums_intItems] at hn
  subst hn
  rw [e] at hl
  have hsz : 0 < xs.size := by simpa using hne
  refine PySem.max_intList hh hl hsz fun v h' tk hv hk => ?_
  obtain ⟨t, rfl⟩ := intItems_at hv
  obtain ⟨h1, h2⟩ := argBest_gt (numAt xs) (xs.size - 1)
  refine h h' tk _ t hk ?_ fun a ha => ?_
  · rw [numAt_eq]; exact PySem.getD_mem (by rw [List.length_map, Array.length_toList]; omega)
  · obtain ⟨j, hj, rfl⟩ := mem_getD ha
    rw [List.length_map, Array.length_toList] at hj
    rw [← numAt_eq]; exact h2 j (by omega)
theorem min_raw (hh : A.handled = none) (hl : s.heap.IsList l its.toArray) (hi : IntsAre its ns) (hne : 0 < ns.length)
    (h : ∀ h' tk M t', (∀ b o, s.heap.get? b = some o → h'.get? b = some o) → M ∈ ns → (∀ a, a ∈ ns → M ≤ a) → Q (.int M t') { s with heap := h', toks := tk }) : wpAny (model prog w) A (call (.builtin "min") [.ref l]) Q E s := by
  obtain ⟨xs, e⟩ := hi.allInts.items
  have hn : numsOf (intItems xs).toList = ns := by rw [← e]; exact hi.numsOf
  rw [nums_intItems] at hn
  subst hn
  rw [e] at hl
  have hsz : 0 < xs.size := by simpa using hne
  refine PySem.min_intList hh hl hsz fun v h' tk hv hk => ?_
  obtain ⟨t, rfl⟩ := intItems_at hv
  obtain ⟨h1, h2⟩ := argBest_lt (numAt xs) (xs.size - 1)
  refine h h' tk _ t hk ?_ fun a ha => ?_
  · rw [numAt_eq]; exact PySem.getD_mem (by rw [List.length_map, Array.length_toList]; omega)
  · obtain ⟨j, hj, rfl⟩ := mem_getD ha
    rw [List.length_map, Array.length_toList] at hj
    rw [← numAt_eq]; exact h2 j (by omega)
end

/-! ### the calls, by values (CallR of 03t; MtR of 06l) -/
section
variable {X : Cx}
/-- sum(xs) of a list of ints -/
def rSum (K : PySem.W.Frag) : List V → Hp → VK → Prop := fun vs H Q => ∃ (a : Addr) (ns : List Int), vs = [V.ref a] ∧ SqL K H a (ns.map V.int) ∧ Q (.int ns.sum) H
/-- max(xs), min(xs) of a list of ints -/
def rMax (K : PySem.W.Frag) : List V → Hp → VK → Prop := fun vs H Q => ∃ (a : Addr) (ns : List Int), vs = [V.ref a] ∧ SqL K H a (ns.map V.int) ∧ 0 < ns.length ∧ ∀ m, m ∈ ns → (∀ y, y ∈ ns → y ≤ m) → Q (.int m) H
def rMin (K : PySem.W.Frag) : List V → Hp → VK → Prop := fun vs H Q => ∃ (a : Addr) (ns : List Int), vs = [V.ref a] ∧ SqL K H a (ns.map V.int) ∧ 0 < ns.length ∧ ∀ m, m ∈ ns → (∀ y, y ∈ ns → m ≤ y) → Q (.int m) H
theorem cr_sum (hc : X.calm = true) : CallR X (.builtin "sum") (rSum X.K) := by
  intro pins s σ H vs us Q I r h
  obtain ⟨a, ns, rfl, hs, q⟩ := h
  obtain ⟨its, rv, hl, _⟩ := I.list hs
  rw [Vals.ref1 r]
  exact sum_raw (I.ok.hd hc) hl.isList rv.ints fun h' tk t' hk => ⟨.int _, H, I.kept hk, ⟨_, rfl⟩, q⟩
theorem cr_max (hc : X.calm = true) : CallR X (.builtin "max") (rMax X.K) := by
  intro pins s σ H vs us Q I r h
  obtain ⟨a, ns, rfl, hs, hne, q⟩ := h
  obtain ⟨its, rv, hl, _⟩ := I.list hs
  rw [Vals.ref1 r]
  exact max_raw (I.ok.hd hc) hl.isList rv.ints hne fun h' tk m t' hk h1 h2 => ⟨.int _, H, I.kept hk, ⟨_, rfl⟩, q m h1 h2⟩
theorem cr_min (hc : X.calm = true) : CallR X (.builtin "min") (rMin X.K) := by
  intro pins s σ H vs us Q I r h
  obtain ⟨a, ns, rfl, hs, hne, q⟩ := h
  obtain ⟨its, rv, hl, _⟩ := I.list hs
  rw [Vals.ref1 r]
  exact min_raw (I.ok.hd hc) hl.isList rv.ints hne fun h' tk m t' hk h1 h2 => ⟨.int _, H, I.kept hk, ⟨_, rfl⟩, q m h1 h2⟩

/-! sorted, sort (fewer than 64 items: the library's own bound) -/
def rSorted (K : PySem.W.Frag) : List V → Hp → VK → Prop := fun vs H Q => ∃ (a : Addr) (ns : List Int), vs = [V.ref a] ∧ SqL K H a (ns.map V.int) ∧ ns.length < 64 ∧
  ∀ (ns' : List Int) (p : Addr), ns'.Perm ns → ns'.Pairwise (· ≤ ·) → H p = none → Q (.ref p) (upd H p (.lst (ns'.map V.int)))
def rSortedS (K : PySem.W.Frag) : List V → Hp → VK → Prop := fun vs H Q => ∃ (a : Addr) (xs : List Str), vs = [V.ref a] ∧ SqL K H a (xs.map V.str) ∧ xs.length < 64 ∧
  ∀ (ys : List Str) (p : Addr), ys.Perm xs → sortedS ys = true → H p = none → Q (.ref p) (upd H p (.lst (ys.map V.str)))
theorem small64 {n : Nat} (h : n < 64) : n ≤ sizeLine := by rw [sizeLine_eq]; omega
theorem cr_sorted : CallR X (.builtin "sorted") (rSorted X.K) := by
  intro pins s σ H vs us Q I r h
  obtain ⟨a, ns, rfl, hs, h64, q⟩ := h
  obtain ⟨its, rv, hl, _⟩ := I.list hs
  rw [Vals.ref1 r]
  have hi := rv.ints
  refine PyProof.Rows.sorted_ints hl.isList hi (by rw [hi.length]; exact h64) fun out ns' h1 h2 h3 => ?_
  obtain ⟨ep, he'⟩ := PyProof.Rows.sortedAll_at s.heap its out
  have hlen : (ns'.map V.int).length ≤ sizeLine := by rw [List.length_map, h2.length_eq]; exact small64 h64
  exact ⟨.ref _, upd H (s.heap.objs.size + 1) (.lst (ns'.map V.int)), I.laid (t' := s.toks) (fun _ _ => PyProof.Rows.sortedAll_old) (Nat.le_succ _) ⟨hlen, out.toList, ep, vals_of_ints h1, he'⟩, rfl, q ns' _ h2 h3 (I.hok.fresh (Nat.le_succ _))⟩
theorem cr_sortedS : CallR X (.builtin "sorted") (rSortedS X.K) := by
  intro pins s σ H vs us Q I r h
  obtain ⟨a, xs, rfl, hs, h64, q⟩ := h
  obtain ⟨its, rv, hl, _⟩ := I.list hs
  rw [Vals.ref1 r]
  have hlen0 := rv.length
  rw [List.length_map] at hlen0
  refine PyProof.Rows.sorted_strs hl.isList rv.strs (by rw [← hlen0]; exact h64) fun out ys h1 h2 h3 => ?_
  obtain ⟨ep, he'⟩ := PyProof.Rows.sortedAll_at s.heap its out
  have hlen : (ys.map V.str).length ≤ sizeLine := by rw [List.length_map, h2.length_eq]; exact small64 h64
  exact ⟨.ref _, upd H (s.heap.objs.size + 1) (.lst (ys.map V.str)), I.laid (t' := s.toks) (fun _ _ => PyProof.Rows.sortedAll_old) (Nat.le_succ _) ⟨hlen, out.toList, ep, vals_of_strs h1, he'⟩, rfl, q ys _ h2 h3 (I.hok.fresh (Nat.le_succ _))⟩
/-- xs.sort(), ints -/
def rSort : V → List V → Hp → VK → Prop := fun x xs H Q => ∃ (a : Addr) (ns : List Int), x = V.ref a ∧ xs = [] ∧ H a = some (.lst (ns.map V.int)) ∧ ns.length < 64 ∧
  ∀ ns' : List Int, ns'.Perm ns → ns'.Pairwise (· ≤ ·) → Q .non (upd H a (.lst (ns'.map V.int)))
theorem mt_sort : MtR X "list.sort" rSort := by
  intro pins s σ H x xs v us Q I rx rxs h
  obtain ⟨a, ns, rfl, rfl, ha, h64, q⟩ := h
  cases rx
  cases rxs
  obtain ⟨hz, its, n, rv, hob⟩ := I.hok a _ ha
  have hi := rv.ints
  refine wpAny_call_entry PyProof.Rows.slot_list_sort ⟨_, hob, rfl⟩ PyProof.Rows.entry_list_sort
    (PyProof.Rows.list_sort_tree hob hi (by rw [hi.length]; exact h64) fun out ns' h1 h2 h3 => ⟨.none, rfl, ?_⟩) (PyProof.Rows.args_list_sort _)
  obtain ⟨ep, he'⟩ := PyProof.Rows.sortedHeap_at (vs := its) (out := out) hob
  have hlen : (ns'.map V.int).length ≤ sizeLine := by rw [List.length_map, h2.length_eq]; exact small64 h64
  refine ⟨.non, upd H a (.lst (ns'.map V.int)), I.write (e := a) (t' := s.toks) (by rw [ha]; trivial) (.inl rfl) (fun b u hb hu => ?_) ⟨_, he'⟩ ⟨hlen, out.toList, ep, vals_of_ints h1, he'⟩, rfl, q ns' h2 h3⟩
  rw [PyProof.Rows.sortedHeap_old hb (Heap.lt_size hu)]; exact hu
end

/-! ### list.index, flat items -/
section
variable {X : Cx}
def rIndex (K : PySem.W.Frag) : V → List V → Hp → VK → Prop := fun x xs H Q => ∃ (a : Addr) (ys : List V) (y : V) (j : Nat) (z : V), x = V.ref a ∧ xs = [y] ∧ SqL K H a ys ∧ flatV y = true ∧ ys.all flatV = true ∧ ys[j]? = some z ∧ eqV z y = true ∧
  (∀ (m : Nat) (z' : V), m < j → ys[m]? = some z' → eqV z' y = false) ∧ Q (.int (j : Nat)) H
theorem flat_at {ys : List V} (f : ys.all flatV = true) {j : Nat} {z : V} (h : ys[j]? = some z) : flatV z = true := List.all_eq_true.mp f z (List.mem_of_getElem? h)
theorem mt_index : MtR X "list.index" (rIndex X.K) := by
  intro pins s σ H x xs v us Q I rx rxs h
  obtain ⟨a, ys, y, j, z, rfl, rfl, hs, fy, fys, hz, hzj, hno, q⟩ := h
  cases rx
  cases rxs with
  | cons ry rt =>
    rename_i uy ut
    cases rt
    obtain ⟨its, rv, ⟨⟨cls, dd, data, sl⟩, n, ho, hc, hdn, hd⟩, hlen⟩ := I.list hs
    simp only at hc hd
    subst hc hd
    obtain ⟨u, hu, ru⟩ := rv.get hz
    obtain ⟨hjl, hje⟩ := List.getElem?_eq_some_iff.mp hu
    have hvl := rv.length
    have hj : j < its.toArray.size := by simpa using hjl
    have hsl := sizeLine_eq
    refine call_meets PySem.F.slot_list_index ⟨_, ho, rfl⟩ PySem.F.entry_list_index (PySem.F.args_list_index_2 _ _)
      (SeqAt.list_indexAt a its.toArray n dd sl uy (eqU y) j hj (by omega) ?_ ?_) ⟨ho, fun u' hu' => mem_eqAt ry fy rv fys u' (by simpa using hu'), ?_⟩
    · have e1 : its.toArray[j] = u := by simpa using hje
      rw [e1, eqU_of ru (flat_at fys hz)]
      exact hzj
    · intro m hm hmj
      have hml : m < its.length := by simpa using hm
      have hmy : m < ys.length := by omega
      have hy' : ys[m]? = some ys[m] := List.getElem?_eq_getElem hmy
      obtain ⟨u2, hu2, ru2⟩ := rv.get hy'
      obtain ⟨_, hme⟩ := List.getElem?_eq_some_iff.mp hu2
      have e1 : its.toArray[m] = u2 := by simpa using hme
      rw [e1, eqU_of ru2 (flat_at fys hy')]
      exact hno m _ hmj hy'
    · exact ⟨.int (j : Nat), H, I.tok _, ⟨_, rfl⟩, q⟩
end

/-! ### type(x) of an own instance; is, is not of a module's class -/
section
variable {X : Cx}
theorem cr_type : CallR X (.type "type") (fun xs H Q => ∃ a C dx fs, xs = [V.ref a] ∧ H a = some (.ins C dx fs) ∧ Q (.ref C) H) := by
  intro pins s σ H xs us Q I r h
  obtain ⟨a, C, dx, fs, rfl, ha, q⟩ := h
  rw [Vals.ref1 r]
  obtain ⟨mA, O, _⟩ := ins_get I.hok ha
  obtain ⟨od, J, _⟩ := O.look
  exact PySem.W.kto_own J ⟨.ref C, H, I, rfl, q⟩
/-- an object of the module whose class is no tuple: a class of the text (makesIn says that its type is a type's heir) -/
theorem cls_there {K : PySem.W.Frag} {C : Addr} (h : PySem.W.makesIn K C = true) : ∃ o, K.lookup C = some o ∧ o.cls ≠ .type "tuple" := by
  unfold PySem.W.makesIn at h
  split at h
  · rename_i oc od cd sl ho
    refine ⟨_, ho, fun e => ?_⟩
    rw [Bool.and_eq_true] at h
    have h2 : PySem.W.instIn K (.ref C) (.type "type") = some true := beq_iff_eq.mp h.2
    have e2 : oc = .type "tuple" := e
    have h3 : PySem.W.instIn K (.ref C) (.type "type") = PySem.W.subIn K oc (.type "type") := by
      show ((K.lookup C).map (fun o => o.cls)).bind (fun t => PySem.W.subIn K t (.type "type")) = _
      rw [ho]
      all_goals rfl
    rw [h3, e2] at h2
    have h4 : PySem.W.subIn K (.type "tuple") (.type "type") = some false := by
      show (fastBuiltinMro "tuple").map (·.contains (.type "type")) = some false
      decide +kernel
    rw [h4] at h2
    cases h2
  · cases h
theorem op_is_cls : OpR X (compareOp .Is) (fun x y H Q => ∃ a b, x = V.ref a ∧ y = V.ref b ∧ (a = b ∨ (PySem.W.makesIn X.K a = true ∧ PySem.W.makesIn X.K b = true)) ∧ Q (.bl (decide (a = b))) H) := by
  intro pins s σ H x y v u Q I rx ry h
  obtain ⟨a, b, rfl, rfl, hab, q⟩ := h
  cases rx
  cases ry
  by_cases z : a = b
  · subst z
    exact wpAny_is_ref_self ⟨.bl _, H, I, by simp [RelV], q⟩
  · rcases hab with e | ⟨h1, h2⟩
    · exact absurd e z
    · obtain ⟨o1, e1, n1⟩ := cls_there h1
      obtain ⟨o2, e2, _⟩ := cls_there h2
      exact wpAny_is_ref_other z (I.kIn _ _ e1) (I.kIn _ _ e2) n1 ⟨.bl _, H, I, by simp [RelV, z], q⟩
theorem op_isnot_cls : OpR X (compareOp .IsNot) (fun x y H Q => ∃ a b, x = V.ref a ∧ y = V.ref b ∧ (a = b ∨ (PySem.W.makesIn X.K a = true ∧ PySem.W.makesIn X.K b = true)) ∧ Q (.bl (!decide (a = b))) H) := by
  intro pins s σ H x y v u Q I rx ry h
  obtain ⟨a, b, rfl, rfl, hab, q⟩ := h
  cases rx
  cases ry
  by_cases z : a = b
  · subst z
    exact wpAny_isNot_ref_self ⟨.bl _, H, I, by simp [RelV], q⟩
  · rcases hab with e | ⟨h1, h2⟩
    · exact absurd e z
    · obtain ⟨o1, e1, n1⟩ := cls_there h1
      obtain ⟨o2, e2, _⟩ := cls_there h2
      exact wpAny_isNot_ref_other z (I.kIn _ _ e1) (I.kIn _ _ e2) n1 ⟨.bl _, H, I, by simp [RelV, z], q⟩
end

/-! ### any(xs), all(xs) of a list of bools -/
theorem iter_any {prog : Program} {w : World} {A : Around} {E : Value → Shared → Prop} {s : Shared} {l : Addr} {items : Array Value} {Q : Value → Shared → Prop} (hl : s.heap.IsList l items)
    (h : ∀ s₂ : Shared, s₂ = { s with heap := s.heap.push { cls := .type "list_iterator", data := .fields #[.ref l, .int 0 0] } } →
      (s₂.heap.IsListIter s.heap.objs.size l 0 ∧ s₂.heap.IsList l items) → l ≠ s.heap.objs.size → Q (.ref s.heap.objs.size) s₂) : wpAny (model prog w) A (pyIter (.ref l)) Q E s := by
  have hlt : l < s.heap.objs.size := by obtain ⟨_, e, _⟩ := hl; exact Heap.lt_size e
  exact wpAny_pyIter_list hl (h _ rfl ⟨⟨_, Heap.get?_push_size _ rfl, rfl, rfl⟩, hl.push _⟩ (Nat.ne_of_lt hlt))
theorem truth_bools {prog : Program} {w : World} {A : Around} {bs : List Bool} {its : List Value} (e : its = bs.map Value.bool) :
    TruthOf prog w A (fun i v => its.toArray[i]? = some v) (fun i => bs.getD i false) := fun i v s Q E hv hq => by
  have hv' : its[i]? = some v := by simpa using hv
  rw [e, List.getElem?_map] at hv'
  obtain ⟨b, hb, rfl⟩ := Option.map_eq_some_iff.mp hv'
  have hg : bs.getD i false = b := by rw [List.getD_eq_getElem?_getD, hb] <;> rfl
  have hq' : Q (bs.getD i false) s := hq
  rw [hg] at hq'
  exact wpAny_truthy_bool hq'
theorem any_range : ∀ bs : List Bool, (List.range bs.length).any (fun i => bs.getD i false) = bs.any id
  | [] => rfl
  | b :: bs => by
    rw [List.length_cons, List.range_succ_eq_map, List.any_cons, List.any_map, List.any_cons, ← any_range bs]
    all_goals rfl
theorem all_range : ∀ bs : List Bool, (List.range bs.length).all (fun i => bs.getD i false) = bs.all id
  | [] => rfl
  | b :: bs => by
    rw [List.length_cons, List.range_succ_eq_map, List.all_cons, List.all_map, List.all_cons, ← all_range bs]
    all_goals rfl
section
variable {X : Cx}
def rAny (K : PySem.W.Frag) : List V → Hp → VK → Prop := fun vs H Q => ∃ (a : Addr) (bs : List Bool), vs = [V.ref a] ∧ SqL K H a (bs.map V.bl) ∧ Q (.bl (bs.any id)) H
def rAll (K : PySem.W.Frag) : List V → Hp → VK → Prop := fun vs H Q => ∃ (a : Addr) (bs : List Bool), vs = [V.ref a] ∧ SqL K H a (bs.map V.bl) ∧ Q (.bl (bs.all id)) H
theorem cr_any (hc : X.calm = true) : CallR X (.builtin "any") (rAny X.K) := by
  intro pins s σ H vs us Q I r h
  obtain ⟨a, bs, rfl, hs, q⟩ := h
  obtain ⟨its, rv, hl, _⟩ := I.list hs
  rw [Vals.ref1 r]
  have hb := rv.bls
  refine call_any_walk (iter_any hl.isList fun s₂ e2 st hne => ?_)
  subst e2
  refine ⟨_, _, _, _, _, _, _, rfl, Walks.list (A := X.A.in1) (I.ok.hd hc) _ a hne its.toArray, st, truth_bools hb, fun h' tk hk => ?_⟩
  refine ⟨.bl _, H, I.kept fun b o eo => hk b o (fun hmem => ?_) (Heap.get?_push_of_some _ eo), ?_, q⟩
  · rcases List.mem_cons.mp hmem with e1 | hmem
    · exact absurd (e1 ▸ Heap.lt_size eo) (Nat.lt_irrefl _)
    · cases hmem
  · show Value.bool _ = Value.bool _
    rw [← any_range, hb, List.size_toArray, List.length_map]
theorem cr_all (hc : X.calm = true) : CallR X (.builtin "all") (rAll X.K) := by
  intro pins s σ H vs us Q I r h
  obtain ⟨a, bs, rfl, hs, q⟩ := h
  obtain ⟨its, rv, hl, _⟩ := I.list hs
  rw [Vals.ref1 r]
  have hb := rv.bls
  refine call_all_walk (iter_any hl.isList fun s₂ e2 st hne => ?_)
  subst e2
  refine ⟨_, _, _, _, _, _, _, rfl, Walks.list (A := X.A.in1) (I.ok.hd hc) _ a hne its.toArray, st, truth_bools hb, fun h' tk hk => ?_⟩
  refine ⟨.bl _, H, I.kept fun b o eo => hk b o (fun hmem => ?_) (Heap.get?_push_of_some _ eo), ?_, q⟩
  · rcases List.mem_cons.mp hmem with e1 | hmem
    · exact absurd (e1 ▸ Heap.lt_size eo) (Nat.lt_irrefl _)
    · cases hmem
  · show Value.bool _ = Value.bool _
    rw [← all_range, hb, List.size_toArray, List.length_map]
end

/-! ### == and != of data at any depth: none, bools, ints, texts, lists, tuples -/
mutual
inductive Dp (K : PySem.W.Frag) (H : Hp) : V → PyData → Prop
  | non : Dp K H .non .none
  | bl (b : Bool) : Dp K H (.bl b) (.bool b)
  | int (i : Int) : Dp K H (.int i) (.int i)
  | str (x : Str) : Dp K H (.str x) (.str x)
  | lst {a : Addr} {xs : List V} {ds : List PyData} : SqL K H a xs → DpAll K H xs ds → Dp K H (.ref a) (.list ds)
  | tup {a : Addr} {xs : List V} {ds : List PyData} : SqT K H a xs → DpAll K H xs ds → Dp K H (.ref a) (.tuple ds)
inductive DpAll (K : PySem.W.Frag) (H : Hp) : List V → List PyData → Prop
  | nil : DpAll K H [] []
  | cons {v : V} {vs : List V} {d : PyData} {ds : List PyData} : Dp K H v d → DpAll K H vs ds → DpAll K H (v :: vs) (d :: ds)
end
section
variable {X : Cx} {pins : List (Addr × Obj)} {σ : St} {H : Hp} {s : Shared}
mutual
theorem Dp.reads (I : Inv X pins σ H s) : ∀ (d : PyData) (v : V) (u : Value), Dp X.K H v d → RelV v u → ∃ as, Reads s.heap u d as
  | .none, _, _, h, r => by
    cases h
    cases r
    exact ⟨_, Reads.none⟩
  | .bool b, _, _, h, r => by
    cases h
    cases r
    exact ⟨_, Reads.bool b⟩
  | .int i, _, _, h, r => by
    cases h
    obtain ⟨t, rfl⟩ := r
    exact ⟨_, Reads.int i t⟩
  | .str x, _, _, h, r => by
    cases h
    obtain ⟨t, rfl⟩ := r
    exact ⟨_, Reads.str x t⟩
  | .list ds, _, _, h, r => by
    cases h with
    | lst hs ha =>
      cases r
      obtain ⟨its, rv, ⟨o, n, ho, hc, _, hd⟩, _⟩ := I.list hs
      obtain ⟨as, hr⟩ := Dp.readsAll I ds _ its ha rv
      exact ⟨_, Reads.list ho hc hd hr⟩
  | .tuple ds, _, _, h, r => by
    cases h with
    | tup hs ha =>
      cases r
      obtain ⟨its, rv, ⟨o, ho, hc, n, hd⟩, _⟩ := I.tuple hs
      obtain ⟨as, hr⟩ := Dp.readsAll I ds _ its ha rv
      exact ⟨_, Reads.tuple ho hc hd hr⟩
  | .dict _, _, _, h, _ => by cases h
theorem Dp.readsAll (I : Inv X pins σ H s) : ∀ (ds : List PyData) (vs : List V) (us : List Value), DpAll X.K H vs ds → Vals vs us → ∃ as, ReadsAll s.heap us ds as
  | [], _, _, h, r => by
    cases h
    cases r
    exact ⟨_, ReadsAll.nil⟩
  | d :: ds, _, _, h, r => by
    cases h with
    | cons h1 h2 =>
      cases r with
      | cons r1 r2 =>
        obtain ⟨as, q1⟩ := Dp.reads I d _ _ h1 r1
        obtain ⟨bs, q2⟩ := Dp.readsAll I ds _ _ h2 r2
        exact ⟨_, ReadsAll.cons q1 q2⟩
end
end
section
variable {X : Cx}
def rEqD (K : PySem.W.Frag) : R2 := fun x y H Q => ∃ d e, Dp K H x d ∧ Dp K H y e ∧ SeqAt.shaped d = true ∧ SeqAt.shaped e = true ∧ Q (.bl (PyData.eqv d e)) H
def rNeD (K : PySem.W.Frag) : R2 := fun x y H Q => ∃ d e, Dp K H x d ∧ Dp K H y e ∧ SeqAt.shaped d = true ∧ SeqAt.shaped e = true ∧ Q (.bl (!PyData.eqv d e)) H
theorem op_eqD (hu : X.A.units + 64 < cLine) : OpR X (compareOp .Eq) (rEqD X.K) := by
  intro pins s σ H x y v u Q I rx ry h
  obtain ⟨d, e, hd, he, sd, se, q⟩ := h
  obtain ⟨as, r1⟩ := Dp.reads I d x v hd rx
  obtain ⟨bs, r2⟩ := Dp.reads I e y u he ry
  exact SeqAt.compareEq_shaped r1 r2 sd se hu ⟨.bl _, H, I, rfl, q⟩
theorem op_neD (hu : X.A.units + 64 < cLine) : OpR X (compareOp .NotEq) (rNeD X.K) := by
  intro pins s σ H x y v u Q I rx ry h
  obtain ⟨d, e, hd, he, sd, se, q⟩ := h
  obtain ⟨as, r1⟩ := Dp.reads I d x v hd rx
  obtain ⟨bs, r2⟩ := Dp.reads I e y u he ry
  exact SeqAt.compareNe_shaped r1 r2 sd se hu ⟨.bl _, H, I, rfl, q⟩
end
end L2

namespace L2
open PySem PySem.Spec PyProof.Rows
abbrev CellAt (h : Heap) (c : Addr) (v : Option Value) : Prop := h.IsCell c v
def relS (scope sc : Scope) : Scope :=
  { scope with names := scope.names.map fun (n, k) => if (k == .free && sc.kind == .function && sc.names.lookup n == some .cell) then (n, .cell) else (n, k) }

def cloFrom (cells : List (Str × Addr)) : List (Str × NameKind) → List (Str × Addr) → List (Str × Addr)
  | [], acc => acc
  | (n, k) :: r, acc => if k == .free then cloFrom cells r ((n, (cells.lookup n).getD 0) :: acc) else cloFrom cells r acc

theorem closure_loop (env : Env) (f : Str × NameKind → List (Str × Addr) → Sem (ForInStep (List (Str × Addr))))
    (hf : ∀ n k c, f (n, k) c = if k == .free then (do let a ← cellOf env n; pure (.yield ((n, a) :: c))) else pure (.yield c)) :
    ∀ (names : List (Str × NameKind)) (acc : List (Str × Addr)), (∀ y ∈ names, y.2 = .free → ∃ c, env.cells.lookup y.1 = some c) → forIn names acc f = pure (cloFrom env.cells names acc)
  | [], acc, _ => by rw [List.forIn_nil]; rfl
  | (n, k) :: r, acc, h => by
    rw [List.forIn_cons, hf]
    have ih := fun acc => closure_loop env f hf r acc fun y hy => h y (List.mem_cons_of_mem _ hy)
    unfold cloFrom
    by_cases hk : (k == NameKind.free) = true
    · rw [if_pos hk, if_pos hk]
      obtain ⟨c, hc⟩ := h (n, k) List.mem_cons_self (by simpa using hk)
      have e : cellOf env n = pure c := by unfold cellOf; rw [hc]
      rw [e]
      have e2 : (env.cells.lookup n).getD 0 = c := by rw [hc]; rfl
      rw [e2]
      exact ih _
    · rw [if_neg hk, if_neg hk]
      exact ih _
theorem closure_ok {scope : Scope} {env : Env} (h : ∀ y ∈ scope.names, y.2 = .free → ∃ c, env.cells.lookup y.1 = some c) : closureFor scope env = pure (cloFrom env.cells scope.names []) := by
  simp only [closureFor]
  rw [closure_loop env _ (fun n k c => rfl) scope.names [] h]
  rfl

theorem mem_lookup {α : Type} : ∀ {l : List (Str × α)} {n : Str} {c : α}, (n, c) ∈ l → ∃ c', l.lookup n = some c'
  | (k, v) :: r, n, c, h => by
    rw [List.lookup_cons]
    cases hb : n == k with
    | true => exact ⟨_, rfl⟩
    | false =>
      rcases List.mem_cons.mp h with e | h
      · cases e; simp at hb
      · exact mem_lookup h

theorem cloFrom_mem {cells : List (Str × Addr)} : ∀ {names : List (Str × NameKind)} {acc : List (Str × Addr)} {n : Str} {c : Addr}, (n, c) ∈ cloFrom cells names acc → (n, c) ∈ acc ∨ ((n, .free) ∈ names ∧ c = (cells.lookup n).getD 0)
  | [], _, _, _, h => .inl h
  | (m, k) :: r, acc, n, c, h => by
    unfold cloFrom at h
    split at h
    · rename_i hk
      have hk : k = .free := by simpa using hk
      rcases cloFrom_mem h with h | ⟨h1, h2⟩
      · rcases List.mem_cons.mp h with e | h
        · cases e; exact .inr ⟨hk ▸ List.mem_cons_self, rfl⟩
        · exact .inl h
      · exact .inr ⟨List.mem_cons_of_mem _ h1, h2⟩
    · rcases cloFrom_mem h with h | ⟨h1, h2⟩
      · exact .inl h
      · exact .inr ⟨List.mem_cons_of_mem _ h1, h2⟩
theorem cloFrom_acc {cells : List (Str × Addr)} : ∀ {names : List (Str × NameKind)} {acc : List (Str × Addr)} {p : Str × Addr}, p ∈ acc → p ∈ cloFrom cells names acc
  | [], _, _, h => h
  | (m, k) :: r, acc, p, h => by
    unfold cloFrom
    split
    · exact cloFrom_acc (List.mem_cons_of_mem _ h)
    · exact cloFrom_acc h
theorem cloFrom_has {cells : List (Str × Addr)} : ∀ {names : List (Str × NameKind)} {acc : List (Str × Addr)} {n : Str}, (n, .free) ∈ names → (n, (cells.lookup n).getD 0) ∈ cloFrom cells names acc
  | (m, k) :: r, acc, n, h => by
    unfold cloFrom
    rcases List.mem_cons.mp h with e | h
    · cases e
      exact cloFrom_acc List.mem_cons_self
    · split
      · exact cloFrom_has h
      · exact cloFrom_has h

theorem cells_mem : ∀ {names : List (Str × NameKind)} {h : Heap} {acc : List (Str × Addr)} {x : Str} {c : Addr}, (x, c) ∈ cellsFrom h.objs.size names acc →
    (x, c) ∈ acc ∨ ((x, .cell) ∈ names ∧ h.objs.size ≤ c ∧ CellAt (pushCells h names) c none)
  | [], _, _, _, _, h => .inl h
  | (n, k) :: r, h, acc, x, c, hm => by
    unfold cellsFrom at hm
    unfold pushCells
    split at hm
    · rename_i hk
      rw [if_pos hk]
      have hk : k = .cell := by simpa using hk
      rw [← Heap.size_push h { cls := .type "cell", data := .cell none }] at hm
      rcases cells_mem hm with hm | ⟨h1, h2, h3⟩
      · rcases List.mem_cons.mp hm with e | hm
        · cases e
          exact .inr ⟨hk ▸ List.mem_cons_self, Nat.le_refl _, _, pushCells_keeps r _ _ _ (Heap.get?_push_size _ rfl), rfl⟩
        · exact .inl hm
      · rw [Heap.size_push] at h2
        exact .inr ⟨List.mem_cons_of_mem _ h1, Nat.le_of_succ_le h2, h3⟩
    · rename_i hk
      rw [if_neg hk]
      rcases cells_mem hm with hm | ⟨h1, h2, h3⟩
      · exact .inl hm
      · exact .inr ⟨List.mem_cons_of_mem _ h1, h2, h3⟩
theorem cells_acc : ∀ {names : List (Str × NameKind)} {n : Nat} {acc : List (Str × Addr)} {p : Str × Addr}, p ∈ acc → p ∈ cellsFrom n names acc
  | [], _, _, _, h => h
  | (m, k) :: r, n, acc, p, h => by
    unfold cellsFrom
    split
    · exact cells_acc (List.mem_cons_of_mem _ h)
    · exact cells_acc h
theorem cells_has : ∀ {names : List (Str × NameKind)} {n : Nat} {acc : List (Str × Addr)} {x : Str}, (x, .cell) ∈ names → ∃ c, (x, c) ∈ cellsFrom n names acc
  | (m, k) :: r, n, acc, x, h => by
    unfold cellsFrom
    rcases List.mem_cons.mp h with e | h
    · cases e
      exact ⟨n, cells_acc List.mem_cons_self⟩
    · split
      · exact cells_has h
      · exact cells_has h
theorem cells_inj : ∀ {names : List (Str × NameKind)} {h : Heap} {acc : List (Str × Addr)} {x y : Str} {c : Addr}, (∀ p ∈ acc, p.2 < h.objs.size) → (∀ x y c, (x, c) ∈ acc → (y, c) ∈ acc → x = y) →
    (x, c) ∈ cellsFrom h.objs.size names acc → (y, c) ∈ cellsFrom h.objs.size names acc → x = y
  | [], _, _, _, _, _, _, hi, h1, h2 => hi _ _ _ h1 h2
  | (n, k) :: r, h, acc, x, y, c, hl, hi, h1, h2 => by
    unfold cellsFrom at h1 h2
    split at h1
    · rename_i hk
      rw [if_pos hk] at h2
      rw [← Heap.size_push h { cls := .type "cell", data := .cell none }] at h1 h2
      refine cells_inj (h := h.push _) (fun p hp => ?_) (fun x y c a b => ?_) h1 h2
      · rw [Heap.size_push]
        rcases List.mem_cons.mp hp with rfl | hp
        · exact Nat.lt_succ_self _
        · exact Nat.lt_succ_of_lt (hl p hp)
      · rcases List.mem_cons.mp a with e | a <;> rcases List.mem_cons.mp b with e' | b
        · cases e; cases e'; rfl
        · cases e; exact absurd (hl _ b) (Nat.lt_irrefl _)
        · cases e'; exact absurd (hl _ a) (Nat.lt_irrefl _)
        · exact hi _ _ _ a b
    · rename_i hk
      rw [if_neg hk] at h2
      exact cells_inj hl hi h1 h2

theorem newEnv_comp {M : Model} {A : Around} {E : Value → Shared → Prop} {s : Shared} {scope : Scope} {globals : Addr} {closure : List (Str × Addr)} {qual : Str} {func : Option Addr} {code : Value} {around : Env} {builtins : Addr} {Q : Env → Shared → Prop}
    (h : Q (newEnv scope s.heap.objs.size globals (cellsFrom (s.heap.objs.size + 1) scope.names closure) qual func code (some around) builtins)
      { s with heap := pushCells (s.heap.push { cls := .type "dict", data := .dict #[] }) scope.names }) :
    wpAny M A (newFunctionEnv scope globals closure [] qual func code (some around) builtins) Q E s := by
  simp only [newFunctionEnv, Option.isSome_some, if_true]
  refine wpAny_bind (wpAny_alloc ?_)
  refine wpAny_bind (wpAny_layCells _ (fun n k c => rfl) scope.names closure _ _ ?_)
  rw [show ({ s with heap := s.heap.push { cls := .type "dict", data := .dict #[] } } : Shared).heap.objs.size = s.heap.objs.size + 1 from Heap.size_push ..]
  rw [List.forIn_nil]
  exact wpAny_bind (wpAny_pure (wpAny_pure h))

/-- every name of the written scope, in the scope that runs -/
theorem lookup_relS {sc : Scope} : ∀ {names : List (Str × NameKind)} {x : Str} {k : NameKind},
    (names.map fun (n, k) => if (k == NameKind.free && sc.kind == .function && sc.names.lookup n == some .cell) then (n, NameKind.cell) else (n, k)).lookup x = some k →
    ∃ k', names.lookup x = some k' ∧ (k = k' ∨ (k' = .free ∧ k = .cell))
  | [], _, _, h => by simp at h
  | (n, k₀) :: r, x, k, h => by
    have ih := @lookup_relS sc r x k
    have h' : List.lookup x ((if (k₀ == NameKind.free && sc.kind == .function && sc.names.lookup n == some .cell) = true then (n, NameKind.cell) else (n, k₀)) :: (r.map _)) = some k := h
    cases hx : x == n with
    | true =>
      simp only [List.lookup_cons, hx]
      by_cases hc : (k₀ == NameKind.free && sc.kind == .function && sc.names.lookup n == some .cell) = true
      · rw [if_pos hc] at h'
        simp only [List.lookup_cons, hx] at h'
        cases h'
        simp only [Bool.and_eq_true, beq_iff_eq] at hc
        exact ⟨k₀, rfl, .inr ⟨hc.1.1, rfl⟩⟩
      · rw [if_neg hc] at h'
        simp only [List.lookup_cons, hx] at h'
        cases h'
        exact ⟨_, rfl, .inl rfl⟩
    | false =>
      simp only [List.lookup_cons, hx]
      by_cases hc : (k₀ == NameKind.free && sc.kind == .function && sc.names.lookup n == some .cell) = true
      · rw [if_pos hc] at h'
        simp only [List.lookup_cons, hx] at h'
        exact ih h'
      · rw [if_neg hc] at h'
        simp only [List.lookup_cons, hx] at h'
        exact ih h'
theorem lookup_relS_keep {sc : Scope} : ∀ {names : List (Str × NameKind)} {x : Str} {k : NameKind}, k ≠ .free → names.lookup x = some k →
    (names.map fun (n, k) => if (k == NameKind.free && sc.kind == .function && sc.names.lookup n == some .cell) then (n, NameKind.cell) else (n, k)).lookup x = some k
  | [], _, _, _, h => by simp at h
  | (n, k₀) :: r, x, k, hk, h => by
    have ih := @lookup_relS_keep sc r x k hk
    show List.lookup x ((if (k₀ == NameKind.free && sc.kind == .function && sc.names.lookup n == some .cell) = true then (n, NameKind.cell) else (n, k₀)) :: (r.map _)) = some k
    cases hx : x == n with
    | true =>
      simp only [List.lookup_cons, hx] at h
      cases h
      have : ¬ (k₀ == NameKind.free && sc.kind == .function && sc.names.lookup n == some .cell) = true := by simp [hk]
      rw [if_neg this]
      simp only [List.lookup_cons, hx]
    | false =>
      simp only [List.lookup_cons, hx] at h
      by_cases hc : (k₀ == NameKind.free && sc.kind == .function && sc.names.lookup n == some .cell) = true
      · rw [if_pos hc]; simp only [List.lookup_cons, hx]; exact ih h
      · rw [if_neg hc]; simp only [List.lookup_cons, hx]; exact ih h

theorem pushCells_size : ∀ (names : List (Str × NameKind)) (h : Heap), h.objs.size ≤ (pushCells h names).objs.size
  | [], _ => Nat.le_refl _
  | (_, k) :: r, h => by
    unfold pushCells
    split
    · refine Nat.le_trans ?_ (pushCells_size r _)
      rw [Heap.size_push]; exact Nat.le_succ _
    · exact pushCells_size r h


/-- the names of a comprehension's block: its own (with their places in N), or captured -/
structure BlkOk (N : List Str) (sc scope : Scope) (own : List (Str × Nat)) : Prop where
  kind : scope.kind = .function
  uniq : ∀ y ∈ scope.names, scope.names.lookup y.1 = some y.2
  ix : ∀ p ∈ own, N[p.2]? = some p.1
  free : ∀ y ∈ scope.names, y.2 = .free → sc.names.lookup y.1 = some .cell ∨ sc.names.lookup y.1 = some .free
  own : ∀ y ∈ scope.names, y.2 = .local ∨ y.2 = .cell → y.1 ∈ own.map (·.1) ∨ y.1 ∉ N
/-- the slots of the block's own names forgotten -/
def wipe (σ : St) : List Nat → St
  | [] => σ
  | v :: vs => (wipe σ vs).set v none
theorem wipe_length (σ : St) : ∀ vs : List Nat, (wipe σ vs).length = σ.length
  | [] => rfl
  | v :: vs => by unfold wipe; rw [List.length_set, wipe_length σ vs]
theorem wipe_some {σ : St} {i : Nat} {x : V} : ∀ {vs : List Nat}, (wipe σ vs)[i]? = some (some x) → σ[i]? = some (some x) ∧ i ∉ vs
  | [], h => ⟨h, by simp⟩
  | v :: vs, h => by
    unfold wipe at h
    by_cases hi : v = i
    · subst hi
      by_cases hv : v < (wipe σ vs).length
      · rw [List.getElem?_set_self hv] at h; cases h
      · rw [List.getElem?_eq_none (by simpa using hv)] at h; cases h
    · rw [List.getElem?_set_ne hi] at h
      obtain ⟨h1, h2⟩ := wipe_some h
      exact ⟨h1, by simp only [List.mem_cons, not_or]; exact ⟨fun e => hi e.symm, h2⟩⟩

/-- the context of a block that starts at s, its iterator's objects at fp -/
abbrev Cx.blk (X : Cx) (s : Shared) (H : Hp) (scope : Scope) (cenv : Env) (fp : List Addr) : Cx := { X with s_0 := s, H_0 := H, env := cenv, outer := X.stack, ex := fp, fn := fun x => scope.names.lookup x == some .cell, pn := [], xe := fun _ _ => False }
section
variable {X : Cx} {pins : List (Addr × Obj)} {σ : St} {H : Hp} {s : Shared}
theorem block_start {scope : Scope} {own : List (Str × Nat)} {fp : List Addr} (I : Inv X pins σ H s) (ok : BlkOk X.N X.env.scope scope own) (hN : X.N.Nodup) (hfp : ∀ b ∈ fp, FpOk X pins H b ∧ b < s.heap.objs.size) :
    Inv (X.blk s H scope (compEnvC scope (cellsFrom (s.heap.objs.size + 1) scope.names (cloFrom X.env.cells scope.names [])) s.heap.objs.size X.env) fp) [] (wipe σ (own.map (·.2))) H { s with heap := pushCells (s.heap.push { cls := .type "dict", data := .dict #[] }) scope.names } := by
  have hfree : ∀ y ∈ scope.names, y.2 = .free → ∃ c, X.env.cells.lookup y.1 = some c := fun y hy e => by
    rcases ok.free y hy e with k | k
    · exact I.ok.has _ (.inl k)
    · exact I.ok.has _ (.inr k)
  generalize hcenv : compEnvC scope (cellsFrom (s.heap.objs.size + 1) scope.names (cloFrom X.env.cells scope.names [])) s.heap.objs.size X.env = cenv
  have kp : ∀ b o, s.heap.get? b = some o → (pushCells (s.heap.push { cls := .type "dict", data := .dict #[] }) scope.names).get? b = some o := fun b o e => pushCells_keeps _ _ _ _ (Heap.get?_push_of_some _ e)
  have hL : cenv.locals = s.heap.objs.size := by rw [← hcenv]; rfl
  have hcl : cenv.cells = cellsFrom (s.heap.objs.size + 1) scope.names (cloFrom X.env.cells scope.names []) := by rw [← hcenv]; rfl
  have hsc : cenv.scope = relS scope X.env.scope := by rw [← hcenv]; rfl
  rw [← Heap.size_push s.heap { cls := .type "dict", data := .dict #[] }] at hcl
  have cm : ∀ {y c}, (y, c) ∈ cloFrom X.env.cells scope.names [] → X.env.cells.lookup y = some c ∧ c < s.heap.objs.size := fun {y c} hm => by
    rcases cloFrom_mem hm with hm | ⟨h1, rfl⟩
    · cases hm
    · obtain ⟨c, hc⟩ := hfree _ h1 rfl
      rw [hc]
      obtain ⟨w, z⟩ := I.cell _ _ hc
      exact ⟨rfl, z.lt⟩
  have mem : ∀ {y c}, cenv.cells.lookup y = some c → (X.env.cells.lookup y = some c ∧ c < s.heap.objs.size) ∨ (s.heap.objs.size + 1 ≤ c ∧ CellAt (pushCells (s.heap.push { cls := .type "dict", data := .dict #[] }) scope.names) c none) := fun {y c} e => by
    rw [hcl] at e
    rcases cells_mem (PySem.mem_of_lookup e) with hm | ⟨_, h2, h3⟩
    · exact .inl (cm hm)
    · rw [Heap.size_push] at h2; exact .inr ⟨h2, h3⟩
  have look : ∀ {y}, scope.names.lookup y = some .free → ∃ c, cenv.cells.lookup y = some c ∧ X.env.cells.lookup y = some c := fun {y} hl => by
    have hy : (y, NameKind.free) ∈ scope.names := PySem.mem_of_lookup hl
    obtain ⟨c', e'⟩ := mem_lookup (cells_acc (names := scope.names) (n := (s.heap.push { cls := .type "dict", data := .dict #[] }).objs.size) (cloFrom_has (cells := X.env.cells) (acc := []) hy))
    rw [← hcl] at e'
    refine ⟨c', e', ?_⟩
    rw [hcl] at e'
    rcases cells_mem (PySem.mem_of_lookup e') with hm | ⟨h1, _, _⟩
    · exact (cm hm).1
    · have := ok.uniq _ h1
      rw [hl] at this; cases this
  have okB : (X.blk s H scope cenv fp).Ok := by
    refine ⟨I.ok.mod, by show cenv.scope.kind = _; rw [hsc]; exact ok.kind, by show cenv.globals = _; rw [← hcenv]; exact I.ok.glob, by show cenv.builtins = _; rw [← hcenv]; exact I.ok.blt, by show s.heap.objs.size ≤ cenv.locals; rw [hL]; exact Nat.le_refl _,
      fun y z c e1 e2 => ?_, fun y hy => ?_, fun y c z e => ?_, I.ok.hd, I.ok.frames, .inl rfl, fun b hb => ⟨?_, fun y c e z => ?_⟩, I.bs, Nat.le_trans I.ok.bsz I.sz, fun b o e hb => ?_, fun b hb z => ?_, I.stack, I.stkFree⟩
    · have e1 : cenv.cells.lookup y = some c := e1
      have e2 : cenv.cells.lookup z = some c := e2
      rw [hcl] at e1 e2
      refine cells_inj (fun p hp => ?_) (fun y z c a b => I.ok.inj y z c (cm a).1 (cm b).1) (PySem.mem_of_lookup e1) (PySem.mem_of_lookup e2)
      rw [Heap.size_push]
      exact Nat.lt_succ_of_lt (cm (y := p.1) (c := p.2) hp).2
    · show ∃ c, cenv.cells.lookup y = some c
      have key : ∀ k, cenv.kindOf y = some k → (k = .cell ∨ k = .free) → ∃ c, cenv.cells.lookup y = some c := fun k hk hk' => by
        unfold Env.kindOf at hk
        rw [hsc] at hk
        obtain ⟨k', e, r⟩ := lookup_relS hk
        have : k' = .cell ∨ k' = .free := by
          rcases r with rfl | ⟨rfl, _⟩
          · exact hk'
          · exact .inr rfl
        rcases this with rfl | rfl
        · obtain ⟨c, hm⟩ := cells_has (n := (s.heap.push { cls := .type "dict", data := .dict #[] }).objs.size) (acc := cloFrom X.env.cells scope.names []) (PySem.mem_of_lookup e)
          obtain ⟨c', e'⟩ := mem_lookup hm
          exact ⟨c', by rw [hcl]; exact e'⟩
        · obtain ⟨c, h1, _⟩ := look e
          exact ⟨c, h1⟩
      rcases hy with hy | hy
      · exact key _ hy (.inl rfl)
      · exact key _ hy (.inr rfl)
    · have z : (scope.names.lookup y == some NameKind.cell) = true := z
      have z : scope.names.lookup y = some .cell := by simpa using z
      have e : cenv.cells.lookup y = some c := e
      rw [hcl] at e
      rcases cells_mem (PySem.mem_of_lookup e) with hm | ⟨_, h2, _⟩
      · rcases cloFrom_mem hm with hm | ⟨h1, _⟩
        · cases hm
        · have q := ok.uniq _ h1
          rw [z] at q; cases q
      · rw [Heap.size_push] at h2
        exact Nat.le_of_succ_le h2
    · show b ≠ cenv.locals
      rw [hL]; exact Nat.ne_of_lt (hfp b hb).2
    · have e : cenv.cells.lookup y = some c := e
      rcases mem e with ⟨h1, _⟩ | ⟨h1, _⟩
      · exact (hfp b hb).1.2.2.2.2.1 y c h1 z
      · have h2 : s.heap.objs.size + 1 ≤ b := by rw [← z]; exact h1
        exact absurd (Nat.lt_of_lt_of_le (hfp b hb).2 (Nat.le_of_succ_le h2)) (Nat.lt_irrefl _)
    · rcases (hfp b hb).1.2.2.2.1 with z | z
      · exact I.ok.noex b o e z
      · exact absurd (Nat.lt_of_lt_of_le (Heap.lt_size e) (Nat.le_trans I.ok.bsz z)) (Nat.lt_irrefl _)
    · rcases List.mem_cons.mp (I.stkSub b z) with z | z
      · exact (hfp b hb).1.2.1 z
      · exact (hfp b hb).1.2.2.1 z
  refine ⟨okB, rfl, I.bare, Un.kept kp, ⟨fun _ => none, ?_, fun i y av e1 e2 e3 => ?_⟩, fun y c e => ?_, ?_, fun y c e => ?_, fun p hp => ?_, I.hok.kept kp, by rw [wipe_length]; exact I.len⟩
  · show Heap.Ns _ cenv.locals _
    rw [hL]
    exact Heap.Ns.keeps (Heap.Ns.new ..) fun b o e => pushCells_keeps _ _ _ _ e
  · obtain ⟨e2, hne⟩ := wipe_some e2
    have hfr : scope.names.lookup y = some .free ∧ (cenv.kindOf y = some .cell ∨ cenv.kindOf y = some .free) := by
      have key : ∀ k, cenv.scope.names.lookup y = some k → k = .local ∨ k = .cell ∨ k = .free → scope.names.lookup y = some .free ∧ (cenv.kindOf y = some .cell ∨ cenv.kindOf y = some .free) := fun k hk hk' => by
        have hk0 := hk
        rw [hsc] at hk
        obtain ⟨k', e, r⟩ := lookup_relS hk
        have no : ¬ (k' = .local ∨ k' = .cell) := fun hh => by
          rcases ok.own _ (PySem.mem_of_lookup e) hh with e' | e'
          · obtain ⟨p, hp, hpy⟩ := List.mem_map.mp e'
            have e3 := ok.ix p hp
            have : p.1 = y := hpy
            rw [this] at e3
            exact hne (List.mem_map.mpr ⟨p, hp, nodup_ix hN e3 e1⟩)
          · exact e' (List.mem_of_getElem? e1)
        rcases r with rfl | ⟨rfl, rfl⟩
        · rcases hk' with rfl | rfl | rfl
          · exact absurd (.inl rfl) no
          · exact absurd (.inr rfl) no
          · exact ⟨e, .inr hk0⟩
        · exact ⟨e, .inl hk0⟩
      have e3 : Vis cenv.scope y := e3
      rcases e3 with e3 | e3 | e3
      · exact key _ e3 (.inl rfl)
      · exact key _ e3 (.inr (.inl rfl))
      · exact key _ e3 (.inr (.inr rfl))
    obtain ⟨m, hn, hl⟩ := I.loc
    have hvis : Vis X.env.scope y := (ok.free _ (PySem.mem_of_lookup hfr.1) rfl).elim (fun k => .inr (.inl k)) (fun k => .inr (.inr k))
    obtain ⟨w, r, q⟩ := hl i y av e1 e2 hvis
    refine ⟨w, r, .inr ⟨hfr.2, ?_⟩⟩
    obtain ⟨c, h1, h2⟩ := look hfr.1
    rcases q with ⟨k, _⟩ | ⟨_, c', e', z⟩
    · have k : X.env.scope.names.lookup y = some .local := k
      rcases ok.free _ (PySem.mem_of_lookup hfr.1) rfl with k' | k' <;> rw [show X.env.scope.names.lookup y = _ from k'] at k <;> cases k
    · rw [h2] at e'; cases e'
      exact ⟨c, h1, z.keeps kp⟩
  · have e : cenv.cells.lookup y = some c := e
    rcases mem e with ⟨h1, _⟩ | ⟨_, z⟩
    · obtain ⟨w, z⟩ := I.cell y c h1
      exact ⟨w, z.keeps kp⟩
    · exact ⟨_, z⟩
  · show H cenv.locals = none
    rw [hL]; exact I.hok.fresh (Nat.le_refl _)
  · have e : cenv.cells.lookup y = some c := e
    rcases mem e with ⟨h1, _⟩ | ⟨h1, _⟩
    · exact I.freeC y c h1
    · exact I.hok.fresh (Nat.le_of_succ_le h1)
  · exact absurd (show p ∈ ([] : List (Addr × Obj)) ++ [] from hp) (by simp)

/-- an item appended to a tracked list -/
theorem app_ok {E : Value → Shared → Prop} {D : Addr} {xs : List V} {y : V} {v : Value} {Q : Value → Shared → Prop} (I : Inv X pins σ H s) (hD : H D = some (.lst xs)) (hz : xs.length < sizeLine) (r : RelV y v)
    (h : ∀ s', Inv X pins σ (upd H D (.lst (xs ++ [y]))) s' → Q .none s') : wpAny (model X.prog X.w) X.A (call (.builtin "list.append") [.ref D, v]) Q E s := by
  obtain ⟨hz', its, n, ri, e⟩ := I.hok D _ hD
  have hl := ri.length
  refine append_at (hsz := by rw [List.size_toArray]; omega) e fun h' sb ho' => ?_
  refine h { s with heap := h' } (I.write (t' := s.toks) (by rw [hD]; trivial) (.inl rfl) (fun b u hb q => (sb.2 b hb).trans q) ⟨_, ho'⟩ ⟨by rw [List.length_append]; exact hz, its ++ [v], n + 1, ri.append (.cons r .nil), ?_⟩)
  rw [ho']
  simp

/-- a clause's tests -/
def PTs (X : Cx) (ifs : List Expr) (t : TT) : Prop :=
  ∀ (pins : List (Addr × Obj)) (s : Shared) (σ : St) (H : Hp) (Q : Bool → Hp → Prop), Inv X pins σ H s → t σ H Q →
    wpAny (model X.prog X.w) X.A (forIn ifs true fun c r => if r = true then do let ok ← isTrue c X.env (eval c X.env); pure (ForInStep.yield ok) else pure (ForInStep.yield r)) (TP X pins σ Q) X.xe s
def tYes : TT := fun _ H Q => Q true H
theorem pts_nil : PTs X [] tYes := fun _ _ _ H _ I h => wpAny_tests_nil ⟨H, I, h⟩
theorem pts_one {c : Expr} {t : TT} (h : PT X c t) : PTs X [c] t := fun pins s σ H Q I hw => wpAny_tests_one (h pins s σ H Q I hw)
end

theorem thnF {α : Type} {t : Sem α} {Q Q' : α → Shared → Prop} {M : Model} {A : Around} {E : Value → Shared → Prop} {s : Shared} (h : wpAny M A t Q (fun _ _ => False) s) (hQ : ∀ a s, Q a s → Q' a s) : wpAny M A t Q' E s := wpAny_mono h hQ fun _ _ z => False.elim z

/-- the loop of a list comprehension's block, the target of any form (codeAny_compLoop_tests asks a target that no tuple goes to; statement and proof follow it, PyProof/CompMap.lean:41-61, with the step letOwnedTupleGo kept) -/
theorem compLoop_any {prog : Program} {w : World} {A : Around} {R : Result → Shared → Prop} {s : Shared} {elt target iter : Expr} {ifs : List Expr} {scope : Scope} {pos : Pos} {it acc : Value} {env : Env} (I : Nat → Shared → Prop)
    (turn : ∀ n s, I n s → wpAny (model prog w) A (pyNext it) (fun r s₁ => match r with
      | none => R (.ok .next) s₁
      | some v => wpAny (model prog w) A (letOwnedTupleGo target it v) (fun _ s₁' => wpAny (model prog w) A (assign target env v) (fun _ s₂ =>
          wpAny (model prog w) A (forIn ifs true fun c r => if r = true then do let ok ← isTrue c env (eval c env); pure (ForInStep.yield ok) else pure (ForInStep.yield r)) (fun ok s₃ =>
            if ok = true then wpAny (model prog w) A (eval elt env) (fun x s₄ =>
              wpAny (model prog w) A (call (.builtin "list.append") [acc, x]) (fun _ s₅ => ∃ m, m < n ∧ I m s₅) (notedBy (model prog w) A env fun e s' => R (.error e) s') s₄) (notedBy (model prog w) A env fun e s' => R (.error e) s') s₃
            else ∃ m, m < n ∧ I m s₃) (notedBy (model prog w) A env fun e s' => R (.error e) s') s₂) (notedBy (model prog w) A env fun e s' => R (.error e) s') s₁') (notedBy (model prog w) A env fun e s' => R (.error e) s') s₁) (notedBy (model prog w) A env fun e s' => R (.error e) s') s)
    (n : Nat) (h : I n s) :
    codeAny (model prog w) A (.compLoop (.ListComp elt [⟨target, iter, ifs, 0⟩] scope pos) 0 it acc env) R s := by
  refine codeAny_loop rfl I (fun n s hI => ?_) n h
  show wpAny _ A ((compTurn (.ListComp elt [⟨target, iter, ifs, 0⟩] scope pos) 0 it acc env).onRaise (fun x => do noteFrame x env; theTreesLotGoes x)) _ _ s
  refine wpAny_noted ?_
  rw [compTurn_list]
  refine wpAny_bind (wpAny_standAt (wpAny_bind (wpAny_mono (turn n s hI) (fun r s₁ h₁ => ?_) fun _ _ h' => h')))
  cases r with
  | none => exact wpAny_pure h₁
  | some v =>
    refine wpAny_bind (wpAny_mono h₁ (fun _ s₁' h₁' => ?_) fun _ _ h' => h')
    refine wpAny_bind (wpAny_mono h₁' (fun _ s₂ h₂ => wpAny_bind (wpAny_mono h₂ (fun ok s₃ h₃ => ?_) fun _ _ h' => h')) fun _ _ h' => h')
    cases ok with
    | false => exact wpAny_pure ⟨rfl, h₃⟩
    | true =>
      exact wpAny_bind (wpAny_bind (wpAny_mono h₃ (fun x s₄ h₄ => wpAny_bind (wpAny_mono h₄ (fun _ s₅ h₅ => wpAny_pure (wpAny_pure ⟨rfl, h₅⟩)) fun _ _ h' => h')) fun _ _ h' => h'))

section
variable {X : Cx}
/-- [elt for target in iter if ..]: D the new list; W by the turn and a measure, Nx what a turn is to reach -/
def tLc (wi : TI) (g : TG) (tt : TT) (te : TE) (vs : List Nat) : TE := fun σ H Q => wi σ H fun J H1 => ∀ D, H1 D = none → ∃ W : Nat → Nat → Hp → Prop, (∃ m, W 0 m (upd H1 D (.lst []))) ∧ ∀ i m H, W i m H →
  (J.stop i H ∧ Q (.ref D) H) ∨ (J.go i H ∧ ∃ Nx : Hp → Prop, (∀ H', Nx H' → ∃ m', m' < m ∧ W (i + 1) m' H') ∧ ∀ x H', J.yld i H x H' → g x (wipe σ vs) H' fun σ2 H2 => wipe σ2 vs = wipe σ vs ∧ tt σ2 H2 fun b H3 =>
    if b = true then te σ2 H3 fun y H4 => ∃ acc, H4 D = some (.lst acc) ∧ acc.length < sizeLine ∧ Nx (upd H4 D (.lst (acc ++ [y]))) else Nx H3)
theorem lc_core {pins : List (Addr × Obj)} {s : Shared} {σ : St} {H : Hp} {Q : VK} {elt tg iter : Expr} {ifs : List Expr} {scope : Scope} {own : List (Str × Nat)} {pos pos' : Pos} {wi : TI} {g : TG} {tt : TT} {te : TE} {use : Option (Value → Sem Unit)} {Qf : Value → Shared → Prop}
    (hc : X.calm = true) (hN : X.N.Nodup) (I : Inv X pins σ H s) (hi : PI X tg iter wi) (ok : BlkOk X.N X.env.scope scope own)
    (hg : ∀ (s : Shared) (H : Hp) (C : Addr) (cl : List (Str × Addr)) (fp : List Addr), PG (X.blk s H scope (compEnvC scope cl C X.env) fp) tg g) (ht : ∀ (s : Shared) (H : Hp) (C : Addr) (cl : List (Str × Addr)) (fp : List Addr), PTs (X.blk s H scope (compEnvC scope cl C X.env) fp) ifs tt)
    (he : ∀ (s : Shared) (H : Hp) (C : Addr) (cl : List (Str × Addr)) (fp : List Addr), PE (X.blk s H scope (compEnvC scope cl C X.env) fp) elt te) (hs : ∀ x, foldedSetIterable iter X.env x = pure x)
    (h : tLc wi g tt te (own.map (·.2)) σ H Q)
    (hRR : ∀ D C s' m H', Inv X pins σ H' s' → Q (.ref D) H' → s'.heap.Ns C m → FpOk X pins H' C → compPost (model X.prog X.w) X.A X.xe use Qf (.ref D) C (.ok .next) s') :
    wpAny (model X.prog X.w) X.A (comprehension (.ListComp elt [⟨tg, iter, ifs, 0⟩] scope pos) scope X.env pos' (newList []) false (eval iter X.env) use) Qf X.xe s := by
  have hfree : ∀ y ∈ scope.names, y.2 = .free → ∃ c, X.env.cells.lookup y.1 = some c := fun y hy e => by
    rcases ok.free y hy e with k | k
    · exact I.ok.has _ (.inl k)
    · exact I.ok.has _ (.inr k)
  refine wpAny_comprehension_free (use := use) rfl hs (closure_ok hfree) ok.kind (fun y hy e => by rw [ok.uniq y hy, e])
    (thn (hi pins s σ H _ I h) fun xv s1 hx => thn hx fun itv s2 h2 => ?_)
  obtain ⟨it, fp, tn, J, H2, e, I2, T, st2, f2, q⟩ := h2
  subst e
  refine wpAny_newObj_type (newEnv_comp ?_) (by show 0 ≤ sizeLine; decide)
  generalize hD : s2.heap.objs.size = D
  have hDn : H2 D = none := I2.hok.fresh (Nat.le_of_eq hD)
  obtain ⟨W, ⟨m0, w0⟩, turn⟩ := q D hDn
  -- the new list
  generalize hs3 : ({ s2 with heap := s2.heap.push { cls := .type "list", data := .seq ([] : List Value).toArray } } : Shared) = s3
  have I3 : Inv X pins σ (upd H2 D (.lst [])) s3 := by
    rw [← hs3]
    refine I2.laid (t' := s2.toks) (fun b o e => Heap.get?_push_of_some _ e) (Nat.le_of_eq hD) ⟨Nat.zero_le _, [], 0, .nil, ?_⟩
    rw [← hD]
    exact Heap.get?_push_size _ rfl
  have h3 : s3.heap = s2.heap.push { cls := .type "list", data := .seq ([] : List Value).toArray } := by rw [← hs3]
  have sz : ∀ b ∈ fp, b < s2.heap.objs.size := fun b hb => by
    obtain ⟨o, e, _⟩ := T.obj _ _ st2 b hb
    exact Heap.lt_size e
  have f3 : ∀ b ∈ fp, FpOk X pins (upd H2 D (.lst [])) b ∧ b < s3.heap.objs.size := fun b hb => by
    have hlt := sz b hb
    refine ⟨⟨?_, (f2 b hb).2⟩, by rw [h3, Heap.size_push]; exact Nat.lt_succ_of_lt hlt⟩
    rw [upd_ne (by rw [← hD]; exact Nat.ne_of_lt hlt)]
    exact (f2 b hb).1
  have st3 : tn 0 s3.heap := T.keep _ _ _ st2 fun b _ o e => by rw [h3]; exact Heap.get?_push_of_some _ e
  have I4 := block_start I3 ok hN f3
  have pg := hg s3 (upd H2 D (.lst [])) s3.heap.objs.size (cellsFrom (s3.heap.objs.size + 1) scope.names (cloFrom X.env.cells scope.names [])) fp
  have pt := ht s3 (upd H2 D (.lst [])) s3.heap.objs.size (cellsFrom (s3.heap.objs.size + 1) scope.names (cloFrom X.env.cells scope.names [])) fp
  have pe := he s3 (upd H2 D (.lst [])) s3.heap.objs.size (cellsFrom (s3.heap.objs.size + 1) scope.names (cloFrom X.env.cells scope.names [])) fp
  show codeAny _ _ (.compStart (.ListComp elt [⟨tg, iter, ifs, 0⟩] scope pos) 0 (.ref it) (.ref D) (compEnvC scope (cellsFrom (s3.heap.objs.size + 1) scope.names (cloFrom X.env.cells scope.names [])) s3.heap.objs.size X.env)) (compPost (model X.prog X.w) X.A X.xe use Qf (.ref D) s3.heap.objs.size) { s3 with heap := pushCells (s3.heap.push { cls := .type "dict", data := .dict #[] }) scope.names }
  have nfp : ∀ b ∈ fp, (upd H2 D (.lst [])) b = none := fun b hb => (f3 b hb).1.1
  generalize hce : compEnvC scope (cellsFrom (s3.heap.objs.size + 1) scope.names (cloFrom X.env.cells scope.names [])) s3.heap.objs.size X.env = ce at I4 pg pt pe ⊢
  have cL : ce.locals = s3.heap.objs.size := by subst hce; rfl
  generalize hH3 : upd H2 D (.lst []) = H3 at I3 I4 pg pt pe w0 nfp f3
  generalize hs4 : ({ s3 with heap := pushCells (s3.heap.push { cls := .type "dict", data := .dict #[] }) scope.names } : Shared) = s4 at I4 ⊢
  have st4 : tn 0 s4.heap := T.keep _ _ _ st3 fun b _ o e => by rw [← hs4]; exact pushCells_keeps _ _ _ _ (Heap.get?_push_of_some _ e)
  have stat : ∀ {σ' : St} {H' : Hp} {s' : Shared}, Inv (X.blk s3 H3 scope ce fp) [] σ' H' s' → (∀ b ∈ fp, H' b = none) → ∀ b ∈ fp, FpOk (X.blk s3 H3 scope ce fp) [] H' b := fun {σ' H' s'} I' hn b hb =>
    ⟨hn b hb, (I'.ok.exf b hb).1, I'.ok.exfs b hb, .inl hb, fun x c e => (I'.ok.exf b hb).2 x c e, fun p hp => absurd (show p ∈ ([] : List (Addr × Obj)) ++ [] from hp) (by simp)⟩
  have loop : codeAny (model X.prog X.w) X.A (.compLoop (.ListComp elt [⟨tg, iter, ifs, 0⟩] scope pos) 0 (.ref it) (.ref D) ce) (compPost (model X.prog X.w) X.A X.xe use Qf (.ref D) s3.heap.objs.size) s4 := by
    refine compLoop_any (fun n s' => ∃ i H', Inv (X.blk s3 H3 scope ce fp) [] (wipe σ (own.map (·.2))) H' s' ∧ tn i s'.heap ∧ (∀ b ∈ fp, H' b = none) ∧ W i n H') ?_ m0 ⟨0, H3, I4, st4, nfp, w0⟩
    rintro n s5 ⟨i, H5, I5, st5, n5, w5⟩
    rcases turn i n H5 w5 with ⟨stop, qq⟩ | ⟨go, Nx, hNx, step⟩
    · have td := T.done (X.blk s3 H3 scope ce fp) rfl rfl rfl hc i [] s5 _ H5 (fun _ _ => False) I5 (stat I5 n5) st5 stop
      refine thnF td fun r s6 ⟨hr, I6⟩ => ?_
      subst hr
      -- back in the def's context
      have I7 : Inv X pins σ H5 s6 := I3.call' (ch := fp) I6.os I6.base I6.hok I6.bare fun b hb => ⟨(f3 b hb).1.2.2.2.1, (f3 b hb).1.2.1, (f3 b hb).1.2.2.2.2.1, (f3 b hb).1.2.2.2.2.2⟩
      have nC : H5 s3.heap.objs.size = none := by
        have z : H5 ce.locals = none := I6.free
        rw [cL] at z
        exact z
      obtain ⟨m, hn, _⟩ := I6.loc
      have hn : s6.heap.Ns ce.locals m := hn
      rw [cL] at hn
      exact hRR D s3.heap.objs.size s6 m H5 I7 qq hn (I3.fpOk (Nat.le_refl _) nC)
    · have ti := T.item (X.blk s3 H3 scope ce fp) rfl rfl rfl hc i [] s5 _ H5 (fun _ _ => False) I5 (stat I5 n5) st5 go
      refine thnF ti fun r s6 ⟨u, hr, h6⟩ => ?_
      subst hr
      refine thnF h6 fun _ s7 ⟨x, H7, I7, r7, y7, st7, n7⟩ => ?_
      have I7' := I7.pinned (stat I7 n7) (T.obj _ _ st7)
      refine thnF (pg _ s7 _ H7 x u _ I7' r7 (step x H7 y7)) fun _ s8 ⟨σ8, H8, I8, hw8, q8⟩ => ?_
      refine thnF (pt _ s8 σ8 H8 _ I8 q8) fun b s9 ⟨H9, I9, q9⟩ => ?_
      -- the turn's end
      have fin : ∀ {s' : Shared} {H' : Hp}, Inv (X.blk s3 H3 scope ce fp) ([] ++ pinsAt fp s7.heap) σ8 H' s' → Nx H' → ∃ m, m < n ∧ ∃ i H', Inv (X.blk s3 H3 scope ce fp) [] (wipe σ (own.map (·.2))) H' s' ∧ tn i s'.heap ∧ (∀ b ∈ fp, H' b = none) ∧ W i m H' := fun {s' H'} I' nx => by
        obtain ⟨m', hm, w'⟩ := hNx H' nx
        have pin' : ∀ b ∈ fp, ∀ o, s7.heap.get? b = some o → s'.heap.get? b = some o ∧ H' b = none := fun b hb o e =>
          let z := I'.pin (b, o) (List.mem_append_right _ (List.mem_append_right _ (mem_pinsAt hb e)))
          ⟨z.1, z.2.1⟩
        have hl : (wipe σ (own.map (·.2))).length = σ8.length := by rw [← hw8, wipe_length]
        refine ⟨m', hm, i + 1, H', (I'.unpinned (pins := [])).weak hl (fun j v e => ?_), T.keep _ _ _ st7 fun b hb o e => (pin' b hb o e).1, fun b hb => ?_, w'⟩
        · rw [← hw8] at e
          exact (wipe_some e).1
        · obtain ⟨o, e, _⟩ := T.obj _ _ st7 b hb
          exact (pin' b hb o e).2
      cases b with
      | false =>
        simp only [Bool.false_eq_true, if_false] at q9 ⊢
        exact fin I9 q9
      | true =>
        simp only [if_true] at q9 ⊢
        refine thnF (pe _ s9 σ8 H9 _ I9 q9) fun z s10 ⟨yv, H10, I10, r10, acc, hD10, hz10, nx⟩ => ?_
        exact app_ok (X := X.blk s3 H3 scope ce fp) I10 hD10 hz10 r10 fun s11 I11 => fin I11 nx
  exact codeAny_compStart_list loop (T.self X.A 0 _ _ _ st4 loop)
/-- as a value -/
theorem pe_lc {elt tg iter : Expr} {ifs : List Expr} {scope : Scope} {own : List (Str × Nat)} {pos : Pos} {wi : TI} {g : TG} {tt : TT} {te : TE} (hc : X.calm = true) (hN : X.N.Nodup) (hi : PI X tg iter wi) (ok : BlkOk X.N X.env.scope scope own)
    (hg : ∀ (s : Shared) (H : Hp) (C : Addr) (cl : List (Str × Addr)) (fp : List Addr), PG (X.blk s H scope (compEnvC scope cl C X.env) fp) tg g) (ht : ∀ (s : Shared) (H : Hp) (C : Addr) (cl : List (Str × Addr)) (fp : List Addr), PTs (X.blk s H scope (compEnvC scope cl C X.env) fp) ifs tt)
    (he : ∀ (s : Shared) (H : Hp) (C : Addr) (cl : List (Str × Addr)) (fp : List Addr), PE (X.blk s H scope (compEnvC scope cl C X.env) fp) elt te) (hs : ∀ x, foldedSetIterable iter X.env x = pure x := by intro _; rfl) :
    PE X (.ListComp elt [⟨tg, iter, ifs, 0⟩] scope pos) (tLc wi g tt te (own.map (·.2))) := by
  intro pins s σ H Q I h
  rw [eval_ListComp]
  refine lc_core hc hN I hi ok hg ht he hs h fun D C s' m H' I' q hn f => ⟨m, hn, fun h'' sb => ?_⟩
  obtain ⟨f0, f1, f2, f3, f4, f5⟩ := f
  exact ⟨.ref D, H', I'.turned (t' := s'.toks) (fun b o hb e => (sb.2 b hb).trans e) f0 f1 f3 f4 f5, rfl, q⟩
/-- name = [..] on one line, the name a local -/
theorem ps_setLc {i : Nat} {y : Str} {py : Pos} {elt tg iter : Expr} {ifs : List Expr} {scope : Scope} {own : List (Str × Nat)} {pos spos : Pos} {wi : TI} {g : TG} {tt : TT} {te : TE} (hc : X.calm = true) (hN : X.N.Nodup) (hy : X.N[i]? = some y) (hyl : X.env.scope.names.lookup y = some .local)
    (hsw : swapsWith (.ListComp elt [⟨tg, iter, ifs, 0⟩] scope pos) (some (.Name y py)) spos.line X.env = pure true) (hi : PI X tg iter wi) (ok : BlkOk X.N X.env.scope scope own)
    (hg : ∀ (s : Shared) (H : Hp) (C : Addr) (cl : List (Str × Addr)) (fp : List Addr), PG (X.blk s H scope (compEnvC scope cl C X.env) fp) tg g) (ht : ∀ (s : Shared) (H : Hp) (C : Addr) (cl : List (Str × Addr)) (fp : List Addr), PTs (X.blk s H scope (compEnvC scope cl C X.env) fp) ifs tt)
    (he : ∀ (s : Shared) (H : Hp) (C : Addr) (cl : List (Str × Addr)) (fp : List Addr), PE (X.blk s H scope (compEnvC scope cl C X.env) fp) elt te) (hs : ∀ x, foldedSetIterable iter X.env x = pure x := by intro _; rfl) :
    PS X (.Assign [.Name y py] (.ListComp elt [⟨tg, iter, ifs, 0⟩] scope pos) spos) (tAsg (tLc wi g tt te (own.map (·.2))) (gName i)) := by
  intro pins s σ H D I h
  rw [exec_Assign_Name_used _ _ _ _ hsw]
  refine wpAny_bind (wpAny_standAt (wpAny_bind ?_))
  show wpAny _ X.A (do let _ ← comprehension (.ListComp elt [⟨tg, iter, ifs, 0⟩] scope pos) scope X.env (firstIterPos [⟨tg, iter, ifs, 0⟩] pos) (newList []) false (eval iter X.env) (some (assign (.Name y py) X.env))) _ _ s
  have h : tLc wi g tt te (own.map (·.2)) σ H (fun x H1 => gName i x σ H1 D.nx) := h
  refine wpAny_bind (thn (lc_core (Qf := fun _ s' => SP X pins D .next s') hc hN I hi ok hg ht he hs h fun L C s' m H' I' q hn f => ?_) fun _ s' hq => wpAny_pure (wpAny_pure hq))
  show wpAny _ _ (assign (.Name y py) X.env (.ref L)) _ _ _
  refine wpAny_assign_Name (store_ok2 (v := V.ref L) I' hN hy (.inl hyl) rfl (fun s2 I2 ⟨a, sb, ha⟩ => ?_) (.inr hyl))
  obtain ⟨f0, f1, f2, f3, f4, f5⟩ := f
  have haC : C ≠ a := by
    rcases ha with z | z
    · rw [z]; exact f1
    · exact fun e => f4 y a z e.symm
  refine ⟨m, hn.sameBut sb haC, fun h3 sb3 => ?_⟩
  exact ⟨_, H', I2.turned (t' := s2.toks) (fun b o hb e => (sb3.2 b hb).trans e) f0 f1 f3 f4 f5, q⟩
theorem sw_true {elt : Expr} {gs : List Comprehension} {scope : Scope} {pos py : Pos} {y : Str} {l : Nat} {env : Env} (hk : env.scope.kind = .function) (hy : env.scope.names.lookup y = some .local) (hl : (py.line == pos.line) = true)
    (ha : (scope.names.any fun (n, k) => n == y && (k == .local || k == .cell)) = false) : swapsWith (.ListComp elt gs scope pos) (some (.Name y py)) l env = pure true := by
  have ky : env.kindOf y = some .local := hy
  have hb : env.blockKind = .function := by unfold Env.blockKind; rw [hk]; rfl
  unfold swapsWith
  simp only [hb, ky, ha, Expr.pos, hl]
  rfl
end

/-! ### the forms one uses -/
/-- over a range: Pv by the turn and the heap (the new list at D within) -/
theorem lc_range {lo : Int} {n : Nat} {g : TG} {tt : TT} {te : TE} {vs : List Nat} {σ : St} {H1 : Hp} {D : Addr} {Qd : Hp → Prop} (Pv : Nat → Hp → Prop) (h0 : Pv 0 (upd H1 D (.lst [])))
    (hs : ∀ i H, i < n → Pv i H → g (.int (lo + i)) (wipe σ vs) H fun σ2 H2 => wipe σ2 vs = wipe σ vs ∧ tt σ2 H2 fun b H3 =>
      if b = true then te σ2 H3 fun y H4 => ∃ acc, H4 D = some (.lst acc) ∧ acc.length < sizeLine ∧ Pv (i + 1) (upd H4 D (.lst (acc ++ [y]))) else Pv (i + 1) H3) (hd : ∀ H, Pv n H → Qd H) :
    ∃ W : Nat → Nat → Hp → Prop, (∃ m, W 0 m (upd H1 D (.lst []))) ∧ ∀ i m H, W i m H →
      ((Itr lo n).stop i H ∧ Qd H) ∨ ((Itr lo n).go i H ∧ ∃ Nx : Hp → Prop, (∀ H', Nx H' → ∃ m', m' < m ∧ W (i + 1) m' H') ∧ ∀ x H', (Itr lo n).yld i H x H' → g x (wipe σ vs) H' fun σ2 H2 => wipe σ2 vs = wipe σ vs ∧ tt σ2 H2 fun b H3 =>
        if b = true then te σ2 H3 fun y H4 => ∃ acc, H4 D = some (.lst acc) ∧ acc.length < sizeLine ∧ Nx (upd H4 D (.lst (acc ++ [y]))) else Nx H3) := by
  refine ⟨fun i m H => m = n - i ∧ i ≤ n ∧ Pv i H, ⟨n, by simp, Nat.zero_le _, h0⟩, ?_⟩
  rintro i m H ⟨rfl, hi, p⟩
  by_cases hlt : i < n
  · refine .inr ⟨hlt, Pv (i + 1), fun H' p' => ⟨n - (i + 1), by omega, rfl, hlt, p'⟩, fun x H' y => ?_⟩
    obtain ⟨e, y⟩ := y
    subst e y
    exact hs i _ hlt p
  · have e : i = n := by omega
    subst e
    exact .inl ⟨Nat.le_refl _, hd H p⟩
/-- over a list that the block leaves as it is -/
theorem lc_list {K : PySem.W.Frag} {a : Addr} {xs : List V} {g : TG} {tt : TT} {te : TE} {vs : List Nat} {σ : St} {H1 : Hp} {D : Addr} {Qd : Hp → Prop} (Pv : Nat → Hp → Prop) (h0 : Pv 0 (upd H1 D (.lst []))) (hl : ∀ i H, i ≤ xs.length → Pv i H → SqL K H a xs)
    (hs : ∀ i x H, xs[i]? = some x → Pv i H → g x (wipe σ vs) H fun σ2 H2 => wipe σ2 vs = wipe σ vs ∧ tt σ2 H2 fun b H3 =>
      if b = true then te σ2 H3 fun y H4 => ∃ acc, H4 D = some (.lst acc) ∧ acc.length < sizeLine ∧ Pv (i + 1) (upd H4 D (.lst (acc ++ [y]))) else Pv (i + 1) H3) (hd : ∀ H, Pv xs.length H → Qd H) :
    ∃ W : Nat → Nat → Hp → Prop, (∃ m, W 0 m (upd H1 D (.lst []))) ∧ ∀ i m H, W i m H →
      ((Itl K a).stop i H ∧ Qd H) ∨ ((Itl K a).go i H ∧ ∃ Nx : Hp → Prop, (∀ H', Nx H' → ∃ m', m' < m ∧ W (i + 1) m' H') ∧ ∀ x H', (Itl K a).yld i H x H' → g x (wipe σ vs) H' fun σ2 H2 => wipe σ2 vs = wipe σ vs ∧ tt σ2 H2 fun b H3 =>
        if b = true then te σ2 H3 fun y H4 => ∃ acc, H4 D = some (.lst acc) ∧ acc.length < sizeLine ∧ Nx (upd H4 D (.lst (acc ++ [y]))) else Nx H3) := by
  refine ⟨fun i m H => m = xs.length - i ∧ i ≤ xs.length ∧ Pv i H, ⟨xs.length, by simp, Nat.zero_le _, h0⟩, ?_⟩
  rintro i m H ⟨rfl, hi, p⟩
  have q := hl i H hi p
  by_cases hlt : i < xs.length
  · refine .inr ⟨⟨xs, xs[i], q, by simp [hlt]⟩, Pv (i + 1), fun H' p' => ⟨xs.length - (i + 1), by omega, rfl, hlt, p'⟩, fun x H' y => ?_⟩
    obtain ⟨e, y⟩ := y
    subst e
    exact hs i x _ (y xs q) p
  · have e : i = xs.length := by omega
    subst e
    exact .inl ⟨⟨xs, q, Nat.le_refl _⟩, hd H p⟩
/-- over a tuple -/
theorem lc_tup {K : PySem.W.Frag} {a : Addr} {xs : List V} {g : TG} {tt : TT} {te : TE} {vs : List Nat} {σ : St} {H1 : Hp} {D : Addr} {Qd : Hp → Prop} (Pv : Nat → Hp → Prop) (h0 : Pv 0 (upd H1 D (.lst []))) (hl : ∀ i H, i ≤ xs.length → Pv i H → SqT K H a xs)
    (hs : ∀ i x H, xs[i]? = some x → Pv i H → g x (wipe σ vs) H fun σ2 H2 => wipe σ2 vs = wipe σ vs ∧ tt σ2 H2 fun b H3 =>
      if b = true then te σ2 H3 fun y H4 => ∃ acc, H4 D = some (.lst acc) ∧ acc.length < sizeLine ∧ Pv (i + 1) (upd H4 D (.lst (acc ++ [y]))) else Pv (i + 1) H3) (hd : ∀ H, Pv xs.length H → Qd H) :
    ∃ W : Nat → Nat → Hp → Prop, (∃ m, W 0 m (upd H1 D (.lst []))) ∧ ∀ i m H, W i m H →
      ((Itt K a).stop i H ∧ Qd H) ∨ ((Itt K a).go i H ∧ ∃ Nx : Hp → Prop, (∀ H', Nx H' → ∃ m', m' < m ∧ W (i + 1) m' H') ∧ ∀ x H', (Itt K a).yld i H x H' → g x (wipe σ vs) H' fun σ2 H2 => wipe σ2 vs = wipe σ vs ∧ tt σ2 H2 fun b H3 =>
        if b = true then te σ2 H3 fun y H4 => ∃ acc, H4 D = some (.lst acc) ∧ acc.length < sizeLine ∧ Nx (upd H4 D (.lst (acc ++ [y]))) else Nx H3) := by
  refine ⟨fun i m H => m = xs.length - i ∧ i ≤ xs.length ∧ Pv i H, ⟨xs.length, by simp, Nat.zero_le _, h0⟩, ?_⟩
  rintro i m H ⟨rfl, hi, p⟩
  have q := hl i H hi p
  by_cases hlt : i < xs.length
  · refine .inr ⟨⟨xs, xs[i], q, by simp [hlt]⟩, Pv (i + 1), fun H' p' => ⟨xs.length - (i + 1), by omega, rfl, hlt, p'⟩, fun x H' y => ?_⟩
    obtain ⟨e, y⟩ := y
    subst e
    exact hs i x _ (y xs q) p
  · have e : i = xs.length := by omega
    subst e
    exact .inl ⟨⟨xs, q, Nat.le_refl _⟩, hd H p⟩
def blkC (N : List Str) (sc scope : Scope) (own : List (Str × Nat)) : Bool :=
  (match scope.kind with | .function => true | _ => false) && (scope.names.all fun y => decide (scope.names.lookup y.1 = some y.2)) && (own.all fun p => decide (N[p.2]? = some p.1)) &&
    (scope.names.all fun y => match y.2 with
      | .free => (match sc.names.lookup y.1 with | some .cell => true | some .free => true | _ => false)
      | .local => decide (y.1 ∈ own.map (·.1)) || decide (y.1 ∉ N)
      | .cell => decide (y.1 ∈ own.map (·.1)) || decide (y.1 ∉ N)
      | _ => true)
theorem blkOk_by {N : List Str} {sc scope : Scope} {own : List (Str × Nat)} (h : blkC N sc scope own = true) : BlkOk N sc scope own := by
  unfold blkC at h
  simp only [Bool.and_eq_true, List.all_eq_true, decide_eq_true_eq] at h
  obtain ⟨⟨⟨h1, h2⟩, h3⟩, h4⟩ := h
  refine ⟨?_, h2, h3, fun y hy e => ?_, fun y hy e => ?_⟩
  · split at h1
    · assumption
    · cases h1
  · have q := h4 y hy
    simp only [e] at q
    split at q <;> first | exact .inl (by assumption) | exact .inr (by assumption) | cases q
  · have q := h4 y hy
    rcases e with e | e <;> (simp only [e, Bool.or_eq_true, decide_eq_true_eq] at q; exact q)
end L2


namespace L2
open PySem PySem.Spec PyProof.Rows

/-! ### lists of pairs as tables -/
section
variable {κ : Type} [DecidableEq κ]
def valV (kvs : List (κ × V)) (k : κ) : Option V := (kvs.find? fun kv => decide (kv.1 = k)).map (·.2)
/-- in its place, or at the end -/
def putK (kvs : List (κ × V)) (k : κ) (v : V) : List (κ × V) :=
  if (kvs.any fun kv => decide (kv.1 = k)) = true then kvs.map (fun kv => if kv.1 = k then (kv.1, v) else kv) else kvs ++ [(k, v)]
def dropK (kvs : List (κ × V)) (k : κ) : List (κ × V) := kvs.filter fun kv => decide (kv.1 ≠ k)

theorem valV_nil {k : κ} : valV ([] : List (κ × V)) k = none := rfl
theorem valV_pos {p : κ × V} {r : List (κ × V)} {k : κ} (e : p.1 = k) : valV (p :: r) k = some p.2 := by simp [valV, List.find?_cons, e]
theorem valV_neg {p : κ × V} {r : List (κ × V)} {k : κ} (e : ¬ p.1 = k) : valV (p :: r) k = valV r k := by simp [valV, List.find?_cons, e]
theorem valV_any (k : κ) : ∀ kvs : List (κ × V), (kvs.any fun kv => decide (kv.1 = k)) = (valV kvs k).isSome
  | [] => rfl
  | p :: r => by
    rw [List.any_cons]
    by_cases e : p.1 = k
    · simp only [valV_pos e, decide_eq_true e, Bool.true_or, Option.isSome_some]
    · rw [valV_neg e, decide_eq_false e, Bool.false_or]; exact valV_any k r
theorem valV_map (k j : κ) (y : V) : ∀ kvs : List (κ × V), valV (kvs.map fun kv => if kv.1 = k then (kv.1, y) else kv) j = (valV kvs j).map fun x => if j = k then y else x
  | [] => rfl
  | p :: r => by
    have ih := valV_map k j y r
    rw [List.map_cons]
    by_cases h : p.1 = k
    · rw [if_pos h]
      by_cases e : p.1 = j
      · rw [valV_pos (p := (p.1, y)) e, valV_pos e, Option.map_some, if_pos (e.symm.trans h)]
      · rw [valV_neg (p := (p.1, y)) e, valV_neg e, ih]
    · rw [if_neg h]
      by_cases e : p.1 = j
      · rw [valV_pos (p := p) e, valV_pos e, Option.map_some, if_neg (fun z => h (e.trans z))]
      · rw [valV_neg (p := p) e, valV_neg e, ih]
theorem valV_snoc (k j : κ) (y : V) : ∀ kvs : List (κ × V), valV kvs k = none → valV (kvs ++ [(k, y)]) j = if j = k then some y else valV kvs j
  | [], _ => by
    by_cases e : k = j
    · rw [if_pos e.symm]; exact valV_pos (p := (k, y)) e
    · rw [if_neg (fun z => e z.symm)]; exact valV_neg (p := (k, y)) e
  | p :: r, hn => by
    rw [List.cons_append]
    have hk : ¬ p.1 = k := fun z => by rw [valV_pos z] at hn; cases hn
    rw [valV_neg hk] at hn
    have ih := valV_snoc k j y r hn
    by_cases e : p.1 = j
    · rw [valV_pos e, valV_pos e, if_neg (fun z => hk (e.trans z))]
    · rw [valV_neg e, valV_neg e, ih]
theorem valV_put (kvs : List (κ × V)) (k j : κ) (y : V) : valV (putK kvs k y) j = if j = k then some y else valV kvs j := by
  unfold putK
  by_cases a : (kvs.any fun kv => decide (kv.1 = k)) = true
  · rw [if_pos a, valV_map]
    rw [valV_any] at a
    by_cases e : j = k
    · obtain ⟨x, hx⟩ := Option.isSome_iff_exists.mp a
      rw [if_pos e, e, hx, Option.map_some, if_pos rfl]
    · rw [if_neg e]
      cases valV kvs j with
      | none => rfl
      | some x => rw [Option.map_some, if_neg e]
  · rw [if_neg a]
    refine valV_snoc k j y kvs ?_
    rw [valV_any] at a
    cases q : valV kvs k with
    | none => rfl
    | some x => rw [q] at a; exact (a rfl).elim
theorem length_putK (kvs : List (κ × V)) (k : κ) (v : V) : (putK kvs k v).length ≤ kvs.length + 1 := by
  unfold putK
  split
  · rw [List.length_map]; omega
  · rw [List.length_append, List.length_cons, List.length_nil]; omega
theorem putK_new {kvs : List (κ × V)} {k : κ} (v : V) (h : valV kvs k = none) : putK kvs k v = kvs ++ [(k, v)] := by
  unfold putK
  rw [valV_any, h]
  exact if_neg (by decide)

theorem RelO.isSome_eq {o : Option V} {u : Option Value} (r : RelO o u) : o.isSome = u.isSome := by
  cases o with
  | none => cases u with
    | none => rfl
    | some _ => exact (show False from r).elim
  | some _ => cases u with
    | none => exact (show False from r).elim
    | some _ => rfl
theorem RelO.getD {o : Option V} {u : Option Value} {d : V} {d' : Value} (r : RelO o u) (rd : RelV d d') : RelV (o.getD d) (u.getD d') := by
  cases o with
  | none => cases u with
    | none => exact rd
    | some _ => exact (show False from r).elim
  | some _ => cases u with
    | none => exact (show False from r).elim
    | some _ => exact r

/-- raw tables of the same keys -/
theorem KV.val {kvs : List (κ × V)} {vs : List (κ × Value)} (r : KV kvs vs) (k : κ) : RelO (valV kvs k) (valueAt vs k) := by
  unfold KV at r
  induction r with
  | nil => exact True.intro
  | @cons p q ps qs h t ih =>
    obtain ⟨h1, h2⟩ := h
    by_cases e : p.1 = k
    · have e' : q.1 = k := h1.symm.trans e
      have b : valueAt (q :: qs) k = some q.2 := by simp [valueAt, List.find?_cons, e']
      rw [valV_pos e, b]; exact h2
    · have e' : ¬ q.1 = k := fun z => e (h1.trans z)
      have b : valueAt (q :: qs) k = valueAt qs k := by simp [valueAt, List.find?_cons, e']
      rw [valV_neg e, b]; exact ih
theorem KV.any {kvs : List (κ × V)} {vs : List (κ × Value)} (r : KV kvs vs) (k : κ) : (kvs.any fun kv => decide (kv.1 = k)) = vs.any fun kv => decide (kv.1 = k) := by
  unfold KV at r
  induction r with
  | nil => rfl
  | cons h t ih => rw [List.any_cons, List.any_cons, ih, h.1]
theorem KV.repl {kvs : List (κ × V)} {vs : List (κ × Value)} (r : KV kvs vs) (k : κ) {y : V} {u : Value} (ry : RelV y u) :
    KV (kvs.map fun kv => if kv.1 = k then (kv.1, y) else kv) (vs.map fun kv => if kv.1 = k then (kv.1, u) else kv) := by
  unfold KV at r ⊢
  induction r with
  | nil => exact .nil
  | @cons p q ps qs h t ih =>
    rw [List.map_cons, List.map_cons]
    refine .cons ?_ ih
    obtain ⟨h1, h2⟩ := h
    by_cases e : p.1 = k
    · rw [if_pos e, if_pos (h1.symm.trans e)]; exact ⟨h1, ry⟩
    · rw [if_neg e, if_neg (fun z => e (h1.trans z))]; exact ⟨h1, h2⟩
theorem KV.put {kvs : List (κ × V)} {vs : List (κ × Value)} (r : KV kvs vs) (k : κ) {y : V} {u : Value} (ry : RelV y u) : KV (putK kvs k y) (stored vs k u) := by
  unfold putK stored
  rw [r.any k]
  by_cases e : (vs.any fun kv => decide (kv.1 = k)) = true
  · rw [if_pos e, if_pos e]; exact r.repl k ry
  · rw [if_neg e, if_neg e]; exact Paired.snoc r ⟨rfl, ry⟩
theorem KV.drop {kvs : List (κ × V)} {vs : List (κ × Value)} (r : KV kvs vs) (k : κ) : KV (dropK kvs k) (without vs k) := by
  unfold KV at r ⊢
  unfold dropK without
  induction r with
  | nil => exact .nil
  | @cons p q ps qs h t ih =>
    obtain ⟨h1, h2⟩ := h
    rw [List.filter_cons, List.filter_cons]
    by_cases e : p.1 = k
    · have a : ¬ decide (p.1 ≠ k) = true := by simp [e]
      have b : ¬ decide (q.1 ≠ k) = true := by simp [h1.symm.trans e]
      rw [if_neg a, if_neg b]; exact ih
    · have e' : ¬ q.1 = k := fun z => e (h1.trans z)
      have a : decide (p.1 ≠ k) = true := by simp [e]
      have b : decide (q.1 ≠ k) = true := by simp [e']
      rw [if_pos a, if_pos b]; exact .cons ⟨h1, h2⟩ ih
theorem KV.keys {kvs : List (κ × V)} {vs : List (κ × Value)} (r : KV kvs vs) : kvs.map (·.1) = vs.map (·.1) := by
  unfold KV at r
  induction r with
  | nil => rfl
  | cons h t ih => rw [List.map_cons, List.map_cons, ih, h.1]
theorem KV.length {kvs : List (κ × V)} {vs : List (κ × Value)} (r : KV kvs vs) : kvs.length = vs.length := Paired.length r
theorem dropK_le (kvs : List (κ × V)) (k : κ) : (dropK kvs k).length ≤ kvs.length := List.length_filter_le _ _
end


/-! ### a tracked dict, its keys ints and texts or tuples of these -/
theorem kV_is {P : Program} {w : World} {k : Key} {u : Value} (r : RelV (kV k) u) : (mixKind P w).is k u = true := by
  cases k with
  | inl i => obtain ⟨t, e⟩ := (show ∃ t, u = Value.int i t from r); subst e; exact mixKind_int P w i t
  | inr x => obtain ⟨t, e⟩ := (show ∃ t, u = Value.str x t from r); subst e; exact mixKind_str P w x t
theorem kV_inj {a b : Key} (e : kV a = kV b) : a = b := by
  cases a with
  | inl i => cases b with
    | inl j => have e' : V.int i = V.int j := e; injection e' with e'; rw [e']
    | inr y => exact nomatch (show V.int i = V.str y from e)
  | inr x => cases b with
    | inl j => exact nomatch (show V.str x = V.int j from e)
    | inr y => have e' : V.str x = V.str y := e; injection e' with e'; rw [e']
theorem kVs_inj : ∀ {a b : List Key}, a.map kV = b.map kV → a = b
  | [], [], _ => rfl
  | [], _ :: _, e => by simp at e
  | _ :: _, [], e => by simp at e
  | x :: xs, y :: ys, e => by
    rw [List.map_cons, List.map_cons] at e
    injection e with e1 e2
    rw [kV_inj e1, kVs_inj e2]
theorem items_are {P : Program} {w : World} : ∀ {ks : List Key} {us : List Value}, Vals (ks.map kV) us → ItemsAre (mixKind P w) ks us
  | [], _, r => by rw [List.map_nil] at r; cases r; exact .nil
  | k :: ks, _, r => by
    rw [List.map_cons] at r
    cases r with
    | cons h t => exact .cons (kV_is h) (items_are t)

/-- raw entries of a dict with tuple keys -/
abbrev KT (H : Hp) : List (List Key × V) → List (List Key × Addr × Value) → Prop := Paired fun p q => p.1 = q.1 ∧ H q.2.1 = some (.tup (p.1.map kV)) ∧ RelV p.2 q.2.2
theorem KT.val {H : Hp} {kvs : List (List Key × V)} {xs : List (List Key × Addr × Value)} (r : KT H kvs xs) (k : List Key) : RelO (valV kvs k) ((atKey xs k).map (·.2)) := by
  induction r with
  | nil => exact True.intro
  | @cons p q ps qs h t ih =>
    obtain ⟨h1, _, h2⟩ := h
    by_cases e : p.1 = k
    · have e' : q.1 = k := h1.symm.trans e
      have b : atKey (q :: qs) k = some q.2 := by simp [atKey, List.find?_cons, e']
      rw [valV_pos e, b]; exact h2
    · have e' : ¬ q.1 = k := fun z => e (h1.trans z)
      have b : atKey (q :: qs) k = atKey qs k := by simp [atKey, List.find?_cons, e']
      rw [valV_neg e, b]; exact ih
theorem KT.repl {H : Hp} {kvs : List (List Key × V)} {xs : List (List Key × Addr × Value)} (r : KT H kvs xs) (k : List Key) {y : V} {u : Value} (ry : RelV y u) :
    KT H (kvs.map fun kv => if kv.1 = k then (kv.1, y) else kv) (xs.map (putAt k u)) := by
  induction r with
  | nil => exact .nil
  | @cons p q ps qs h t ih =>
    rw [List.map_cons, List.map_cons]
    refine .cons ?_ ih
    obtain ⟨h1, h2, h3⟩ := h
    unfold putAt
    by_cases e : p.1 = k
    · rw [if_pos e, if_pos (h1.symm.trans e)]; exact ⟨h1, h2, ry⟩
    · rw [if_neg e, if_neg (fun z => e (h1.trans z))]; exact ⟨h1, h2, h3⟩
theorem KT.put {H : Hp} {kvs : List (List Key × V)} {xs : List (List Key × Addr × Value)} (r : KT H kvs xs) (k : List Key) {b : Addr} {y : V} {u : Value} (hb : H b = some (.tup (k.map kV))) (ry : RelV y u) :
    KT H (putK kvs k y) (storedH xs k b u) := by
  have e : (kvs.any fun kv => decide (kv.1 = k)) = (atKey xs k).isSome := by
    rw [valV_any, (r.val k).isSome_eq, Option.isSome_map]
  unfold putK storedH
  rw [e]
  by_cases q : (atKey xs k).isSome = true
  · rw [if_pos q, if_pos q]; exact r.repl k ry
  · rw [if_neg q, if_neg q]; exact Paired.snoc r ⟨rfl, hb, ry⟩
theorem KT.keeps {H H' : Hp} {kvs : List (List Key × V)} {xs : List (List Key × Addr × Value)} (r : KT H kvs xs) (ht : ∀ b ys, H b = some (.tup ys) → H' b = some (.tup ys)) : KT H' kvs xs :=
  Paired.mapP r fun _ _ z => ⟨z.1, ht _ _ z.2.1, z.2.2⟩

section
variable {P : Program} {w : World} {H : Hp} {h : Heap} {a : Addr}
theorem rd_of {u : HO} (ok : HOk P w H h) (e : Rd H a u) : ObjOk P w H h a u := e.ok ok
theorem dk_rd {kvs : List (Key × V)} (ok : HOk P w H h) (e : Rd H a (.dK kvs)) : kvs.length ≤ sizeLine ∧ (a == sysModules) = false ∧ ∃ vs, KV kvs vs ∧ h.DictOf (mixKind P w) a vs :=
  show ObjOk P w H h a (.dK kvs) from rd_of ok e
theorem dk_of {kvs : List (Key × V)} (ok : HOk P w H h) (e : H a = some (.dK kvs)) : kvs.length ≤ sizeLine ∧ (a == sysModules) = false ∧ ∃ vs, KV kvs vs ∧ h.DictOf (mixKind P w) a vs := dk_rd ok (.inl e)
/-- a tracked tuple of ints and texts is a key -/
theorem key_of {ks : List Key} (ok : HOk P w H h) (e : H a = some (.tup (ks.map kV))) : (tupleKind (mixKind P w)).is h ks a := by
  obtain ⟨_, its, r, o, h1, h2, n, h3⟩ := (show ObjOk P w H h a (.tup (ks.map kV)) from ok a _ e)
  exact ⟨o, its.toArray, n, h1, h2, h3, by simpa using items_are r⟩
theorem dt_rd {kvs : List (List Key × V)} (ok : HOk P w H h) (e : Rd H a (.dT kvs)) : kvs.length ≤ sizeLine ∧ (a == sysModules) = false ∧
    ∃ xs, KT H kvs xs ∧ h.DictOfH (tupleKind (mixKind P w)) a xs := by
  obtain ⟨z, y, xs, r, o, es, ep, h1, h2, h3, h4, h5⟩ := (show ObjOk P w H h a (.dT kvs) from rd_of ok e)
  refine ⟨z, y, xs, r, o, es, ep, h1, h2, h3, h4, fun x hx => ?_, h5⟩
  have all : ∀ {l : List (List Key × V)} {m : List (List Key × Addr × Value)}, KT H l m → ∀ x ∈ m, (tupleKind (mixKind P w)).is h x.1 x.2.1 := by
    intro l m q
    induction q with
    | nil => intro x hx; exact nomatch hx
    | @cons p q ps qs hq t ih =>
      intro x hx
      rcases List.mem_cons.mp hx with e | hx
      · subst e
        exact key_of ok (by rw [← hq.1]; exact hq.2.1)
      · exact ih x hx
  exact all r x hx
theorem dt_of {kvs : List (List Key × V)} (ok : HOk P w H h) (e : H a = some (.dT kvs)) : kvs.length ≤ sizeLine ∧ (a == sysModules) = false ∧
    ∃ xs, KT H kvs xs ∧ h.DictOfH (tupleKind (mixKind P w)) a xs := dt_rd ok (.inl e)
end

/-- what the dict at a holds at the key y -/
def DGet (H : Hp) (a : Addr) (y : V) (r : Option V) : Prop :=
  (∃ kvs k, Rd H a (.dK kvs) ∧ y = kV k ∧ r = valV kvs k) ∨ ∃ kvs k b, Rd H a (.dT kvs) ∧ y = .ref b ∧ H b = some (.tup (k.map kV)) ∧ r = valV kvs k
/-- the heap behind a[y] = v -/
def DPut (H : Hp) (a : Addr) (y v : V) (H' : Hp) : Prop :=
  (∃ kvs k, H a = some (.dK kvs) ∧ y = kV k ∧ kvs.length < sizeLine ∧ H' = upd H a (.dK (putK kvs k v))) ∨
  ∃ kvs k b, H a = some (.dT kvs) ∧ y = .ref b ∧ H b = some (.tup (k.map kV)) ∧ kvs.length < sizeLine ∧ H' = upd H a (.dT (putK kvs k v))
theorem DGet.k {H : Hp} {a : Addr} {kvs : List (Key × V)} {k : Key} (e : H a = some (.dK kvs)) : DGet H a (kV k) (valV kvs k) := .inl ⟨kvs, k, .inl e, rfl, rfl⟩
theorem DGet.t {H : Hp} {a b : Addr} {kvs : List (List Key × V)} {k : List Key} (e : H a = some (.dT kvs)) (eb : H b = some (.tup (k.map kV))) : DGet H a (.ref b) (valV kvs k) := .inr ⟨kvs, k, b, .inl e, rfl, eb, rfl⟩
theorem DPut.k {H : Hp} {a : Addr} {kvs : List (Key × V)} {k : Key} {v : V} (e : H a = some (.dK kvs)) (hl : kvs.length < sizeLine) : DPut H a (kV k) v (upd H a (.dK (putK kvs k v))) := .inl ⟨kvs, k, e, rfl, hl, rfl⟩
theorem DPut.t {H : Hp} {a b : Addr} {kvs : List (List Key × V)} {k : List Key} {v : V} (e : H a = some (.dT kvs)) (eb : H b = some (.tup (k.map kV))) (hl : kvs.length < sizeLine) :
    DPut H a (.ref b) v (upd H a (.dT (putK kvs k v))) := .inr ⟨kvs, k, b, e, rfl, eb, hl, rfl⟩


section
variable {X : Cx} {pins : List (Addr × Obj)} {σ : St} {H : Hp} {s : Shared} {a : Addr} {y v : V} {u r : Value} {o : Option V} {A : Around} {E : Value → Shared → Prop}

theorem Inv.big (I : Inv X pins σ H s) : sysModules < s.heap.objs.size := by
  have h : mainGlobals < s.heap.objs.size := (I.mod.glob.keeps I.bk).lt
  exact Nat.lt_trans (by decide) h

/-- d[y], there -/
theorem d_getItem {Q : Value → Shared → Prop} (hu : A.units + 1 < cLine) (I : Inv X pins σ H s) (g : DGet H a y (some v)) (ry : RelV y u) (h : ∀ w' s', Inv X pins σ H s' → RelV v w' → Q w' s') :
    wpAny (model X.prog X.w) A (getItem (.ref a) u) Q E s := by
  rcases g with ⟨kvs, k, e, ey, l⟩ | ⟨kvs, k, b, e, ey, eb, l⟩
  · subst ey
    obtain ⟨z, hd, vs, rel, dd⟩ := dk_rd I.hok e
    obtain ⟨w', hw, rw'⟩ := RelO.some_of (v := v) (o := valueAt vs k) (by rw [l]; exact rel.val k)
    exact wpAny_getItem_of (kV_is ry) dd.mapOf hw (h w' _ (I.tok _) rw')
  · subst ey
    cases (show u = Value.ref b from ry)
    obtain ⟨z, hd, xs, rel, dd⟩ := dt_rd I.hok e
    obtain ⟨w', hw, rw'⟩ := RelO.some_of (v := v) (o := (atKey xs k).map (·.2)) (by rw [l]; exact rel.val k)
    obtain ⟨p, hp, hp2⟩ := Option.map_eq_some_iff.mp hw
    refine wpAny_getItem_heap (tupleKind_room_in1 hu) (key_of I.hok eb) dd hp ?_
    rw [hp2]
    exact h w' _ (I.tok _) rw'
/-- y in d -/
theorem d_in {Q : Value → Shared → Prop} (hu : A.units + 1 < cLine) (I : Inv X pins σ H s) (g : DGet H a y o) (ry : RelV y u) (h : ∀ s', Inv X pins σ H s' → Q (.bool o.isSome) s') :
    wpAny (model X.prog X.w) A (compareOp .In u (.ref a)) Q E s := by
  rcases g with ⟨kvs, k, e, ey, l⟩ | ⟨kvs, k, b, e, ey, eb, l⟩
  · subst ey
    obtain ⟨z, hd, vs, rel, dd⟩ := dk_rd I.hok e
    refine wpAny_in_of (kV_is ry) hd dd.mapOf ?_
    rw [← (rel.val k).isSome_eq, ← l]
    exact h _ (I.tok _)
  · subst ey
    cases (show u = Value.ref b from ry)
    obtain ⟨z, hd, xs, rel, dd⟩ := dt_rd I.hok e
    refine wpAny_in_heap (tupleKind_room_in1 hu) (key_of I.hok eb) hd dd ?_
    have q := (rel.val k).isSome_eq
    rw [Option.isSome_map] at q
    rw [← q, ← l]
    exact h _ (I.tok _)
theorem d_notIn {Q : Value → Shared → Prop} (hu : A.units + 1 < cLine) (I : Inv X pins σ H s) (g : DGet H a y o) (ry : RelV y u) (h : ∀ s', Inv X pins σ H s' → Q (.bool (!o.isSome)) s') :
    wpAny (model X.prog X.w) A (compareOp .NotIn u (.ref a)) Q E s := by
  rcases g with ⟨kvs, k, e, ey, l⟩ | ⟨kvs, k, b, e, ey, eb, l⟩
  · subst ey
    obtain ⟨z, hd, vs, rel, dd⟩ := dk_rd I.hok e
    refine wpAny_notIn_of (kV_is ry) hd dd.mapOf ?_
    rw [← (rel.val k).isSome_eq, ← l]
    exact h _ (I.tok _)
  · subst ey
    cases (show u = Value.ref b from ry)
    obtain ⟨z, hd, xs, rel, dd⟩ := dt_rd I.hok e
    refine wpAny_notIn_heap (tupleKind_room_in1 hu) (key_of I.hok eb) hd dd ?_
    have q := (rel.val k).isSome_eq
    rw [Option.isSome_map] at q
    rw [← q, ← l]
    exact h _ (I.tok _)
/-- a dict's object is replaced -/
theorem d_write {h' : Heap} {t' : Nat} {ob : HO} (I : Inv X pins σ H s) (mu : Mut (H a)) (hs : Heap.SameBut a s.heap h') (he : ∃ q, h'.get? a = some q) (new : ObjOk X.prog X.w (upd H a ob) h' a ob) :
    Inv X pins σ (upd H a ob) { s with heap := h', toks := t' } :=
  I.write (x := a) (e := a) mu (.inl rfl) (fun b q hb z => (hs.2 b hb).trans z) he new
theorem dk_new {P : Program} {w : World} {H' : Hp} {h' : Heap} {kvs : List (Key × V)} {vs : List (Key × Value)} (z : kvs.length ≤ sizeLine) (hd : (a == sysModules) = false) (rel : KV kvs vs) (dd : h'.DictOf (mixKind P w) a vs) :
    ObjOk P w H' h' a (.dK kvs) := ⟨z, hd, vs, rel, dd⟩
/-- d[y] = v -/
theorem d_setItem {H' : Hp} {Q : Unit → Shared → Prop} (hu : A.units + 1 < cLine) (I : Inv X pins σ H s) (g : DPut H a y v H') (ry : RelV y u) (rv : RelV v r) (h : ∀ s', Inv X pins σ H' s' → Q () s') :
    wpAny (model X.prog X.w) A (setItem (.ref a) u r) Q E s := by
  rcases g with ⟨kvs, k, e, ey, l, eH⟩ | ⟨kvs, k, b, e, ey, eb, l, eH⟩
  · subst ey eH
    obtain ⟨z, hd, vs, rel, dd⟩ := dk_of I.hok e
    have hz : vs.length ≤ sizeLine := by rw [← rel.length]; exact z
    have hl : (putK kvs k v).length ≤ sizeLine := by have := length_putK kvs k v; omega
    refine wpAny_setItem_pairs (hsz := hz) (kV_is ry) dd fun h' dd' hs => h _ ?_
    have he : ∃ q, h'.get? a = some q := let ⟨q, _, _, hq, _⟩ := dd'; ⟨q, hq⟩
    exact d_write I (by rw [e]; exact True.intro) hs he (dk_new hl hd (rel.put k rv) dd')
  · subst ey eH
    cases (show u = Value.ref b from ry)
    obtain ⟨z, hd, xs, rel, dd⟩ := dt_of I.hok e
    have hz : xs.length ≤ sizeLine := by rw [← Paired.length rel]; exact z
    have hl : (putK kvs k v).length ≤ sizeLine := by have := length_putK kvs k v; omega
    refine wpAny_setItem_heap (hsz := hz) (tupleKind_room_in1 hu) (key_of I.hok eb) dd fun h' dd' hs => h _ ?_
    obtain ⟨q, es, ep, hq, h2, h3, h4, _, h5⟩ := dd'
    refine d_write I (by rw [e]; exact True.intro) hs ⟨q, hq⟩ ⟨hl, hd, _, (rel.put k eb rv).keeps fun c ys ec => ?_, q, es, ep, hq, h2, h3, h4, h5⟩
    rw [upd_ne (ne_of ec e (fun z => nomatch z))]
    exact ec
end

section
variable {X : Cx} {pins : List (Addr × Obj)} {σ : St} {H : Hp} {s : Shared} {a : Addr} {kvs : List (Key × V)} {k : Key} {u : Value} {A : Around} {E : Value → Shared → Prop}
/-- del d[k] -/
theorem d_delItem {Q : Unit → Shared → Prop} (I : Inv X pins σ H s) (e : H a = some (.dK kvs)) (ry : RelV (kV k) u) (l : (valV kvs k).isSome = true) (h : ∀ s', Inv X pins σ (upd H a (.dK (dropK kvs k))) s' → Q () s') :
    wpAny (model X.prog X.w) A (delItem (.ref a) u) Q E s := by
  obtain ⟨z, hd, vs, rel, dd⟩ := dk_of I.hok e
  refine wpAny_delItem_slot dd.typeIs (by decide) PySem.F.slot_dict_delitem
    (call_meetsIn PySem.F.slot_dict_delitem dd.typeIs PySem.F.entry_dict_delitem (PySem.F.args_dict_delitem_2 _ _) (meets_dict_delitem_pairs (mixKind X.prog X.w) a (kV_is ry)) ⟨vs, dd, by rw [← rel.length]; exact z, by rw [← (rel.val k).isSome_eq]; exact l, fun h' dd' hs => h _ ?_⟩)
  have he : ∃ q, h'.get? a = some q := let ⟨q, _, _, hq, _⟩ := dd'; ⟨q, hq⟩
  exact d_write I (by rw [e]; exact True.intro) hs he (dk_new (Nat.le_trans (dropK_le kvs k) z) hd (rel.drop k) dd')
/-- d.pop(k[, x]), there -/
theorem d_pop {v : V} {more : List Value} {Q : Value → Shared → Prop} (I : Inv X pins σ H s) (e : H a = some (.dK kvs)) (ry : RelV (kV k) u) (l : valV kvs k = some v) (hm : more = [] ∨ ∃ x, more = [x])
    (h : ∀ w' s', Inv X pins σ (upd H a (.dK (dropK kvs k))) s' → RelV v w' → Q w' s') : wpAny (model X.prog X.w) A (call (.builtin "dict.pop") (.ref a :: u :: more)) Q E s := by
  obtain ⟨z, hd, vs, rel, dd⟩ := dk_of I.hok e
  obtain ⟨w', hw, rw'⟩ := RelO.some_of (v := v) (o := valueAt vs k) (by rw [← l]; exact rel.val k)
  have hp : (keyPart u).isSome = true := by
    cases k with
    | inl i => obtain ⟨t, q⟩ := (show ∃ t, u = Value.int i t from ry); subst q; rfl
    | inr x => obtain ⟨t, q⟩ := (show ∃ t, u = Value.str x t from ry); subst q; rfl
  have ha : argsOk "dict.pop" ⟨.ref a :: u :: more, []⟩ := by
    rcases hm with q | ⟨x, q⟩
    · subst q; exact PySem.F.args_dict_pop_2 _ _
    · subst q; exact PySem.F.args_dict_pop_3 _ _ _
  refine call_meetsIn PySem.F.slot_dict_pop dd.typeIs PySem.F.entry_dict_pop ha (meets_dict_pop_there (mixKind X.prog X.w) a (kV_is ry) more hm hp)
    ⟨vs, w', dd, by rw [← rel.length]; exact z, hw, fun h' dd' hs => h w' _ ?_ rw'⟩
  have he : ∃ q, h'.get? a = some q := let ⟨q, _, _, hq, _⟩ := dd'; ⟨q, hq⟩
  exact d_write I (by rw [e]; exact True.intro) hs he (dk_new (Nat.le_trans (dropK_le kvs k) z) hd (rel.drop k) dd')
/-- d.pop(k, x), not there -/
theorem d_popD {r : Value} {Q : Value → Shared → Prop} (I : Inv X pins σ H s) (e : H a = some (.dK kvs)) (ry : RelV (kV k) u) (l : valV kvs k = none) (h : ∀ s', Inv X pins σ H s' → Q r s') :
    wpAny (model X.prog X.w) A (call (.builtin "dict.pop") [.ref a, u, r]) Q E s := by
  obtain ⟨z, hd, vs, rel, dd⟩ := dk_of I.hok e
  have hn : valueAt vs k = none := RelO.none_of (by rw [← l]; exact rel.val k)
  have hp : (keyPart u).isSome = true := by
    cases k with
    | inl i => obtain ⟨t, q⟩ := (show ∃ t, u = Value.int i t from ry); subst q; rfl
    | inr x => obtain ⟨t, q⟩ := (show ∃ t, u = Value.str x t from ry); subst q; rfl
  exact call_meetsIn PySem.F.slot_dict_pop dd.typeIs PySem.F.entry_dict_pop (PySem.F.args_dict_pop_3 _ _ _) (meets_dict_pop_default (mixKind X.prog X.w) a (kV_is ry) hd hp r) ⟨vs, dd, hn, h _ (I.tok _)⟩
/-- d.clear() -/
theorem d_clear {Q : Value → Shared → Prop} (I : Inv X pins σ H s) (e : H a = some (.dK kvs)) (h : ∀ s', Inv X pins σ (upd H a (.dK [])) s' → Q .none s') : wpAny (model X.prog X.w) A (call (.builtin "dict.clear") [.ref a]) Q E s := by
  obtain ⟨z, hd, vs, rel, dd⟩ := dk_of I.hok e
  refine call_meetsIn PySem.F.slot_dict_clear dd.typeIs PySem.F.entry_dict_clear (PySem.F.args_dict_clear_1 _) (meets_dict_clear (mixKind X.prog X.w) a) ⟨vs, dd, by rw [← rel.length]; exact z, fun h' dd' hs => h _ ?_⟩
  have he : ∃ q, h'.get? a = some q := let ⟨q, _, _, hq, _⟩ := dd'; ⟨q, hq⟩
  exact d_write (t' := s.toks) I (by rw [e]; exact True.intro) hs he (dk_new (Nat.zero_le _) hd .nil dd')
/-- len(d) -/
theorem d_len {Q : Value → Shared → Prop} (I : Inv X pins σ H s) (e : Rd H a (.dK kvs)) (h : ∀ t s', Inv X pins σ H s' → Q (.int kvs.length t) s') : wpAny (model X.prog X.w) A (call (.builtin "len") [.ref a]) Q E s := by
  obtain ⟨z, hd, vs, rel, dd⟩ := dk_rd I.hok e
  refine call_len_dict hd dd (by rw [← rel.length]; rw [sizeLine_eq] at z; omega) ?_
  rw [← rel.length]
  exact h _ _ (I.tok _)
/-- if d -/
theorem d_truth {Q : Bool → Shared → Prop} (I : Inv X pins σ H s) (e : Rd H a (.dK kvs)) (h : ∀ s', Inv X pins σ H s' → Q (!kvs.isEmpty) s') : wpAny (model X.prog X.w) A (truthy (.ref a)) Q E s := by
  obtain ⟨z, hd, vs, rel, dd⟩ := dk_rd I.hok e
  refine wpAny_truthy_dict hd dd (by rw [← rel.length]; rw [sizeLine_eq] at z; omega) ?_
  have q : kvs.isEmpty = vs.isEmpty := by cases rel <;> rfl
  rw [← q]
  exact h _ (I.tok _)
end


/-! ### readings and rules -/
/-- the element of a subscription, not a slice -/
def NoSl (i : Expr) : Prop := ∀ ov iv, subscripted i false ov iv = operate [ov, iv] (getItem ov iv)
theorem subD_of {prog : Program} {w : World} {A : Around} {E : Value → Shared → Prop} {s : Shared} {env : Env} {value slice : Expr} {pos : Pos} {T id : String} {Q : Value → Shared → Prop}
    (hl : typeLookup (.type T) "__getitem__" = pure (some (.builtin id))) (hs : NoSl slice)
    (h : wpAny (model prog w) A (eval value env) (fun o s₁ => wpAny (model prog w) A (eval slice env) (fun i s₂ => s₂.TypeIs o T ∧ wpAny (model prog w) A (getItem o i) Q E s₂) E s₁) E s) :
    wpAny (model prog w) A (eval (.Subscript value slice pos) env) Q E s := by
  refine Subscript_ (wpAny_mono h (fun o s₁ h₁ => wpAny_mono h₁ (fun i s₂ h₂ => ?_) fun _ _ x => x) fun _ _ x => x)
  obtain ⟨hT, h₂⟩ := h₂
  unfold subscriptTail
  refine wpAny_bind ?_
  rw [getitemInPython_of_ne hT.not_modules]
  refine wpAny_bind (wpAny_specialOf hT hl ?_)
  have fin : wpAny (model prog w) A (subscripted slice false o i) (fun r s₃ => wpAny (model prog w) A (letTemporaryGo value o r >>= fun _ => pure r) Q E s₃) E s₂ := by
    rw [hs o i]
    exact wpAny_operating (wpAny_mono h₂ (fun r s₃ h₃ => wpAny_bind (wpAny_letTemporaryGo (wpAny_pure h₃))) fun _ _ x => x)
  first
    | exact wpAny_pure (wpAny_bind fin)
    | exact wpAny_bind (wpAny_pure (wpAny_bind fin))
    | exact wpAny_bind fin

theorem dict_typeIs {X : Cx} {pins : List (Addr × Obj)} {σ : St} {H : Hp} {s : Shared} {a : Addr} {y : V} {o : Option V} (I : Inv X pins σ H s) (g : DGet H a y o) : s.TypeIs (.ref a) "dict" := by
  rcases g with ⟨kvs, k, e, _, _⟩ | ⟨kvs, k, b, e, _, _, _⟩
  · obtain ⟨_, _, vs, _, dd⟩ := dk_rd I.hok e
    exact dd.typeIs
  · obtain ⟨_, _, xs, _, dd⟩ := dt_rd I.hok e
    exact dd.typeIs
theorem dict_noDict {X : Cx} {pins : List (Addr × Obj)} {σ : St} {H : Hp} {s : Shared} {a : Addr} {y : V} {o : Option V} (I : Inv X pins σ H s) (g : DGet H a y o) :
    ∀ b, Value.ref a = .ref b → ∃ ob, s.heap.get? b = some ob ∧ ob.dict = none := fun b q => by
  cases q
  rcases g with ⟨kvs, k, e, _, _⟩ | ⟨kvs, k, b, e, _, _, _⟩
  · obtain ⟨_, _, vs, _, ob, _, _, h1, h2, _⟩ := dk_rd I.hok e
    exact ⟨ob, h1, h2.2.1⟩
  · obtain ⟨_, _, xs, _, ob, _, _, h1, h2, _⟩ := dt_rd I.hok e
    exact ⟨ob, h1, h2.2.1⟩

/-- d[y] -/
def tDGet (td ty : TE) : TE := fun σ H Q => td σ H fun x H1 => ty σ H1 fun y H2 => ∃ a v, x = .ref a ∧ DGet H2 a y (some v) ∧ Q v H2
/-- y in d, y not in d -/
def tDIn (ty td : TE) : TE := fun σ H Q => ty σ H fun y H1 => td σ H1 fun x H2 => ∃ a o, x = .ref a ∧ DGet H2 a y o ∧ Q (.bl o.isSome) H2
def tDNotIn (ty td : TE) : TE := fun σ H Q => ty σ H fun y H1 => td σ H1 fun x H2 => ∃ a o, x = .ref a ∧ DGet H2 a y o ∧ Q (.bl (!o.isSome)) H2
/-- d[y] = v -/
def sDPut (td ty tv : TE) : TS := fun D σ H => tv σ H fun v H1 => td σ H1 fun x H2 => ty σ H2 fun y H3 => ∃ a H4, x = .ref a ∧ DPut H3 a y v H4 ∧ D.nx σ H4
/-- d[y] op= v -/
def sDAug (td ty tv : TE) (rd : V → V → Hp → VK → Prop) : TS := fun D σ H => td σ H fun x H1 => ty σ H1 fun y H2 => ∃ a v, x = .ref a ∧ DGet H2 a y (some v) ∧
  tv σ H2 fun y2 H3 => rd v y2 H3 fun z H4 => ∃ H5, DPut H4 a y z H5 ∧ D.nx σ H5
/-- del d[y] -/
def sDDel (td ty : TE) : TS := fun D σ H => td σ H fun x H1 => ty σ H1 fun y H2 => ∃ a kvs k, x = .ref a ∧ H2 a = some (.dK kvs) ∧ y = kV k ∧ (valV kvs k).isSome = true ∧ D.nx σ (upd H2 a (.dK (dropK kvs k)))

section
variable {X : Cx} {o i e value : Expr} {pos pos' tpos : Pos} {td ty tv : TE}
theorem pe_dget (hu : X.A.units + 1 < cLine) (ho : PE X o td) (hi : PE X i ty) (hs : NoSl i) : PE X (.Subscript o i pos) (tDGet td ty) := by
  intro pins s σ H Q I h
  refine subD_of PySem.F.slot_dict_getitem.lookup hs (thn (ho pins s σ H _ I h) fun u s1 ⟨x, H1, I1, rx, q1⟩ => thn (hi pins s1 σ H1 _ I1 q1) fun iv s2 ⟨y, H2, I2, ry, a, v, ex, g, q2⟩ => ?_)
  subst ex
  obtain rfl : u = Value.ref a := rx
  exact ⟨dict_typeIs I2 g, d_getItem hu I2 g ry fun w' s3 I3 rw' => ⟨v, H2, I3, rw', q2⟩⟩
theorem pc_din (hu : X.A.units + 1 < cLine) (hi : PE X i ty) (ho : PE X o td) : PC X .In i o (tDIn ty td) := by
  intro pins s σ H Q I h
  refine thn (hi pins s σ H _ I h) fun iv s1 ⟨y, H1, I1, ry, q1⟩ => thn (ho pins s1 σ H1 _ I1 q1) fun u s2 ⟨x, H2, I2, rx, a, ov, ex, g, q2⟩ => ?_
  subst ex
  obtain rfl : u = Value.ref a := rx
  exact d_in hu I2 g ry fun s3 I3 => ⟨.bl ov.isSome, H2, I3, rfl, q2⟩
theorem pc_dnotin (hu : X.A.units + 1 < cLine) (hi : PE X i ty) (ho : PE X o td) : PC X .NotIn i o (tDNotIn ty td) := by
  intro pins s σ H Q I h
  refine thn (hi pins s σ H _ I h) fun iv s1 ⟨y, H1, I1, ry, q1⟩ => thn (ho pins s1 σ H1 _ I1 q1) fun u s2 ⟨x, H2, I2, rx, a, ov, ex, g, q2⟩ => ?_
  subst ex
  obtain rfl : u = Value.ref a := rx
  exact d_notIn hu I2 g ry fun s3 I3 => ⟨.bl (!ov.isSome), H2, I3, rfl, q2⟩
theorem ps_dput (hu : X.A.units + 1 < cLine) (ho : PE X o td) (hi : PE X i ty) (hv : PE X value tv) (hs : swapsWith value (some (.Subscript o i pos')) pos.line X.env = pure false) :
    PS X (.Assign [.Subscript o i pos'] value pos) (sDPut td ty tv) := by
  intro pins s σ H D I h
  refine wpAny_Assign_Subscript (thn (hv pins s σ H _ I h) fun r s1 ⟨v, H1, I1, rv, q1⟩ => thn (ho pins s1 σ H1 _ I1 q1) fun u s2 ⟨x, H2, I2, rx, q2⟩ => thn (hi pins s2 σ H2 _ I2 q2) fun iv s3 ⟨y, H3, I3, ry, a, H4, ex, g, q3⟩ => ?_) hs
  subst ex
  obtain rfl : u = Value.ref a := rx
  exact d_setItem hu I3 g ry rv fun s4 I4 => ⟨σ, H4, I4, q3⟩
theorem ps_daug {op : Operator} {rd : V → V → Hp → VK → Prop} (hu : X.A.units + 1 < cLine) (ho : PE X o td) (hi : PE X i ty) (hv : PE X value tv) (hop : InOp X op rd)
    (ha : ∀ ov iv new, augStore i ov iv new = (do holding [new, ov, iv] (setItem ov iv new); release [new, ov, iv] []; pure .next)) : PS X (.AugAssign (.Subscript o i tpos) op value pos) (sDAug td ty tv rd) := by
  intro pins s σ H D I h
  refine wpAny_AugAssign_SubscriptAny (thn (ho pins s σ H _ I h) fun u s1 ⟨x, H1, I1, rx, q1⟩ => thn (hi pins s1 σ H1 _ I1 q1) fun iv s2 ⟨y, H2, I2, ry, a, v, ex, g, q2⟩ => ?_) ha
  subst ex
  obtain rfl : u = Value.ref a := rx
  refine d_getItem hu I2 g ry fun w' s3 I3 rw' => thn (hv pins s3 σ H2 _ I3 q2) fun w2 s4 ⟨y2, H3, I4, ry2, q3⟩ => thn (hop pins s4 σ H3 v y2 w' w2 _ I4 rw' ry2 q3) fun w3 s5 ⟨z, H4, I5, rz, H5, g5, q4⟩ => ?_
  exact d_setItem hu I5 g5 ry rz fun s6 I6 => ⟨σ, H5, I6, q4⟩
theorem ps_ddel (ho : PE X o td) (hi : PE X i ty) : PS X (.Delete [.Subscript o i tpos] pos) (sDDel td ty) := by
  intro pins s σ H D I h
  refine wpAny_Delete (wpAny_deleteEach_cons (wpAny_delete_Subscript (thn (ho pins s σ H _ I h) fun u s1 ⟨x, H1, I1, rx, q1⟩ => thn (hi pins s1 σ H1 _ I1 q1) fun iv s2 ⟨y, H2, I2, ry, a, kvs, k, ex, e, ey, l, q2⟩ => ?_)))
  subst ex ey
  obtain rfl : u = Value.ref a := rx
  exact d_delItem I2 e ry l fun s3 I3 => wpAny_deleteEach_nil ⟨σ, _, I3, q2⟩
end


/-! ### displays -/
theorem dk_empty {P : Program} {w : World} {H : Hp} (h : Heap) (hb : sysModules < h.objs.size) : ObjOk P w H (h.push { cls := .type "dict", data := .dict #[] }) h.objs.size (.dK []) :=
  ⟨Nat.zero_le _, beq_eq_false_iff_ne.mpr (Ne.symm (Nat.ne_of_lt hb)), [], .nil, Heap.DictOf.new h⟩
theorem dt_empty {P : Program} {w : World} {H : Hp} (h : Heap) (hb : sysModules < h.objs.size) : ObjOk P w H (h.push { cls := .type "dict", data := .dict #[] }) h.objs.size (.dT []) :=
  ⟨Nat.zero_le _, beq_eq_false_iff_ne.mpr (Ne.symm (Nat.ne_of_lt hb)), [], .nil, _, #[], 0, Heap.get?_push_size _ rfl, ⟨rfl, rfl, rfl⟩, rfl, rfl, List.nodup_nil⟩
/-- {}, to be a dict of the kind that is wanted -/
def tDNewK : TE := fun _ H Q => ∀ p, H p = none → Q (.ref p) (upd H p (.dK []))
def tDNewT : TE := fun _ H Q => ∀ p, H p = none → Q (.ref p) (upd H p (.dT []))
section
variable {X : Cx} {pos : Pos}
theorem pe_dnewK : PE X (.Dict [] [] pos) tDNewK := fun pins s σ H Q I h =>
  wpAny_Dict_empty ⟨.ref s.heap.objs.size, _, I.laid (a := s.heap.objs.size) (o := .dK []) (t' := s.toks) (fun _ _ q => Heap.get?_push_of_some _ q) (Nat.le_refl _) (dk_empty s.heap I.big), rfl, h _ (I.hok.fresh (Nat.le_refl _))⟩
theorem pe_dnewT : PE X (.Dict [] [] pos) tDNewT := fun pins s σ H Q I h =>
  wpAny_Dict_empty ⟨.ref s.heap.objs.size, _, I.laid (a := s.heap.objs.size) (o := .dT []) (t' := s.toks) (fun _ _ q => Heap.get?_push_of_some _ q) (Nat.le_refl _) (dt_empty s.heap I.big), rfl, h _ (I.hok.fresh (Nat.le_refl _))⟩
end

/-- the pairs of a display, from the left -/
def tPairs : List (TE × TE) → St → Hp → (List (V × V) → Hp → Prop) → Prop
  | [], _, H, Q => Q [] H
  | (tk, tv) :: r, σ, H, Q => tk σ H fun x H1 => tv σ H1 fun y H2 => tPairs r σ H2 fun ps H3 => Q ((x, y) :: ps) H3
abbrev VV : List (V × V) → List (Value × Value) → Prop := Paired fun p q => RelV p.1 q.1 ∧ RelV p.2 q.2
def PPs (X : Cx) (pos : Pos) (keys : List (Option Expr)) (values : List Expr) (trs : List (TE × TE)) : Prop :=
  ∀ (pins : List (Addr × Obj)) (s : Shared) (σ : St) (H : Hp) (Q : List (V × V) → Hp → Prop), Inv X pins σ H s → tPairs trs σ H Q →
    wpAny (model X.prog X.w) X.A (evalPairs (pairTrees keys values X.env pos)) (fun vs s' => ∃ ps H', Inv X pins σ H' s' ∧ VV ps vs ∧ Q ps H') X.xe s
theorem pps_nil {X : Cx} {pos : Pos} : PPs X pos [] [] [] := fun pins s σ H Q I h => pairTrees_nil_walk ⟨[], H, I, .nil, h⟩
theorem pps_cons {X : Cx} {pos : Pos} {k v : Expr} {ks : List (Option Expr)} {vs : List Expr} {tk tv : TE} {trs : List (TE × TE)} (hk : PE X k tk) (hv : PE X v tv) (hr : PPs X pos ks vs trs) :
    PPs X pos (some k :: ks) (v :: vs) ((tk, tv) :: trs) := fun pins s σ H Q I h =>
  pairTrees_cons_walk (thn (hk pins s σ H _ I h) fun u s1 ⟨x, H1, I1, rx, q1⟩ => thn (hv pins s1 σ H1 _ I1 q1) fun w2 s2 ⟨y, H2, I2, ry, q2⟩ =>
    thn (hr pins s2 σ H2 _ I2 q2) fun ws s3 ⟨ps, H3, I3, rel, q3⟩ => ⟨(x, y) :: ps, H3, I3, .cons ⟨rx, ry⟩ rel, q3⟩)

def mergeK (kvs more : List (Key × V)) : List (Key × V) := more.foldl (fun acc kv => putK acc kv.1 kv.2) kvs
theorem KV.merge : ∀ {more : List (Key × V)} {rs : List (Key × Value)} {kvs : List (Key × V)} {vs : List (Key × Value)}, KV more rs → KV kvs vs → KV (mergeK kvs more) (merged vs rs) := by
  intro more rs kvs vs r
  unfold KV at r
  induction r generalizing kvs vs with
  | nil => intro q; exact q
  | @cons p q ps qs h t ih =>
    intro r0
    have e : KV (putK kvs p.1 p.2) (stored vs q.1 q.2) := by
      have := r0.put p.1 h.2
      rw [← h.1]; exact this
    exact ih e
theorem length_mergeK : ∀ (more kvs : List (Key × V)), (mergeK kvs more).length ≤ kvs.length + more.length
  | [], kvs => by show kvs.length ≤ kvs.length + 0; omega
  | p :: r, kvs => by
    have h1 := length_mergeK r (putK kvs p.1 p.2)
    have h2 := length_putK kvs p.1 p.2
    show (mergeK (putK kvs p.1 p.2) r).length ≤ _
    rw [List.length_cons]; omega
theorem carries_of {P : Program} {w : World} : ∀ {kvs : List (Key × V)} {ws : List (Value × Value)}, VV (kvs.map fun kv => (kV kv.1, kv.2)) ws → ∃ rs, Carries (mixKind P w) ws rs ∧ KV kvs rs
  | [], _, r => by rw [List.map_nil] at r; cases r; exact ⟨[], True.intro, .nil⟩
  | p :: kvs, _, r => by
    rw [List.map_cons] at r
    cases r with
    | @cons a b as bs h t =>
      obtain ⟨rs, c, q⟩ := carries_of (P := P) (w := w) t
      obtain ⟨b1, b2⟩ := b
      exact ⟨(p.1, b2) :: rs, ⟨kV_is h.1, rfl, c⟩, .cons ⟨rfl, h.2⟩ q⟩
/-- {k: v, ..} with keys ints and texts; the new dict stands empty while the pairs are made -/
def tDisp (trs : List (TE × TE)) : TE := fun σ H Q => ∀ p, H p = none → tPairs trs σ (upd H p (.dK [])) fun ps H2 => H2 p = some (.dK []) ∧ ∃ kvs : List (Key × V), ps = kvs.map (fun kv => (kV kv.1, kv.2)) ∧ kvs.length ≤ 15 ∧ Q (.ref p) (upd H2 p (.dK (mergeK [] kvs)))
theorem pe_disp {X : Cx} {pos : Pos} {keys : List (Option Expr)} {values : List Expr} {trs : List (TE × TE)} (h : PPs X pos keys values trs) (hall : keys.all (·.isSome) = true) (hl : keys.length = values.length) (h0 : keys ≠ [])
    (h15 : keys.length ≤ 15) : PE X (.Dict keys values pos) (tDisp trs) := by
  intro pins s σ H Q I q
  have hn := I.hok.fresh (Nat.le_refl s.heap.objs.size)
  have I1 := I.laid (a := s.heap.objs.size) (o := .dK []) (h' := s.heap.push { cls := .type "dict", data := .dict #[] }) (t' := s.toks) (fun _ _ q => Heap.get?_push_of_some _ q) (Nat.le_refl _) (dk_empty s.heap I.big)
  refine wpAny_Dict_walk (knd := mixKind X.prog X.w) hall hl h0 h15 (thn (h pins _ σ _ _ I1 (q _ hn)) fun ws s2 ⟨ps, H2, I2, rel, e, kvs, ep, lk, q2⟩ => ?_)
  subst ep
  obtain ⟨rs, c, rk⟩ := carries_of (P := X.prog) (w := X.w) rel
  obtain ⟨z, hd, vs0, r0, dd⟩ := dk_of I2.hok e
  cases r0
  refine ⟨rs, c, dd, fun h' dd' hs => ⟨.ref s.heap.objs.size, _, ?_, rfl, q2⟩⟩
  have hz : (mergeK [] kvs).length ≤ sizeLine := by
    have h1 := length_mergeK kvs []
    rw [List.length_nil] at h1
    rw [sizeLine_eq]; omega
  have he : ∃ q, h'.get? s.heap.objs.size = some q := let ⟨q, _, _, hq, _⟩ := dd'; ⟨q, hq⟩
  exact d_write I2 (by rw [e]; exact True.intro) hs he (dk_new hz hd (rk.merge .nil) dd')


/-! ### methods -/
/-- a method call o.m(e) of a built-in, with one argument: what must be seen of the text -/
structure M1 (X : Cx) (o : Expr) (m : Str) (apos : Pos) (e : Expr) (cpos : Pos) : Prop where
  base : attributeBase o m X.env (eval o X.env) = eval o X.env
  few : ((backTo cpos (starEach [e] X.env)).all (fun x => !x.1) && (backToKw cpos (keywordEach [] X.env)).all (fun x => x.1.isSome)
    && decide (([e] : List Expr).length + ([] : List Keyword).length + (if ([] : List Keyword).isEmpty then 0 else 1) < 30)) = true
  line : (apos.endLine == cpos.line) = true
  trees : backTo cpos (starEach [e] X.env) = [(false, eval e X.env)]
structure M2 (X : Cx) (o : Expr) (m : Str) (apos : Pos) (e f : Expr) (cpos : Pos) : Prop where
  base : attributeBase o m X.env (eval o X.env) = eval o X.env
  few : ((backTo cpos (starEach [e, f] X.env)).all (fun x => !x.1) && (backToKw cpos (keywordEach [] X.env)).all (fun x => x.1.isSome)
    && decide (([e, f] : List Expr).length + ([] : List Keyword).length + (if ([] : List Keyword).isEmpty then 0 else 1) < 30)) = true
  line : (apos.endLine == cpos.line) = true
  trees : backTo cpos (starEach [e, f] X.env) = [(false, eval e X.env), (false, eval f X.env)]

/-- a is a dict, whatever its keys -/
def IsD (H : Hp) (a : Addr) : Prop := (∃ kvs, Rd H a (.dK kvs)) ∨ ∃ kvs, Rd H a (.dT kvs)
theorem isD_at {X : Cx} {pins : List (Addr × Obj)} {σ : St} {H : Hp} {s : Shared} {a : Addr} (I : Inv X pins σ H s) (d : IsD H a) :
    s.TypeIs (.ref a) "dict" ∧ (∀ b, Value.ref a = .ref b → ∃ ob, s.heap.get? b = some ob ∧ ob.dict = none) ∧ (a == sysModules) = false := by
  rcases d with ⟨kvs, e⟩ | ⟨kvs, e⟩
  · obtain ⟨_, hd, vs, _, dd⟩ := dk_rd I.hok e
    refine ⟨dd.typeIs, fun b q => ?_, hd⟩
    cases q
    obtain ⟨ob, _, _, h1, h2, _⟩ := dd
    exact ⟨ob, h1, h2.2.1⟩
  · obtain ⟨_, hd, xs, _, dd⟩ := dt_rd I.hok e
    refine ⟨dd.typeIs, fun b q => ?_, hd⟩
    cases q
    obtain ⟨ob, _, _, h1, h2, _⟩ := dd
    exact ⟨ob, h1, h2.2.1⟩

section
variable {X : Cx} {pins : List (Addr × Obj)} {σ : St} {H : Hp} {s : Shared} {a : Addr} {y d : V} {u r : Value} {o : Option V} {A : Around} {E : Value → Shared → Prop}
/-- d.get(y) -/
theorem d_get1 {Q : Value → Shared → Prop} (hu : A.units + 1 < cLine) (I : Inv X pins σ H s) (g : DGet H a y o) (ry : RelV y u) (h : ∀ w' s', Inv X pins σ H s' → RelV (o.getD .non) w' → Q w' s') :
    wpAny (model X.prog X.w) A (call (.builtin "dict.get") [.ref a, u]) Q E s := by
  rcases g with ⟨kvs, k, e, ey, l⟩ | ⟨kvs, k, b, e, ey, eb, l⟩
  · subst ey
    obtain ⟨z, hd, vs, rel, dd⟩ := dk_rd I.hok e
    refine call_meetsIn PySem.F.slot_dict_get dd.typeIs PySem.F.entry_dict_get (PySem.F.args_dict_get_2 _ _) (meets_dict_get (mixKind X.prog X.w) a (kV_is ry) hd) ⟨_, dd.mapOf, h _ _ (I.tok _) ?_⟩
    rw [l]
    exact (rel.val k).getD rfl
  · subst ey
    cases (show u = Value.ref b from ry)
    obtain ⟨z, hd, xs, rel, dd⟩ := dt_rd I.hok e
    refine call_meetsIn PySem.F.slot_dict_get dd.typeIs PySem.F.entry_dict_get (PySem.F.args_dict_get_2 _ _) (meetsH_dict_get (tupleKind (mixKind X.prog X.w)) a b hd) ⟨tupleKind_room_in1 hu, k, xs, key_of I.hok eb, dd, h _ _ (I.tok _) ?_⟩
    rw [l]
    exact (rel.val k).getD rfl
/-- d.get(y, x) -/
theorem d_get2 {Q : Value → Shared → Prop} (hu : A.units + 1 < cLine) (I : Inv X pins σ H s) (g : DGet H a y o) (ry : RelV y u) (rd : RelV d r) (h : ∀ w' s', Inv X pins σ H s' → RelV (o.getD d) w' → Q w' s') :
    wpAny (model X.prog X.w) A (call (.builtin "dict.get") [.ref a, u, r]) Q E s := by
  rcases g with ⟨kvs, k, e, ey, l⟩ | ⟨kvs, k, b, e, ey, eb, l⟩
  · subst ey
    obtain ⟨z, hd, vs, rel, dd⟩ := dk_rd I.hok e
    refine call_meetsIn PySem.F.slot_dict_get dd.typeIs PySem.F.entry_dict_get (PySem.F.args_dict_get_3 _ _ _) (meets_dict_get_default (mixKind X.prog X.w) a (kV_is ry) hd r) ⟨_, dd.mapOf, h _ _ (I.tok _) ?_⟩
    rw [l]
    exact (rel.val k).getD rd
  · subst ey
    cases (show u = Value.ref b from ry)
    obtain ⟨z, hd, xs, rel, dd⟩ := dt_rd I.hok e
    refine call_meetsIn PySem.F.slot_dict_get dd.typeIs PySem.F.entry_dict_get (PySem.F.args_dict_get_3 _ _ _) (meetsH_dict_get_default (tupleKind (mixKind X.prog X.w)) a b hd r) ⟨tupleKind_room_in1 hu, k, xs, key_of I.hok eb, dd, h _ _ (I.tok _) ?_⟩
    rw [l]
    exact (rel.val k).getD rd
end

def tDGet1 (td ty : TE) : TE := fun σ H Q => td σ H fun x H1 => ∃ a, x = .ref a ∧ IsD H1 a ∧ ty σ H1 fun y H2 => ∃ o, DGet H2 a y o ∧ Q (o.getD .non) H2
def tDGet2 (td ty tx : TE) : TE := fun σ H Q => td σ H fun x H1 => ∃ a, x = .ref a ∧ IsD H1 a ∧ ty σ H1 fun y H2 => tx σ H2 fun z H3 => ∃ o, DGet H3 a y o ∧ Q (o.getD z) H3
/-- d.pop(k): there; d.pop(k, x): there or not -/
def tDPop1 (td ty : TE) : TE := fun σ H Q => td σ H fun x H1 => ∃ a, x = .ref a ∧ IsD H1 a ∧ ty σ H1 fun y H2 => ∃ kvs k v, H2 a = some (.dK kvs) ∧ y = kV k ∧ valV kvs k = some v ∧ Q v (upd H2 a (.dK (dropK kvs k)))
def tDPop2 (td ty tx : TE) : TE := fun σ H Q => td σ H fun x H1 => ∃ a, x = .ref a ∧ IsD H1 a ∧ ty σ H1 fun y H2 => tx σ H2 fun z H3 => ∃ kvs k, H3 a = some (.dK kvs) ∧ y = kV k ∧
  (∀ v, valV kvs k = some v → Q v (upd H3 a (.dK (dropK kvs k)))) ∧ (valV kvs k = none → Q z H3)
section
variable {X : Cx} {o e f : Expr} {apos cpos : Pos} {td ty tx : TE}
theorem pe_dget1 (hu : X.A.units + 1 < cLine) (ho : PE X o td) (he : PE X e ty) (m : M1 X o "get" apos e cpos) : PE X (.Call (.Attribute o "get" apos) [e] [] cpos) (tDGet1 td ty) := by
  intro pins s σ H Q I h
  refine wpAny_Call_method m.base m.few m.line PySem.F.plainAttrs_dict PySem.F.slot_dict_get PySem.F.type_dict_get (thn (ho pins s σ H _ I h) fun u s1 ⟨x, H1, I1, rx, a, ex, d, q1⟩ => ?_)
  subst ex
  obtain rfl : u = Value.ref a := rx
  obtain ⟨t1, t2, _⟩ := isD_at I1 d
  refine ⟨t1, t2, ?_⟩
  rw [m.trees]
  refine Calls.callWith_builtin rfl (Calls.evalArgs_plain (Calls.spliced_cons (thn (he pins s1 σ H1 _ I1 q1) fun iv s2 ⟨y, H2, I2, ry, ov, g, q2⟩ => Calls.spliced_nil ?_)))
  exact d_get1 hu I2 g ry fun w' s3 I3 rw' => ⟨_, H2, I3, rw', q2⟩
theorem pe_dget2 (hu : X.A.units + 1 < cLine) (ho : PE X o td) (he : PE X e ty) (hf : PE X f tx) (m : M2 X o "get" apos e f cpos) : PE X (.Call (.Attribute o "get" apos) [e, f] [] cpos) (tDGet2 td ty tx) := by
  intro pins s σ H Q I h
  refine wpAny_Call_method m.base m.few m.line PySem.F.plainAttrs_dict PySem.F.slot_dict_get PySem.F.type_dict_get (thn (ho pins s σ H _ I h) fun u s1 ⟨x, H1, I1, rx, a, ex, d, q1⟩ => ?_)
  subst ex
  obtain rfl : u = Value.ref a := rx
  obtain ⟨t1, t2, _⟩ := isD_at I1 d
  refine ⟨t1, t2, ?_⟩
  rw [m.trees]
  refine Calls.callWith_builtin rfl (Calls.evalArgs_plain (Calls.spliced_cons (thn (he pins s1 σ H1 _ I1 q1) fun iv s2 ⟨y, H2, I2, ry, q2⟩ =>
    Calls.spliced_cons (thn (hf pins s2 σ H2 _ I2 q2) fun fv s3 ⟨z, H3, I3, rz, ov, g, q3⟩ => Calls.spliced_nil ?_))))
  exact d_get2 hu I3 g ry rz fun w' s4 I4 rw' => ⟨_, H3, I4, rw', q3⟩
theorem pe_dpop1 (ho : PE X o td) (he : PE X e ty) (m : M1 X o "pop" apos e cpos) : PE X (.Call (.Attribute o "pop" apos) [e] [] cpos) (tDPop1 td ty) := by
  intro pins s σ H Q I h
  refine wpAny_Call_method m.base m.few m.line PySem.F.plainAttrs_dict PySem.F.slot_dict_pop PySem.F.type_dict_pop (thn (ho pins s σ H _ I h) fun u s1 ⟨x, H1, I1, rx, a, ex, d, q1⟩ => ?_)
  subst ex
  obtain rfl : u = Value.ref a := rx
  obtain ⟨t1, t2, _⟩ := isD_at I1 d
  refine ⟨t1, t2, ?_⟩
  rw [m.trees]
  refine Calls.callWith_builtin rfl (Calls.evalArgs_plain (Calls.spliced_cons (thn (he pins s1 σ H1 _ I1 q1) fun iv s2 ⟨y, H2, I2, ry, kvs, k, v, ea, ey, l, q2⟩ => Calls.spliced_nil ?_)))
  subst ey
  exact d_pop I2 ea ry l (.inl rfl) fun w' s3 I3 rw' => ⟨v, _, I3, rw', q2⟩
theorem pe_dpop2 (ho : PE X o td) (he : PE X e ty) (hf : PE X f tx) (m : M2 X o "pop" apos e f cpos) : PE X (.Call (.Attribute o "pop" apos) [e, f] [] cpos) (tDPop2 td ty tx) := by
  intro pins s σ H Q I h
  refine wpAny_Call_method m.base m.few m.line PySem.F.plainAttrs_dict PySem.F.slot_dict_pop PySem.F.type_dict_pop (thn (ho pins s σ H _ I h) fun u s1 ⟨x, H1, I1, rx, a, ex, d, q1⟩ => ?_)
  subst ex
  obtain rfl : u = Value.ref a := rx
  obtain ⟨t1, t2, _⟩ := isD_at I1 d
  refine ⟨t1, t2, ?_⟩
  rw [m.trees]
  refine Calls.callWith_builtin rfl (Calls.evalArgs_plain (Calls.spliced_cons (thn (he pins s1 σ H1 _ I1 q1) fun iv s2 ⟨y, H2, I2, ry, q2⟩ =>
    Calls.spliced_cons (thn (hf pins s2 σ H2 _ I2 q2) fun fv s3 ⟨z, H3, I3, rz, kvs, k, ea, ey, q3, q4⟩ => Calls.spliced_nil ?_))))
  subst ey
  cases l : valV kvs k with
  | some v => exact d_pop I3 ea ry l (.inr ⟨fv, rfl⟩) fun w' s4 I4 rw' => ⟨v, _, I4, rw', q3 v l⟩
  | none => exact d_popD I3 ea ry l fun s4 I4 => ⟨z, H3, I4, rz, q4 l⟩
end

/-! ### dict(d): a copy -/
section
variable {X : Cx} {pins : List (Addr × Obj)} {σ : St} {H : Hp} {s : Shared} {a : Addr} {kvs : List (Key × V)} {A : Around} {E : Value → Shared → Prop}
theorem d_copyOf {Q : Value → Shared → Prop} (I : Inv X pins σ H s) (e : Rd H a (.dK kvs)) (h : ∀ p s', H p = none → Inv X pins σ (upd H p (.dK kvs)) s' → Q (.ref p) s') : wpAny (model X.prog X.w) A (call (.type "dict") [.ref a]) Q E s := by
  obtain ⟨z, hd, vs, rel, dd⟩ := dk_rd I.hok e
  refine kt_call_dict hd dd (by rw [← rel.length]; exact z) fun h' dd' hs => ?_
  refine h _ _ (I.hok.fresh (Nat.le_refl _)) (I.laid (a := s.heap.objs.size) (o := .dK kvs) (t' := s.toks) (fun b q hq => ?_) (Nat.le_refl _) (dk_new z (beq_eq_false_iff_ne.mpr (Ne.symm (Nat.ne_of_lt I.big))) rel dd'))
  exact (hs.2 b (Nat.ne_of_lt (Heap.lt_size hq))).trans (Heap.get?_push_of_some _ hq)
end


section
variable {X : Cx} {pins : List (Addr × Obj)} {σ : St} {H : Hp} {s : Shared} {a : Addr} {y : V} {u : Value} {A : Around} {E : Value → Shared → Prop}
/-- d[y], not there: a KeyError -/
theorem d_missing {Q : Value → Shared → Prop} (hu : A.units + 1 < cLine) (hh : A.handled = none) (I : Inv X pins σ H s) (g : DGet H a y none) (ry : RelV y u)
    (h : ∀ h' e t', Heap.NewExc s.heap h' e "KeyError" → E (.ref e) { s with heap := h', toks := t' }) : wpAny (model X.prog X.w) A (getItem (.ref a) u) Q E s := by
  rcases g with ⟨kvs, k, e, ey, l⟩ | ⟨kvs, k, b, e, ey, eb, l⟩
  · subst ey
    obtain ⟨z, hd, vs, rel, dd⟩ := dk_rd I.hok e
    have hn : valueAt vs k = none := RelO.none_of (by rw [l]; exact rel.val k)
    exact wpAny_getItem_missing_of (kV_is ry) hd hh dd.mapOf hn fun h' ex ne => h h' ex _ ne
  · subst ey
    cases (show u = Value.ref b from ry)
    obtain ⟨z, hd, xs, rel, dd⟩ := dt_rd I.hok e
    have hn : (atKey xs k).map (·.2) = none := RelO.none_of (by rw [l]; exact rel.val k)
    exact wpAny_getItem_missing_heap (tupleKind_room_in1 hu) (key_of I.hok eb) hd hh dd (Option.map_eq_none_iff.mp hn) fun h' ex ne => h h' ex _ ne
end
end L2


namespace L2
open PySem PySem.Spec PyProof.Rows

theorem boot_reversed5 : bootBuiltins "reversed" = some (.type "reversed") := by decide +kernel

section
variable {X : Cx} {pins : List (Addr × Obj)} {σ : St} {H : Hp} {s : Shared} {h' : Heap}
/-- several records of ours have turned -/
theorem Inv.turnedL {t' : Nat} {ch : List Addr} (I : Inv X pins σ H s) (k : ∀ b o, b ∉ ch → s.heap.get? b = some o → h'.get? b = some o) (hf : ∀ b ∈ ch, FpOk X pins H b) : Inv X pins σ H { s with heap := h', toks := t' } := by
  have nit : ∀ b u, H b = some u → b ∉ ch := fun b u e z => by
    have q := (hf b z).1
    rw [q] at e; cases e
  refine I.step (g' := s.gens) (d' := s.drawn) (ch := ch) (fun b hb => ⟨(hf b hb).2.2.2.1, (hf b hb).2.1, (hf b hb).2.2.2.2.1, (hf b hb).2.2.2.2.2⟩) (fun b o _ _ hc e _ => k b o hc e) (fun b o _ _ hc e _ => ⟨o.slots, k b o hc e⟩)
    (fun _ _ _ _ n => n) (fun b o hc e => ⟨o, k b o hc e⟩) (fun _ _ e => e) (fun _ _ _ e => e) (fun b ps e => ⟨#[], by rw [e]; simp⟩) (fun m hm => ?_) (fun b u e => ?_) I.bare
  · obtain ⟨o, es, ep, ho, r⟩ := hm
    exact ⟨o, es, ep, k _ o (fun z => (hf _ z).2.1 rfl) ho, r⟩
  · refine (I.hok b u e).stay (fun c v hc q => k c v ?_ q) (fun _ q => q) fun _ _ q => q
    rcases hc with z | z
    · rw [z]; exact nit b u e
    · exact nit c _ z
/-- .. and one new object is laid -/
theorem Inv.turnedNew {t' : Nat} {ch : List Addr} {T : Addr} {ob : HO} (I : Inv X pins σ H s) (k : ∀ b o, b ∉ ch → s.heap.get? b = some o → h'.get? b = some o) (hf : ∀ b ∈ ch, FpOk X pins H b) (hT : s.heap.objs.size ≤ T)
    (new : ObjOk X.prog X.w (upd H T ob) h' T ob) : Inv X pins σ (upd H T ob) { s with heap := h', toks := t' } := by
  have hn : H T = none := I.hok.fresh hT
  have nit : ∀ b u, H b = some u → b ∉ ch := fun b u e z => by
    have q := (hf b z).1
    rw [q] at e; cases e
  refine I.step (g' := s.gens) (d' := s.drawn) (ch := ch) (fun b hb => ⟨(hf b hb).2.2.2.1, (hf b hb).2.1, (hf b hb).2.2.2.2.1, (hf b hb).2.2.2.2.2⟩) (fun b o _ _ hc e _ => k b o hc e) (fun b o _ _ hc e _ => ⟨o.slots, k b o hc e⟩)
    (fun b o _ e n => ?_) (fun b o hc e => ⟨o, k b o hc e⟩) (fun b xs e => ?_) (fun b o u e => ?_) (fun b ps e => ⟨#[], ?_⟩) (fun m hm => ?_) (fun b u e => ?_) I.bare
  · rw [upd_ne (Nat.ne_of_lt (Nat.lt_of_lt_of_le (Heap.lt_size e) hT))]; exact n
  · rw [upd_ne (ne_of_none e hn)]; exact e
  · rw [upd_ne (ne_of_none e hn)]; exact e
  · rw [upd_ne (ne_of_none e hn), e]; simp
  · obtain ⟨o, es, ep, ho, r⟩ := hm
    exact ⟨o, es, ep, k _ o (fun z => (hf _ z).2.1 rfl) ho, r⟩
  · by_cases hb : b = T
    · subst hb
      rw [upd_same] at e
      cases e
      exact new
    · rw [upd_ne hb] at e
      refine (I.hok b u e).stay (fun c v hc q => k c v ?_ q) (fun c q => by rw [upd_ne (ne_of_none q hn)]; exact q) fun c xs q => by rw [upd_ne (ne_of_none q hn)]; exact q
      rcases hc with z | z
      · rw [z]; exact nit b u e
      · exact nit c _ z

/-! ### locking a thing while a statement runs -/
theorem Inv.lock {d : Addr} {u : HO} (I : Inv X pins σ H s) (h : H d = some u) (mu : Mut (some u)) : ∃ od, Inv X pins σ (upd H d (.frz od u)) s := by
  have x := I.hok d u h
  have ex : ∃ od, s.heap.get? d = some od := by
    cases u with
    | lst xs => obtain ⟨_, _, _, _, e⟩ := x; exact ⟨_, e⟩
    | dK kvs => obtain ⟨_, _, _, _, o, _, _, e, _⟩ := x; exact ⟨o, e⟩
    | dT kvs => obtain ⟨_, _, _, _, o, _, _, e, _⟩ := x; exact ⟨o, e⟩
    | set S n => obtain ⟨o, _, _, _, e, _⟩ := x; exact ⟨o, e⟩
    | ins C dx fs => obtain ⟨_, _, _, e, _⟩ := x; exact ⟨_, e⟩
    | ext φ => obtain ⟨_, ⟨_, e⟩, _⟩ := x; exact ⟨_, e⟩
    | _ => exact False.elim mu
  obtain ⟨od, e⟩ := ex
  have new : ObjOk X.prog X.w (upd H d (.frz od u)) s.heap d (.frz od u) := by
    refine ⟨e, x.stay (fun b v _ q => q) (fun b q => ?_) fun b xs q => ?_⟩
    · rw [upd_ne (fun z => by rw [z, h] at q; cases q; exact mu)]; exact q
    · rw [upd_ne (fun z => by rw [z, h] at q; cases q; exact mu)]; exact q
  exact ⟨od, I.write (x := d) (e := d) (t' := s.toks) (h' := s.heap) (by rw [h]; exact mu) (.inl rfl) (fun b v _ q => q) ⟨od, e⟩ new⟩
theorem Inv.nofrz {d : Addr} {u : HO} (I : Inv X pins σ H s) (h : H d = some u) (mu : Mut (some u)) : ∀ o' u', X.H_0 d ≠ some (.frz o' u') := fun o' u' e => by
  have q := I.base.frzs d o' u' e
  rw [h] at q
  cases q
  exact mu
theorem Inv.unlock {d : Addr} {od : Obj} {u : HO} (I : Inv X pins σ H s) (h : H d = some (.frz od u)) (hn : ∀ o' u', X.H_0 d ≠ some (.frz o' u')) : Inv X pins σ (upd H d u) s := by
  have neH : ∀ b o, H b = some o → (∀ o' u', o ≠ .frz o' u') → b ≠ d := fun b o e hne z => by
    rw [z, h] at e
    cases e
    exact hne _ _ rfl
  have neN : ∀ b, H b = none → b ≠ d := fun b e z => by rw [z, h] at e; cases e
  refine ⟨I.ok, I.os, I.bare, ⟨I.base.keep, I.base.slot, fun b o e n hx => ?_, I.base.there, fun b xs e => ?_, fun b o x e => ?_, fun b ps e => ?_⟩, I.loc, I.cell, ?_, fun x c e => ?_, fun p hp => ?_, fun b o e => ?_, I.len⟩
  · rw [upd_ne (neN b (I.base.free b o e n hx))]; exact I.base.free b o e n hx
  · have q := I.base.tups b xs e
    rw [upd_ne (neH b _ q (fun _ _ z => nomatch z))]; exact q
  · have q := I.base.frzs b o x e
    rw [upd_ne (fun z => by rw [z] at e; exact hn _ _ e)]; exact q
  · obtain ⟨m, q⟩ := I.base.tbls b ps e
    exact ⟨m, by rw [upd_ne (neH b _ q (fun _ _ z => nomatch z))]; exact q⟩
  · rw [upd_ne (neN _ I.free)]; exact I.free
  · rw [upd_ne (neN c (I.freeC x c e))]; exact I.freeC x c e
  · obtain ⟨e, n, r⟩ := I.pin p hp
    exact ⟨e, by rw [upd_ne (neN _ n)]; exact n, r⟩
  · by_cases hb : b = d
    · rw [hb, upd_same] at e
      cases e
      rw [hb]
      obtain ⟨_, x⟩ := I.hok d _ h
      exact x.stay (fun c v _ q => q) (fun c q => by rw [upd_ne (neH c _ q (fun _ _ z => nomatch z))]; exact q) fun c xs q => by rw [upd_ne (neH c _ q (fun _ _ z => nomatch z))]; exact q
    · rw [upd_ne hb] at e
      exact (I.hok b o e).stay (fun c v _ q => q) (fun c q => by rw [upd_ne (neH c _ q (fun _ _ z => nomatch z))]; exact q) fun c xs q => by rw [upd_ne (neH c _ q (fun _ _ z => nomatch z))]; exact q
end
/-- the statement runs while the thing at d is locked (read, not written); d and what stands there are the reading's choice -/
def tLock (t : TS) : TS := fun D σ H => ∃ d u, H d = some u ∧ Mut (some u) ∧ ∀ od, t ⟨fun σ' H' => H' d = some (.frz od u) ∧ D.nx σ' (upd H' d u), fun v H' => H' d = some (.frz od u) ∧ D.rt v (upd H' d u), fun σ' H' => H' d = some (.frz od u) ∧ D.bk σ' (upd H' d u), fun σ' H' => H' d = some (.frz od u) ∧ D.ct σ' (upd H' d u)⟩ σ (upd H d (.frz od u))
def tLockE (t : TE) : TE := fun σ H Q => ∃ d u, H d = some u ∧ Mut (some u) ∧ ∀ od, t σ (upd H d (.frz od u)) fun v H' => H' d = some (.frz od u) ∧ Q v (upd H' d u)
section
variable {X : Cx}
theorem ps_lock {st : Stmt} {t : TS} (h : PS X st t) : PS X st (tLock t) := by
  intro pins s σ H D I hw
  obtain ⟨d, u, hd, mu, hw⟩ := hw
  obtain ⟨od, I1⟩ := I.lock hd mu
  refine thn (h pins s σ _ _ I1 (hw od)) fun f s1 q => ?_
  cases f with
  | next => obtain ⟨σ', H', I2, e, q⟩ := q; exact ⟨σ', _, I2.unlock e (I.nofrz hd mu), q⟩
  | brk => obtain ⟨σ', H', I2, e, q⟩ := q; exact ⟨σ', _, I2.unlock e (I.nofrz hd mu), q⟩
  | cont => obtain ⟨σ', H', I2, e, q⟩ := q; exact ⟨σ', _, I2.unlock e (I.nofrz hd mu), q⟩
  | ret v => obtain ⟨x, σ', H', I2, r, e, q⟩ := q; exact ⟨x, σ', _, I2.unlock e (I.nofrz hd mu), r, q⟩
theorem pe_lock {e : Expr} {t : TE} (h : PE X e t) : PE X e (tLockE t) := by
  intro pins s σ H Q I hw
  obtain ⟨d, u, hd, mu, hw⟩ := hw
  obtain ⟨od, I1⟩ := I.lock hd mu
  refine thn (h pins s σ _ _ I1 (hw od)) fun v s1 ⟨x, H1, I2, r, e2, q⟩ => ?_
  exact ⟨x, _, I2.unlock e2 (I.nofrz hd mu), r, q⟩

/-! ### one iterator just laid -/
theorem pi_one {tg : Expr} {pins : List (Addr × Obj)} {σ : St} {H : Hp} {s : Shared} {R : It → Hp → Prop} {J : It} {tn : Nat → Heap → Prop} {tk : Nat} (I : Inv X pins σ H s) (o : Obj)
    (T : Turn X.prog X.w X.K tg J [s.heap.objs.size] s.heap.objs.size tn) (st : tn 0 (s.heap.push o)) (q : R J H) : PIE X pins σ tg R (.ref s.heap.objs.size) { s with heap := s.heap.push o, toks := tk } := by
  refine ⟨s.heap.objs.size, [s.heap.objs.size], tn, J, H, rfl, I.kept fun b ob e => Heap.get?_push_of_some _ e, T, st, fun b hb => ?_, q⟩
  have e : b = s.heap.objs.size := by simpa using hb
  subst e
  exact I.fpOk (Nat.le_refl _) (I.hok.fresh (Nat.le_refl _))
end

/-! ### range with a step -/
/-- lo, lo + c, .. (n of them) -/
def Itc (lo c : Int) (n : Nat) : It := ⟨fun i _ => i < n, fun i H x H' => H' = H ∧ x = .int (lo + (i : Nat) * c), fun i _ => n ≤ i⟩
theorem turn_rangeC {P : Program} {w : World} {K : PySem.W.Frag} {tg : Expr} (it : Addr) (lo c : Int) (n : Nat) : Turn P w K tg (Itc lo c n) [it] it (fun i h => IsRangeIter h it (lo + (i : Nat) * c) ((n : Int) - (i : Nat)) c) where
  mem := by simp
  obj := fun i h st b hb => by
    have e : b = it := by simpa using hb
    subst e
    exact ⟨_, st, fun v z => nomatch z⟩
  keep := fun i h h' st k => k it (by simp) _ st
  item := by
    intro X hP hw hK hc i pins s σ H E I hf st hg
    subst hP hw hK
    obtain ⟨f0, f1, f2, f3, f4, f5⟩ := hf it (by simp)
    have W := Walks.range (prog := X.prog) (w := X.w) (I.ok.hd hc) it lo c n
    refine W.item i s _ _ hg st fun v h' tk hv st' kk => ?_
    obtain ⟨t, rfl⟩ := hv
    have I1 : Inv X pins σ H { s with heap := h', toks := tk } := I.turned (fun b o hb e => kk b o (by simpa using hb) e) f0 f1 f3 f4 f5
    exact ⟨_, rfl, go_of (s := { s with heap := h', toks := tk }) (n := "range_iterator") st' rfl rfl (by decide) ⟨.int (lo + (i : Nat) * c), H, I1, ⟨t, rfl⟩, ⟨rfl, rfl⟩, st', fun b hb => (hf b hb).1⟩⟩
  done := by
    intro X hP hw hK hc i pins s σ H E I hf st hg
    subst hP hw hK
    obtain ⟨f0, f1, f2, f3, f4, f5⟩ := hf it (by simp)
    exact wpAny_pyNext_range_end (I.ok.hd hc) st (by have : n ≤ i := hg; omega) fun h' eb => ⟨rfl, I.turned (t' := s.toks) (fun b o hb e => eb b o hb e) f0 f1 f3 f4 f5⟩
  self := fun A i s Q E st h => wpAny_pyIter_rangeiter st h
/-- range(i, j, c): small bounds, n items -/
def RgC (i j c : Int) (n : Nat) : Prop := c ≠ 0 ∧ c.natAbs < 1073741824 ∧ Builtin.Range.small i j c = true ∧ Builtin.Range.rangeSize i j c = n
theorem RgC.neg {i j : Int} (ha : -(2 ^ 62) ≤ i) (ha' : i < 2 ^ 62) (hb : -(2 ^ 62) ≤ j) (hb' : j < 2 ^ 62) : RgC i j (-1) (i - j).toNat :=
  ⟨by decide, by decide, PySem.W.small_down ha ha' hb hb', PySem.W.rangeSize_downNat i j⟩
def iRng3 (ta : TA) : TI := fun σ H R => ta σ H fun vs H1 => ∃ (i j c : Int) (n : Nat), vs = [.int i, .int j, .int c] ∧ RgC i j c n ∧ R (Itc i c n) H1
section
variable {X : Cx} {tg : Expr}
theorem pi_range3 {a b c : Expr} {ta : TA} {p pos : Pos} (hg : Gl X "range") (hm : X.mg "range" = none) (ha : PA X [a, b, c] ta)
    (hs : starEach [a, b, c] X.env = (false, eval a X.env) :: starEach [b, c] X.env := by rfl) (hpl : (backTo pos (starEach [b, c] X.env)).any (·.1) = false := by rfl) :
    PI X tg (.Call (.Name "range" p) [a, b, c] [] pos) (iRng3 ta) := by
  intro pins s σ H R I h
  refine Call_ (ld_blt I hg hm boot_range (PyProof.Rows.callWith_type1 (thn (ha pos pins s σ H _ I h) fun us s1 ⟨vs, H1, I1, r1, q1⟩ => ?_) hs hpl))
  obtain ⟨i, j, k, n, e, ⟨c0, c1, c2, c3⟩, q⟩ := q1
  subst e
  cases r1 with
  | cons r rr =>
    cases rr with
    | cons r' rr =>
      cases rr with
      | cons r'' rr =>
        cases rr
        obtain ⟨t, rfl⟩ := r
        obtain ⟨t', rfl⟩ := r'
        obtain ⟨t'', rfl⟩ := r''
        refine call_range_3 c0 ?_ (.inl (PyProof.noPylong_small c1))
        refine wpAny_pyIter_range (IsRange.new ..) c2 ?_
        have I2 : Inv X pins σ H1 { s1 with heap := s1.heap.push { cls := .type "range", data := .fields #[.int i t, .int j t', .int k t''] } } := I1.kept (t' := s1.toks) fun b o e => Heap.get?_push_of_some _ e
        refine pi_one (tk := s1.toks) I2 _ (turn_rangeC _ i k n) ?_ q
        have e1 : i + ((0 : Nat) : Int) * k = i := by simp
        have e2 : (n : Int) - ((0 : Nat) : Int) = Builtin.Range.rangeSize i j k := by rw [c3]; simp
        show IsRangeIter _ _ (i + ((0 : Nat) : Int) * k) ((n : Int) - ((0 : Nat) : Int)) k
        rw [e1, e2]
        exact Heap.get?_push_size _ rfl
end
/-- the turns of a step range, for the for loop -/
theorem for_rangeC {lo c : Int} {n : Nat} {g : TG} {tb : TS} {D : Ends} {σ : St} {H : Hp} (Pv : Nat → St → Hp → Prop) (h0 : Pv 0 σ H)
    (hs : ∀ i σ H, i < n → Pv i σ H → g (.int (lo + (i : Nat) * c)) σ H fun σ2 H2 => tb { D with nx := Pv (i + 1), ct := Pv (i + 1), bk := D.nx } σ2 H2) (hd : ∀ σ H, Pv n σ H → D.nx σ H) :
    ∃ W : Nat → Nat → St → Hp → Prop, (∃ m, W 0 m σ H) ∧ ∀ i m σ H, W i m σ H →
      ((Itc lo c n).stop i H ∧ D.nx σ H) ∨ ((Itc lo c n).go i H ∧ ∃ N : St → Hp → Prop, (∀ σ' H', N σ' H' → ∃ m', m' < m ∧ W (i + 1) m' σ' H') ∧ ∀ x H', (Itc lo c n).yld i H x H' → g x σ H' fun σ2 H2 => tb { D with nx := N, ct := N, bk := D.nx } σ2 H2) := by
  refine ⟨fun i m σ H => m = n - i ∧ i ≤ n ∧ Pv i σ H, ⟨n, by simp, Nat.zero_le _, h0⟩, ?_⟩
  rintro i m σ H ⟨rfl, hi, p⟩
  by_cases hlt : i < n
  · refine .inr ⟨hlt, Pv (i + 1), fun σ' H' p' => ⟨n - (i + 1), by omega, rfl, hlt, p'⟩, fun x H' y => ?_⟩
    obtain ⟨e, y⟩ := y
    subst e y
    exact hs i σ _ hlt p
  · have e : i = n := by omega
    subst e
    exact .inl ⟨Nat.le_refl _, hd σ H p⟩

/-! ### reversed(list) -/
/-- the list at a (n items at the start, which the loop leaves there), from its end -/
def Itv (K : PySem.W.Frag) (a : Addr) (n : Nat) : It :=
  ⟨fun i H => i < n ∧ ∃ (xs : List V) (x : V), SqL K H a xs ∧ xs[n - 1 - i]? = some x, fun i H x H' => H' = H ∧ ∀ xs, SqL K H a xs → xs[n - 1 - i]? = some x, fun i _ => n ≤ i⟩
theorem turn_rev {P : Program} {w : World} {K : PySem.W.Frag} {tg : Expr} (a it : Addr) (n : Nat) : Turn P w K tg (Itv K a n) [it] it (fun i h => i ≤ n ∧ h.IsRevIter it a ((n : Int) - 1 - (i : Nat))) where
  mem := by simp
  obj := fun i h st b hb => by
    have e : b = it := by simpa using hb
    subst e
    obtain ⟨_, o, e, c, d⟩ := st
    exact ⟨o, e, fun v z => by rw [d] at z; cases z⟩
  keep := fun i h h' st k => ⟨st.1, st.2.at fun o e => k it (by simp) o e⟩
  item := by
    intro X hP hw hK hc i pins s σ H E I hf st hg
    subst hP hw hK
    obtain ⟨hin, xs, x, hq, hx⟩ := hg
    obtain ⟨its, rv, p, hz⟩ := I.list hq
    obtain ⟨u, hu, ru⟩ := rv.get hx
    obtain ⟨f0, f1, f2, f3, f4, f5⟩ := hf it (by simp)
    obtain ⟨_, hit⟩ := st
    have e1 : (n : Int) - 1 - ((i : Nat) : Int) = ((n - 1 - i : Nat) : Int) := by omega
    rw [e1] at hit
    refine wpAny_pyNext_rev_item hit p.isList (x := u) (by simpa using hu) fun h' st' sb => ?_
    have e2 : ((n - 1 - i : Nat) : Int) - 1 = (n : Int) - 1 - ((i + 1 : Nat) : Int) := by omega
    rw [e2] at st'
    have I1 : Inv X pins σ H { s with heap := h' } := I.turned (t' := s.toks) (fun b o hb e => (sb.2 b hb).trans e) f0 f1 f3 f4 f5
    obtain ⟨o, e, c, d⟩ := id st'
    exact ⟨u, rfl, go_of (s := { s with heap := h' }) e c d (by decide) ⟨x, H, I1, ru, ⟨rfl, fun ys hy => by rw [I.list_inj hy hq]; exact hx⟩, ⟨hin, st'⟩, fun b hb => (hf b hb).1⟩⟩
  done := by
    intro X hP hw hK hc i pins s σ H E I hf st hg
    subst hP hw hK
    obtain ⟨f0, f1, f2, f3, f4, f5⟩ := hf it (by simp)
    obtain ⟨hin, hit⟩ := st
    have hge : n ≤ i := hg
    have e1 : (n : Int) - 1 - ((i : Nat) : Int) = -1 := by omega
    rw [e1] at hit
    exact wpAny_pyNext_rev_end (I.ok.hd hc) hit fun h' eb => ⟨rfl, I.turned (t' := s.toks) (fun b o hb e => eb b o hb e) f0 f1 f3 f4 f5⟩
  self := fun A i s Q E st h => wpAny_pyIter_revIter st.2 h
def iRev (K : PySem.W.Frag) (ta : TA) : TI := fun σ H R => ta σ H fun vs H1 => ∃ (a : Addr) (xs : List V), vs = [.ref a] ∧ SqL K H1 a xs ∧ R (Itv K a xs.length) H1
section
variable {X : Cx} {tg : Expr}
theorem pi_reversed {e : Expr} {ta : TA} {p pos : Pos} (hg : Gl X "reversed") (hm : X.mg "reversed" = none) (ha : PA X [e] ta) (hs : starEach [e] X.env = [(false, eval e X.env)] := by rfl) : PI X tg (.Call (.Name "reversed" p) [e] [] pos) (iRev X.K ta) := by
  intro pins s σ H R I h
  refine Call_ (ld_blt I hg hm boot_reversed5 (PyProof.Rows.callWith_type1 (thn (ha pos pins s σ H _ I h) fun us s1 ⟨vs, H1, I1, r1, q1⟩ => ?_) hs rfl))
  obtain ⟨a, xs, e, hq, q⟩ := q1
  subst e
  cases r1 with
  | cons r rr =>
    cases rr
    cases r
    obtain ⟨its, rv, p', hz⟩ := I1.list hq
    have hl := rv.length
    have e1 : ((its.toArray.size : Nat) : Int) - 1 = (xs.length : Int) - 1 - ((0 : Nat) : Int) := by simp only [List.size_toArray]; omega
    refine call_reversed_list p'.isList (wpAny_pyIter_revIter (l := a) (i := ((its.toArray.size : Nat) : Int) - 1) ⟨_, Heap.get?_push_size _ rfl, rfl, rfl⟩ ?_)
    refine pi_one (tk := s1.toks) I1 _ (turn_rev a _ xs.length) ⟨Nat.zero_le _, ?_⟩ q
    rw [← e1]
    exact ⟨_, Heap.get?_push_size _ rfl, rfl, rfl⟩
end

end L2

namespace Att
open PySem PySem.W PySem.Calls PyProof.Rows

/-! ### the script -/
theorem ints_of_wellAll {P : Params} {h : Heap} : ∀ (ns : List Int) (vs : List Value), WellAll P h vs (ns.map WData.int) → IntsAre vs ns := by
  intro ns
  induction ns with
  | nil =>
    intro vs w
    rw [List.map_nil] at w
    cases w
    exact .nil
  | cons n ns ih =>
    intro vs w
    rw [List.map_cons] at w
    cases w with
    | cons a b =>
      cases a
      exact .cons _ _ (ih _ b)

theorem script_of {l : OpenLaw} {n : Nat} (hn : l.most = some n) {P : Params} {h : Heap} {args : List WData} {vals : List Value}
    (hpre : l.row.toRowW.claim.pre args = true) (hwl : WellAll P h vals args) :
    ∃ a vs ns, vals = [Value.ref a] ∧ args = [WData.list (ns.map WData.int)] ∧ h.get? a = some { cls := .type "list", data := .seq vs.toArray } ∧ IntsAre vs ns ∧ ns.length ≤ n := by
  have hsh : WShape.hasAll [] args [.list .int] = true := (pre_splitW hpre).1
  have hc : l.pre.holds [] { args := args } = true := (pre_splitW hpre).2
  obtain ⟨d, r, rfl, h1, h2⟩ := hasAllW_cons hsh
  obtain rfl := hasAllW_nil h2
  obtain ⟨xs, rfl, h3⟩ := hasW_list h1
  obtain ⟨ns, rfl⟩ := items_int h3
  have hlen : ns.length ≤ n := by
    unfold OpenLaw.pre at hc
    have h4 : (WTm.not (.lt (.lit (.int (n : Int))) (.len (.arg 0)))).holds [] { args := [.list (ns.map .int)] } = true := by
      have h4 := (holds_andW hc).1
      rw [hn] at h4
      exact h4
    have h5 := condW_of h4 (w_not (w_lt w_lit (w_len_list (w_arg rfl))))
    rw [List.length_map] at h5
    refine Nat.le_of_not_lt fun q => ?_
    have q' : (n : Int) < ((ns.length : Nat) : Int) := by omega
    first
      | (rw [decide_eq_true q'] at h5; exact absurd h5 (by decide))
      | (simp at h5; omega)
  cases hwl with
  | cons w1 w2 =>
    cases w2
    cases w1 with
    | list ho hall => exact ⟨_, _, ns, rfl, rfl, ho, ints_of_wellAll ns _ hall, hlen⟩

theorem post_true (l : OpenLaw) (args : List WData) : l.row.toRowW.claim.post args (.bool true) args = true :=
  postW_of (r := l.row.toRowW) (X := (true == true))
    (show WShape.has [] (.bool true) .bool = true by first | rfl | decide | simp [WShape.has, WShape.arms, WShape.armsAll])
    (show (WTm.eq .res (.lit (.bool true))).value [] { args := args, res := some (.bool true), after := args } = some (.bool (true == true)) from w_eq_bool (w_res rfl) w_lit) rfl

/-! ### the attachment: holds_open's last premise (the goal 'hc' behind k_head) from a wpAny of the law's body -/
theorem attach {l : OpenLaw} {n : Nat} {q : Program} {loose : List Str} {XP : (Str → Option Value) → Heap → Prop} {YP : World → Heap → Prop} {d : DefRec} {x : Str}
    (hn : l.most = some n) (hdf : d.params.defaults = [])
    (hbind : ∀ pm cd doc v : Value, bindArgs (docDef d.name d.params d.body d.scope pm cd doc) ⟨[v], []⟩ = pure [(x, v)])
    (hx : d.scope.names.lookup x = some .local ∨ d.scope.names.lookup x = some .cell)
    (hk : d.scope.kind = .function) (hco : d.scope.isCoroutine = false) (hgen : d.scope.isGenerator = false)
    (body : ∀ (w : World) (s₀ s₁ s : Shared) (mg mb : Str → Option Value) (fa : Addr) (o : Obj) (pm cd doc : Value) (a : Addr) (vs : List Value) (ns : List Int),
      Ground q loose [] XP w s₀ mg mb s₁.heap → YP w s₁.heap →
      s₁.heap.get? fa = some o → o.data = .func (docDef d.name d.params d.body d.scope pm cd doc) → s₁.heap.CodeRec cd d.name → mg d.name = some (.ref fa) →
      s₁.heap.get? a = some { cls := .type "list", data := .seq vs.toArray } → IntsAre vs ns → ns.length ≤ n →
      s.gens = #[] → s.os = s₁.os →
      Fr s₁.heap s₁.heap.objs.size s.heap (bindL (envOfC d.name d.scope s₁.heap.objs.size fa cd).kindOf [(x, .ref a)] fun _ => none) →
      Cl s₁.heap.objs.size (cellsFrom (s₁.heap.objs.size + 1) d.scope.names []) s.heap (bindC (envOfC d.name d.scope s₁.heap.objs.size fa cd).kindOf [(x, .ref a)] fun _ => none) →
      wpAny (model l.prog w) (callerA.deeper (envOfC d.name d.scope s₁.heap.objs.size fa cd)) (execs d.body (envOfC d.name d.scope s₁.heap.objs.size fa cd))
        (fun f s' => f = .ret (.bool true) ∧ OldK s₁.heap s'.heap ∧ s'.os = s₁.os ∧ AllBare s'.gens) (fun _ _ => False) s) :
    WalkO q loose XP YP l.row.toRowW d [] (fun f vs => PySem.call f vs) := by
  intro w s₀ s₁ mg mb G Y fa o pm cd doc dV kV ho hd hcd hD hmg hg args vals as hpre hlay hrd hwl hlo
  obtain rfl : dV = .none := Dflts.none hD hdf
  obtain rfl : kV = .none := Dflts.noKw hD
  obtain ⟨a, vs, ns, rfl, rfl, hobj, hints, hlen⟩ := script_of hn hpre hwl
  refine enter_call ?_
  refine call_cells_ret (o := o) (by rw [depth_caller]; decide) ho (fd_plain hd) G.T.nolimit hcd (hbind pm cd doc (.ref a)) (fun y hy => ?_) (fun h₁ tk F X => ?_) hco hgen hk
  · obtain rfl : y = (x, Value.ref a) := List.mem_singleton.mp hy
    rcases hx with e | e
    · exact .inl e
    · exact .inr ⟨e, cellsFrom_some _ _ _ (.inl e)⟩
  · refine wpAny_mono (body w s₀ s₁ { s₁ with heap := h₁, toks := tk } mg mb fa o pm cd doc a vs ns G Y ho (fd_plain hd) hcd hmg hobj hints hlen hg rfl F X) (fun f s' hq => ?_) (fun _ _ hq => hq)
    obtain ⟨rfl, h2, h3, h4⟩ := hq
    exact ⟨.inl ⟨.bool true, .bool true, [], rfl, fun _ => rfl, .bool true, post_true l _, fun _ => ⟨List.Pairwise.nil, fun _ hm => (nomatch hm)⟩⟩, h2, h3, h4⟩

/-- the same from a codeAny of the CALL (for a layer whose function contracts speak of calls) -/
theorem attach_call {l : OpenLaw} {n : Nat} {q : Program} {loose : List Str} {XP : (Str → Option Value) → Heap → Prop} {YP : World → Heap → Prop} {d : DefRec}
    (hn : l.most = some n) (hdf : d.params.defaults = [])
    (call : ∀ (w : World) (s₀ s₁ : Shared) (mg mb : Str → Option Value) (fa : Addr) (o : Obj) (pm cd doc : Value) (a : Addr) (vs : List Value) (ns : List Int),
      Ground q loose [] XP w s₀ mg mb s₁.heap → YP w s₁.heap →
      s₁.heap.get? fa = some o → o.data = .func (docDef d.name d.params d.body d.scope pm cd doc) → s₁.heap.CodeRec cd d.name → mg d.name = some (.ref fa) →
      s₁.heap.get? a = some { cls := .type "list", data := .seq vs.toArray } → IntsAre vs ns → ns.length ≤ n → s₁.gens = #[] →
      codeAny (model l.prog w) callerA (.call (.ref fa) ⟨[.ref a], []⟩) (fun r s' => r = .ok (.ret (.bool true)) ∧ OldK s₁.heap s'.heap ∧ s'.os = s₁.os ∧ AllBare s'.gens) s₁) :
    WalkO q loose XP YP l.row.toRowW d [] (fun f vs => PySem.call f vs) := by
  intro w s₀ s₁ mg mb G Y fa o pm cd doc dV kV ho hd hcd hD hmg hg args vals as hpre hlay hrd hwl hlo
  obtain rfl : dV = .none := Dflts.none hD hdf
  obtain rfl : kV = .none := Dflts.noKw hD
  obtain ⟨a, vs, ns, rfl, rfl, hobj, hints, hlen⟩ := script_of hn hpre hwl
  refine enter_call (codeAny_mono (call w s₀ s₁ mg mb fa o pm cd doc a vs ns G Y ho (fd_plain hd) hcd hmg hobj hints hlen hg) fun r s' hq => ?_)
  obtain ⟨rfl, h2, h3, h4⟩ := hq
  exact ⟨.inl ⟨.bool true, .bool true, [], rfl, fun _ => rfl, .bool true, post_true l _, fun _ => ⟨List.Pairwise.nil, fun _ hm => (nomatch hm)⟩⟩, h2, h3, h4⟩

/-- the same where the top left finished generators (o_head chose holds_openN): nothing may have changed at all and no generator may be left -/
theorem attachN {l : OpenLaw} {n : Nat} {q : Program} {loose : List Str} {XP : (Str → Option Value) → Heap → Prop} {YP : World → Heap → Prop} {d : DefRec} {x : Str}
    (hn : l.most = some n) (hdf : d.params.defaults = [])
    (hbind : ∀ pm cd doc v : Value, bindArgs (docDef d.name d.params d.body d.scope pm cd doc) ⟨[v], []⟩ = pure [(x, v)])
    (hx : d.scope.names.lookup x = some .local ∨ d.scope.names.lookup x = some .cell)
    (hk : d.scope.kind = .function) (hco : d.scope.isCoroutine = false) (hgen : d.scope.isGenerator = false)
    (body : ∀ (w : World) (s₀ s₁ s : Shared) (mg mb : Str → Option Value) (fa : Addr) (o : Obj) (pm cd doc : Value) (a : Addr) (vs : List Value) (ns : List Int),
      Ground q loose [] XP w s₀ mg mb s₁.heap → YP w s₁.heap →
      s₁.heap.get? fa = some o → o.data = .func (docDef d.name d.params d.body d.scope pm cd doc) → s₁.heap.CodeRec cd d.name → mg d.name = some (.ref fa) →
      s₁.heap.get? a = some { cls := .type "list", data := .seq vs.toArray } → IntsAre vs ns → ns.length ≤ n →
      s.gens = #[] → s.os = s₁.os →
      Fr s₁.heap s₁.heap.objs.size s.heap (bindL (envOfC d.name d.scope s₁.heap.objs.size fa cd).kindOf [(x, .ref a)] fun _ => none) →
      Cl s₁.heap.objs.size (cellsFrom (s₁.heap.objs.size + 1) d.scope.names []) s.heap (bindC (envOfC d.name d.scope s₁.heap.objs.size fa cd).kindOf [(x, .ref a)] fun _ => none) →
      wpAny (model l.prog w) (callerA.deeper (envOfC d.name d.scope s₁.heap.objs.size fa cd)) (execs d.body (envOfC d.name d.scope s₁.heap.objs.size fa cd))
        (fun f s' => f = .ret (.bool true) ∧ (∀ b o, s₁.heap.get? b = some o → s'.heap.get? b = some o) ∧ s'.os = s₁.os ∧ s'.gens = #[]) (fun _ _ => False) s) :
    WalkN q loose XP YP l.row.toRowW d [] (fun f vs => PySem.call f vs) := by
  intro w s₀ s₁ mg mb G Y fa o pm cd doc dV kV ho hd hcd hD hmg hg args vals as hpre hlay hrd hwl hlo
  obtain rfl : dV = .none := Dflts.none hD hdf
  obtain rfl : kV = .none := Dflts.noKw hD
  obtain ⟨a, vs, ns, rfl, rfl, hobj, hints, hlen⟩ := script_of hn hpre hwl
  refine enter_callW ?_
  refine call_cells_ret (o := o) (by rw [depth_caller]; decide) ho (fd_plain hd) G.T.nolimit hcd (hbind pm cd doc (.ref a)) (fun y hy => ?_) (fun h₁ tk F X => ?_) hco hgen hk
  · obtain rfl : y = (x, Value.ref a) := List.mem_singleton.mp hy
    rcases hx with e | e
    · exact .inl e
    · exact .inr ⟨e, cellsFrom_some _ _ _ (.inl e)⟩
  · refine wpAny_mono (body w s₀ s₁ { s₁ with heap := h₁, toks := tk } mg mb fa o pm cd doc a vs ns G Y ho (fd_plain hd) hcd hmg hobj hints hlen hg rfl F X) (fun f s' hq => ?_) (fun _ _ hq => hq)
    obtain ⟨rfl, h2, h3, h4⟩ := hq
    exact ⟨.inl ⟨.bool true, .bool true, [], rfl, fun _ => rfl, .bool true, post_true l _, fun _ => ⟨List.Pairwise.nil, fun _ hm => (nomatch hm)⟩⟩, h2, h3, h4⟩

/-! ### rules over ANY heap (no ledger) from facts about the written part K: the library's own take a ledger (News) for what they write -/
section
variable {prog : Program} {w : World} {A : Around} {E : Value → Shared → Prop} {s : Shared} {K : Frag}

/-- a def of the module, or a method (qual 'C.m'), entered: the frame is the next address; cells behind it -/
theorem call_fn {R : Result → Shared → Prop} {name qual : Str} {params : Arguments} {body : List Stmt} {scope : Scope} {dV kV doc pm cdv ct oc : Value} {an od : Option Addr} {osl : Array (Option Value)} {f : Addr} {args : Args} {binds : List (Str × Value)}
    (X : K.In s.heap) (hlim : s.heap.NoLimit) (ho : K.lookup f = some ⟨oc, od, .func (fnOf name qual params body scope dV kV doc pm an cdv ct), osl⟩) (hcd : codeIn K cdv qual = true) (hroom : A.depth < recursionLimit)
    (hbind : BindsTo s (fnOf name qual params body scope dV kV doc pm an cdv ct) args binds)
    (hkind : (binds.all fun y => scope.names.lookup y.1 == some .local || scope.names.lookup y.1 == some .cell) = true)
    (h : ∀ s₁, InCallC s s.heap.objs.size (bindL (envOfC qual scope s.heap.objs.size f cdv).kindOf binds fun _ => none) (cellsFrom (s.heap.objs.size + 1) scope.names [])
        (bindC (envOfC qual scope s.heap.objs.size f cdv).kindOf binds fun _ => none) s₁ →
      wpAny (model prog w) (A.deeper (envOfC qual scope s.heap.objs.size f cdv)) (execs body (envOfC qual scope s.heap.objs.size f cdv))
        (fun fl s' => R (.ok (.ret (match fl with | .ret v => v | _ => .none))) s')
        (fun e s' => wpAny (model prog w) (A.deeper (envOfC qual scope s.heap.objs.size f cdv)) (leaving (envOfC qual scope s.heap.objs.size f cdv) e) (fun _ s'' => R (.error e) s'') (fun e' s'' => R (.error e') s'') s') s₁)
    (hco : scope.isCoroutine = false) (hgen : scope.isGenerator = false) (hk : scope.kind = .function) : codeAny (model prog w) A (.call (.ref f) args) R s := by
  refine codeAny_call_function hroom (X _ _ ho) rfl hco hgen rfl (codeRec_of X hcd) (hbind _ _ _ _ ?_)
  refine wpAny_newFunctionEnv_cells hk (kindsX hkind _) fun env he s₁ x => ?_
  subst he
  exact ⟨hlim.keeps x.toInCall.keep, codeAny_func (h s₁ x)⟩

/-- C(..): dict at size, instance at size + 1, then __init__ -/
theorem make_obj {R : Result → Shared → Prop} {C fI : Addr} {rest : List Value} {kw : List (Str × Value)}
    (X : K.In s.heap) (hm : makesIn K C = true) (hi : findIn K (.ref C) "__init__" = some (some (.ref fI))) (hf : isFn K (.ref fI) = true)
    (h : codeAny (model prog w) (A.under (.builtin "type.__call__" ⟨.ref C :: rest, kw⟩)) (.call (.ref fI) ⟨.ref (s.heap.objs.size + 1) :: rest, kw⟩) (InitBack (s.heap.objs.size + 1) R)
      { s with heap := (s.heap.push emptyDict).push (instObj C s.heap.objs.size) }) : codeAny (model prog w) A (.call (.ref C) ⟨rest, kw⟩) R s := by
  obtain ⟨hh, g, d, t, os⟩ := s
  exact make_core (makes_of X hm) (looks_findIn X hi) (fun self => bind_fn X self (beq_iff_eq.mp hf)) (.inl rfl) h

/-- x.name where the instance's dict holds the name and the class does not -/
theorem get_field {x C : Addr} {ox : Obj} {es : List DictEntry} {n : Nat} {name : Str} {expr : Bool} {v : Value} {Q : Value → Shared → Prop}
    (X : K.In s.heap) (I : PySem.W.InstAt s.heap x ox C (some (dictOf es n))) (hg : plainGet K C name = true) (hh : hasDictIn K C = true) (ha : findIn K (.ref C) name = some none)
    (hl : getL name es = some (some v)) (hv : handedIn v = true) (h : Q v { s with toks := s.toks + 1 }) : wpAny (model prog w) A (getAttr (.ref x) name expr) Q E s :=
  get_value X I (plainGet_of hg).1 (findObj_own hh ha rfl hl) hv h

/-- x.m(..): the method found in the class -/
theorem get_method {x C f : Addr} {ox : Obj} {es : List DictEntry} {n : Nat} {name : Str} {pl : Sem Bool} {Q : Value × List Value → Shared → Prop}
    (X : K.In s.heap) (I : PySem.W.InstAt s.heap x ox C (some (dictOf es n))) (hg : plainGet K C name = true) (hf : findIn K (.ref C) name = some (some (.ref f))) (ht : isFn K (.ref f) = true)
    (hl : getL name es = some none) (h : Q (.ref f, [.ref x]) s) : wpAny (model prog w) A (getMethod (.ref x) name pl) Q E s :=
  method_fn X I (plainGet_of hg).1 (plainGet_of hg).2 hf (beq_iff_eq.mp ht) (by show (lookIn name (dictOf es n)).map _ = _; rw [lookIn_dict, hl]; rfl) h

/-! the whole heap as the ledger: makes every rule that writes through a ledger a rule over any heap -/
def noObjs (h : Heap) : Heap := { h with objs := #[] }
theorem noObjs_get (h : Heap) (b : Addr) : (noObjs h).get? b = none := by
  cases e : (noObjs h).get? b with
  | none => rfl
  | some o => exact absurd (Heap.lt_size e) (Nat.not_lt_zero _)
def ledger (h : Heap) (L d : Addr) : List (Addr × Obj) := (List.range h.objs.size).filterMap fun a => if a = L ∨ a = d then none else (h.get? a).map fun o => (a, o)
theorem mem_ledger {h : Heap} {L d a : Addr} {o : Obj} : (a, o) ∈ ledger h L d ↔ a ≠ L ∧ a ≠ d ∧ h.get? a = some o := by
  unfold ledger
  rw [List.mem_filterMap]
  constructor
  · rintro ⟨b, _, e⟩
    split at e
    · cases e
    · rename_i hb
      obtain ⟨o', ho, e'⟩ := Option.map_eq_some_iff.mp e
      cases e'
      exact ⟨fun q => hb (.inl q), fun q => hb (.inr q), ho⟩
  · rintro ⟨n1, n2, ho⟩
    refine ⟨a, List.mem_range.mpr (Heap.lt_size ho), ?_⟩
    rw [if_neg (show ¬ (a = L ∨ a = d) from fun q => q.elim n1 n2), ho] <;> rfl
theorem news_ledger {h : Heap} {L d : Addr} {od : Obj} (hne : d ≠ L) (ho : h.get? d = some od) : News (noObjs h) L h ([] ++ (d, od) :: ledger h L d) := by
  rintro ⟨a, o⟩ hp
  rcases List.mem_cons.mp hp with e | hp
  · cases e
    exact ⟨ho, hne, noObjs_get _ _⟩
  · obtain ⟨n1, n2, e⟩ := mem_ledger.mp hp
    exact ⟨e, n1, noObjs_get _ _⟩
theorem fr_all {h : Heap} {L : Addr} {m : Str → Option Value} (n : h.Ns L m) : Fr (noObjs h) L h m :=
  ⟨n, fun b o e => (by rw [noObjs_get] at e; cases e), Nat.zero_le _⟩
/-- Upd of the head entry (for append_K, setItem_K ..) -/
theorem upd_ledger {h : Heap} {L d : Addr} {o o' : Obj} : Upd d o o' ((d, o) :: ledger h L d) ((d, o') :: ledger h L d) :=
  .head fun ⟨_, _⟩ hp => (mem_ledger.mp hp).2.1

/-- x.name = v over any heap: L is any namespace of the heap (the frame's, say): its map stays, its object is not told; all else but the dict stays -/
theorem set_field {x C dx L : Addr} {ox : Obj} {m : Str → Option Value} {es es' : List DictEntry} {n n' : Nat} {name : Str} {v : Value} {Q : Unit → Shared → Prop}
    (X : K.In s.heap) (I : PySem.W.InstAt s.heap x ox C (some (dictOf es n))) (hd : ox.dict = some dx) (hL : s.heap.Ns L m) (hne : dx ≠ L)
    (hs : findIn K (.ref C) "__setattr__" = some (some (.builtin "object.__setattr__"))) (hp : plainOver K C = true) (ht : takerIn K C name = some none) (hh : hasDictIn K C = true) (hl : (getL name es).isSome = true)
    (e : (putL name (PyData.keyHash w.params name) (.str name (s.toks + 1)) v es, putN name es n) = (es', n')) (hz : es'.length ≤ 1000)
    (h : ∀ h' : Heap, h'.Ns L m → h'.get? dx = some (dictOf es' n') → (∀ b o, b ≠ dx → b ≠ L → s.heap.get? b = some o → h'.get? b = some o) → Q () { s with heap := h', toks := s.toks + 2 }) :
    wpAny (model prog w) A (setAttr (.ref x) name v) Q E s := by
  obtain ⟨e1, e2⟩ := Prod.mk.inj e
  have hdx : s.heap.get? dx = some (dictOf es n) := by
    have := I.dict
    rw [hd] at this
    exact this
  refine set_plain X I hs (osa_dict (s := { s with toks := s.toks + 1 }) (h₀ := noObjs s.heap) (L := L) (m := m) (od := dictOf es n) (od' := dictOf es' n') (es := es') (n := n') (pre := []) (post := ledger s.heap L dx)
    (fr_all hL) (news_ledger hne hdx) X I hd hp ht hh hl (fun _ q => nomatch q) (fun ⟨_, _⟩ q => (mem_ledger.mp q).2.1) (by rw [putName_dict, e1, e2]) rfl hz fun h' F' N' => ?_)
  exact h h' F'.ns (N'.get (List.Mem.head _)) fun b o n1 n2 ho => N'.get (List.Mem.tail _ (mem_ledger.mpr ⟨n2, n1, ho⟩))
end
end Att

namespace L2
open PySem PySem.Spec PyProof.Rows

theorem vals_ints : ∀ {vs : List Value} {ns : List Int}, IntsAre vs ns → Vals (ns.map V.int) vs
  | _, _, .nil => .nil
  | _, _, .cons n t h => .cons ⟨t, rfl⟩ (vals_ints h)

/-- nothing is tracked but the script, known to the object (or it is an object of the module) -/
def Only (H : Hp) : Prop := ∀ b, H b = none ∨ ∃ o xs, H b = some (.frz o (.lst xs))

/-- THE HEAD: the law's promise, at the heap behind the top. F, the promise of the law's def, may use that base is part of the heap (so K.In base, base.Ns mainGlobals mg stand in Mod) -/
theorem law_call {P : Program} {w : World} {K : PySem.W.Frag} {mg mb : Str → Option Value} {CX : CXT} {k : Nat} {fa a : Addr} {fd : FuncData} {x : Str} {sp : Sp} {s₁ : Shared} {vs : List Value} {ns : List Int}
    (KX : K.In s₁.heap) (hns : s₁.heap.Ns mainGlobals mg) (hb : s₁.heap.Ns builtinsNs mb) (hbb : ∀ x : Str, x ≠ "__name__" → mb x = bootBuiltins x) (hlim : s₁.heap.NoLimit) (hg : s₁.gens = #[])
    (ha : s₁.heap.get? a = some { cls := .type "list", data := .seq vs.toArray }) (hi : IntsAre vs ns) (hl : ns.length ≤ sizeLine) (hr : Room k callerA)
    (F : ∀ base : Heap, K.In base → base.Ns mainGlobals mg → FnOk P w K mg base CX k fa fd [x] sp) (hbind : ∀ (s : Shared) (u : Value), BindsTo s fd ⟨[u], []⟩ [(x, u)])
    (hsp : ∀ H : Hp, Only H → SqL K H a (ns.map V.int) → sp [.ref a] H (fun v _ => v = .bl true) fun _ _ _ => False)
    (hCX : ∀ H e s', CX [] H s₁ (fun _ _ _ => False) e s' → False) :
    codeAny (model P w) callerA (.call (.ref fa) ⟨[.ref a], []⟩) (fun r s' => r = .ok (.ret (.bool true)) ∧ OldK s₁.heap s'.heap ∧ s'.os = s₁.os ∧ AllBare s'.gens) s₁ := by
  have rv := vals_ints hi
  have lenV := hi.length
  -- from an abstract heap in which nothing but the script may be tracked
  have core : ∀ H : Hp, Only H → SqL K H a (ns.map V.int) → HOk P w H s₁.heap → (∀ b, H b ≠ none → b = a) → (H a ≠ none → K.lookup a = none) →
      codeAny (model P w) callerA (.call (.ref fa) ⟨[.ref a], []⟩) (fun r s' => r = .ok (.ret (.bool true)) ∧ OldK s₁.heap s'.heap ∧ s'.os = s₁.os ∧ AllBare s'.gens) s₁ := by
    intro H hO hS hok hA hK
    have base_of : ∀ {b : Addr} {o : Obj}, s₁.heap.get? b = some o → H b = none → (hidT s₁.heap H).get? b = some o := fun e n => hidT_get e n
    have noA : ∀ {b : Addr} {o : Obj} {es : Array DictEntry} {ep : Nat}, s₁.heap.get? b = some o → o.data = .dict es ep → H b = none := fun {b o es ep} e d => by
      cases q : H b with
      | none => rfl
      | some u =>
        have e' : b = a := hA b (by rw [q]; simp)
        subst e'
        rw [ha] at e; cases e
        have d' : Data.seq vs.toArray _ = Data.dict es ep := d
        cases d'
    have nsK : ∀ {b : Addr} {m : Str → Option Value}, s₁.heap.Ns b m → (hidT s₁.heap H).Ns b m := fun {b m} ⟨o, es, ep, e, d, r⟩ => ⟨o, es, ep, base_of e (noA e d), d, r⟩
    have hKb : K.In (hidT s₁.heap H) := fun b o e => base_of (KX b o e) (by
      cases q : H b with
      | none => rfl
      | some u =>
        have e' : b = a := hA b (by rw [q]; simp)
        subst e'
        rw [hK (by rw [q]; simp)] at e; cases e)
    have hM : Mod K mg (hidT s₁.heap H) := ⟨hKb, nsK hns, ⟨mb, nsK hb, hbb⟩, let ⟨mc, h1, h2⟩ := hlim; ⟨mc, nsK h1, h2⟩⟩
    have e0 : Env0 P w K mg (hidT s₁.heap H) callerA [] s₁ H := ⟨rfl, hM, fun b o e => of_hidT e, Nat.le_of_eq (hidT_size _ _), trivial, fun b hb => absurd (show b ∈ ([] : List Addr) from hb) (by simp), hok, .of_eq hg⟩
    refine codeAny_mono ((F _ hKb (nsK hns)).run callerA [] s₁ H ⟨[.ref a], []⟩ [.ref a] [.ref a] _ _ hr e0 (hbind s₁ (.ref a)) (.cons rfl .nil) (hsp H hO hS)) fun r s' h => ?_
    cases r with
    | error e => exact (hCX H e s' h).elim
    | ok fl =>
      cases fl with
      | next => exact False.elim h
      | brk => exact False.elim h
      | cont => exact False.elim h
      | ret u =>
        obtain ⟨v, H', os, bare, un, hok', r', q⟩ := h
        have q' : v = .bl true := q
        subst q'
        obtain rfl : u = Value.bool true := r'
        refine ⟨rfl, OldK.of_keep fun b o e => ?_, os, bare⟩
        cases q : H b with
        | none => exact un.keep b o e q (by intro z; exact absurd (show b ∈ ([] : List Addr) from z) (by simp)) (by simp)
        | some u =>
          rcases hO b with z | ⟨ob, xs, z⟩
          · rw [q] at z; cases z
          · have z2 := un.frzs b ob _ z
            obtain ⟨e1, _⟩ := hok b _ z
            obtain ⟨e2, _⟩ := hok' b _ z2
            rw [e] at e1; cases e1
            exact e2
  cases hk : K.lookup a with
  | some o =>
    -- the script is one of the module's own objects
    have e := KX a o hk
    rw [ha] at e
    cases e
    refine core (fun _ => none) (fun _ => .inl rfl) (.inr ⟨_, vs.toArray, _, hk, rfl, rfl, rfl, by rw [List.size_toArray, lenV]; exact hl, by simpa using rv⟩) (fun b u z => by have z' : (none : Option HO) = some u := z; cases z') (fun b z => absurd rfl z) fun z => absurd rfl z
  | none =>
    refine core (fun b => if b = a then some (.frz { cls := .type "list", data := .seq vs.toArray } (.lst (ns.map V.int))) else none) (fun b => ?_) (.inl (.inr ⟨{ cls := .type "list", data := .seq vs.toArray }, if_pos rfl⟩)) (fun b u z => ?_) (fun b z => ?_) fun _ => hk
    · by_cases hb : b = a
      · exact .inr ⟨_, _, if_pos hb⟩
      · exact .inl (if_neg hb)
    · by_cases hb : b = a
      · have z' := (if_pos hb).symm.trans z
        cases z'
        subst hb
        exact ⟨ha, by rw [List.length_map]; exact hl, vs, _, rv, ha⟩
      · have z' := (if_neg hb).symm.trans z
        cases z'
    · by_cases hb : b = a
      · exact hb
      · exact absurd (if_neg hb) z
end L2

namespace L2
open PySem PySem.Spec PyProof.Rows

abbrev KOf {K : PySem.W.Frag} {h : Heap} (_ : K.In h) : PySem.W.Frag := K

/-- the goal that k_head leaves (case hc), from the law's promise. F gives the function object fd (K's own) once, then the promise over every base -/
theorem walk_of {l : PySem.W.OpenLaw} {n k : Nat} {q : Program} {loose : List Str} {XP : (Str → Option Value) → Heap → Prop} {YP : World → Heap → Prop} {d : DefRec} {K : Params → PySem.W.Frag} {CX : World → CXT} {sp : World → Sp} {x : Str}
    (hn : l.most = some n) (hn2 : n ≤ sizeLine) (hdf : d.params.defaults = []) (hr : Room k callerA)
    (hY : ∀ (w : World) (h : Heap), YP w h → (K w.params).In h)
    (F : ∀ (w : World) (mg : Str → Option Value) (fa : Addr) (h : Heap), (K w.params).In h → h.Ns mainGlobals mg → mg d.name = some (.ref fa) →
      ∃ fd : FuncData, (∀ (s : Shared) (u : Value), BindsTo s fd ⟨[u], []⟩ [(x, u)]) ∧
        ∀ base : Heap, (K w.params).In base → base.Ns mainGlobals mg → FnOk l.prog w (K w.params) mg base (CX w) k fa fd [x] (sp w))
    (hsp : ∀ (w : World) (H : Hp) (a : Addr) (ns : List Int), ns.length ≤ n → Only H → SqL (K w.params) H a (ns.map V.int) → sp w [.ref a] H (fun v _ => v = .bl true) fun _ _ _ => False)
    (hCX : ∀ (w : World) (H : Hp) (s : Shared) (e : Value) (s' : Shared), CX w [] H s (fun _ _ _ => False) e s' → False) :
    PySem.W.WalkO q loose XP YP l.row.toRowW d [] (fun f vs => PySem.call f vs) := by
  refine Att.attach_call hn hdf fun w s₀ s₁ mg mb fa o pm cd doc a vs ns G Y ho hd hcd hmg hobj hints hlen hg => ?_
  have KX := hY w _ Y
  obtain ⟨fd, hb, hF⟩ := F w mg fa _ KX G.T.g hmg
  exact law_call KX G.T.g G.T.b G.T.builtins G.T.nolimit hg hobj hints (Nat.le_trans hlen hn2) hr hF hb (fun H hO hS => hsp w H a ns hlen hO hS) fun H e s' => hCX w H s₁ e s'
/-- the same where the promise hangs on the written part alone: (sp := My.sp_law), no hole under a binder -/
theorem walk_ofK {l : PySem.W.OpenLaw} {n k : Nat} {q : Program} {loose : List Str} {XP : (Str → Option Value) → Heap → Prop} {YP : World → Heap → Prop} {d : DefRec} {K : Params → PySem.W.Frag} {CX : CXT} {sp : PySem.W.Frag → Sp} {x : Str}
    (hn : l.most = some n) (hn2 : n ≤ sizeLine) (hdf : d.params.defaults = []) (hr : Room k callerA)
    (hY : ∀ (w : World) (h : Heap), YP w h → (K w.params).In h)
    (F : ∀ (w : World) (mg : Str → Option Value) (fa : Addr) (h : Heap), (K w.params).In h → h.Ns mainGlobals mg → mg d.name = some (.ref fa) →
      ∃ fd : FuncData, (∀ (s : Shared) (u : Value), BindsTo s fd ⟨[u], []⟩ [(x, u)]) ∧
        ∀ base : Heap, (K w.params).In base → base.Ns mainGlobals mg → FnOk l.prog w (K w.params) mg base CX k fa fd [x] (sp (K w.params)))
    (hsp : ∀ (K : PySem.W.Frag) (H : Hp) (a : Addr) (ns : List Int), ns.length ≤ n → Only H → SqL K H a (ns.map V.int) → sp K [.ref a] H (fun v _ => v = .bl true) fun _ _ _ => False)
    (hCX : ∀ (H : Hp) (s : Shared) (e : Value) (s' : Shared), CX [] H s (fun _ _ _ => False) e s' → False) :
    PySem.W.WalkO q loose XP YP l.row.toRowW d [] (fun f vs => PySem.call f vs) :=
  walk_of (K := K) (CX := fun _ => CX) (sp := fun w => sp (K w.params)) hn hn2 hdf hr hY F (fun w H a ns h1 h2 h3 => hsp (K w.params) H a ns h1 h2 h3) fun _ H s e s' => hCX H s e s'
end L2

/- THE LAST THEOREM (shape; LID, My.* are yours):
   My.Adr: a structure of the addresses that your layer names (classes, functions); My.Txt K t: a structure (Prop) of the equations over K;
   My.txt_mk : {K} {implicit addresses ..} (e1 : nsIn K mainGlobals "law" = some (some (.ref f))) (e2 : K.lookup f = some ⟨oc, od, .func (fnOf "law" "law" params body scope dV kV doc pm an cdv ct), sl⟩) (e3 : codeIn K cdv "law" = true) .. : ∃ t, My.Txt K t

set_option maxRecDepth 100000 in
set_option maxHeartbeats 0 in
theorem PySem.Challenge.cw_LID_holds : PySem.Challenge.rw_LID.Holds := by
  w_on; o_law; k_head; (case hw => w_witness2)
  k_fill
  refine L2.walk_of (l := PySem.Challenge.rw_LID) (n := 63) (k := 40) (x := "script") (CX := fun w => ..) (sp := fun _ => My.sp_law) rfl (by decide) rfl ⟨rfl, by decide, by decide⟩ (fun w h Y => PySem.W.kIn_of Y) ?F ?S ?C
  case F =>
    intro w mg fa h KX G hmg
    have T : ∃ t, My.Txt (L2.KOf KX) t := by
      dsimp only [L2.KOf]                          -- K must stand as «<heap const> w.params» for k_is
      refine' My.txt_mk ?e1 ?e2 ?e3 ..
      (case e1 => PySem.W.k_is)                    -- in the order: a name -> its address -> its object -> its parts
      (case e2 => PySem.W.k_is)
      ..
    obtain ⟨t, T⟩ := T
    have e0 := hmg.symm.trans (PySem.W.mg_of KX G T.law)
    cases e0                                       -- fa is the law's own address
    exact ⟨_, fun s u => .of_eq rfl, fun base kb nb => My.law_fn T kb nb⟩     -- if «.of_eq rfl» comes too early: refine' ⟨_, ?b, fun base kb nb => My.law_fn T kb nb⟩; exact fun s u => .of_eq rfl
  case S => exact fun w H a ns hl hO hS => ..
  case C => exact ..
(the tactic k_is has no namespace: write k_is) -/

/-! SHORT WORDS over the layer: a def of the text, its body, what a loop and a test want. -/
namespace L2
open PySem PySem.Spec PyProof.Rows

/-! ### the text by places -/
/-- the j-th statement of a class's body -/
def inClass (s : Stmt) (j : Nat) : Stmt := match s with
  | .ClassDef _ _ _ body _ _ _ _ _ _ _ => body.getD j (.Pass ⟨0, 0, 0, 0⟩)
  | _ => .Pass ⟨0, 0, 0, 0⟩
def defArgs (s : Stmt) : Arguments := match s with
  | .FunctionDef _ a _ _ _ _ _ _ _ _ => a
  | _ => { posonlyargs := [], args := [], vararg := none, kwonlyargs := [], kw_defaults := [], kwarg := none, defaults := [] }
def defBody (s : Stmt) : List Stmt := match s with
  | .FunctionDef _ _ b _ _ _ _ _ _ _ => b
  | _ => []
def defScope (s : Stmt) : Scope := match s with
  | .FunctionDef _ _ _ _ _ _ sc _ _ _ => sc
  | _ => { kind := .function, names := [], isGenerator := false, isCoroutine := false }

/-! ### no exception leaves a def -/
abbrev CX0 : CXT := fun _ _ _ _ _ _ => False
abbrev E0 : XK := fun _ _ _ => False
theorem pass0 {X : Cx} : Passes CX0 X E0 := fun _ _ _ _ _ _ _ h => h.elim

/-! ### a def (or method) of the text as it stands behind the top -/
structure Fun (K : PySem.W.Frag) (x qual : Str) (st : Stmt) (f : Addr) (fd : FuncData) : Prop where
  ex : ∃ (oc : Value) (od : Option Addr) (kV doc pm : Value) (an : Option Addr) (cdv ct : Value) (osl : Array (Option Value)),
    fd = PySem.W.fnOf x qual (defArgs st) (defBody st) (defScope st) .none kV doc pm an cdv ct ∧ K.lookup f = some ⟨oc, od, .func fd, osl⟩ ∧ PySem.W.codeIn K cdv qual = true
  kp : PySem.W.keepIn K (.ref f) = true
section
variable {P : Program} {w : World} {K : PySem.W.Frag} {mg : Str → Option Value} {base : Heap}
/-- THE RULE for a def: its body as a term of rules, and the reading of that term -/
theorem Fun.ok {x qual : Str} {st : Stmt} {f : Addr} {fd : FuncData} {N ps : List Str} {k : Nat} {sp : Sp} (F : Fun K x qual st f fd) (S : FnScope N ps (defScope st)) (len : ∀ vs H Q E, sp vs H Q E → vs.length = ps.length)
    (hbody : ∀ (cdv : Value) (A : Around) (outer : List Env) (s : Shared) (H : Hp) (vs : List V) (Q : VK) (E : XK), Room k (A.deeper (envOfC qual (defScope st) s.heap.objs.size f cdv)) → sp vs H Q E →
      ∃ t, PSs (cxOf CX0 P w K mg base N qual (defScope st) f cdv A outer s H E).nox (defBody st) t ∧ t { nx := fun _ H' => Q .non H', rt := Q } (start N vs) H) : FnOk P w K mg base CX0 (k + 1) f fd ps sp := by
  obtain ⟨oc, od, kV, doc, pm, an, cdv, ct, osl, rfl, lk, hcd⟩ := F.ex
  refine fn_of lk hcd S len fun A outer s H vs Q E hr hsp => ?_
  obtain ⟨t, h, q⟩ := hbody cdv A outer s H vs Q E hr hsp
  exact ⟨t, h.nox, q⟩
/-- how its arguments bind (no defaults): h is «fun _ _ _ _ _ _ us hl => match us, hl with | [_, _], _ => rfl», one _ a parameter -/
theorem Fun.binds {x qual : Str} {st : Stmt} {f : Addr} {fd : FuncData} {ps : List Str} (F : Fun K x qual st f fd)
    (h : ∀ (kV doc pm : Value) (an : Option Addr) (cdv ct : Value) (us : List Value), us.length = ps.length → bindArgs (PySem.W.fnOf x qual (defArgs st) (defBody st) (defScope st) .none kV doc pm an cdv ct) ⟨us, []⟩ = pure (ps.zip us)) : Binds K fd ps [] := by
  obtain ⟨oc, od, kV, doc, pm, an, cdv, ct, osl, rfl, lk, hcd⟩ := F.ex
  exact .all (h kV doc pm an cdv ct)
theorem fun_mk {x qual : Str} {st : Stmt} {f : Addr} {oc : Value} {od an : Option Addr} {osl : Array (Option Value)} {kV doc pm cdv ct : Value} (l : K.lookup f = some ⟨oc, od, .func (PySem.W.fnOf x qual (defArgs st) (defBody st) (defScope st) .none kV doc pm an cdv ct), osl⟩)
    (c : PySem.W.codeIn K cdv qual = true) (k : PySem.W.keepIn K (.ref f) = true) : Fun K x qual st f (PySem.W.fnOf x qual (defArgs st) (defBody st) (defScope st) .none kV doc pm an cdv ct) := ⟨⟨oc, od, kV, doc, pm, an, cdv, ct, osl, rfl, l, c⟩, k⟩
end
theorem hu_of {A : Around} {k : Nat} (hr : Room k A) : A.units + 1 < cLine := Nat.lt_of_le_of_lt (Nat.add_le_add_left (by decide : 1 ≤ 64) _) hr.units
theorem small1000 {n : Nat} (h : n ≤ 1000) : n < sizeLine := Nat.lt_of_le_of_lt h (by decide)

/-! ### expressions in short: the name that stands in the i-th slot -/
section
variable {X : Cx}
theorem pv (i : Nat) {x : Str} {pos : Pos} (hN : X.N[i]? = some x := by rfl) (hv : Vis X.env.scope x := by first | exact Or.inl rfl | exact Or.inr (Or.inl rfl) | exact Or.inr (Or.inr rfl)) (hd : (x == ("__debug__" : Str)) = false := by decide)
    (hcd : (x == ("__classdict__" : Str)) = false := by decide) : PE X (.Name x pos) (tVar i) := pe_var hN hv hd hcd
/-- len of a dict -/
theorem call_lenD : CallR X (.builtin "len") (fun xs H Q => ∃ a kvs, xs = [V.ref a] ∧ H a = some (.dK kvs) ∧ Q (.int kvs.length) H) := by
  intro pins s σ H xs us Q I r h
  obtain ⟨a, kvs, rfl, ha, q⟩ := h
  obtain ⟨u, rfl, ru⟩ := vals1 r
  cases ru
  exact d_len I (.inl ha) fun t s' I' => ⟨.int kvs.length, H, I', ⟨t, rfl⟩, q⟩
end

/-! ### tests -/
theorem iteF {A B : Prop} (h : B) : if false = true then A else B := by
  rw [if_neg Bool.false_ne_true]
  exact h
theorem iteT {A B : Prop} (h : A) : if true = true then A else B := by
  rw [if_pos rfl]
  exact h
theorem ite2 {c A B : Prop} [Decidable c] (h1 : c → A) (h2 : ¬ c → B) : if c then A else B := by
  by_cases h : c
  · rw [if_pos h]
    exact h1 h
  · rw [if_neg h]
    exact h2 h
theorem iteNS {c A B : Prop} [Decidable c] (hc : c) (h : B) : if (!decide c) = true then A else B := by
  rw [decide_eq_true hc]
  exact iteF h

/-! ### heaps -/
/-- all that was tracked is as it was -/
def Same (H H' : Hp) : Prop := ∀ b o, H b = some o → H' b = some o
theorem Same.refl (H : Hp) : Same H H := fun _ _ h => h
theorem Same.trans {H H1 H2 : Hp} (a : Same H H1) (b : Same H1 H2) : Same H H2 := fun c o h => b c o (a c o h)
theorem Same.free {H H' : Hp} (e : Same H H') {l : Addr} (h : H' l = Option.none) : H l = Option.none := by
  cases q : H l with
  | none => rfl
  | some o =>
    rw [e l o q] at h
    cases h
theorem Same.seq {K : PySem.W.Frag} {H H' : Hp} {a : Addr} {xs : List V} (e : Same H H') (h : SqL K H a xs) : SqL K H' a xs := by
  rcases h with (h | ⟨o, h⟩) | h
  · exact .inl (.inl (e _ _ h))
  · exact .inl (.inr ⟨o, e _ _ h⟩)
  · exact .inr h

/-! ### a dict's pairs: keys that differ -/
section
variable {κ : Type} [DecidableEq κ]
theorem valV_not {kvs : List (κ × V)} {k : κ} (h : valV kvs k = none) : ¬ k ∈ kvs.map (·.1) := by
  intro m
  obtain ⟨p, hp, e⟩ := List.mem_map.mp m
  have q : (kvs.any fun kv => decide (kv.1 = k)) = true := List.any_eq_true.mpr ⟨p, hp, decide_eq_true e⟩
  rw [valV_any, h] at q
  exact absurd q (by simp)
theorem valV_in {kvs : List (κ × V)} {k : κ} {v : V} (h : valV kvs k = some v) : k ∈ kvs.map (·.1) := by
  have q : (kvs.any fun kv => decide (kv.1 = k)) = true := by
    rw [valV_any, h]
    all_goals rfl
  obtain ⟨p, hp, e⟩ := List.any_eq_true.mp q
  exact List.mem_map.mpr ⟨p, hp, of_decide_eq_true e⟩
theorem nd_snoc : ∀ {l : List κ} {k : κ}, l.Nodup → ¬ k ∈ l → (l ++ [k]).Nodup
  | [], k, _, _ => by simp
  | a :: r, k, h, hk => by
    obtain ⟨h1, h2⟩ := List.nodup_cons.mp h
    show (a :: (r ++ [k])).Nodup
    refine List.nodup_cons.mpr ⟨fun m => ?_, nd_snoc h2 fun m => hk (List.mem_cons.mpr (Or.inr m))⟩
    rcases List.mem_append.mp m with q | q
    · exact h1 q
    · exact hk (List.mem_cons.mpr (Or.inl (List.mem_singleton.mp q).symm))
theorem nd_putK {kvs : List (κ × V)} {k : κ} (v : V) (hn : (kvs.map (·.1)).Nodup) (h : valV kvs k = none) : ((putK kvs k v).map (·.1)).Nodup := by
  rw [putK_new v h, List.map_append]
  exact nd_snoc hn (valV_not h)
theorem dropK_pos {p : κ × V} {r : List (κ × V)} {k : κ} (e : p.1 = k) : dropK (p :: r) k = dropK r k := by
  unfold dropK
  rw [List.filter_cons, if_neg (by simp [e])]
theorem dropK_neg {p : κ × V} {r : List (κ × V)} {k : κ} (e : ¬ p.1 = k) : dropK (p :: r) k = p :: dropK r k := by
  unfold dropK
  rw [List.filter_cons, if_pos (by simp [e])]
theorem dropK_no : ∀ {kvs : List (κ × V)} {k : κ}, ¬ k ∈ kvs.map (·.1) → dropK kvs k = kvs
  | [], _, _ => rfl
  | p :: r, k, h => by
    have h' : ¬ k ∈ r.map (·.1) := fun m => by
      obtain ⟨q, hq, e⟩ := List.mem_map.mp m
      exact h (List.mem_map.mpr ⟨q, List.mem_cons.mpr (Or.inr hq), e⟩)
    rw [dropK_neg fun e => h (List.mem_map.mpr ⟨p, List.mem_cons.mpr (Or.inl rfl), e⟩), dropK_no h']
theorem dropK_mem {kvs : List (κ × V)} {k : κ} {p : κ × V} (h : p ∈ dropK kvs k) : p ∈ kvs := (List.mem_filter.mp h).1
theorem nd_dropK : ∀ {kvs : List (κ × V)} {k : κ}, (kvs.map (·.1)).Nodup → ((dropK kvs k).map (·.1)).Nodup
  | [], _, _ => List.nodup_nil
  | p :: r, k, h => by
    have h : (p.1 :: r.map (·.1)).Nodup := h
    obtain ⟨h1, h2⟩ := List.nodup_cons.mp h
    by_cases e : p.1 = k
    · rw [dropK_pos e]
      exact nd_dropK h2
    · rw [dropK_neg e]
      show (p.1 :: (dropK r k).map (·.1)).Nodup
      refine List.nodup_cons.mpr ⟨fun m => h1 ?_, nd_dropK h2⟩
      obtain ⟨q, hq, eq⟩ := List.mem_map.mp m
      exact List.mem_map.mpr ⟨q, dropK_mem hq, eq⟩
theorem dropK_len : ∀ {kvs : List (κ × V)} {k : κ}, (kvs.map (·.1)).Nodup → k ∈ kvs.map (·.1) → (dropK kvs k).length + 1 = kvs.length
  | [], _, _, m => by simp at m
  | p :: r, k, h, m => by
    have h : (p.1 :: r.map (·.1)).Nodup := h
    have m : k = p.1 ∨ k ∈ r.map (·.1) := List.mem_cons.mp m
    obtain ⟨h1, h2⟩ := List.nodup_cons.mp h
    by_cases e : p.1 = k
    · subst e
      rw [dropK_pos rfl, dropK_no h1]
      all_goals rfl
    · have m' : k ∈ r.map (·.1) := m.resolve_left fun z => e z.symm
      have q := dropK_len h2 m'
      rw [dropK_neg e, List.length_cons, List.length_cons]
      omega
end
/-! ### lists -/
theorem at_of {xs : List V} {z : Int} {j : Nat} {v : V} (e : z = (j : Int)) (h : xs[j]? = some v) : atI xs z = some v := by
  rw [e]
  exact atI_nat h
theorem nd_ix {α : Type} {l : List α} (hN : l.Nodup) {i j : Nat} {x : α} (a : l[i]? = some x) (b : l[j]? = some x) : i = j := by
  obtain ⟨h1, e1⟩ := List.getElem?_eq_some_iff.mp a
  obtain ⟨h2, e2⟩ := List.getElem?_eq_some_iff.mp b
  exact (List.getElem_inj hN).mp (e1.trans e2.symm)
theorem sum_set : ∀ {l : List Int} {j : Nat} {z y : Int}, l[j]? = some z → (l.set j y).sum = l.sum - z + y
  | [], j, z, y, h => by simp at h
  | a :: r, 0, z, y, h => by
    have e : a = z := Option.some.inj h
    subst e
    show (y :: r).sum = (a :: r).sum - a + y
    rw [List.sum_cons, List.sum_cons]
    omega
  | a :: r, j + 1, z, y, h => by
    have ih := sum_set (l := r) (j := j) (z := z) (y := y) h
    show (a :: r.set j y).sum = (a :: r).sum - z + y
    rw [List.sum_cons, List.sum_cons, ih]
    omega
theorem sum_take : ∀ {l : List Int} {i : Nat} {z : Int}, l[i]? = some z → (l.take (i + 1)).sum = (l.take i).sum + z
  | [], i, z, h => by simp at h
  | a :: r, 0, z, h => by
    have e : a = z := Option.some.inj h
    subst e
    show ([a] : List Int).sum = ([] : List Int).sum + a
    rw [List.sum_cons]
    exact Int.add_comm _ _
  | a :: r, i + 1, z, h => by
    have ih := sum_take (l := r) (i := i) (z := z) h
    show (a :: r.take (i + 1)).sum = (a :: r.take i).sum + z
    rw [List.sum_cons, List.sum_cons, ih]
    omega
/-- a new instance and its __init__ leave all that was tracked as it was -/
theorem Same.made {H H1 : Hp} {x dx C : Addr} (nx : H x = Option.none) (nd : H dx = Option.none) (k : ∀ b o, (upd (upd H dx (.own x)) x (.ins C dx [])) b = some o → b ≠ x → H1 b = some o) : Same H H1 := fun b o e =>
  k b o (by rw [upd_ne (ne_of_none e nx), upd_ne (ne_of_none e nd)]; exact e) (ne_of_none e nx)
end L2
set_option Elab.async false
set_option linter.all false
set_option maxRecDepth 100000
/-! Rules of my own over the hand layer: a range as a value, list(range(n)). -/
namespace L2
open PySem PySem.Spec PyProof.Rows
theorem vals_of_get : ∀ {xs : List V} {us : List Value}, xs.length = us.length → (∀ (i : Nat) x u, xs[i]? = some x → us[i]? = some u → RelV x u) → Vals xs us
  | [], [], _, _ => .nil
  | [], _ :: _, h, _ => by simp at h
  | _ :: _, [], h, _ => by simp at h
  | x :: xs, u :: us, h, k => .cons (k 0 x u rfl rfl) (vals_of_get (by simpa using h) fun i y v a b => k (i + 1) y v (by simpa using a) (by simpa using b))
section
variable {X : Cx}
theorem call_range1 : CallR X (.type "range") (fun xs H Q => ∃ j, xs = [.int j] ∧ ∀ p, H p = none → Q (.ref p) (upd H p (.rng 0 j))) := by
  intro pins s σ H xs us Q I r h
  obtain ⟨j, rfl, q⟩ := h
  obtain ⟨u, rfl, t, rfl⟩ := vals1 r
  refine call_range_1 ?_
  exact ⟨.ref _, _, I.laid (o := .rng 0 j) (fun b o e => Heap.get?_push_of_some _ e) (Nat.le_refl _) ⟨_, _, _, Heap.get?_push_size _ rfl⟩, rfl, q _ (I.hok.fresh (Nat.le_refl _))⟩
theorem call_list_rng (hc : X.calm = true) : CallR X (.type "list") (fun xs H Q => ∃ p lo hi, xs = [.ref p] ∧ H p = some (.rng lo hi) ∧ (-(2 ^ 62) ≤ lo ∧ lo < 2 ^ 62 ∧ -(2 ^ 62) ≤ hi ∧ hi < 2 ^ 62) ∧ (hi - lo).toNat ≤ sizeLine ∧
    ∀ l, H l = none → Q (.ref l) (upd H l (.lst ((List.range (hi - lo).toNat).map fun (k : Nat) => V.int (lo + k))))) := by
  intro pins s σ H xs us Q I r h
  obtain ⟨p, lo, hi, rfl, hp, ⟨h1, h2, h3, h4⟩, hz, q⟩ := h
  obtain ⟨u, rfl, rx⟩ := vals1 r
  cases rx
  obtain ⟨t, u, v, e⟩ : ∃ t u v, s.heap.get? p = some { cls := .type "range", data := .fields #[.int lo t, .int hi u, .int 1 v] } := I.hok p _ hp
  have e2 : Builtin.Range.rangeSize lo hi 1 = (((hi - lo).toNat : Nat) : Int) := by rw [rangeSize_one]; split <;> omega
  refine call_list_range (n := (hi - lo).toNat) (I.ok.hd hc) e (small_one h1 h2 h3 h4) e2 (by rw [sizeLine_eq] at hz; exact hz) fun h' tk acc' c' kp e3 hacc => ?_
  refine ⟨.ref _, _, I.laid (o := .lst ((List.range (hi - lo).toNat).map fun (k : Nat) => V.int (lo + k))) kp (Nat.le_refl _) ⟨?_, acc'.toList, c', ?_, by simpa using e3⟩, rfl, q _ (I.hok.fresh (Nat.le_refl _))⟩
  · rw [List.length_map, List.length_range]; exact hz
  · refine vals_of_get (by rw [List.length_map, List.length_range]; simpa using hacc.1.symm) fun i x u a b => ?_
    rw [List.getElem?_map] at a
    obtain ⟨k, hk, rfl⟩ := Option.map_eq_some_iff.mp a
    have hk' : k = i := by
      obtain ⟨z1, z2⟩ := List.getElem?_eq_some_iff.mp hk
      rw [List.getElem_range] at z2
      exact z2.symm
    subst hk'
    obtain ⟨t', e4⟩ := hacc.2 k u (by simpa using b)
    rw [Int.mul_one] at e4
    exact ⟨t', e4⟩
end
end L2
set_option Elab.async false
set_option linter.all false
set_option maxRecDepth 100000
/-! A program against a Lean function, by the hand layer: whole numbers and lists of whole numbers go in, a list of whole numbers comes back. -/
namespace SpecAt
open PySem PyProof.Rows L2

/-- an argument -/
inductive Arg where
  | int (i : Int)
  | lst (ns : List Int)
def Arg.data : Arg → PySem.W.WData
  | .int i => .int i
  | .lst ns => .list (ns.map PySem.W.WData.int)
def Arg.small : Arg → Prop
  | .int _ => True
  | .lst ns => ns.length ≤ sizeLine

theorem ints_once : ∀ {vs : List Value} {ns ms : List Int}, IntsAre vs ns → IntsAre vs ms → ns = ms
  | _, _, _, .nil, .nil => rfl
  | _, _, _, .cons n t h, .cons _ _ k => by rw [ints_once h k]

/-- every list of whole numbers that stands in the heap and is none of the module's -/
noncomputable def lists (K : PySem.W.Frag) (h : Heap) : Hp := fun b =>
  open Classical in
  if q : ∃ p : List Value × List Int, K.lookup b = none ∧ h.get? b = some { cls := .type "list", data := .seq p.1.toArray } ∧ IntsAre p.1 p.2 ∧ p.2.length ≤ sizeLine then
    some (.frz { cls := .type "list", data := .seq (Classical.choose q).1.toArray } (.lst ((Classical.choose q).2.map V.int)))
  else none

theorem lists_at {K : PySem.W.Frag} {h : Heap} {a : Addr} {vs : List Value} {ns : List Int} (hk : K.lookup a = none) (ho : h.get? a = some { cls := .type "list", data := .seq vs.toArray }) (hi : IntsAre vs ns) (hl : ns.length ≤ sizeLine) :
    lists K h a = some (.frz { cls := .type "list", data := .seq vs.toArray } (.lst (ns.map V.int))) := by
  have q : ∃ p : List Value × List Int, K.lookup a = none ∧ h.get? a = some { cls := .type "list", data := .seq p.1.toArray } ∧ IntsAre p.1 p.2 ∧ p.2.length ≤ sizeLine := ⟨(vs, ns), hk, ho, hi, hl⟩
  have z := Classical.choose_spec q
  unfold lists
  rw [dif_pos q]
  have e1 : (Classical.choose q).1 = vs := by
    have e := z.2.1.symm.trans ho
    have e' : (Data.seq (Classical.choose q).1.toArray : Data) = Data.seq vs.toArray := congrArg Obj.data (Option.some.inj e)
    injection e' with e2 _
    simpa using e2
  have e2 : (Classical.choose q).2 = ns := by
    have z3 := z.2.2.1
    rw [e1] at z3
    exact ints_once z3 hi
  rw [e1, e2]

theorem lists_of {K : PySem.W.Frag} {h : Heap} {a : Addr} {o : HO} (e : lists K h a = some o) :
    ∃ (vs : List Value) (ns : List Int), K.lookup a = none ∧ h.get? a = some { cls := .type "list", data := .seq vs.toArray } ∧ IntsAre vs ns ∧ ns.length ≤ sizeLine ∧ o = .frz { cls := .type "list", data := .seq vs.toArray } (.lst (ns.map V.int)) := by
  unfold lists at e
  by_cases q : ∃ p : List Value × List Int, K.lookup a = none ∧ h.get? a = some { cls := .type "list", data := .seq p.1.toArray } ∧ IntsAre p.1 p.2 ∧ p.2.length ≤ sizeLine
  · rw [dif_pos q] at e
    have z := Classical.choose_spec q
    exact ⟨_, _, z.1, z.2.1, z.2.2.1, z.2.2.2, (Option.some.inj e).symm⟩
  · rw [dif_neg q] at e
    cases e

/-- the arguments as they stand -/
inductive ArgsAt (K : PySem.W.Frag) (H : Hp) : List Arg → List V → Prop
  | nil : ArgsAt K H [] []
  | int (i : Int) {as : List Arg} {vs : List V} : ArgsAt K H as vs → ArgsAt K H (.int i :: as) (.int i :: vs)
  | lst {a : Addr} {ns : List Int} {as : List Arg} {vs : List V} : SqL K H a (ns.map V.int) → ns.length ≤ sizeLine → ArgsAt K H as vs → ArgsAt K H (.lst ns :: as) (.ref a :: vs)

theorem args_at {P : Params} {K : PySem.W.Frag} {h : Heap} (KX : K.In h) : ∀ (as : List Arg) (us : List Value), (∀ x ∈ as, x.small) → PySem.W.WellAll P h us (as.map Arg.data) → ∃ vs, Vals vs us ∧ ArgsAt K (lists K h) as vs
  | [], us, _, w => by
    cases w
    exact ⟨[], .nil, .nil⟩
  | .int i :: as, us, hs, w => by
    rw [List.map_cons] at w
    cases w with
    | cons a b =>
      obtain ⟨vs, r, q⟩ := args_at KX as _ (fun x hx => hs x (List.mem_cons_of_mem _ hx)) b
      have a' : PySem.W.Well P h _ (.int i) := a
      cases a'
      exact ⟨V.int i :: vs, .cons ⟨_, rfl⟩ r, .int i q⟩
  | .lst ns :: as, us, hs, w => by
    rw [List.map_cons] at w
    cases w with
    | cons a b =>
      obtain ⟨vs, r, q⟩ := args_at KX as _ (fun x hx => hs x (List.mem_cons_of_mem _ hx)) b
      have a' : PySem.W.Well P h _ (.list (ns.map PySem.W.WData.int)) := a
      cases a' with
      | @list ad its _ ho hall =>
        have hi := Att.ints_of_wellAll ns _ hall
        have hl : ns.length ≤ sizeLine := hs (.lst ns) (List.mem_cons_self ..)
        refine ⟨.ref ad :: vs, .cons rfl r, .lst ?_ hl q⟩
        cases hk : K.lookup ad with
        | some o =>
          have e := KX ad o hk
          rw [ho] at e
          cases e
          exact .inr ⟨_, its.toArray, _, hk, rfl, rfl, rfl, by rw [List.size_toArray, hi.length]; exact hl, by simpa using vals_ints hi⟩
        | none => exact .inl (.inr ⟨_, lists_at hk ho hi hl⟩)

theorem readsAll_ints {R : PySem.W.WRecords} {cl : Str → Option Addr} {h : Heap} : ∀ {ns : List Int} {its : List Value}, Vals (ns.map V.int) its → ∃ as, PySem.W.ReadsAllW R cl h its (ns.map PySem.W.WData.int) as
  | [], its, r => by
    cases r
    exact ⟨[], .nil⟩
  | n :: ns, its, r => by
    rw [List.map_cons] at r
    cases r with
    | cons a b =>
      obtain ⟨t, rfl⟩ := a
      obtain ⟨as, q⟩ := readsAll_ints b
      exact ⟨_, .cons (.int n t) q⟩

/-- THE HEAD for a function: its promise, at the heap behind the top -/
theorem spec_call {P : Program} {w : World} {K : PySem.W.Frag} {mg mb : Str → Option Value} {k : Nat} {fa : Addr} {fd : FuncData} {ps : List Str} {sp : Sp} {s₁ : Shared} {us : List Value} {vs : List V} {ans : List Int} {R : PySem.W.WRecords} {cl : Str → Option Addr}
    (KX : K.In s₁.heap) (hns : s₁.heap.Ns mainGlobals mg) (hb : s₁.heap.Ns builtinsNs mb) (hbb : ∀ x : Str, x ≠ "__name__" → mb x = bootBuiltins x) (hlim : s₁.heap.NoLimit) (hg : s₁.gens = #[]) (hr : Room k callerA)
    (F : ∀ base : Heap, K.In base → base.Ns mainGlobals mg → FnOk P w K mg base CX0 k fa fd ps sp) (hbind : BindsTo s₁ fd ⟨us, []⟩ (ps.zip us)) (hv : Vals vs us)
    (hsp : sp vs (lists K s₁.heap) (fun v H' => ∃ l, v = .ref l ∧ H' l = some (.lst (ans.map V.int))) E0) :
    codeAny (model P w) callerA (.call (.ref fa) ⟨us, []⟩) (fun r s' => (∃ v as, r = .ok (.ret v) ∧ PySem.W.ReadsW R cl s'.heap v (.list (ans.map PySem.W.WData.int)) as) ∧ OldK s₁.heap s'.heap ∧ s'.os = s₁.os ∧ AllBare s'.gens) s₁ := by
  have hok : HOk P w (lists K s₁.heap) s₁.heap := fun b u z => by
    obtain ⟨vs, ns, _, ho, hi, hl, rfl⟩ := lists_of z
    exact ⟨ho, by rw [List.length_map]; exact hl, vs, _, vals_ints hi, ho⟩
  have base_of : ∀ {b : Addr} {o : Obj}, s₁.heap.get? b = some o → lists K s₁.heap b = none → (hidT s₁.heap (lists K s₁.heap)).get? b = some o := fun e n => hidT_get e n
  have noA : ∀ {b : Addr} {o : Obj} {es : Array DictEntry} {ep : Nat}, s₁.heap.get? b = some o → o.data = .dict es ep → lists K s₁.heap b = none := fun {b o es ep} e d => by
    cases q : lists K s₁.heap b with
    | none => rfl
    | some u =>
      obtain ⟨vs, ns, _, ho, _⟩ := lists_of q
      rw [ho] at e; cases e
      have d' : Data.seq vs.toArray _ = Data.dict es ep := d
      cases d'
  have nsK : ∀ {b : Addr} {m : Str → Option Value}, s₁.heap.Ns b m → (hidT s₁.heap (lists K s₁.heap)).Ns b m := fun {b m} ⟨o, es, ep, e, d, r⟩ => ⟨o, es, ep, base_of e (noA e d), d, r⟩
  have hKb : K.In (hidT s₁.heap (lists K s₁.heap)) := fun b o e => base_of (KX b o e) (by
    cases q : lists K s₁.heap b with
    | none => rfl
    | some u =>
      obtain ⟨vs, ns, hk, _⟩ := lists_of q
      rw [hk] at e; cases e)
  have hM : Mod K mg (hidT s₁.heap (lists K s₁.heap)) := ⟨hKb, nsK hns, ⟨mb, nsK hb, hbb⟩, let ⟨mc, h1, h2⟩ := hlim; ⟨mc, nsK h1, h2⟩⟩
  have e0 : Env0 P w K mg (hidT s₁.heap (lists K s₁.heap)) callerA [] s₁ (lists K s₁.heap) := ⟨rfl, hM, fun b o e => of_hidT e, Nat.le_of_eq (hidT_size _ _), trivial, fun b hb => absurd (show b ∈ ([] : List Addr) from hb) (by simp), hok, .of_eq hg⟩
  refine codeAny_mono ((F _ hKb (nsK hns)).run callerA [] s₁ (lists K s₁.heap) ⟨us, []⟩ us vs _ _ hr e0 hbind hv hsp) fun r s' h => ?_
  cases r with
  | error e => exact False.elim h
  | ok fl =>
    cases fl with
    | next => exact False.elim h
    | brk => exact False.elim h
    | cont => exact False.elim h
    | ret u =>
      obtain ⟨v, H', os, bare, un, hok', r', l, ev, hl⟩ := h
      subst ev
      obtain rfl : u = Value.ref l := r'
      obtain ⟨_, its, n, rv, eo⟩ := hok' l _ hl
      obtain ⟨as, ra⟩ := readsAll_ints (R := R) (cl := cl) (h := s'.heap) rv
      refine ⟨⟨_, _, rfl, .list eo rfl rfl (by simpa using ra)⟩, OldK.of_keep fun b o e => ?_, os, bare⟩
      cases q : lists K s₁.heap b with
      | none => exact un.keep b o e q (by intro z; exact absurd (show b ∈ ([] : List Addr) from z) (by simp)) (by simp)
      | some u =>
        obtain ⟨vs, ns, _, ho, _, _, rfl⟩ := lists_of q
        have z2 := un.frzs b _ _ q
        obtain ⟨e2, _⟩ := hok' b _ z2
        rw [e] at ho; cases ho
        exact e2

/-- the goal that k_headS leaves (case hc), from the function's promise -/
theorem walk_spec {r : PySem.W.OpenSpec} {k : Nat} {q : Program} {loose : List Str} {XP : (Str → Option Value) → Heap → Prop} {YP : World → Heap → Prop} {d : DefRec} {K : Params → PySem.W.Frag} {ps : List Str} {sp : PySem.W.Frag → Sp}
    (Dom : List Arg → Prop) (ans : List Arg → List Int)
    (hdf : d.params.defaults = []) (hr : Room k callerA)
    (hY : ∀ (w : World) (h : Heap), YP w h → (K w.params).In h)
    (F : ∀ (w : World) (mg : Str → Option Value) (fa : Addr) (h : Heap), (K w.params).In h → h.Ns mainGlobals mg → mg d.name = some (.ref fa) →
      ∃ fd : FuncData, (∀ (s : Shared) (us : List Value), us.length = ps.length → BindsTo s fd ⟨us, []⟩ (ps.zip us)) ∧
        ∀ base : Heap, (K w.params).In base → base.Ns mainGlobals mg → FnOk r.prog w (K w.params) mg base CX0 k fa fd ps (sp (K w.params)))
    (hpre : ∀ args, r.pre args = true → ∃ as : List Arg, args = as.map Arg.data ∧ Dom as ∧ as.length = ps.length ∧ (∀ x ∈ as, x.small) ∧ r.post args (.list ((ans as).map PySem.W.WData.int)) = true)
    (hsp : ∀ (K : PySem.W.Frag) (H : Hp) (as : List Arg) (vs : List V) (Q : VK), Dom as → ArgsAt K H as vs → (∀ H' l, H' l = some (.lst ((ans as).map V.int)) → Q (.ref l) H') → sp K vs H Q E0) :
    PySem.W.WalkOS q loose XP YP r d [] (fun f vs => PySem.call f vs) := by
  intro w s₀ s₁ mg mb G Y fa o pm cd doc dV kV ho hd hcd hD hmg hg args vals as hp hlay hrd hwl hlo
  obtain rfl : dV = .none := PySem.W.Dflts.none hD hdf
  obtain rfl : kV = .none := PySem.W.Dflts.noKw hD
  have KX := hY w _ Y
  obtain ⟨fd, hb, hF⟩ := F w mg fa _ KX G.T.g hmg
  obtain ⟨as', rfl, hdom, hlen, hsm, hpost⟩ := hpre args hp
  obtain ⟨vs, hv, hat⟩ := args_at KX as' vals hsm hwl
  have hlv : vals.length = ps.length := by
    have l1 : ∀ {K : PySem.W.Frag} {H : Hp} {as : List Arg} {vs : List V}, ArgsAt K H as vs → as.length = vs.length := fun h => by
      induction h with
      | nil => rfl
      | int i _ ih => simp [ih]
      | lst _ _ _ ih => simp [ih]
    rw [← hv.length, ← l1 hat, hlen]
  refine PySem.W.enter_call (codeAny_mono (spec_call (R := []) (cl := classAt s₀.heap) (ans := ans as') KX G.T.g G.T.b G.T.builtins G.T.nolimit hg hr hF (hb s₁ vals hlv) hv (hsp _ _ as' vs _ hdom hat fun H' l e => ⟨l, rfl, e⟩)) fun r' s' hq => ?_)
  obtain ⟨⟨v, ads, rfl, hrd'⟩, h2, h3, h4⟩ := hq
  exact ⟨.inl ⟨v, _, ads, rfl, fun _ => rfl, hrd', hpost, fun hu => absurd hu (by simp [PySem.W.OpenSpec.claim])⟩, h2, h3, h4⟩
end SpecAt
set_option Elab.async false
set_option linter.all false
set_option maxRecDepth 100000
/-! What every law of this program shares: a def of the text by its name, tests, heaps. -/
namespace Com
open PySem L2
/-- a def of the text as it stands behind the top, how its arguments bind, and its name -/
structure Has (K : PySem.W.Frag) (mg : Str → Option Value) (x : Str) (st : Stmt) (ps : List Str) (f : Addr) (fd : FuncData) : Prop where
  fn : Fun K x x st f fd
  bd : Binds K fd ps []
  mg : mg x = some (.ref f)
def HasE (K : PySem.W.Frag) (mg : Str → Option Value) (x : Str) (st : Stmt) (ps : List Str) : Prop := ∃ f fd, Has K mg x st ps f fd
theorem has_mk {K : PySem.W.Frag} {h : Heap} {mg : Str → Option Value} {x : Str} {st : Stmt} {ps : List Str} {f : Addr} {oc : Value} {od an : Option Addr} {osl : Array (Option Value)} {kV doc pm cdv ct : Value} (X : K.In h) (G : h.Ns mainGlobals mg)
    (a : PySem.W.nsIn K mainGlobals x = some (some (.ref f))) (l : K.lookup f = some ⟨oc, od, .func (PySem.W.fnOf x x (defArgs st) (defBody st) (defScope st) .none kV doc pm an cdv ct), osl⟩)
    (c : PySem.W.codeIn K cdv x = true) (k : PySem.W.keepIn K (.ref f) = true)
    (b : ∀ (kV doc pm : Value) (an : Option Addr) (cdv ct : Value) (us : List Value), us.length = ps.length → bindArgs (PySem.W.fnOf x x (defArgs st) (defBody st) (defScope st) .none kV doc pm an cdv ct) ⟨us, []⟩ = pure (ps.zip us)) : HasE K mg x st ps :=
  ⟨_, _, fun_mk l c k, (fun_mk l c k).binds b, PySem.W.mg_of X G a⟩
theorem int_mk {K : PySem.W.Frag} {h : Heap} {mg : Str → Option Value} {x : Str} {i : Int} {t : Tok} (X : K.In h) (G : h.Ns mainGlobals mg) (a : PySem.W.nsIn K mainGlobals x = some (some (.int i t))) : ∃ t, mg x = some (.int i t) := ⟨t, PySem.W.mg_of X G a⟩
theorem blt_mk {K : PySem.W.Frag} {h : Heap} {mg : Str → Option Value} {x : Str} (X : K.In h) (G : h.Ns mainGlobals mg) (a : PySem.W.nsIn K mainGlobals x = some none) : mg x = none := PySem.W.mg_none_of X G a
/-- the function that is asked for -/
theorem main_mk {P : Program} {w : World} {K : PySem.W.Frag} {mg : Str → Option Value} {x : Str} {st : Stmt} {ps : List Str} {fa : Addr} {k : Nat} {sp : Sp} (hfa : mg x = some (.ref fa)) (h : HasE K mg x st ps)
    (F : ∀ f fd, Has K mg x st ps f fd → ∀ base : Heap, K.In base → base.Ns mainGlobals mg → FnOk P w K mg base CX0 k f fd ps sp)
    (b : ∀ (kV doc pm : Value) (an : Option Addr) (cdv ct : Value) (us : List Value), us.length = ps.length → bindArgs (PySem.W.fnOf x x (defArgs st) (defBody st) (defScope st) .none kV doc pm an cdv ct) ⟨us, []⟩ = pure (ps.zip us)) :
    ∃ fd : FuncData, (∀ (s : Shared) (us : List Value), us.length = ps.length → BindsTo s fd ⟨us, []⟩ (ps.zip us)) ∧ ∀ base : Heap, K.In base → base.Ns mainGlobals mg → FnOk P w K mg base CX0 k fa fd ps sp := by
  obtain ⟨f, fd, H⟩ := h
  have e := hfa.symm.trans H.mg
  cases e
  refine ⟨fd, fun s us hl => ?_, F fa fd H⟩
  obtain ⟨oc, od, kV, doc, pm, an, cdv, ct, osl, rfl, lk, hcd⟩ := H.fn.ex
  exact .of_eq (b kV doc pm an cdv ct us hl)
/-! ### a class of the text -/
structure ClsAt (K : PySem.W.Frag) (mg : Str → Option Value) (x : Str) (C : Addr) : Prop where
  cl : Cls K C
  makes : PySem.W.makesIn K C = true
  kp : PySem.W.keepIn K (.ref C) = true
  mg : mg x = some (.ref C)
theorem cls_mk {K : PySem.W.Frag} {h : Heap} {mg : Str → Option Value} {x : Str} {C : Addr} (X : K.In h) (G : h.Ns mainGlobals mg) (a : PySem.W.nsIn K mainGlobals x = some (some (.ref C)))
    (pg : PySem.W.plainGet K C Str.empty = true) (hd : PySem.W.hasDictIn K C = true) (po : PySem.W.plainOver K C = true) (sa : PySem.W.findIn K (.ref C) "__setattr__" = some (some (.builtin "object.__setattr__"))) (mk : PySem.W.makesIn K C = true) (kc : PySem.W.keepIn K (.ref C) = true) : ClsAt K mg x C :=
  ⟨⟨pg, hd, po, sa⟩, mk, kc, PySem.W.mg_of X G a⟩
theorem noattr_mk {K : PySem.W.Frag} {C : Addr} {f : Str} (h : PySem.W.findIn K (.ref C) f = some none) : NoAttr K C f := h
/-- a method: its def, how its arguments bind, that the class has it -/
structure MHas (K : PySem.W.Frag) (C : Addr) (m qual : Str) (st : Stmt) (ps : List Str) (f : Addr) (fd : FuncData) : Prop where
  fn : Fun K m qual st f fd
  bd : Binds K fd ps []
  has : PySem.W.findIn K (.ref C) m = some (some (.ref f))
  isf : PySem.W.isFn K (.ref f) = true
def MethE (K : PySem.W.Frag) (C : Addr) (m qual : Str) (st : Stmt) (ps : List Str) : Prop := ∃ f fd, MHas K C m qual st ps f fd
theorem MHas.mt {K : PySem.W.Frag} {C : Addr} {m qual : Str} {st : Stmt} {ps : List Str} {f : Addr} {fd : FuncData} (h : MHas K C m qual st ps f fd) : Meth K C m f := ⟨h.has, h.isf, h.fn.kp⟩
theorem meth_mk {K : PySem.W.Frag} {C : Addr} {m qual : Str} {st : Stmt} {ps : List Str} {f : Addr} {oc : Value} {od an : Option Addr} {osl : Array (Option Value)} {kV doc pm cdv ct : Value}
    (a : PySem.W.findIn K (.ref C) m = some (some (.ref f))) (i : PySem.W.isFn K (.ref f) = true) (l : K.lookup f = some ⟨oc, od, .func (PySem.W.fnOf m qual (defArgs st) (defBody st) (defScope st) .none kV doc pm an cdv ct), osl⟩)
    (c : PySem.W.codeIn K cdv qual = true) (k : PySem.W.keepIn K (.ref f) = true)
    (b : ∀ (kV doc pm : Value) (an : Option Addr) (cdv ct : Value) (us : List Value), us.length = ps.length → bindArgs (PySem.W.fnOf m qual (defArgs st) (defBody st) (defScope st) .none kV doc pm an cdv ct) ⟨us, []⟩ = pure (ps.zip us)) : MethE K C m qual st ps :=
  ⟨_, _, fun_mk l c k, (fun_mk l c k).binds b, a, i⟩
/-! ### tests -/
theorem if_t {b : Bool} {A B : Prop} (h : b = true) (k : A) : if b = true then A else B := by rw [if_pos h]; exact k
theorem if_f {b : Bool} {A B : Prop} (h : b = false) (k : B) : if b = true then A else B := by rw [if_neg (by rw [h]; exact Bool.false_ne_true)]; exact k
/-! ### heaps -/
theorem same_refl {H : Hp} : L2.Same H H := fun _ _ e => e
theorem same_new {H : Hp} {l : Addr} {o : HO} (h : H l = Option.none) : L2.Same H (upd H l o) := fun b u e => by
  rw [upd_ne (ne_of_none e h)]
  exact e
theorem same_put {H H1 : Hp} {l : Addr} {o : HO} (s : L2.Same H H1) (h : H l = Option.none) : L2.Same H (upd H1 l o) := fun b u e => by
  rw [upd_ne (ne_of_none e h)]
  exact s b u e
/-! ### lists of whole numbers -/
theorem ints_get {w : List Int} {i : Nat} {y : V} (h : (w.map V.int)[i]? = some y) : ∃ z, w[i]? = some z ∧ y = V.int z := by
  rw [List.getElem?_map] at h
  obtain ⟨z, h1, h2⟩ := Option.map_eq_some_iff.mp h
  exact ⟨z, h1, h2.symm⟩
theorem take_all {p : Int → Bool} {w : List Int} {i : Nat} {z : Int} (h : w[i]? = some z) (ha : (w.take i).all p = true) (hz : p z = true) : (w.take (i + 1)).all p = true := by
  rw [List.take_add_one, h, List.all_append, ha]
  simp [hz]
theorem all_not {p : Int → Bool} {w : List Int} {i : Nat} {z : Int} (h : w[i]? = some z) (hz : p z = false) : w.all p = false := by
  rw [List.all_eq_false]
  exact ⟨z, List.mem_of_getElem? h, by rw [hz]; exact Bool.false_ne_true⟩
theorem fold_take {α : Type} {f : α → Int → α} {w : List Int} {i : Nat} {z : Int} (h : w[i]? = some z) (a : α) : (w.take (i + 1)).foldl f a = f ((w.take i).foldl f a) z := by
  rw [List.take_add_one, h, List.foldl_append]
  rfl
theorem ixN_of {n : Nat} {i : Int} (h0 : 0 ≤ i) (h1 : i < n) : ixN n i = some i.toNat := by
  unfold ixN
  rw [if_pos h0, if_pos h1]
theorem atI_of {row : List Int} {i : Int} (h0 : 0 ≤ i) (h1 : i < row.length) : atI (row.map V.int) i = some (V.int (row.getD i.toNat 0)) := by
  unfold atI
  rw [List.length_map, ixN_of h0 h1]
  have hj : i.toNat < row.length := by omega
  show (row.map V.int)[i.toNat]? = _
  rw [List.getElem?_map, List.getElem?_eq_getElem hj]
  simp [List.getD, hj]
/-- a new list of whole numbers is handed back, all else stays -/
def NewL (H : Hp) (Q : VK) (xs : List Int) : Prop := ∀ H' l, L2.Same H H' → H l = none → H' l = some (.lst (xs.map V.int)) → Q (.ref l) H'
end Com
set_option Elab.async false
set_option linter.all false
set_option maxRecDepth 100000
/-! Rules of my own: a range with a step, as a value; list(range(i, j, c)). -/
namespace L2
open PySem PySem.Spec PyProof.Rows
/-- a range object with its step -/
def IsRgn (p : Addr) (i j c : Int) : Heap → Prop := fun h => ∃ t u v, h.get? p = some { cls := .type "range", data := .fields #[.int i t, .int j u, .int c v] }
theorem vals_of_get' : ∀ {xs : List V} {us : List Value}, xs.length = us.length → (∀ (i : Nat) x u, xs[i]? = some x → us[i]? = some u → RelV x u) → Vals xs us
  | [], [], _, _ => .nil
  | [], _ :: _, h, _ => by simp at h
  | _ :: _, [], h, _ => by simp at h
  | x :: xs, u :: us, h, k => .cons (k 0 x u rfl rfl) (vals_of_get' (by simpa using h) fun i y v a b => k (i + 1) y v (by simpa using a) (by simpa using b))
section
variable {X : Cx}
theorem call_range3 : CallR X (.type "range") (fun xs H Q => ∃ (i j c : Int) (n : Nat), xs = [.int i, .int j, .int c] ∧ RgC i j c n ∧ ∀ p, H p = none → Q (.ref p) (upd H p (.ext (IsRgn p i j c)))) := by
  intro pins s σ H xs us Q I r h
  obtain ⟨i, j, c, n, rfl, ⟨c0, c1, c2, c3⟩, q⟩ := h
  cases r with
  | cons r rr =>
    cases rr with
    | cons r' rr =>
      cases rr with
      | cons r'' rr =>
        cases rr
        obtain ⟨t, rfl⟩ := r
        obtain ⟨t', rfl⟩ := r'
        obtain ⟨t'', rfl⟩ := r''
        refine call_range_3 c0 ?_ (.inl (PyProof.noPylong_small c1))
        refine ⟨.ref _, _, I.laid (o := .ext (IsRgn s.heap.objs.size i j c)) (fun b o e => Heap.get?_push_of_some _ e) (Nat.le_refl _) ⟨⟨_, _, _, Heap.get?_push_size _ rfl⟩, ⟨_, Heap.get?_push_size _ rfl⟩, ?_⟩, rfl, q _ (I.hok.fresh (Nat.le_refl _))⟩
        rintro h1 h2 ⟨t, u, v, e⟩ k
        exact ⟨t, u, v, k _ e⟩
theorem call_list_rgn (hc : X.calm = true) : CallR X (.type "list") (fun xs H Q => ∃ (p : Addr) (i j c : Int) (n : Nat), xs = [.ref p] ∧ H p = some (.ext (IsRgn p i j c)) ∧ RgC i j c n ∧ n ≤ sizeLine ∧
    ∀ l, H l = none → Q (.ref l) (upd H l (.lst ((List.range n).map fun (k : Nat) => V.int (i + k * c))))) := by
  intro pins s σ H xs us Q I r h
  obtain ⟨p, lo, hi, c, n, rfl, hp, ⟨c0, c1, c2, c3⟩, hz, q⟩ := h
  obtain ⟨u, rfl, rx⟩ := vals1 r
  cases rx
  obtain ⟨⟨t, u, v, e⟩, _⟩ := I.hok p _ hp
  refine call_list_range (n := n) (I.ok.hd hc) e c2 c3 (by rw [sizeLine_eq] at hz; exact hz) fun h' tk acc' c' kp e3 hacc => ?_
  refine ⟨.ref _, _, I.laid (o := .lst ((List.range n).map fun (k : Nat) => V.int (lo + k * c))) kp (Nat.le_refl _) ⟨?_, acc'.toList, c', ?_, by simpa using e3⟩, rfl, q _ (I.hok.fresh (Nat.le_refl _))⟩
  · rw [List.length_map, List.length_range]; exact hz
  · refine vals_of_get' (by rw [List.length_map, List.length_range]; simpa using hacc.1.symm) fun i x u a b => ?_
    rw [List.getElem?_map] at a
    obtain ⟨k, hk, rfl⟩ := Option.map_eq_some_iff.mp a
    have hk' : k = i := by
      obtain ⟨z1, z2⟩ := List.getElem?_eq_some_iff.mp hk
      rw [List.getElem_range] at z2
      exact z2.symm
    subst hk'
    obtain ⟨t', e4⟩ := hacc.2 k u (by simpa using b)
    exact ⟨t', e4⟩
end
end L2
/-! ### == of lists and tuples of whole numbers, and of rows of them -/
namespace L2
open PySem
def iD (ns : List Int) : List PyData := ns.map PyData.int
def rD (rs : List (List Int)) : List PyData := rs.map fun r => PyData.tuple (iD r)
theorem dpAll_ints {K : PySem.W.Frag} {H : Hp} : ∀ ns : List Int, DpAll K H (ns.map V.int) (iD ns)
  | [] => .nil
  | n :: ns => .cons (.int n) (dpAll_ints ns)
theorem dp_lst {K : PySem.W.Frag} {H : Hp} {a : Addr} {ns : List Int} (h : SqL K H a (ns.map V.int)) : Dp K H (.ref a) (.list (iD ns)) := .lst h (dpAll_ints ns)
theorem dp_tup {K : PySem.W.Frag} {H : Hp} {a : Addr} {ns : List Int} (h : SqT K H a (ns.map V.int)) : Dp K H (.ref a) (.tuple (iD ns)) := .tup h (dpAll_ints ns)
theorem eqvAll_ints : ∀ ns ms : List Int, PyData.eqvAll (iD ns) (iD ms) = decide (ns = ms)
  | [], [] => by simp [iD, PyData.eqvAll]
  | [], m :: ms => by simp [iD, PyData.eqvAll]
  | n :: ns, [] => by simp [iD, PyData.eqvAll]
  | n :: ns, m :: ms => by
    show PyData.eqvAll (PyData.int n :: iD ns) (PyData.int m :: iD ms) = _
    rw [PyData.eqvAll, eqvAll_ints ns ms, PyData.eqv, Bool.eq_iff_iff]
    simp
theorem eqv_tup (ns ms : List Int) : PyData.eqv (.tuple (iD ns)) (.tuple (iD ms)) = decide (ns = ms) := by rw [PyData.eqv, eqvAll_ints]
theorem eqv_lst (ns ms : List Int) : PyData.eqv (.list (iD ns)) (.list (iD ms)) = decide (ns = ms) := by rw [PyData.eqv, eqvAll_ints]
theorem eqvAll_rows : ∀ rs qs : List (List Int), PyData.eqvAll (rD rs) (rD qs) = decide (rs = qs)
  | [], [] => by simp [rD, PyData.eqvAll]
  | [], m :: ms => by simp [rD, PyData.eqvAll]
  | n :: ns, [] => by simp [rD, PyData.eqvAll]
  | n :: ns, m :: ms => by
    show PyData.eqvAll (PyData.tuple (iD n) :: rD ns) (PyData.tuple (iD m) :: rD ms) = _
    rw [PyData.eqvAll, eqvAll_rows ns ms, eqv_tup, Bool.eq_iff_iff]
    simp
theorem canLay_ints : ∀ ns : List Int, PyData.canLayAll0 (iD ns) = true
  | [] => by simp [iD, PyData.canLayAll0]
  | n :: ns => by
    show PyData.canLayAll0 (PyData.int n :: iD ns) = true
    rw [PyData.canLayAll0, canLay_ints ns, PyData.canLay0]
    rfl
theorem depth_ints : ∀ ns : List Int, PyData.depthAll (iD ns) ≤ 1
  | [] => by simp [iD, PyData.depthAll]
  | n :: ns => by
    show PyData.depthAll (PyData.int n :: iD ns) ≤ 1
    have := depth_ints ns
    simp only [PyData.depthAll, PyData.depth]
    omega
theorem canLay_rows : ∀ rs : List (List Int), PyData.canLayAll0 (rD rs) = true
  | [] => by simp [rD, PyData.canLayAll0]
  | n :: ns => by
    show PyData.canLayAll0 (PyData.tuple (iD n) :: rD ns) = true
    rw [PyData.canLayAll0, canLay_rows ns, PyData.canLay0, canLay_ints]
    rfl
theorem depth_rows : ∀ rs : List (List Int), PyData.depthAll (rD rs) ≤ 2
  | [] => by simp [rD, PyData.depthAll]
  | n :: ns => by
    show PyData.depthAll (PyData.tuple (iD n) :: rD ns) ≤ 2
    have h1 := depth_rows ns
    have h2 := depth_ints n
    simp only [PyData.depthAll, PyData.depth]
    omega
theorem shaped_lst (ns : List Int) : SeqAt.shaped (.list (iD ns)) = true := by
  unfold SeqAt.shaped
  have h := depth_ints ns
  rw [PyData.canLay0, canLay_ints, Bool.true_and, decide_eq_true_eq]
  simp only [PyData.depth]
  omega
theorem shaped_tup (ns : List Int) : SeqAt.shaped (.tuple (iD ns)) = true := by
  unfold SeqAt.shaped
  have h := depth_ints ns
  rw [PyData.canLay0, canLay_ints, Bool.true_and, decide_eq_true_eq]
  simp only [PyData.depth]
  omega
theorem shaped_rowsT (rs : List (List Int)) : SeqAt.shaped (.tuple (rD rs)) = true := by
  unfold SeqAt.shaped
  have h := depth_rows rs
  rw [PyData.canLay0, canLay_rows, Bool.true_and, decide_eq_true_eq]
  simp only [PyData.depth]
  omega
theorem shaped_rowsL (rs : List (List Int)) : SeqAt.shaped (.list (rD rs)) = true := by
  unfold SeqAt.shaped
  have h := depth_rows rs
  rw [PyData.canLay0, canLay_rows, Bool.true_and, decide_eq_true_eq]
  simp only [PyData.depth]
  omega
end L2
namespace L2
open PySem
/-- a comprehension over reversed(list) -/
theorem lc_rev {K : PySem.W.Frag} {a : Addr} {xs : List V} {g : TG} {tt : TT} {te : TE} {vs : List Nat} {σ : St} {H1 : Hp} {D : Addr} {Qd : Hp → Prop} (Pv : Nat → Hp → Prop) (h0 : Pv 0 (upd H1 D (.lst []))) (hl : ∀ i H, i ≤ xs.length → Pv i H → SqL K H a xs)
    (hs : ∀ i x H, i < xs.length → xs[xs.length - 1 - i]? = some x → Pv i H → g x (wipe σ vs) H fun σ2 H2 => wipe σ2 vs = wipe σ vs ∧ tt σ2 H2 fun b H3 =>
      if b = true then te σ2 H3 fun y H4 => ∃ acc, H4 D = some (.lst acc) ∧ acc.length < sizeLine ∧ Pv (i + 1) (upd H4 D (.lst (acc ++ [y]))) else Pv (i + 1) H3) (hd : ∀ H, Pv xs.length H → Qd H) :
    ∃ W : Nat → Nat → Hp → Prop, (∃ m, W 0 m (upd H1 D (.lst []))) ∧ ∀ i m H, W i m H →
      ((Itv K a xs.length).stop i H ∧ Qd H) ∨ ((Itv K a xs.length).go i H ∧ ∃ Nx : Hp → Prop, (∀ H', Nx H' → ∃ m', m' < m ∧ W (i + 1) m' H') ∧ ∀ x H', (Itv K a xs.length).yld i H x H' → g x (wipe σ vs) H' fun σ2 H2 => wipe σ2 vs = wipe σ vs ∧ tt σ2 H2 fun b H3 =>
        if b = true then te σ2 H3 fun y H4 => ∃ acc, H4 D = some (.lst acc) ∧ acc.length < sizeLine ∧ Nx (upd H4 D (.lst (acc ++ [y]))) else Nx H3) := by
  refine ⟨fun i m H => m = xs.length - i ∧ i ≤ xs.length ∧ Pv i H, ⟨xs.length, by simp, Nat.zero_le _, h0⟩, ?_⟩
  rintro i m H ⟨rfl, hi, p⟩
  have q := hl i H hi p
  by_cases hlt : i < xs.length
  · refine .inr ⟨⟨hlt, xs, xs[xs.length - 1 - i]'(by omega), q, by simp⟩, Pv (i + 1), fun H' p' => ⟨xs.length - (i + 1), by omega, rfl, hlt, p'⟩, fun x H' y => ?_⟩
    obtain ⟨e, y⟩ := y
    subst e
    exact hs i x _ hlt (y xs q) p
  · have e : i = xs.length := by omega
    subst e
    exact .inl ⟨Nat.le_refl _, hd H p⟩
end L2
set_option Elab.async false
set_option linter.all false
set_option maxRecDepth 100000
/-! A tuple of tuples of whole numbers as a dict's key: read as data, so that the library's equality over data and its hash of a tuple of numbers serve. -/
namespace T2
open PySem
def leaf (ks : List Int) : PyData := .tuple (ks.map PyData.int)
def cod (kss : List (List Int)) : PyData := .tuple (kss.map leaf)
theorem lay_ints : ∀ ks : List Int, PyData.canLayAll0 (ks.map PyData.int) = true
  | [] => rfl
  | _ :: ks => lay_ints ks
theorem lay_leaves : ∀ kss : List (List Int), PyData.canLayAll0 (kss.map leaf) = true
  | [] => rfl
  | ks :: kss => by show (PyData.canLayAll0 (ks.map PyData.int) && PyData.canLayAll0 (kss.map leaf)) = true; rw [lay_ints, lay_leaves kss]; rfl
theorem deep_ints : ∀ ks : List Int, PyData.depthAll (ks.map PyData.int) = 0
  | [] => rfl
  | _ :: ks => by show max 0 (PyData.depthAll (ks.map PyData.int)) = 0; rw [deep_ints ks]; rfl
theorem deep_leaves : ∀ kss : List (List Int), PyData.depthAll (kss.map leaf) ≤ 1
  | [] => Nat.zero_le _
  | ks :: kss => by
    show max (PyData.depthAll (ks.map PyData.int) + 1) (PyData.depthAll (kss.map leaf)) ≤ 1
    rw [deep_ints]
    exact Nat.max_le.mpr ⟨Nat.le_refl _, deep_leaves kss⟩
theorem eqv_ints : ∀ xs ys : List Int, PyData.eqvAll (xs.map PyData.int) (ys.map PyData.int) = decide (xs = ys)
  | [], [] => rfl
  | [], _ :: _ => by simp [PyData.eqvAll]
  | _ :: _, [] => by simp [PyData.eqvAll]
  | x :: xs, y :: ys => by
    show ((x == y) && PyData.eqvAll (xs.map PyData.int) (ys.map PyData.int)) = _
    rw [eqv_ints xs ys, Bool.eq_iff_iff]
    simp
theorem eqv_leaves : ∀ x y : List (List Int), PyData.eqvAll (x.map leaf) (y.map leaf) = decide (x = y)
  | [], [] => rfl
  | [], _ :: _ => by simp [PyData.eqvAll]
  | _ :: _, [] => by simp [PyData.eqvAll]
  | k :: x, l :: y => by
    show (PyData.eqvAll (k.map PyData.int) (l.map PyData.int) && PyData.eqvAll (x.map leaf) (y.map leaf)) = _
    rw [eqv_ints, eqv_leaves x y, Bool.eq_iff_iff]
    simp
def IsKey2 (h : Heap) (kss : List (List Int)) (a : Addr) : Prop := ∃ as, Reads h (.ref a) (cod kss) as
/-- the value reads as a tuple of numbers: where it stands, and what a dict of such keys asks of it -/
theorem leaf_at {P : Program} {w : World} {h : Heap} {v : Value} {ks : List Int} {as : List Addr} (r : Reads h v (leaf ks) as) : ∃ b, v = .ref b ∧ IsTupleKey (intKind P w) h ks b := by
  unfold leaf at r
  cases r with
  | @tuple b o its n _ _ e1 e2 e3 e4 =>
    refine ⟨b, rfl, o, its, n, e1, e2, e3, ?_⟩
    have go : ∀ (ks : List Int) (us : List Value) (as : List Addr), ReadsAll h us (ks.map PyData.int) as → ItemsAre (intKind P w) ks us := by
      intro ks
      induction ks with
      | nil => intro us as r; cases r; exact .nil
      | cons k ks ih =>
        intro us as r
        cases r with
        | cons r1 rr =>
          cases r1 with
          | int _ t => exact .cons (by show Value.isInt k (Value.int k t) = true; simp [Value.isInt]) (ih _ _ rr)
    exact go ks _ _ e4
section
variable {h h' : Heap} {d : Addr} {o : Obj} {es : Array DictEntry} {ep : Nat} (ho : h.get? d = some o) (hd : o.data = .dict es ep) (hs : Heap.SameBut d h h')
include ho hd hs
/-- what is no dict stays where a dict alone is written -/
theorem stays {a : Addr} {x : Obj} {its : Array Value} {n : Nat} (e : h.get? a = some x) (q : x.data = .seq its n) : h'.get? a = some x := by
  by_cases z : a = d
  · subst z
    rw [e] at ho
    cases ho
    rw [q] at hd
    cases hd
  · exact (hs.2 a z).trans e
theorem ints_stay : ∀ {ks : List Int} {us : List Value} {as : List Addr}, ReadsAll h us (ks.map PyData.int) as → ReadsAll h' us (ks.map PyData.int) as
  | [], _, _, r => by cases r; exact .nil
  | _ :: _, _, _, r => by
    cases r with
    | cons r1 rr =>
      cases r1
      exact .cons (.int _ _) (ints_stay rr)
theorem leaves_stay : ∀ {kss : List (List Int)} {us : List Value} {as : List Addr}, ReadsAll h us (kss.map leaf) as → ReadsAll h' us (kss.map leaf) as
  | [], _, _, r => by cases r; exact .nil
  | ks :: kss, _, _, r => by
    simp only [List.map_cons, leaf] at r ⊢
    cases r with
    | cons r1 rr =>
      cases r1 with
      | tuple e1 e2 e3 e4 => exact .cons (.tuple (stays ho hd hs e1 e3) e2 e3 (ints_stay ho hd hs e4)) (leaves_stay rr)
end
def hash2 (P : Program) (w : World) (kss : List (List Int)) : Int := reduceHash (Builtin.Tuple.tupleHashOf (kss.map (tupleKeyHash (intKind P w))))
def drawn (kss : List (List Int)) : Nat := (kss.map fun ks => ks.length + 1).sum
section
variable {prog : Program} {w : World} {A : Around} {E : Value → Shared → Prop} {s : Shared} {x y : List (List Int)} {a b : Addr}
theorem hash_at {Q : Int → Shared → Prop} (hu : A.units + 1 < cLine) (hk : IsKey2 s.heap x a) (q : Q (hash2 prog w x) { s with toks := s.toks + (drawn x + 1) }) : wpAny (model prog w) A (pyHash (.ref a)) Q E s := by
  obtain ⟨as, r⟩ := hk
  unfold cod at r
  cases r with
  | @tuple _ ob its n _ _ e1 e2 e3 e4 =>
    refine PySem.W.pyHash_slot (T := "tuple") ⟨ob, e1, e2⟩ F.slot_tuple_hash F.entry_tuple_hash (F.args_tuple_hash_1 _) (beq_builtin_none _) (.inr (by omega)) ?_
    unfold Builtin.«tuple.__hash__»
    refine wpAny_bind (wpAny_of_eq (a := (Value.ref a, [])) rfl (wpAny_bind (wpAny_tupleItemsOf e1 e3 (wpAny_bind ?_))))
    rw [← Array.forIn_toList]
    refine wpAny_forIn_list _ (fun rest (got : Array Int) s' => ∃ l as, ReadsAll s.heap rest (l.map leaf) as ∧ got.toList ++ l.map (tupleKeyHash (intKind prog w)) = x.map (tupleKeyHash (intKind prog w)) ∧
      ∃ t, s' = { s with toks := t } ∧ t + drawn l = s.toks + drawn x) _ ?_ ?_ _ _ ⟨x, _, e4, rfl, _, rfl, rfl⟩
    · rintro v rest got s' ⟨l, as, r, eg, t, rfl, et⟩
      cases l with
      | nil => cases r
      | cons ks l =>
        cases r with
        | cons r1 rr =>
          obtain ⟨p, rfl, kp⟩ := leaf_at (P := prog) (w := w) r1
          refine wpAny_bind (wpAny_pyHash_tuple (s := { s with toks := t }) (by show A.units + 1 < cLine; exact hu) kp (wpAny_pure ?_))
          refine ⟨l, _, rr, ?_, _, rfl, ?_⟩
          · rw [← eg]; simp
          · rw [← et]; unfold drawn; simp; omega
    · rintro got s' ⟨l, as, r, eg, t, rfl, et⟩
      cases l with
      | cons _ _ => cases r
      | nil =>
        rw [List.map_nil, List.append_nil] at eg
        have et' : t = s.toks + drawn x := et
        subst et'
        exact wpAny_bind (wpAny_mkInt (wpAny_pure ⟨_, _, rfl, by rw [eg]; exact q⟩))
theorem eq_at {Q : Bool → Shared → Prop} (hu : A.units + 2 < cLine) (hx : IsKey2 s.heap x a) (hy : IsKey2 s.heap y b) (q : Q (decide (x = y)) s) : wpAny (model prog w) A (eqBool (.ref a) (.ref b)) Q E s := by
  obtain ⟨as, rx⟩ := hx
  obtain ⟨bs, ry⟩ := hy
  have := deep_leaves x
  refine SeqAt.eqBoolOverData prog w A E s _ _ _ _ _ _ Q rx ry (lay_leaves x) (lay_leaves y) ?_ ?_
  · show A.units + min (PyData.depthAll (x.map leaf) + 1) (PyData.depthAll (y.map leaf) + 1) < cLine
    omega
  · show Q (PyData.eqvAll (x.map leaf) (y.map leaf)) s
    rw [eqv_leaves]
    exact q
/-- a tuple is quiet where all that it holds is -/
theorem quiet_tup {ob : Obj} {its : Array Value} {n m : Nat} {Q : Bool → Shared → Prop} (e1 : s.heap.get? a = some ob) (e2 : ob.cls = .type "tuple") (e3 : ob.data = .seq its n)
    (hq : ∀ v ∈ its.toList, ∀ R : Bool → Shared → Prop, R true s → wpAny (model prog w) A (eqIsQuiet m v) R E s) (q : Q true s) : wpAny (model prog w) A (eqIsQuiet (m + 1) (.ref a)) Q E s := by
  unfold eqIsQuiet
  refine wpAny_bind (wpAny_specialOf ⟨ob, e1, e2⟩ F.slot_tuple_eq.lookup (wpAny_bind (wpAny_isInstance ⟨ob, e1, e2⟩ isSubtype_tuple_tuple (wpAny_bind (wpAny_seqItems e1 e3 (wpAny_bind ?_))))))
  show wpAny _ _ (forIn its _ _) _ _ s
  rw [← Array.forIn_toList]
  refine wpAny_forIn_list _ (fun rest r s' => (∀ v ∈ rest, v ∈ its.toList) ∧ r.1 = none ∧ s' = s) _ ?_ ?_ _ _ ⟨fun _ z => z, rfl, rfl⟩
  · rintro v rest r s' ⟨sub, e, rfl⟩
    exact wpAny_bind (hq v (sub v (.head _)) _ (wpAny_pure ⟨fun u z => sub u (.tail _ z), rfl, rfl⟩))
  · rintro ⟨r1, r2⟩ s' ⟨_, e, rfl⟩
    cases e
    exact wpAny_pure q
theorem quiet_at {Q : Bool → Shared → Prop} (hk : IsKey2 s.heap x a) (q : Q true s) : wpAny (model prog w) A (eqIsQuiet 8 (.ref a)) Q E s := by
  obtain ⟨as, r⟩ := hk
  unfold cod at r
  cases r with
  | @tuple _ ob its n _ _ e1 e2 e3 e4 =>
    refine quiet_tup e1 e2 e3 (fun v hv R hR => ?_) q
    have go : ∀ (kss : List (List Int)) (us : List Value) (as : List Addr), ReadsAll s.heap us (kss.map leaf) as → v ∈ us → ∃ ks as, Reads s.heap v (leaf ks) as := by
      intro kss
      induction kss with
      | nil => intro us as r hv; cases r; cases hv
      | cons ks kss ih =>
        intro us as r hv
        cases r with
        | cons r1 rr =>
          cases hv with
          | head => exact ⟨_, _, r1⟩
          | tail _ z => exact ih _ _ rr z
    obtain ⟨ks, as', r'⟩ := go _ _ _ e4 hv
    obtain ⟨p, rfl, o1, i1, n1, g1, g2, g3, g4⟩ := leaf_at (P := prog) (w := w) r'
    refine quiet_tup (m := 6) g1 g2 g3 (fun u hu R' hR' => ?_) hR
    rw [eqIsQuiet_byValue _ (g4.byValue u hu)]
    exact wpAny_pure hR'
end
theorem cod_inj {x y : List (List Int)} (e : cod x = cod y) : x = y := by
  have q : PyData.eqv (cod x) (cod y) = PyData.eqv (cod y) (cod y) := by rw [e]
  have q2 : decide (x = y) = decide (y = y) := by rw [← eqv_leaves, ← eqv_leaves]; exact q
  simpa using q2
def kind2 (prog : Program) (w : World) : HeapKind prog w (List (List Int)) where
  is := IsKey2
  hash := hash2 prog w
  draws kss := drawn kss + 1
  room A := A.units + 2 < cLine
  inj := fun ⟨_, r⟩ ⟨_, r'⟩ => cod_inj (SeqAt.Reads.unique _ _ _ _ _ (lay_leaves _) r r')
  keeps := fun ⟨_, r⟩ ho hd hs => by
    unfold cod at r
    cases r with
    | tuple e1 e2 e3 e4 => exact ⟨_, .tuple (stays ho hd hs e1 e3) e2 e3 (leaves_stay ho hd hs e4)⟩
  pyHash hu hk q := hash_at (Nat.lt_of_succ_lt hu) hk q
  eqBool hu hx hy q := eq_at hu hx hy q
  quiet hk q := quiet_at hk q
end T2
set_option Elab.async false
set_option linter.all false
set_option maxRecDepth 100000
/-! Rules of my own: reversed(tuple); xs.extend(tuple); a dict whose keys are tuples of tuples of whole numbers. -/
namespace Rv
open PySem
theorem called_reversed : TypeCalled "reversed" "reversed.__new__" "object.__init__" where
  notType := by decide +kernel
  canCreate := F.create_reversed
  mro := ⟨_, _, F.mro_reversed⟩
  made := F.made_reversed
  plain := F.plain_reversed_new
  sub := F.sub_reversed_self
  init := by
    refine .of (owner := "object") (n := "__init__") (by rw [typeLookup_type, builtinLookup_eq_fast]; kernel_rfl) ?_ ?_ ?_ ?_ (by rw [isSubtype_type]; kernel_rfl)
    all_goals first | decide +kernel | exact .inl (by decide +kernel) | exact .inr (by decide +kernel)
theorem owner_rev : Manifest.owners.lookup (String.ofList ['d', 'e', 's', 'r', 'e', 'v', 'e', 'r'].reverse) = some Manifest.sig_reversed := by kernel_rfl
theorem slot_rev_next : Slot "reversed" "__next__" "reversed.__next__" := by
  refine .of (owner := "reversed") (n := "__next__") (by rw [typeLookup_type, builtinLookup_eq_fast]; kernel_rfl) ?_ ?_ ?_ ?_ (by rw [isSubtype_type]; kernel_rfl)
  all_goals first | decide +kernel | exact .inl (by decide +kernel) | exact .inr (by decide +kernel)
theorem entry_rev_next : entryFor table "reversed.__next__" = some Builtin.«reversed.__next__» := entryFor_of_tree (by kernel_rfl)
theorem args_rev_next_1 (a : Value) : argsOk "reversed.__next__" ⟨[a], []⟩ := by
  unfold argsOk; rw [signature?_of (id := "reversed.__next__") (n := ['_', '_', 't', 'x', 'e', 'n', '_', '_']) (o := ['d', 'e', 's', 'r', 'e', 'v', 'e', 'r']) (by kernel_rfl) owner_rev]; kernel_rfl
theorem slot_rev_iter : Slot "reversed" "__iter__" "reversed.__iter__" := by
  refine .of (owner := "reversed") (n := "__iter__") (by rw [typeLookup_type, builtinLookup_eq_fast]; kernel_rfl) ?_ ?_ ?_ ?_ (by rw [isSubtype_type]; kernel_rfl)
  all_goals first | decide +kernel | exact .inl (by decide +kernel) | exact .inr (by decide +kernel)
theorem args_rev_iter_1 (a : Value) : argsOk "reversed.__iter__" ⟨[a], []⟩ := by
  unfold argsOk; rw [signature?_of (id := "reversed.__iter__") (n := ['_', '_', 'r', 'e', 't', 'i', '_', '_']) (o := ['d', 'e', 's', 'r', 'e', 'v', 'e', 'r']) (by kernel_rfl) owner_rev]; kernel_rfl
theorem entry_rev_iter : entryFor table "reversed.__iter__" = some Builtin.«dict_keyiterator.__iter__» :=
  entryFor_alias (id' := "dict_keyiterator.__iter__") (by kernel_rfl) (by decide +kernel) (by decide +kernel) (by kernel_rfl)
theorem tuple_no_reversed : typeLookup (.type "tuple") "__reversed__" = pure none := by rw [typeLookup_type, builtinLookup_eq_fast]; kernel_rfl
theorem tuple_no_dict : isSubtype (.type "tuple") (.type "dict") = pure false := by rw [isSubtype_type]; kernel_rfl
def revT (l : Addr) (i : Int) : Obj := { cls := .type "reversed", data := .fields #[.ref l, rawInt i] }
def IsRevT (h : Heap) (a l : Addr) (i : Int) : Prop := ∃ o, h.get? a = some o ∧ o.cls = .type "reversed" ∧ o.data = .fields #[.ref l, rawInt i]
theorem IsRevT.typeIs {s : Shared} {a l : Addr} {i : Int} (x : IsRevT s.heap a l i) : s.TypeIs (.ref a) "reversed" := let ⟨o, ho, hc, _⟩ := x; ⟨o, ho, hc⟩
theorem IsRevT.at {h h' : Heap} {a l : Addr} {i : Int} (x : IsRevT h a l i) (e : ∀ o, h.get? a = some o → h'.get? a = some o) : IsRevT h' a l i := let ⟨o, ho, r⟩ := x; ⟨o, e _ ho, r⟩
section
variable {prog : Program} {w : World} {A : Around} {E : Value → Shared → Prop} {s : Shared}
theorem rev_new_tup (l : Addr) (items : Array Value) (hz : (items.size : Int) < 2 ^ 63) :
    MeetsIn prog w (Builtin.«reversed.__new__» ⟨[.type "reversed", .ref l], []⟩) (fun A R s => PyProof.Rows.IsTup s.heap l items ∧
      R (.ok (.ret (.ref s.heap.objs.size))) { s with heap := s.heap.push (revT l ((items.size : Int) - 1)), toks := s.toks + 1 + 1 }) :=
  .of_wp fun A R s ⟨ht, h⟩ => by
    have hT : s.TypeIs (.ref l) "tuple" := let ⟨o, ho, hc, _⟩ := ht; ⟨o, ho, hc⟩
    have t1 := tuple_no_reversed
    have t2 := tuple_no_dict
    have t3 := F.slot_tuple_getitem.lookup
    wp_walk using wpAny_of_eq (newClass_reversed _), PyProof.Rows.len_tuple ht hz
    exact ⟨_, rfl, h⟩
theorem call_reversed_tuple {l : Addr} {items : Array Value} {Q : Value → Shared → Prop} (hl : PyProof.Rows.IsTup s.heap l items) (hz : (items.size : Int) < 2 ^ 63)
    (h : Q (.ref s.heap.objs.size) { s with heap := s.heap.push (revT l ((items.size : Int) - 1)), toks := s.toks + 1 + 1 }) : wpAny (model prog w) A (call (.type "reversed") [.ref l]) Q E s := by
  refine callType_newIn called_reversed (by decide) (F.typeCall_reversed_1 _) (F.newCall_reversed_1 _) (fun obj => F.args_object_init_2 obj _) F.entry_reversed_new (rev_new_tup l items hz) ⟨hl, ⟨_, Heap.get?_push_size _ rfl, rfl⟩, h⟩
/-- what reversed's own next does, where pyNext asks it -/
theorem into_next {it l : Addr} {i : Int} {Q : Option Value → Shared → Prop} (hit : IsRevT s.heap it l i)
    (body : wpAny (model prog w) A.in1 (Builtin.«reversed.__next__» ⟨[.ref it], []⟩) (fun fin s' => ∃ v, fin = .done (.ret v) ∧ Q (some v) s') (fun e s' => wpAny (model prog w) A (isInstance e (.type "StopIteration") >>= fun b => if b = true then pure none else throw e) Q E s') s) :
    wpAny (model prog w) A (pyNext (.ref it)) Q E s :=
  wpAny_bind (wpAny_attempt (wpAny_callSpecial?_slot (name := Str.ofString "__next__") hit.typeIs slot_rev_next (wpAny_call_entry slot_rev_next hit.typeIs entry_rev_next
    (wpAny_mono body (fun _ _ ⟨v, e, q⟩ => ⟨v, e, wpAny_pure q⟩) fun _ _ q => q) (args_rev_next_1 _))))
theorem next_revT {it l : Addr} {i : Nat} {items : Array Value} {x : Value} {Q : Option Value → Shared → Prop} (hit : IsRevT s.heap it l (i : Int)) (hl : PyProof.Rows.IsTup s.heap l items) (hx : items[i]? = some x) (hz : (items.size : Int) < 2 ^ 63)
    (hQ : ∀ h' tk, IsRevT h' it l ((i : Int) - 1) → Heap.SameBut it s.heap h' → Q (some x) { s with heap := h', toks := tk }) : wpAny (model prog w) A (pyNext (.ref it)) Q E s := by
  refine into_next hit ?_
  obtain ⟨o, ho, hc, hd⟩ := id hit
  have hT : s.TypeIs (.ref l) "tuple" := let ⟨o, ho, hc, _⟩ := hl; ⟨o, ho, hc⟩
  have hi : i < items.size := (Array.getElem?_eq_some_iff.mp hx).1
  have t3 := F.slot_tuple_getitem.lookup
  have hj : seqIndex? (i : Int) items.size = some i := by unfold seqIndex?; rw [if_neg (by omega : ¬ (i : Int) < 0)]; simp; omega
  wp_walk using wpAny_field (s := s) ho hd (x := .ref l) rfl, wpAny_field (s := s) ho hd (x := rawInt (i : Int)) rfl, PyProof.Rows.getItem_tuple (s := { s with toks := s.toks + 1 }) (j := i) (x := x) hl (by omega) (by omega) hj hx,
    wpAny_field (s := { s with toks := s.toks + 1 }) ho hd (x := rawInt (i : Int)) rfl, wpAny_setField (s := { s with toks := s.toks + 1 }) ho hd (by simp)
  exact ⟨x, rfl, hQ _ _ ⟨_, Heap.get?_update_self _ ho (Obj.isFreed_of_fields (Obj.data_mapFields hd _)), (Obj.cls_mapFields ..).trans hc, by rw [Obj.data_mapFields hd]; simp⟩ (Heap.SameBut.update ..)⟩
theorem end_revT {it l : Addr} {Q : Option Value → Shared → Prop} (hh : A.handled = none) (hit : IsRevT s.heap it l (-1)) (hQ : ∀ h', Heap.ExtBut it s.heap h' → Q none { s with heap := h' }) :
    wpAny (model prog w) A (pyNext (.ref it)) Q E s := by
  refine into_next hit ?_
  obtain ⟨o, ho, hc, hd⟩ := id hit
  have hh1 : A.in1.handled = none := hh
  have is := isSubtype_stop
  have ho2 := Heap.get?_update_self (Obj.mapFields fun x => x.setIfInBounds 1 (rawInt (-1))) ho (Obj.isFreed_of_fields (Obj.data_mapFields hd _))
  have hd2 := Obj.data_mapFields hd (fun x => x.setIfInBounds 1 (rawInt (-1)))
  wp_walk using wpAny_field (s := s) ho hd (x := .ref l) rfl, wpAny_field (s := s) ho hd (x := rawInt (-1)) rfl, wpAny_setField (s := s) ho hd (by simp),
    wpAny_setField (s := { s with heap := s.heap.update it (Obj.mapFields fun x => x.setIfInBounds 1 (rawInt (-1))) }) ho2 hd2 (by simp)
  unfold raiseNew
  refine wpAny_bind (wpAny_handled ?_)
  rw [hh1]
  refine wpAny_bind (wpAny_pure (wpAny_throw ?_))
  refine wpAny_bind (wpAny_isInstance (T := "StopIteration") (b := true) ⟨_, Heap.get?_push_size _ rfl, rfl⟩ is (wpAny_pure (hQ _ ?_)))
  exact ((((Heap.SameBut.update ..).extBut.trans (Heap.SameBut.update ..).extBut).push _).push _)
theorem iter_revT {it l : Addr} {i : Int} {Q : Value → Shared → Prop} (hit : IsRevT s.heap it l i) (h : Q (.ref it) s) : wpAny (model prog w) A (pyIter (.ref it)) Q E s := by
  refine wpAny_pyIter_slot hit.typeIs slot_rev_iter (wpAny_call_entry slot_rev_iter hit.typeIs entry_rev_iter ?_ (args_rev_iter_1 _))
  show wpAny _ _ (ret (.ref it)) _ _ s
  exact wpAny_pure ⟨_, rfl, "reversed", _, hit.typeIs, slot_rev_next.lookup, h⟩
end
theorem list_extend_tup (l : Addr) (items : Array Value) (n : Nat) (b : Addr) (items2 : Array Value) (n2 : Nat) (dd : Option Addr) (sl : Array (Option Value)) (hs0 : ¬(!items.isEmpty && Builtin.List.listTooLong (items.size + items2.size)) = true) (hs1 : items.size ≤ sizeLine) (hs2 : items.size + items2.size ≤ sizeLine + 1) :
    Meets (Builtin.«list.extend» ⟨[.ref l, .ref b], []⟩) (fun _ R s => s.heap.get? l = some { cls := .type "list", dict := none, data := .seq items n, slots := #[] } ∧ s.heap.get? b = some { cls := .type "tuple", dict := dd, data := .seq items2 n2, slots := sl } ∧ R (.ok (.ret Value.none)) { s with heap := s.heap.update l (Obj.mapSeq fun x => x ++ items2), toks := s.toks }) :=
  .of_wp fun prog w A R s h => by
    obtain ⟨hp, g, d, tk, os⟩ := s; obtain ⟨hl, hb, h⟩ := h; have f1 := AutoSeq1.idx_int; have f2 := AutoSeq1.sub_tuple_tuple; have f3 := AutoSeq1.sub_list_list; have f4 := AutoSeq1.sub_tuple_list; have f5 := AutoSeq1.sub_list_tuple;
    have hz' : (items ++ items2).size ≤ sizeLine + 1 := Array.size_append .. ▸ hs2
    wp_walk using (wpAny_updateSeq hl rfl (hz := hs1) (_hz' := hz')), AutoSeq1.wpAny_loadPart' hl, AutoSeq1.wpAny_loadPart' hb; exact ⟨_, rfl, h⟩
/-! ### len and clear of a dict whose keys lie in the heap -/
section
variable {prog : Program} {w : World} {K : Type} [DecidableEq K] (knd : HeapKind prog w K) (d : Addr)
theorem meets_lenH (hd : (d == sysModules) = false) :
    MeetsIn prog w (Builtin.«dict.__len__» ⟨[.ref d], []⟩) (fun _ R s => ∃ xs, s.heap.DictOfH knd d xs ∧ R (.ok (.ret (.int xs.length s.toks))) { s with toks := s.toks + 1 }) :=
  .of_wp fun A R s ⟨xs, hm, h⟩ => by
    obtain ⟨o, es, ep, ho, hc, hdat, he, _, hn⟩ := hm
    rw [← size_of_entries he] at h
    wp_walk using wpAny_dictEntries (s := s) ho hdat, wpAny_pendingCount_other (s := s) hd
    exact ⟨_, rfl, h⟩
theorem meets_clearH :
    MeetsIn prog w (Builtin.«dict.clear» ⟨[.ref d], []⟩) (fun _ R s => ∃ xs, s.heap.DictOfH knd d xs ∧ xs.length ≤ sizeLine ∧
      ∀ h', h'.DictOfH knd d [] → Heap.SameBut d s.heap h' → R (.ok (.ret .none)) { s with heap := h' }) :=
  .of_wp fun A R s ⟨xs, hm, hsz, h⟩ => by
    obtain ⟨o, es, ep, ho, hc, hdat, he, _, hn⟩ := id hm
    rw [← size_of_entries he] at hsz
    have new : (s.heap.update d (Obj.mapDictKeys fun _ => #[])).DictOfH knd d [] :=
      ⟨_, _, ep + 1, Heap.get?_update_self _ ho (Obj.isFreed_of_dict (Obj.data_mapDictKeys hdat _)), hc.mapDictKeys _, Obj.data_mapDictKeys hdat _, rfl, (fun _ he => by simp at he), List.nodup_nil⟩
    have last := h _ new (Heap.SameBut.update ..)
    have c1 := hc.1
    have c3 := hc.2.2
    wp_walk using wpAny_notOrdered_dict (s := s) hm.typeIs, wpAny_dictEntries (s := s) ho hdat, wpAny_updateDictKeys (s := s) (hz := hsz) ho hdat
    exact ⟨_, rfl, last⟩
variable {knd d} {A : Around} {E : Value → Shared → Prop} {s : Shared}
theorem len_bodyH {xs : List (K × Addr × Value)} {Q : Value → Shared → Prop} (hd : (d == sysModules) = false) (hm : s.heap.DictOfH knd d xs) (hfit : (xs.length : Int) < 2 ^ 63)
    (h : Q (.int xs.length (s.toks + 1)) { s with toks := s.toks + 1 + 1 }) : wpAny (model prog w) A (Builtin.«len» ⟨[.ref d], []⟩) (fun fin s' => ∃ r, fin = .done (.ret r) ∧ Q r s') E s := by
  have e1 : ¬ ((xs.length : Nat) : Int) < 0 := by omega
  have e2 : ¬ ((xs.length : Nat) : Int) ≥ 2 ^ 63 := by omega
  refine wpAny_bind (wpAny_pure (wpAny_bind (wpAny_callSpecial?_slot (name := Str.ofString "__len__") hm.typeIs F.slot_dict_len
    (call_meetsIn F.slot_dict_len hm.typeIs F.entry_dict_len (F.args_dict_len_1 _) (meets_lenH knd d hd) ⟨xs, hm, ?_⟩))))
  wp_walk
  rw [if_neg e2]
  wp_walk
  exact ⟨_, rfl, h⟩
theorem len_dicH {xs : List (K × Addr × Value)} {Q : Value → Shared → Prop} (hd : (d == sysModules) = false) (hm : s.heap.DictOfH knd d xs) (hfit : (xs.length : Int) < 2 ^ 63)
    (h : Q (.int xs.length (s.toks + 1)) { s with toks := s.toks + 1 + 1 }) : wpAny (model prog w) A (call (.builtin "len") [.ref d]) Q E s :=
  Calls.call_function_entry kind_len plain_len entry_len (args_len1 _) (len_bodyH hd hm hfit h)
end
end Rv

namespace L2
open PySem PySem.Spec PyProof.Rows
/-! ### reversed(tuple) -/
def ItvT (K : PySem.W.Frag) (a : Addr) (n : Nat) : It :=
  ⟨fun i H => i < n ∧ ∃ (xs : List V) (x : V), SqT K H a xs ∧ xs[n - 1 - i]? = some x, fun i H x H' => H' = H ∧ ∀ xs, SqT K H a xs → xs[n - 1 - i]? = some x, fun i _ => n ≤ i⟩
theorem turn_revT {P : Program} {w : World} {K : PySem.W.Frag} {tg : Expr} (a it : Addr) (n : Nat) : Turn P w K tg (ItvT K a n) [it] it (fun i h => i ≤ n ∧ Rv.IsRevT h it a ((n : Int) - 1 - (i : Nat))) where
  mem := by simp
  obj := fun i h st b hb => by
    have e : b = it := by simpa using hb
    subst e
    obtain ⟨_, o, e, c, d⟩ := st
    exact ⟨o, e, fun v z => by rw [d] at z; cases z⟩
  keep := fun i h h' st k => ⟨st.1, st.2.at fun o e => k it (by simp) o e⟩
  item := by
    intro X hP hw hK hc i pins s σ H E I hf st hg
    subst hP hw hK
    obtain ⟨hin, xs, x, hq, hx⟩ := hg
    obtain ⟨its, rv, p, hz⟩ := I.tuple hq
    obtain ⟨u, hu, ru⟩ := rv.get hx
    obtain ⟨f0, f1, f2, f3, f4, f5⟩ := hf it (by simp)
    obtain ⟨_, hit⟩ := st
    have e1 : (n : Int) - 1 - ((i : Nat) : Int) = ((n - 1 - i : Nat) : Int) := by omega
    rw [e1] at hit
    have hlen := rv.length
    have hn := line63
    refine Rv.next_revT hit p (x := u) (by simpa using hu) (by rw [List.size_toArray]; omega) fun h' tk st' sb => ?_
    have e2 : ((n - 1 - i : Nat) : Int) - 1 = (n : Int) - 1 - ((i + 1 : Nat) : Int) := by omega
    rw [e2] at st'
    have I1 : Inv X pins σ H { s with heap := h', toks := tk } := I.turned (t' := tk) (fun b o hb e => (sb.2 b hb).trans e) f0 f1 f3 f4 f5
    obtain ⟨o, e, c, d⟩ := id st'
    exact ⟨u, rfl, go_of (s := { s with heap := h', toks := tk }) e c d (by decide) ⟨x, H, I1, ru, ⟨rfl, fun ys hy => by rw [I.tuple_inj hy hq]; exact hx⟩, ⟨hin, st'⟩, fun b hb => (hf b hb).1⟩⟩
  done := by
    intro X hP hw hK hc i pins s σ H E I hf st hg
    subst hP hw hK
    obtain ⟨f0, f1, f2, f3, f4, f5⟩ := hf it (by simp)
    obtain ⟨hin, hit⟩ := st
    have hge : n ≤ i := hg
    have e1 : (n : Int) - 1 - ((i : Nat) : Int) = -1 := by omega
    rw [e1] at hit
    exact Rv.end_revT (I.ok.hd hc) hit fun h' eb => ⟨rfl, I.turned (t' := s.toks) (fun b o hb e => eb b o hb e) f0 f1 f3 f4 f5⟩
  self := fun A i s Q E st h => Rv.iter_revT st.2 h
def iRevT (K : PySem.W.Frag) (ta : TA) : TI := fun σ H R => ta σ H fun vs H1 => ∃ (a : Addr) (xs : List V), vs = [.ref a] ∧ SqT K H1 a xs ∧ R (ItvT K a xs.length) H1
section
variable {X : Cx} {tg : Expr}
theorem pi_reversedT {e : Expr} {ta : TA} {p pos : Pos} (hg : Gl X "reversed") (hm : X.mg "reversed" = none) (ha : PA X [e] ta) (hs : starEach [e] X.env = [(false, eval e X.env)] := by rfl) : PI X tg (.Call (.Name "reversed" p) [e] [] pos) (iRevT X.K ta) := by
  intro pins s σ H R I h
  refine Call_ (ld_blt I hg hm boot_reversed5 (PyProof.Rows.callWith_type1 (thn (ha pos pins s σ H _ I h) fun us s1 ⟨vs, H1, I1, r1, q1⟩ => ?_) hs rfl))
  obtain ⟨a, xs, e, hq, q⟩ := q1
  subst e
  cases r1 with
  | cons r rr =>
    cases rr
    cases r
    obtain ⟨its, rv, p', hz⟩ := I1.tuple hq
    have hl := rv.length
    have hn := line63
    have e1 : ((its.toArray.size : Nat) : Int) - 1 = (xs.length : Int) - 1 - ((0 : Nat) : Int) := by simp only [List.size_toArray]; omega
    refine Rv.call_reversed_tuple p' (by rw [List.size_toArray]; omega) (Rv.iter_revT (l := a) (i := ((its.toArray.size : Nat) : Int) - 1) ⟨_, Heap.get?_push_size _ rfl, rfl, rfl⟩ ?_)
    have I2 : Inv X pins σ H1 { s1 with toks := s1.toks + 1 + 1 } := I1.tok _
    refine pi_one (tk := s1.toks + 1 + 1) I2 _ (turn_revT a _ xs.length) ⟨Nat.zero_le _, ?_⟩ q
    rw [← e1]
    exact ⟨_, Heap.get?_push_size _ rfl, rfl, rfl⟩
end
theorem lc_revT {K : PySem.W.Frag} {a : Addr} {xs : List V} {g : TG} {tt : TT} {te : TE} {vs : List Nat} {σ : St} {H1 : Hp} {D : Addr} {Qd : Hp → Prop} (Pv : Nat → Hp → Prop) (h0 : Pv 0 (upd H1 D (.lst []))) (hl : ∀ i H, i ≤ xs.length → Pv i H → SqT K H a xs)
    (hs : ∀ i x H, i < xs.length → xs[xs.length - 1 - i]? = some x → Pv i H → g x (wipe σ vs) H fun σ2 H2 => wipe σ2 vs = wipe σ vs ∧ tt σ2 H2 fun b H3 =>
      if b = true then te σ2 H3 fun y H4 => ∃ acc, H4 D = some (.lst acc) ∧ acc.length < sizeLine ∧ Pv (i + 1) (upd H4 D (.lst (acc ++ [y]))) else Pv (i + 1) H3) (hd : ∀ H, Pv xs.length H → Qd H) :
    ∃ W : Nat → Nat → Hp → Prop, (∃ m, W 0 m (upd H1 D (.lst []))) ∧ ∀ i m H, W i m H →
      ((ItvT K a xs.length).stop i H ∧ Qd H) ∨ ((ItvT K a xs.length).go i H ∧ ∃ Nx : Hp → Prop, (∀ H', Nx H' → ∃ m', m' < m ∧ W (i + 1) m' H') ∧ ∀ x H', (ItvT K a xs.length).yld i H x H' → g x (wipe σ vs) H' fun σ2 H2 => wipe σ2 vs = wipe σ vs ∧ tt σ2 H2 fun b H3 =>
        if b = true then te σ2 H3 fun y H4 => ∃ acc, H4 D = some (.lst acc) ∧ acc.length < sizeLine ∧ Nx (upd H4 D (.lst (acc ++ [y]))) else Nx H3) := by
  refine ⟨fun i m H => m = xs.length - i ∧ i ≤ xs.length ∧ Pv i H, ⟨xs.length, by simp, Nat.zero_le _, h0⟩, ?_⟩
  rintro i m H ⟨rfl, hi, p⟩
  have q := hl i H hi p
  by_cases hlt : i < xs.length
  · refine .inr ⟨⟨hlt, xs, xs[xs.length - 1 - i]'(by omega), q, by simp⟩, Pv (i + 1), fun H' p' => ⟨xs.length - (i + 1), by omega, rfl, hlt, p'⟩, fun x H' y => ?_⟩
    obtain ⟨e, y⟩ := y
    subst e
    exact hs i x _ hlt (y xs q) p
  · have e : i = xs.length := by omega
    subst e
    exact .inl ⟨Nat.le_refl _, hd H p⟩
/-! ### xs.extend(tuple) -/
section
variable {X : Cx}
def rExtendT (K : PySem.W.Frag) : V → List V → Hp → VK → Prop := fun x vs H Q => ∃ l b xs zs, x = .ref l ∧ vs = [.ref b] ∧ H l = some (.lst xs) ∧ SqT K H b zs ∧ xs.length + zs.length ≤ sizeLine ∧ Q .non (upd H l (.lst (xs ++ zs)))
theorem mt_extendT : MtM X "list.extend" (rExtendT X.K) := by
  intro pins s σ H x vs v us Q I rx rv h
  obtain ⟨l, b, xs, zs, rfl, rfl, hH, hB, hz, q⟩ := h
  cases rx
  obtain ⟨u, rfl, ru⟩ := rv.one
  cases ru
  obtain ⟨z, its, n, r, hl, e⟩ := I.lstM hH
  obtain ⟨its2, r2, ⟨⟨oc, od, dt, osl⟩, e2, hc2, n2, hd2⟩, z2⟩ := I.tuple hB
  replace hc2 : oc = .type "tuple" := hc2
  replace hd2 : dt = .seq its2.toArray n2 := hd2
  subst hc2 hd2
  have hl2 := r2.length
  have hsz : its.toArray.size + its2.toArray.size ≤ sizeLine := by rw [List.size_toArray, List.size_toArray]; omega
  have hlong : ¬ (!its.toArray.isEmpty && Builtin.List.listTooLong (its.toArray.size + its2.toArray.size)) = true := by
    rw [notLongL hsz, Bool.and_false]
    exact Bool.false_ne_true
  refine call_meets F.slot_list_extend ⟨_, e, rfl⟩ F.entry_list_extend (F.args_list_extend_2 _ _)
    (Rv.list_extend_tup l its.toArray n b its2.toArray n2 od osl hlong (by rw [List.size_toArray]; omega) (by omega)) ⟨e, e2, ?_⟩
  refine ⟨.non, _, I.lset (its' := its ++ its2) hH e (by simp) (r.append r2) ?_, rfl, q⟩
  rw [List.length_append]
  omega
end
/-! ### a dict whose keys are tuples of tuples of whole numbers -/
/-- a pair of the dict: the key's numbers, the key's address, the value's address -/
abbrev PE3 := List (List Int) × Addr × Addr
def dicV (xs : List PE3) : List (List (List Int) × Addr × Value) := xs.map fun x => (x.1, x.2.1, Value.ref x.2.2)
def IsDic (P : Program) (w : World) (a : Addr) (xs : List PE3) : Heap → Prop := fun h => xs.length ≤ sizeLine ∧ (a == sysModules) = false ∧ (xs.map (·.1)).Nodup ∧
  ∃ o es ep, h.get? a = some o ∧ o.ExactDict ∧ o.data = .dict es ep ∧ es.toList = (dicV xs).map (entryOfKey (T2.kind2 P w))
def DicO (P : Program) (w : World) (a : Addr) (xs : List PE3) : HO := .ext (IsDic P w a xs)
/-- a tuple of tuples of whole numbers stands at b -/
def TupTup (H : Hp) (b : Addr) (kss : List (List Int)) : Prop := ∃ as : List Addr, H b = some (.tup (as.map V.ref)) ∧ Paired (fun a (ks : List Int) => H a = some (.tup (ks.map V.int))) as kss
def KeysAt (H : Hp) (xs : List PE3) : Prop := ∀ x ∈ xs, TupTup H x.2.1 x.1
section
variable {P : Program} {w : World} {H H' : Hp} {h : Heap} {a b : Addr} {xs : List PE3} {kss : List (List Int)}
theorem ints_of : ∀ {ks : List Int} {us : List Value}, Vals (ks.map V.int) us → ReadsAll h us (ks.map PyData.int) []
  | [], _, r => by cases r; exact .nil
  | _ :: _, _, r => by
    cases r with
    | cons r rr =>
      obtain ⟨t, rfl⟩ := r
      exact .cons (.int _ t) (ints_of rr)
theorem leaves_of (ok : HOk P w H h) : ∀ {as : List Addr} {kss : List (List Int)} {us : List Value}, Paired (fun a (ks : List Int) => H a = some (.tup (ks.map V.int))) as kss → Vals (as.map V.ref) us → ReadsAll h us (kss.map T2.leaf) [] := by
  intro as kss us p
  induction p generalizing us with
  | nil => intro r; cases r; exact .nil
  | cons e _ ih =>
    intro r
    cases r with
    | cons r rr =>
      cases r
      obtain ⟨_, its, r1, o, ho, hc, n, hd⟩ := (show ObjOk P w H h _ (.tup _) from ok _ _ e)
      exact .cons (.tuple ho hc hd (ints_of r1)) (ih rr)
theorem key2_of (ok : HOk P w H h) (e : TupTup H b kss) : (T2.kind2 P w).is h kss b := by
  obtain ⟨as, e, pr⟩ := e
  obtain ⟨_, its, r, o, ho, hc, n, hd⟩ := (show ObjOk P w H h b (.tup (as.map V.ref)) from ok b _ e)
  exact ⟨[], .tuple ho hc hd (leaves_of ok pr r)⟩
theorem dic_of (ok : HOk P w H h) (e : H a = some (DicO P w a xs)) (ks : KeysAt H xs) : xs.length ≤ sizeLine ∧ (a == sysModules) = false ∧ h.DictOfH (T2.kind2 P w) a (dicV xs) := by
  obtain ⟨⟨z, hd, nd, o, es, ep, h1, h2, h3, h4⟩, _⟩ := (show ObjOk P w H h a (.ext (IsDic P w a xs)) from ok a _ e)
  refine ⟨z, hd, o, es, ep, h1, h2, h3, h4, fun x hx => ?_, ?_⟩
  · obtain ⟨y, hy, rfl⟩ := List.mem_map.mp hx
    exact key2_of ok (ks y hy)
  · unfold dicV
    rw [List.map_map]
    exact nd
theorem dic_new (z : xs.length ≤ sizeLine) (hd : (a == sysModules) = false) (nd : (xs.map (·.1)).Nodup) {o : Obj} {es : Array DictEntry} {ep : Nat} (h1 : h.get? a = some o) (h2 : o.ExactDict) (h3 : o.data = .dict es ep) (h4 : es.toList = (dicV xs).map (entryOfKey (T2.kind2 P w))) :
    ObjOk P w H' h a (DicO P w a xs) := by
  refine ⟨⟨z, hd, nd, o, es, ep, h1, h2, h3, h4⟩, ⟨o, h1⟩, ?_⟩
  rintro g1 g2 ⟨z, hd, nd, o, es, ep, h1, h2, h3, h4⟩ k
  exact ⟨z, hd, nd, o, es, ep, k _ h1, h2, h3, h4⟩
end
/-- what stands under a key -/
def lookP (xs : List PE3) (kss : List (List Int)) : Option Addr := (xs.find? fun x => decide (x.1 = kss)).map (·.2.2)
theorem lookP_at (xs : List PE3) (kss : List (List Int)) : (atKey (dicV xs) kss).map (·.2) = (lookP xs kss).map Value.ref := by
  unfold atKey dicV lookP
  rw [List.find?_map]
  simp only [Option.map_map]
  rfl
theorem lookP_some (xs : List PE3) (kss : List (List Int)) : (atKey (dicV xs) kss).isSome = (lookP xs kss).isSome := by
  have := congrArg Option.isSome (lookP_at xs kss)
  rw [Option.isSome_map, Option.isSome_map] at this
  exact this
section
variable {X : Cx} {pos pos' : Pos} {o i value : Expr} {td ty tv : TE}
theorem pe_dnewP : PE X (.Dict [] [] pos) (fun _ H Q => ∀ p, H p = none → Q (.ref p) (upd H p (DicO X.prog X.w p []))) := fun pins s σ H Q I h =>
  wpAny_Dict_empty ⟨.ref s.heap.objs.size, _, I.laid (a := s.heap.objs.size) (o := DicO X.prog X.w s.heap.objs.size []) (t' := s.toks) (fun _ _ q => Heap.get?_push_of_some _ q) (Nat.le_refl _)
    (dic_new (Nat.zero_le _) (beq_eq_false_iff_ne.mpr (Ne.symm (Nat.ne_of_lt I.big))) List.nodup_nil (Heap.get?_push_size _ rfl) ⟨rfl, rfl, rfl⟩ rfl rfl), rfl, h _ (I.hok.fresh (Nat.le_refl _))⟩
def PNotIn (P : Program) (w : World) (ty td : TE) : TE := fun σ H Q => ty σ H fun y H1 => td σ H1 fun x H2 => ∃ a xs b kss, x = .ref a ∧ y = .ref b ∧ H2 a = some (DicO P w a xs) ∧ KeysAt H2 xs ∧ TupTup H2 b kss ∧ Q (.bl (!(lookP xs kss).isSome)) H2
theorem pc_pnotin (hu : X.A.units + 3 < cLine) (hi : PE X i ty) (ho : PE X o td) : PC X .NotIn i o (PNotIn X.prog X.w ty td) := by
  intro pins s σ H Q I h
  refine thn (hi pins s σ H _ I h) fun iv s1 ⟨y, H1, I1, ry, q1⟩ => thn (ho pins s1 σ H1 _ I1 q1) fun u s2 ⟨x, H2, I2, rx, a, xs, b, kss, ex, ey, ea, ek, eb, q2⟩ => ?_
  subst ex ey
  obtain rfl : u = Value.ref a := rx
  obtain rfl : iv = Value.ref b := ry
  obtain ⟨z, hd, dd⟩ := dic_of I2.hok ea ek
  refine wpAny_notIn_heap (knd := T2.kind2 X.prog X.w) hu (key2_of I2.hok eb) hd dd ?_
  rw [lookP_some]
  exact ⟨.bl _, H2, I2.tok _, rfl, q2⟩
def PGetP (P : Program) (w : World) (td ty : TE) : TE := fun σ H Q => td σ H fun x H1 => ty σ H1 fun y H2 => ∃ a xs b kss v, x = .ref a ∧ y = .ref b ∧ H2 a = some (DicO P w a xs) ∧ KeysAt H2 xs ∧ TupTup H2 b kss ∧ lookP xs kss = some v ∧ Q (.ref v) H2
theorem pe_pget (hu : X.A.units + 3 < cLine) (ho : PE X o td) (hi : PE X i ty) (hs : NoSl i) : PE X (.Subscript o i pos) (PGetP X.prog X.w td ty) := by
  intro pins s σ H Q I h
  refine subD_of PySem.F.slot_dict_getitem.lookup hs (thn (ho pins s σ H _ I h) fun u s1 ⟨x, H1, I1, rx, q1⟩ => thn (hi pins s1 σ H1 _ I1 q1) fun iv s2 ⟨y, H2, I2, ry, a, xs, b, kss, v, ex, ey, ea, ek, eb, el, q2⟩ => ?_)
  subst ex ey
  obtain rfl : u = Value.ref a := rx
  obtain rfl : iv = Value.ref b := ry
  obtain ⟨z, hd, dd⟩ := dic_of I2.hok ea ek
  refine ⟨dd.typeIs, ?_⟩
  have hl := lookP_at xs kss
  rw [el] at hl
  obtain ⟨p, hp, hp2⟩ := Option.map_eq_some_iff.mp hl
  refine wpAny_getItem_heap (knd := T2.kind2 X.prog X.w) hu (key2_of I2.hok eb) dd hp ?_
  rw [hp2]
  exact ⟨.ref v, H2, I2.tok _, rfl, q2⟩
def sPPut (P : Program) (w : World) (td ty tv : TE) : TS := fun D σ H => tv σ H fun v H1 => td σ H1 fun x H2 => ty σ H2 fun y H3 => ∃ a xs b kss va, x = .ref a ∧ y = .ref b ∧ v = .ref va ∧ H3 a = some (DicO P w a xs) ∧ KeysAt H3 xs ∧ TupTup H3 b kss ∧ lookP xs kss = none ∧ xs.length < sizeLine ∧
  D.nx σ (upd H3 a (DicO P w a (xs ++ [(kss, b, va)])))
theorem lookP_none {xs : List PE3} {kss : List (List Int)} (h : lookP xs kss = none) : kss ∉ xs.map (·.1) := by
  unfold lookP at h
  intro hm
  obtain ⟨x, hx, e⟩ := List.mem_map.mp hm
  have := List.find?_eq_none.mp (Option.map_eq_none_iff.mp h) x hx
  simp [e] at this
theorem ps_pput (hu : X.A.units + 3 < cLine) (ho : PE X o td) (hi : PE X i ty) (hv : PE X value tv) (hs : swapsWith value (some (.Subscript o i pos')) pos.line X.env = pure false) :
    PS X (.Assign [.Subscript o i pos'] value pos) (sPPut X.prog X.w td ty tv) := by
  intro pins s σ H D I h
  refine wpAny_Assign_Subscript (thn (hv pins s σ H _ I h) fun r s1 ⟨v, H1, I1, rv, q1⟩ => thn (ho pins s1 σ H1 _ I1 q1) fun u s2 ⟨x, H2, I2, rx, q2⟩ => thn (hi pins s2 σ H2 _ I2 q2) fun iv s3 ⟨y, H3, I3, ry, a, xs, b, kss, va, ex, ey, ev, ea, ek, eb, el, hz, q3⟩ => ?_) hs
  subst ex ey ev
  obtain rfl : u = Value.ref a := rx
  obtain rfl : iv = Value.ref b := ry
  obtain rfl : r = Value.ref va := rv
  obtain ⟨z, hd, dd⟩ := dic_of I3.hok ea ek
  have hlen : (dicV xs).length ≤ sizeLine := by unfold dicV; rw [List.length_map]; exact z
  refine wpAny_setItem_heap (knd := T2.kind2 X.prog X.w) (hsz := hlen) hu (key2_of I3.hok eb) dd fun h' dd' sb => ?_
  have hn : atKey (dicV xs) kss = none := by
    have := lookP_at xs kss
    rw [el] at this
    exact Option.map_eq_none_iff.mp this
  rw [storedH_new hn] at dd'
  have e1 : dicV xs ++ [(kss, b, Value.ref va)] = dicV (xs ++ [(kss, b, va)]) := by unfold dicV; rw [List.map_append]; rfl
  rw [e1] at dd'
  obtain ⟨ob, es, ep, h1, h2, h3, h4, _, h5⟩ := dd'
  have nd : ((xs ++ [(kss, b, va)]).map (·.1)).Nodup := by
    unfold dicV at h5
    rw [List.map_map] at h5
    exact h5
  exact ⟨σ, _, d_write I3 (by rw [ea]; exact True.intro) sb ⟨ob, h1⟩ (dic_new (by rw [List.length_append]; exact hz) hd nd h1 h2 h3 h4), q3⟩
theorem call_lenP : CallR X (.builtin "len") (fun vs H Q => ∃ a xs, vs = [V.ref a] ∧ H a = some (DicO X.prog X.w a xs) ∧ KeysAt H xs ∧ Q (.int xs.length) H) := by
  intro pins s σ H vs us Q I r h
  obtain ⟨a, xs, rfl, ha, hk, q⟩ := h
  obtain ⟨u, rfl, ru⟩ := vals1 r
  cases ru
  obtain ⟨z, hd, dd⟩ := dic_of I.hok ha hk
  have hl : (dicV xs).length = xs.length := by unfold dicV; rw [List.length_map]
  refine Rv.len_dicH hd dd (by rw [hl]; rw [sizeLine_eq] at z; omega) ?_
  rw [hl]
  exact ⟨.int xs.length, H, I.tok _, ⟨_, rfl⟩, q⟩
def PClear (P : Program) (w : World) (to : TE) : TE := fun σ H Q => to σ H fun x H1 => ∃ a xs, x = .ref a ∧ H1 a = some (DicO P w a xs) ∧ KeysAt H1 xs ∧ Q .non (upd H1 a (DicO P w a []))
theorem pe_pclear {apos cpos : Pos} {to : TE} (ho : PE X o to) (hbase : attributeBase o "clear" X.env (eval o X.env) = eval o X.env := by rfl) (hline : (apos.endLine == cpos.line) = true := by rfl) :
    PE X (.Call (.Attribute o "clear" apos) [] [] cpos) (PClear X.prog X.w to) := by
  intro pins s σ H Q I h
  refine wpAny_Call_method0_late hbase hline (thn (ho pins s σ H _ I h) fun v s1 ⟨x, H1, I1, r1, a, xs, ex, ea, ek, q1⟩ => ?_)
  subst ex
  obtain rfl : v = Value.ref a := r1
  obtain ⟨z, hd, dd⟩ := dic_of I1.hok ea ek
  have hlen : (dicV xs).length ≤ sizeLine := by unfold dicV; rw [List.length_map]; exact z
  refine ⟨"dict", "dict.clear", PySem.F.plainAttrs_dict, PySem.F.slot_dict_clear, PySem.F.type_dict_clear, dd.typeIs, fun b e => ?_, Calls.callWith_builtin rfl (PySem.evalArgs_none ?_)⟩
  · cases e
    obtain ⟨ob, _, _, h1, h2, _⟩ := dd
    exact ⟨ob, h1, h2.2.1⟩
  · refine call_meetsIn PySem.F.slot_dict_clear dd.typeIs PySem.F.entry_dict_clear (PySem.F.args_dict_clear_1 _) (Rv.meets_clearH (T2.kind2 X.prog X.w) a) ⟨_, dd, hlen, fun h' dd' sb => ?_⟩
    obtain ⟨ob, es, ep, h1, h2, h3, h4, _, h5⟩ := dd'
    exact ⟨.non, _, d_write (t' := s1.toks) I1 (by rw [ea]; exact True.intro) sb ⟨ob, h1⟩ (dic_new (xs := []) (Nat.zero_le _) hd List.nodup_nil h1 h2 h3 h4), rfl, q1⟩
end
end L2
set_option linter.all false
namespace Br
open Md08

/-! ### rows -/
theorem perm_of_sub {α : Type} [DecidableEq α] : ∀ (l1 l2 : List α), l1.Nodup → (∀ x ∈ l1, x ∈ l2) → ∃ l3, l2.Perm (l1 ++ l3)
  | [], l2, _, _ => ⟨l2, List.Perm.refl _⟩
  | a :: l1, l2, hn, hs => by
    obtain ⟨ha, hn'⟩ := List.nodup_cons.mp hn
    have h1 : a ∈ l2 := hs a (List.mem_cons_self ..)
    obtain ⟨l3, h3⟩ := perm_of_sub l1 (l2.erase a) hn' fun x hx => by
      have hx2 := hs x (List.mem_cons_of_mem _ hx)
      have hne : x ≠ a := fun e => ha (e ▸ hx)
      exact (List.mem_erase_of_ne hne).mpr hx2
    exact ⟨l3, (List.perm_cons_erase h1).trans (h3.cons a)⟩

theorem row_perm {n : Nat} {p : Row} (h : isRow n p = true) : p.Perm (List.range n) := by
  unfold isRow at h
  rw [Bool.and_eq_true, List.all_eq_true] at h
  obtain ⟨h1, h2⟩ := h
  have h1 : p.length = n := by simpa using h1
  obtain ⟨l3, h3⟩ := perm_of_sub (List.range n) p List.nodup_range fun x hx => by
    have := h2 x hx
    simpa using this
  have hl := h3.length_eq
  rw [List.length_append, List.length_range, h1] at hl
  have : l3 = [] := List.length_eq_zero_iff.mp (by omega)
  rw [this, List.append_nil] at h3
  exact h3

theorem row_of_perm {n : Nat} {p : Row} (h : p.Perm (List.range n)) : isRow n p = true := by
  unfold isRow
  rw [Bool.and_eq_true, List.all_eq_true]
  refine ⟨by simpa using h.length_eq, fun x hx => ?_⟩
  simpa using h.mem_iff.mpr hx

theorem row_len {n : Nat} {p : Row} (h : isRow n p = true) : p.length = n := by simpa using (row_perm h).length_eq
theorem row_nodup {n : Nat} {p : Row} (h : isRow n p = true) : p.Nodup := (row_perm h).nodup_iff.mpr List.nodup_range
theorem row_mem {n : Nat} {p : Row} (h : isRow n p = true) {x : Nat} : x ∈ p ↔ x < n := by rw [(row_perm h).mem_iff, List.mem_range]

theorem at_get {p : Row} {j : Nat} (hj : j < p.length) : at_ p j = p[j] := by
  unfold at_
  simp [hj]

theorem at_lt {n : Nat} {p : Row} (h : isRow n p = true) {j : Nat} (hj : j < n) : at_ p j < n := by
  have hl := row_len h
  rw [at_get (by omega)]
  exact (row_mem h).mp (List.getElem_mem _)

theorem at_inj {n : Nat} {p : Row} (h : isRow n p = true) {j k : Nat} (hj : j < n) (hk : k < n) (e : at_ p j = at_ p k) : j = k := by
  have hl := row_len h
  rw [at_get (by omega), at_get (by omega)] at e
  exact (List.getElem_inj (row_nodup h)).mp e

theorem place_lt {n : Nat} {p : Row} (h : isRow n p = true) {s : Nat} (hs : s < n) : placeOf p s < n := by
  have hl := row_len h
  unfold placeOf
  rw [← hl]
  exact List.findIdx_lt_length_of_exists ⟨s, (row_mem h).mpr hs, by simp⟩

theorem at_place {n : Nat} {p : Row} (h : isRow n p = true) {s : Nat} (hs : s < n) : at_ p (placeOf p s) = s := by
  have hl := row_len h
  have hp := place_lt h hs
  rw [at_get (by omega)]
  have := @List.findIdx_getElem _ (fun x => x == s) p (by unfold placeOf at hp; omega)
  simpa [placeOf] using this

theorem place_at {n : Nat} {p : Row} (h : isRow n p = true) {j : Nat} (hj : j < n) : placeOf p (at_ p j) = j :=
  at_inj h (place_lt h (at_lt h hj)) hj (at_place h (at_lt h hj))

theorem place_inj {n : Nat} {p : Row} (h : isRow n p = true) {s t : Nat} (hs : s < n) (ht : t < n) (e : placeOf p s = placeOf p t) : s = t := by
  rw [← at_place h hs, ← at_place h ht, e]

theorem row_ext {n : Nat} {p q : Row} (hp : isRow n p = true) (hq : isRow n q = true) (h : ∀ j, j < n → at_ p j = at_ q j) : p = q := by
  have l1 := row_len hp
  have l2 := row_len hq
  refine List.ext_getElem (by omega) fun j h1 h2 => ?_
  rw [← at_get h1, ← at_get h2]
  exact h j (by omega)

/-- a row from its places -/
theorem row_ext' {n : Nat} {p q : Row} (hp : isRow n p = true) (hq : isRow n q = true) (h : ∀ s, s < n → placeOf p s = placeOf q s) : p = q := by
  refine row_ext hp hq fun j hj => ?_
  have h1 := h (at_ p j) (at_lt hp hj)
  rw [place_at hp hj] at h1
  rw [h1, at_place hq (at_lt hp hj), ← h1]

/-! ### two neighbours exchanged -/
def sw (i x : Nat) : Nat := if x = i then i - 1 else if x = i - 1 then i else x
theorem sw_self (i : Nat) : sw i i = i - 1 := by unfold sw; rw [if_pos rfl]
theorem sw_prev {i : Nat} (hi : 0 < i) : sw i (i - 1) = i := by unfold sw; rw [if_neg (by omega), if_pos rfl]
theorem sw_other {i x : Nat} (h1 : x ≠ i) (h2 : x ≠ i - 1) : sw i x = x := by unfold sw; rw [if_neg h1, if_neg h2]
theorem sw_sw {i : Nat} (hi : 0 < i) (x : Nat) : sw i (sw i x) = x := by
  by_cases h : x = i
  · subst h; rw [sw_self, sw_prev hi]
  · by_cases h2 : x = i - 1
    · subst h2; rw [sw_prev hi, sw_self]
    · rw [sw_other h h2, sw_other h h2]
theorem sw_lt {n i x : Nat} (hi : i < n) (hx : x < n) : sw i x < n := by unfold sw; split <;> (try split) <;> omega
theorem sw_inj {i x y : Nat} (hi : 0 < i) (e : sw i x = sw i y) : x = y := by rw [← sw_sw hi x, e, sw_sw hi]
/-- order is kept but of the two -/
theorem sw_order {i x y : Nat} (hi : 0 < i) (h : x < y) (hn : ¬ (x = i - 1 ∧ y = i)) : sw i x < sw i y := by
  unfold sw
  split <;> (try split) <;> (try split) <;> (try split) <;> omega
theorem sw_far {i j : Nat} (hi : 0 < i) (hj : i + 2 ≤ j) (x : Nat) : sw i (sw j x) = sw j (sw i x) := by
  by_cases h1 : x = i
  · subst h1; rw [sw_self, sw_other (i := j) (by omega) (by omega), sw_self, sw_other (by omega) (by omega)]
  · by_cases h2 : x = i - 1
    · subst h2; rw [sw_prev hi, sw_other (i := j) (by omega) (by omega), sw_prev hi, sw_other (by omega) (by omega)]
    · rw [sw_other (i := i) h1 h2]
      by_cases h3 : x = j
      · subst h3; rw [sw_self, sw_other (by omega) (by omega)]
      · by_cases h4 : x = j - 1
        · subst h4; rw [sw_prev (by omega), sw_other (by omega) (by omega)]
        · rw [sw_other h3 h4, sw_other h1 h2]
theorem sw_braid {i : Nat} (hi : 0 < i) (x : Nat) : sw i (sw (i + 1) (sw i x)) = sw (i + 1) (sw i (sw (i + 1) x)) := by
  have p1 : sw (i + 1) i = i + 1 := sw_prev (i := i + 1) (by omega)
  have p2 : sw (i + 1) (i + 1) = i := sw_self (i + 1)
  have p3 : sw (i + 1) (i - 1) = i - 1 := sw_other (by omega) (by omega)
  have p4 : sw i (i + 1) = i + 1 := sw_other (by omega) (by omega)
  by_cases h1 : x = i
  · subst h1; rw [sw_self, p3, sw_prev hi, p1, p4, p2]
  · by_cases h2 : x = i - 1
    · subst h2; rw [sw_prev hi, p1, p4, p3, sw_prev hi, p1]
    · by_cases h3 : x = i + 1
      · subst h3; rw [p4, p2, sw_self, p3]
      · rw [sw_other h1 h2, sw_other (i := i + 1) h3 (by omega), sw_other h1 h2, sw_other (i := i + 1) h3 (by omega)]
theorem cross_nat (p : Row) (i : Nat) : cross p (i : Int) = (p.set (i - 1) (at_ p i)).set i (at_ p (i - 1)) := by
  unfold cross
  simp only [Int.natAbs_natCast]
theorem cross_len (p : Row) (x : Int) : (cross p x).length = p.length := by unfold cross; simp
theorem at_set {p : Row} {k j : Nat} {v : Nat} (hj : j < p.length) : at_ (p.set k v) j = if k = j then v else at_ p j := by
  rw [at_get (by simpa using hj), List.getElem_set, at_get hj]
theorem at_cross {p : Row} {i j : Nat} (hi : 0 < i) (hin : i < p.length) (hj : j < p.length) : at_ (cross p (i : Int)) j = at_ p (sw i j) := by
  rw [cross_nat, at_set (by simpa using hj), at_set hj]
  unfold sw
  by_cases h1 : j = i
  · rw [if_pos h1.symm, if_pos h1]
  · rw [if_neg (fun e => h1 e.symm), if_neg h1]
    by_cases h2 : j = i - 1
    · rw [if_pos h2.symm, if_pos h2]
    · rw [if_neg (fun e => h2 e.symm), if_neg h2]

theorem perm_set_swap {α : Type} {p : List α} {i j : Nat} (hij : i < j) (hj : j < p.length) (d : α) :
    ((p.set i (p.getD j d)).set j (p.getD i d)).Perm p := by
  have e1 : p.getD j d = p[j] := by simp [List.getD, hj]
  have e2 : p.getD i d = p[i] := by simp [List.getD, show i < p.length by omega]
  rw [e1, e2]
  have := List.set_set_perm (as := p) (i := i) (j := j) (by omega) hj
  exact this
theorem row_cross {n : Nat} {p : Row} (h : isRow n p = true) {i : Nat} (hi : 0 < i) (hin : i < n) : isRow n (cross p (i : Int)) = true := by
  have hl := row_len h
  rw [cross_nat]
  exact row_of_perm ((perm_set_swap (by omega) (by omega) 0).trans (row_perm h))
theorem place_cross {n : Nat} {p : Row} (h : isRow n p = true) {i s : Nat} (hi : 0 < i) (hin : i < n) (hs : s < n) : placeOf (cross p (i : Int)) s = sw i (placeOf p s) := by
  have hl := row_len h
  have hr := row_cross h hi hin
  have hp := place_lt h hs
  refine at_inj hr (place_lt hr hs) (sw_lt hin hp) ?_
  rw [at_place hr hs, at_cross hi (by omega) (by rw [hl]; exact sw_lt hin hp), sw_sw hi, at_place h hs]

theorem without_eq (p : Row) (i : Nat) : without p i = p.map (sw i) := rfl
theorem row_without {n : Nat} {p : Row} (h : isRow n p = true) {i : Nat} (hi : 0 < i) (hin : i < n) : isRow n (without p i) = true := by
  rw [without_eq]
  have hl := row_len h
  unfold isRow
  rw [Bool.and_eq_true, List.all_eq_true]
  refine ⟨by simpa using hl, fun x hx => ?_⟩
  have hx := List.mem_range.mp hx
  have : x ∈ p.map (sw i) := List.mem_map.mpr ⟨sw i x, (row_mem h).mpr (sw_lt hin hx), sw_sw hi x⟩
  simpa using this
theorem at_without {p : Row} {i j : Nat} (hj : j < p.length) : at_ (without p i) j = sw i (at_ p j) := by
  rw [without_eq, at_get (by simpa using hj), List.getElem_map, at_get hj]
theorem place_without {n : Nat} {p : Row} (h : isRow n p = true) {i s : Nat} (hi : 0 < i) (hin : i < n) (hs : s < n) : placeOf (without p i) s = placeOf p (sw i s) := by
  have hl := row_len h
  have hr := row_without h hi hin
  have hp := place_lt h (sw_lt hin hs)
  refine at_inj hr (place_lt hr hs) hp ?_
  rw [at_place hr hs, at_without (by omega), at_place h (sw_lt hin hs), sw_sw hi]

theorem cross_cross {n : Nat} {p : Row} (h : isRow n p = true) {i : Nat} (hi : 0 < i) (hin : i < n) : cross (cross p (i : Int)) (i : Int) = p := by
  have hl := row_len h
  refine row_ext (row_cross (row_cross h hi hin) hi hin) h fun j hj => ?_
  rw [at_cross hi (by rw [cross_len]; omega) (by rw [cross_len]; omega), at_cross hi (by omega) (by rw [hl]; exact sw_lt hin hj), sw_sw hi]
theorem without_without {n : Nat} {p : Row} (h : isRow n p = true) {i : Nat} (hi : 0 < i) (hin : i < n) : without (without p i) i = p := by
  have hl := row_len h
  refine row_ext (row_without (row_without h hi hin) hi hin) h fun j hj => ?_
  have h2 := row_len (row_without h hi hin)
  rw [at_without (by omega), at_without (by omega), sw_sw hi]
theorem cross_without {n : Nat} {p : Row} (h : isRow n p = true) {i j : Nat} (hi : 0 < i) (hin : i < n) (hj : 0 < j) (hjn : j < n) : cross (without p i) (j : Int) = without (cross p (j : Int)) i := by
  have hl := row_len h
  have h1 := row_without h hi hin
  have h2 := row_cross h hj hjn
  have hl1 := row_len h1
  have hl2 := row_len h2
  refine row_ext (row_cross h1 hj hjn) (row_without h2 hi hin) fun k hk => ?_
  rw [at_cross hj (by omega) (by omega), at_without (by rw [hl]; exact sw_lt hjn hk), at_without (by omega), at_cross hj (by omega) (by omega)]

/-! ### endings and beginnings -/
theorem ends_iff {p : Row} {i : Nat} : ends p i = true ↔ at_ p i < at_ p (i - 1) := by unfold ends; simp
theorem ends_not {p : Row} {i : Nat} : ends p i = false ↔ at_ p (i - 1) ≤ at_ p i := by unfold ends; simp
theorem begins_iff {p : Row} {i : Nat} : begins p i = true ↔ placeOf p i < placeOf p (i - 1) := by unfold begins; simp
theorem begins_not {p : Row} {i : Nat} : begins p i = false ↔ placeOf p (i - 1) ≤ placeOf p i := by unfold begins; simp

section
variable {n : Nat} {p q : Row} {i j : Nat}

theorem ends_cross_self (h : isRow n p = true) (hi : 0 < i) (hin : i < n) : ends (cross p (i : Int)) i = !ends p i := by
  have hl := row_len h
  have e1 : at_ (cross p (i : Int)) i = at_ p (i - 1) := by rw [at_cross hi (by omega) (by omega), sw_self]
  have e2 : at_ (cross p (i : Int)) (i - 1) = at_ p i := by rw [at_cross hi (by omega) (by omega), sw_prev hi]
  unfold ends
  rw [e1, e2]
  have hne : at_ p i ≠ at_ p (i - 1) := fun e => by have := at_inj h hin (by omega) e; omega
  by_cases hc : at_ p i < at_ p (i - 1)
  · rw [decide_eq_true hc, decide_eq_false (by omega)]; rfl
  · rw [decide_eq_false hc, decide_eq_true (by omega)]; rfl
theorem begins_without_self (h : isRow n p = true) (hi : 0 < i) (hin : i < n) : begins (without p i) i = !begins p i := by
  have e1 : placeOf (without p i) i = placeOf p (i - 1) := by rw [place_without h hi hin hin, sw_self]
  have e2 : placeOf (without p i) (i - 1) = placeOf p i := by rw [place_without h hi hin (by omega), sw_prev hi]
  unfold begins
  rw [e1, e2]
  have hne : placeOf p i ≠ placeOf p (i - 1) := fun e => by have := place_inj h hin (by omega) e; omega
  by_cases hc : placeOf p i < placeOf p (i - 1)
  · rw [decide_eq_true hc, decide_eq_false (by omega)]; rfl
  · rw [decide_eq_false hc, decide_eq_true (by omega)]; rfl

/-- a letter put behind keeps the beginnings -/
theorem begins_cross (h : isRow n p = true) (hi : 0 < i) (hin : i < n) (hj : 0 < j) (hjn : j < n) (he : ends p i = false) (hb : begins p j = true) : begins (cross p (i : Int)) j = true := by
  rw [begins_iff] at hb ⊢
  rw [place_cross h hi hin hjn, place_cross h hi hin (by omega)]
  refine sw_order hi hb fun ⟨h1, h2⟩ => ?_
  rw [ends_not, ← h1, ← h2, at_place h hjn, at_place h (by omega)] at he
  omega
/-- a letter taken from the beginning brings no new ending -/
theorem ends_without (h : isRow n q = true) (hi : 0 < i) (hin : i < n) (hj : 0 < j) (hjn : j < n) (hb : begins q i = true) (he : ends q j = false) : ends (without q i) j = false := by
  have hl := row_len h
  rw [ends_not] at he ⊢
  rw [at_without (by omega), at_without (by omega)]
  have hne : at_ q (j - 1) ≠ at_ q j := fun e => by have := at_inj h (by omega) hjn e; omega
  refine Nat.le_of_lt (sw_order hi (by omega) fun ⟨h1, h2⟩ => ?_)
  rw [begins_iff, ← h1, ← h2, place_at h hjn, place_at h (by omega)] at hb
  omega
end
end Br
set_option linter.all false
namespace Br
open Md08

/-! ### counting pairs -/
def S : Nat → (Nat → Nat) → Nat
  | 0, _ => 0
  | n + 1, g => S n g + g n
theorem S_le : ∀ {n : Nat} {g h : Nat → Nat}, (∀ a, a < n → g a ≤ h a) → S n g ≤ S n h
  | 0, _, _, _ => Nat.le_refl _
  | n + 1, g, h, k => Nat.add_le_add (S_le fun a ha => k a (by omega)) (k n (by omega))
theorem S_lt : ∀ {n : Nat} {g h : Nat → Nat} {c : Nat}, (∀ a, a < n → g a ≤ h a) → c < n → g c < h c → S n g < S n h
  | 0, _, _, _, _, hc, _ => by omega
  | n + 1, g, h, c, k, hc, l => by
    show S n g + g n < S n h + h n
    by_cases e : c = n
    · subst e
      have := S_le (n := c) (g := g) (h := h) fun a ha => k a (by omega)
      omega
    · have := S_lt (n := n) (g := g) (h := h) (c := c) (fun a ha => k a (by omega)) (by omega) l
      have := k n (by omega)
      omega
theorem S_congr : ∀ {n : Nat} {g h : Nat → Nat}, (∀ a, a < n → g a = h a) → S n g = S n h
  | 0, _, _, _ => rfl
  | n + 1, g, h, k => by
    show S n g + g n = S n h + h n
    rw [S_congr fun a ha => k a (by omega), k n (by omega)]
theorem S_const : ∀ (n c : Nat), S n (fun _ => c) = n * c
  | 0, c => by simp [S]
  | n + 1, c => by
    show S n (fun _ => c) + c = (n + 1) * c
    rw [S_const n c, Nat.succ_mul]
theorem S_sw : ∀ {n i : Nat} (g : Nat → Nat), 0 < i → i < n → S n (fun a => g (sw i a)) = S n g
  | 0, _, _, _, h => by omega
  | n + 1, i, g, h0, h1 => by
    show S n (fun a => g (sw i a)) + g (sw i n) = S n g + g n
    by_cases e : i = n
    · subst e
      cases i with
      | zero => omega
      | succ m =>
        show S m (fun a => g (sw (m + 1) a)) + g (sw (m + 1) m) + g (sw (m + 1) (m + 1)) = S m g + g m + g (m + 1)
        have e1 : sw (m + 1) m = m + 1 := sw_prev (i := m + 1) h0
        have e2 : sw (m + 1) (m + 1) = m := sw_self (m + 1)
        rw [S_congr (h := g) fun a ha => by rw [sw_other (by omega) (by omega)], e1, e2]
        omega
    · rw [S_sw g h0 (by omega), sw_other (by omega) (by omega)]

def inv (n : Nat) (f : Nat → Nat) : Nat := S n fun a => S n fun b => if a < b ∧ f b < f a then 1 else 0
theorem inv_le (n : Nat) (f : Nat → Nat) : inv n f ≤ n * n := by
  have h1 : inv n f ≤ S n fun _ => n := by
    refine S_le fun a _ => ?_
    have h2 : (S n fun b => if a < b ∧ f b < f a then 1 else 0) ≤ S n fun _ => 1 := S_le fun b _ => by split <;> omega
    rw [S_const] at h2
    omega
  rw [S_const] at h1
  exact h1
theorem inv_congr {n : Nat} {f g : Nat → Nat} (h : ∀ s, s < n → f s = g s) : inv n f = inv n g :=
  S_congr fun a ha => S_congr fun b hb => by rw [h a ha, h b hb]
theorem inv_sw {n i : Nat} {f : Nat → Nat} (h0 : 0 < i) (h1 : i < n) (h : f i < f (i - 1)) : inv n (fun s => f (sw i s)) < inv n f := by
  have e : inv n (fun s => f (sw i s)) = S n fun a => S n fun b => if sw i a < sw i b ∧ f b < f a then 1 else 0 := by
    have e1 : inv n (fun s => f (sw i s)) = S n fun a => S n fun b => if sw i (sw i a) < sw i (sw i b) ∧ f (sw i b) < f (sw i a) then 1 else 0 :=
      S_congr fun a ha => S_congr fun b hb => by rw [sw_sw h0, sw_sw h0]
    rw [e1]
    have e2 : ∀ a, (S n fun b => if sw i (sw i a) < sw i (sw i b) ∧ f (sw i b) < f (sw i a) then 1 else 0) = S n fun b => if sw i (sw i a) < sw i b ∧ f b < f (sw i a) then 1 else 0 := fun a =>
      S_sw (fun b => if sw i (sw i a) < sw i b ∧ f b < f (sw i a) then 1 else 0) h0 h1
    rw [S_congr fun a _ => e2 a]
    exact S_sw (fun a => S n fun b => if sw i a < sw i b ∧ f b < f a then 1 else 0) h0 h1
  rw [e]
  have key : ∀ a b, (if sw i a < sw i b ∧ f b < f a then 1 else 0) ≤ (if a < b ∧ f b < f a then 1 else 0) := fun a b => by
    by_cases hc : sw i a < sw i b ∧ f b < f a
    · have hab : a < b := by
        by_cases q : a < b
        · exact q
        · exfalso
          have hne : b ≠ a := fun z => by rw [z] at hc; omega
          by_cases z : b = i - 1 ∧ a = i
          · rw [z.1, z.2] at hc; omega
          · have := sw_order h0 (show b < a by omega) z
            omega
      rw [if_pos hc, if_pos ⟨hab, hc.2⟩]
      exact Nat.le_refl _
    · rw [if_neg hc]; exact Nat.zero_le _
  refine S_lt (c := i - 1) (fun a _ => S_le fun b _ => key a b) (by omega) ?_
  refine S_lt (c := i) (fun b _ => key (i - 1) b) h1 ?_
  rw [sw_prev h0, sw_self, if_neg (by omega), if_pos ⟨by omega, h⟩]
  omega
/-- how many letters a row has, at least as far as taking them off goes -/
def mu (n : Nat) (p : Row) : Nat := inv n (placeOf p)
theorem mu_le (n : Nat) (p : Row) : mu n p ≤ n * n := inv_le n _
theorem mu_without {n : Nat} {p : Row} {i : Nat} (h : isRow n p = true) (h0 : 0 < i) (h1 : i < n) (hb : begins p i = true) : mu n (without p i) < mu n p := by
  have e : mu n (without p i) = inv n (fun s => placeOf p (sw i s)) := inv_congr fun s hs => place_without h h0 h1 hs
  rw [e]
  exact inv_sw h0 h1 (begins_iff.mp hb)

/-! ### moves -/
def Rows (n : Nat) (l : List Row) : Prop := ∀ p, p ∈ l → isRow n p = true
theorem Rows.head {n : Nat} {p : Row} {l : List Row} (h : Rows n (p :: l)) : isRow n p = true := h p (List.mem_cons_self ..)
theorem Rows.tail {n : Nat} {p : Row} {l : List Row} (h : Rows n (p :: l)) : Rows n l := fun q hq => h q (List.mem_cons_of_mem _ hq)
theorem Rows.cons {n : Nat} {p : Row} {l : List Row} (h : isRow n p = true) (k : Rows n l) : Rows n (p :: l) := fun q hq => by
  rcases List.mem_cons.mp hq with rfl | z
  · exact h
  · exact k q z
theorem Rows.nil {n : Nat} : Rows n [] := fun _ h => nomatch h
theorem Rows.append {n : Nat} {a b : List Row} (h : Rows n a) (k : Rows n b) : Rows n (a ++ b) := fun q hq => (List.mem_append.mp hq).elim (h q) (k q)
theorem Rows.left {n : Nat} {a b : List Row} (h : Rows n (a ++ b)) : Rows n a := fun q hq => h q (List.mem_append_left _ hq)
theorem Rows.right {n : Nat} {a b : List Row} (h : Rows n (a ++ b)) : Rows n b := fun q hq => h q (List.mem_append_right _ hq)

inductive Step (n : Nat) : List Row → List Row → Prop
  | here {p q : Row} {l : List Row} {i : Nat} : 0 < i → i < n → begins q i = true → ends p i = false → Step n (p :: q :: l) (cross p (i : Int) :: without q i :: l)
  | there {p : Row} {l l' : List Row} : Step n l l' → Step n (p :: l) (p :: l')
inductive Steps (n : Nat) : List Row → List Row → Prop
  | refl {l : List Row} : Steps n l l
  | head {a b c : List Row} : Step n a b → Steps n b c → Steps n a c

section
variable {n : Nat} {a b c l l' : List Row} {p q : Row} {i j : Nat}
theorem Step.rows (s : Step n a b) (h : Rows n a) : Rows n b := by
  induction s with
  | here h0 h1 _ _ => exact .cons (row_cross h.head h0 h1) (.cons (row_without h.tail.head h0 h1) h.tail.tail)
  | there _ ih => exact .cons h.head (ih h.tail)
theorem Steps.rows (s : Steps n a b) (h : Rows n a) : Rows n b := by
  induction s with
  | refl => exact h
  | head s _ ih => exact ih (s.rows h)
theorem Steps.one (s : Step n a b) : Steps n a b := .head s .refl
theorem Steps.trans (s : Steps n a b) (t : Steps n b c) : Steps n a c := by
  induction s with
  | refl => exact t
  | head s _ ih => exact .head s (ih t)
theorem Steps.there (s : Steps n a b) : Steps n (p :: a) (p :: b) := by
  induction s with
  | refl => exact .refl
  | head s _ ih => exact .head (.there s) ih
theorem Steps.pre (s : Steps n a b) (c : List Row) : Steps n (c ++ a) (c ++ b) := by
  induction c with
  | nil => exact s
  | cons p c ih => exact .there ih
theorem Step.post (s : Step n a b) (c : List Row) : Step n (a ++ c) (b ++ c) := by
  induction s with
  | here h0 h1 hb he => exact .here h0 h1 hb he
  | there _ ih => exact .there ih
theorem Steps.post (s : Steps n a b) (c : List Row) : Steps n (a ++ c) (b ++ c) := by
  induction s with
  | refl => exact .refl
  | head s _ ih => exact .head (s.post c) ih
theorem Step.length (s : Step n a b) : b.length = a.length := by
  induction s with
  | here _ _ _ _ => rfl
  | there _ ih => simp [ih]
theorem Steps.length (s : Steps n a b) : b.length = a.length := by
  induction s with
  | refl => rfl
  | head s _ ih => rw [ih, s.length]

def W (n : Nat) : List Row → Nat
  | [] => 0
  | p :: l => mu n p + (n * n + 1) * W n l
theorem Step.less (s : Step n a b) (h : Rows n a) : W n b < W n a := by
  induction s with
  | @here p q l i h0 h1 hb he =>
    show mu n (cross p (i : Int)) + (n * n + 1) * (mu n (without q i) + (n * n + 1) * W n l) < mu n p + (n * n + 1) * (mu n q + (n * n + 1) * W n l)
    have h2 := mu_without h.tail.head h0 h1 hb
    have h3 := mu_le n (cross p (i : Int))
    have h4 : (n * n + 1) * (mu n (without q i) + (n * n + 1) * W n l) + (n * n + 1) ≤ (n * n + 1) * (mu n q + (n * n + 1) * W n l) := by
      have : (n * n + 1) * (mu n (without q i) + (n * n + 1) * W n l) + (n * n + 1) = (n * n + 1) * (mu n (without q i) + (n * n + 1) * W n l + 1) := (Nat.mul_succ _ _).symm
      rw [this]
      exact Nat.mul_le_mul_left _ (by omega)
    omega
  | @there p l l' s ih =>
    show mu n p + (n * n + 1) * W n l' < mu n p + (n * n + 1) * W n l
    have := Nat.mul_lt_mul_of_pos_left (ih h.tail) (show 0 < n * n + 1 by omega)
    omega

/-! ### two moves meet again -/
/-- of two letters: the far ones -/
theorem far_begins (h : isRow n q = true) (hi : 0 < i) (hij : i + 2 ≤ j) (hj : j < n) : begins (without q i) j = begins q j ∧ begins (without q j) i = begins q i := by
  unfold begins
  constructor
  · rw [place_without h hi (by omega) hj, place_without h hi (by omega) (by omega), sw_other (by omega) (by omega), sw_other (by omega) (by omega)]
  · rw [place_without h (by omega) hj (by omega), place_without h (by omega) hj (by omega), sw_other (by omega) (by omega), sw_other (by omega) (by omega)]
theorem far_ends (h : isRow n p = true) (hi : 0 < i) (hij : i + 2 ≤ j) (hj : j < n) : ends (cross p (i : Int)) j = ends p j ∧ ends (cross p (j : Int)) i = ends p i := by
  have hl := row_len h
  unfold ends
  constructor
  · rw [at_cross hi (by omega) (by omega), at_cross hi (by omega) (by omega), sw_other (by omega) (by omega), sw_other (by omega) (by omega)]
  · rw [at_cross (by omega) (by omega) (by omega), at_cross (by omega) (by omega) (by omega), sw_other (by omega) (by omega), sw_other (by omega) (by omega)]
theorem far_cross (h : isRow n p = true) (hi : 0 < i) (hij : i + 2 ≤ j) (hj : j < n) : cross (cross p (i : Int)) (j : Int) = cross (cross p (j : Int)) (i : Int) := by
  have hl := row_len h
  have hi' : i < n := by omega
  have hj0 : 0 < j := by omega
  refine row_ext (row_cross (row_cross h hi hi') hj0 hj) (row_cross (row_cross h hj0 hj) hi hi') fun k hk => ?_
  rw [at_cross hj0 (by rw [cross_len]; omega) (by rw [cross_len]; omega), at_cross hi (by omega) (by rw [hl]; exact sw_lt hj hk),
    at_cross hi (by rw [cross_len]; omega) (by rw [cross_len]; omega), at_cross hj0 (by omega) (by rw [hl]; exact sw_lt hi' hk), sw_far hi hij]
theorem far_without (hi : 0 < i) (hij : i + 2 ≤ j) : without (without q i) j = without (without q j) i := by
  rw [without_eq, without_eq, without_eq, without_eq, List.map_map, List.map_map]
  exact List.map_congr_left fun x _ => (sw_far hi hij x).symm
theorem braid_without (hi : 0 < i) : without (without (without q i) (i + 1)) i = without (without (without q (i + 1)) i) (i + 1) := by
  simp only [without_eq, List.map_map]
  exact List.map_congr_left fun x _ => sw_braid hi x
theorem braid_cross (h : isRow n p = true) (hi : 0 < i) (hin : i + 1 < n) :
    cross (cross (cross p (i : Int)) ((i + 1 : Nat) : Int)) (i : Int) = cross (cross (cross p ((i + 1 : Nat) : Int)) (i : Int)) ((i + 1 : Nat) : Int) := by
  have hl := row_len h
  have hi' : i < n := by omega
  have h1 := row_cross h hi hi'
  have h2 := row_cross h (show 0 < i + 1 by omega) hin
  have l1 := row_len h1
  have l2 := row_len h2
  have h3 := row_cross h1 (show 0 < i + 1 by omega) hin
  have h4 := row_cross h2 hi hi'
  have l3 := row_len h3
  have l4 := row_len h4
  refine row_ext (row_cross h3 hi hi') (row_cross h4 (by omega) hin) fun k hk => ?_
  have a1 := sw_lt hi' hk
  have a2 := sw_lt hin hk
  rw [at_cross hi (by omega) (by omega), at_cross (by omega) (by omega) (by omega), at_cross hi (by omega) (by rw [hl]; exact sw_lt hin a1),
    at_cross (by omega) (by omega) (by omega), at_cross hi (by omega) (by omega), at_cross (by omega) (by omega) (by rw [hl]; exact sw_lt hi' a2), sw_braid hi]
/-- the neighbouring ones: places of the three strands -/
theorem near_begins (h : isRow n q = true) (hi : 0 < i) (hin : i + 1 < n) (h1 : begins q i = true) (h2 : begins q (i + 1) = true) :
    begins (without q i) (i + 1) = true ∧ begins (without (without q i) (i + 1)) i = true ∧ begins (without q (i + 1)) i = true ∧ begins (without (without q (i + 1)) i) (i + 1) = true := by
  have hi' : i < n := by omega
  have r1 := row_without h hi hi'
  have r2 := row_without h (show 0 < i + 1 by omega) hin
  rw [begins_iff] at h1 h2
  rw [Nat.add_sub_cancel] at h2
  have p1 : sw (i + 1) i = i + 1 := sw_prev (i := i + 1) (by omega)
  have p2 : sw (i + 1) (i + 1) = i := sw_self (i + 1)
  have p3 : sw (i + 1) (i - 1) = i - 1 := sw_other (by omega) (by omega)
  have p4 : sw i (i + 1) = i + 1 := sw_other (by omega) (by omega)
  simp only [begins_iff, Nat.add_sub_cancel]
  refine ⟨?_, ?_, ?_, ?_⟩
  · rw [place_without h hi hi' hin, place_without h hi hi' hi', p4, sw_self]; omega
  · rw [place_without r1 (by omega) hin hi', place_without r1 (by omega) hin (by omega), p1, p3, place_without h hi hi' hin, place_without h hi hi' (by omega), p4, sw_prev hi]; exact h2
  · rw [place_without h (by omega) hin hi', place_without h (by omega) hin (by omega), p1, p3]; omega
  · rw [place_without r2 hi hi' hin, place_without r2 hi hi' hi', p4, sw_self, place_without h (by omega) hin hin, place_without h (by omega) hin (by omega), p2, p3]; exact h1
theorem near_ends (h : isRow n p = true) (hi : 0 < i) (hin : i + 1 < n) (h1 : ends p i = false) (h2 : ends p (i + 1) = false) :
    ends (cross p (i : Int)) (i + 1) = false ∧ ends (cross (cross p (i : Int)) ((i + 1 : Nat) : Int)) i = false ∧ ends (cross p ((i + 1 : Nat) : Int)) i = false ∧ ends (cross (cross p ((i + 1 : Nat) : Int)) (i : Int)) (i + 1) = false := by
  have hl := row_len h
  have hi' : i < n := by omega
  have r1 := row_cross h hi hi'
  have r2 := row_cross h (show 0 < i + 1 by omega) hin
  have l1 := row_len r1
  have l2 := row_len r2
  rw [ends_not] at h1 h2
  rw [Nat.add_sub_cancel] at h2
  have p1 : sw (i + 1) i = i + 1 := sw_prev (i := i + 1) (by omega)
  have p2 : sw (i + 1) (i + 1) = i := sw_self (i + 1)
  have p3 : sw (i + 1) (i - 1) = i - 1 := sw_other (by omega) (by omega)
  have p4 : sw i (i + 1) = i + 1 := sw_other (by omega) (by omega)
  simp only [ends_not, Nat.add_sub_cancel]
  refine ⟨?_, ?_, ?_, ?_⟩
  · rw [at_cross hi (by omega) (by omega), at_cross hi (by omega) (by omega), p4, sw_self]; omega
  · have z1 : at_ (cross (cross p (i : Int)) ((i + 1 : Nat) : Int)) (i - 1) = at_ p i := by rw [at_cross (i := i + 1) (by omega) (by omega) (by omega), p3, at_cross hi (by omega) (by omega), sw_prev hi]
    have z2 : at_ (cross (cross p (i : Int)) ((i + 1 : Nat) : Int)) i = at_ p (i + 1) := by rw [at_cross (i := i + 1) (by omega) (by omega) (by omega), p1, at_cross hi (by omega) (by omega), p4]
    rw [z1, z2]; exact h2
  · have z1 : at_ (cross p ((i + 1 : Nat) : Int)) (i - 1) = at_ p (i - 1) := by rw [at_cross (i := i + 1) (by omega) (by omega) (by omega), p3]
    have z2 : at_ (cross p ((i + 1 : Nat) : Int)) i = at_ p (i + 1) := by rw [at_cross (i := i + 1) (by omega) (by omega) (by omega), p1]
    rw [z1, z2]; omega
  · have z1 : at_ (cross (cross p ((i + 1 : Nat) : Int)) (i : Int)) i = at_ p (i - 1) := by rw [at_cross hi (by omega) (by omega), sw_self, at_cross (i := i + 1) (by omega) (by omega) (by omega), p3]
    have z2 : at_ (cross (cross p ((i + 1 : Nat) : Int)) (i : Int)) (i + 1) = at_ p i := by rw [at_cross hi (by omega) (by omega), p4, at_cross (i := i + 1) (by omega) (by omega) (by omega), p2]
    rw [z1, z2]; exact h1

theorem meet_pair (hp : isRow n p = true) (hq : isRow n q = true) (hi : 0 < i) (hij : i < j) (hj : j < n) (b1 : begins q i = true) (e1 : ends p i = false) (b2 : begins q j = true) (e2 : ends p j = false) :
    ∃ c, Steps n (cross p (i : Int) :: without q i :: l) c ∧ Steps n (cross p (j : Int) :: without q j :: l) c := by
  have hi' : i < n := by omega
  have hj0 : 0 < j := by omega
  by_cases hf : i + 2 ≤ j
  · have z1 := far_begins hq hi hf hj
    have z2 := far_ends hp hi hf hj
    refine ⟨_, .one (.here hj0 hj (by rw [z1.1]; exact b2) (by rw [z2.1]; exact e2)), ?_⟩
    rw [far_cross hp hi hf hj, far_without hi hf]
    exact .one (.here hi hi' (by rw [z1.2]; exact b1) (by rw [z2.2]; exact e1))
  · have e : j = i + 1 := by omega
    subst e
    obtain ⟨c1, c2, c3, c4⟩ := near_begins hq hi hj b1 b2
    obtain ⟨d1, d2, d3, d4⟩ := near_ends hp hi hj e1 e2
    refine ⟨_, .head (.here hj0 hj c1 d1) (.one (.here hi hi' c2 d2)), ?_⟩
    rw [braid_cross hp hi hj, braid_without hi]
    exact .head (.here hi hi' c3 d3) (.one (.here hj0 hj c4 d4))

theorem meet (h : Rows n l) (s : Step n l a) : ∀ b, Step n l b → ∃ c, Steps n a c ∧ Steps n b c := by
  induction s with
  | @here p q m i h0 h1 b1 e1 =>
    intro b t
    cases t with
    | @here _ _ _ j g0 g1 b2 e2 =>
      rcases Nat.lt_trichotomy i j with hlt | heq | hgt
      · exact meet_pair h.head h.tail.head h0 hlt g1 b1 e1 b2 e2
      · subst heq
        exact ⟨_, .refl, .refl⟩
      · obtain ⟨c, s1, s2⟩ := meet_pair (l := m) h.head h.tail.head g0 hgt h1 b2 e2 b1 e1
        exact ⟨c, s2, s1⟩
    | there t =>
      cases t with
      | @here _ r m' j g0 g1 b2 e2 =>
        refine ⟨cross p (i : Int) :: cross (without q i) (j : Int) :: without r j :: m', .one (.there (.here g0 g1 b2 (ends_without h.tail.head h0 h1 g0 g1 b1 e2))), ?_⟩
        rw [cross_without h.tail.head h0 h1 g0 g1]
        exact .one (.here h0 h1 (begins_cross h.tail.head g0 g1 h0 h1 e2 b1) e1)
      | there t => exact ⟨_, .one (.there (.there t)), .one (.here h0 h1 b1 e1)⟩
  | @there p m m' s ih =>
    intro b t
    cases t with
    | @here _ q m2 j g0 g1 b2 e2 =>
      cases s with
      | @here _ r m3 i h0 h1 b1 e1 =>
        refine ⟨cross p (j : Int) :: cross (without q j) (i : Int) :: without r i :: m3, ?_, .one (.there (.here h0 h1 b1 (ends_without h.tail.head g0 g1 h0 h1 b2 e1)))⟩
        rw [cross_without h.tail.head g0 g1 h0 h1]
        exact .one (.here g0 g1 (begins_cross h.tail.head h0 h1 g0 g1 e1 b2) e2)
      | there s => exact ⟨_, .one (.here g0 g1 b2 e2), .one (.there (.there s))⟩
    | there t =>
      obtain ⟨c, s1, s2⟩ := ih h.tail _ t
      exact ⟨_, s1.there, s2.there⟩

/-- all ways meet again -/
theorem confl : ∀ (k : Nat) (l : List Row), W n l < k → Rows n l → ∀ a b, Steps n l a → Steps n l b → ∃ c, Steps n a c ∧ Steps n b c := by
  intro k
  induction k with
  | zero => intro l h; omega
  | succ k ih =>
    intro l hk h a b sa sb
    cases sa with
    | refl => exact ⟨b, sb, .refl⟩
    | @head _ a1 _ s1 sa =>
      cases sb with
      | refl => exact ⟨a, .refl, .head s1 sa⟩
      | @head _ b1 _ t1 sb =>
        obtain ⟨c, ac, bc⟩ := meet h s1 _ t1
        have w1 := s1.less h
        have w2 := t1.less h
        obtain ⟨d, ad, cd⟩ := ih a1 (by omega) (s1.rows h) _ _ sa ac
        obtain ⟨e, de, be⟩ := ih b1 (by omega) (t1.rows h) _ _ (bc.trans cd) sb
        exact ⟨e, ad.trans de, be⟩
def Term (n : Nat) (l : List Row) : Prop := ∀ l', ¬ Step n l l'
theorem Term.steps (h : Term n a) (s : Steps n a b) : b = a := by
  cases s with
  | refl => rfl
  | head s _ => exact absurd s (h _)
theorem term_unique (h : Rows n l) (sa : Steps n l a) (sb : Steps n l b) (ta : Term n a) (tb : Term n b) : a = b := by
  obtain ⟨c, h1, h2⟩ := confl (W n l + 1) l (by omega) h a b sa sb
  rw [← ta.steps h1, ← tb.steps h2]
/-- what a way has reached leads to the end -/
theorem term_reach (h : Rows n l) (sa : Steps n l a) (sb : Steps n l b) (tb : Term n b) : Steps n a b := by
  obtain ⟨c, h1, h2⟩ := confl (W n l + 1) l (by omega) h a b sa sb
  rw [tb.steps h2] at h1
  exact h1
theorem term_exists : ∀ (k : Nat) (l : List Row), W n l < k → Rows n l → ∃ m, Steps n l m ∧ Term n m := by
  intro k
  induction k with
  | zero => intro l h; omega
  | succ k ih =>
    intro l hk h
    by_cases q : ∃ l', Step n l l'
    · obtain ⟨l', s⟩ := q
      have := s.less h
      obtain ⟨m, s2, t⟩ := ih l' (by omega) (s.rows h)
      exact ⟨m, .head s s2, t⟩
    · exact ⟨l, .refl, fun l' s => q ⟨l', s⟩⟩
end
end Br
set_option linter.all false
namespace Br
open Md08
section
variable {n : Nat} {a b c l l' : List Row} {p q : Row} {i j : Nat}
/-! ### none and the turn -/
theorem row_none (n : Nat) : isRow n (none_ n) = true := row_of_perm (List.Perm.refl _)
theorem row_turn (n : Nat) : isRow n (turn n) = true := row_of_perm (List.reverse_perm _)
theorem at_none (h : j < n) : at_ (none_ n) j = j := by
  unfold none_
  rw [at_get (by simpa using h), List.getElem_range]
theorem at_turn (h : j < n) : at_ (turn n) j = n - 1 - j := by
  unfold turn
  rw [at_get (by simpa using h), List.getElem_reverse, List.getElem_range, List.length_range]
theorem place_none (h : j < n) : placeOf (none_ n) j = j := by
  have := place_at (row_none n) h
  rw [at_none h] at this
  exact this
theorem place_turn (h : j < n) : placeOf (turn n) j = n - 1 - j := by
  have := place_at (row_turn n) (show n - 1 - j < n by omega)
  rw [at_turn (by omega)] at this
  have e : n - 1 - (n - 1 - j) = j := by omega
  rw [e] at this
  exact this
theorem ends_none (h1 : i < n) : ends (none_ n) i = false := by rw [ends_not, at_none h1, at_none (by omega)]; omega
theorem begins_none (h1 : i < n) : begins (none_ n) i = false := by rw [begins_not, place_none h1, place_none (by omega)]; omega
theorem ends_turn (h0 : 0 < i) (h1 : i < n) : ends (turn n) i = true := by rw [ends_iff, at_turn h1, at_turn (by omega)]; omega
theorem begins_turn (h0 : 0 < i) (h1 : i < n) : begins (turn n) i = true := by rw [begins_iff, place_turn h1, place_turn (by omega)]; omega
theorem none_ne_turn (hn : 2 ≤ n) : none_ n ≠ turn n := fun e => by
  have h1 := ends_none (n := n) (i := 1) (by omega)
  rw [e, ends_turn (by omega) (by omega)] at h1
  cases h1

/-- a function that rises at every step and stays below n is the identity -/
theorem rise_id {f : Nat → Nat} (hb : ∀ s, s < n → f s < n) (hr : ∀ i, 0 < i → i < n → f (i - 1) < f i) : ∀ s, s < n → f s = s := by
  have up : ∀ s, s < n → s ≤ f s := by
    intro s
    induction s with
    | zero => intro _; omega
    | succ s ih =>
      intro hs
      have h1 := ih (by omega)
      have h2 := hr (s + 1) (by omega) hs
      rw [Nat.add_sub_cancel] at h2
      omega
  have down : ∀ d s, s + d + 1 = n → f s + d < n := by
    intro d
    induction d with
    | zero => intro s h; have := hb s (by omega); omega
    | succ d ih =>
      intro s h
      have h1 := ih (s + 1) (by omega)
      have h2 := hr (s + 1) (by omega) (by omega)
      rw [Nat.add_sub_cancel] at h2
      omega
  intro s hs
  have h1 := up s hs
  have h2 := down (n - 1 - s) s (by omega)
  omega
theorem none_of_begins (h : isRow n q = true) (hb : ∀ i, 0 < i → i < n → begins q i = false) : q = none_ n := by
  refine row_ext' h (row_none n) fun s hs => ?_
  rw [place_none hs]
  refine rise_id (fun s hs => place_lt h hs) (fun i h0 h1 => ?_) s hs
  have h2 := begins_not.mp (hb i h0 h1)
  have h3 : placeOf q (i - 1) ≠ placeOf q i := fun e => by have := place_inj h (by omega) h1 e; omega
  omega
theorem none_of_ends (h : isRow n q = true) (hb : ∀ i, 0 < i → i < n → ends q i = false) : q = none_ n := by
  refine row_ext h (row_none n) fun s hs => ?_
  rw [at_none hs]
  refine rise_id (fun s hs => at_lt h hs) (fun i h0 h1 => ?_) s hs
  have h2 := ends_not.mp (hb i h0 h1)
  have h3 : at_ q (i - 1) ≠ at_ q i := fun e => by have := at_inj h (by omega) h1 e; omega
  omega
theorem turn_of_ends (h : isRow n q = true) (hb : ∀ i, 0 < i → i < n → ends q i = true) : q = turn n := by
  refine row_ext h (row_turn n) fun s hs => ?_
  rw [at_turn hs]
  have z := rise_id (n := n) (f := fun s => n - 1 - at_ q s) (fun s hs => by show n - 1 - at_ q s < n; omega) (fun i h0 h1 => by
    have h2 := ends_iff.mp (hb i h0 h1)
    have h3 := at_lt h h1
    have h4 := at_lt h (show i - 1 < n by omega)
    show n - 1 - at_ q (i - 1) < n - 1 - at_ q i
    omega) s hs
  have h3 := at_lt h hs
  have z' : n - 1 - at_ q s = s := z
  omega
theorem begins_some (h : isRow n q = true) (hq : q ≠ none_ n) : ∃ i, 0 < i ∧ i < n ∧ begins q i = true := by
  refine Classical.byContradiction fun z => hq (none_of_begins h fun i h0 h1 => ?_)
  cases e : begins q i with
  | false => rfl
  | true => exact absurd ⟨i, h0, h1, e⟩ z

/-! ### two rows made one -/
/-- no two strands cross in both -/
def Red (n : Nat) (p q : Row) : Prop := ∀ k l, k < l → l < n → placeOf q l < placeOf q k → at_ p k < at_ p l
theorem Red.move (hp : isRow n p = true) (hq : isRow n q = true) (h0 : 0 < i) (h1 : i < n) (hb : begins q i = true) (r : Red n p q) : ends p i = false ∧ Red n (cross p (i : Int)) (without q i) := by
  have hl := row_len hp
  constructor
  · rw [ends_not]
    exact Nat.le_of_lt (r (i - 1) i (by omega) h1 (begins_iff.mp hb))
  · intro k l hkl hl' hc
    rw [place_without hq h0 h1 hl', place_without hq h0 h1 (by omega)] at hc
    rw [at_cross h0 (by omega) (by omega), at_cross h0 (by omega) (by omega)]
    by_cases z : k = i - 1 ∧ l = i
    · rw [z.1, z.2, sw_self, sw_prev h0] at hc
      have := begins_iff.mp hb
      omega
    · exact r _ _ (sw_order h0 hkl z) (sw_lt h1 hl') hc
theorem merge (l : List Row) : ∀ (m : Nat) (p q : Row), mu n q < m → isRow n p = true → isRow n q = true → Red n p q →
    ∃ p1, isRow n p1 = true ∧ Steps n (p :: q :: l) (p1 :: none_ n :: l) ∧ ∀ j, j < n → at_ p1 j = at_ p (at_ q j) := by
  intro m
  induction m with
  | zero => intro p q h; omega
  | succ m ih =>
    intro p q hm hp hq r
    by_cases e : q = none_ n
    · subst e
      exact ⟨p, hp, .refl, fun j hj => by rw [at_none hj]⟩
    · obtain ⟨i, h0, h1, hb⟩ := begins_some hq e
      obtain ⟨he, r'⟩ := r.move hp hq h0 h1 hb
      have hlt := mu_without hq h0 h1 hb
      obtain ⟨p1, hp1, s, z⟩ := ih _ _ (by omega) (row_cross hp h0 h1) (row_without hq h0 h1) r'
      refine ⟨p1, hp1, .head (.here h0 h1 hb he) s, fun j hj => ?_⟩
      have l1 := row_len hp
      have l2 := row_len hq
      rw [z j hj, at_without (by omega), at_cross h0 (by omega) (by rw [l1]; exact sw_lt h1 (at_lt hq hj)), sw_sw h0]
theorem red_none : Red n (none_ n) q := fun k l hkl hl _ => by rw [at_none hl, at_none (by omega)]; exact hkl
theorem shift1 (hq : isRow n q = true) (l : List Row) : Steps n (none_ n :: q :: l) (q :: none_ n :: l) := by
  obtain ⟨p1, hp1, s, z⟩ := merge l (mu n q + 1) (none_ n) q (by omega) (row_none n) hq red_none
  have e : p1 = q := row_ext hp1 hq fun j hj => by rw [z j hj, at_none (at_lt hq hj)]
  rw [e] at s
  exact s
theorem shift : ∀ (b : List Row), Rows n b → Steps n (none_ n :: b) (b ++ [none_ n])
  | [], _ => .refl
  | q :: b, h => (shift1 h.head b).trans (shift b h.tail).there

/-! ### fitting -/
theorem fit_term : ∀ (l : List Row), fit n l = true → Term n l
  | [], _, _, s => nomatch s
  | [p], _, _, s => by
    cases s with
    | there s => exact nomatch s
  | p :: q :: l, h, l', s => by
    unfold fit at h
    rw [Bool.and_eq_true, List.all_eq_true] at h
    cases s with
    | @here _ _ _ i h0 h1 hb he =>
      have z := h.1 i (List.mem_range.mpr h1)
      rw [hb, he] at z
      simp at z
      omega
    | there s => exact fit_term (q :: l) h.2 _ s
theorem term_fit : ∀ (l : List Row), Term n l → fit n l = true
  | [], _ => rfl
  | [_], _ => rfl
  | p :: q :: l, h => by
    unfold fit
    rw [Bool.and_eq_true, List.all_eq_true]
    refine ⟨fun i hi => ?_, term_fit (q :: l) fun l' s => h _ (.there s)⟩
    have h1 := List.mem_range.mp hi
    by_cases h0 : i = 0
    · simp [h0]
    · cases hb : begins q i with
      | false => simp
      | true =>
        cases he : ends p i with
        | true => simp
        | false => exact absurd (Step.here (l := l) (by omega) h1 hb he) (h _)
theorem Term.tail (h : Term n (p :: l)) : Term n l := fun l' s => h _ (.there s)
theorem Term.right : ∀ {a : List Row}, Term n (a ++ b) → Term n b
  | [], h => h
  | _ :: a, h => Term.right (a := a) h.tail
theorem Term.left {a : List Row} (h : Term n (a ++ b)) : Term n a := fun l' s => h _ (s.post b)
theorem no_step1 {p : Row} {l' : List Row} (s : Step n [p] l') : False := by
  cases s with
  | there t => cases t
theorem term_none : ∀ {l : List Row}, Term n l → Term n (l ++ [none_ n])
  | [], _ => fun _ s => no_step1 s
  | [p], h => by
    intro l' s
    generalize ex : [p] ++ [none_ n] = x at s
    cases s with
    | here h0 h1 hb he =>
      simp at ex
      obtain ⟨_, rfl, _⟩ := ex
      rw [begins_none h1] at hb
      cases hb
    | there t =>
      simp at ex
      obtain ⟨_, rfl⟩ := ex
      exact no_step1 t
  | p :: q :: l, h => by
    intro l' s
    generalize ex : p :: q :: l ++ [none_ n] = x at s
    cases s with
    | here h0 h1 hb he =>
      simp at ex
      obtain ⟨rfl, rfl, _⟩ := ex
      exact h _ (.here h0 h1 hb he)
    | there t =>
      simp at ex
      obtain ⟨_, rfl⟩ := ex
      exact term_none (l := q :: l) h.tail _ t
theorem term_turn (h : Term n l) : Term n (turn n :: l) := by
  intro l' s
  cases s with
  | there s => exact h _ s
  | here h0 h1 hb he =>
    rw [ends_turn h0 h1] at he
    cases he

/-- how an end looks: turns, rows, none -/
theorem term_shape (hn : 2 ≤ n) : ∀ (l : List Row), Rows n l → Term n l → ∃ (j k : Nat) (m : List Row), l = List.replicate j (turn n) ++ (m ++ List.replicate k (none_ n)) ∧ ∀ p, p ∈ m → p ≠ none_ n ∧ p ≠ turn n
  | [], _, _ => ⟨0, 0, [], rfl, fun _ h => nomatch h⟩
  | p :: l, hr, ht => by
    obtain ⟨j, k, m, e, hm⟩ := term_shape hn l hr.tail ht.tail
    by_cases h1 : p = turn n
    · exact ⟨j + 1, k, m, by rw [h1, e]; rfl, hm⟩
    -- p is not the turn: the next is not the turn
    have hj : j = 0 := by
      cases j with
      | zero => rfl
      | succ j =>
        exfalso
        refine h1 (turn_of_ends hr.head fun i h0 hi => ?_)
        rw [e] at ht
        cases he : ends p i with
        | true => rfl
        | false => exact absurd (Step.here (l := _) h0 hi (begins_turn h0 hi) he) (ht _)
    subst hj
    by_cases h2 : p = none_ n
    · -- none: all behind it are none
      have hm0 : m = [] := by
        cases m with
        | nil => rfl
        | cons q m =>
          exfalso
          have hq := hm q (List.mem_cons_self ..)
          have hqr : isRow n q = true := by
            have hrt := hr.tail
            rw [e] at hrt
            exact hrt q (by simp)
          obtain ⟨i, h0, hi, hb⟩ := begins_some hqr hq.1
          rw [e] at ht
          exact ht _ (.here h0 hi hb (by rw [h2]; exact ends_none hi))
      subst hm0
      exact ⟨0, k + 1, [], by rw [h2, e]; rfl, fun _ h => nomatch h⟩
    · refine ⟨0, k, p :: m, by rw [e]; rfl, fun q hq => ?_⟩
      rcases List.mem_cons.mp hq with rfl | z
      · exact ⟨h2, h1⟩
      · exact hm q z

/-! ### the same braid -/
/-- so many turns and rows mean the same -/
inductive E (n : Nat) : Int × List Row → Int × List Row → Prop
  | refl {t : Int} {l : List Row} : Rows n l → E n (t, l) (t, l)
  | symm {x y : Int × List Row} : E n x y → E n y x
  | trans {x y z : Int × List Row} : E n x y → E n y z → E n x z
  | step {t : Int} {l l' : List Row} : Rows n l → Step n l l' → E n (t, l) (t, l')
  | none {t : Int} {a b : List Row} : Rows n (a ++ b) → E n (t, a ++ none_ n :: b) (t, a ++ b)
  | turn {t : Int} {l : List Row} : Rows n l → E n (t, turn n :: l) (t + 1, l)
theorem E.rows {x y : Int × List Row} (e : E n x y) : Rows n x.2 ∧ Rows n y.2 := by
  induction e with
  | refl h => exact ⟨h, h⟩
  | symm _ ih => exact ⟨ih.2, ih.1⟩
  | trans _ _ ih1 ih2 => exact ⟨ih1.1, ih2.2⟩
  | step h s => exact ⟨h, s.rows h⟩
  | none h => exact ⟨h.left.append (.cons (row_none n) h.right), h⟩
  | turn h => exact ⟨.cons (row_turn n) h, h⟩
theorem E.steps {t : Int} (h : Rows n l) (s : Steps n l l') : E n (t, l) (t, l') := by
  induction s with
  | refl => exact .refl h
  | head s _ ih => exact .trans (.step h s) (ih (s.rows h))

def Can (n : Nat) (x : Int × List Row) (g : Form) : Prop :=
  ∃ j k : Nat, Steps n x.2 (List.replicate j (turn n) ++ (g.rows ++ List.replicate k (none_ n))) ∧ Term n (List.replicate j (turn n) ++ (g.rows ++ List.replicate k (none_ n))) ∧ (∀ p, p ∈ g.rows → p ≠ none_ n ∧ p ≠ turn n) ∧ g.turns = x.1 + j
theorem can_exists (hn : 2 ≤ n) {x : Int × List Row} (h : Rows n x.2) : ∃ g, Can n x g := by
  obtain ⟨m, s, t⟩ := term_exists (W n x.2 + 1) x.2 (by omega) h
  obtain ⟨j, k, r, rfl, hr⟩ := term_shape hn m (s.rows h) t
  exact ⟨⟨x.1 + j, r⟩, j, k, s, t, hr, rfl⟩
theorem filter_turn (hn : 2 ≤ n) {j k : Nat} {r : List Row} (hr : ∀ p, p ∈ r → p ≠ none_ n ∧ p ≠ turn n) :
    ((List.replicate j (turn n) ++ (r ++ List.replicate k (none_ n))).filter (· == turn n)).length = j ∧ (List.replicate j (turn n) ++ (r ++ List.replicate k (none_ n))).filter (fun p => p != none_ n && p != turn n) = r := by
  have hne := none_ne_turn hn
  constructor
  · rw [List.filter_append, List.filter_append]
    have e1 : (List.replicate j (turn n)).filter (· == turn n) = List.replicate j (turn n) := by simp
    have e2 : r.filter (· == turn n) = [] := by
      rw [List.filter_eq_nil_iff]
      intro p hp
      simpa using (hr p hp).2
    have e3 : (List.replicate k (none_ n)).filter (· == turn n) = [] := by
      rw [List.filter_eq_nil_iff]
      intro p hp
      rw [(List.mem_replicate.mp hp).2]
      simpa using hne
    rw [e1, e2, e3]
    simp
  · rw [List.filter_append, List.filter_append]
    have e1 : (List.replicate j (turn n)).filter (fun p => p != none_ n && p != turn n) = [] := by
      rw [List.filter_eq_nil_iff]
      intro p hp
      rw [(List.mem_replicate.mp hp).2]
      simp
    have e2 : r.filter (fun p => p != none_ n && p != turn n) = r := by
      rw [List.filter_eq_self]
      intro p hp
      simpa using hr p hp
    have e3 : (List.replicate k (none_ n)).filter (fun p => p != none_ n && p != turn n) = [] := by
      rw [List.filter_eq_nil_iff]
      intro p hp
      rw [(List.mem_replicate.mp hp).2]
      simp
    rw [e1, e2, e3]
    simp
theorem can_unique (hn : 2 ≤ n) {x : Int × List Row} (h : Rows n x.2) {g g' : Form} (c : Can n x g) (c' : Can n x g') : g = g' := by
  obtain ⟨j, k, s, t, hr, ht⟩ := c
  obtain ⟨j', k', s', t', hr', ht'⟩ := c'
  have e := term_unique h s s' t t'
  obtain ⟨z1, z2⟩ := filter_turn hn (j := j) (k := k) hr
  obtain ⟨z1', z2'⟩ := filter_turn hn (j := j') (k := k') hr'
  rw [e, z1'] at z1
  rw [e, z2'] at z2
  obtain ⟨gt, gr⟩ := g
  obtain ⟨gt', gr'⟩ := g'
  have e1 : gr' = gr := z2
  have e2 : gt = gt' := by
    have a : gt = x.1 + j := ht
    have b : gt' = x.1 + j' := ht'
    rw [a, b, z1]
  rw [e1, e2]
theorem e_can (hn : 2 ≤ n) {x y : Int × List Row} (e : E n x y) : ∃ g, Can n x g ∧ Can n y g := by
  induction e with
  | refl h =>
    obtain ⟨g, c⟩ := can_exists hn (x := (_, _)) h
    exact ⟨g, c, c⟩
  | symm _ ih =>
    obtain ⟨g, c, d⟩ := ih
    exact ⟨g, d, c⟩
  | trans e1 e2 ih1 ih2 =>
    obtain ⟨g, c, d⟩ := ih1
    obtain ⟨g', c', d'⟩ := ih2
    rw [can_unique hn e1.rows.2 d c'] at c
    exact ⟨g', c, d'⟩
  | @step t l l' h s =>
    obtain ⟨g, j, k, s2, c⟩ := can_exists hn (x := (t, l')) (s.rows h)
    exact ⟨g, ⟨j, k, .head s s2, c⟩, ⟨j, k, s2, c⟩⟩
  | @none t a b h =>
    obtain ⟨g, j, k, s, tm, c⟩ := can_exists hn (x := (t, a ++ b)) h
    refine ⟨g, ⟨j, k + 1, ?_, ?_, c⟩, ⟨j, k, s, tm, c⟩⟩
    · have e : List.replicate j (Md08.turn n) ++ (g.rows ++ List.replicate (k + 1) (none_ n)) = (List.replicate j (Md08.turn n) ++ (g.rows ++ List.replicate k (none_ n))) ++ [none_ n] := by
        rw [List.replicate_succ', List.append_assoc, List.append_assoc]
      rw [e]
      refine ((shift b h.right).pre a).trans ?_
      have s' : Steps n ((a ++ b) ++ [none_ n]) _ := s.post [none_ n]
      rw [List.append_assoc] at s'
      exact s'
    · have e : List.replicate j (Md08.turn n) ++ (g.rows ++ List.replicate (k + 1) (none_ n)) = (List.replicate j (Md08.turn n) ++ (g.rows ++ List.replicate k (none_ n))) ++ [none_ n] := by
        rw [List.replicate_succ', List.append_assoc, List.append_assoc]
      rw [e]
      exact term_none tm
  | @turn t l h =>
    obtain ⟨g, j, k, s, tm, c1, c2⟩ := can_exists hn (x := (t + 1, l)) h
    refine ⟨g, ⟨j + 1, k, s.there, term_turn tm, c1, ?_⟩, ⟨j, k, s, tm, c1, c2⟩⟩
    have c2' : g.turns = t + 1 + j := c2
    show g.turns = t + ((j + 1 : Nat) : Int)
    omega
theorem right_iff {g : Form} : g.right n = true ↔ Rows n g.rows ∧ (∀ p, p ∈ g.rows → p ≠ none_ n ∧ p ≠ turn n) ∧ Term n g.rows := by
  unfold Form.right
  rw [Bool.and_eq_true, List.all_eq_true]
  constructor
  · rintro ⟨h1, h2⟩
    refine ⟨fun p hp => ?_, fun p hp => ?_, fit_term _ h2⟩
    · have := h1 p hp
      simp only [Bool.and_eq_true] at this
      exact this.1
    · have := h1 p hp
      simp only [Bool.and_eq_true, bne_iff_ne] at this
      exact this.2
  · rintro ⟨h1, h2, h3⟩
    refine ⟨fun p hp => ?_, term_fit _ h3⟩
    simp only [Bool.and_eq_true, bne_iff_ne]
    exact ⟨h1 p hp, h2 p hp⟩
theorem right_can {g : Form} (h : g.right n = true) : Can n (g.turns, g.rows) g := by
  obtain ⟨h1, h2, h3⟩ := right_iff.mp h
  exact ⟨0, 0, by simpa using Steps.refl, by simpa using h3, h2, by simp⟩
/-- EACH BRAID HAS ONE FORM -/
theorem one_form (hn : 2 ≤ n) {g h : Form} (hg : g.right n = true) (hh : h.right n = true) (e : E n (g.turns, g.rows) (h.turns, h.rows)) : g = h := by
  obtain ⟨f, c, d⟩ := e_can hn e
  rw [can_unique hn (right_iff.mp hg).1 (right_can hg) c, can_unique hn (right_iff.mp hh).1 (right_can hh) d]
end
end Br
set_option linter.all false
namespace Br
open Md08
section
variable {n : Nat} {a b c l l' : List Row} {p q r p1 q1 q2 r1 : Row} {i j : Nat}
/-! ### two rows, so that they fit -/
def Pt (n : Nat) (p q : Row) : Prop := ∀ i, 0 < i → i < n → begins q i = true → ends p i = true
theorem Pt.term (h : Pt n p q) : Term n [p, q] := by
  intro l' s
  cases s with
  | here h0 h1 hb he =>
    rw [h _ h0 h1 hb] at he
    cases he
  | there t => exact no_step1 t
theorem Term.pt (h : Term n (p :: q :: l)) : Pt n p q := fun i h0 h1 hb => by
  cases e : ends p i with
  | true => rfl
  | false => exact absurd (Step.here (l := l) h0 h1 hb e) (h _)
theorem Pt.cons (h : Pt n p q) (t : Term n (q :: l)) : Term n (p :: q :: l) := by
  intro l' s
  cases s with
  | here h0 h1 hb he =>
    rw [h _ h0 h1 hb] at he
    cases he
  | there s => exact t _ s

theorem fitted_cases (f : Nat) (p q : Row) : (∃ i, 0 < i ∧ i < n ∧ begins q i = true ∧ ends p i = false ∧ fitted n (f + 1) p q = fitted n f (cross p (i : Int)) (without q i)) ∨ (Pt n p q ∧ fitted n (f + 1) p q = (p, q)) := by
  cases e : (List.range n).find? fun (i : Nat) => i != 0 && (begins q i && !ends p i) with
  | none =>
    refine .inr ⟨fun i h0 h1 hb => ?_, ?_⟩
    · have z := List.find?_eq_none.mp e i (List.mem_range.mpr h1)
      cases he : ends p i with
      | true => rfl
      | false =>
        rw [hb, he] at z
        simp at z
        omega
    · show (match (List.range n).find? fun (i : Nat) => i != 0 && (begins q i && !ends p i) with | none => (p, q) | some i => fitted n f (cross p i) (without q i)) = (p, q)
      rw [e]
  | some i =>
    have z := List.find?_some e
    have hm := List.mem_of_find?_eq_some e
    simp only [Bool.and_eq_true, bne_iff_ne, Bool.not_eq_true'] at z
    refine .inl ⟨i, by omega, List.mem_range.mp hm, z.2.1, z.2.2, ?_⟩
    show (match (List.range n).find? fun (i : Nat) => i != 0 && (begins q i && !ends p i) with | none => (p, q) | some i => fitted n f (cross p i) (without q i)) = _
    rw [e]
theorem fitted_steps : ∀ (f : Nat) (p q : Row) (l : List Row), Steps n (p :: q :: l) ((fitted n f p q).1 :: (fitted n f p q).2 :: l)
  | 0, p, q, l => .refl
  | f + 1, p, q, l => by
    rcases fitted_cases (n := n) f p q with ⟨i, h0, h1, hb, he, e⟩ | ⟨_, e⟩
    · rw [e]; exact .head (.here h0 h1 hb he) (fitted_steps f _ _ l)
    · rw [e]; exact .refl
theorem fitted_rows (f : Nat) (hp : isRow n p = true) (hq : isRow n q = true) : isRow n (fitted n f p q).1 = true ∧ isRow n (fitted n f p q).2 = true := by
  have h := (fitted_steps (n := n) f p q []).rows (.cons hp (.cons hq .nil))
  exact ⟨h.head, h.tail.head⟩
theorem fitted_pt : ∀ (f : Nat) (p q : Row), isRow n q = true → mu n q ≤ f → Pt n (fitted n f p q).1 (fitted n f p q).2
  | 0, p, q, hq, h => by
    show Pt n p q
    intro i h0 h1 hb
    have := mu_without hq h0 h1 hb
    omega
  | f + 1, p, q, hq, h => by
    rcases fitted_cases (n := n) f p q with ⟨i, h0, h1, hb, he, e⟩ | ⟨z, e⟩
    · rw [e]
      have := mu_without hq h0 h1 hb
      exact fitted_pt f _ _ (row_without hq h0 h1) (by omega)
    · rw [e]; exact z
/-- fitted, as it is called -/
abbrev F (n : Nat) (p q : Row) : Row × Row := fitted n (n * n) p q
theorem F_pt (hq : isRow n q = true) : Pt n (F n p q).1 (F n p q).2 := fitted_pt _ _ _ hq (mu_le n q)
theorem F_rows (hp : isRow n p = true) (hq : isRow n q = true) : isRow n (F n p q).1 = true ∧ isRow n (F n p q).2 = true := fitted_rows _ hp hq
theorem F_same (hp : isRow n p = true) (hq : isRow n q = true) (s : Steps n [p, q] [p1, q1]) : F n p q = F n p1 q1 := by
  have hr := s.rows (.cons hp (.cons hq .nil))
  have e := term_unique (.cons hp (.cons hq .nil)) (fitted_steps (n * n) p q []) (s.trans (fitted_steps (n * n) p1 q1 [])) (F_pt hq).term (F_pt hr.tail.head).term
  injection e with e1 e2
  injection e2 with e2 _
  exact Prod.ext e1 e2
theorem F_reach (hp : isRow n p = true) (hq : isRow n q = true) (s : Steps n [p, q] [p1, q1]) : Steps n [p1, q1] [(F n p q).1, (F n p q).2] :=
  term_reach (.cons hp (.cons hq .nil)) s (fitted_steps _ _ _ []) (F_pt hq).term

/-- a beginning of the first stays; without it the same moves go -/
theorem fitted_begins (h0 : 0 < i) (h1 : i < n) : ∀ (f : Nat) (q r : Row), isRow n q = true → isRow n r = true → begins q i = true →
    begins (fitted n f q r).1 i = true ∧ Steps n [without q i, r] [without (fitted n f q r).1 i, (fitted n f q r).2]
  | 0, q, r, _, _, hb => ⟨hb, .refl⟩
  | f + 1, q, r, hq, hr, hb => by
    rcases fitted_cases (n := n) f q r with ⟨j, g0, g1, b2, e2, e⟩ | ⟨_, e⟩
    · rw [e]
      obtain ⟨z1, z2⟩ := fitted_begins h0 h1 f (cross q (j : Int)) (without r j) (row_cross hq g0 g1) (row_without hr g0 g1) (begins_cross hq g0 g1 h0 h1 e2 hb)
      refine ⟨z1, .head ?_ z2⟩
      rw [← cross_without hq h0 h1 g0 g1]
      exact .here g0 g1 b2 (ends_without hq h0 h1 g0 g1 hb e2)
    · rw [e]; exact ⟨hb, .refl⟩
/-- no ending of the second comes; with it the same moves go -/
theorem fitted_ends (h0 : 0 < j) (h1 : j < n) : ∀ (f : Nat) (p q : Row), isRow n p = true → isRow n q = true → ends q j = false →
    ends (fitted n f p q).2 j = false ∧ Steps n [p, cross q (j : Int)] [(fitted n f p q).1, cross (fitted n f p q).2 (j : Int)]
  | 0, p, q, _, _, he => ⟨he, .refl⟩
  | f + 1, p, q, hp, hq, he => by
    rcases fitted_cases (n := n) f p q with ⟨i, g0, g1, b2, e2, e⟩ | ⟨_, e⟩
    · rw [e]
      obtain ⟨z1, z2⟩ := fitted_ends h0 h1 f (cross p (i : Int)) (without q i) (row_cross hp g0 g1) (row_without hq g0 g1) (ends_without hq g0 g1 h0 h1 b2 he)
      refine ⟨z1, .head ?_ z2⟩
      rw [cross_without hq g0 g1 h0 h1]
      exact .here g0 g1 (begins_cross hq h0 h1 g0 g1 he b2) e2
    · rw [e]; exact ⟨he, .refl⟩

/-! ### what a pair of rows has become -/
structure Rel (n : Nat) (p q p1 q1 : Row) : Prop where
  at1 : ∀ k, k < n → at_ p1 k = at_ p (at_ q (placeOf q1 k))
  low : ∀ k l, k < l → l < n → at_ q (placeOf q1 l) < at_ q (placeOf q1 k) → at_ p1 l < at_ p1 k
  up : ∀ k l, k < l → l < n → at_ q (placeOf q1 l) < at_ q (placeOf q1 k) → placeOf q1 k < placeOf q1 l
theorem Rel.refl (hq : isRow n q = true) : Rel n p q p q := by
  refine ⟨fun k hk => by rw [at_place hq hk], fun k l h1 h2 h => ?_, fun k l h1 h2 h => ?_⟩
  · rw [at_place hq h2, at_place hq (by omega)] at h; omega
  · rw [at_place hq h2, at_place hq (by omega)] at h; omega
theorem Rel.move (h1r : isRow n p1 = true) (h2r : isRow n q1 = true) (h0 : 0 < i) (h1 : i < n) (hb : begins q1 i = true) (he : ends p1 i = false) (R : Rel n p q p1 q1) : Rel n p q (cross p1 (i : Int)) (without q1 i) := by
  have hl := row_len h1r
  refine ⟨fun k hk => ?_, fun k l hk hl' h => ?_, fun k l hk hl' h => ?_⟩
  · rw [at_cross h0 (by omega) (by omega), place_without h2r h0 h1 hk, R.at1 _ (sw_lt h1 hk)]
  · rw [place_without h2r h0 h1 hl', place_without h2r h0 h1 (by omega)] at h
    rw [at_cross h0 (by omega) (by omega), at_cross h0 (by omega) (by omega)]
    by_cases z : k = i - 1 ∧ l = i
    · rw [z.1, z.2, sw_self, sw_prev h0]
      have h3 := ends_not.mp he
      have h4 : at_ p1 (i - 1) ≠ at_ p1 i := fun e => by have := at_inj h1r (by omega) h1 e; omega
      omega
    · exact R.low _ _ (sw_order h0 hk z) (sw_lt h1 hl') h
  · rw [place_without h2r h0 h1 hl', place_without h2r h0 h1 (by omega)] at h ⊢
    by_cases z : k = i - 1 ∧ l = i
    · rw [z.1, z.2, sw_self, sw_prev h0]
      exact begins_iff.mp hb
    · exact R.up _ _ (sw_order h0 hk z) (sw_lt h1 hl') h
theorem fitted_rel : ∀ (f : Nat) (p1 q1 : Row), isRow n p1 = true → isRow n q1 = true → Rel n p q p1 q1 → Rel n p q (fitted n f p1 q1).1 (fitted n f p1 q1).2
  | 0, p1, q1, _, _, R => R
  | f + 1, p1, q1, hp, hq, R => by
    rcases fitted_cases (n := n) f p1 q1 with ⟨i, g0, g1, b2, e2, e⟩ | ⟨_, e⟩
    · rw [e]
      exact fitted_rel f _ _ (row_cross hp g0 g1) (row_without hq g0 g1) (R.move hp hq g0 g1 b2 e2)
    · rw [e]; exact R
/-- a step down somewhere between -/
theorem step_down {P : Nat → Prop} : ∀ (d a : Nat), P a → ¬ P (a + d) → ∃ k, a ≤ k ∧ k < a + d ∧ P k ∧ ¬ P (k + 1)
  | 0, a, h, k => absurd h k
  | d + 1, a, h, k => by
    by_cases z : P (a + 1)
    · obtain ⟨m, h1, h2, h3⟩ := step_down d (a + 1) z (by rw [Nat.add_right_comm]; exact k)
      exact ⟨m, by omega, by omega, h3⟩
    · exact ⟨a, Nat.le_refl _, by omega, h, z⟩
/-- THE DOMINO: q and r fit; q gives what it can to p, then takes what it can from r: the first two still fit -/
theorem domino (hp1 : isRow n p1 = true) (hq : isRow n q = true) (hr : isRow n r = true) (hq1 : isRow n q1 = true) (hq2 : isRow n q2 = true) (hr1 : isRow n r1 = true)
    (hqr : Pt n q r) (R : Rel n p q p1 q1) (hfit : Pt n p1 q1) (R2 : Rel n q1 r q2 r1) : Pt n p1 q2 := by
  intro j h0 h1 hb
  cases he : ends p1 j with
  | true => rfl
  | false =>
  exfalso
  have he' := ends_not.mp he
  have hnb : begins q1 j = false := by
    cases e : begins q1 j with
    | false => rfl
    | true => rw [hfit j h0 h1 e] at he; cases he
  have hj1 : j - 1 < n := by omega
  -- the places between q1 and r of the two strands
  have hA : placeOf q1 (j - 1) < placeOf q1 j := by
    have h3 := begins_not.mp hnb
    have h4 : placeOf q1 (j - 1) ≠ placeOf q1 j := fun e => by have := place_inj hq1 hj1 h1 e; omega
    omega
  have hB := place_lt hq1 h1
  have hA' := place_lt hq1 hj1
  have hc := begins_iff.mp hb
  -- o: the place ahead of q; c: the place behind what was taken of r
  have oab : at_ q (placeOf q1 (j - 1)) < at_ q (placeOf q1 j) := by
    have h4 : at_ q (placeOf q1 (j - 1)) ≠ at_ q (placeOf q1 j) := fun e => by have := at_inj hq hA' hB e; omega
    by_cases z : at_ q (placeOf q1 j) < at_ q (placeOf q1 (j - 1))
    · have := R.low (j - 1) j (by omega) h1 z
      omega
    · omega
  -- crossed in what was taken of r: not crossed in q1, crossed in r
  have taken : ∀ g d, g < d → d < n → placeOf q2 (at_ q1 d) < placeOf q2 (at_ q1 g) → at_ q1 g < at_ q1 d ∧ placeOf r d < placeOf r g := by
    intro g d hgd hd hcr
    have hg : g < n := by omega
    have k1 := place_lt hq2 (at_lt hq1 hd)
    have k2 := place_lt hq2 (at_lt hq1 hg)
    have e1 : at_ r (placeOf r1 (placeOf q2 (at_ q1 d))) = d := by
      have z := R2.at1 _ k1
      rw [at_place hq2 (at_lt hq1 hd)] at z
      exact (at_inj hq1 hd (at_lt hr (place_lt hr1 k1)) z).symm
    have e2 : at_ r (placeOf r1 (placeOf q2 (at_ q1 g))) = g := by
      have z := R2.at1 _ k2
      rw [at_place hq2 (at_lt hq1 hg)] at z
      exact (at_inj hq1 hg (at_lt hr (place_lt hr1 k2)) z).symm
    have c1 := R2.low _ _ hcr k2 (by rw [e1, e2]; exact hgd)
    have c2 := R2.up _ _ hcr k2 (by rw [e1, e2]; exact hgd)
    rw [at_place hq2 (at_lt hq1 hg), at_place hq2 (at_lt hq1 hd)] at c1
    have e3 : placeOf r d = placeOf r1 (placeOf q2 (at_ q1 d)) := by
      have z := place_at hr (place_lt hr1 k1)
      rw [e1] at z
      exact z
    have e4 : placeOf r g = placeOf r1 (placeOf q2 (at_ q1 g)) := by
      have z := place_at hr (place_lt hr1 k2)
      rw [e2] at z
      exact z
    exact ⟨c1, by rw [e3, e4]; exact c2⟩
  obtain ⟨d, hd⟩ : ∃ d, placeOf q1 (j - 1) + d = placeOf q1 j := ⟨placeOf q1 j - placeOf q1 (j - 1), by omega⟩
  obtain ⟨g, g1, g2, lo, hi⟩ := step_down (P := fun g => at_ q1 g ≤ j - 1) d (placeOf q1 (j - 1)) (by show at_ q1 (placeOf q1 (j - 1)) ≤ j - 1; rw [at_place hq1 hj1]; exact Nat.le_refl _)
    (by show ¬ at_ q1 (placeOf q1 (j - 1) + d) ≤ j - 1; rw [hd, at_place hq1 h1]; omega)
  rw [hd] at g2
  have hi' : j ≤ at_ q1 (g + 1) := by
    have : ¬ at_ q1 (g + 1) ≤ j - 1 := hi
    omega
  have hgn : g + 1 < n := by omega
  have hgn0 : g < n := by omega
  -- the lower ones
  have L : at_ q g ≤ at_ q (placeOf q1 (j - 1)) ∧ placeOf q2 (j - 1) ≤ placeOf q2 (at_ q1 g) := by
    by_cases z : at_ q1 g = j - 1
    · have e : placeOf q1 (j - 1) = g := by rw [← z, place_at hq1 hgn0]
      rw [e, z]
      exact ⟨Nat.le_refl _, Nat.le_refl _⟩
    · have hlt : at_ q1 g < j - 1 := by have : at_ q1 g ≤ j - 1 := lo; omega
      have hne : placeOf q1 (j - 1) ≠ g := fun e => z (by rw [← e, at_place hq1 hj1])
      constructor
      · refine Nat.le_of_not_lt fun q' => ?_
        have := R.up (at_ q1 g) (j - 1) hlt hj1 (by rw [place_at hq1 hgn0]; exact q')
        rw [place_at hq1 hgn0] at this
        omega
      · refine Nat.le_of_not_lt fun q' => ?_
        have := (taken (placeOf q1 (j - 1)) g (by omega) hgn0 (by rw [at_place hq1 hj1]; exact q')).1
        rw [at_place hq1 hj1] at this
        omega
  have U : at_ q (placeOf q1 j) ≤ at_ q (g + 1) ∧ placeOf q2 (at_ q1 (g + 1)) ≤ placeOf q2 j := by
    by_cases z : at_ q1 (g + 1) = j
    · have e : placeOf q1 j = g + 1 := by rw [← z, place_at hq1 hgn]
      rw [e, z]
      exact ⟨Nat.le_refl _, Nat.le_refl _⟩
    · have hne : placeOf q1 j ≠ g + 1 := fun e => z (by rw [← e, at_place hq1 h1])
      constructor
      · refine Nat.le_of_not_lt fun q' => ?_
        have := R.up j (at_ q1 (g + 1)) (by omega) (at_lt hq1 hgn) (by rw [place_at hq1 hgn]; exact q')
        rw [place_at hq1 hgn] at this
        omega
      · refine Nat.le_of_not_lt fun q' => ?_
        have := (taken (g + 1) (placeOf q1 j) (by omega) hB (by rw [at_place hq1 h1]; exact q')).1
        rw [at_place hq1 h1] at this
        omega
  have t := (taken g (g + 1) (by omega) hgn (by omega)).2
  have z := ends_iff.mp (hqr (g + 1) (by omega) hgn (begins_iff.mpr (by rw [Nat.add_sub_cancel]; exact t)))
  rw [Nat.add_sub_cancel] at z
  omega
end
end Br
set_option linter.all false
namespace Br
open Md08
section
variable {n : Nat} {a b c l l' : List Row} {p q r p1 q1 q2 r1 : Row} {i j : Nat}
theorem passFrom_cons (p q : Row) (l : List Row) : passFrom n p (q :: l) = (F n p q).1 :: passFrom n (F n p q).2 l := rfl
theorem passFrom_steps : ∀ (l : List Row) (p : Row), Steps n (p :: l) (passFrom n p l)
  | [], p => .refl
  | q :: l, p => by
    rw [passFrom_cons]
    exact (fitted_steps (n * n) p q l).trans (passFrom_steps l _).there
theorem pass_steps (l : List Row) : Steps n l (pass n l) := by
  cases l with
  | nil => exact .refl
  | cons p l => exact passFrom_steps l p
theorem pass_rows (h : Rows n l) : Rows n (pass n l) := (pass_steps l).rows h
/-- what is moved ahead of a pass is moved behind it -/
theorem ahead : ∀ (L : List Row), Rows n L → ∀ (x y : List Row), Steps n x y → ∀ p q p' q', x = [p, q] → y = [p', q'] → isRow n p = true → isRow n q = true → Steps n (p :: passFrom n q L) (p' :: passFrom n q' L) := by
  intro L
  induction L with
  | nil =>
    intro _ x y s p q p' q' e1 e2 _ _
    subst e1; subst e2
    exact s
  | cons r L ihL =>
    intro hL x y s
    induction s with
    | refl =>
      intro p q p' q' e1 e2 _ _
      rw [e1] at e2
      injection e2 with e2 e3
      injection e3 with e3 _
      subst e2; subst e3
      exact .refl
    | head s1 _ ih =>
      intro p q p' q' e1 e2 hp hq
      subst e1
      cases s1 with
      | there t => exact (no_step1 t).elim
      | @here _ _ _ i h0 h1 hb he =>
        refine Steps.trans ?_ (ih _ _ _ _ rfl e2 (row_cross hp h0 h1) (row_without hq h0 h1))
        rw [passFrom_cons, passFrom_cons]
        obtain ⟨z1, z2⟩ := fitted_begins h0 h1 (n * n) q r hq hL.head hb
        have hF := F_rows hq hL.head
        refine .head (.here h0 h1 z1 he) (Steps.there ?_)
        exact ihL hL.tail _ _ (F_reach (row_without hq h0 h1) hL.head z2) _ _ _ _ rfl rfl (row_without hF.1 h0 h1) hF.2
theorem passFrom_mono : ∀ (L : List Row) (p : Row) (y : List Row), isRow n p = true → Rows n L → Step n (p :: L) y → Steps n (passFrom n p L) (pass n y) := by
  intro L
  induction L with
  | nil =>
    intro p y _ _ s
    exact (no_step1 s).elim
  | cons q l ih =>
    intro p y hp hL s
    cases s with
    | @here _ _ _ i h0 h1 hb he =>
      show Steps n (passFrom n p (q :: l)) (passFrom n (cross p (i : Int)) (without q i :: l))
      rw [passFrom_cons, passFrom_cons, F_same hp hL.head (.one (.here h0 h1 hb he))]
      exact .refl
    | @there _ _ L2 t =>
      have hF := F_rows hp hL.head
      cases t with
      | @here _ r l2 j h0 h1 hb he =>
        show Steps n (passFrom n p (q :: r :: l2)) (passFrom n p (cross q (j : Int) :: without r j :: l2))
        rw [passFrom_cons, passFrom_cons p (cross q (j : Int))]
        obtain ⟨z1, z2⟩ := fitted_ends h0 h1 (n * n) p q hp hL.head he
        have s1 : Steps n (passFrom n (F n p q).2 (r :: l2)) (passFrom n (cross (F n p q).2 (j : Int)) (without r j :: l2)) := ih _ _ hF.2 hL.tail (.here h0 h1 hb z1)
        refine s1.there.trans ?_
        exact ahead (without r j :: l2) (.cons (row_without hL.tail.head h0 h1) hL.tail.tail) _ _ (F_reach hp (row_cross hL.head h0 h1) z2) _ _ _ _ rfl rfl hF.1 (row_cross hF.2 h0 h1)
      | @there _ _ l' t =>
        show Steps n (passFrom n p (q :: l)) (passFrom n p (q :: l'))
        rw [passFrom_cons, passFrom_cons]
        exact (ih _ _ hF.2 hL.tail (.there t)).there
theorem pass_mono (h : Rows n a) (s : Steps n a b) : Steps n (pass n a) (pass n b) := by
  induction s with
  | refl => exact .refl
  | @head x y z s _ ih =>
    refine Steps.trans ?_ (ih (s.rows h))
    cases x with
    | nil => exact nomatch s
    | cons p L => exact passFrom_mono L p y h.head h.tail s
theorem pass_ge (h : Rows n (p :: l)) : Steps n (p :: pass n l) (pass n (p :: l)) := by
  cases l with
  | nil => exact .refl
  | cons q l =>
    show Steps n (p :: passFrom n q l) (passFrom n p (q :: l))
    rw [passFrom_cons]
    exact ahead l h.tail.tail _ _ (fitted_steps (n * n) p q []) _ _ _ _ rfl rfl h.head h.tail.head
/-- a row put ahead of what fits: one pass is enough -/
theorem passFrom_term : ∀ (l : List Row) (p : Row), isRow n p = true → Rows n l → Term n l → Term n (passFrom n p l)
  | [], p, _, _, _ => fun _ s => no_step1 s
  | q :: l, p, hp, hl, ht => by
    rw [passFrom_cons]
    have hF := F_rows hp hl.head
    have hR := fitted_rel (n * n) p q hp hl.head (Rel.refl hl.head)
    have hP := F_pt (p := p) hl.head
    have t1 := passFrom_term l (F n p q).2 hF.2 hl.tail ht.tail
    cases l with
    | nil => exact Pt.cons hP t1
    | cons r l =>
      rw [passFrom_cons] at t1 ⊢
      have hF2 := F_rows hF.2 hl.tail.head
      have hR2 := fitted_rel (n * n) (F n p q).2 r hF.2 hl.tail.head (Rel.refl hl.tail.head)
      exact Pt.cons (domino hF.1 hl.head hl.tail.head hF.2 hF2.1 hF2.2 ht.pt hR hP hR2) t1
/-! ### so many passes -/
def passN (n : Nat) : Nat → List Row → List Row
  | 0, l => l
  | k + 1, l => pass n (passN n k l)
theorem passN_rows (h : Rows n l) : ∀ k, Rows n (passN n k l)
  | 0 => h
  | k + 1 => pass_rows (passN_rows h k)
theorem passN_ge (h : Rows n (p :: l)) : ∀ k, Steps n (p :: passN n k l) (passN n k (p :: l))
  | 0 => .refl
  | k + 1 => by
    have hr : Rows n (p :: passN n k l) := .cons h.head (passN_rows h.tail k)
    exact (pass_ge hr).trans (pass_mono hr (passN_ge h k))
theorem pass_term (h : Term n l) : pass n l = l := h.steps (pass_steps l)
theorem passN_stay (h : Term n (passN n k l)) : ∀ d, Term n (passN n (k + d) l)
  | 0 => h
  | d + 1 => by
    show Term n (pass n (passN n (k + d) l))
    rw [pass_term (passN_stay h d)]
    exact passN_stay h d
theorem passN_term : ∀ (l : List Row), Rows n l → Term n (passN n l.length l)
  | [], _ => fun _ s => nomatch s
  | p :: l, h => by
    show Term n (pass n (passN n l.length (p :: l)))
    have hr : Rows n (p :: passN n l.length l) := .cons h.head (passN_rows h.tail _)
    have t : Term n (pass n (p :: passN n l.length l)) := passFrom_term _ p h.head hr.tail (passN_term l h.tail)
    have s := pass_mono hr (passN_ge h l.length)
    rw [t.steps s]
    exact t
theorem passN_term' (h : Rows n l) {k : Nat} (hk : l.length ≤ k) : Term n (passN n k l) := by
  obtain ⟨d, rfl⟩ : ∃ d, k = l.length + d := ⟨k - l.length, by omega⟩
  exact passN_stay (passN_term l h) d
/-! ### none left out -/
theorem F_none (p : Row) : F n p (none_ n) = (p, none_ n) := by
  have z : ∀ f, fitted n f p (none_ n) = (p, none_ n) := fun f => by
    cases f with
    | zero => rfl
    | succ f =>
      rcases fitted_cases (n := n) f p (none_ n) with ⟨i, h0, h1, hb, _⟩ | ⟨_, e⟩
      · rw [begins_none h1] at hb; cases hb
      · exact e
  exact z _
theorem passFrom_none : ∀ (k : Nat) (l : List Row) (p : Row), passFrom n p (l ++ List.replicate k (none_ n)) = passFrom n p l ++ List.replicate k (none_ n)
  | 0, [], p => rfl
  | k + 1, [], p => by
    show passFrom n p (none_ n :: List.replicate k (none_ n)) = p :: none_ n :: List.replicate k (none_ n)
    rw [passFrom_cons, F_none]
    have := passFrom_none k [] (none_ n)
    rw [List.nil_append] at this
    rw [this]
    rfl
  | k, q :: l, p => by
    show passFrom n p (q :: (l ++ List.replicate k (none_ n))) = _
    rw [passFrom_cons, passFrom_none k l, passFrom_cons]
    rfl
theorem pass_none (k : Nat) (l : List Row) : pass n (l ++ List.replicate k (none_ n)) = pass n l ++ List.replicate k (none_ n) := by
  cases l with
  | nil =>
    cases k with
    | zero => rfl
    | succ k =>
      show passFrom n (none_ n) (List.replicate k (none_ n)) = _
      have := passFrom_none (n := n) k [] (none_ n)
      rw [List.nil_append] at this
      rw [this]
      rfl
  | cons p l => exact passFrom_none k l p
abbrev drop0 (n : Nat) (l : List Row) : List Row := l.filter fun (p : Row) => p != none_ n
theorem drop0_steps : ∀ (l : List Row), Rows n l → ∃ k, Steps n l (drop0 n l ++ List.replicate k (none_ n))
  | [], _ => ⟨0, .refl⟩
  | p :: l, h => by
    obtain ⟨k, s⟩ := drop0_steps l h.tail
    by_cases e : p = none_ n
    · refine ⟨k + 1, ?_⟩
      have e1 : drop0 n (p :: l) = drop0 n l := List.filter_cons_of_neg (by simp [e])
      rw [e1, e, List.replicate_succ', ← List.append_assoc]
      exact (shift l h.tail).trans (s.post [none_ n])
    · refine ⟨k, ?_⟩
      have e1 : drop0 n (p :: l) = p :: drop0 n l := List.filter_cons_of_pos (by simpa using e)
      rw [e1]
      exact s.there
theorem drop0_rows (h : Rows n l) : Rows n (drop0 n l) := fun q hq => h q (List.mem_filter.mp hq).1
def T (n : Nat) (l : List Row) : List Row := drop0 n (pass n l)
def TN (n : Nat) : Nat → List Row → List Row
  | 0, l => l
  | k + 1, l => T n (TN n k l)
theorem TN_succ (k : Nat) (l : List Row) : TN n (k + 1) l = TN n k (T n l) := by
  induction k with
  | zero => rfl
  | succ k ih =>
    show T n (TN n (k + 1) l) = T n (TN n k (T n l))
    rw [ih]
theorem TN_rows (h : Rows n l) : ∀ k, Rows n (TN n k l)
  | 0 => h
  | k + 1 => drop0_rows (pass_rows (TN_rows h k))
theorem TN_steps (h : Rows n l) : ∀ k, ∃ c, Steps n (passN n k l) (TN n k l ++ List.replicate c (none_ n))
  | 0 => ⟨0, by simpa [passN, TN] using Steps.refl⟩
  | k + 1 => by
    obtain ⟨c, s⟩ := TN_steps h k
    obtain ⟨d, s2⟩ := drop0_steps (pass n (TN n k l)) (pass_rows (TN_rows h k))
    refine ⟨d + c, ?_⟩
    have s1 := pass_mono (passN_rows h k) s
    rw [pass_none] at s1
    refine s1.trans ?_
    have s3 := s2.post (List.replicate c (none_ n))
    rw [List.append_assoc, List.replicate_append_replicate] at s3
    exact s3
theorem TN_term (h : Rows n l) {k : Nat} (hk : l.length ≤ k) : Term n (TN n k l) := by
  obtain ⟨c, s⟩ := TN_steps h k
  have t := passN_term' h hk
  have e := t.steps s
  rw [← e] at t
  exact t.left
theorem TN_fix (h : T n l = l) : ∀ k, TN n k l = l
  | 0 => rfl
  | k + 1 => by
    show T n (TN n k l) = l
    rw [TN_fix h k, h]
theorem settled_eq : ∀ (f : Nat) (l : List Row), settled n f l = TN n f l
  | 0, l => rfl
  | f + 1, l => by
    show (if T n l = l then l else settled n f (T n l)) = _
    by_cases h : T n l = l
    · rw [if_pos h, TN_fix h]
    · rw [if_neg h, settled_eq f, TN_succ]
end
end Br
set_option linter.all false
namespace Br
open Md08
section
variable {n : Nat} {a b c l l' : List Row} {p q r p1 q1 q2 r1 : Row} {i j : Nat} {t t' : Int}
/-! ### a row seen from behind -/
theorem sw_back {x : Nat} (h0 : 0 < i) (h1 : i < n) (hx : x < n) : n - 1 - sw i x = sw (n - i) (n - 1 - x) := by
  by_cases e1 : x = i
  · subst e1
    have e : n - 1 - x = n - x - 1 := by omega
    rw [sw_self, e, sw_prev (by omega)]
    omega
  · by_cases e2 : x = i - 1
    · subst e2
      have e : n - 1 - (i - 1) = n - i := by omega
      rw [sw_prev h0, e, sw_self]
      omega
    · rw [sw_other e1 e2, sw_other (by omega) (by omega)]
theorem len_turned (p : Row) : (turned n p).length = n := by unfold turned; rw [List.length_map, List.length_range]
theorem at_turned (h : j < n) : at_ (turned n p) j = n - 1 - at_ p (n - 1 - j) := by
  rw [at_get (by rw [len_turned]; exact h)]
  unfold turned
  rw [List.getElem_map, List.getElem_range]
theorem row_turned (h : isRow n p = true) : isRow n (turned n p) = true := by
  unfold isRow
  rw [Bool.and_eq_true, List.all_eq_true]
  refine ⟨by simpa using len_turned p, fun x hx => ?_⟩
  have hx := List.mem_range.mp hx
  have hp := place_lt h (show n - 1 - x < n by omega)
  have : at_ (turned n p) (n - 1 - placeOf p (n - 1 - x)) = x := by
    rw [at_turned (by omega)]
    have e : n - 1 - (n - 1 - placeOf p (n - 1 - x)) = placeOf p (n - 1 - x) := by omega
    rw [e, at_place h (by omega)]
    omega
  rw [at_get (by rw [len_turned]; omega)] at this
  have hm : x ∈ turned n p := by rw [← this]; exact List.getElem_mem _
  simpa using hm
theorem place_turned {s : Nat} (h : isRow n p = true) (hs : s < n) : placeOf (turned n p) s = n - 1 - placeOf p (n - 1 - s) := by
  have hp := place_lt h (show n - 1 - s < n by omega)
  refine at_inj (row_turned h) (place_lt (row_turned h) hs) (by omega) ?_
  rw [at_place (row_turned h) hs, at_turned (by omega)]
  have e : n - 1 - (n - 1 - placeOf p (n - 1 - s)) = placeOf p (n - 1 - s) := by omega
  rw [e, at_place h (by omega)]
  omega
theorem turned_turned (h : isRow n p = true) : turned n (turned n p) = p := by
  refine row_ext (row_turned (row_turned h)) h fun j hj => ?_
  have := at_lt h hj
  rw [at_turned hj, at_turned (by omega)]
  have e : n - 1 - (n - 1 - j) = j := by omega
  rw [e]
  omega
theorem turned_none : turned n (none_ n) = none_ n := by
  refine row_ext (row_turned (row_none n)) (row_none n) fun j hj => ?_
  rw [at_turned hj, at_none (by omega), at_none hj]
  omega
theorem turned_turn : turned n (turn n) = turn n := by
  refine row_ext (row_turned (row_turn n)) (row_turn n) fun j hj => ?_
  rw [at_turned hj, at_turn (by omega), at_turn hj]
  omega
theorem ends_turned (h : isRow n p = true) (h0 : 0 < i) (h1 : i < n) : ends (turned n p) i = ends p (n - i) := by
  unfold ends
  rw [at_turned h1, at_turned (by omega)]
  have e1 : n - 1 - i = n - i - 1 := by omega
  have e2 : n - 1 - (i - 1) = n - i := by omega
  rw [e1, e2]
  have z1 := at_lt h (show n - i < n by omega)
  have z2 := at_lt h (show n - i - 1 < n by omega)
  rw [Bool.eq_iff_iff]
  simp only [decide_eq_true_eq]
  omega
theorem begins_turned (h : isRow n p = true) (h0 : 0 < i) (h1 : i < n) : begins (turned n p) i = begins p (n - i) := by
  unfold begins
  rw [place_turned h h1, place_turned h (by omega)]
  have e1 : n - 1 - i = n - i - 1 := by omega
  have e2 : n - 1 - (i - 1) = n - i := by omega
  rw [e1, e2]
  have z1 := place_lt h (show n - i < n by omega)
  have z2 := place_lt h (show n - i - 1 < n by omega)
  rw [Bool.eq_iff_iff]
  simp only [decide_eq_true_eq]
  omega
theorem turned_cross (h : isRow n p = true) (h0 : 0 < i) (h1 : i < n) : turned n (cross p (i : Int)) = cross (turned n p) ((n - i : Nat) : Int) := by
  have hl := row_len h
  have hc := row_cross h h0 h1
  refine row_ext (row_turned hc) (row_cross (row_turned h) (by omega) (by omega)) fun j hj => ?_
  have z := sw_lt (show n - i < n by omega) hj
  rw [at_turned hj, at_cross h0 (by omega) (by omega), at_cross (by omega) (by rw [len_turned]; omega) (by rw [len_turned]; exact hj), at_turned z]
  have e := sw_back (n := n) (i := n - i) (by omega) (by omega) hj
  have e2 : n - (n - i) = i := by omega
  rw [e2] at e
  rw [e]
theorem turned_without (h : isRow n p = true) (h0 : 0 < i) (h1 : i < n) : turned n (without p i) = without (turned n p) (n - i) := by
  have hl := row_len h
  have hc := row_without h h0 h1
  refine row_ext (row_turned hc) (row_without (row_turned h) (by omega) (by omega)) fun j hj => ?_
  rw [at_turned hj, at_without (by omega), at_without (by rw [len_turned]; exact hj), at_turned hj, sw_back h0 h1 (at_lt h (by omega))]
theorem Rows.turned (h : Rows n l) : Rows n (l.map (turned n)) := fun q hq => by
  obtain ⟨x, hx, rfl⟩ := List.mem_map.mp hq
  exact row_turned (h x hx)
theorem Step.turned (s : Step n l l') (h : Rows n l) : Step n (l.map (Md08.turned n)) (l'.map (Md08.turned n)) := by
  induction s with
  | @here p q m i h0 h1 hb he =>
    show Step n (Md08.turned n p :: Md08.turned n q :: m.map (Md08.turned n)) (Md08.turned n (cross p (i : Int)) :: Md08.turned n (without q i) :: m.map (Md08.turned n))
    rw [turned_cross h.head h0 h1, turned_without h.tail.head h0 h1]
    have e2 : n - (n - i) = i := by omega
    refine .here (by omega) (by omega) ?_ ?_
    · rw [begins_turned h.tail.head (by omega) (by omega), e2]; exact hb
    · rw [ends_turned h.head (by omega) (by omega), e2]; exact he
  | there _ ih => exact .there (ih h.tail)
theorem E.turned {x y : Int × List Row} (e : E n x y) : E n (x.1, x.2.map (Md08.turned n)) (y.1, y.2.map (Md08.turned n)) := by
  induction e with
  | refl h => exact .refl h.turned
  | symm _ ih => exact .symm ih
  | trans _ _ ih1 ih2 => exact .trans ih1 ih2
  | step h s => exact .step h.turned (s.turned h)
  | @none t a b h =>
    show E n (t, (a ++ none_ n :: b).map (Md08.turned n)) (t, (a ++ b).map (Md08.turned n))
    have h' := h.turned
    rw [List.map_append] at h' ⊢
    rw [List.map_append, List.map_cons, turned_none]
    exact .none h'
  | @turn t l h =>
    show E n (t, (Md08.turn n :: l).map (Md08.turned n)) (t + 1, l.map (Md08.turned n))
    rw [List.map_cons, turned_turn]
    exact .turn h.turned
theorem E.app {x y : Int × List Row} (e : E n x y) (hc : Rows n c) : E n (x.1, x.2 ++ c) (y.1, y.2 ++ c) := by
  induction e with
  | refl h => exact .refl (h.append hc)
  | symm _ ih => exact .symm ih
  | trans _ _ ih1 ih2 => exact .trans ih1 ih2
  | step h s => exact .step (h.append hc) (s.post c)
  | @none t a b h =>
    show E n (t, (a ++ none_ n :: b) ++ c) (t, (a ++ b) ++ c)
    rw [List.append_assoc, List.append_assoc]
    exact .none (a := a) (b := b ++ c) (h.left.append (h.right.append hc))
  | turn h => exact .turn (h.append hc)
/-- moves in the middle -/
theorem E.mid (ha : Rows n a) (hl : Rows n l) (hb : Rows n b) (s : Steps n l l') : E n (t, a ++ (l ++ b)) (t, a ++ (l' ++ b)) :=
  E.steps (ha.append (hl.append hb)) ((s.post b).pre a)
/-- a letter as a row -/
abbrev let_ (n i : Nat) : Row := cross (none_ n) (i : Int)
theorem row_let (h0 : 0 < i) (h1 : i < n) : isRow n (let_ n i) = true := row_cross (row_none n) h0 h1
theorem without_let (h0 : 0 < i) (h1 : i < n) : without (let_ n i) i = none_ n := by
  refine row_ext (row_without (row_let h0 h1) h0 h1) (row_none n) fun j hj => ?_
  have hl := row_len (row_let h0 h1)
  have hl0 := row_len (row_none n)
  rw [at_without (by omega), at_cross h0 (by omega) (by omega), at_none (sw_lt h1 hj), at_none hj, sw_sw h0]
theorem begins_let (h0 : 0 < i) (h1 : i < n) : begins (let_ n i) i = true := by
  have := begins_without_self (row_let h0 h1) h0 h1
  rw [without_let h0 h1, begins_none h1] at this
  cases e : begins (let_ n i) i with
  | true => rfl
  | false => rw [e] at this; cases this
/-- a row and a letter behind it -/
theorem E.letter (ha : Rows n a) (hp : isRow n p = true) (hb : Rows n b) (h0 : 0 < i) (h1 : i < n) (he : ends p i = false) : E n (t, a ++ p :: let_ n i :: b) (t, a ++ cross p (i : Int) :: b) := by
  have hL := row_let h0 h1
  have s : Steps n [p, let_ n i] [cross p (i : Int), none_ n] := by
    have z := Step.here (n := n) (p := p) (q := let_ n i) (l := []) h0 h1 (begins_let h0 h1) he
    rw [without_let h0 h1] at z
    exact .one z
  have e1 : E n (t, a ++ ([p, let_ n i] ++ b)) (t, a ++ ([cross p (i : Int), none_ n] ++ b)) := E.mid ha (.cons hp (.cons hL .nil)) hb s
  refine .trans e1 ?_
  have e2 : a ++ ([cross p (i : Int), none_ n] ++ b) = (a ++ [cross p (i : Int)]) ++ none_ n :: b := by simp
  have e3 : a ++ cross p (i : Int) :: b = (a ++ [cross p (i : Int)]) ++ b := by simp
  rw [e2, e3]
  exact .none ((ha.append (.cons (row_cross hp h0 h1) .nil)).append hb)
/-- a row's first letter taken out ahead of it -/
theorem E.first (ha : Rows n a) (hq : isRow n q = true) (hb : Rows n b) (h0 : 0 < i) (h1 : i < n) (hbg : begins q i = true) : E n (t, a ++ q :: b) (t, a ++ let_ n i :: without q i :: b) := by
  have s : Steps n [none_ n, q] [let_ n i, without q i] := .one (.here h0 h1 hbg (ends_none h1))
  have e1 : E n (t, a ++ ([none_ n, q] ++ b)) (t, a ++ ([let_ n i, without q i] ++ b)) := E.mid ha (.cons (row_none n) (.cons hq .nil)) hb s
  refine .trans (.symm (.none (ha.append (.cons hq hb)))) ?_
  exact e1
theorem cross_turn (h0 : 0 < i) (h1 : i < n) : cross (turn n) ((n - i : Nat) : Int) = without (turn n) i := by
  have hl := row_len (row_turn n)
  refine row_ext (row_cross (row_turn n) (by omega) (by omega)) (row_without (row_turn n) h0 h1) fun j hj => ?_
  have z := sw_lt (show n - i < n by omega) hj
  rw [at_cross (by omega) (by omega) (by omega), at_without (by omega), at_turn z, at_turn hj]
  have e := sw_back (n := n) (i := n - i) (by omega) (by omega) hj
  have e2 : n - (n - i) = i := by omega
  rw [e2] at e
  exact e
/-- a letter and a turn behind it -/
theorem e_letter_turn (ha : Rows n a) (hb : Rows n b) (h0 : 0 < i) (h1 : i < n) : E n (t, a ++ let_ n i :: turn n :: b) (t, a ++ turn n :: let_ n (n - i) :: b) := by
  have hT := row_turn n
  have g0 : 0 < n - i := by omega
  have g1 : n - i < n := by omega
  have hW := row_without hT h0 h1
  have hL := row_let h0 h1
  have hL2 := row_let (n := n) g0 g1
  -- the turn is itself without its last letter, and that letter
  have e1 : E n (t, (a ++ [let_ n i]) ++ without (turn n) i :: let_ n (n - i) :: b) (t, (a ++ [let_ n i]) ++ cross (without (turn n) i) ((n - i : Nat) : Int) :: b) := by
    refine E.letter (ha.append (.cons hL .nil)) hW hb g0 g1 ?_
    rw [← cross_turn h0 h1, ends_cross_self hT g0 g1, ends_turn g0 g1]
    rfl
  have e2 : cross (without (turn n) i) ((n - i : Nat) : Int) = turn n := by rw [← cross_turn h0 h1, cross_cross hT g0 g1]
  rw [e2] at e1
  have e3 : E n (t, a ++ turn n :: (let_ n (n - i) :: b)) (t, a ++ let_ n i :: without (turn n) i :: (let_ n (n - i) :: b)) := E.first ha hT (.cons hL2 hb) h0 h1 (begins_turn h0 h1)
  have s1 : (a ++ [let_ n i]) ++ without (turn n) i :: let_ n (n - i) :: b = a ++ let_ n i :: without (turn n) i :: (let_ n (n - i) :: b) := by simp
  have s2 : (a ++ [let_ n i]) ++ turn n :: b = a ++ let_ n i :: turn n :: b := by simp
  rw [s1, s2] at e1
  exact .symm (.trans e3 e1)
/-- a row and a turn behind it -/
theorem e_row_turn : ∀ (m : Nat) (p : Row) (a b : List Row), mu n p < m → Rows n a → isRow n p = true → Rows n b → E n (t, a ++ p :: turn n :: b) (t, a ++ turn n :: turned n p :: b) := by
  intro m
  induction m with
  | zero => intro p a b h; omega
  | succ m ih =>
    intro p a b hm ha hp hb
    have hT := row_turn n
    by_cases e : p = none_ n
    · subst e
      rw [turned_none]
      have e1 : E n (t, a ++ none_ n :: turn n :: b) (t, a ++ turn n :: b) := .none (ha.append (.cons hT hb))
      have e2 : E n (t, (a ++ [turn n]) ++ none_ n :: b) (t, (a ++ [turn n]) ++ b) := .none ((ha.append (.cons hT .nil)).append hb)
      have s1 : (a ++ [turn n]) ++ none_ n :: b = a ++ turn n :: none_ n :: b := by simp
      have s2 : (a ++ [turn n]) ++ b = a ++ turn n :: b := by simp
      rw [s1, s2] at e2
      exact .trans e1 (.symm e2)
    · obtain ⟨i, h0, h1, hbg⟩ := begins_some hp e
      have hlt := mu_without hp h0 h1 hbg
      have hW := row_without hp h0 h1
      have hL := row_let h0 h1
      have g0 : 0 < n - i := by omega
      have g1 : n - i < n := by omega
      have hL2 := row_let (n := n) g0 g1
      -- out of p its first letter
      have e1 : E n (t, a ++ p :: (turn n :: b)) (t, a ++ let_ n i :: without p i :: (turn n :: b)) := E.first ha hp (.cons hT hb) h0 h1 hbg
      -- the rest past the turn
      have e2 : E n (t, (a ++ [let_ n i]) ++ without p i :: turn n :: b) (t, (a ++ [let_ n i]) ++ turn n :: turned n (without p i) :: b) := ih _ _ _ (by omega) (ha.append (.cons hL .nil)) hW hb
      -- the letter past the turn
      have e3 : E n (t, a ++ let_ n i :: turn n :: (turned n (without p i) :: b)) (t, a ++ turn n :: let_ n (n - i) :: (turned n (without p i) :: b)) := e_letter_turn ha (.cons (row_turned hW) hb) h0 h1
      -- together again
      have e4 : E n (t, (a ++ [turn n]) ++ turned n p :: b) (t, (a ++ [turn n]) ++ let_ n (n - i) :: without (turned n p) (n - i) :: b) := by
        refine E.first (ha.append (.cons hT .nil)) (row_turned hp) hb g0 g1 ?_
        rw [begins_turned hp g0 g1]
        have e2 : n - (n - i) = i := by omega
        rw [e2]
        exact hbg
      have s1 : (a ++ [let_ n i]) ++ without p i :: turn n :: b = a ++ let_ n i :: without p i :: (turn n :: b) := by simp
      have s2 : (a ++ [let_ n i]) ++ turn n :: turned n (without p i) :: b = a ++ let_ n i :: turn n :: (turned n (without p i) :: b) := by simp
      rw [s1, s2] at e2
      rw [← turned_without hp h0 h1] at e4
      have s3 : (a ++ [turn n]) ++ turned n p :: b = a ++ turn n :: turned n p :: b := by simp
      have s4 : (a ++ [turn n]) ++ let_ n (n - i) :: turned n (without p i) :: b = a ++ turn n :: let_ n (n - i) :: (turned n (without p i) :: b) := by simp
      rw [s3, s4] at e4
      exact .trans e1 (.trans e2 (.trans e3 (.symm e4)))
theorem rows_rev_ind {P : List Row → Prop} (h0 : P []) (h1 : ∀ a p, P a → P (a ++ [p])) (l : List Row) : P l := by
  rw [← List.reverse_reverse l]
  induction l.reverse with
  | nil => exact h0
  | cons p l ih => rw [List.reverse_cons]; exact h1 _ _ ih
/-- a turn brought to the front -/
theorem e_turn_front (ha : Rows n a) (hb : Rows n b) : E n (t, a ++ turn n :: b) (t + 1, a.map (turned n) ++ b) := by
  induction a using rows_rev_ind generalizing b with
  | h0 => exact .turn hb
  | h1 a p ih =>
    have hp : isRow n p = true := ha p (by simp)
    have e1 : E n (t, a ++ p :: turn n :: b) (t, a ++ turn n :: turned n p :: b) := e_row_turn (mu n p + 1) p a b (by omega) ha.left hp hb
    have e2 := ih ha.left (b := turned n p :: b) (.cons (row_turned hp) hb)
    have s1 : (a ++ [p]) ++ turn n :: b = a ++ p :: turn n :: b := by simp
    have s2 : (a ++ [p]).map (turned n) ++ b = a.map (turned n) ++ turned n p :: b := by simp
    rw [s1, s2]
    exact .trans e1 e2
end
end Br
set_option linter.all false
namespace Br
open Md08
section
variable {n : Nat} {a b c l l' : List Row} {p q : Row} {i j : Nat} {t t' : Int}
/-! ### the specification's form -/
theorem e_drop0 : ∀ (l : List Row) (a : List Row), Rows n (a ++ l) → E n (t, a ++ l) (t, a ++ drop0 n l)
  | [], a, h => .refl h
  | p :: l, a, h => by
    by_cases e : p = none_ n
    · have e1 : drop0 n (p :: l) = drop0 n l := List.filter_cons_of_neg (by simp [e])
      rw [e1]
      have h' : Rows n (a ++ l) := h.left.append h.right.tail
      rw [e]
      exact .trans (.none h') (e_drop0 l a h')
    · have e1 : drop0 n (p :: l) = p :: drop0 n l := List.filter_cons_of_pos (by simpa using e)
      rw [e1]
      have z := e_drop0 l (a ++ [p]) (by simpa using h)
      simpa using z
theorem e_TN (h : Rows n l) : ∀ k, E n (t, l) (t, TN n k l)
  | 0 => .refl h
  | k + 1 => by
    have hr := TN_rows h k
    refine .trans (e_TN h k) (.trans (E.steps hr (pass_steps _)) ?_)
    have z := e_drop0 (t := t) (pass n (TN n k l)) [] (pass_rows hr)
    exact z
/-- as put ends -/
def norm (n : Nat) (t : Int) (rows : List Row) : Form :=
  let r := rows.filter fun (p : Row) => p != none_ n
  let l := settled n ((r.length + 1) * (n * n + 1)) r
  let k := lead n l
  ⟨t + (k : Int), l.drop k⟩
theorem lead_eq : ∀ (j : Nat) (m : List Row), (∀ p, p ∈ m → p ≠ turn n) → lead n (List.replicate j (turn n) ++ m) = j
  | 0, [], _ => rfl
  | 0, p :: m, h => by
    show (if p = turn n then lead n m + 1 else 0) = 0
    rw [if_neg (h p (List.mem_cons_self ..))]
  | j + 1, m, h => by
    show (if turn n = turn n then lead n (List.replicate j (turn n) ++ m) + 1 else 0) = j + 1
    rw [if_pos rfl, lead_eq j m h]
theorem e_turns : ∀ (j : Nat) (t : Int) (m : List Row), Rows n m → E n (t, List.replicate j (turn n) ++ m) (t + j, m)
  | 0, t, m, h => by
    show E n (t, m) (t + ((0 : Nat) : Int), m)
    have : t + ((0 : Nat) : Int) = t := by omega
    rw [this]
    exact .refl h
  | j + 1, t, m, h => by
    show E n (t, turn n :: (List.replicate j (turn n) ++ m)) _
    have hr : Rows n (List.replicate j (turn n) ++ m) := Rows.append (fun q hq => by rw [(List.mem_replicate.mp hq).2]; exact row_turn n) h
    have z := e_turns j (t + 1) m h
    have e : t + 1 + (j : Int) = t + ((j + 1 : Nat) : Int) := by omega
    rw [e] at z
    exact .trans (.turn hr) z
theorem norm_ok (hn : 2 ≤ n) (t : Int) (h : Rows n l) : (norm n t l).right n = true ∧ E n (t, l) ((norm n t l).turns, (norm n t l).rows) := by
  have hr : Rows n (drop0 n l) := drop0_rows h
  have key : ∀ f, (drop0 n l).length ≤ f → 0 < f → (Form.mk (t + (lead n (settled n f (drop0 n l)) : Int)) ((settled n f (drop0 n l)).drop (lead n (settled n f (drop0 n l))))).right n = true ∧
      E n (t, l) (t + (lead n (settled n f (drop0 n l)) : Int), (settled n f (drop0 n l)).drop (lead n (settled n f (drop0 n l)))) := by
    intro f hf h0
    rw [settled_eq]
    have hT := TN_rows hr f
    have ht := TN_term hr hf
    obtain ⟨j, k, m, e, hm⟩ := term_shape hn _ hT ht
    have hk : k = 0 := by
      cases k with
      | zero => rfl
      | succ k =>
        exfalso
        obtain ⟨g, rfl⟩ : ∃ g, f = g + 1 := ⟨f - 1, by omega⟩
        have hmem : none_ n ∈ TN n (g + 1) (drop0 n l) := by rw [e]; simp
        have z := (List.mem_filter.mp (show none_ n ∈ drop0 n (pass n (TN n g (drop0 n l))) from hmem)).2
        simp at z
    subst hk
    have e' : TN n f (drop0 n l) = List.replicate j (turn n) ++ m := by rw [e]; simp
    have hlead : lead n (TN n f (drop0 n l)) = j := by rw [e']; exact lead_eq j m fun p hp => (hm p hp).2
    have hdrop : (TN n f (drop0 n l)).drop j = m := by
      rw [e']
      have : j = (List.replicate j (turn n)).length := by simp
      rw [List.drop_append_of_le_length (by simp)]
      simp
    rw [hlead, hdrop]
    have hRm : Rows n m := by rw [e'] at hT; exact hT.right
    constructor
    · refine right_iff.mpr ⟨hRm, hm, ?_⟩
      rw [e'] at ht
      exact ht.right
    · have z1 := e_drop0 (t := t) l [] h
      have z2 := e_TN (t := t) hr f
      rw [e'] at z2
      exact .trans z1 (.trans z2 (e_turns j t m hRm))
  refine key ((drop0 n l).length.succ * (n * n + 1)) ?_ ?_
  · have : (drop0 n l).length.succ * 1 ≤ (drop0 n l).length.succ * (n * n + 1) := Nat.mul_le_mul_left _ (by omega)
    omega
  · exact Nat.mul_pos (by omega) (by omega)
/-- one letter more, as it is meant -/
def raw (n : Nat) (x : Int × List Row) (y : Int) : Int × List Row :=
  if 0 < y then (x.1, x.2 ++ [cross (none_ n) y]) else (x.1 - 1, x.2.map (turned n) ++ [cross (turn n) y])
def rawW (n : Nat) (w : Word) : Int × List Row := w.foldl (raw n) (0, [])
theorem letter_iff {x : Int} : letter n x = true ↔ 0 < x.natAbs ∧ x.natAbs < n := by
  unfold letter
  rw [Bool.and_eq_true, bne_iff_ne, decide_eq_true_eq]
  omega
theorem cross_abs (p : Row) (x : Int) : cross p x = cross p ((x.natAbs : Nat) : Int) := by unfold cross; simp only [Int.natAbs_natCast]
theorem raw_rows {x : Int × List Row} {y : Int} (h : Rows n x.2) (hy : letter n y = true) : Rows n (raw n x y).2 := by
  obtain ⟨h0, h1⟩ := letter_iff.mp hy
  unfold raw
  by_cases e : 0 < y
  · rw [if_pos e, cross_abs]
    exact h.append (.cons (row_cross (row_none n) h0 h1) .nil)
  · rw [if_neg e, cross_abs]
    exact h.turned.append (.cons (row_cross (row_turn n) h0 h1) .nil)
theorem e_raw {x x' : Int × List Row} {y : Int} (e : E n x x') (hy : letter n y = true) : E n (raw n x y) (raw n x' y) := by
  obtain ⟨h0, h1⟩ := letter_iff.mp hy
  unfold raw
  by_cases q : 0 < y
  · rw [if_pos q, if_pos q, cross_abs]
    exact e.app (.cons (row_cross (row_none n) h0 h1) .nil)
  · rw [if_neg q, if_neg q, cross_abs]
    have z : E n (x.1 - 1, x.2.map (turned n)) (x'.1 - 1, x'.2.map (turned n)) := by
      have shift : ∀ {u v : Int × List Row}, E n u v → ∀ d : Int, E n (u.1 + d, u.2) (v.1 + d, v.2) := fun h d => by
        induction h with
        | refl h => exact .refl h
        | symm _ ih => exact .symm ih
        | trans _ _ ih1 ih2 => exact .trans ih1 ih2
        | step h s => exact .step h s
        | none h => exact .none h
        | @turn t l h =>
          show E n (t + d, turn n :: l) (t + 1 + d, l)
          have : t + 1 + d = t + d + 1 := by omega
          rw [this]
          exact .turn h
      exact shift e.turned (-1)
    exact z.app (.cons (row_cross (row_turn n) h0 h1) .nil)
theorem put_eq (f : Form) (x : Int) : put n f x = norm n (raw n (f.turns, f.rows) x).1 (raw n (f.turns, f.rows) x).2 := by
  unfold put norm raw
  by_cases h : 0 < x
  · rw [if_pos h, if_pos h]
  · rw [if_neg h, if_neg h]
theorem form_fold (hn : 2 ≤ n) : ∀ (w : Word) (f : Form) (x : Int × List Row), w.all (letter n) = true → f.right n = true → E n x (f.turns, f.rows) →
    (w.foldl (put n) f).right n = true ∧ E n (w.foldl (raw n) x) ((w.foldl (put n) f).turns, (w.foldl (put n) f).rows)
  | [], f, x, _, hf, e => ⟨hf, e⟩
  | y :: w, f, x, hw, hf, e => by
    rw [List.all_cons, Bool.and_eq_true] at hw
    have z := e_raw e hw.1
    have ok := norm_ok hn (raw n (f.turns, f.rows) y).1 z.rows.2
    rw [← put_eq] at ok
    exact form_fold hn w (put n f y) (raw n x y) hw.2 ok.1 (.trans z ok.2)
/-- THE FORM is a form, and means the word -/
theorem form_ok (hn : 2 ≤ n) {w : Word} (hw : w.all (letter n) = true) : (form n w).right n = true ∧ E n (rawW n w) ((form n w).turns, (form n w).rows) :=
  form_fold hn w ⟨0, []⟩ (0, []) hw (right_iff.mpr ⟨Rows.nil, (fun _ h => nomatch h), (fun _ h => nomatch h)⟩) (.refl Rows.nil)
/-- and is the only one -/
theorem form_unique (hn : 2 ≤ n) {w : Word} (hw : w.all (letter n) = true) {g : Form} (hg : g.right n = true) (e : E n (rawW n w) (g.turns, g.rows)) : form n w = g := by
  obtain ⟨h1, h2⟩ := form_ok hn hw
  exact one_form hn h1 hg (.trans (.symm h2) e)
/-- the same braid, by the forms -/
theorem same_iff (hn : 2 ≤ n) {w v : Word} (hw : w.all (letter n) = true) (hv : v.all (letter n) = true) : same n w v = true ↔ E n (rawW n w) (rawW n v) := by
  unfold same
  rw [decide_eq_true_eq]
  obtain ⟨h1, h2⟩ := form_ok hn hw
  obtain ⟨g1, g2⟩ := form_ok hn hv
  constructor
  · intro e
    rw [e] at h2
    exact .trans h2 (.symm g2)
  · intro e
    exact form_unique hn hw g1 (.trans e g2)
end
end Br
set_option linter.all false
namespace Br
open Md08
section
variable {n : Nat} {p q : Row} {i j : Nat}
/-! ### a row's first word, letter by letter -/
def least (n : Nat) (p : Row) : Option Nat := (List.range n).find? fun (i : Nat) => i != 0 && begins p i
theorem least_some (h : least n p = some i) : 0 < i ∧ i < n ∧ begins p i = true := by
  have z := List.find?_some h
  have hm := List.mem_of_find?_eq_some h
  simp only [Bool.and_eq_true, bne_iff_ne] at z
  exact ⟨by omega, List.mem_range.mp hm, z.2⟩
theorem least_none (h : least n p = none) (h0 : 0 < i) (h1 : i < n) : begins p i = false := by
  have z := List.find?_eq_none.mp h i (List.mem_range.mpr h1)
  cases hb : begins p i with
  | false => rfl
  | true =>
    rw [hb] at z
    simp at z
    omega
/-- no smaller letter begins it -/
theorem least_min (h : least n p = some i) (h0 : 0 < j) (hj : j < i) : begins p j = false := by
  have hi := (least_some h).2.1
  unfold least at h
  obtain ⟨_, as, bs, e, hb⟩ := List.find?_eq_some_iff_append.mp h
  have hjm : j ∈ as := by
    have hlen : as.length = i := by
      have z : (List.range n)[as.length]? = some i := by rw [e]; simp
      rw [List.getElem?_range (by
        have := congrArg List.length e
        rw [List.length_range, List.length_append, List.length_cons] at this
        omega)] at z
      exact Option.some.inj z
    have z : (List.range n)[j]? = some j := List.getElem?_range (by omega)
    rw [e, List.getElem?_append_left (by omega)] at z
    exact List.mem_of_getElem? z
  have := hb j hjm
  cases hbg : begins p j with
  | false => rfl
  | true =>
    rw [hbg] at this
    simp at this
    omega
theorem least_of (h0 : 0 < i) (h1 : i < n) (hb : begins p i = true) (hm : ∀ j, 0 < j → j < i → begins p j = false) : least n p = some i := by
  cases h : least n p with
  | none => rw [least_none h h0 h1] at hb; cases hb
  | some k =>
    obtain ⟨k0, k1, kb⟩ := least_some h
    rcases Nat.lt_trichotomy k i with z | z | z
    · rw [hm k k0 z] at kb; cases kb
    · rw [z]
    · rw [least_min h h0 z] at hb; cases hb
theorem wordFrom_step (f : Nat) (p : Row) : wordFrom n (f + 1) p = match least n p with
    | none => []
    | some i => (i : Int) :: wordFrom n f (without p i) := rfl
theorem wordFrom_fuel : ∀ (f g : Nat) (p : Row), isRow n p = true → mu n p ≤ f → mu n p ≤ g → wordFrom n f p = wordFrom n g p := by
  have nil : ∀ (g : Nat) (p : Row), isRow n p = true → mu n p = 0 → wordFrom n g p = [] := by
    intro g p hp h
    cases g with
    | zero => rfl
    | succ g =>
      rw [wordFrom_step]
      cases e : least n p with
      | none => rfl
      | some i =>
        obtain ⟨h0, h1, hb⟩ := least_some e
        have := mu_without hp h0 h1 hb
        omega
  intro f
  induction f with
  | zero =>
    intro g p hp h1 h2
    rw [nil g p hp (by omega)]
    rfl
  | succ f ih =>
    intro g p hp h1 h2
    cases g with
    | zero =>
      rw [nil (f + 1) p hp (by omega)]
      rfl
    | succ g =>
      rw [wordFrom_step, wordFrom_step]
      cases e : least n p with
      | none => rfl
      | some i =>
        obtain ⟨h0, h1', hb⟩ := least_some e
        have := mu_without hp h0 h1' hb
        show (i : Int) :: _ = (i : Int) :: _
        rw [ih g (without p i) (row_without hp h0 h1') (by omega) (by omega)]
/-- the word, by its first letter -/
theorem word_some (hp : isRow n p = true) (h : least n p = some i) : word n p = (i : Int) :: word n (without p i) := by
  obtain ⟨h0, h1, hb⟩ := least_some h
  have hm := mu_without hp h0 h1 hb
  have hle := mu_le n p
  unfold word
  obtain ⟨f, hf⟩ : ∃ f, n * n = f + 1 := ⟨n * n - 1, by omega⟩
  have e : wordFrom n (n * n) p = wordFrom n (f + 1) p := by rw [hf]
  rw [e, wordFrom_step, h]
  show (i : Int) :: _ = (i : Int) :: _
  rw [wordFrom_fuel f (n * n) (without p i) (row_without hp h0 h1) (by omega) (by omega)]
theorem word_none (hp : isRow n p = true) (h : least n p = none) : word n p = [] := by
  unfold word
  cases e : n * n with
  | zero => rfl
  | succ f => rw [wordFrom_step, h]
theorem wordFrom_len : ∀ (f : Nat) (p : Row), (wordFrom n f p).length ≤ f
  | 0, _ => Nat.le_refl _
  | f + 1, p => by
    rw [wordFrom_step]
    cases least n p with
    | none => exact Nat.zero_le _
    | some i =>
      show (wordFrom n f (without p i)).length + 1 ≤ f + 1
      have := wordFrom_len f (without p i)
      omega
theorem word_len (p : Row) : (word n p).length ≤ n * n := wordFrom_len _ p
end
end Br
set_option linter.all false
namespace Br
open Md08
section
variable {n : Nat} {a b c l l' : List Row} {p q r p1 q1 q2 r1 : Row} {i j : Nat} {t t' : Int}
/-- THE DOMINO from the other side: p and q fit; q takes what it can from r, then gives what it can to p: the last two still fit -/
theorem domino2 (hp : isRow n p = true) (hq : isRow n q = true) (hr : isRow n r = true) (hq1 : isRow n q1 = true) (hr1 : isRow n r1 = true) (hp1 : isRow n p1 = true) (hq2 : isRow n q2 = true)
    (hpq : Pt n p q) (R : Rel n q r q1 r1) (hfit : Pt n q1 r1) (R2 : Rel n p q1 p1 q2) : Pt n q2 r1 := by
  intro j h0 h1 hb
  cases he : ends q2 j with
  | true => rfl
  | false =>
  exfalso
  have hj1 : j - 1 < n := by omega
  -- the places ahead of q1
  have hAB : at_ q1 j < at_ q1 (j - 1) := ends_iff.mp (hfit j h0 h1 hb)
  have hc : at_ q2 (j - 1) < at_ q2 j := by
    have h3 := ends_not.mp he
    have h4 : at_ q2 (j - 1) ≠ at_ q2 j := fun e => by have := at_inj hq2 hj1 h1 e; omega
    omega
  have hA := at_lt hq1 h1
  have hB := at_lt hq1 hj1
  -- o: the place between q and r
  have oab : at_ r (placeOf r1 (j - 1)) < at_ r (placeOf r1 j) := by
    have h4 : at_ r (placeOf r1 (j - 1)) ≠ at_ r (placeOf r1 j) := fun e => by
      have := at_inj hr (place_lt hr1 hj1) (place_lt hr1 h1) e
      have := place_inj hr1 hj1 h1 this
      omega
    by_cases z : at_ r (placeOf r1 j) < at_ r (placeOf r1 (j - 1))
    · have := R.up (j - 1) j (by omega) h1 z
      have := begins_iff.mp hb
      omega
    · omega
  -- crossed in what p took: not crossed in p, crossed in q1
  have taken : ∀ g d, g < d → d < n → at_ q2 (placeOf q1 d) < at_ q2 (placeOf q1 g) → at_ p g < at_ p d ∧ placeOf q1 d < placeOf q1 g := by
    intro g d hgd hd hcr
    have hg : g < n := by omega
    have k1 := place_lt hq1 hd
    have k2 := place_lt hq1 hg
    have e1 : placeOf q2 (at_ q2 (placeOf q1 d)) = placeOf q1 d := place_at hq2 k1
    have e2 : placeOf q2 (at_ q2 (placeOf q1 g)) = placeOf q1 g := place_at hq2 k2
    have hlt : at_ q1 (placeOf q2 (at_ q2 (placeOf q1 g))) < at_ q1 (placeOf q2 (at_ q2 (placeOf q1 d))) := by
      rw [e1, e2, at_place hq1 hd, at_place hq1 hg]; exact hgd
    have c1 := R2.low _ _ hcr (at_lt hq2 k2) hlt
    have c2 := R2.up _ _ hcr (at_lt hq2 k2) hlt
    rw [e1, e2] at c2
    rw [R2.at1 _ (at_lt hq2 k2), R2.at1 _ (at_lt hq2 k1), e1, e2, at_place hq1 hd, at_place hq1 hg] at c1
    exact ⟨c1, c2⟩
  obtain ⟨d, hd⟩ : ∃ d, at_ q1 j + d = at_ q1 (j - 1) := ⟨at_ q1 (j - 1) - at_ q1 j, by omega⟩
  obtain ⟨g, g1, g2, lo, hi⟩ := step_down (P := fun g => j ≤ placeOf q1 g) d (at_ q1 j) (by show j ≤ placeOf q1 (at_ q1 j); rw [place_at hq1 h1]; exact Nat.le_refl _)
    (by show ¬ j ≤ placeOf q1 (at_ q1 j + d); rw [hd, place_at hq1 hj1]; omega)
  rw [hd] at g2
  have lo' : j ≤ placeOf q1 g := lo
  have hi' : placeOf q1 (g + 1) ≤ j - 1 := by
    have : ¬ j ≤ placeOf q1 (g + 1) := hi
    omega
  have hgn : g + 1 < n := by omega
  have hgn0 : g < n := by omega
  have x1 := place_lt hq1 hgn0
  have x2 := place_lt hq1 hgn
  have eo : ∀ x, x < n → placeOf q (at_ q1 x) = at_ r (placeOf r1 x) := fun x hx => by
    rw [R.at1 x hx, place_at hq (at_lt hr (place_lt hr1 hx))]
  have L : at_ r (placeOf r1 j) ≤ at_ r (placeOf r1 (placeOf q1 g)) ∧ at_ q2 j ≤ at_ q2 (placeOf q1 g) := by
    by_cases z : placeOf q1 g = j
    · rw [z]; exact ⟨Nat.le_refl _, Nat.le_refl _⟩
    · have hne : at_ q1 j ≠ g := fun e => z (by rw [← e, place_at hq1 h1])
      constructor
      · refine Nat.le_of_not_lt fun q' => ?_
        have := R.low j (placeOf q1 g) (by omega) x1 q'
        rw [at_place hq1 hgn0] at this
        omega
      · refine Nat.le_of_not_lt fun q' => ?_
        have := (taken (at_ q1 j) g (by omega) hgn0 (by rw [place_at hq1 h1]; exact q')).2
        rw [place_at hq1 h1] at this
        omega
  have U : at_ r (placeOf r1 (placeOf q1 (g + 1))) ≤ at_ r (placeOf r1 (j - 1)) ∧ at_ q2 (placeOf q1 (g + 1)) ≤ at_ q2 (j - 1) := by
    by_cases z : placeOf q1 (g + 1) = j - 1
    · rw [z]; exact ⟨Nat.le_refl _, Nat.le_refl _⟩
    · have hne : at_ q1 (j - 1) ≠ g + 1 := fun e => z (by rw [← e, place_at hq1 hj1])
      constructor
      · refine Nat.le_of_not_lt fun q' => ?_
        have := R.low (placeOf q1 (g + 1)) (j - 1) (by omega) hj1 q'
        rw [at_place hq1 hgn] at this
        omega
      · refine Nat.le_of_not_lt fun q' => ?_
        have := (taken (g + 1) (at_ q1 (j - 1)) (by omega) hB (by rw [place_at hq1 hj1]; exact q')).2
        rw [place_at hq1 hj1] at this
        omega
  have t := (taken g (g + 1) (by omega) hgn (by omega)).1
  have e1 := eo _ x1
  have e2 := eo _ x2
  rw [at_place hq1 hgn0] at e1
  rw [at_place hq1 hgn] at e2
  have z := ends_iff.mp (hpq (g + 1) (by omega) hgn (begins_iff.mpr (by rw [Nat.add_sub_cancel, e1, e2]; omega)))
  rw [Nat.add_sub_cancel] at z
  omega

/-! ### a row put behind what fits: one way back -/
/-- F, by its marks -/
theorem F_eq (hp : isRow n p = true) (hq : isRow n q = true) (s : Steps n [p, q] [p1, q1]) (h : Pt n p1 q1) : F n p q = (p1, q1) := by
  have e := term_unique (.cons hp (.cons hq .nil)) (fitted_steps (n * n) p q []) s (F_pt hq).term h.term
  injection e with e1 e2
  injection e2 with e2 _
  exact Prod.ext e1 e2
theorem F_rel (hp : isRow n p = true) (hq : isRow n q = true) : Rel n p q (F n p q).1 (F n p q).2 := fitted_rel (n * n) p q hp hq (Rel.refl hq)
/-- what is left is the turn: it was -/
theorem rel_turn (hr : isRow n r = true) (R : Rel n q r q1 (turn n)) : r = turn n := by
  have up : ∀ s, s < n → at_ r (placeOf (turn n) s) = s := by
    refine rise_id (fun s hs => at_lt hr (by rw [place_turn hs]; omega)) fun i h0 h1 => ?_
    have hne : at_ r (placeOf (turn n) (i - 1)) ≠ at_ r (placeOf (turn n) i) := fun e => by
      have := at_inj hr (by rw [place_turn (by omega)]; omega) (by rw [place_turn h1]; omega) e
      rw [place_turn h1, place_turn (by omega)] at this
      omega
    by_cases z : at_ r (placeOf (turn n) i) < at_ r (placeOf (turn n) (i - 1))
    · have := R.up (i - 1) i (by omega) h1 z
      rw [place_turn h1, place_turn (by omega)] at this
      omega
    · omega
  refine row_ext hr (row_turn n) fun j hj => ?_
  have z := up (n - 1 - j) (by omega)
  rw [place_turn (by omega)] at z
  rw [at_turn hj]
  have e : n - 1 - (n - 1 - j) = j := by omega
  rw [e] at z
  exact z
/-- what is left is none: what was ahead of it did not fit -/
theorem rel_none (hq1 : isRow n q1 = true) (hpq : Pt n p q) (hq : isRow n q = true) (hne : q ≠ none_ n) (hb : ∀ i, 0 < i → i < n → begins q i = true → begins q1 i = true) (R : Rel n p q1 p1 (none_ n)) : False := by
  obtain ⟨i, h0, h1, hbi⟩ := begins_some hq hne
  have b1 := begins_iff.mp (hb i h0 h1 hbi)
  have he := ends_iff.mp (hpq i h0 h1 hbi)
  have x1 := place_lt hq1 h1
  have x2 := place_lt hq1 (show i - 1 < n by omega)
  have z := R.low _ _ b1 x2 (by rw [place_none x1, place_none x2, at_place hq1 h1, at_place hq1 (by omega)]; omega)
  rw [R.at1 _ x2, R.at1 _ x1, place_none x1, place_none x2, at_place hq1 h1, at_place hq1 (by omega)] at z
  omega
/-- the turn came of q and r: what is left begins, seen from behind, only as q does -/
theorem rel_turned (hq : isRow n q = true) (hr : isRow n r = true) (hr1 : isRow n r1 = true) (R : Rel n q r (turn n) r1) (h0 : 0 < i) (h1 : i < n) (hb : begins (turned n r1) i = true) : begins q i = true := by
  rw [begins_turned hr1 h0 h1] at hb
  have hb' := begins_iff.mp hb
  have k1 : n - i < n := by omega
  have k2 : n - i - 1 < n := by omega
  have eo : ∀ k, k < n → at_ r (placeOf r1 k) = placeOf q (n - 1 - k) := fun k hk => by
    have z := R.at1 k hk
    rw [at_turn hk] at z
    rw [z, place_at hq (at_lt hr (place_lt hr1 hk))]
  have hlt : at_ r (placeOf r1 (n - i - 1)) < at_ r (placeOf r1 (n - i)) := by
    have hne : at_ r (placeOf r1 (n - i - 1)) ≠ at_ r (placeOf r1 (n - i)) := fun e => by
      have := at_inj hr (place_lt hr1 k2) (place_lt hr1 k1) e
      have := place_inj hr1 k2 k1 this
      omega
    by_cases z : at_ r (placeOf r1 (n - i)) < at_ r (placeOf r1 (n - i - 1))
    · have := R.up (n - i - 1) (n - i) (by omega) k1 z
      omega
    · omega
  rw [eo _ k1, eo _ k2] at hlt
  rw [begins_iff]
  have e1 : n - 1 - (n - i - 1) = i := by omega
  have e2 : n - 1 - (n - i) = i - 1 := by omega
  rw [e1, e2] at hlt
  exact hlt
/-- F keeps the first's beginnings -/
theorem F_begins (hp : isRow n p = true) (hq : isRow n q = true) (h0 : 0 < i) (h1 : i < n) (hb : begins p i = true) : begins (F n p q).1 i = true := (fitted_begins h0 h1 (n * n) p q hp hq hb).1

/-- the way back: the rows ahead (the nearest first), the row at hand, the rows behind -/
def back (n : Nat) : List Row → Row → List Row → List Row × Row × List Row
  | [], cur, post => ([], cur, post)
  | p :: pre, cur, post => if cur = turn n then (p :: pre, cur, post) else if F n p cur = (p, cur) then (p :: pre, cur, post) else back n pre (F n p cur).1 ((F n p cur).2 :: post)
/-- rows as a form has them -/
structure Good (n : Nat) (l : List Row) : Prop where
  rows : Rows n l
  inner : ∀ p, p ∈ l → p ≠ none_ n ∧ p ≠ turn n
  term : Term n l
theorem Good.nil : Good n [] := ⟨Rows.nil, (fun _ h => nomatch h), (fun _ s => nomatch s)⟩
theorem Good.right {t : Int} (h : Good n l) : (Form.mk t l).right n = true := right_iff.mpr ⟨h.rows, h.inner, h.term⟩
theorem Good.left (h : Good n (a ++ b)) : Good n a := ⟨h.rows.left, fun p hp => h.inner p (List.mem_append_left _ hp), h.term.left⟩
/-- what is behind: rows that are not the turn, none at the last place alone -/
structure Behind (n : Nat) (l : List Row) : Prop where
  rows : Rows n l
  turns : ∀ p, p ∈ l → p ≠ turn n
  nones : ∀ (u v : List Row) p, l = u ++ p :: v → v ≠ [] → p ≠ none_ n
theorem Behind.nil : Behind n [] := ⟨Rows.nil, (fun _ h => nomatch h), (fun u v p e _ => by simp at e)⟩
theorem Behind.cons (h : Behind n l) (hp : isRow n p = true) (ht : p ≠ turn n) (hn : l ≠ [] → p ≠ none_ n) : Behind n (p :: l) := by
  refine ⟨.cons hp h.rows, fun q hq => ?_, fun u v q e hv => ?_⟩
  · rcases List.mem_cons.mp hq with rfl | z
    · exact ht
    · exact h.turns q z
  · cases u with
    | nil =>
      simp only [List.nil_append, List.cons.injEq] at e
      obtain ⟨rfl, rfl⟩ := e
      exact hn hv
    | cons x u =>
      simp only [List.cons_append, List.cons.injEq] at e
      exact h.nones u v q e.2 hv

/-- between two moves of the way back -/
structure Way (n : Nat) (pre : List Row) (cur : Row) (post : List Row) : Prop where
  good : Good n pre.reverse
  row : isRow n cur = true
  behind : Behind n post
  term : Term n (cur :: post)
  full : post ≠ [] → cur ≠ none_ n
  came : ∀ r1 post', post = r1 :: post' → ∃ q r, isRow n q = true ∧ isRow n r = true ∧ q ≠ none_ n ∧ Rel n q r cur r1 ∧ Pt n cur r1 ∧ (∀ i, 0 < i → i < n → begins q i = true → begins cur i = true) ∧ ∀ p pre', pre = p :: pre' → Pt n p q
theorem good_last {pre : List Row} (h : Good n (p :: pre).reverse) : isRow n p = true ∧ p ≠ none_ n ∧ p ≠ turn n ∧ Good n pre.reverse := by
  have hm : p ∈ (p :: pre).reverse := by simp
  refine ⟨h.rows p hm, (h.inner p hm).1, (h.inner p hm).2, ?_⟩
  rw [List.reverse_cons] at h
  exact h.left
theorem good_two {pre : List Row} (h : Good n (p :: q :: pre).reverse) : Pt n q p := by
  have ht := h.term
  have e : (p :: q :: pre).reverse = pre.reverse ++ [q, p] := by simp
  rw [e] at ht
  exact ht.right.pt
theorem back_way : ∀ (pre : List Row) (cur : Row) (post : List Row), Way n pre cur post →
    Way n (back n pre cur post).1 (back n pre cur post).2.1 (back n pre cur post).2.2 ∧
    Steps n (pre.reverse ++ cur :: post) ((back n pre cur post).1.reverse ++ (back n pre cur post).2.1 :: (back n pre cur post).2.2) ∧
    ((back n pre cur post).2.1 = turn n ∨ (∀ p pre', (back n pre cur post).1 = p :: pre' → Pt n p (back n pre cur post).2.1))
  | [], cur, post, h => ⟨h, .refl, .inr fun p pre' e => nomatch (show ([] : List Row) = p :: pre' from e)⟩
  | p :: pre, cur, post, h => by
    unfold back
    by_cases ht : cur = turn n
    · rw [if_pos ht]; exact ⟨h, .refl, .inl ht⟩
    rw [if_neg ht]
    obtain ⟨hp, hpn, hpt, hg⟩ := good_last h.good
    by_cases hf : F n p cur = (p, cur)
    · rw [if_pos hf]
      refine ⟨h, .refl, .inr fun p' pre' e => ?_⟩
      injection e with e1 _
      have z := F_pt (p := p) h.row
      rw [hf] at z
      rw [← e1]
      exact z
    rw [if_neg hf]
    have hF := F_rows hp h.row
    have hR := F_rel hp h.row
    have hP := F_pt (p := p) h.row
    have W : Way n pre (F n p cur).1 ((F n p cur).2 :: post) := by
      refine ⟨hg, hF.1, h.behind.cons hF.2 ?_ ?_, ?_, fun _ e => ?_, fun r1 post' e => ?_⟩
      · intro e
        rw [e] at hR
        exact ht (rel_turn h.row hR)
      · intro hpost e
        cases post with
        | nil => exact hpost rfl
        | cons r1 post' =>
          obtain ⟨q, r, hq, hr, hqn, R, hfit, hb, hpq⟩ := h.came r1 post' rfl
          rw [e] at hR
          exact rel_none h.row (hpq p pre rfl) hq hqn hb hR
      · refine hP.cons ?_
        cases post with
        | nil => exact fun _ s => no_step1 s
        | cons r1 post' =>
          obtain ⟨q, r, hq, hr, hqn, R, hfit, hb, hpq⟩ := h.came r1 post' rfl
          exact Pt.cons (domino2 hp hq hr h.row h.behind.rows.head hF.1 hF.2 (hpq p pre rfl) R hfit hR) h.term.tail
      · obtain ⟨i, h0, h1, hb⟩ := begins_some hp hpn
        have z := F_begins hp h.row h0 h1 hb
        rw [e, begins_none h1] at z
        cases z
      · injection e with e1 e2
        refine ⟨p, cur, hp, h.row, hpn, by rw [← e1]; exact hR, by rw [← e1]; exact hP, fun i h0 h1 hb => F_begins hp h.row h0 h1 hb, fun p' pre' e' => ?_⟩
        subst e'
        exact good_two h.good
    obtain ⟨z1, z2, z3⟩ := back_way pre _ _ W
    refine ⟨z1, .trans ?_ z2, z3⟩
    have e1 : (p :: pre).reverse ++ cur :: post = pre.reverse ++ (p :: cur :: post) := by simp
    rw [e1]
    exact (fitted_steps (n * n) p cur post).pre _
end
end Br
set_option linter.all false
namespace Br
open Md08
section
variable {n : Nat} {a b c l l' : List Row} {p q r p1 q1 q2 r1 : Row} {i j : Nat} {t t' : Int}
/-! ### turned -/
theorem Pt.turned (hp : isRow n p = true) (hq : isRow n q = true) (h : Pt n p q) : Pt n (Md08.turned n p) (Md08.turned n q) := fun i h0 h1 hb => by
  rw [begins_turned hq h0 h1] at hb
  rw [ends_turned hp h0 h1]
  exact h _ (by omega) (by omega) hb
theorem Term.turned : ∀ {l : List Row}, Rows n l → Term n l → Term n (l.map (Md08.turned n))
  | [], _, _ => fun _ s => nomatch s
  | [p], _, _ => fun _ s => no_step1 s
  | p :: q :: l, h, t => (t.pt.turned h.head h.tail.head).cons (Term.turned (l := q :: l) h.tail t.tail)
theorem turned_ne {x : Row} (hp : isRow n p = true) (hx : Md08.turned n x = x) (h : p ≠ x) : Md08.turned n p ≠ x := fun e => h (by rw [← turned_turned hp, e, hx])
theorem term_join : ∀ (a : List Row) (p x : Row) (m : List Row), Term n (a ++ [p]) → Pt n p x → Term n (x :: m) → Term n (a ++ p :: x :: m)
  | [], p, x, m, _, h, t => h.cons t
  | [y], p, x, m, h1, h, t => Pt.cons (Term.pt (show Term n (y :: p :: []) from h1)) (h.cons t)
  | y :: z :: a, p, x, m, h1, h, t => Pt.cons (Term.pt (show Term n (y :: z :: (a ++ [p])) from h1)) (term_join (z :: a) p x m (Term.tail h1) h t)
/-! ### the last none taken away -/
def pop0 (n : Nat) (l : List Row) : List Row := if l.getLast? = some (none_ n) then l.dropLast else l
theorem pop0_snoc (a : List Row) (p : Row) : pop0 n (a ++ [p]) = if p = none_ n then a else a ++ [p] := by
  unfold pop0
  rw [List.getLast?_concat, List.dropLast_concat]
  by_cases h : p = none_ n
  · rw [if_pos h, if_pos (by rw [h])]
  · rw [if_neg h, if_neg fun e => h (Option.some.inj e)]
theorem snoc_cases (l : List Row) : l = [] ∨ ∃ a p, l = a ++ [p] := by
  rcases List.eq_nil_or_concat l with h | ⟨a, p, h⟩
  · exact .inl h
  · exact .inr ⟨a, p, by rw [h, List.concat_eq_append]⟩
theorem Behind.pop (h : Behind n l) (ht : Term n l) : Good n (pop0 n l) := by
  rcases snoc_cases l with rfl | ⟨a, p, rfl⟩
  · exact Good.nil
  · have hin : ∀ q, q ∈ a → q ≠ none_ n ∧ q ≠ turn n := fun q hq => by
      obtain ⟨u, v, rfl⟩ := List.append_of_mem hq
      exact ⟨h.nones u (v ++ [p]) q (by simp) (by simp), h.turns q (by simp)⟩
    rw [pop0_snoc]
    by_cases e : p = none_ n
    · rw [if_pos e]
      exact ⟨h.rows.left, hin, ht.left⟩
    · rw [if_neg e]
      refine ⟨h.rows, fun q hq => ?_, ht⟩
      rcases List.mem_append.mp hq with z | z
      · exact hin q z
      · have z' : q = p := by simpa using z
        subst z'
        exact ⟨e, h.turns q (by simp)⟩
theorem Good.behind (h : Good n a) : ∀ {b : List Row}, Behind n b → Behind n (a ++ b) := by
  induction a with
  | nil => intro b hb; exact hb
  | cons p a ih =>
    intro b hb
    have h' : Good n a := ⟨h.rows.tail, fun q hq => h.inner q (List.mem_cons_of_mem _ hq), h.term.tail⟩
    exact (ih h' hb).cons h.rows.head (h.inner p (List.mem_cons_self ..)).2 fun _ => (h.inner p (List.mem_cons_self ..)).1
theorem Behind.turned (h : Behind n l) : Behind n (l.map (Md08.turned n)) := by
  refine ⟨h.rows.turned, fun q hq => ?_, fun u v q e hv => ?_⟩
  · obtain ⟨x, hx, rfl⟩ := List.mem_map.mp hq
    exact turned_ne (h.rows x hx) turned_turn (h.turns x hx)
  · obtain ⟨u', v', e', e1, e2⟩ := List.map_eq_append_iff.mp e
    cases v' with
    | nil => cases e2
    | cons x v' =>
      simp only [List.map_cons, List.cons.injEq] at e2
      rw [← e2.1]
      refine turned_ne (h.rows x (by rw [e']; simp)) turned_none (h.nones u' v' x e' fun z => hv ?_)
      rw [← e2.2, z]; rfl
/-! ### the program's braid: rows, then turns -/
def phi (n : Nat) (t : Int) (l : List Row) : List Row := if t % 2 = 1 then l.map (turned n) else l
def phi1 (n : Nat) (t : Int) (p : Row) : Row := if t % 2 = 1 then turned n p else p
theorem phi_map (t : Int) (l : List Row) : phi n t l = l.map (phi1 n t) := by
  unfold phi phi1
  by_cases h : t % 2 = 1
  · simp only [if_pos h]
  · simp only [if_neg h, List.map_id']
theorem phi_append (t : Int) (a b : List Row) : phi n t (a ++ b) = phi n t a ++ phi n t b := by rw [phi_map, phi_map, phi_map, List.map_append]
theorem phi_rows (t : Int) (h : Rows n l) : Rows n (phi n t l) := by
  unfold phi
  split
  · exact h.turned
  · exact h
theorem phi1_row (t : Int) (h : isRow n p = true) : isRow n (phi1 n t p) = true := by
  unfold phi1
  split
  · exact row_turned h
  · exact h
theorem phi1_phi1 (t : Int) (h : isRow n p = true) : phi1 n t (phi1 n t p) = p := by
  unfold phi1
  by_cases z : t % 2 = 1
  · rw [if_pos z, if_pos z, turned_turned h]
  · rw [if_neg z, if_neg z]
theorem phi_phi (t : Int) (h : Rows n l) : phi n t (phi n t l) = l := by
  rw [phi_map, phi_map, List.map_map]
  have : ∀ x, x ∈ l → (phi1 n t ∘ phi1 n t) x = x := fun x hx => phi1_phi1 t (h x hx)
  rw [List.map_congr_left this, List.map_id']
theorem phi_inj (t : Int) (h : Rows n l) (h' : Rows n l') (e : phi n t l = phi n t l') : l = l' := by rw [← phi_phi t h, e, phi_phi t h']
theorem map_turned2 (h : Rows n l) : (l.map (turned n)).map (turned n) = l := by
  rw [List.map_map]
  have : ∀ x, x ∈ l → (turned n ∘ turned n) x = x := fun x hx => turned_turned (h x hx)
  rw [List.map_congr_left this, List.map_id']
/-- one turn more or fewer -/
theorem phi_next {d : Int} (hd : d = 1 ∨ d = -1) (h : Rows n l) : phi n (t + d) l = (phi n t l).map (turned n) := by
  unfold phi
  by_cases z : t % 2 = 1
  · rw [if_pos z, if_neg (by omega), map_turned2 h]
  · rw [if_neg z, if_pos (by omega)]
theorem E.phi (t : Int) (h : Rows n l) (s : Steps n l l') : E n (t, phi n t l) (t, phi n t l') := by
  have e : E n (t, l) (t, l') := E.steps h s
  unfold Br.phi
  split
  · exact e.turned
  · exact e
theorem e_pop0 (t : Int) (h : Rows n l) : E n (t, phi n t l) (t, phi n t (pop0 n l)) := by
  rcases snoc_cases l with rfl | ⟨a, p, rfl⟩
  · exact .refl (phi_rows t h)
  · rw [pop0_snoc]
    by_cases e : p = none_ n
    · rw [if_pos e, phi_append, e]
      have z : phi n t [none_ n] = [none_ n] := by
        unfold phi
        split
        · rw [List.map_cons, turned_none]; rfl
        · rfl
      rw [z]
      have hr : Rows n (phi n t a ++ []) := by rw [List.append_nil]; exact phi_rows t h.left
      have y := E.none (t := t) hr
      rw [List.append_nil] at y
      exact y
    · rw [if_neg e]
      exact .refl (phi_rows t h)
def ended (n : Nat) (t : Int) (x : List Row × Row × List Row) : Int × List Row :=
  if x.2.1 = turn n then (t + 1, pop0 n (x.1.reverse ++ x.2.2.map (turned n))) else (t, pop0 n (x.1.reverse ++ x.2.1 :: x.2.2))
def putRow (n : Nat) (t : Int) (rows : List Row) (row : Row) : Int × List Row := ended n t (back n rows.reverse (phi1 n t row) [])
def putLetter (n : Nat) (s : Int × List Row) (x : Int) : Int × List Row := if x < 0 then putRow n (s.1 - 1) s.2 (cross (turn n) x) else putRow n s.1 s.2 (cross (none_ n) x)
theorem way_start (h : Good n l) (hp : isRow n p = true) : Way n l.reverse p [] := by
  refine ⟨by rw [List.reverse_reverse]; exact h, hp, Behind.nil, fun _ s => no_step1 s, fun z => absurd rfl z, fun r1 post' e => nomatch e⟩
theorem ended_ok {pre : List Row} {cur : Row} {post : List Row} (t : Int) (W : Way n pre cur post) (hx : cur = turn n ∨ ∀ p pre', pre = p :: pre' → Pt n p cur) :
    Good n (ended n t (pre, cur, post)).2 ∧ E n (t, phi n t (pre.reverse ++ cur :: post)) ((ended n t (pre, cur, post)).1, phi n (ended n t (pre, cur, post)).1 (ended n t (pre, cur, post)).2) := by
  unfold ended
  by_cases ht : cur = turn n
  · simp only [if_pos ht]
    have hB : Behind n (pre.reverse ++ post.map (turned n)) := W.good.behind W.behind.turned
    have hT : Term n (pre.reverse ++ post.map (turned n)) := by
      cases post with
      | nil => rw [List.map_nil, List.append_nil]; exact W.good.term
      | cons r1 post =>
        have t1 : Term n ((r1 :: post).map (turned n)) := W.term.tail.turned W.behind.rows
        cases pre with
        | nil => exact t1
        | cons p pre =>
          have e : (p :: pre).reverse ++ (r1 :: post).map (turned n) = pre.reverse ++ p :: turned n r1 :: post.map (turned n) := by simp
          rw [e]
          refine term_join _ _ _ _ (by have z := W.good.term; rw [List.reverse_cons] at z; exact z) ?_ t1
          obtain ⟨q, r, hq, hr, hqn, R, hfit, hb, hpq⟩ := W.came r1 post rfl
          rw [ht] at R
          intro i h0 h1 hbi
          exact hpq p pre rfl i h0 h1 (rel_turned hq hr W.behind.rows.head R h0 h1 hbi)
    refine ⟨hB.pop hT, ?_⟩
    have e1 : phi n t (pre.reverse ++ cur :: post) = phi n t pre.reverse ++ turn n :: phi n t post := by
      have e2 : pre.reverse ++ cur :: post = pre.reverse ++ ([turn n] ++ post) := by rw [ht]; rfl
      rw [e2, phi_append, phi_append]
      have z : phi n t [turn n] = [turn n] := by
        unfold phi
        split
        · rw [List.map_cons, turned_turn]; rfl
        · rfl
      rw [z]; rfl
    rw [e1]
    refine .trans (e_turn_front (phi_rows t W.good.rows) (phi_rows t W.behind.rows)) ?_
    have e2 : (phi n t pre.reverse).map (turned n) ++ phi n t post = phi n (t + 1) (pre.reverse ++ post.map (turned n)) := by
      rw [phi_append, phi_next (.inl rfl) W.good.rows, phi_next (.inl rfl) W.behind.rows.turned]
      have z : (phi n t (post.map (turned n))).map (turned n) = phi n t post := by
        unfold phi
        split
        · rw [map_turned2 W.behind.rows.turned]
        · exact map_turned2 W.behind.rows
      rw [z]
    rw [e2]
    exact e_pop0 (t + 1) hB.rows
  · simp only [if_neg ht]
    have hfit : ∀ p pre', pre = p :: pre' → Pt n p cur := by
      rcases hx with z | z
      · exact absurd z ht
      · exact z
    have hB : Behind n (pre.reverse ++ cur :: post) := W.good.behind (W.behind.cons W.row ht W.full)
    have hT : Term n (pre.reverse ++ cur :: post) := by
      cases pre with
      | nil => exact W.term
      | cons p pre =>
        have e : (p :: pre).reverse ++ cur :: post = pre.reverse ++ p :: cur :: post := by simp
        rw [e]
        exact term_join _ _ _ _ (by have z := W.good.term; rw [List.reverse_cons] at z; exact z) (hfit p pre rfl) W.term
    exact ⟨hB.pop hT, e_pop0 t hB.rows⟩
theorem putRow_ok (t : Int) (h : Good n l) (hp : isRow n p = true) : Good n (putRow n t l p).2 ∧ E n (t, phi n t l ++ [p]) ((putRow n t l p).1, phi n (putRow n t l p).1 (putRow n t l p).2) := by
  obtain ⟨W, s, hx⟩ := back_way _ _ _ (way_start h (phi1_row t hp))
  obtain ⟨z1, z2⟩ := ended_ok t W hx
  refine ⟨z1, .trans ?_ z2⟩
  have hr : Rows n (l ++ [phi1 n t p]) := h.rows.append (.cons (phi1_row t hp) .nil)
  have e : phi n t l ++ [p] = phi n t (l ++ [phi1 n t p]) := by
    rw [phi_append]
    have z : phi n t [phi1 n t p] = [p] := by rw [phi_map, List.map_cons, phi1_phi1 t hp]; rfl
    rw [z]
  rw [e]
  rw [List.reverse_reverse] at s
  exact E.phi t hr s
theorem putLetter_ok {s : Int × List Row} {y : Int × List Row} {x : Int} (h : Good n s.2) (hx : letter n x = true) (e : E n y (s.1, phi n s.1 s.2)) :
    Good n (putLetter n s x).2 ∧ E n (raw n y x) ((putLetter n s x).1, phi n (putLetter n s x).1 (putLetter n s x).2) := by
  obtain ⟨h0, h1⟩ := letter_iff.mp hx
  have z := e_raw e hx
  unfold putLetter
  by_cases q : x < 0
  · rw [if_pos q]
    have hr : isRow n (cross (turn n) x) = true := by rw [cross_abs]; exact row_cross (row_turn n) h0 h1
    obtain ⟨y1, y2⟩ := putRow_ok (s.1 - 1) h hr
    refine ⟨y1, .trans z ?_⟩
    unfold raw
    rw [if_neg (by omega)]
    have e1 : (phi n s.1 s.2).map (turned n) = phi n (s.1 - 1) s.2 := (phi_next (d := -1) (.inr rfl) h.rows).symm
    show E n (s.1 - 1, (phi n s.1 s.2).map (turned n) ++ [cross (turn n) x]) _
    rw [e1]
    exact y2
  · rw [if_neg q]
    have hr : isRow n (cross (none_ n) x) = true := by rw [cross_abs]; exact row_cross (row_none n) h0 h1
    obtain ⟨y1, y2⟩ := putRow_ok s.1 h hr
    refine ⟨y1, .trans z ?_⟩
    unfold raw
    rw [if_pos (by omega)]
    exact y2
def braidW (n : Nat) (w : Word) : Int × List Row := w.foldl (putLetter n) (0, [])
theorem braid_fold : ∀ (w : Word) (s y : Int × List Row), w.all (letter n) = true → Good n s.2 → E n y (s.1, phi n s.1 s.2) →
    Good n (w.foldl (putLetter n) s).2 ∧ E n (w.foldl (raw n) y) ((w.foldl (putLetter n) s).1, phi n (w.foldl (putLetter n) s).1 (w.foldl (putLetter n) s).2)
  | [], s, y, _, h, e => ⟨h, e⟩
  | x :: w, s, y, hw, h, e => by
    rw [List.all_cons, Bool.and_eq_true] at hw
    obtain ⟨z1, z2⟩ := putLetter_ok h hw.1 e
    exact braid_fold w _ _ hw.2 z1 z2
theorem Good.phi (h : Good n l) (t : Int) : Good n (phi n t l) := by
  unfold Br.phi
  split
  · refine ⟨h.rows.turned, fun q hq => ?_, h.term.turned h.rows⟩
    obtain ⟨x, hx, rfl⟩ := List.mem_map.mp hq
    exact ⟨turned_ne (h.rows x hx) turned_none (h.inner x hx).1, turned_ne (h.rows x hx) turned_turn (h.inner x hx).2⟩
  · exact h
theorem braid_good {w : Word} (hw : w.all (letter n) = true) : Good n (braidW n w).2 ∧ E n (rawW n w) ((braidW n w).1, phi n (braidW n w).1 (braidW n w).2) :=
  braid_fold w (0, []) (0, []) hw Good.nil (.refl Rows.nil)
/-- THE FORM, by the program's braid -/
theorem braid_form (hn : 2 ≤ n) {w : Word} (hw : w.all (letter n) = true) : form n w = ⟨(braidW n w).1, phi n (braidW n w).1 (braidW n w).2⟩ := by
  obtain ⟨h1, h2⟩ := braid_good hw
  exact form_unique hn hw (h1.phi _).right h2
/-- whether two words are the same, by the program's braids -/
theorem braid_same (hn : 2 ≤ n) {w v : Word} (hw : w.all (letter n) = true) (hv : v.all (letter n) = true) : same n w v = decide (braidW n w = braidW n v) := by
  unfold same
  rw [braid_form hn hw, braid_form hn hv, Bool.eq_iff_iff, decide_eq_true_eq, decide_eq_true_eq]
  constructor
  · intro e
    injection e with e1 e2
    rw [e1] at e2
    exact Prod.ext e1 (phi_inj _ (braid_good hw).1.rows (braid_good hv).1.rows e2)
  · intro e
    rw [e]
/-! ### how many rows -/
theorem back_len : ∀ (pre : List Row) (cur : Row) (post : List Row), (back n pre cur post).1.length + (back n pre cur post).2.2.length = pre.length + post.length
  | [], cur, post => rfl
  | p :: pre, cur, post => by
    unfold back
    split
    · rfl
    · split
      · rfl
      · rw [back_len pre]
        simp only [List.length_cons]
        omega
theorem pop0_len (l : List Row) : (pop0 n l).length ≤ l.length := by
  unfold pop0
  split
  · rw [List.length_dropLast]; omega
  · exact Nat.le_refl _
theorem putRow_len (t : Int) (l : List Row) (p : Row) : (putRow n t l p).2.length ≤ l.length + 1 := by
  have h := back_len (n := n) l.reverse (phi1 n t p) []
  rw [List.length_reverse, List.length_nil] at h
  unfold putRow ended
  split
  · refine Nat.le_trans (pop0_len _) ?_
    simp only [List.length_append, List.length_reverse, List.length_map]
    omega
  · refine Nat.le_trans (pop0_len _) ?_
    simp only [List.length_append, List.length_reverse, List.length_cons]
    omega
theorem putLetter_len (s : Int × List Row) (x : Int) : (putLetter n s x).2.length ≤ s.2.length + 1 := by
  unfold putLetter
  split <;> exact putRow_len _ _ _
theorem fold_le' (n : Nat) : ∀ (ws : Word) (s : Int × List Row), (ws.foldl (putLetter n) s).2.length ≤ s.2.length + ws.length
  | [], s => Nat.le_refl _
  | x :: ws, s => by
    rw [List.foldl_cons, List.length_cons]
    have h1 := fold_le' n ws (putLetter n s x)
    have h2 := putLetter_len (n := n) s x
    omega
theorem fold_le (n : Nat) (ws : Word) : (braidW n ws).2.length ≤ ws.length := by
  have z := fold_le' n ws (0, [])
  rw [List.length_nil, Nat.zero_add] at z
  exact z
theorem putRow_turns (t : Int) (l : List Row) (p : Row) : t ≤ (putRow n t l p).1 ∧ (putRow n t l p).1 ≤ t + 1 := by
  unfold putRow ended
  split
  · show t ≤ t + 1 ∧ t + 1 ≤ t + 1
    omega
  · show t ≤ t ∧ t ≤ t + 1
    omega
theorem putLetter_turns (s : Int × List Row) (x : Int) : s.1 - 1 ≤ (putLetter n s x).1 ∧ (putLetter n s x).1 ≤ s.1 + 1 := by
  unfold putLetter
  split
  · have := putRow_turns (n := n) (s.1 - 1) s.2 (cross (turn n) x)
    omega
  · have := putRow_turns (n := n) s.1 s.2 (cross (none_ n) x)
    omega
end
end Br
set_option linter.all false
namespace Br
open Md08
/-! ### sinking: a place's item moved left past what it may pass -/
section
variable {α : Type} {bad : α → α → Prop} {k m : Nat} {h h' : Nat → α}
structure Ins (bad : α → α → Prop) (k m : Nat) (h : Nat → α) : Prop where
  le : m ≤ k
  lo : ∀ i, 0 < i → i < m → ¬ bad (h (i - 1)) (h i)
  hi : ∀ i, m + 1 < i → i ≤ k → ¬ bad (h (i - 1)) (h i)
  next : m < k → ¬ bad (h m) (h (m + 1))
  skip : m < k → 0 < m → ¬ bad (h (m - 1)) (h (m + 1))
theorem Ins.start (s : ∀ i, 0 < i → i < k → ¬ bad (h (i - 1)) (h i)) : Ins bad k k h :=
  ⟨Nat.le_refl _, s, fun i h1 h2 => absurd h1 (by omega), fun z => absurd z (by omega), fun z => absurd z (by omega)⟩
theorem Ins.congr (e : ∀ i, i ≤ k → h i = h' i) (s : Ins bad k m h) : Ins bad k m h' := by
  have hm := s.le
  refine ⟨hm, fun i h1 h2 => ?_, fun i h1 h2 => ?_, fun z => ?_, fun z y => ?_⟩
  · rw [← e _ (by omega), ← e _ (by omega)]; exact s.lo i h1 h2
  · rw [← e _ (by omega), ← e _ (by omega)]; exact s.hi i h1 h2
  · rw [← e _ (by omega), ← e _ (by omega)]; exact s.next z
  · rw [← e _ (by omega), ← e _ (by omega)]; exact s.skip z y
theorem Ins.move (as : ∀ x y, bad x y → ¬ bad y x) (h0 : 0 < m) (hb : bad (h (m - 1)) (h m)) (s : Ins bad k m h) : Ins bad k (m - 1) (fun i => h (sw m i)) := by
  have hm := s.le
  refine ⟨by omega, fun i h1 h2 => ?_, fun i h1 h2 => ?_, fun z => ?_, fun z y => ?_⟩
  · show ¬ bad (h (sw m (i - 1))) (h (sw m i))
    rw [sw_other (by omega) (by omega), sw_other (by omega) (by omega)]
    exact s.lo i h1 (by omega)
  · show ¬ bad (h (sw m (i - 1))) (h (sw m i))
    by_cases e : i = m + 1
    · subst e
      rw [Nat.add_sub_cancel, sw_self, sw_other (i := m) (x := m + 1) (by omega) (by omega)]
      exact s.skip (by omega) h0
    · rw [sw_other (by omega) (by omega), sw_other (by omega) (by omega)]
      exact s.hi i (by omega) h2
  · show ¬ bad (h (sw m (m - 1))) (h (sw m (m - 1 + 1)))
    have e : m - 1 + 1 = m := by omega
    rw [e, sw_self, sw_prev h0]
    exact as _ _ hb
  · show ¬ bad (h (sw m (m - 1 - 1))) (h (sw m (m - 1 + 1)))
    have e : m - 1 + 1 = m := by omega
    rw [e, sw_self, sw_other (by omega) (by omega)]
    exact s.lo (m - 1) y (by omega)
theorem Ins.done (s : Ins bad k m h) (d : m = 0 ∨ ¬ bad (h (m - 1)) (h m)) : ∀ i, 0 < i → i < k + 1 → ¬ bad (h (i - 1)) (h i) := by
  have hm := s.le
  intro i h1 h2
  rcases Nat.lt_trichotomy i m with z | z | z
  · exact s.lo i h1 z
  · subst z
    rcases d with d | d
    · omega
    · exact d
  · by_cases e : i = m + 1
    · subst e
      rw [Nat.add_sub_cancel]
      exact s.next (by omega)
    · exact s.hi i (by omega) (by omega)
end
section
variable {n : Nat} {p q p1 q1 : Row} {i j k m : Nat}
/-! ### the places of a row's strands -/
def wh (n : Nat) (p : Row) : Row := (List.range n).map (placeOf p)
theorem wh_len (p : Row) : (wh n p).length = n := by unfold wh; rw [List.length_map, List.length_range]
theorem at_wh (h : j < n) : at_ (wh n p) j = placeOf p j := by
  rw [at_get (by rw [wh_len]; exact h)]
  unfold wh
  rw [List.getElem_map, List.getElem_range]
theorem row_wh (h : isRow n p = true) : isRow n (wh n p) = true := by
  unfold isRow
  rw [Bool.and_eq_true, List.all_eq_true]
  refine ⟨by simpa using wh_len p, fun x hx => ?_⟩
  have hx := List.mem_range.mp hx
  have : x ∈ wh n p := List.mem_map.mpr ⟨at_ p x, List.mem_range.mpr (at_lt h hx), place_at h hx⟩
  simpa using this
theorem place_wh (h : isRow n p = true) (hj : j < n) : placeOf (wh n p) j = at_ p j := by
  have hr := row_wh h
  refine at_inj hr (place_lt hr hj) (at_lt h hj) ?_
  rw [at_place hr hj, at_wh (at_lt h hj), place_at h hj]
theorem wh_wh (h : isRow n p = true) : wh n (wh n p) = p := by
  have hr := row_wh h
  refine row_ext (row_wh hr) h fun j hj => ?_
  rw [at_wh hj, place_wh h hj]
theorem wh_without (h : isRow n p = true) (h0 : 0 < i) (h1 : i < n) : wh n (without p i) = cross (wh n p) (i : Int) := by
  have hr := row_wh h
  refine row_ext (row_wh (row_without h h0 h1)) (row_cross hr h0 h1) fun j hj => ?_
  rw [at_wh hj, place_without h h0 h1 hj, at_cross h0 (by rw [wh_len]; exact h1) (by rw [wh_len]; exact hj), at_wh (sw_lt h1 hj)]
/-- as a loop makes them: of the first j places -/
def whTo (n : Nat) (p : Row) (j : Nat) : Row := (List.range n).map fun s => if placeOf p s < j then placeOf p s else 0
theorem whTo_zero (p : Row) : whTo n p 0 = List.replicate n 0 := by
  unfold whTo
  rw [List.eq_replicate_iff]
  refine ⟨by simp, fun b hb => ?_⟩
  obtain ⟨s, _, rfl⟩ := List.mem_map.mp hb
  rw [if_neg (by omega)]
theorem whTo_all (h : isRow n p = true) : whTo n p n = wh n p := by
  unfold whTo wh
  refine List.map_congr_left fun s hs => ?_
  rw [if_pos (place_lt h (List.mem_range.mp hs))]
theorem whTo_succ (h : isRow n p = true) (hj : j < n) : whTo n p (j + 1) = (whTo n p j).set (at_ p j) j := by
  have l1 : ∀ j, (whTo n p j).length = n := fun j => by unfold whTo; rw [List.length_map, List.length_range]
  refine List.ext_getElem (by rw [List.length_set, l1, l1]) fun s h1 h2 => ?_
  rw [l1] at h1
  have hs : s < n := h1
  rw [List.getElem_set]
  have g : ∀ (j : Nat) (hq : s < (whTo n p j).length), (whTo n p j)[s] = if placeOf p s < j then placeOf p s else 0 := fun j hq => by
    have e : (whTo n p j)[s]? = some (if placeOf p s < j then placeOf p s else 0) := by
      unfold whTo
      rw [List.getElem?_map, List.getElem?_range hs]
      rfl
    exact (List.getElem?_eq_some_iff.mp e).2
  rw [g, g]
  by_cases e : at_ p j = s
  · rw [if_pos e]
    have e2 : placeOf p s = j := by rw [← e, place_at h hj]
    rw [e2, if_pos (by omega)]
  · rw [if_neg e]
    have hne : placeOf p s ≠ j := fun z => e (by rw [← z, at_place h hs])
    by_cases z : placeOf p s < j
    · rw [if_pos z, if_pos (by omega)]
    · rw [if_neg z, if_neg (by omega)]
/-! ### two rows settled, place by place -/
def badP (x y : Nat × Nat) : Prop := x.1 < y.1 ∧ y.2 < x.2
theorem badP_as (x y : Nat × Nat) (h : badP x y) : ¬ badP y x := fun z => by have := h.1; have := z.1; omega
/-- the rows at hand while a place's strand sinks -/
structure Snk (n : Nat) (p0 q0 : Row) (k m : Nat) (p q : Row) : Prop where
  rp : isRow n p = true
  rq : isRow n q = true
  st : Steps n [p0, q0] [p, q]
  ins : Ins badP k m (fun i => (at_ p i, placeOf q i))
/-- before place k is looked at -/
structure Pre (n : Nat) (p0 q0 : Row) (k : Nat) (p q : Row) : Prop where
  rp : isRow n p = true
  rq : isRow n q = true
  st : Steps n [p0, q0] [p, q]
  fit : ∀ i, 0 < i → i < k → ¬ badP (at_ p (i - 1), placeOf q (i - 1)) (at_ p i, placeOf q i)
variable {p0 q0 : Row}
theorem Pre.start (hp : isRow n p0 = true) (hq : isRow n q0 = true) : Pre n p0 q0 1 p0 q0 := ⟨hp, hq, .refl, fun i h0 h1 => absurd h1 (by omega)⟩
theorem Pre.snk (h : Pre n p0 q0 k p q) : Snk n p0 q0 k k p q := ⟨h.rp, h.rq, h.st, Ins.start h.fit⟩
theorem Snk.move (h : Snk n p0 q0 k m p q) (hk : k < n) (h0 : 0 < m) (he : at_ p (m - 1) < at_ p m) (hb : placeOf q m < placeOf q (m - 1)) : Snk n p0 q0 k (m - 1) (cross p (m : Int)) (without q m) := by
  have hm := h.ins.le
  have hl := row_len h.rp
  refine ⟨row_cross h.rp h0 (by omega), row_without h.rq h0 (by omega), h.st.trans (.one (.here h0 (by omega) (begins_iff.mpr hb) (ends_not.mpr (by omega)))), ?_⟩
  refine (h.ins.move badP_as h0 ⟨he, hb⟩).congr fun i hi => ?_
  show (at_ p (sw m i), placeOf q (sw m i)) = _
  rw [at_cross h0 (by omega) (by omega), place_without h.rq h0 (by omega) (by omega)]
theorem Snk.done (h : Snk n p0 q0 k m p q) (d : m = 0 ∨ ¬ (at_ p (m - 1) < at_ p m ∧ placeOf q m < placeOf q (m - 1))) : Pre n p0 q0 (k + 1) p q :=
  ⟨h.rp, h.rq, h.st, h.ins.done d⟩
theorem Pre.end (hp : isRow n p0 = true) (hq : isRow n q0 = true) (h : Pre n p0 q0 k p q) (hk : n ≤ k) : F n p0 q0 = (p, q) := by
  refine F_eq hp hq h.st fun i h0 h1 hb => ?_
  cases e : ends p i with
  | true => rfl
  | false =>
    exfalso
    have z := ends_not.mp e
    have hne : at_ p (i - 1) ≠ at_ p i := fun e => by have := at_inj h.rp (by omega) h1 e; omega
    exact h.fit i h0 (by omega) ⟨by show at_ p (i - 1) < at_ p i; omega, begins_iff.mp hb⟩
/-! ### a row's first word, strand by strand -/
def badW (x y : Nat) : Prop := y < x
theorem badW_as (x y : Nat) (h : badW x y) : ¬ badW y x := fun z => by unfold badW at h z; omega
/-- the word so far and the row that is left, while letter m is looked at -/
structure Wrd (n : Nat) (p0 : Row) (k m : Nat) (out : Word) (p : Row) : Prop where
  rp : isRow n p = true
  word : word n p0 = out ++ Md08.word n p
  ins : Ins badW k m (placeOf p)
structure WPre (n : Nat) (p0 : Row) (k : Nat) (out : Word) (p : Row) : Prop where
  rp : isRow n p = true
  word : word n p0 = out ++ Md08.word n p
  fit : ∀ i, 0 < i → i < k → ¬ badW (placeOf p (i - 1)) (placeOf p i)
variable {out : Word}
theorem WPre.start (hp : isRow n p0 = true) : WPre n p0 1 [] p0 := ⟨hp, rfl, fun i h0 h1 => absurd h1 (by omega)⟩
theorem WPre.wrd (h : WPre n p0 k out p) : Wrd n p0 k k out p := ⟨h.rp, h.word, Ins.start h.fit⟩
theorem Wrd.move (h : Wrd n p0 k m out p) (hk : k < n) (h0 : 0 < m) (hb : placeOf p m < placeOf p (m - 1)) : Wrd n p0 k (m - 1) (out ++ [(m : Int)]) (without p m) := by
  have hm := h.ins.le
  have hlst : least n p = some m := least_of h0 (by omega) (begins_iff.mpr hb) fun j j0 j1 => by
    rw [begins_not]
    have := h.ins.lo j j0 j1
    unfold badW at this
    omega
  refine ⟨row_without h.rp h0 (by omega), ?_, ?_⟩
  · rw [h.word, word_some h.rp hlst, List.append_assoc]; rfl
  · refine (h.ins.move badW_as h0 hb).congr fun i hi => ?_
    show placeOf p (sw m i) = _
    rw [place_without h.rp h0 (by omega) (by omega)]
theorem Wrd.done (h : Wrd n p0 k m out p) (d : m = 0 ∨ ¬ placeOf p m < placeOf p (m - 1)) : WPre n p0 (k + 1) out p := ⟨h.rp, h.word, h.ins.done d⟩
theorem WPre.end (h : WPre n p0 k out p) (hk : n ≤ k) : Md08.word n p0 = out := by
  have e : least n p = none := by
    cases e : least n p with
    | none => rfl
    | some i =>
      obtain ⟨h0, h1, hb⟩ := least_some e
      exact absurd (begins_iff.mp hb) (h.fit i h0 (by omega))
  rw [h.word, word_none h.rp e, List.append_nil]
end
end Br
set_option Elab.async false
set_option maxRecDepth 100000
namespace Pr
open PySem L2 Com
def top (i : Nat) : Stmt := PySem.Challenge.pw_strandforms_s04_form.main.body.getD i (.Pass ⟨0, 0, 0, 0⟩)
abbrev s_can_hang : Stmt := top 7
abbrev s_is_letter : Stmt := top 8
abbrev s_is_word : Stmt := top 9
abbrev s_none_of : Stmt := top 10
abbrev s_turn_of : Stmt := top 11
abbrev s_cross : Stmt := top 12
abbrev s_strand_places : Stmt := top 13
abbrev s_turned_over : Stmt := top 14
abbrev s_sink : Stmt := top 15
abbrev s_settled : Stmt := top 16
abbrev s_braid_of : Stmt := top 18
abbrev s_form : Stmt := top 19
abbrev s_Braid___init__ : Stmt := inClass (top 17) 0
abbrev s_Braid_put_letter : Stmt := inClass (top 17) 1
abbrev s_Braid_put_row : Stmt := inClass (top 17) 2
abbrev s_Braid_settle : Stmt := inClass (top 17) 3
abbrev s_Braid_settled_neighbours : Stmt := inClass (top 17) 4
abbrev s_Braid_free_turn : Stmt := inClass (top 17) 5
abbrev s_Braid_form_rows : Stmt := inClass (top 17) 6
structure Txt (K : PySem.W.Frag) (mg : Str → Option Value) : Prop where
  b_abs : mg "abs" = none
  b_len : mg "len" = none
  b_list : mg "list" = none
  b_range : mg "range" = none
  b_reversed : mg "reversed" = none
  b_tuple : mg "tuple" = none
  c_FEWEST_STRANDS : ∃ t, mg "FEWEST_STRANDS" = some (.int (2) t)
  c_MOST_STRANDS : ∃ t, mg "MOST_STRANDS" = some (.int (16) t)
  c_MOST_LETTERS : ∃ t, mg "MOST_LETTERS" = some (.int (4096) t)
  c_OUT_OF_RANGE : ∃ t, mg "OUT_OF_RANGE" = some (.int (-2) t)
  c_TOO_MANY : ∃ t, mg "TOO_MANY" = some (.int (-3) t)
  c_MOST_KNOWN : ∃ t, mg "MOST_KNOWN" = some (.int (4096) t)
  f_can_hang : HasE K mg "can_hang" s_can_hang ["n"]
  f_is_letter : HasE K mg "is_letter" s_is_letter ["n", "number"]
  f_is_word : HasE K mg "is_word" s_is_word ["n", "w"]
  f_none_of : HasE K mg "none_of" s_none_of ["n"]
  f_turn_of : HasE K mg "turn_of" s_turn_of ["n"]
  f_cross : HasE K mg "cross" s_cross ["row", "letter"]
  f_strand_places : HasE K mg "strand_places" s_strand_places ["row"]
  f_turned_over : HasE K mg "turned_over" s_turned_over ["row"]
  f_sink : HasE K mg "sink" s_sink ["row", "where", "place"]
  f_settled : HasE K mg "settled" s_settled ["first", "second"]
  f_braid_of : HasE K mg "braid_of" s_braid_of ["n", "w"]
  f_form : HasE K mg "form" s_form ["n", "most", "w"]
structure Txt_Braid (K : PySem.W.Frag) (mg : Str → Option Value) (C : Addr) : Prop where
  cls : ClsAt K mg "Braid" C
  n_none : NoAttr K C "none"
  n_turn : NoAttr K C "turn"
  n_rows : NoAttr K C "rows"
  n_turns : NoAttr K C "turns"
  n_known : NoAttr K C "known"
  m___init__ : MethE K C "__init__" "Braid.__init__" s_Braid___init__ ["self", "n"]
  m_put_letter : MethE K C "put_letter" "Braid.put_letter" s_Braid_put_letter ["self", "letter"]
  m_put_row : MethE K C "put_row" "Braid.put_row" s_Braid_put_row ["self", "row"]
  m_settle : MethE K C "settle" "Braid.settle" s_Braid_settle ["self"]
  m_settled_neighbours : MethE K C "settled_neighbours" "Braid.settled_neighbours" s_Braid_settled_neighbours ["self", "neighbours"]
  m_free_turn : MethE K C "free_turn" "Braid.free_turn" s_Braid_free_turn ["self", "at"]
  m_form_rows : MethE K C "form_rows" "Braid.form_rows" s_Braid_form_rows ["self"]
theorem sc_can_hang : FnScope ["n"] ["n"] (defScope s_can_hang) := ⟨rfl, rfl, rfl, by decide +kernel, rfl, by decide +kernel, by decide +kernel⟩
theorem sc_is_letter : FnScope ["n", "number"] ["n", "number"] (defScope s_is_letter) := ⟨rfl, rfl, rfl, by decide +kernel, rfl, by decide +kernel, by decide +kernel⟩
theorem sc_is_word : FnScope ["n", "w", "number"] ["n", "w"] (defScope s_is_word) := ⟨rfl, rfl, rfl, by decide +kernel, rfl, by decide +kernel, by decide +kernel⟩
theorem sc_none_of : FnScope ["n"] ["n"] (defScope s_none_of) := ⟨rfl, rfl, rfl, by decide +kernel, rfl, by decide +kernel, by decide +kernel⟩
theorem sc_turn_of : FnScope ["n"] ["n"] (defScope s_turn_of) := ⟨rfl, rfl, rfl, by decide +kernel, rfl, by decide +kernel, by decide +kernel⟩
theorem sc_cross : FnScope ["row", "letter", "right", "left", "strand"] ["row", "letter"] (defScope s_cross) := ⟨rfl, rfl, rfl, by decide +kernel, rfl, by decide +kernel, by decide +kernel⟩
theorem sc_strand_places : FnScope ["row", "where", "place"] ["row"] (defScope s_strand_places) := ⟨rfl, rfl, rfl, by decide +kernel, rfl, by decide +kernel, by decide +kernel⟩
theorem sc_turned_over : FnScope ["row", "last", "strand"] ["row"] (defScope s_turned_over) := ⟨rfl, rfl, rfl, by decide +kernel, rfl, by decide +kernel, by decide +kernel⟩
theorem sc_sink : FnScope ["row", "where", "place", "strand", "goal"] ["row", "where", "place"] (defScope s_sink) := ⟨rfl, rfl, rfl, by decide +kernel, rfl, by decide +kernel, by decide +kernel⟩
theorem sc_settled : FnScope ["first", "second", "row", "where", "place"] ["first", "second"] (defScope s_settled) := ⟨rfl, rfl, rfl, by decide +kernel, rfl, by decide +kernel, by decide +kernel⟩
theorem sc_braid_of : FnScope ["n", "w", "braid", "letter"] ["n", "w"] (defScope s_braid_of) := ⟨rfl, rfl, rfl, by decide +kernel, rfl, by decide +kernel, by decide +kernel⟩
theorem sc_form : FnScope ["n", "most", "w", "braid", "answer", "row"] ["n", "most", "w"] (defScope s_form) := ⟨rfl, rfl, rfl, by decide +kernel, rfl, by decide +kernel, by decide +kernel⟩
theorem sc_Braid___init__ : FnScope ["self", "n"] ["self", "n"] (defScope s_Braid___init__) := ⟨rfl, rfl, rfl, by decide +kernel, rfl, by decide +kernel, by decide +kernel⟩
theorem sc_Braid_put_letter : FnScope ["self", "letter", "row"] ["self", "letter"] (defScope s_Braid_put_letter) := ⟨rfl, rfl, rfl, by decide +kernel, rfl, by decide +kernel, by decide +kernel⟩
theorem sc_Braid_put_row : FnScope ["self", "row", "at"] ["self", "row"] (defScope s_Braid_put_row) := ⟨rfl, rfl, rfl, by decide +kernel, rfl, by decide +kernel, by decide +kernel⟩
theorem sc_Braid_settle : FnScope ["self", "rows", "at", "neighbours", "after"] ["self"] (defScope s_Braid_settle) := ⟨rfl, rfl, rfl, by decide +kernel, rfl, by decide +kernel, by decide +kernel⟩
theorem sc_Braid_settled_neighbours : FnScope ["self", "neighbours"] ["self", "neighbours"] (defScope s_Braid_settled_neighbours) := ⟨rfl, rfl, rfl, by decide +kernel, rfl, by decide +kernel, by decide +kernel⟩
theorem sc_Braid_free_turn : FnScope ["self", "at", "behind", "row"] ["self", "at"] (defScope s_Braid_free_turn) := ⟨rfl, rfl, rfl, by decide +kernel, rfl, by decide +kernel, by decide +kernel⟩
theorem sc_Braid_form_rows : FnScope ["self", "row"] ["self"] (defScope s_Braid_form_rows) := ⟨rfl, rfl, rfl, by decide +kernel, rfl, by decide +kernel, by decide +kernel⟩
end Pr
namespace Pl
open PySem L2 Com Pr
def absI (i : Int) : Int := if i < 0 then -i else i
theorem abs_nat (x : Int) : absI x = (x.natAbs : Int) := by unfold absI; split <;> omega
end Pl
namespace Pl
open PySem L2 Com Pr
def isHang (n : Int) : Bool := decide (2 ≤ n) && decide (n ≤ 16)
def spHang : Sp := fun vs H Q _ => ∃ n : Int, vs = [.int n] ∧ Q (.bl (isHang n)) H
theorem hang_parts {n : Int} (h : isHang n = true) : 2 ≤ n ∧ n ≤ 16 := by
  unfold isHang at h
  simp only [Bool.and_eq_true, decide_eq_true_eq] at h
  exact h
section
variable {P : Program} {w : World} {K : PySem.W.Frag} {mg : Str → Option Value} {base : Heap}
theorem ok_hang {f : Addr} {fd : FuncData} (T : Txt K mg) (h : Has K mg "can_hang" s_can_hang ["n"] f fd) : FnOk P w K mg base CX0 1 f fd ["n"] spHang := by
  obtain ⟨t1, m1⟩ := T.c_FEWEST_STRANDS
  obtain ⟨t2, m2⟩ := T.c_MOST_STRANDS
  refine h.fn.ok sc_can_hang (fun vs H Q E h => ?_) (fun cdv A outer s H vs Q E hr h => ?_)
  · obtain ⟨n, rfl, _⟩ := h
    rfl
  · obtain ⟨n, rfl, k⟩ := h
    refine ⟨_, pss_one (ps_ret (pe_chain op_le op_le (pe_glob (v := .int 2) (by rfl) m1 ⟨_, rfl⟩) (pv 0) (pe_glob (v := .int 16) (by rfl) m2 ⟨_, rfl⟩))), ?_⟩
    refine ⟨_, rfl, _, _, rfl, rfl, _, rfl, ?_⟩
    by_cases h1 : 2 ≤ n
    · refine if_t (decide_eq_true h1) ⟨_, _, rfl, rfl, ?_⟩
      have e : isHang n = decide (n ≤ 16) := by
        unfold isHang
        rw [decide_eq_true h1, Bool.true_and]
      rw [e] at k
      exact k
    · refine if_f (decide_eq_false h1) ?_
      have e : isHang n = false := by
        unfold isHang
        rw [decide_eq_false h1, Bool.false_and]
      rw [e] at k
      exact k
end
end Pl
namespace Pl
open PySem L2 Com Pr
def isLetter (n x : Int) : Bool := decide (1 ≤ absI x) && decide (absI x ≤ n - 1)
def spLetter : Sp := fun vs H Q _ => ∃ (n x : Int), vs = [.int n, .int x] ∧ Q (.bl (isLetter n x)) H
theorem letter_parts {n x : Int} (h : isLetter n x = true) : 1 ≤ absI x ∧ absI x ≤ n - 1 := by
  unfold isLetter at h
  simp only [Bool.and_eq_true, decide_eq_true_eq] at h
  exact h
section
variable {P : Program} {w : World} {K : PySem.W.Frag} {mg : Str → Option Value} {base : Heap}
theorem ok_letter {f : Addr} {fd : FuncData} (T : Txt K mg) (h : Has K mg "is_letter" s_is_letter ["n", "number"] f fd) : FnOk P w K mg base CX0 1 f fd ["n", "number"] spLetter := by
  refine h.fn.ok sc_is_letter (fun vs H Q E h => ?_) (fun cdv A outer s H vs Q E hr h => ?_)
  · obtain ⟨n, x, rfl, _⟩ := h
    rfl
  · obtain ⟨n, x, rfl, k⟩ := h
    refine ⟨_, pss_one (ps_ret (pe_chain op_le op_le pe_int (pe_callB call_abs (by rfl) T.b_abs PyProof.Rows.boot_abs (pa_cons (pv 1) pa_nil)) (pe_op op_sub (pv 0) pe_int))), ?_⟩
    refine ⟨_, rfl, _, rfl, _, _, rfl, rfl, _, rfl, ?_⟩
    by_cases h1 : 1 ≤ absI x
    · refine if_t (decide_eq_true h1) ⟨_, rfl, _, _, rfl, rfl, _, _, rfl, rfl, ?_⟩
      have e : isLetter n x = decide (absI x ≤ n - 1) := by
        unfold isLetter
        rw [decide_eq_true h1, Bool.true_and]
      rw [e] at k
      exact k
    · refine if_f (decide_eq_false h1) ?_
      have e : isLetter n x = false := by
        unfold isLetter
        rw [decide_eq_false h1, Bool.false_and]
      rw [e] at k
      exact k
end
end Pl
namespace Pl
open PySem L2 Com Pr
def isWord (n : Int) (w : List Int) : Bool := isHang n && (decide (w.length ≤ 4096) && w.all (isLetter n))
def spWord (K : PySem.W.Frag) : Sp := fun vs H Q _ => ∃ (n : Int) (a : Addr) (w : List Int), vs = [.int n, .ref a] ∧ SqL K H a (w.map V.int) ∧ Q (.bl (isWord n w)) H
theorem word_parts {n : Int} {w : List Int} (h : isWord n w = true) : (2 ≤ n ∧ n ≤ 16) ∧ w.length ≤ 4096 ∧ w.all (isLetter n) = true := by
  unfold isWord at h
  simp only [Bool.and_eq_true, decide_eq_true_eq] at h
  exact ⟨hang_parts h.1, h.2.1, h.2.2⟩
section
variable {P : Program} {w : World} {K : PySem.W.Frag} {mg : Str → Option Value} {base : Heap}
theorem ok_word {f : Addr} {fd : FuncData} (T : Txt K mg) (h : Has K mg "is_word" s_is_word ["n", "w"] f fd) : FnOk P w K mg base CX0 2 f fd ["n", "w"] (spWord K) := by
  obtain ⟨g, gd, hG⟩ := T.f_is_letter
  obtain ⟨g1, gd1, hG1⟩ := T.f_can_hang
  have GL : FnOk P w K mg base CX0 1 g gd ["n", "number"] spLetter := ok_letter T hG
  have GH : FnOk P w K mg base CX0 1 g1 gd1 ["n"] spHang := ok_hang T hG1
  obtain ⟨t3, m3⟩ := T.c_MOST_LETTERS
  refine h.fn.ok sc_is_word (fun vs H Q E h => ?_) (fun cdv A outer s H vs Q E hr h => ?_)
  · obtain ⟨n, a, w', rfl, _⟩ := h
    rfl
  · obtain ⟨n, a, w', rfl, hS, k⟩ := h
    refine ⟨_, pss_cons (ps_if (PW.pt (pw_or (pt_not (pt_truth (pe_call GH hr (by rfl) hG1.mg hG1.fn.kp hG1.bd .nil pass0 (pa_cons (pv 0) pa_nil)) (fun _ => rfl)))
        (pw_or1 (pt_cmpR op_gt (pe_callB call_len_seq (by rfl) T.b_len PySem.boot_len (pa_cons (pv 1) pa_nil)) (pe_glob (v := .int 4096) (by rfl) m3 ⟨_, rfl⟩) (nomark _))))) (pss_one (ps_ret pe_bl)) pss_nil)
      (pss_cons (ps_for PassesOwn.never rfl (pi_list (pv 1)) (pg_name (i := 2) sc_is_word.nd rfl (Or.inl rfl))
        (pss_one (ps_if (pt_not (pt_truth (pe_call GL hr (by rfl) hG.mg hG.fn.kp hG.bd .nil pass0 (pa_cons (pv 0) (pa_cons (pv 2) pa_nil))) (fun _ => rfl))) (pss_one (ps_ret pe_bl)) pss_nil)))
      (pss_one (ps_ret pe_bl))), ?_⟩
    refine ⟨_, rfl, n, rfl, _, rfl, ?_⟩
    cases h1 : isHang n with
    | false =>
      have e : isWord n w' = false := by unfold isWord; rw [h1]; rfl
      rw [e] at k
      exact if_t rfl (if_t rfl k)
    | true =>
    refine if_f rfl ⟨_, rfl, a, _, rfl, .inl hS, _, _, rfl, rfl, _, rfl, ?_⟩
    by_cases h3 : w'.length ≤ 4096
    case neg =>
      have e : isWord n w' = false := by unfold isWord; rw [decide_eq_false h3]; simp
      rw [e] at k
      exact if_t (decide_eq_true (by rw [List.length_map]; omega)) k
    case pos =>
    refine if_f (decide_eq_false (by rw [List.length_map]; omega)) ?_
    have ew : isWord n w' = w'.all (isLetter n) := by unfold isWord; rw [h1, decide_eq_true h3]; simp
    rw [ew] at k
    refine ⟨_, rfl, a, rfl, ⟨_, hS⟩, for_list (K := K) (a := a) (xs := w'.map V.int) (fun i σ H2 => ∃ v, σ = [some (.int n), some (.ref a), v] ∧ H2 = H ∧ (w'.take i).all (isLetter n) = true)
      ⟨none, rfl, rfl, by simp⟩ (fun i σ H2 _ ⟨_, _, e, _⟩ => by rw [e]; exact hS) ?_ ?_⟩
    · rintro i y σ H2 hi ⟨v, rfl, rfl, ha⟩
      obtain ⟨z, hz, rfl⟩ := ints_get hi
      refine ⟨_, rfl, _, rfl, n, z, rfl, _, rfl, ?_⟩
      cases hb : isLetter n z with
      | true => exact iteF ⟨_, rfl, rfl, take_all hz ha hb⟩
      | false =>
        rw [all_not hz hb] at k
        exact iteT k
    · rintro σ H2 ⟨v, rfl, rfl, ha⟩
      rw [List.length_map, List.take_length] at ha
      rw [ha] at k
      exact k
end
/-! ### the specification's words -/
theorem letter_eq {n : Int} (hn : 2 ≤ n) (x : Int) : isLetter n x = Md08.letter n.toNat x := by
  unfold isLetter Md08.letter
  rw [abs_nat, Bool.eq_iff_iff]
  simp only [Bool.and_eq_true, decide_eq_true_eq, bne_iff_ne]
  omega
theorem all_congr' {p q : Int → Bool} (h : ∀ x, p x = q x) (w : List Int) : w.all p = w.all q := by
  have : p = q := funext h
  rw [this]
theorem word_eq (n : Int) (w : List Int) : isWord n w = Md08.word_ n (w.length : Int) w := by
  unfold isWord isHang Md08.word_ Md08.within Md08.MOST
  by_cases hn : 2 ≤ n
  · rw [all_congr' (letter_eq hn) w]
    have e1 : decide ((0 : Int) ≤ (w.length : Int)) = true := decide_eq_true (by omega)
    have e2 : decide ((w.length : Int) ≤ 4096) = decide (w.length ≤ 4096) := by
      rw [Bool.eq_iff_iff]
      simp only [decide_eq_true_eq]
      omega
    rw [e1, e2, Bool.true_and]
  · rw [decide_eq_false hn]
    simp
theorem word_letters {n : Int} {w : List Int} (h : isWord n w = true) : w.all (Md08.letter n.toNat) = true := by
  obtain ⟨⟨h1, _⟩, _, h3⟩ := word_parts h
  rw [← all_congr' (letter_eq h1) w]
  exact h3
end Pl
namespace Pl
open PySem L2 Com Pr
def noneI (n : Int) : List Int := (List.range n.toNat).map fun (k : Nat) => (k : Int)
theorem noneI_eq (n : Int) : noneI n = Md08.ints (Md08.none_ n.toNat) := rfl
theorem noneI_len (n : Int) : (noneI n).length = n.toNat := by unfold noneI; rw [List.length_map, List.length_range]
def spNone : Sp := fun vs H Q _ => ∃ n : Int, vs = [.int n] ∧ n ≤ 16 ∧ -16 ≤ n ∧ NewL H Q (noneI n)
section
variable {P : Program} {w : World} {K : PySem.W.Frag} {mg : Str → Option Value} {base : Heap}
theorem ok_none {f : Addr} {fd : FuncData} (T : Txt K mg) (h : Has K mg "none_of" s_none_of ["n"] f fd) : FnOk P w K mg base CX0 1 f fd ["n"] spNone := by
  refine h.fn.ok sc_none_of (fun vs H Q E h => ?_) (fun cdv A outer s H vs Q E hr h => ?_)
  · obtain ⟨n, rfl, _⟩ := h
    rfl
  · obtain ⟨n, rfl, hn, hn', k⟩ := h
    refine ⟨_, pss_one (ps_ret (pe_callTy (call_list_rng rfl) (by rfl) T.b_list PyProof.Rows.boot_list (pa_cons (pe_callTy call_range1 (by rfl) T.b_range PyProof.Rows.boot_range (pa_cons (pv 0) pa_nil)) pa_nil))), ?_⟩
    refine ⟨_, rfl, n, rfl, fun p hp => ?_⟩
    refine ⟨p, 0, n, rfl, upd_same, ⟨by omega, by omega, by omega, by omega⟩, by rw [sizeLine_eq]; omega, fun l hl => ?_⟩
    have hl0 : H l = Option.none := (same_new hp).free hl
    refine k _ l ((same_new hp).trans (same_new hl)) hl0 ?_
    rw [upd_same]
    refine congrArg (fun z => some (HO.lst z)) ?_
    unfold noneI
    rw [List.map_map, Int.sub_zero]
    refine List.map_congr_left fun k _ => ?_
    show V.int (0 + (k : Int)) = V.int (k : Int)
    rw [Int.zero_add]
end
end Pl
namespace Pl
open PySem L2 Com Pr
def turnI (n : Int) : List Int := (List.range n.toNat).map fun (k : Nat) => n - 1 - (k : Int)
theorem turnI_eq (n : Int) : turnI n = Md08.ints (Md08.turn n.toNat) := by
  unfold turnI Md08.turn Md08.ints
  refine List.ext_getElem (by simp) fun j h1 h2 => ?_
  rw [List.length_map, List.length_range] at h1
  simp only [List.getElem_map, List.getElem_range, List.getElem_reverse, List.length_range]
  omega
def spTurn : Sp := fun vs H Q _ => ∃ n : Int, vs = [.int n] ∧ 0 ≤ n ∧ n ≤ 16 ∧ NewL H Q (turnI n)
section
variable {P : Program} {w : World} {K : PySem.W.Frag} {mg : Str → Option Value} {base : Heap}
theorem ok_turn {f : Addr} {fd : FuncData} (T : Txt K mg) (h : Has K mg "turn_of" s_turn_of ["n"] f fd) : FnOk P w K mg base CX0 1 f fd ["n"] spTurn := by
  refine h.fn.ok sc_turn_of (fun vs H Q E h => ?_) (fun cdv A outer s H vs Q E hr h => ?_)
  · obtain ⟨n, rfl, _⟩ := h
    rfl
  · obtain ⟨n, rfl, hn0, hn, k⟩ := h
    refine ⟨_, pss_one (ps_ret (pe_callTy (call_list_rgn rfl) (by rfl) T.b_list PyProof.Rows.boot_list (pa_cons (pe_callTy call_range3 (by rfl) T.b_range PyProof.Rows.boot_range
      (pa_cons (pe_op op_sub (pv 0) pe_int) (pa_cons (pe_un un_neg pe_int) (pa_cons (pe_un un_neg pe_int) pa_nil)))) pa_nil))), ?_⟩
    have hg : RgC (n - 1) (-1) (-1) (n - 1 - -1).toNat := RgC.neg (by omega) (by omega) (by omega) (by omega)
    refine ⟨_, rfl, _, _, rfl, rfl, _, rfl, _, rfl, n - 1, -1, -1, _, rfl, hg, fun p hp => ?_⟩
    refine ⟨p, n - 1, -1, -1, _, rfl, upd_same, hg, by rw [sizeLine_eq]; omega, fun l hl => ?_⟩
    have hl0 : H l = Option.none := (same_new hp).free hl
    refine k _ l ((same_new hp).trans (same_new hl)) hl0 ?_
    rw [upd_same]
    refine congrArg (fun z => some (HO.lst z)) ?_
    unfold turnI
    have e : (n - 1 - -1).toNat = n.toNat := by omega
    rw [List.map_map, e]
    refine List.map_congr_left fun k _ => ?_
    show V.int (n - 1 + (k : Int) * -1) = V.int (n - 1 - (k : Int))
    refine congrArg V.int ?_
    omega
end
end Pl
namespace Pl
open PySem L2 Com Pr
def crossI (row : List Int) (x : Int) : List Int := (row.set (absI x - 1).toNat (row.getD (absI x).toNat 0)).set (absI x).toNat (row.getD (absI x - 1).toNat 0)
def spCross : Sp := fun vs H Q _ => ∃ (r : Addr) (row : List Int) (x : Int), vs = [.ref r, .int x] ∧ H r = some (.lst (row.map V.int)) ∧ 1 ≤ absI x ∧ absI x < row.length ∧ Q .non (upd H r (.lst ((crossI row x).map V.int)))
section
variable {P : Program} {w : World} {K : PySem.W.Frag} {mg : Str → Option Value} {base : Heap}
theorem ok_cross {f : Addr} {fd : FuncData} (T : Txt K mg) (h : Has K mg "cross" s_cross ["row", "letter"] f fd) : FnOk P w K mg base CX0 1 f fd ["row", "letter"] spCross := by
  refine h.fn.ok sc_cross (fun vs H Q E h => ?_) (fun cdv A outer s H vs Q E hr h => ?_)
  · obtain ⟨r, row, x, rfl, _⟩ := h
    rfl
  · obtain ⟨r, row, x, rfl, hR, hx1, hx2, k⟩ := h
    refine ⟨_, pss_cons (ps_set (i := 2) sc_cross.nd rfl (Or.inl rfl) (pe_callB call_abs (by rfl) T.b_abs PyProof.Rows.boot_abs (pa_cons (pv 1) pa_nil)))
      (pss_cons (ps_set (i := 3) sc_cross.nd rfl (Or.inl rfl) (pe_op op_sub (pv 2) pe_int))
      (pss_cons (ps_set (i := 4) sc_cross.nd rfl (Or.inl rfl) (pe_ix ix_list (pv 0) (pv 3) (fun _ _ => rfl)))
      (pss_cons (ps_asg (pe_ix ix_list (pv 0) (pv 2) (fun _ _ => rfl)) (pg_sub (pv 0) (pv 3) set_list))
      (pss_one (ps_asg (pv 4) (pg_sub (pv 0) (pv 2) set_list)))))), ?_⟩
    have e0 : (if x < 0 then -x else x) = absI x := rfl
    refine ⟨_, rfl, _, rfl, _, rfl, _, _, rfl, rfl, ?_⟩
    rw [e0]
    refine ⟨_, rfl, _, rfl, r, _, _, _, rfl, rfl, SqL.of hR, atI_of (by omega) (by omega), ?_⟩
    refine ⟨_, rfl, _, rfl, r, _, _, _, rfl, rfl, SqL.of hR, atI_of (by omega) hx2, ?_⟩
    refine ⟨_, rfl, _, rfl, r, _, _, _, rfl, rfl, hR, ixN_of (by omega) (by rw [List.length_map]; omega), ?_⟩
    refine ⟨_, rfl, _, rfl, _, rfl, r, _, _, _, rfl, rfl, upd_same, ixN_of (by omega) (by rw [List.length_set, List.length_map]; omega), ?_⟩
    have e1 : ((row.map V.int).set (absI x - 1).toNat (V.int (row.getD (absI x).toNat 0))).set (absI x).toNat (V.int (row.getD (absI x - 1).toNat 0)) = (crossI row x).map V.int := by
      unfold crossI
      rw [List.map_set, List.map_set]
    rw [e1, upd_upd]
    exact k
end
theorem len_crossI (row : List Int) (x : Int) : (crossI row x).length = row.length := by
  unfold crossI
  rw [List.length_set, List.length_set]
theorem len_fold (w row : List Int) : (w.foldl crossI row).length = row.length := by
  induction w generalizing row with
  | nil => rfl
  | cons x w ih => rw [List.foldl_cons, ih, len_crossI]
theorem ints_set (p : List Nat) (j v : Nat) : Md08.ints (p.set j v) = (Md08.ints p).set j (v : Int) := by unfold Md08.ints; rw [List.map_set]
theorem ints_getD (p : List Nat) (j : Nat) : (Md08.ints p).getD j 0 = ((p.getD j 0 : Nat) : Int) := by
  unfold Md08.ints
  rw [List.getD_eq_getElem?_getD, List.getD_eq_getElem?_getD, List.getElem?_map]
  cases p[j]? <;> rfl
theorem cross_ints (p : List Nat) (x : Int) (h : 1 ≤ x.natAbs) : crossI (Md08.ints p) x = Md08.ints (Md08.cross p x) := by
  unfold crossI Md08.cross Md08.at_
  rw [ints_set, ints_set, abs_nat, ints_getD, ints_getD]
  have e1 : ((x.natAbs : Int) - 1).toNat = x.natAbs - 1 := by omega
  have e2 : ((x.natAbs : Int)).toNat = x.natAbs := by omega
  rw [e1, e2]
theorem fold_ints : ∀ (w : List Int) (p : List Nat), (∀ x ∈ w, 1 ≤ x.natAbs) → w.foldl crossI (Md08.ints p) = Md08.ints (w.foldl Md08.cross p)
  | [], p, _ => rfl
  | x :: w, p, h => by
    rw [List.foldl_cons, List.foldl_cons, cross_ints p x (h x (List.mem_cons_self ..))]
    exact fold_ints w _ fun y hy => h y (List.mem_cons_of_mem _ hy)
end Pl
namespace Pl
open PySem L2 Com Pr
/-- a row of the braid, as the program has it -/
abbrev iR (p : List Nat) : List V := (Md08.ints p).map V.int
theorem iR_len (p : List Nat) : (iR p).length = p.length := by unfold iR Md08.ints; rw [List.length_map, List.length_map]
theorem iR_get {p : List Nat} {j : Nat} (h : j < p.length) : (iR p)[j]? = some (V.int (Md08.at_ p j : Nat)) := by
  unfold iR Md08.ints
  rw [List.getElem?_map, List.getElem?_map, List.getElem?_eq_getElem h, ← Br.at_get h]
  rfl
theorem iR_set (p : List Nat) (j v : Nat) : (iR p).set j (V.int (v : Nat)) = iR (p.set j v) := by
  unfold iR Md08.ints
  rw [List.map_set, List.map_set]
theorem ixN_nat {n j : Nat} (h : j < n) : ixN n (j : Int) = some j := by
  rw [ixN_of (by omega) (by omega)]
  rfl
theorem iR_rep (n : Nat) : (List.replicate ((n : Nat) : Int).toNat [V.int 0]).flatten = iR (List.replicate n 0) := by
  unfold iR Md08.ints
  rw [List.map_replicate, List.map_replicate, Int.toNat_natCast]
  induction n with
  | zero => rfl
  | succ n ih => rw [List.replicate_succ, List.flatten_cons, ih, List.replicate_succ]; rfl
/-- of a row of n strands, a list or a tuple -/
def spWhere (K : PySem.W.Frag) : Sp := fun vs H Q _ => ∃ (n : Nat) (a : Addr) (p : List Nat), vs = [.ref a] ∧ (SqL K H a (iR p) ∨ SqT K H a (iR p)) ∧ Md08.isRow n p = true ∧ n ≤ 16 ∧ NewL H Q (Md08.ints (Br.wh n p))
theorem same_sq {K : PySem.W.Frag} {H H' : Hp} {a : Addr} {xs : List V} (e : L2.Same H H') (h : SqL K H a xs ∨ SqT K H a xs) : SqL K H' a xs ∨ SqT K H' a xs := by
  rcases h with h | h
  · exact .inl (e.seq h)
  · refine .inr ?_
    rcases h with (h | ⟨o, h⟩) | h
    · exact .inl (.inl (e _ _ h))
    · exact .inl (.inr ⟨o, e _ _ h⟩)
    · exact .inr h
section
variable {P : Program} {w : World} {K : PySem.W.Frag} {mg : Str → Option Value} {base : Heap}
theorem ok_where {f : Addr} {fd : FuncData} (T : Txt K mg) (h : Has K mg "strand_places" s_strand_places ["row"] f fd) : FnOk P w K mg base CX0 1 f fd ["row"] (spWhere K) := by
  refine h.fn.ok sc_strand_places (fun vs H Q E h => ?_) (fun cdv A outer s H vs Q E hr h => ?_)
  · obtain ⟨n, a, p, rfl, _⟩ := h
    rfl
  · obtain ⟨n, a, p, rfl, hS, hp, hn, k⟩ := h
    have hlen := Br.row_len hp
    refine ⟨_, pss_cons (ps_set (i := 1) sc_strand_places.nd rfl (Or.inl rfl) (pe_op op_rep (pe_lst (pa_cons pe_int pa_nil)) (pe_callB call_len_seq (by rfl) T.b_len PySem.boot_len (pa_cons (pv 0) pa_nil))))
      (pss_cons (ps_for PassesOwn.never rfl (pi_range1 (by rfl) T.b_range (pa_cons (pe_callB call_len_seq (by rfl) T.b_len PySem.boot_len (pa_cons (pv 0) pa_nil)) pa_nil)) (pg_name (i := 2) sc_strand_places.nd rfl (Or.inl rfl))
        (pss_one (ps_asg (pv 2) (pg_sub (pv 1) (pe_ix (IxR.or ix_list ix_tup) (pv 0) (pv 2) (fun _ _ => rfl)) set_list))))
      (pss_one (ps_ret (pv 1)))), ?_⟩
    refine ⟨by show 1 ≤ sizeLine; decide, fun q hq => ?_⟩
    have s1 := same_new (o := .lst [V.int 0]) hq
    refine ⟨_, rfl, a, _, rfl, same_sq s1 hS, q, _, _, rfl, rfl, upd_same, ?_, ?_, ?_, fun l hl => ?_⟩
    · rw [iR_len, hlen]; omega
    · rw [iR_len, hlen]; omega
    · rw [iR_len, hlen, Int.toNat_natCast, sizeLine_eq]
      show 1 * n ≤ _
      omega
    rw [iR_len, hlen, iR_rep]
    have hl0 : H l = Option.none := s1.free hl
    have s2 : L2.Same H (upd (upd H q (.lst [V.int 0])) l (.lst (iR (List.replicate n 0)))) := s1.trans (same_new hl)
    refine ⟨_, rfl, a, _, rfl, same_sq s2 hS, ?_⟩
    rw [iR_len, hlen]
    refine ⟨(n : Int), rfl, by omega, by omega, ?_⟩
    rw [Int.toNat_natCast]
    refine for_range (n := n) (fun j σ H2 => ∃ v, σ = [some (.ref a), some (.ref l), v] ∧ L2.Same H H2 ∧ H2 l = some (.lst (iR (Br.whTo n p j))))
      ⟨none, rfl, s2, by rw [upd_same, Br.whTo_zero]⟩ ?_ ?_
    · rintro j σ H2 hj ⟨v, rfl, s3, hR⟩
      have e0 : (0 : Int) + (j : Int) = (j : Int) := by omega
      rw [e0]
      have hat := Br.at_lt hp hj
      have hix : atI (iR p) (j : Int) = some (V.int (Md08.at_ p j : Nat)) := atI_nat (iR_get (by omega))
      have hlw : (Br.whTo n p j).length = n := by unfold Br.whTo; rw [List.length_map, List.length_range]
      refine ⟨_, rfl, _, rfl, _, rfl, _, rfl, ?_⟩
      have fin : rSetL (.ref l) (.int (Md08.at_ p j : Nat)) (.int (j : Int)) H2 (fun H3 => ∃ v, [some (V.ref a), some (V.ref l), some (V.int (j : Int))] = [some (.ref a), some (.ref l), v] ∧ L2.Same H H3 ∧ H3 l = some (.lst (iR (Br.whTo n p (j + 1))))) := by
        refine ⟨l, _, _, Md08.at_ p j, rfl, rfl, hR, by rw [iR_len, hlw]; exact ixN_nat hat, ?_⟩
        refine ⟨_, rfl, same_put s3 hl0, ?_⟩
        rw [upd_same, iR_set, Br.whTo_succ hp hj]
      rcases same_sq s3 hS with z | z
      · exact .inl ⟨a, _, _, _, rfl, rfl, z, hix, fin⟩
      · exact .inr ⟨a, _, _, _, rfl, rfl, z, hix, fin⟩
    · rintro σ H2 ⟨v, rfl, s3, hR⟩
      rw [Br.whTo_all hp] at hR
      exact ⟨_, rfl, k _ l s3 hl0 hR⟩
end
end Pl
namespace Pl
open PySem L2 Com Pr
/-- a new tuple is handed back, all else stays -/
def NewT (H : Hp) (Q : VK) (xs : List V) : Prop := ∀ H' l, L2.Same H H' → H l = none → H' l = some (.tup xs) → Q (.ref l) H'
def spOver (K : PySem.W.Frag) : Sp := fun vs H Q _ => ∃ (n : Nat) (a : Addr) (p : List Nat), vs = [.ref a] ∧ SqT K H a (iR p) ∧ Md08.isRow n p = true ∧ n ≤ 16 ∧ NewT H Q (iR (Md08.turned n p))
theorem same_sqT {K : PySem.W.Frag} {H H' : Hp} {a : Addr} {xs : List V} (e : L2.Same H H') (h : SqT K H a xs) : SqT K H' a xs := by
  rcases h with (h | ⟨o, h⟩) | h
  · exact .inl (.inl (e _ _ h))
  · exact .inl (.inr ⟨o, e _ _ h⟩)
  · exact .inr h
theorem yes {σ : St} {H : Hp} {Q : Bool → Hp → Prop} (h : Q true H) : tYes σ H Q := h
theorem turned_take {n : Nat} {p : List Nat} (hp : Md08.isRow n p = true) {i : Nat} (h : i < n) : ((iR (Md08.turned n p)).take (i + 1)) = (iR (Md08.turned n p)).take i ++ [V.int ((n : Int) - 1 - (Md08.at_ p (n - 1 - i) : Nat))] := by
  have hl : (Md08.turned n p).length = n := Br.len_turned p
  have hat := Br.at_lt hp (show n - 1 - i < n by omega)
  rw [List.take_add_one, iR_get (by omega), Br.at_turned h]
  have e : ((n - 1 - Md08.at_ p (n - 1 - i) : Nat) : Int) = (n : Int) - 1 - (Md08.at_ p (n - 1 - i) : Nat) := by omega
  rw [e]
  rfl
section
variable {P : Program} {w : World} {K : PySem.W.Frag} {mg : Str → Option Value} {base : Heap}
theorem ok_over {f : Addr} {fd : FuncData} (T : Txt K mg) (h : Has K mg "turned_over" s_turned_over ["row"] f fd) : FnOk P w K mg base CX0 1 f fd ["row"] (spOver K) := by
  refine h.fn.ok sc_turned_over (fun vs H Q E h => ?_) (fun cdv A outer s H vs Q E hr h => ?_)
  · obtain ⟨n, a, p, rfl, _⟩ := h
    rfl
  · obtain ⟨n, a, p, rfl, hS, hp, hn, k⟩ := h
    have hlen := Br.row_len hp
    refine ⟨_, pss_cons (ps_set (i := 1) sc_turned_over.nd rfl (Or.inr rfl) (pe_op op_sub (pe_callB call_len_seq (by rfl) T.b_len PySem.boot_len (pa_cons (pv 0) pa_nil)) pe_int))
      (pss_one (ps_ret (pe_callTy call_tuple_of (by rfl) T.b_tuple PyProof.Rows.boot_tuple (pa_cons
        (pe_lc (own := [("strand", 2)]) rfl sc_turned_over.nd (pi_reversedT (by rfl) T.b_reversed (pa_cons (pv 0) pa_nil)) (blkOk_by (N := ["row", "last", "strand"]) (sc := defScope s_turned_over) (by decide +kernel))
          (fun _ _ _ _ _ => pg_name (i := 2) sc_turned_over.nd rfl (Or.inl rfl)) (fun _ _ _ _ _ => pts_nil) (fun _ _ _ _ _ => pe_op op_sub (pv 1) (pv 2))) pa_nil)))), ?_⟩
    refine ⟨_, rfl, a, _, rfl, .inr hS, _, _, rfl, rfl, ?_⟩
    rw [iR_len, hlen]
    refine ⟨_, rfl, a, _, rfl, hS, fun D hD => ?_⟩
    have ul : (iR (Md08.turned n p)).length = n := by rw [iR_len, Br.len_turned]
    refine lc_revT (K := K) (a := a) (xs := iR p) (fun i H2 => L2.Same H H2 ∧ H2 D = some (.lst ((iR (Md08.turned n p)).take i)))
      ⟨same_new hD, by rw [upd_same]; rfl⟩ (fun i H2 _ ⟨s2, _⟩ => same_sqT s2 hS) ?_ ?_
    · rintro i x H2 hi hx ⟨s2, hL⟩
      rw [iR_len, hlen] at hi hx
      rw [iR_get (by omega)] at hx
      obtain rfl := Option.some.inj hx
      refine ⟨rfl, yes (iteT ⟨_, rfl, _, rfl, _, _, rfl, rfl, _, hL, ?_, same_put s2 hD, ?_⟩)⟩
      · rw [List.length_take, sizeLine_eq]; omega
      · rw [upd_same, turned_take hp hi]
    · rintro H2 ⟨s2, hL⟩
      rw [iR_len, hlen] at hL
      have e : (iR (Md08.turned n p)).take n = iR (Md08.turned n p) := List.take_of_length_le (by omega)
      rw [e] at hL
      refine ⟨D, _, rfl, .inl ⟨SqL.of hL, fun l hl => ?_⟩⟩
      exact k _ l (s2.trans (same_new hl)) (s2.free hl) upd_same
end
end Pl
namespace Pl
open PySem L2 Com Pr
/-- all but two things stay -/
def But (H H' : Hp) (r u : Addr) : Prop := ∀ b o, H b = some o → b ≠ r → b ≠ u → H' b = some o
def spSink : Sp := fun vs H Q _ => ∃ (n k : Nat) (r u : Addr) (p0 q0 p q : List Nat), vs = [.ref r, .ref u, .int (k : Nat)] ∧ r ≠ u ∧ H r = some (.lst (iR p)) ∧ H u = some (.lst (iR (Br.wh n q))) ∧ 0 < k ∧ k < n ∧ Br.Pre n p0 q0 k p q ∧
  ∀ H' p' q', But H H' r u → H' r = some (.lst (iR p')) → H' u = some (.lst (iR (Br.wh n q'))) → Br.Pre n p0 q0 (k + 1) p' q' → Q .non H'
theorem sink_step {a : List Nat} {m s : Nat} (h0 : 0 < m) (hm : m < a.length) : (a.set m (Md08.at_ a (m - 1))).set (m - 1) s = Md08.cross (a.set m s) (m : Int) := by
  have e1 : Md08.at_ (a.set m s) m = s := by rw [Br.at_set hm, if_pos rfl]
  have e2 : Md08.at_ (a.set m s) (m - 1) = Md08.at_ a (m - 1) := by rw [Br.at_set (by omega), if_neg (by omega)]
  rw [Br.cross_nat, e1, e2]
  refine List.ext_getElem (by simp) fun j h1 h2 => ?_
  simp only [List.getElem_set]
  by_cases e1 : m - 1 = j
  · rw [if_pos e1, if_neg (by omega), if_pos e1]
  · rw [if_neg e1]
    by_cases e2 : m = j
    · rw [if_pos e2, if_pos e2]
    · rw [if_neg e2, if_neg e2, if_neg e1, if_neg e2]
section
variable {P : Program} {w : World} {K : PySem.W.Frag} {mg : Str → Option Value} {base : Heap}
theorem ok_sink {f : Addr} {fd : FuncData} (T : Txt K mg) (h : Has K mg "sink" s_sink ["row", "where", "place"] f fd) : FnOk P w K mg base CX0 1 f fd ["row", "where", "place"] spSink := by
  refine h.fn.ok sc_sink (fun vs H Q E h => ?_) (fun cdv A outer s H vs Q E hr h => ?_)
  · obtain ⟨n, k, r, u, p0, q0, p, q, rfl, _⟩ := h
    rfl
  · obtain ⟨n, k, r, u, p0, q0, p, q, rfl, hru, hR, hU, hk0, hkn, hP, kk⟩ := h
    have hlp := Br.row_len hP.rp
    have hlw : (Br.wh n q).length = n := Br.wh_len q
    refine ⟨_, pss_cons (ps_set (i := 3) sc_sink.nd rfl (Or.inl rfl) (pe_ix ix_list (pv 0) (pv 2) (fun _ _ => rfl)))
      (pss_cons (ps_set (i := 4) sc_sink.nd rfl (Or.inl rfl) (pe_ix ix_list (pv 1) (pv 2) (fun _ _ => rfl)))
      (pss_cons (ps_while PassesOwn.never (PW.pt (pw_and (pt_cmpR op_gt (pv 2) pe_int (nomark _))
          (pw_and (pt_cmpR op_lt (pe_ix ix_list (pv 0) (pe_op op_sub (pv 2) pe_int) (fun _ _ => rfl)) (pv 3) (nomark _))
          (pw_and1 (pt_cmpR op_gt (pe_ix ix_list (pv 1) (pe_op op_sub (pv 2) pe_int) (fun _ _ => rfl)) (pv 4) (nomark _))))))
        (pss_cons (ps_asg (pe_ix ix_list (pv 0) (pe_op op_sub (pv 2) pe_int) (fun _ _ => rfl)) (pg_sub (pv 0) (pv 2) set_list))
        (pss_cons (ps_asg (pe_ix ix_list (pv 1) (pe_op op_sub (pv 2) pe_int) (fun _ _ => rfl)) (pg_sub (pv 1) (pv 2) set_list))
        (pss_one (ps_aug (i := 2) sc_sink.nd rfl (Or.inl rfl) pe_int ip_sub)))))
      (pss_cons (ps_asg (pv 3) (pg_sub (pv 0) (pv 2) set_list))
      (pss_one (ps_asg (pv 4) (pg_sub (pv 1) (pv 2) set_list)))))), ?_⟩
    refine ⟨_, rfl, _, rfl, r, _, _, _, rfl, rfl, SqL.of hR, atI_nat (iR_get (by omega)), ?_⟩
    refine ⟨_, rfl, _, rfl, u, _, _, _, rfl, rfl, SqL.of hU, atI_nat (iR_get (by omega)), ?_⟩
    -- the hole at m: with the strand in it these are p' and q'
    refine ⟨fun m σ H3 => ∃ (a b p' q' : List Nat), σ = [some (.ref r), some (.ref u), some (.int (m : Nat)), some (.int (Md08.at_ p k : Nat)), some (.int (Md08.at_ (Br.wh n q) k : Nat))] ∧ But H H3 r u ∧ H3 r = some (.lst (iR a)) ∧ H3 u = some (.lst (iR b)) ∧
        a.length = n ∧ b.length = n ∧ a.set m (Md08.at_ p k) = p' ∧ b.set m (Md08.at_ (Br.wh n q) k) = Br.wh n q' ∧ Br.Snk n p0 q0 k m p' q',
      ⟨k, p, Br.wh n q, p, q, rfl, (fun b o e _ _ => e), hR, hU, hlp, hlw, ?_, ?_, hP.snk⟩, ?_⟩
    · rw [Br.at_get (by omega)]; simp
    · rw [Br.at_get (by omega)]; simp
    rintro m σ H3 ⟨a, b, p', q', rfl, hB, hA, hU3, la, lb, ea, eb, W⟩
    have hmk := W.ins.le
    -- what the hole holds
    have e1 : Md08.at_ p' m = Md08.at_ p k := by rw [← ea, Br.at_set (by omega), if_pos rfl]
    have e2 : Md08.placeOf q' m = Md08.at_ (Br.wh n q) k := by
      have z := Br.at_wh (n := n) (p := q') (j := m) (by omega)
      rw [← eb, Br.at_set (by omega), if_pos rfl] at z
      exact z.symm
    -- the end, from where the hole is
    have fin : (m = 0 ∨ ¬ (Md08.at_ p' (m - 1) < Md08.at_ p' m ∧ Md08.placeOf q' m < Md08.placeOf q' (m - 1))) →
        tSeq (tAsg (tVar 3) (gSub (tVar 0) (tVar 2) rSetL)) (tAsg (tVar 4) (gSub (tVar 1) (tVar 2) rSetL)) { nx := fun _ H' => Q .non H', rt := Q }
          [some (.ref r), some (.ref u), some (.int (m : Nat)), some (.int (Md08.at_ p k : Nat)), some (.int (Md08.at_ (Br.wh n q) k : Nat))] H3 := by
      intro hd
      refine ⟨_, rfl, _, rfl, _, rfl, r, _, _, m, rfl, rfl, hA, by rw [iR_len, la]; exact ixN_nat (by omega), ?_⟩
      refine ⟨_, rfl, _, rfl, _, rfl, u, _, _, m, rfl, rfl, by rw [upd_ne (fun e => hru e.symm)]; exact hU3, by rw [iR_len, lb]; exact ixN_nat (by omega), ?_⟩
      rw [iR_set, iR_set, ea, eb]
      refine kk _ p' q' (fun c o e h1 h2 => ?_) (by rw [upd_ne hru]; exact upd_same) upd_same (W.done hd)
      rw [upd_ne h2, upd_ne h1]
      exact hB c o e h1 h2
    refine ⟨_, rfl, _, _, rfl, rfl, _, rfl, ?_⟩
    by_cases hm : 0 < m
    case neg => exact if_f (decide_eq_false (by omega)) (if_f rfl (fin (.inl (by omega))))
    have em : (m : Int) - 1 = ((m - 1 : Nat) : Int) := by omega
    have e3 : Md08.at_ p' (m - 1) = Md08.at_ a (m - 1) := by rw [← ea, Br.at_set (by omega), if_neg (by omega)]
    have e4 : Md08.placeOf q' (m - 1) = Md08.at_ b (m - 1) := by
      have z := Br.at_wh (n := n) (p := q') (j := m - 1) (by omega)
      rw [← eb, Br.at_set (by omega), if_neg (by omega)] at z
      exact z.symm
    have ia : atI (iR a) ((m : Int) - 1) = some (V.int (Md08.at_ a (m - 1) : Nat)) := by rw [em]; exact atI_nat (iR_get (by omega))
    have ib : atI (iR b) ((m : Int) - 1) = some (V.int (Md08.at_ b (m - 1) : Nat)) := by rw [em]; exact atI_nat (iR_get (by omega))
    refine if_t (decide_eq_true (by omega)) ⟨_, rfl, _, rfl, _, _, rfl, rfl, r, _, _, _, rfl, rfl, SqL.of hA, ia, _, rfl, _, _, rfl, rfl, _, rfl, ?_⟩
    by_cases h1 : Md08.at_ p' (m - 1) < Md08.at_ p' m
    case neg => exact if_f (decide_eq_false (by rw [← e3, ← e1]; omega)) (if_f rfl (fin (.inr fun z => h1 z.1)))
    refine if_t (decide_eq_true (by rw [← e3, ← e1]; omega)) ⟨_, rfl, _, rfl, _, _, rfl, rfl, u, _, _, _, rfl, rfl, SqL.of hU3, ib, _, rfl, _, _, rfl, rfl, _, rfl, ?_⟩
    by_cases h2 : Md08.placeOf q' m < Md08.placeOf q' (m - 1)
    case neg => exact if_f (decide_eq_false (by rw [← e4, ← e2]; omega)) (fin (.inr fun z => h2 z.2))
    refine if_t (decide_eq_true (by rw [← e4, ← e2]; omega)) ⟨fun σ' H' => ∃ (a b p' q' : List Nat), σ' = [some (.ref r), some (.ref u), some (.int ((m - 1 : Nat) : Int)), some (.int (Md08.at_ p k : Nat)), some (.int (Md08.at_ (Br.wh n q) k : Nat))] ∧ But H H' r u ∧ H' r = some (.lst (iR a)) ∧ H' u = some (.lst (iR b)) ∧
        a.length = n ∧ b.length = n ∧ a.set (m - 1) (Md08.at_ p k) = p' ∧ b.set (m - 1) (Md08.at_ (Br.wh n q) k) = Br.wh n q' ∧ Br.Snk n p0 q0 k (m - 1) p' q',
      fun σ' H' z => ⟨m - 1, by omega, z⟩, ?_⟩
    refine ⟨_, rfl, _, rfl, _, _, rfl, rfl, r, _, _, _, rfl, rfl, SqL.of hA, ia, _, rfl, _, rfl, r, _, _, m, rfl, rfl, hA, by rw [iR_len, la]; exact ixN_nat (by omega), ?_⟩
    have hU4 : ∀ o, (upd H3 r o) u = some (.lst (iR b)) := fun o => by rw [upd_ne (fun e => hru e.symm)]; exact hU3
    refine ⟨_, rfl, _, rfl, _, _, rfl, rfl, u, _, _, _, rfl, rfl, SqL.of (hU4 _), ib, _, rfl, _, rfl, u, _, _, m, rfl, rfl, hU4 _, by rw [iR_len, lb]; exact ixN_nat (by omega), ?_⟩
    refine ⟨_, rfl, _, _, rfl, rfl, ?_⟩
    rw [iR_set, iR_set]
    refine ⟨a.set m (Md08.at_ a (m - 1)), b.set m (Md08.at_ b (m - 1)), _, Md08.without q' m, ?_, fun c o e h3 h4 => ?_, by rw [upd_ne hru]; exact upd_same, upd_same, by rw [List.length_set]; exact la, by rw [List.length_set]; exact lb, rfl, ?_, ?_⟩
    · show _ = [some (V.ref r), some (V.ref u), some (V.int ((m - 1 : Nat) : Int)), some (V.int (Md08.at_ p k : Nat)), some (V.int (Md08.at_ (Br.wh n q) k : Nat))]
      rw [← em]
      rfl
    · rw [upd_ne h4, upd_ne h3]
      exact hB c o e h3 h4
    · rw [sink_step hm (by omega), eb, Br.wh_without W.rq hm (by omega)]
    · rw [sink_step hm (by omega), ea]
      exact W.move (by omega) hm h1 h2
end
end Pl
namespace Pl
open PySem L2 Com Pr
/-- a new pair of new rows is handed back, all else stays -/
def NewP (H : Hp) (Q : VK) (p q : List Nat) : Prop := ∀ H' l d e, L2.Same H H' → H l = none → H' l = some (.tup [.ref d, .ref e]) → H' d = some (.tup (iR p)) → H' e = some (.tup (iR q)) → Q (.ref l) H'
def spSettled (K : PySem.W.Frag) : Sp := fun vs H Q _ => ∃ (n : Nat) (a b : Addr) (p q : List Nat), vs = [.ref a, .ref b] ∧ SqT K H a (iR p) ∧ SqT K H b (iR q) ∧ Md08.isRow n p = true ∧ Md08.isRow n q = true ∧ n ≤ 16 ∧ NewP H Q (Br.F n p q).1 (Br.F n p q).2
section
variable {P : Program} {w : World} {K : PySem.W.Frag} {mg : Str → Option Value} {base : Heap}
theorem ok_settled {f : Addr} {fd : FuncData} (T : Txt K mg) (h : Has K mg "settled" s_settled ["first", "second"] f fd) : FnOk P w K mg base CX0 2 f fd ["first", "second"] (spSettled K) := by
  obtain ⟨g1, d1, h1⟩ := T.f_strand_places
  obtain ⟨g2, d2, h2⟩ := T.f_sink
  have GW : FnOk P w K mg base CX0 1 g1 d1 ["row"] (spWhere K) := ok_where T h1
  have GS : FnOk P w K mg base CX0 1 g2 d2 ["row", "where", "place"] spSink := ok_sink T h2
  refine h.fn.ok sc_settled (fun vs H Q E h => ?_) (fun cdv A outer s H vs Q E hr h => ?_)
  · obtain ⟨n, a, b, p, q, rfl, _⟩ := h
    rfl
  · obtain ⟨n, a, b, p, q, rfl, hA, hB, hp, hq, hn, k⟩ := h
    have hlp := Br.row_len hp
    refine ⟨_, pss_cons (ps_set (i := 2) sc_settled.nd rfl (Or.inl rfl) (pe_callTy call_list_of (by rfl) T.b_list PyProof.Rows.boot_list (pa_cons (pv 0) pa_nil)))
      (pss_cons (ps_set (i := 3) sc_settled.nd rfl (Or.inl rfl) (pe_call GW hr (by rfl) h1.mg h1.fn.kp h1.bd .nil pass0 (pa_cons (pv 1) pa_nil)))
      (pss_cons (ps_for PassesOwn.never rfl (pi_range2 (by rfl) T.b_range (pa_cons pe_int (pa_cons (pe_callB call_len_seq (by rfl) T.b_len PySem.boot_len (pa_cons (pv 2) pa_nil)) pa_nil))) (pg_name (i := 4) sc_settled.nd rfl (Or.inl rfl))
        (pss_one (ps_expr (pe_call GS hr (by rfl) h2.mg h2.fn.kp h2.bd .nil pass0 (pa_cons (pv 2) (pa_cons (pv 3) (pa_cons (pv 4) pa_nil)))))))
      (pss_one (ps_ret (pe_tup (pa_cons (pe_callTy call_tuple_of (by rfl) T.b_tuple PyProof.Rows.boot_tuple (pa_cons (pv 2) pa_nil))
        (pa_cons (pe_callTy call_tuple_of (by rfl) T.b_tuple PyProof.Rows.boot_tuple (pa_cons (pe_call GW hr (by rfl) h1.mg h1.fn.kp h1.bd .nil pass0 (pa_cons (pv 3) pa_nil)) pa_nil)) pa_nil))))))), ?_⟩
    refine ⟨_, rfl, a, _, rfl, .inr hA, fun r hr0 => ?_⟩
    have s1 : L2.Same H (upd H r (.lst (iR p))) := same_new hr0
    refine ⟨_, rfl, n, b, q, rfl, .inr (same_sqT s1 hB), hq, hn, fun H1 u s2 hu0 eU => ?_⟩
    have hR1 : H1 r = some (.lst (iR p)) := s2 _ _ upd_same
    have hru : r ≠ u := fun e => by rw [e] at hR1; rw [← e, upd_same] at hu0; cases hu0
    have huH : H u = Option.none := s1.free hu0
    refine ⟨_, rfl, r, _, rfl, .inl (SqL.of hR1), 1, (n : Int), ?_, ⟨by omega, by omega, by omega, by omega⟩, ?_⟩
    · rw [iR_len, hlp]
    have en : ((n : Int) - 1).toNat = n - 1 := by omega
    rw [en]
    refine for_range (n := n - 1) (fun j σ H2 => ∃ (v : Option V) (p' q' : List Nat), σ = [some (.ref a), some (.ref b), some (.ref r), some (.ref u), v] ∧ L2.Same H H2 ∧ H2 r = some (.lst (iR p')) ∧ H2 u = some (.lst (iR (Br.wh n q'))) ∧ Br.Pre n p q (j + 1) p' q')
      ⟨none, p, q, rfl, s1.trans s2, hR1, eU, Br.Pre.start hp hq⟩ ?_ ?_
    · rintro j σ H2 hj ⟨v, p', q', rfl, s3, hR, hU, hP⟩
      have ej : (1 : Int) + (j : Int) = ((j + 1 : Nat) : Int) := by omega
      rw [ej]
      refine ⟨_, rfl, _, rfl, _, rfl, n, j + 1, r, u, p, q, p', q', rfl, hru, hR, hU, by omega, by omega, hP, fun H3 p2 q2 hb hR3 hU3 hP3 => ?_⟩
      refine ⟨_, p2, q2, rfl, fun c o e => hb c o (s3 c o e) (ne_of_none e hr0) (ne_of_none e huH), hR3, hU3, hP3⟩
    · rintro σ H2 ⟨v, p', q', rfl, s3, hR, hU, hP⟩
      have eF : Br.F n p q = (p', q') := hP.end hp hq (by omega)
      rw [eF] at k
      refine ⟨_, rfl, r, _, rfl, .inl ⟨SqL.of hR, fun d hd => ?_⟩⟩
      have hud : u ≠ d := ne_of_none hU hd
      have s4 : L2.Same H2 (upd H2 d (.tup (iR p'))) := same_new hd
      refine ⟨_, rfl, n, u, Br.wh n q', rfl, .inl (SqL.of (s4 _ _ hU)), Br.row_wh hP.rq, hn, fun H3 x s5 hx0 eX => ?_⟩
      rw [Br.wh_wh hP.rq] at eX
      refine ⟨x, _, rfl, .inl ⟨SqL.of eX, fun e he => ?_⟩⟩
      refine ⟨by show 2 ≤ sizeLine; decide, fun l hl => ?_⟩
      have hd3 : H3 d = some (.tup (iR p')) := s5 _ _ upd_same
      have s6 := same_new (o := .tup (iR q')) he
      have s7 := same_new (o := .tup [V.ref d, V.ref e]) hl
      have sAll := s3.trans (s4.trans (s5.trans s6))
      exact k _ l d e (sAll.trans s7) (sAll.free hl) upd_same (s7 _ _ (s6 _ _ hd3)) (s7 _ _ upd_same)
end
end Pl
namespace Pl
open PySem L2 Com Pr
theorem ints_inj {p q : List Nat} (h : Md08.ints p = Md08.ints q) : p = q := by
  unfold Md08.ints at h
  exact (List.map_inj_right (fun x y h => by omega)).mp h
/-! ### a braid's object -/
structure Ad where
  p : Addr
  dx : Addr
  no : Addr
  tu : Addr
  ro : Addr
  kn : Addr
def flds (A : Ad) (t : Int) : List (Str × V) := [("none", .ref A.no), ("turn", .ref A.tu), ("rows", .ref A.ro), ("turns", .int t), ("known", .ref A.kn)]
theorem lookup_at : ∀ {fs : List (Str × V)} {i : Nat} {k : Str} {v : V}, (fs.map (·.1)).Nodup → fs[i]? = some (k, v) → fs.lookup k = some v
  | [], i, k, v, _, h => by simp at h
  | (g, x) :: fs, 0, k, v, _, h => by
    simp only [List.getElem?_cons_zero, Option.some.injEq, Prod.mk.injEq] at h
    obtain ⟨rfl, rfl⟩ := h
    simp [List.lookup]
  | (g, x) :: fs, i + 1, k, v, nd, h => by
    rw [List.map_cons, List.nodup_cons] at nd
    simp only [List.getElem?_cons_succ] at h
    have hm : k ∈ fs.map (·.1) := List.mem_map.mpr ⟨(k, v), List.mem_of_getElem? h, rfl⟩
    have hne : (k == g) = false := beq_eq_false_iff_ne.mpr fun e => nd.1 (e ▸ hm)
    rw [List.lookup, hne]
    exact lookup_at nd.2 h
theorem lookup_no : ∀ {fs : List (Str × V)} {k : Str}, k ∉ fs.map (·.1) → fs.lookup k = none
  | [], k, _ => rfl
  | (g, x) :: fs, k, h => by
    rw [List.map_cons, List.mem_cons, not_or] at h
    have hne : (k == g) = false := beq_eq_false_iff_ne.mpr h.1
    rw [List.lookup, hne]
    exact lookup_no h.2
theorem keys_nd : (["none", "turn", "rows", "turns", "known"] : List Str).Nodup := by decide +kernel
theorem f_none (A : Ad) (t : Int) : (flds A t).lookup ("none" : Str) = some (.ref A.no) := lookup_at (i := 0) keys_nd rfl
theorem f_turn (A : Ad) (t : Int) : (flds A t).lookup ("turn" : Str) = some (.ref A.tu) := lookup_at (i := 1) keys_nd rfl
theorem f_rows (A : Ad) (t : Int) : (flds A t).lookup ("rows" : Str) = some (.ref A.ro) := lookup_at (i := 2) keys_nd rfl
theorem f_turns (A : Ad) (t : Int) : (flds A t).lookup ("turns" : Str) = some (.int t) := lookup_at (i := 3) keys_nd rfl
theorem f_known (A : Ad) (t : Int) : (flds A t).lookup ("known" : Str) = some (.ref A.kn) := lookup_at (i := 4) keys_nd rfl
theorem f_no {m : Str} (A : Ad) (t : Int) (h : m ∉ (["none", "turn", "rows", "turns", "known"] : List Str)) : (flds A t).lookup m = none := lookup_no h
theorem putF_hit {f : Str} {v x : V} {r : List (Str × V)} : putF f v ((f, x) :: r) = (f, v) :: r := by
  show (if f = f then (f, v) :: r else (f, x) :: putF f v r) = _
  rw [if_pos rfl]
theorem putF_skip {f g : Str} {v x : V} {r : List (Str × V)} (h : ¬ g = f) : putF f v ((g, x) :: r) = (g, x) :: putF f v r := by
  show (if g = f then (g, v) :: r else (g, x) :: putF f v r) = _
  rw [if_neg h]
theorem putF_short {f : Str} {v : V} {fs : List (Str × V)} {k : Nat} (h : fs.length ≤ k) : (putF f v fs).length ≤ k + 1 := Nat.le_trans (length_putF f v fs) (by omega)
theorem put_rows (A : Ad) (t : Int) (r : Addr) : putF "rows" (.ref r) (flds A t) = flds { A with ro := r } t := by
  unfold flds
  rw [putF_skip (by decide +kernel), putF_skip (by decide +kernel), putF_hit]
theorem put_turns (A : Ad) (t u : Int) : putF "turns" (.int u) (flds A t) = flds A u := by
  unfold flds
  rw [putF_skip (by decide +kernel), putF_skip (by decide +kernel), putF_skip (by decide +kernel), putF_hit]
/-! ### what stands there -/
abbrev RowAt (H : Hp) (a : Addr) (p : List Nat) : Prop := H a = some (.tup (iR p))
abbrev PairAt (H : Hp) (l : Addr) (p q : List Nat) : Prop := ∃ d e, H l = some (.tup [.ref d, .ref e]) ∧ RowAt H d p ∧ RowAt H e q
/-- what is kept of settled neighbours -/
def Known (n : Nat) (H : Hp) (xs : List PE3) : Prop := ∀ x ∈ xs, ∃ p q : List Nat, Md08.isRow n p = true ∧ Md08.isRow n q = true ∧ x.1 = [Md08.ints p, Md08.ints q] ∧ PairAt H x.2.1 p q ∧ PairAt H x.2.2 (Br.F n p q).1 (Br.F n p q).2
structure BAt (P : Program) (w : World) (C : Addr) (n : Nat) (H : Hp) (A : Ad) (t : Int) (rows : List (List Nat)) (as : List Addr) (xs : List PE3) : Prop where
  ob : H A.p = some (.ins C A.dx (flds A t))
  no : RowAt H A.no (Md08.none_ n)
  tu : RowAt H A.tu (Md08.turn n)
  ro : H A.ro = some (.lst (as.map V.ref))
  rs : Paired (RowAt H) as rows
  kn : H A.kn = some (DicO P w A.kn xs)
  kx : Known n H xs
  kl : xs.length ≤ 4096
  isr : Br.Rows n rows
/-- all tuples stay -/
def Tups (H H' : Hp) : Prop := ∀ b xs, H b = some (.tup xs) → H' b = some (.tup xs)
theorem Tups.refl (H : Hp) : Tups H H := fun _ _ e => e
theorem Tups.trans {H H1 H2 : Hp} (a : Tups H H1) (b : Tups H1 H2) : Tups H H2 := fun c o h => b c o (a c o h)
theorem tups_same {H H' : Hp} (s : L2.Same H H') : Tups H H' := fun b xs e => s b _ e
theorem tups_upd {H : Hp} {a : Addr} {o u : HO} (h : H a = some u) (hu : ∀ xs, u ≠ .tup xs) : Tups H (upd H a o) := fun b xs e => by
  rw [upd_ne (fun z => by subst z; rw [h] at e; exact hu xs (Option.some.inj e))]
  exact e
theorem Tups.rows {H H' : Hp} (s : Tups H H') : ∀ {as : List Addr} {rows : List (List Nat)}, Paired (RowAt H) as rows → Paired (RowAt H') as rows
  | _, _, .nil => .nil
  | _, _, .cons h r => .cons (s _ _ h) (Tups.rows s r)
theorem Tups.pair {H H' : Hp} (s : Tups H H') {l : Addr} {p q : List Nat} (h : PairAt H l p q) : PairAt H' l p q := by
  obtain ⟨d, e, h1, h2, h3⟩ := h
  exact ⟨d, e, s _ _ h1, s _ _ h2, s _ _ h3⟩
theorem Tups.known {H H' : Hp} (s : Tups H H') {n : Nat} {xs : List PE3} (h : Known n H xs) : Known n H' xs := fun x hx => by
  obtain ⟨p, q, h1, h2, h3, h4, h5⟩ := h x hx
  exact ⟨p, q, h1, h2, h3, s.pair h4, s.pair h5⟩
theorem PairAt.tt {H : Hp} {l : Addr} {p q : List Nat} (h : PairAt H l p q) : TupTup H l [Md08.ints p, Md08.ints q] := by
  obtain ⟨d, e, h1, h2, h3⟩ := h
  exact ⟨[d, e], h1, .cons h2 (.cons h3 .nil)⟩
theorem Known.keys {n : Nat} {H : Hp} {xs : List PE3} (h : Known n H xs) : KeysAt H xs := fun x hx => by
  obtain ⟨p, q, h1, h2, h3, h4, h5⟩ := h x hx
  rw [h3]
  exact h4.tt
section
variable {P : Program} {w : World} {C : Addr} {n : Nat} {H H' : Hp} {A : Ad} {t : Int} {rows : List (List Nat)} {as : List Addr} {xs : List PE3}
theorem BAt.same (B : BAt P w C n H A t rows as xs) (s : L2.Same H H') : BAt P w C n H' A t rows as xs :=
  ⟨s _ _ B.ob, s _ _ B.no, s _ _ B.tu, s _ _ B.ro, (tups_same s).rows B.rs, s _ _ B.kn, (tups_same s).known B.kx, B.kl, B.isr⟩
theorem BAt.p_ro (B : BAt P w C n H A t rows as xs) : A.p ≠ A.ro := ne_of B.ob B.ro (by intro z; cases z)
theorem BAt.p_kn (B : BAt P w C n H A t rows as xs) : A.p ≠ A.kn := ne_of B.ob B.kn (by intro z; cases z)
theorem BAt.ro_kn (B : BAt P w C n H A t rows as xs) : A.ro ≠ A.kn := ne_of B.ro B.kn (by intro z; cases z)
/-- what is known is replaced -/
theorem BAt.learn (B : BAt P w C n H A t rows as xs) {xs' : List PE3} (k : Known n H xs') (hl : xs'.length ≤ 4096) : BAt P w C n (upd H A.kn (DicO P w A.kn xs')) A t rows as xs' := by
  have s : Tups H (upd H A.kn (DicO P w A.kn xs')) := tups_upd B.kn (by intro xs z; cases z)
  exact ⟨by rw [upd_ne B.p_kn]; exact B.ob, s _ _ B.no, s _ _ B.tu, by rw [upd_ne B.ro_kn]; exact B.ro, s.rows B.rs, upd_same, s.known k, hl, B.isr⟩
/-- the rows are replaced -/
theorem BAt.relist (B : BAt P w C n H A t rows as xs) {rows' : List (List Nat)} {as' : List Addr} (h : Paired (RowAt H) as' rows') (hr : Br.Rows n rows') : BAt P w C n (upd H A.ro (.lst (as'.map V.ref))) A t rows' as' xs := by
  have s : Tups H (upd H A.ro (.lst (as'.map V.ref))) := tups_upd B.ro (by intro xs z; cases z)
  exact ⟨by rw [upd_ne B.p_ro]; exact B.ob, s _ _ B.no, s _ _ B.tu, upd_same, s.rows h, by rw [upd_ne (fun e => B.ro_kn e.symm)]; exact B.kn, s.known B.kx, B.kl, hr⟩
/-- the turns are replaced -/
theorem BAt.turns (B : BAt P w C n H A t rows as xs) (u : Int) : BAt P w C n (upd H A.p (.ins C A.dx (flds A u))) A u rows as xs := by
  have s : Tups H (upd H A.p (.ins C A.dx (flds A u))) := tups_upd B.ob (by intro xs z; cases z)
  exact ⟨upd_same, s _ _ B.no, s _ _ B.tu, by rw [upd_ne (fun e => B.p_ro e.symm)]; exact B.ro, s.rows B.rs, by rw [upd_ne (fun e => B.p_kn e.symm)]; exact B.kn, s.known B.kx, B.kl, B.isr⟩
/-- another list of rows -/
theorem BAt.swap (B : BAt P w C n H A t rows as xs) {r : Addr} {rows' : List (List Nat)} {as' : List Addr} (hr : H r = some (.lst (as'.map V.ref))) (h : Paired (RowAt H) as' rows') (hw : Br.Rows n rows') :
    BAt P w C n (upd H A.p (.ins C A.dx (flds { A with ro := r } t))) { A with ro := r } t rows' as' xs := by
  have s : Tups H (upd H A.p (.ins C A.dx (flds { A with ro := r } t))) := tups_upd B.ob (by intro xs z; cases z)
  have hpr : r ≠ A.p := ne_of hr B.ob (by intro z; cases z)
  exact ⟨upd_same, s _ _ B.no, s _ _ B.tu, by rw [upd_ne hpr]; exact hr, s.rows h, by rw [upd_ne (fun e => B.p_kn e.symm)]; exact B.kn, s.known B.kx, B.kl, hw⟩
end
/-- all but a braid's object, its list and what it knows stays -/
def Fr (H H' : Hp) (A : Ad) : Prop := ∀ b o, H b = some o → b ≠ A.p → b ≠ A.ro → b ≠ A.kn → H' b = some o
theorem Fr.refl (H : Hp) (A : Ad) : Fr H H A := fun _ _ e _ _ _ => e
theorem Fr.same {H H1 H2 : Hp} {A : Ad} (f : Fr H H1 A) (s : L2.Same H1 H2) : Fr H H2 A := fun b o e h1 h2 h3 => s b o (f b o e h1 h2 h3)
theorem fr_same {H H1 : Hp} {A : Ad} (s : L2.Same H H1) : Fr H H1 A := fun b o e _ _ _ => s b o e
theorem Fr.trans {H H1 H2 : Hp} {A : Ad} (f : Fr H H1 A) (g : Fr H1 H2 A) : Fr H H2 A := fun b o e h1 h2 h3 => g b o (f b o e h1 h2 h3) h1 h2 h3
theorem Fr.upd {H H1 : Hp} {A : Ad} (f : Fr H H1 A) {a : Addr} {o : HO} (ha : a = A.p ∨ a = A.ro ∨ a = A.kn ∨ H a = none) : Fr H (L2.upd H1 a o) A := fun b u e h1 h2 h3 => by
  have hne : b ≠ a := by
    rcases ha with z | z | z | z
    · rw [z]; exact h1
    · rw [z]; exact h2
    · rw [z]; exact h3
    · exact ne_of_none e z
  rw [upd_ne hne]
  exact f b u e h1 h2 h3
/-- the list of rows may be another, new one -/
theorem Fr.next {H H1 H2 : Hp} {A : Ad} {r : Addr} (f : Fr H H1 A) (g : Fr H1 H2 { A with ro := r }) (hr : r = A.ro ∨ H r = none) : Fr H H2 A := fun b o e h1 h2 h3 => g b o (f b o e h1 h2 h3) h1 (by
  rcases hr with z | z
  · rw [show ({ A with ro := r } : Ad).ro = r from rfl, z]; exact h2
  · exact ne_of_none e z) h3
/-! ### rows by their places -/
theorem paired_at {α β : Type} {G : α → β → Prop} : ∀ {l1 : List α} {l2 : List β}, Paired G l1 l2 → ∀ {i : Nat} {b : β}, l2[i]? = some b → ∃ a, l1[i]? = some a ∧ G a b
  | _, _, .nil, i, b, h => by simp at h
  | _, _, .cons g r, 0, b, h => by
    simp only [List.getElem?_cons_zero, Option.some.injEq] at h
    subst h
    exact ⟨_, rfl, g⟩
  | _, _, .cons g r, i + 1, b, h => by
    obtain ⟨a, h1, h2⟩ := paired_at r (i := i) (b := b) (by simpa using h)
    exact ⟨a, by simpa using h1, h2⟩
theorem paired_len {α β : Type} {G : α → β → Prop} : ∀ {l1 : List α} {l2 : List β}, Paired G l1 l2 → l1.length = l2.length
  | _, _, .nil => rfl
  | _, _, .cons _ r => by rw [List.length_cons, List.length_cons, paired_len r]
theorem paired_set {α β : Type} {G : α → β → Prop} {a : α} {b : β} (g : G a b) : ∀ {l1 : List α} {l2 : List β} (i : Nat), Paired G l1 l2 → Paired G (l1.set i a) (l2.set i b)
  | _, _, _, .nil => .nil
  | _, _, 0, .cons _ r => .cons g r
  | _, _, i + 1, .cons h r => .cons h (paired_set g i r)
theorem paired_app {α β : Type} {G : α → β → Prop} : ∀ {l1 : List α} {l2 : List β} {m1 : List α} {m2 : List β}, Paired G l1 l2 → Paired G m1 m2 → Paired G (l1 ++ m1) (l2 ++ m2)
  | _, _, _, _, .nil, s => s
  | _, _, _, _, .cons h r, s => .cons h (paired_app r s)
theorem paired_take {α β : Type} {G : α → β → Prop} : ∀ {l1 : List α} {l2 : List β} (i : Nat), Paired G l1 l2 → Paired G (l1.take i) (l2.take i)
  | _, _, 0, _ => by rw [List.take_zero, List.take_zero]; exact .nil
  | _, _, i + 1, .nil => .nil
  | _, _, i + 1, .cons h r => .cons h (paired_take i r)
theorem paired_drop {α β : Type} {G : α → β → Prop} : ∀ {l1 : List α} {l2 : List β} (i : Nat), Paired G l1 l2 → Paired G (l1.drop i) (l2.drop i)
  | _, _, 0, h => h
  | _, _, i + 1, .nil => .nil
  | _, _, i + 1, .cons h r => paired_drop i r
theorem paired_last {α β : Type} {G : α → β → Prop} : ∀ {l1 : List α} {l2 : List β}, Paired G l1 l2 → Paired G l1.dropLast l2.dropLast := fun {l1 l2} h => by
  rw [List.dropLast_eq_take, List.dropLast_eq_take, paired_len h]
  exact paired_take _ h
theorem refs_set (as : List Addr) (i : Nat) (a : Addr) : (as.map V.ref).set i (V.ref a) = (as.set i a).map V.ref := by rw [List.map_set]
theorem refs_at {as : List Addr} {i : Nat} {a : Addr} (h : as[i]? = some a) : (as.map V.ref)[i]? = some (V.ref a) := by rw [List.getElem?_map, h]; rfl
/-- the tests by rows -/
theorem eq_row (p q : List Nat) : PyData.eqv (.tuple (iD (Md08.ints p))) (.tuple (iD (Md08.ints q))) = decide (p = q) := by
  rw [eqv_tup, Bool.eq_iff_iff, decide_eq_true_eq, decide_eq_true_eq]
  exact ⟨ints_inj, fun e => by rw [e]⟩
theorem eq_pair (p q p' q' : List Nat) : PyData.eqv (.tuple (rD [Md08.ints p, Md08.ints q])) (.tuple (rD [Md08.ints p', Md08.ints q'])) = decide ((p, q) = (p', q')) := by
  rw [PyData.eqv, eqvAll_rows, Bool.eq_iff_iff, decide_eq_true_eq, decide_eq_true_eq]
  constructor
  · intro e
    injection e with e1 e2
    injection e2 with e2 _
    rw [ints_inj e1, ints_inj e2]
  · intro e
    injection e with e1 e2
    rw [e1, e2]
theorem dp_row {K : PySem.W.Frag} {H : Hp} {a : Addr} {p : List Nat} (h : RowAt H a p) : Dp K H (.ref a) (.tuple (iD (Md08.ints p))) := dp_tup (SqT.of h)
theorem dp_pair {K : PySem.W.Frag} {H : Hp} {a : Addr} {p q : List Nat} (h : PairAt H a p q) : Dp K H (.ref a) (.tuple (rD [Md08.ints p, Md08.ints q])) := by
  obtain ⟨d, e, h1, h2, h3⟩ := h
  exact .tup (SqT.of h1) (.cons (dp_row h2) (.cons (dp_row h3) .nil))
end Pl
namespace Pl
open PySem L2 Com Pr
def spInit (P : Program) (w : World) (C : Addr) : Sp := fun vs H Q _ => ∃ (n : Nat) (p dx : Addr), vs = [.ref p, .int (n : Nat)] ∧ n ≤ 16 ∧ H p = some (.ins C dx []) ∧
  ∀ H' (A : Ad) as xs, A.p = p → BAt P w C n H' A 0 [] as xs → (∀ b o, H b = some o → b ≠ p → H' b = some o) → H A.ro = none → H A.kn = none → Q .non H'
section
variable {P : Program} {w : World} {K : PySem.W.Frag} {mg : Str → Option Value} {base : Heap}
theorem ok_init {C : Addr} {f : Addr} {fd : FuncData} (T : Txt K mg) (TB : Txt_Braid K mg C) (h : MHas K C "__init__" "Braid.__init__" s_Braid___init__ ["self", "n"] f fd) : FnOk P w K mg base CX0 2 f fd ["self", "n"] (spInit P w C) := by
  obtain ⟨g1, d1, h1⟩ := T.f_none_of
  obtain ⟨g2, d2, h2⟩ := T.f_turn_of
  have GN : FnOk P w K mg base CX0 1 g1 d1 ["n"] spNone := ok_none T h1
  have GT : FnOk P w K mg base CX0 1 g2 d2 ["n"] spTurn := ok_turn T h2
  have cl := TB.cls.cl
  refine h.fn.ok sc_Braid___init__ (fun vs H Q E h => ?_) (fun cdv A outer s H vs Q E hr h => ?_)
  · obtain ⟨n, p, dx, rfl, _⟩ := h
    rfl
  · obtain ⟨n, p, dx, rfl, hn, hp, k⟩ := h
    refine ⟨_, pss_cons (ps_fld (pv 0) (pe_callTy call_tuple_of (by rfl) T.b_tuple PyProof.Rows.boot_tuple (pa_cons (pe_call GN hr (by rfl) h1.mg h1.fn.kp h1.bd .nil pass0 (pa_cons (pv 1) pa_nil)) pa_nil)) rfl)
      (pss_cons (ps_fld (pv 0) (pe_callTy call_tuple_of (by rfl) T.b_tuple PyProof.Rows.boot_tuple (pa_cons (pe_call GT hr (by rfl) h2.mg h2.fn.kp h2.bd .nil pass0 (pa_cons (pv 1) pa_nil)) pa_nil)) rfl)
      (pss_cons (ps_fld (pv 0) (pe_lst pa_nil) rfl)
      (pss_cons (ps_fld (pv 0) pe_int rfl)
      (pss_one (ps_fld (pv 0) pe_dnewP rfl))))), ?_⟩
    -- self.none
    refine ⟨_, rfl, (n : Int), rfl, by omega, by omega, fun H1 l1 s1 _ e1 => ?_⟩
    rw [noneI_eq, Int.toNat_natCast] at e1
    refine ⟨l1, _, rfl, .inl ⟨SqL.of e1, fun no hno => ?_⟩⟩
    have t1 : L2.Same H (upd H1 no (.tup (iR (Md08.none_ n)))) := s1.trans (same_new hno)
    refine ⟨_, rfl, p, C, dx, _, rfl, t1 _ _ hp, cl, TB.n_none, by show 0 < 1000; decide, ?_⟩
    have hpno : no ≠ p := fun e => by rw [← e] at hp; have z := t1 _ _ hp; rw [upd_same] at z; cases z
    -- self.turn
    refine ⟨_, rfl, (n : Int), rfl, by omega, by omega, fun H2 l2 s2 _ e2 => ?_⟩
    rw [turnI_eq, Int.toNat_natCast] at e2
    refine ⟨l2, _, rfl, .inl ⟨SqL.of e2, fun tu htu => ?_⟩⟩
    have t2 := s2.trans (same_new (o := .tup (iR (Md08.turn n))) htu)
    refine ⟨_, rfl, p, C, dx, _, rfl, t2 _ _ upd_same, cl, TB.n_turn, by show 1 < 1000; decide, ?_⟩
    have hno2 : (upd H2 tu (.tup (iR (Md08.turn n)))) no = some (.tup (iR (Md08.none_ n))) := t2 _ _ (by rw [upd_ne hpno]; exact upd_same)
    have hptu : tu ≠ p := fun e => by have z := t2 _ _ upd_same; rw [← e, upd_same] at z; cases z
    -- self.rows
    refine ⟨by show 0 ≤ sizeLine; exact Nat.zero_le _, fun ro hro => ?_⟩
    have t3 := same_new (o := .lst []) hro
    refine ⟨_, rfl, p, C, dx, _, rfl, t3 _ _ upd_same, cl, TB.n_rows, ?_, ?_⟩
    · exact Nat.lt_of_le_of_lt (putF_short (putF_short (k := 0) (Nat.le_refl _))) (by decide)
    have hpro : ro ≠ p := fun e => by have z := t3 _ _ upd_same; rw [← e, upd_same] at z; cases z
    -- self.turns
    refine ⟨_, rfl, p, C, dx, _, rfl, upd_same, cl, TB.n_turns, ?_, ?_⟩
    · exact Nat.lt_of_le_of_lt (putF_short (putF_short (putF_short (k := 0) (Nat.le_refl _)))) (by decide)
    -- self.known
    intro kn hkn
    have t5 := same_new (o := DicO P w kn []) hkn
    refine ⟨_, rfl, p, C, dx, _, rfl, t5 _ _ upd_same, cl, TB.n_known, ?_, ?_⟩
    · exact Nat.lt_of_le_of_lt (putF_short (putF_short (putF_short (putF_short (k := 0) (Nat.le_refl _))))) (by decide)
    have hpkn : kn ≠ p := fun e => by have z := t5 _ _ upd_same; rw [← e, upd_same] at z; cases z
    have ef : putF "known" (.ref kn) (putF "turns" (.int 0) (putF "rows" (.ref ro) (putF "turn" (.ref tu) (putF "none" (.ref no) [])))) = flds ⟨p, dx, no, tu, ro, kn⟩ 0 := by
      have a1 : putF "none" (.ref no) [] = ([("none", .ref no)] : List (Str × V)) := rfl
      have a2 : putF "turn" (.ref tu) ([("none", .ref no)] : List (Str × V)) = ([("none", .ref no), ("turn", .ref tu)] : List (Str × V)) := by rw [putF_skip (by decide +kernel)]; rfl
      have a3 : putF "rows" (.ref ro) ([("none", .ref no), ("turn", .ref tu)] : List (Str × V)) = ([("none", .ref no), ("turn", .ref tu), ("rows", .ref ro)] : List (Str × V)) := by rw [putF_skip (by decide +kernel), putF_skip (by decide +kernel)]; rfl
      have a4 : putF "turns" (.int 0) ([("none", .ref no), ("turn", .ref tu), ("rows", .ref ro)] : List (Str × V)) = ([("none", .ref no), ("turn", .ref tu), ("rows", .ref ro), ("turns", .int 0)] : List (Str × V)) := by rw [putF_skip (by decide +kernel), putF_skip (by decide +kernel), putF_skip (by decide +kernel)]; rfl
      have a5 : putF "known" (.ref kn) ([("none", .ref no), ("turn", .ref tu), ("rows", .ref ro), ("turns", .int 0)] : List (Str × V)) = ([("none", .ref no), ("turn", .ref tu), ("rows", .ref ro), ("turns", .int 0), ("known", .ref kn)] : List (Str × V)) := by rw [putF_skip (by decide +kernel), putF_skip (by decide +kernel), putF_skip (by decide +kernel), putF_skip (by decide +kernel)]; rfl
      rw [a1, a2, a3, a4, a5]
      rfl
    rw [ef]
    -- the heap behind it all
    have up4 : ∀ b o, (upd H2 tu (.tup (iR (Md08.turn n)))) b = some o → b ≠ p → (upd (upd (upd (upd (upd (upd H2 tu (.tup (iR (Md08.turn n)))) p (.ins C dx (putF "turn" (.ref tu) (putF "none" (.ref no) [])))) ro (.lst [])) p (.ins C dx (putF "rows" (.ref ro) (putF "turn" (.ref tu) (putF "none" (.ref no) []))))) p (.ins C dx (putF "turns" (.int 0) (putF "rows" (.ref ro) (putF "turn" (.ref tu) (putF "none" (.ref no) [])))))) kn (DicO P w kn [])) b = some o := fun b o e hb => by
      have z : (upd (upd H2 tu (.tup (iR (Md08.turn n)))) p (.ins C dx (putF "turn" (.ref tu) (putF "none" (.ref no) [])))) b = some o := by rw [upd_ne hb]; exact e
      refine t5 _ _ ?_
      rw [upd_ne hb, upd_ne hb]
      exact t3 _ _ z
    refine k _ ⟨p, dx, no, tu, ro, kn⟩ [] [] rfl ⟨upd_same, ?_, ?_, ?_, .nil, ?_, fun x hx => absurd hx (by simp), Nat.zero_le _, Br.Rows.nil⟩ (fun b o e hb => ?_) ?_ ?_
    · exact (upd_ne hpno).trans (up4 _ _ hno2 hpno)
    · exact (upd_ne hptu).trans (up4 _ _ upd_same hptu)
    · refine (upd_ne hpro).trans (t5 _ _ ?_)
      exact (upd_ne hpro).trans ((upd_ne hpro).trans upd_same)
    · exact (upd_ne hpkn).trans upd_same
    · rw [upd_ne hb]
      refine up4 _ _ ?_ hb
      refine t2 _ _ ?_
      rw [upd_ne hb]
      exact t1 _ _ e
    · have z : (upd H2 tu (.tup (iR (Md08.turn n)))) ro = Option.none := by
        have := hro
        rw [upd_ne hpro] at this
        exact this
      have z2 := t2.free z
      rw [upd_ne hpro] at z2
      exact t1.free z2
    · have z := hkn
      rw [upd_ne hpkn, upd_ne hpkn] at z
      have hkr : kn ≠ ro := fun e => by rw [e, upd_same] at z; cases z
      rw [upd_ne hkr, upd_ne hpkn] at z
      have z2 := t2.free z
      rw [upd_ne hpkn] at z2
      exact t1.free z2
end
end Pl
namespace Pl
open PySem L2 Com Pr
def spNb (P : Program) (w : World) (C : Addr) : Sp := fun vs H Q _ => ∃ (n : Nat) (A : Ad) (t : Int) (rows : List (List Nat)) (as : List Addr) (xs : List PE3) (nb : Addr) (p q : List Nat),
  vs = [.ref A.p, .ref nb] ∧ BAt P w C n H A t rows as xs ∧ PairAt H nb p q ∧ Md08.isRow n p = true ∧ Md08.isRow n q = true ∧ n ≤ 16 ∧
  ∀ H' xs' va, BAt P w C n H' A t rows as xs' → (∀ b o, H b = some o → b ≠ A.kn → H' b = some o) → PairAt H' va (Br.F n p q).1 (Br.F n p q).2 → Q (.ref va) H'
theorem look_some {xs : List PE3} {kss : List (List Int)} {va : Addr} (h : lookP xs kss = some va) : ∃ x ∈ xs, x.1 = kss ∧ x.2.2 = va := by
  unfold lookP at h
  obtain ⟨x, h1, h2⟩ := Option.map_eq_some_iff.mp h
  have z := List.find?_some h1
  exact ⟨x, List.mem_of_find?_eq_some h1, of_decide_eq_true z, h2⟩
theorem look_last {xs : List PE3} {kss : List (List Int)} {b va : Addr} (h : lookP xs kss = none) : lookP (xs ++ [(kss, b, va)]) kss = some va := by
  unfold lookP at h ⊢
  rw [List.find?_append, Option.map_eq_none_iff.mp h]
  simp
section
variable {P : Program} {w : World} {K : PySem.W.Frag} {mg : Str → Option Value} {base : Heap}
theorem ok_nb {C : Addr} {f : Addr} {fd : FuncData} (T : Txt K mg) (TB : Txt_Braid K mg C) (h : MHas K C "settled_neighbours" "Braid.settled_neighbours" s_Braid_settled_neighbours ["self", "neighbours"] f fd) : FnOk P w K mg base CX0 3 f fd ["self", "neighbours"] (spNb P w C) := by
  obtain ⟨g1, d1, h1⟩ := T.f_settled
  have GS : FnOk P w K mg base CX0 2 g1 d1 ["first", "second"] (spSettled K) := ok_settled T h1
  have cl := TB.cls.cl
  obtain ⟨t1, o1⟩ := T.c_MOST_KNOWN
  refine h.fn.ok sc_Braid_settled_neighbours (fun vs H Q E h => ?_) (fun cdv A outer s H vs Q E hr h => ?_)
  · obtain ⟨n, A, t, rows, as, xs, nb, p, q, rfl, _⟩ := h
    rfl
  · obtain ⟨n, A, t, rows, as, xs, nb, p, q, rfl, B, hN, hp, hq, hn, k⟩ := h
    have hu : _ + 3 < cLine := Nat.lt_of_le_of_lt (Nat.add_le_add_left (by decide : 3 ≤ 64) _) hr.units
    refine ⟨_, pss_cons (ps_if (pt_cmp (pc_pnotin hu (pv 1) (pe_fld (pv 0) rfl)))
        (pss_cons (ps_if (pt_cmpR op_eq (pe_callB call_lenP (by rfl) T.b_len PySem.boot_len (pa_cons (pe_fld (pv 0) rfl) pa_nil)) (pe_glob (v := .int 4096) (by rfl) o1 ⟨_, rfl⟩) (nomark _)) (pss_one (ps_expr (pe_pclear (pe_fld (pv 0) rfl)))) pss_nil)
        (pss_one (ps_pput hu (pe_fld (pv 0) rfl) (pv 1) (pe_call GS hr (by rfl) h1.mg h1.fn.kp h1.bd .nil pass0 (pa_cons (pe_ix ix_tup (pv 1) pe_int (fun _ _ => rfl)) (pa_cons (pe_ix ix_tup (pv 1) pe_int (fun _ _ => rfl)) pa_nil))) rfl))) pss_nil)
      (pss_one (ps_ret (pe_pget hu (pe_fld (pv 0) rfl) (pv 1) (fun _ _ => rfl)))), ?_⟩
    refine ⟨_, rfl, _, rfl, A.p, C, A.dx, _, _, rfl, B.ob, cl, TB.n_known, f_known A t, A.kn, xs, nb, _, rfl, rfl, B.kn, B.kx.keys, hN.tt, _, rfl, ?_⟩
    cases el : lookP xs [Md08.ints p, Md08.ints q] with
    | some va =>
      refine iteF ?_
      refine ⟨_, rfl, A.p, C, A.dx, _, _, rfl, B.ob, cl, TB.n_known, f_known A t, _, rfl, A.kn, xs, nb, _, va, rfl, rfl, B.kn, B.kx.keys, hN.tt, el, ?_⟩
      refine k H xs va B (fun b o e _ => e) ?_
      obtain ⟨x, hx, e1, e2⟩ := look_some el
      obtain ⟨p', q', _, _, e3, _, e5⟩ := B.kx x hx
      rw [e1] at e3
      injection e3 with e3 e4
      injection e4 with e4 _
      rw [ints_inj e3, ints_inj e4, ← e2]
      exact e5
    | none =>
      refine iteT ?_
      -- behind the test of the length: what is known, and the pair is not in it
      have go : ∀ (H1 : Hp) (xs1 : List PE3), BAt P w C n H1 A t rows as xs1 → (∀ b o, H b = some o → b ≠ A.kn → H1 b = some o) → lookP xs1 [Md08.ints p, Md08.ints q] = none → xs1.length < 4096 → PairAt H1 nb p q →
          sPPut P w (tFld K (tVar 0) "known") (tVar 1) (tCall (spSettled K) [] E0 (tCons (tOp (rIxT K) (tVar 1) (tC (.int 0))) (tCons (tOp (rIxT K) (tVar 1) (tC (.int 1))) tNil)))
            { nx := tRet (PGetP P w (tFld K (tVar 0) "known") (tVar 1)) { nx := fun _ H' => Q .non H', rt := Q }, rt := Q } [some (.ref A.p), some (.ref nb)] H1 := by
        intro H1 xs1 B1 fr hl1 hz hN1
        obtain ⟨d, e, hd, hpd, hqe⟩ := id hN1
        refine ⟨_, rfl, nb, _, _, _, rfl, rfl, SqT.of hd, rfl, _, rfl, nb, _, _, _, rfl, rfl, SqT.of hd, rfl, n, d, e, p, q, rfl, SqT.of hpd, SqT.of hqe, hp, hq, hn, fun H2 l d2 e2 s2 hl0 hl hd2 he2 => ?_⟩
        have B2 := B1.same s2
        have hN2 : PairAt H2 nb p q := (tups_same s2).pair hN1
        have hv2 : PairAt H2 l (Br.F n p q).1 (Br.F n p q).2 := ⟨d2, e2, hl, hd2, he2⟩
        refine ⟨_, rfl, A.p, C, A.dx, _, _, rfl, B2.ob, cl, TB.n_known, f_known A t, _, rfl, A.kn, xs1, nb, [Md08.ints p, Md08.ints q], l, rfl, rfl, rfl, B2.kn, B2.kx.keys, hN2.tt, hl1, ?_, ?_⟩
        · rw [sizeLine_eq]; omega
        have kx3 : Known n H2 (xs1 ++ [([Md08.ints p, Md08.ints q], nb, l)]) := fun x hx => by
          rcases List.mem_append.mp hx with z | z
          · exact B2.kx x z
          · have z' : x = ([Md08.ints p, Md08.ints q], nb, l) := by simpa using z
            subst z'
            exact ⟨p, q, hp, hq, rfl, hN2, hv2⟩
        have B3 := B2.learn kx3 (by rw [List.length_append]; exact hz)
        have s3 : Tups H2 (upd H2 A.kn (DicO P w A.kn (xs1 ++ [([Md08.ints p, Md08.ints q], nb, l)]))) := tups_upd B2.kn (by intro xs z; cases z)
        refine ⟨_, rfl, A.p, C, A.dx, _, _, rfl, B3.ob, cl, TB.n_known, f_known A t, _, rfl, A.kn, _, nb, _, l, rfl, rfl, B3.kn, B3.kx.keys, (s3.pair hN2).tt, look_last hl1, ?_⟩
        refine k _ _ l B3 (fun b o e hb => ?_) (s3.pair hv2)
        rw [upd_ne hb]
        exact s2 _ _ (fr b o e hb)
      refine ⟨_, rfl, A.p, C, A.dx, _, _, rfl, B.ob, cl, TB.n_known, f_known A t, A.kn, xs, rfl, B.kn, B.kx.keys, rfl, _, rfl, ?_⟩
      by_cases hz : xs.length = 4096
      · refine if_t (decide_eq_true (by rw [hz]; rfl)) ?_
        refine ⟨_, rfl, A.p, C, A.dx, _, _, rfl, B.ob, cl, TB.n_known, f_known A t, A.kn, xs, rfl, B.kn, B.kx.keys, ?_⟩
        have B1 := B.learn (xs' := []) (fun x hx => absurd hx (by simp)) (Nat.zero_le _)
        have s1 : Tups H (upd H A.kn (DicO P w A.kn [])) := tups_upd B.kn (by intro xs z; cases z)
        exact go _ [] B1 (fun b o e hb => by rw [upd_ne hb]; exact e) rfl (by show 0 < 4096; decide) (s1.pair hN)
      · have hkl := B.kl
        refine if_f (decide_eq_false (fun z => hz ?_)) ?_
        · have z' : ((xs.length : Nat) : Int) = 4096 := V.int.inj z
          omega
        · exact go H xs B (fun b o e _ => e) el (by omega) hN
end
end Pl
namespace Pl
open PySem L2 Com Pr
def spSettle (P : Program) (w : World) (C : Addr) : Sp := fun vs H Q _ => ∃ (n : Nat) (A : Ad) (t : Int) (L : List (List Nat)) (cur : List Nat) (as : List Addr) (xs : List PE3),
  vs = [.ref A.p] ∧ BAt P w C n H A t (L ++ [cur]) as xs ∧ n ≤ 16 ∧
  ∀ H' pre cur' post as' xs', Br.back n L.reverse cur [] = (pre, cur', post) → BAt P w C n H' A t (pre.reverse ++ cur' :: post) as' xs' → Fr H H' A → Q (.int (pre.length : Nat)) H'
theorem back_nil (n : Nat) (cur : List Nat) (post : List (List Nat)) : Br.back n [] cur post = ([], cur, post) := rfl
theorem back_turn (n : Nat) (pre : List (List Nat)) (cur : List Nat) (post : List (List Nat)) (h : cur = Md08.turn n) : Br.back n pre cur post = (pre, cur, post) := by
  cases pre with
  | nil => rfl
  | cons p pre => unfold Br.back; rw [if_pos h]
theorem back_stay {n : Nat} {p : List Nat} {pre : List (List Nat)} {cur : List Nat} {post : List (List Nat)} (h : Br.F n p cur = (p, cur)) : Br.back n (p :: pre) cur post = (p :: pre, cur, post) := by
  unfold Br.back
  by_cases ht : cur = Md08.turn n
  · rw [if_pos ht]
  · rw [if_neg ht, if_pos h]
theorem back_go {n : Nat} {p : List Nat} {pre : List (List Nat)} {cur : List Nat} {post : List (List Nat)} (ht : cur ≠ Md08.turn n) (h : Br.F n p cur ≠ (p, cur)) : Br.back n (p :: pre) cur post = Br.back n pre (Br.F n p cur).1 ((Br.F n p cur).2 :: post) := by
  rw [show Br.back n (p :: pre) cur post = (if cur = Md08.turn n then (p :: pre, cur, post) else if Br.F n p cur = (p, cur) then (p :: pre, cur, post) else Br.back n pre (Br.F n p cur).1 ((Br.F n p cur).2 :: post)) from rfl, if_neg ht, if_neg h]
theorem row_mid {pre post : List (List Nat)} {cur : List Nat} : (pre.reverse ++ cur :: post)[pre.length]? = some cur := by
  rw [List.getElem?_append_right (by rw [List.length_reverse]; exact Nat.le_refl _), List.length_reverse, Nat.sub_self]
  rfl
theorem row_ahead {pre post : List (List Nat)} {p cur : List Nat} : ((p :: pre).reverse ++ cur :: post)[pre.length]? = some p := by
  have e : (p :: pre).reverse ++ cur :: post = pre.reverse ++ p :: (cur :: post) := by simp
  rw [e]
  exact row_mid
theorem set_two {pre post : List (List Nat)} {p cur x y : List Nat} : (((p :: pre).reverse ++ cur :: post).set pre.length x).set (pre.length + 1) y = pre.reverse ++ x :: y :: post := by
  have e : (p :: pre).reverse ++ cur :: post = pre.reverse ++ p :: (cur :: post) := by simp
  have l : pre.reverse.length = pre.length := List.length_reverse ..
  rw [e, List.set_append_right _ _ (by omega), l, Nat.sub_self, List.set_append_right _ _ (by omega), l]
  have e2 : pre.length + 1 - pre.length = 1 := by omega
  rw [e2]
  rfl
section
variable {P : Program} {w : World} {K : PySem.W.Frag} {mg : Str → Option Value} {base : Heap}
theorem ok_settle {C : Addr} {f : Addr} {fd : FuncData} (T : Txt K mg) (TB : Txt_Braid K mg C) (h : MHas K C "settle" "Braid.settle" s_Braid_settle ["self"] f fd) : FnOk P w K mg base CX0 4 f fd ["self"] (spSettle P w C) := by
  obtain ⟨g1, d1, h1⟩ := TB.m_settled_neighbours
  have GN : FnOk P w K mg base CX0 3 g1 d1 ["self", "neighbours"] (spNb P w C) := ok_nb T TB h1
  have cl := TB.cls.cl
  refine h.fn.ok sc_Braid_settle (fun vs H Q E h => ?_) (fun cdv A outer s H vs Q E hr h => ?_)
  · obtain ⟨n, A, t, L, cur, as, xs, rfl, _⟩ := h
    rfl
  · obtain ⟨n, A, t, L, cur0, as, xs, rfl, B, hn, k⟩ := h
    refine ⟨_, pss_cons (ps_set (i := 1) sc_Braid_settle.nd rfl (Or.inl rfl) (pe_fld (pv 0) rfl))
      (pss_cons (ps_set (i := 2) sc_Braid_settle.nd rfl (Or.inl rfl) (pe_op op_sub (pe_callB call_len_seq (by rfl) T.b_len PySem.boot_len (pa_cons (pv 1) pa_nil)) pe_int))
      (pss_cons (ps_while PassesOwn.never (PW.pt (pw_and (pt_cmpR op_gt (pv 2) pe_int (nomark _)) (pw_and1 (pt_cmpR (op_neD hr.units) (pe_ix ix_list (pv 1) (pv 2) (fun _ _ => rfl)) (pe_fld (pv 0) rfl) (nomark _)))))
        (pss_cons (ps_set (i := 3) sc_Braid_settle.nd rfl (Or.inl rfl) (pe_tup (pa_cons (pe_ix ix_list (pv 1) (pe_op op_sub (pv 2) pe_int) (fun _ _ => rfl)) (pa_cons (pe_ix ix_list (pv 1) (pv 2) (fun _ _ => rfl)) pa_nil))))
        (pss_cons (ps_set (i := 4) sc_Braid_settle.nd rfl (Or.inl rfl) (pe_meth (pv 0) cl h1.mt GN hr h1.bd .nil pass0 (pa_cons (pv 3) pa_nil)))
        (pss_cons (ps_if (pt_cmpR (op_eqD hr.units) (pv 4) (pv 3) (nomark _)) (pss_one ps_break) pss_nil)
        (pss_cons (ps_asg (pe_ix ix_tup (pv 4) pe_int (fun _ _ => rfl)) (pg_sub (pv 1) (pe_op op_sub (pv 2) pe_int) set_list))
        (pss_cons (ps_asg (pe_ix ix_tup (pv 4) pe_int (fun _ _ => rfl)) (pg_sub (pv 1) (pv 2) set_list))
        (pss_one (ps_aug (i := 2) sc_Braid_settle.nd rfl (Or.inl rfl) pe_int ip_sub))))))))
      (pss_one (ps_ret (pv 2))))), ?_⟩
    refine ⟨_, rfl, A.p, C, A.dx, _, _, rfl, B.ob, cl, TB.n_rows, f_rows A t, ?_⟩
    refine ⟨_, rfl, A.ro, _, rfl, .inl (SqL.of B.ro), _, _, rfl, rfl, ?_⟩
    have hlen : ((as.map V.ref).length : Int) - 1 = ((L.reverse.length : Nat) : Int) := by
      rw [List.length_map, paired_len B.rs, List.length_append, List.length_reverse]
      show ((L.length + 1 : Nat) : Int) - 1 = _
      omega
    refine ⟨fun m σ H3 => ∃ (pre : List (List Nat)) (cur : List Nat) (post : List (List Nat)) (as : List Addr) (xs : List PE3) (v u : Option V), m = pre.length ∧ σ = [some (.ref A.p), some (.ref A.ro), some (.int (m : Nat)), v, u] ∧
        BAt P w C n H3 A t (pre.reverse ++ cur :: post) as xs ∧ Fr H H3 A ∧ Br.back n pre cur post = Br.back n L.reverse cur0 [],
      ⟨L.reverse.length, L.reverse, cur0, [], as, xs, none, none, rfl, ?_, by rw [List.reverse_reverse]; exact B, Fr.refl H A, rfl⟩, ?_⟩
    · show [some (V.ref A.p), some (V.ref A.ro), some (V.int (((as.map V.ref).length : Int) - 1)), none, none] = _
      rw [hlen]
    rintro m σ H3 ⟨pre, cur, post, as, xs, v, u, rfl, rfl, B3, F3, eb⟩
    have stop : Br.back n pre cur post = (pre, cur, post) → ∀ v u, tRet (tVar 2) { nx := fun _ H' => Q .non H', rt := Q } [some (.ref A.p), some (.ref A.ro), some (.int (pre.length : Nat)), v, u] H3 := fun e v u => by
      refine ⟨_, rfl, k H3 pre cur post as xs ?_ B3 F3⟩
      rw [← eb, e]
    obtain ⟨ac, hac, hcur⟩ := paired_at B3.rs (row_mid (pre := pre) (post := post) (cur := cur))
    have hrc : Md08.isRow n cur = true := B3.isr cur (by simp)
    refine ⟨_, rfl, _, _, rfl, rfl, _, rfl, ?_⟩
    cases pre with
    | nil => exact if_f (decide_eq_false (by show ¬ (0 : Int) < ((0 : Nat) : Int); omega)) (if_f rfl (stop (back_nil n cur post) v u))
    | cons p pre =>
    refine if_t (decide_eq_true (by rw [List.length_cons]; omega)) ⟨_, rfl, _, rfl, A.ro, _, _, _, rfl, rfl, SqL.of B3.ro, atI_nat (refs_at hac), ?_⟩
    refine ⟨_, rfl, A.p, C, A.dx, _, _, rfl, B3.ob, cl, TB.n_turn, f_turn A t, _, _, dp_row hcur, dp_row B3.tu, shaped_tup _, shaped_tup _, _, rfl, ?_⟩
    rw [eq_row]
    by_cases ht : cur = Md08.turn n
    · exact if_f (by rw [decide_eq_true ht]; rfl) (stop (back_turn n _ cur post ht) v u)
    refine if_t (by rw [decide_eq_false ht]; rfl) ⟨fun σ' H' => ∃ (pre' : List (List Nat)) (cur : List Nat) (post : List (List Nat)) (as : List Addr) (xs : List PE3) (v u : Option V), pre.length = pre'.length ∧ σ' = [some (.ref A.p), some (.ref A.ro), some (.int (pre.length : Nat)), v, u] ∧
        BAt P w C n H' A t (pre'.reverse ++ cur :: post) as xs ∧ Fr H H' A ∧ Br.back n pre' cur post = Br.back n L.reverse cur0 [],
      fun σ' H' z => ⟨pre.length, by rw [List.length_cons]; omega, z⟩, ?_⟩
    obtain ⟨ap, hap, hpp⟩ := paired_at B3.rs (row_ahead (pre := pre) (post := post) (p := p) (cur := cur))
    have hrp : Md08.isRow n p = true := B3.isr p (by simp)
    have em : (((p :: pre).length : Nat) : Int) - 1 = ((pre.length : Nat) : Int) := by rw [List.length_cons]; omega
    refine ⟨_, rfl, _, rfl, _, _, rfl, rfl, A.ro, _, _, _, rfl, rfl, SqL.of B3.ro, by rw [em]; exact atI_nat (refs_at hap), _, rfl, _, rfl, A.ro, _, _, _, rfl, rfl, SqL.of B3.ro, atI_nat (refs_at hac), by show 2 ≤ sizeLine; decide, fun nb hnb => ?_⟩
    have s4 := same_new (o := .tup [V.ref ap, V.ref ac]) hnb
    have B4 := B3.same s4
    have hN : PairAt (upd H3 nb (.tup [V.ref ap, V.ref ac])) nb p cur := ⟨ap, ac, upd_same, s4 _ _ hpp, s4 _ _ hcur⟩
    refine ⟨_, rfl, A.p, A.dx, _, rfl, B4.ob, f_no A t (by decide +kernel), _, rfl, n, A, t, _, as, xs, nb, p, cur, rfl, B4, hN, hrp, hrc, hn, fun H5 xs5 va B5 fr5 hva => ?_⟩
    have F5 : Fr H H5 A := fun b o e h1 h2 h3 => fr5 b o (s4 b o (F3 b o e h1 h2 h3)) h3
    have hN5 : PairAt H5 nb p cur := by
      obtain ⟨d, e, z1, z2, z3⟩ := hN
      have hk : ∀ b ys, (upd H3 nb (.tup [V.ref ap, V.ref ac])) b = some (.tup ys) → H5 b = some (.tup ys) := fun b ys z => fr5 b _ z (fun e => by rw [e, B4.kn] at z; cases z)
      exact ⟨d, e, hk _ _ z1, hk _ _ z2, hk _ _ z3⟩
    refine ⟨_, rfl, _, rfl, _, _, dp_pair hva, dp_pair hN5, shaped_rowsT _, shaped_rowsT _, _, rfl, ?_⟩
    rw [eq_pair]
    by_cases hF : Br.F n p cur = (p, cur)
    · refine if_t (decide_eq_true hF) ?_
      refine ⟨_, rfl, k H5 (p :: pre) cur post as xs5 ?_ B5 F5⟩
      rw [← eb, back_stay hF]
    refine if_f (decide_eq_false hF) ?_
    obtain ⟨d, e, hv1, hv2, hv3⟩ := hva
    have hla : as.length = (p :: pre).length + 1 + post.length := by
      rw [paired_len B5.rs, List.length_append, List.length_reverse]
      simp only [List.length_cons]
      omega
    have hFr := Br.F_rows hrp hrc
    refine ⟨_, rfl, va, _, _, _, rfl, rfl, SqT.of hv1, rfl, _, rfl, _, rfl, _, _, rfl, rfl, A.ro, _, _, pre.length, rfl, rfl, B5.ro, ?_, ?_⟩
    · rw [em, List.length_map, hla, List.length_cons]; exact ixN_nat (by omega)
    rw [refs_set]
    have P6 := paired_set hv2 pre.length B5.rs
    have hva6 : ∀ o, (upd H5 A.ro o) va = some (.tup [V.ref d, V.ref e]) := fun o => by
      have hne : va ≠ A.ro := ne_of hv1 B5.ro (by intro z; cases z)
      rw [upd_ne hne]
      exact hv1
    refine ⟨_, rfl, va, _, _, _, rfl, rfl, SqT.of (hva6 _), rfl, _, rfl, _, rfl, A.ro, _, _, pre.length + 1, rfl, rfl, upd_same, ?_, ?_⟩
    · rw [List.length_map, List.length_set, hla, List.length_cons]; exact ixN_nat (by omega)
    rw [refs_set, upd_upd]
    refine ⟨_, rfl, _, _, rfl, rfl, ?_⟩
    have P7 := paired_set hv3 (pre.length + 1) P6
    rw [set_two] at P7
    have hR7 : Br.Rows n (pre.reverse ++ (Br.F n p cur).1 :: (Br.F n p cur).2 :: post) := fun x hx => by
      rcases List.mem_append.mp hx with z | z
      · exact B5.isr x (by rw [List.reverse_cons, List.append_assoc]; exact List.mem_append_left _ z)
      · rcases List.mem_cons.mp z with rfl | z
        · exact hFr.1
        · rcases List.mem_cons.mp z with rfl | z
          · exact hFr.2
          · exact B5.isr x (List.mem_append_right _ (List.mem_cons_of_mem _ z))
    refine ⟨pre, (Br.F n p cur).1, (Br.F n p cur).2 :: post, _, xs5, some (V.ref nb), some (V.ref va), rfl, ?_, B5.relist P7 hR7, F5.upd (.inr (.inl rfl)), ?_⟩
    · show _ = [some (V.ref A.p), some (V.ref A.ro), some (V.int ((pre.length : Nat) : Int)), some (V.ref nb), some (V.ref va)]
      rw [← em]
      rfl
    · rw [← eb, back_go ht hF]
end
end Pl
namespace Pl
open PySem L2 Com Pr
def spFree (P : Program) (w : World) (C : Addr) : Sp := fun vs H Q _ => ∃ (n : Nat) (A : Ad) (t : Int) (pre : List (List Nat)) (cur : List Nat) (post : List (List Nat)) (as : List Addr) (xs : List PE3),
  vs = [.ref A.p, .int (pre.length : Nat)] ∧ BAt P w C n H A t (pre.reverse ++ cur :: post) as xs ∧ n ≤ 16 ∧ as.length ≤ 100000 ∧
  ∀ H' r as' xs', H r = none → BAt P w C n H' { A with ro := r } (t + 1) (pre.reverse ++ post.map (Md08.turned n)) as' xs' → Fr H H' A → Q .non H'
theorem cut_from (as : List Addr) (m : Nat) : cutV (as.map V.ref) (some ((m : Int) + 1)) none = (as.drop (m + 1)).map V.ref := by
  have e : (m : Int) + 1 = ((m + 1 : Nat) : Int) := by omega
  unfold cutV
  rw [e, HT.sIx_nat, HT.sIx_none, List.length_map, ← List.map_drop, ← List.map_take]
  refine congrArg (List.map V.ref) ?_
  by_cases h : m + 1 ≤ as.length
  · have e2 : min (m + 1) as.length = m + 1 := by omega
    rw [e2]
    exact List.take_of_length_le (by rw [List.length_drop]; exact Nat.le_refl _)
  · have e2 : min (m + 1) as.length = as.length := by omega
    rw [e2, List.drop_of_length_le (Nat.le_refl _), List.drop_of_length_le (by omega)]
    simp
theorem cut_to (as : List Addr) (m : Nat) : cutV (as.map V.ref) none (some (m : Int)) = (as.take m).map V.ref := by
  unfold cutV
  rw [HT.sIx_nat, HT.sIx_none, List.length_map, List.drop_zero, Nat.sub_zero, ← List.map_take]
  refine congrArg (List.map V.ref) ?_
  by_cases h : m ≤ as.length
  · have e2 : min m as.length = m := by omega
    rw [e2]
  · have e2 : min m as.length = as.length := by omega
    rw [e2, List.take_length, List.take_of_length_le (by omega)]
theorem drop_mid {pre post : List (List Nat)} {cur : List Nat} : (pre.reverse ++ cur :: post).drop (pre.length + 1) = post := by
  have l : pre.reverse.length = pre.length := List.length_reverse ..
  rw [List.drop_append, List.drop_of_length_le (by omega), l]
  have e : pre.length + 1 - pre.length = 1 := by omega
  rw [e]
  rfl
theorem take_mid {pre post : List (List Nat)} {cur : List Nat} : (pre.reverse ++ cur :: post).take pre.length = pre.reverse := by
  have l : pre.reverse.length = pre.length := List.length_reverse ..
  rw [← l, List.take_left']
  rfl
theorem map_take1 {β : Type} (f : List Nat → β) {l : List (List Nat)} {i : Nat} {x : List Nat} (h : l[i]? = some x) : (l.map f).take (i + 1) = (l.map f).take i ++ [f x] := by
  rw [List.take_add_one, List.getElem?_map, h]
  rfl
theorem paired_snd {α β : Type} {G : α → β → Prop} : ∀ {l1 : List α} {l2 : List β}, Paired G l1 l2 → ∀ {i : Nat} {a : α}, l1[i]? = some a → ∃ b, l2[i]? = some b ∧ G a b
  | _, _, .nil, i, b, h => by simp at h
  | _, _, .cons g r, 0, b, h => by
    simp only [List.getElem?_cons_zero, Option.some.injEq] at h
    subst h
    exact ⟨_, rfl, g⟩
  | _, _, .cons g r, i + 1, b, h => by
    obtain ⟨a, h1, h2⟩ := paired_snd r (i := i) (a := b) (by simpa using h)
    exact ⟨a, by simpa using h1, h2⟩
theorem refs_get {as : List Addr} {i : Nat} {y : V} (h : (as.map V.ref)[i]? = some y) : ∃ a, as[i]? = some a ∧ y = V.ref a := by
  rw [List.getElem?_map] at h
  obtain ⟨z, h1, h2⟩ := Option.map_eq_some_iff.mp h
  exact ⟨z, h1, h2.symm⟩
section
variable {P : Program} {w : World} {K : PySem.W.Frag} {mg : Str → Option Value} {base : Heap}
theorem ok_free {C : Addr} {f : Addr} {fd : FuncData} (T : Txt K mg) (TB : Txt_Braid K mg C) (h : MHas K C "free_turn" "Braid.free_turn" s_Braid_free_turn ["self", "at"] f fd) : FnOk P w K mg base CX0 2 f fd ["self", "at"] (spFree P w C) := by
  obtain ⟨g1, d1, h1⟩ := T.f_turned_over
  have GO : FnOk P w K mg base CX0 1 g1 d1 ["row"] (spOver K) := ok_over T h1
  have cl := TB.cls.cl
  refine h.fn.ok sc_Braid_free_turn (fun vs H Q E h => ?_) (fun cdv A0 outer s H vs Q E hr h => ?_)
  · obtain ⟨n, A, t, pre, cur, post, as, xs, rfl, _⟩ := h
    rfl
  · obtain ⟨n, A, t, pre, cur, post, as, xs, rfl, B, hn, hz, k⟩ := h
    refine ⟨_, pss_cons (ps_setLc (i := 2) (own := [("row", 3)]) rfl sc_Braid_free_turn.nd rfl rfl (sw_true rfl rfl rfl rfl) (pi_list (pe_slice sl_list (pe_fld (pv 0) rfl) (po_some (pe_op op_add (pv 1) pe_int)) po_none))
        (blkOk_by (N := ["self", "at", "behind", "row"]) (sc := defScope s_Braid_free_turn) (by decide +kernel))
        (fun _ _ _ _ _ => pg_name (i := 3) sc_Braid_free_turn.nd rfl (Or.inl rfl)) (fun _ _ _ _ _ => pts_nil) (fun _ _ _ _ _ => pe_call GO hr (by rfl) h1.mg h1.fn.kp h1.bd .nil pass0 (pa_cons (pv 3) pa_nil)))
      (pss_cons (ps_fld (pv 0) (pe_op op_cat (pe_slice sl_list (pe_fld (pv 0) rfl) po_none (po_some (pv 1))) (pv 2)) rfl)
      (pss_one (ps_fldaug (pv 0) pe_int in_add))), ?_⟩
    refine ⟨_, rfl, A.p, C, A.dx, _, _, rfl, B.ob, cl, TB.n_rows, f_rows A t, _, rfl, _, _, rfl, rfl, _, rfl, A.ro, _, rfl, SqL.of B.ro, fun q hq => ?_⟩
    rw [cut_from]
    have s1 := same_new (o := .lst ((as.drop (pre.length + 1)).map V.ref)) hq
    have B1 := B.same s1
    have PD : Paired (RowAt (upd H q (.lst ((as.drop (pre.length + 1)).map V.ref)))) (as.drop (pre.length + 1)) post := by
      have z := paired_drop (pre.length + 1) B1.rs
      rw [drop_mid] at z
      exact z
    have hpl := paired_len PD
    have hal : as.length = pre.length + 1 + post.length := by
      have z := hpl
      rw [List.length_drop] at z
      have z2 := paired_len B.rs
      rw [List.length_append, List.length_reverse, List.length_cons] at z2
      omega
    refine ⟨q, rfl, ⟨_, SqL.of upd_same⟩, fun D hD => ?_⟩
    refine lc_list (K := K) (a := q) (xs := (as.drop (pre.length + 1)).map V.ref)
      (fun i H2 => L2.Same (upd H q (.lst ((as.drop (pre.length + 1)).map V.ref))) H2 ∧ ∃ bs : List Addr, H2 D = some (.lst (bs.map V.ref)) ∧ Paired (RowAt H2) bs ((post.map (Md08.turned n)).take i))
      ⟨same_new hD, [], upd_same, by rw [List.take_zero]; exact .nil⟩ (fun i H2 _ ⟨s2, _⟩ => s2.seq (SqL.of upd_same)) ?_ ?_
    · rintro i x H2 hx ⟨s2, bs, hL, hP⟩
      obtain ⟨b, hb, rfl⟩ := refs_get hx
      obtain ⟨row, hrow, hbr⟩ := paired_snd PD hb
      have hir : Md08.isRow n row = true := B.isr row (List.mem_append_right _ (List.mem_cons_of_mem _ (List.mem_of_getElem? hrow)))
      have hip : i < post.length := (List.getElem?_eq_some_iff.mp hrow).1
      refine ⟨rfl, yes (iteT ⟨_, rfl, n, b, row, rfl, SqT.of (s2 _ _ hbr), hir, hn, fun H3 l s3 hl0 hl => ?_⟩)⟩
      have hL3 := s3 _ _ hL
      have hbl : bs.length = min i (post.length) := by rw [paired_len hP, List.length_take, List.length_map]
      refine ⟨_, hL3, by rw [List.length_map, hbl, sizeLine_eq]; omega, fun c o e => ?_, bs ++ [l], by rw [upd_same, List.map_append]; rfl, ?_⟩
      · have hcD : c ≠ D := ne_of_none e hD
        rw [upd_ne hcD]
        exact s3 _ _ (s2 _ _ e)
      · rw [map_take1 _ hrow]
        have tt : Tups H3 (upd H3 D (.lst (bs.map V.ref ++ [V.ref l]))) := tups_upd hL3 (by intro xs z; cases z)
        exact paired_app (tt.rows ((tups_same s3).rows hP)) (.cons (tt _ _ hl) .nil)
    · rintro H2 ⟨s2, bs, hL, hP⟩
      rw [List.length_map, hpl, List.take_of_length_le (by rw [List.length_map]; exact Nat.le_refl _)] at hP
      have B2 := B1.same s2
      have hDH : H D = Option.none := s1.free hD
      refine ⟨_, rfl, A.p, C, A.dx, _, _, rfl, B2.ob, cl, TB.n_rows, f_rows A t, _, rfl, _, rfl, A.ro, _, rfl, SqL.of B2.ro, fun c hc => ?_⟩
      rw [cut_to]
      have hDc : D ≠ c := ne_of_none hL hc
      have s3 := same_new (o := .lst ((as.take pre.length).map V.ref)) hc
      have hlb : bs.length = post.length := by rw [paired_len hP, List.length_map]
      refine ⟨_, rfl, c, D, _, _, rfl, rfl, upd_same, by rw [upd_ne hDc]; exact hL, ?_, fun r hr' => ?_⟩
      · rw [List.length_map, List.length_map, List.length_take, sizeLine_eq]; omega
      rw [← List.map_append]
      have s4 := same_new (o := .lst ((as.take pre.length ++ bs).map V.ref)) hr'
      have B4 := (B2.same s3).same s4
      have hP4 : Paired (RowAt (upd (upd H2 c (.lst ((as.take pre.length).map V.ref))) r (.lst ((as.take pre.length ++ bs).map V.ref)))) (as.take pre.length ++ bs) (pre.reverse ++ post.map (Md08.turned n)) := by
        have z := paired_take pre.length B4.rs
        rw [take_mid] at z
        exact paired_app z ((tups_same (s3.trans s4)).rows hP)
      have hR4 : Br.Rows n (pre.reverse ++ post.map (Md08.turned n)) := by
        refine Br.Rows.append B.isr.left (Br.Rows.turned (fun x hx => B.isr x (List.mem_append_right _ (List.mem_cons_of_mem _ hx))))
      refine ⟨_, rfl, A.p, C, A.dx, _, rfl, B4.ob, cl, TB.n_rows, by show 5 < 1000; decide, ?_⟩
      rw [put_rows]
      have B5 := B4.swap (r := r) upd_same hP4 hR4
      have hrH : H r = Option.none := (s1.trans (s2.trans s3)).free hr'
      refine ⟨_, rfl, A.p, C, A.dx, _, _, rfl, B5.ob, cl, TB.n_turns, f_turns _ t, _, _, rfl, rfl, A.dx, _, B5.ob, by show 5 < 1000; decide, ?_⟩
      rw [put_turns]
      have fr : Fr H _ A := (fr_same (A := A) (s1.trans (s2.trans (s3.trans s4)))).upd (o := .ins C A.dx (flds { A with ro := r } t)) (.inl rfl)
      exact k _ r _ xs hrH (B5.turns (t + 1)) (fr.upd (.inl rfl))
end
end Pl
namespace Pl
open PySem L2 Com Pr
def spPutRow (P : Program) (w : World) (C : Addr) : Sp := fun vs H Q _ => ∃ (n : Nat) (A : Ad) (t : Int) (rows : List (List Nat)) (as : List Addr) (xs : List PE3) (a : Addr) (row : List Nat),
  vs = [.ref A.p, .ref a] ∧ BAt P w C n H A t rows as xs ∧ RowAt H a row ∧ Md08.isRow n row = true ∧ n ≤ 16 ∧ rows.length ≤ 50000 ∧
  ∀ H' r as' xs', (r = A.ro ∨ H r = none) → BAt P w C n H' { A with ro := r } (Br.putRow n t rows row).1 (Br.putRow n t rows row).2 as' xs' → Fr H H' A → Q .non H'
theorem paired_end {α β : Type} {G : α → β → Prop} {b : β} : ∀ {l1 : List α} {l2 : List β}, Paired G l1 (l2 ++ [b]) → ∃ m a, l1 = m ++ [a] ∧ Paired G m l2 ∧ G a b
  | _, [], .cons g .nil => ⟨[], _, rfl, .nil, g⟩
  | _, c :: l2, h => by
    have h : Paired G _ (c :: (l2 ++ [b])) := h
    cases h with
    | cons g r =>
      obtain ⟨m, a, e, p, q⟩ := paired_end r
      exact ⟨_ :: m, a, by rw [e]; rfl, .cons g p, q⟩
theorem BAt.rowsLe {P : Program} {w : World} {C : Addr} {n : Nat} {H : Hp} {A : Ad} {t : Int} {rows : List (List Nat)} {as : List Addr} {xs : List PE3} (B : BAt P w C n H A t rows as xs) : as.length = rows.length := paired_len B.rs
section
variable {P : Program} {w : World} {K : PySem.W.Frag} {mg : Str → Option Value} {base : Heap}
theorem ok_putrow {C : Addr} {f : Addr} {fd : FuncData} (T : Txt K mg) (TB : Txt_Braid K mg C) (h : MHas K C "put_row" "Braid.put_row" s_Braid_put_row ["self", "row"] f fd) : FnOk P w K mg base CX0 5 f fd ["self", "row"] (spPutRow P w C) := by
  obtain ⟨g1, d1, h1⟩ := T.f_turned_over
  obtain ⟨g2, d2, h2⟩ := TB.m_settle
  obtain ⟨g3, d3, h3⟩ := TB.m_free_turn
  have GO : FnOk P w K mg base CX0 4 g1 d1 ["row"] (spOver K) := (ok_over T h1).mono (by decide)
  have GS : FnOk P w K mg base CX0 4 g2 d2 ["self"] (spSettle P w C) := ok_settle T TB h2
  have GF : FnOk P w K mg base CX0 4 g3 d3 ["self", "at"] (spFree P w C) := (ok_free T TB h3).mono (by decide)
  have cl := TB.cls.cl
  refine h.fn.ok sc_Braid_put_row (fun vs H Q E h => ?_) (fun cdv A0 outer s H vs Q E hr h => ?_)
  · obtain ⟨n, A, t, rows, as, xs, a, row, rfl, _⟩ := h
    rfl
  · obtain ⟨n, A, t, rows, as, xs, a, row, rfl, B, ha, hrow, hn, hz, k⟩ := h
    refine ⟨_, pss_cons (ps_expr (pe_bm PySem.F.plainAttrs_list PySem.F.slot_list_append PySem.F.type_list_append mt_append (pe_fld (pv 0) rfl)
        (pa_cons (pe_ifExp (pt_cmpR op_eq (pe_op op_mod (pe_fld (pv 0) rfl) pe_int) pe_int (nomark _)) (pe_call GO hr (by rfl) h1.mg h1.fn.kp h1.bd .nil pass0 (pa_cons (pv 1) pa_nil)) (pv 1)) pa_nil)))
      (pss_cons (ps_set (i := 2) sc_Braid_put_row.nd rfl (Or.inl rfl) (pe_meth0 (pv 0) cl h2.mt GS hr h2.bd .nil pass0))
      (pss_cons (ps_if (pt_cmpR (op_eqD hr.units) (pe_ix ix_list (pe_fld (pv 0) rfl) (pv 2) (fun _ _ => rfl)) (pe_fld (pv 0) rfl) (nomark _))
        (pss_one (ps_expr (pe_meth (pv 0) cl h3.mt GF hr h3.bd .nil pass0 (pa_cons (pv 2) pa_nil)))) pss_nil)
      (pss_one (ps_if (PW.pt (pw_and (pt_cmpR op_gt (pe_callB call_len_seq (by rfl) T.b_len PySem.boot_len (pa_cons (pe_fld (pv 0) rfl) pa_nil)) pe_int (nomark _))
          (pw_and1 (pt_cmpR (op_eqD hr.units) (pe_ix ix_list (pe_fld (pv 0) rfl) (pe_un un_neg pe_int) (fun _ _ => rfl)) (pe_fld (pv 0) rfl) (nomark _)))))
        (pss_one (ps_expr (pe_bm0 PySem.F.plainAttrs_list PySem.F.slot_list_pop PySem.F.type_list_pop mt_pop (pe_fld (pv 0) rfl)))) pss_nil)))), ?_⟩
    -- the row, turned over or not
    have key : ∀ Q' : VK, (∀ H1 l, L2.Same H H1 → RowAt H1 l (Br.phi1 n t row) → Q' (.ref l) H1) →
        tIf (tTest (tOp rEq (tOp (rI (fun _ j => 0 < j) fun i j => .int (i % j)) (tFld K (tVar 0) "turns") (tC (.int 2))) (tC (.int 1)))) (tCall (spOver K) [] E0 (tCons (tVar 1) tNil)) (tVar 1) [some (.ref A.p), some (.ref a), none] H Q' := by
      intro Q' kq
      refine ⟨_, rfl, A.p, C, A.dx, _, _, rfl, B.ob, cl, TB.n_turns, f_turns A t, _, _, rfl, rfl, by show (0 : Int) < 2; decide, rfl, _, rfl, ?_⟩
      by_cases ht : t % 2 = 1
      · refine if_t (decide_eq_true (show V.int (t % 2) = V.int 1 by rw [ht])) ⟨_, rfl, n, a, row, rfl, SqT.of ha, hrow, hn, fun H1 l s1 hl0 hl => ?_⟩
        refine kq H1 l s1 ?_
        unfold Br.phi1
        rw [if_pos ht]
        exact hl
      · refine if_f (decide_eq_false (fun z => ht (V.int.inj z))) ⟨_, rfl, kq H a (Same.refl H) ?_⟩
        unfold Br.phi1
        rw [if_neg ht]
        exact ha
    have hphi : Md08.isRow n (Br.phi1 n t row) = true := Br.phi1_row t hrow
    -- the end: none is taken away
    have fin : ∀ (H4 : Hp) (r : Addr) (t4 : Int) (rows4 : List (List Nat)) (as4 : List Addr) (xs4 : List PE3) (v : Option V), (r = A.ro ∨ H r = none) → BAt P w C n H4 { A with ro := r } t4 rows4 as4 xs4 → Fr H H4 A → Br.putRow n t rows row = (t4, Br.pop0 n rows4) →
        tIfS (tAnd (tTest (tOp (rI0 fun i j => .bl (decide (j < i))) (tCB (fun xs H Q => ∃ p ys, xs = [.ref p] ∧ (SqL K H p ys ∨ SqT K H p ys) ∧ Q (.int ys.length) H) (tCons (tFld K (tVar 0) "rows") tNil)) (tC (.int 0))))
          (tTest (tOp (rEqD K) (tOp (rIxL K) (tFld K (tVar 0) "rows") (tUn (rU fun i => .int (-i)) (tC (.int 1)))) (tFld K (tVar 0) "none")))) (tDrop (tBM0 K "list" rPop (tFld K (tVar 0) "rows"))) tNext { nx := fun _ H' => Q .non H', rt := Q } [some (.ref A.p), some (.ref a), v] H4 := by
      intro H4 r t4 rows4 as4 xs4 v hr4 B4 F4 e4
      rw [e4] at k
      refine ⟨_, rfl, A.p, C, A.dx, _, _, rfl, B4.ob, cl, TB.n_rows, f_rows _ t4, r, _, rfl, .inl (SqL.of B4.ro), _, _, rfl, rfl, _, rfl, ?_⟩
      rcases Br.snoc_cases rows4 with rfl | ⟨M, x, rfl⟩
      · have e0 : as4 = [] := by
          have z := paired_len B4.rs
          cases as4 with
          | nil => rfl
          | cons _ _ => simp at z
        subst e0
        refine if_f (decide_eq_false (by show ¬ (0 : Int) < ((0 : Nat) : Int); omega)) (if_f rfl ?_)
        exact k H4 r [] xs4 hr4 B4 F4
      · obtain ⟨bs, b, rfl, hP, hb⟩ := paired_end B4.rs
        refine if_t (decide_eq_true (by rw [List.length_map, List.length_append]; show (0 : Int) < ((bs.length + 1 : Nat) : Int); omega)) ?_
        have hro4 : H4 r = some (.lst (bs.map V.ref ++ [V.ref b])) := by
          have z := B4.ro
          rw [List.map_append] at z
          exact z
        refine ⟨_, rfl, A.p, C, A.dx, _, _, rfl, B4.ob, cl, TB.n_rows, f_rows _ t4, _, rfl, r, _, _, _, rfl, rfl, SqL.of hro4, atI_last _ _, ?_⟩
        refine ⟨_, rfl, A.p, C, A.dx, _, _, rfl, B4.ob, cl, TB.n_none, f_none _ t4, _, _, dp_row hb, dp_row B4.no, shaped_tup _, shaped_tup _, _, rfl, ?_⟩
        rw [eq_row]
        by_cases hx : x = Md08.none_ n
        · refine if_t (decide_eq_true hx) ?_
          refine ⟨_, rfl, A.p, C, A.dx, _, _, rfl, B4.ob, cl, TB.n_rows, f_rows _ t4, .inl ⟨rfl, _, SqL.of hro4⟩, r, _, V.ref b, rfl, rfl, hro4, ?_, ?_⟩
          · rw [List.length_append, List.length_map]
            show (bs.map V.ref ++ [V.ref b])[bs.length + 1 - 1]? = _
            rw [Nat.add_sub_cancel, List.getElem?_append_right (by rw [List.length_map]; exact Nat.le_refl _), List.length_map, Nat.sub_self]
            rfl
          · rw [List.dropLast_concat]
            have B5 := B4.relist (as' := bs) hP (fun y hy => B4.isr y (List.mem_append_left _ hy))
            have e5 : Br.pop0 n (M ++ [x]) = M := by rw [Br.pop0_snoc, if_pos hx]
            rw [e5] at k
            refine k _ r bs xs4 hr4 B5 (F4.upd ?_)
            rcases hr4 with z | z
            · exact .inr (.inl z)
            · exact .inr (.inr (.inr z))
        · refine if_f (decide_eq_false hx) ?_
          have e5 : Br.pop0 n (M ++ [x]) = M ++ [x] := by rw [Br.pop0_snoc, if_neg hx]
          rw [e5] at k
          exact k H4 r _ xs4 hr4 B4 F4
    refine ⟨_, rfl, A.p, C, A.dx, _, _, rfl, B.ob, cl, TB.n_rows, f_rows A t, .inl ⟨rfl, _, SqL.of B.ro⟩, key _ fun H1 l s1 hl => ?_⟩
    have B1 := B.same s1
    have hal := B.rowsLe
    refine ⟨A.ro, _, _, rfl, rfl, B1.ro, by rw [List.length_map, hal, sizeLine_eq]; omega, ?_⟩
    have el : as.map V.ref ++ [V.ref l] = (as ++ [l]).map V.ref := by rw [List.map_append]; rfl
    rw [el]
    have B2 := B1.relist (as' := as ++ [l]) (rows' := rows ++ [Br.phi1 n t row]) (paired_app B1.rs (.cons hl .nil)) (B1.isr.append (.cons hphi .nil))
    have F2 : Fr H _ A := (fr_same (A := A) s1).upd (o := .lst ((as ++ [l]).map V.ref)) (.inr (.inl rfl))
    refine ⟨_, rfl, A.p, A.dx, _, rfl, B2.ob, f_no A t (by decide +kernel), n, A, t, rows, Br.phi1 n t row, _, xs, rfl, B2, hn, fun H3 pre cur post as3 xs3 eb B3 F3 => ?_⟩
    obtain ⟨ac, hac, hcur⟩ := paired_at B3.rs (row_mid (pre := pre) (post := post) (cur := cur))
    have F3' : Fr H H3 A := F2.trans F3
    have hlen3 : as3.length ≤ 100000 := by
      have z := Br.back_len (n := n) rows.reverse (Br.phi1 n t row) []
      rw [eb, List.length_reverse] at z
      have z2 := B3.rowsLe
      rw [List.length_append, List.length_reverse, List.length_cons] at z2
      have z3 : pre.length + post.length = rows.length + 0 := z
      omega
    refine ⟨_, rfl, A.p, C, A.dx, _, _, rfl, B3.ob, cl, TB.n_rows, f_rows A t, _, rfl, A.ro, _, _, _, rfl, rfl, SqL.of B3.ro, atI_nat (refs_at hac), ?_⟩
    refine ⟨_, rfl, A.p, C, A.dx, _, _, rfl, B3.ob, cl, TB.n_turn, f_turn A t, _, _, dp_row hcur, dp_row B3.tu, shaped_tup _, shaped_tup _, _, rfl, ?_⟩
    rw [eq_row]
    by_cases ht : cur = Md08.turn n
    · refine if_t (decide_eq_true ht) ?_
      refine ⟨_, rfl, A.p, A.dx, _, rfl, B3.ob, f_no A t (by decide +kernel), _, rfl, n, A, t, pre, cur, post, as3, xs3, rfl, B3, hn, hlen3, fun H4 r as4 xs4 hr4 B4 F4 => ?_⟩
      have hrH : r = A.ro ∨ H r = Option.none := by
        by_cases e : r = A.ro
        · exact .inl e
        · refine .inr ?_
          cases q : H r with
          | none => rfl
          | some o =>
            by_cases e1 : r = A.p
            · rw [e1, B3.ob] at hr4; cases hr4
            · by_cases e2 : r = A.kn
              · rw [e2, B3.kn] at hr4; cases hr4
              · have z := F3' r o q e1 e e2
                rw [hr4] at z; cases z
      refine fin H4 r (t + 1) _ as4 xs4 _ hrH B4 (F3'.trans F4) ?_
      unfold Br.putRow Br.ended
      rw [eb, if_pos ht]
    · refine if_f (decide_eq_false ht) ?_
      refine fin H3 A.ro t _ as3 xs3 _ (.inl rfl) B3 F3' ?_
      unfold Br.putRow Br.ended
      rw [eb, if_neg ht]
end
end Pl
namespace Pl
open PySem L2 Com Pr
def spPut (P : Program) (w : World) (C : Addr) : Sp := fun vs H Q _ => ∃ (n : Nat) (A : Ad) (t : Int) (rows : List (List Nat)) (as : List Addr) (xs : List PE3) (x : Int),
  vs = [.ref A.p, .int x] ∧ BAt P w C n H A t rows as xs ∧ 1 ≤ x.natAbs ∧ x.natAbs < n ∧ n ≤ 16 ∧ rows.length ≤ 50000 ∧
  ∀ H' r as' xs', (r = A.ro ∨ H r = none) → BAt P w C n H' { A with ro := r } (Br.putLetter n (t, rows) x).1 (Br.putLetter n (t, rows) x).2 as' xs' → Fr H H' A → Q .non H'
section
variable {P : Program} {w : World} {K : PySem.W.Frag} {mg : Str → Option Value} {base : Heap}
theorem ok_put {C : Addr} {f : Addr} {fd : FuncData} (T : Txt K mg) (TB : Txt_Braid K mg C) (h : MHas K C "put_letter" "Braid.put_letter" s_Braid_put_letter ["self", "letter"] f fd) : FnOk P w K mg base CX0 6 f fd ["self", "letter"] (spPut P w C) := by
  obtain ⟨g1, d1, h1⟩ := T.f_cross
  obtain ⟨g2, d2, h2⟩ := TB.m_put_row
  have GC : FnOk P w K mg base CX0 5 g1 d1 ["row", "letter"] spCross := (ok_cross T h1).mono (by decide)
  have GP : FnOk P w K mg base CX0 5 g2 d2 ["self", "row"] (spPutRow P w C) := ok_putrow T TB h2
  have cl := TB.cls.cl
  refine h.fn.ok sc_Braid_put_letter (fun vs H Q E h => ?_) (fun cdv A0 outer s H vs Q E hr h => ?_)
  · obtain ⟨n, A, t, rows, as, xs, x, rfl, _⟩ := h
    rfl
  · obtain ⟨n, A, t, rows, as, xs, x, rfl, B, hx0, hx1, hn, hz, k⟩ := h
    refine ⟨_, pss_cons (ps_set (i := 2) sc_Braid_put_letter.nd rfl (Or.inl rfl) (pe_callTy call_list_of (by rfl) T.b_list PyProof.Rows.boot_list (pa_cons (pe_fld (pv 0) rfl) pa_nil)))
      (pss_cons (ps_if (pt_cmpR op_lt (pv 1) pe_int (nomark _)) (pss_cons (ps_set (i := 2) sc_Braid_put_letter.nd rfl (Or.inl rfl) (pe_callTy call_list_of (by rfl) T.b_list PyProof.Rows.boot_list (pa_cons (pe_fld (pv 0) rfl) pa_nil)))
        (pss_one (ps_fldaug (pv 0) pe_int in_sub))) pss_nil)
      (pss_cons (ps_expr (pe_call GC hr (by rfl) h1.mg h1.fn.kp h1.bd .nil pass0 (pa_cons (pv 2) (pa_cons (pv 1) pa_nil))))
      (pss_one (ps_expr (pe_meth (pv 0) cl h2.mt GP hr h2.bd .nil pass0 (pa_cons (pe_callTy call_tuple_of (by rfl) T.b_tuple PyProof.Rows.boot_tuple (pa_cons (pv 2) pa_nil)) pa_nil)))))), ?_⟩
    have ex : absI x = (x.natAbs : Int) := abs_nat x
    -- the end, from either row
    have fin : ∀ (H2 : Hp) (l : Addr) (t2 : Int) (p : List Nat), BAt P w C n H2 A t2 rows as xs → Fr H H2 A → H l = none → H2 l = some (.lst (iR p)) → Md08.isRow n p = true → Br.putLetter n (t, rows) x = Br.putRow n t2 rows (Md08.cross p x) →
        tSeq (tDrop (tCall spCross [] E0 (tCons (tVar 2) (tCons (tVar 1) tNil)))) (tDrop (tMeth C "put_row" (spPutRow P w C) [] E0 (tVar 0) (tCons (tCB (fun xs H Q => ∃ p ys, xs = [.ref p] ∧ ((SqL K H p ys ∧ ∀ l, H l = none → Q (.ref l) (upd H l (.tup ys))) ∨ (SqT K H p ys ∧ Q (.ref p) H))) (tCons (tVar 2) tNil)) tNil)))
          { nx := fun _ H' => Q .non H', rt := Q } [some (.ref A.p), some (.int x), some (.ref l)] H2 := by
      intro H2 l t2 p B2 F2 hl0 hl hp ee
      rw [ee] at k
      have hlp := Br.row_len hp
      have hcr : Md08.isRow n (Md08.cross p x) = true := by rw [Br.cross_abs]; exact Br.row_cross hp hx0 hx1
      refine ⟨_, rfl, _, rfl, l, Md08.ints p, x, rfl, hl, by rw [ex]; omega, ?_, ?_⟩
      · rw [ex]
        unfold Md08.ints
        rw [List.length_map, hlp]
        omega
      rw [cross_ints p x hx0]
      have hpl : A.p ≠ l := ne_of B2.ob hl (by intro z; cases z)
      have hnl : ∀ b o, H2 b = some o → (∀ ys, o ≠ .lst ys) → (upd H2 l (.lst (iR (Md08.cross p x)))) b = some o := fun b o e ho => by
        rw [upd_ne (fun z => by rw [z, hl] at e; exact ho _ (Option.some.inj e).symm)]
        exact e
      have hrl : A.ro ≠ l := ne_of_none B.ro hl0
      have s3 : Tups H2 (upd H2 l (.lst (iR (Md08.cross p x)))) := tups_upd hl (by intro xs z; cases z)
      have B3 : BAt P w C n (upd H2 l (.lst (iR (Md08.cross p x)))) A t2 rows as xs :=
        ⟨hnl _ _ B2.ob (by intro ys z; cases z), s3 _ _ B2.no, s3 _ _ B2.tu, by rw [upd_ne hrl]; exact B2.ro, s3.rows B2.rs, hnl _ _ B2.kn (by intro ys z; cases z), s3.known B2.kx, B2.kl, B2.isr⟩
      have F3 := F2.upd (o := .lst (iR (Md08.cross p x))) (.inr (.inr (.inr hl0)))
      refine ⟨_, rfl, A.p, A.dx, _, rfl, B3.ob, f_no A t2 (by decide +kernel), _, rfl, l, _, rfl, .inl ⟨SqL.of upd_same, fun c hc => ?_⟩⟩
      have s4 := same_new (o := .tup (iR (Md08.cross p x))) hc
      refine ⟨n, A, t2, rows, as, xs, c, Md08.cross p x, rfl, B3.same s4, upd_same, hcr, hn, hz, fun H5 r as5 xs5 hr5 B5 F5 => ?_⟩
      have F4 := F3.same s4
      refine k H5 r as5 xs5 ?_ B5 (F4.trans F5)
      rcases hr5 with e | e
      · exact .inl e
      · by_cases e0 : r = A.ro
        · exact .inl e0
        · refine .inr ?_
          cases q : H r with
          | none => rfl
          | some o =>
            by_cases e1 : r = A.p
            · have z := (B3.same s4).ob
              rw [← e1, e] at z; cases z
            · by_cases e2 : r = A.kn
              · have z := (B3.same s4).kn
                rw [← e2, e] at z; cases z
              · have z := F4 r o q e1 e0 e2
                rw [e] at z; cases z
    refine ⟨_, rfl, A.p, C, A.dx, _, _, rfl, B.ob, cl, TB.n_none, f_none A t, A.no, _, rfl, .inr (SqT.of B.no), fun l hl => ?_⟩
    have s1 := same_new (o := .lst (iR (Md08.none_ n))) hl
    have B1 := B.same s1
    refine ⟨_, rfl, _, _, rfl, rfl, _, rfl, ?_⟩
    by_cases hneg : x < 0
    · refine if_t (decide_eq_true hneg) ⟨_, rfl, A.p, C, A.dx, _, _, rfl, B1.ob, cl, TB.n_turn, f_turn A t, A.tu, _, rfl, .inr (SqT.of B1.tu), fun l2 hl2 => ?_⟩
      have s2 := same_new (o := .lst (iR (Md08.turn n))) hl2
      have B2 := B1.same s2
      refine ⟨_, rfl, A.p, C, A.dx, _, _, rfl, B2.ob, cl, TB.n_turns, f_turns A t, _, _, rfl, rfl, A.dx, _, B2.ob, by show 5 < 1000; decide, ?_⟩
      rw [put_turns]
      have hpl2 : l2 ≠ A.p := fun e => by have z := B1.ob; rw [← e, hl2] at z; cases z
      refine fin _ l2 (t - 1) (Md08.turn n) (B2.turns (t - 1)) ((fr_same (A := A) (s1.trans s2)).upd (.inl rfl)) (s1.free hl2) ?_ (Br.row_turn n) ?_
      · rw [upd_ne hpl2]; exact upd_same
      · unfold Br.putLetter
        rw [if_pos hneg]
    · refine if_f (decide_eq_false hneg) ?_
      refine fin _ l t (Md08.none_ n) B1 (fr_same s1) hl upd_same (Br.row_none n) ?_
      unfold Br.putLetter
      rw [if_neg hneg]
end
end Pl
namespace Pl
open PySem L2 Com Pr
def spBraid (P : Program) (w : World) (K : PySem.W.Frag) (C : Addr) : Sp := fun vs H Q _ => ∃ (n : Nat) (a : Addr) (ws : List Int), vs = [.int (n : Nat), .ref a] ∧ SqL K H a (ws.map V.int) ∧ n ≤ 16 ∧ ws.length ≤ 4096 ∧ ws.all (Md08.letter n) = true ∧
  ∀ H' (A : Ad) as xs, L2.Same H H' → H A.p = none → H A.ro = none → H A.kn = none → BAt P w C n H' A (Br.braidW n ws).1 (Br.braidW n ws).2 as xs → Q (.ref A.p) H'
section
variable {P : Program} {w : World} {K : PySem.W.Frag} {mg : Str → Option Value} {base : Heap}
theorem ok_braid {C : Addr} {f : Addr} {fd : FuncData} (T : Txt K mg) (TB : Txt_Braid K mg C) (h : Has K mg "braid_of" s_braid_of ["n", "w"] f fd) : FnOk P w K mg base CX0 7 f fd ["n", "w"] (spBraid P w K C) := by
  obtain ⟨g1, d1, h1⟩ := TB.m___init__
  obtain ⟨g2, d2, h2⟩ := TB.m_put_letter
  have GI : FnOk P w K mg base CX0 5 g1 d1 ["self", "n"] (spInit P w C) := (ok_init T TB h1).mono (by decide)
  have GP : FnOk P w K mg base CX0 6 g2 d2 ["self", "letter"] (spPut P w C) := ok_put T TB h2
  have cl := TB.cls.cl
  have M : Mk K C g1 := ⟨TB.cls.makes, h1.has, h1.isf, TB.cls.kp⟩
  refine h.fn.ok sc_braid_of (fun vs H Q E h => ?_) (fun cdv A0 outer s H vs Q E hr h => ?_)
  · obtain ⟨n, a, ws, rfl, _⟩ := h
    rfl
  · obtain ⟨n, a, ws, rfl, hS, hn, hlen, hall, k⟩ := h
    refine ⟨_, pss_cons (ps_set (i := 2) sc_braid_of.nd rfl (Or.inl rfl) (pe_make M GI hr (by rfl) TB.cls.mg h1.bd .nil pass0 (pa_cons (pv 0) pa_nil)))
      (pss_cons (ps_for PassesOwn.never rfl (pi_list (pv 1)) (pg_name (i := 3) sc_braid_of.nd rfl (Or.inl rfl))
        (pss_one (ps_expr (pe_meth (pv 2) cl h2.mt GP hr h2.bd .nil pass0 (pa_cons (pv 3) pa_nil)))))
      (pss_one (ps_ret (pv 2)))), ?_⟩
    refine ⟨_, rfl, fun x dx nx ndx nex => ⟨n, x, dx, rfl, hn, upd_same, fun H1 A as xs eA B kp hro hkn => ⟨rfl, ?_⟩⟩⟩
    subst eA
    have s0 : L2.Same H (upd (upd H dx (.own A.p)) A.p (.ins C dx [])) := fun b o e => by
      rw [upd_ne (ne_of_none e nx), upd_ne (ne_of_none e ndx)]
      exact e
    have s1 : L2.Same H H1 := fun b o e => kp b o (s0 b o e) (ne_of_none e nx)
    have hro' : H A.ro = Option.none := s0.free hro
    have hkn' : H A.kn = Option.none := s0.free hkn
    refine ⟨_, rfl, a, rfl, ⟨_, s1.seq hS⟩, for_list (K := K) (a := a) (xs := ws.map V.int)
      (fun i σ H2 => ∃ (v : Option V) (A' : Ad) (as : List Addr) (xs : List PE3), σ = [some (.int (n : Nat)), some (.ref a), some (.ref A.p), v] ∧ A'.p = A.p ∧ L2.Same H H2 ∧ H A'.ro = none ∧ H A'.kn = none ∧
        BAt P w C n H2 A' ((ws.take i).foldl (Br.putLetter n) (0, [])).1 ((ws.take i).foldl (Br.putLetter n) (0, [])).2 as xs)
      ⟨none, A, as, xs, rfl, rfl, s1, hro', hkn', B⟩ (fun i σ H2 _ ⟨_, _, _, _, _, _, s2, _⟩ => s2.seq hS) ?_ ?_⟩
    · rintro i y σ H2 hi ⟨v, A', as, xs, rfl, eA, s2, r2, k2, B2⟩
      obtain ⟨z, hz, rfl⟩ := ints_get hi
      obtain ⟨z0, z1⟩ := Br.letter_iff.mp (List.all_eq_true.mp hall z (List.mem_of_getElem? hz))
      have hil : i < ws.length := (List.getElem?_eq_some_iff.mp hz).1
      have hle := Br.fold_le' n (ws.take i) (0, [])
      rw [List.length_take, List.length_nil] at hle
      have hf := fold_take (f := Br.putLetter n) hz (0, [])
      generalize (ws.take i).foldl (Br.putLetter n) (0, []) = st at B2 hle hf ⊢
      obtain ⟨t, rows⟩ := st
      rw [← eA]
      refine ⟨_, rfl, A'.p, A'.dx, _, rfl, B2.ob, f_no A' t (by decide +kernel), _, rfl, n, A', t, rows, as, xs, z, rfl, B2, z0, z1, hn, by show rows.length ≤ 50000; have : rows.length ≤ 0 + min i ws.length := hle; omega, fun H3 r as3 xs3 hr3 B3 F3 => ?_⟩
      have hp' : H A'.p = Option.none := by rw [eA]; exact nx
      refine ⟨_, { A' with ro := r }, as3, xs3, rfl, rfl, fun b o e => F3 b o (s2 b o e) (ne_of_none e hp') (ne_of_none e r2) (ne_of_none e k2), ?_, k2, ?_⟩
      · rcases hr3 with e | e
        · show H r = _
          rw [e]; exact r2
        · exact s2.free e
      · rw [hf]
        exact B3
    · rintro σ H2 ⟨v, A', as, xs, rfl, eA, s2, r2, k2, B2⟩
      rw [List.length_map, List.take_length] at B2
      rw [← eA]
      exact ⟨_, rfl, k H2 A' as xs s2 (by rw [eA]; exact nx) r2 k2 B2⟩
end
end Pl
namespace Pl
open PySem L2 Com Pr
def spFormRows (P : Program) (w : World) (C : Addr) : Sp := fun vs H Q _ => ∃ (n : Nat) (A : Ad) (t : Int) (rows : List (List Nat)) (as : List Addr) (xs : List PE3),
  vs = [.ref A.p] ∧ BAt P w C n H A t rows as xs ∧ n ≤ 16 ∧ rows.length ≤ 50000 ∧
  ∀ H' l bs, L2.Same H H' → H l = none → H' l = some (.lst (bs.map V.ref)) → Paired (RowAt H') bs (Br.phi n t rows) → Q (.ref l) H'
section
variable {P : Program} {w : World} {K : PySem.W.Frag} {mg : Str → Option Value} {base : Heap}
theorem ok_formrows {C : Addr} {f : Addr} {fd : FuncData} (T : Txt K mg) (TB : Txt_Braid K mg C) (h : MHas K C "form_rows" "Braid.form_rows" s_Braid_form_rows ["self"] f fd) : FnOk P w K mg base CX0 2 f fd ["self"] (spFormRows P w C) := by
  obtain ⟨g1, d1, h1⟩ := T.f_turned_over
  have GO : FnOk P w K mg base CX0 1 g1 d1 ["row"] (spOver K) := ok_over T h1
  have cl := TB.cls.cl
  refine h.fn.ok sc_Braid_form_rows (fun vs H Q E h => ?_) (fun cdv A0 outer s H vs Q E hr h => ?_)
  · obtain ⟨n, A, t, rows, as, xs, rfl, _⟩ := h
    rfl
  · obtain ⟨n, A, t, rows, as, xs, rfl, B, hn, hz, k⟩ := h
    refine ⟨_, pss_cons (ps_if (pt_cmpR op_eq (pe_op op_mod (pe_fld (pv 0) rfl) pe_int) pe_int (nomark _))
        (pss_one (ps_ret (pe_lc (own := [("row", 1)]) rfl sc_Braid_form_rows.nd (pi_list (pe_fld (pv 0) rfl)) (blkOk_by (N := ["self", "row"]) (sc := defScope s_Braid_form_rows) (by decide +kernel))
          (fun _ _ _ _ _ => pg_name (i := 1) sc_Braid_form_rows.nd rfl (Or.inl rfl)) (fun _ _ _ _ _ => pts_nil) (fun _ _ _ _ _ => pe_call GO hr (by rfl) h1.mg h1.fn.kp h1.bd .nil pass0 (pa_cons (pv 1) pa_nil))))) pss_nil)
      (pss_one (ps_ret (pe_callTy call_list_of (by rfl) T.b_list PyProof.Rows.boot_list (pa_cons (pe_fld (pv 0) rfl) pa_nil)))), ?_⟩
    refine ⟨_, rfl, A.p, C, A.dx, _, _, rfl, B.ob, cl, TB.n_turns, f_turns A t, _, _, rfl, rfl, by show (0 : Int) < 2; decide, rfl, _, rfl, ?_⟩
    have hal := paired_len B.rs
    by_cases ht : t % 2 = 1
    · have ep : Br.phi n t rows = rows.map (Md08.turned n) := by unfold Br.phi; rw [if_pos ht]
      rw [ep] at k
      refine if_t (decide_eq_true (show V.int (t % 2) = V.int 1 by rw [ht])) ⟨_, rfl, A.p, C, A.dx, _, _, rfl, B.ob, cl, TB.n_rows, f_rows A t, A.ro, rfl, ⟨_, SqL.of B.ro⟩, fun D hD => ?_⟩
      refine lc_list (K := K) (a := A.ro) (xs := as.map V.ref) (fun i H2 => L2.Same H H2 ∧ ∃ bs : List Addr, H2 D = some (.lst (bs.map V.ref)) ∧ Paired (RowAt H2) bs ((rows.map (Md08.turned n)).take i))
        ⟨same_new hD, [], upd_same, by rw [List.take_zero]; exact .nil⟩ (fun i H2 _ ⟨s2, _⟩ => s2.seq (SqL.of B.ro)) ?_ ?_
      · rintro i x H2 hx ⟨s2, bs, hL, hP⟩
        obtain ⟨b, hb, rfl⟩ := refs_get hx
        obtain ⟨row, hrow, hbr⟩ := paired_snd B.rs hb
        have hir : Md08.isRow n row = true := B.isr row (List.mem_of_getElem? hrow)
        have hip : i < rows.length := (List.getElem?_eq_some_iff.mp hrow).1
        refine ⟨rfl, yes (iteT ⟨_, rfl, n, b, row, rfl, SqT.of (s2 _ _ hbr), hir, hn, fun H3 l s3 hl0 hl => ?_⟩)⟩
        have hL3 := s3 _ _ hL
        have hbl : bs.length = min i (rows.length) := by rw [paired_len hP, List.length_take, List.length_map]
        refine ⟨_, hL3, by rw [List.length_map, hbl, sizeLine_eq]; omega, same_put (s2.trans s3) hD, bs ++ [l], by rw [upd_same, List.map_append]; rfl, ?_⟩
        rw [map_take1 _ hrow]
        have tt : Tups H3 (upd H3 D (.lst (bs.map V.ref ++ [V.ref l]))) := tups_upd hL3 (by intro xs z; cases z)
        exact paired_app (tt.rows ((tups_same s3).rows hP)) (.cons (tt _ _ hl) .nil)
      · rintro H2 ⟨s2, bs, hL, hP⟩
        rw [List.length_map, hal, List.take_of_length_le (by rw [List.length_map]; exact Nat.le_refl _)] at hP
        exact k H2 D bs s2 hD hL hP
    · have ep : Br.phi n t rows = rows := by unfold Br.phi; rw [if_neg ht]
      rw [ep] at k
      refine if_f (decide_eq_false (fun z => ht (V.int.inj z))) ⟨_, rfl, A.p, C, A.dx, _, _, rfl, B.ob, cl, TB.n_rows, f_rows A t, A.ro, _, rfl, .inl (SqL.of B.ro), fun l hl => ?_⟩
      have s1 := same_new (o := .lst (as.map V.ref)) hl
      exact k _ l as s1 hl upd_same ((tups_same s1).rows B.rs)
end
end Pl
namespace Pl
open PySem L2 Com Pr
def ansForm (n most : Int) (ws : List Int) : List Int :=
  if (isWord n ws && decide (0 ≤ most)) = true then
    (if most < ((Br.braidW n.toNat ws).2.length : Int) then [-3] else ((Br.braidW n.toNat ws).2.length : Int) :: (Br.braidW n.toNat ws).1 :: Md08.ints (Br.phi n.toNat (Br.braidW n.toNat ws).1 (Br.braidW n.toNat ws).2).flatten) else [-2]
def spForm (K : PySem.W.Frag) : Sp := fun vs H Q _ => ∃ (n most : Int) (a : Addr) (ws : List Int), vs = [.int n, .int most, .ref a] ∧ SqL K H a (ws.map V.int) ∧ NewL H Q (ansForm n most ws)
theorem flat_take {l : List (List Nat)} {i : Nat} {x : List Nat} (h : l[i]? = some x) : (l.take (i + 1)).flatten = (l.take i).flatten ++ x := by
  rw [List.take_add_one, h, List.flatten_append]
  simp
theorem flat_len : ∀ {l : List (List Nat)} {m : Nat}, (∀ x ∈ l, x.length = m) → l.flatten.length = l.length * m
  | [], m, _ => by simp
  | x :: l, m, h => by
    rw [List.flatten_cons, List.length_append, flat_len fun y hy => h y (List.mem_cons_of_mem _ hy), h x (List.mem_cons_self ..), List.length_cons, Nat.succ_mul]
    omega
theorem iR_app (a b : List Nat) : iR (a ++ b) = iR a ++ iR b := by unfold iR Md08.ints; rw [List.map_append, List.map_append]
section
variable {P : Program} {w : World} {K : PySem.W.Frag} {mg : Str → Option Value} {base : Heap}
theorem ok_form {C : Addr} {f : Addr} {fd : FuncData} (T : Txt K mg) (TB : Txt_Braid K mg C) (h : Has K mg "form" s_form ["n", "most", "w"] f fd) : FnOk P w K mg base CX0 8 f fd ["n", "most", "w"] (spForm K) := by
  obtain ⟨g1, d1, h1⟩ := T.f_is_word
  obtain ⟨g2, d2, h2⟩ := T.f_braid_of
  obtain ⟨g3, d3, h3⟩ := TB.m_form_rows
  have GW : FnOk P w K mg base CX0 7 g1 d1 ["n", "w"] (spWord K) := (ok_word T h1).mono (by decide)
  have GB : FnOk P w K mg base CX0 7 g2 d2 ["n", "w"] (spBraid P w K C) := ok_braid T TB h2
  have GR : FnOk P w K mg base CX0 7 g3 d3 ["self"] (spFormRows P w C) := (ok_formrows T TB h3).mono (by decide)
  have cl := TB.cls.cl
  obtain ⟨t2, o2⟩ := T.c_OUT_OF_RANGE
  obtain ⟨t3, o3⟩ := T.c_TOO_MANY
  refine h.fn.ok sc_form (fun vs H Q E h => ?_) (fun cdv A0 outer s H vs Q E hr h => ?_)
  · obtain ⟨n, most, a, ws, rfl, _⟩ := h
    rfl
  · obtain ⟨n, most, a, ws, rfl, hS, kk⟩ := h
    refine ⟨_, pss_cons (ps_if (PW.pt (pw_or (pt_not (pt_truth (pe_call GW hr (by rfl) h1.mg h1.fn.kp h1.bd .nil pass0 (pa_cons (pv 0) (pa_cons (pv 2) pa_nil))) (fun _ => rfl)))
        (pw_or1 (pt_cmpR op_lt (pv 1) pe_int (nomark _))))) (pss_one (ps_ret (pe_lst (pa_cons (pe_glob (v := .int (-2)) (by rfl) o2 ⟨_, rfl⟩) pa_nil)))) pss_nil)
      (pss_cons (ps_set (i := 3) sc_form.nd rfl (Or.inl rfl) (pe_call GB hr (by rfl) h2.mg h2.fn.kp h2.bd .nil pass0 (pa_cons (pv 0) (pa_cons (pv 2) pa_nil))))
      (pss_cons (ps_if (pt_cmpR op_gt (pe_callB call_len_seq (by rfl) T.b_len PySem.boot_len (pa_cons (pe_fld (pv 3) rfl) pa_nil)) (pv 1) (nomark _)) (pss_one (ps_ret (pe_lst (pa_cons (pe_glob (v := .int (-3)) (by rfl) o3 ⟨_, rfl⟩) pa_nil)))) pss_nil)
      (pss_cons (ps_set (i := 4) sc_form.nd rfl (Or.inl rfl) (pe_lst (pa_cons (pe_callB call_len_seq (by rfl) T.b_len PySem.boot_len (pa_cons (pe_fld (pv 3) rfl) pa_nil)) (pa_cons (pe_fld (pv 3) rfl) pa_nil))))
      (pss_cons (ps_for PassesOwn.never rfl (pi_list (pe_meth0 (pv 3) cl h3.mt GR hr h3.bd .nil pass0)) (pg_name (i := 5) sc_form.nd rfl (Or.inl rfl))
        (pss_one (ps_expr (pe_bm PySem.F.plainAttrs_list PySem.F.slot_list_extend PySem.F.type_list_extend mt_extendT (pv 4) (pa_cons (pv 5) pa_nil)))))
      (pss_one (ps_ret (pv 4))))))), ?_⟩
    have bad : (isWord n ws && decide (0 ≤ most)) = false → [V.int (-2)].length ≤ sizeLine ∧ ∀ l, H l = none → Q (.ref l) (upd H l (.lst [V.int (-2)])) := by
      intro e
      refine ⟨by show 1 ≤ sizeLine; decide, fun l hl => ?_⟩
      have e2 : ansForm n most ws = [-2] := by unfold ansForm; rw [e]; rfl
      rw [e2] at kk
      exact kk _ l (same_new hl) hl upd_same
    refine ⟨_, rfl, _, rfl, n, a, ws, rfl, hS, _, rfl, ?_⟩
    cases hw : isWord n ws with
    | false => exact if_t rfl (if_t rfl (bad (by rw [hw]; rfl)))
    | true =>
    refine if_f rfl ⟨_, rfl, _, _, rfl, rfl, _, rfl, ?_⟩
    by_cases hm : 0 ≤ most
    case neg => exact if_t (decide_eq_true (by omega)) (bad (by rw [hw, decide_eq_false hm]; rfl))
    refine if_f (decide_eq_false (by omega)) ?_
    obtain ⟨⟨hn1, hn2⟩, hlen, _⟩ := word_parts hw
    have hall := word_letters hw
    have en : ((n.toNat : Nat) : Int) = n := by omega
    have hn16 : n.toNat ≤ 16 := by omega
    have eok : (isWord n ws && decide (0 ≤ most)) = true := by rw [hw, decide_eq_true hm]; rfl
    refine ⟨_, rfl, _, rfl, n.toNat, a, ws, by rw [en]; rfl, hS, hn16, hlen, hall, fun H1 A as xs s1 p1 r1 k1 B1 => ?_⟩
    have hal := paired_len B1.rs
    have hrl : (Br.braidW n.toNat ws).2.length ≤ 4096 := by
      have z := Br.fold_le n.toNat ws
      omega
    refine ⟨_, rfl, A.p, C, A.dx, _, _, rfl, B1.ob, cl, TB.n_rows, f_rows A _, A.ro, _, rfl, .inl (SqL.of B1.ro), _, rfl, _, _, rfl, rfl, _, rfl, ?_⟩
    rw [List.length_map, hal]
    by_cases hmo : most < ((Br.braidW n.toNat ws).2.length : Int)
    · refine if_t (decide_eq_true hmo) ⟨by show 1 ≤ sizeLine; decide, fun l hl => ?_⟩
      have e2 : ansForm n most ws = [-3] := by unfold ansForm; rw [eok, if_pos rfl, if_pos hmo]
      rw [e2] at kk
      exact kk _ l (s1.trans (same_new hl)) (s1.free hl) upd_same
    refine if_f (decide_eq_false hmo) ?_
    have e2 : ansForm n most ws = ((Br.braidW n.toNat ws).2.length : Int) :: (Br.braidW n.toNat ws).1 :: Md08.ints (Br.phi n.toNat (Br.braidW n.toNat ws).1 (Br.braidW n.toNat ws).2).flatten := by unfold ansForm; rw [eok, if_pos rfl, if_neg hmo]
    rw [e2] at kk
    refine ⟨_, rfl, A.p, C, A.dx, _, _, rfl, B1.ob, cl, TB.n_rows, f_rows A _, A.ro, _, rfl, .inl (SqL.of B1.ro), ?_⟩
    refine ⟨_, rfl, A.p, C, A.dx, _, _, rfl, B1.ob, cl, TB.n_turns, f_turns A _, by show 2 ≤ sizeLine; decide, fun l hl => ?_⟩
    rw [List.length_map, hal]
    have s2 := same_new (o := .lst [V.int ((Br.braidW n.toNat ws).2.length : Int), V.int (Br.braidW n.toNat ws).1]) hl
    have B2 := B1.same s2
    have hlH : H l = Option.none := s1.free hl
    generalize eb : Br.braidW n.toNat ws = bw at B2 B1 hl s2 hrl hal kk
    obtain ⟨t, rows⟩ := bw
    have hgood : Br.Rows n.toNat (Br.phi n.toNat t rows) := Br.phi_rows t B2.isr
    have hphl : (Br.phi n.toNat t rows).length = rows.length := by rw [Br.phi_map, List.length_map]
    refine ⟨_, rfl, A.p, A.dx, _, rfl, B2.ob, f_no A _ (by decide +kernel), n.toNat, A, t, rows, as, xs, rfl, B2, hn16, by have : rows.length ≤ 4096 := hrl; omega, fun H3 q bs s3 hq0 eQ hP => ?_⟩
    have hlq : l ≠ q := fun e => by rw [e] at s2; have z := s3 l _ (by rw [upd_same]); rw [← e, upd_same] at hq0; cases hq0
    refine ⟨q, rfl, ⟨_, SqL.of eQ⟩, for_list (K := K) (a := q) (xs := bs.map V.ref)
      (fun i σ H4 => ∃ v, σ = [some (.int n), some (.int most), some (.ref a), some (.ref A.p), some (.ref l), v] ∧ (∀ b o, H3 b = some o → b ≠ l → H4 b = some o) ∧
        H4 l = some (.lst (V.int (rows.length : Nat) :: V.int t :: iR ((Br.phi n.toNat t rows).take i).flatten)))
      ⟨none, rfl, fun b o e _ => e, by rw [List.take_zero]; exact s3 _ _ upd_same⟩ (fun i σ H4 _ ⟨_, _, k4, _⟩ => SqL.of (k4 _ _ eQ (fun e => hlq e.symm))) ?_ ?_⟩
    · rintro i y σ H4 hi ⟨v, rfl, k4, hL⟩
      obtain ⟨b, hb, rfl⟩ := refs_get hi
      obtain ⟨row, hrow, hbr⟩ := paired_snd hP hb
      have hbl : b ≠ l := fun e => by
        have z := s3 l _ upd_same
        rw [← e] at z
        have hbr' : H3 b = _ := hbr
        rw [hbr'] at z; cases z
      have hB := k4 _ _ hbr hbl
      have hrl' : row.length = n.toNat := Br.row_len (hgood row (List.mem_of_getElem? hrow))
      refine ⟨_, rfl, .inl ⟨rfl, _, SqL.of hL⟩, _, rfl, l, b, _, _, rfl, rfl, hL, SqT.of hB, ?_, ?_⟩
      · have z := flat_len (l := (Br.phi n.toNat t rows).take i) (m := n.toNat) fun x hx => Br.row_len (hgood x (List.mem_of_mem_take hx))
        rw [List.length_take] at z
        rw [List.length_cons, List.length_cons, iR_len, iR_len, z, hrl', sizeLine_eq]
        have z2 : min i (Br.phi n.toNat t rows).length * n.toNat ≤ 4096 * 16 := Nat.mul_le_mul (by rw [hphl]; have : rows.length ≤ 4096 := hrl; omega) hn16
        omega
      · refine ⟨_, rfl, fun c o e hc => by rw [upd_ne hc]; exact k4 c o e hc, ?_⟩
        rw [upd_same, flat_take hrow, iR_app]
        rfl
    · rintro σ H4 ⟨v, rfl, k4, hL⟩
      rw [List.length_map, paired_len hP, List.take_length] at hL
      refine ⟨_, rfl, kk H4 l (fun b o e => k4 b o (s3 _ _ (s2 _ _ (s1 _ _ e))) (ne_of_none e hlH)) hlH hL⟩
end
/-! ### the specification -/
theorem form_ans {n most : Int} {ws : List Int} (h : (isWord n ws && decide (0 ≤ most)) = true) : Md08.answer (.form ws (ws.length : Int) n most) = (if most < ((Br.braidW n.toNat ws).2.length : Int) then Md08.only (-3) else ⟨((Br.braidW n.toNat ws).2.length : Int), (Br.braidW n.toNat ws).1, Md08.ints (Br.phi n.toNat (Br.braidW n.toNat ws).1 (Br.braidW n.toNat ws).2).flatten⟩) := by
  have er : (Md08.Call.form ws (ws.length : Int) n most).right = true := by
    show (Md08.word_ n (ws.length : Int) ws && decide (0 ≤ most)) = true
    rw [← word_eq]
    exact h
  have hne : ¬ (Md08.Call.form ws (ws.length : Int) n most).right = false := by rw [er]; simp
  rw [Bool.and_eq_true] at h
  obtain ⟨⟨hn1, hn2⟩, _, _⟩ := word_parts h.1
  have ef := Br.braid_form (n := n.toNat) (by omega) (word_letters h.1)
  have hl : (Br.phi n.toNat (Br.braidW n.toNat ws).1 (Br.braidW n.toNat ws).2).length = (Br.braidW n.toNat ws).2.length := by rw [Br.phi_map, List.length_map]
  unfold Md08.answer
  rw [if_neg hne]
  show (if most < ((Md08.form n.toNat ws).rows.length : Int) then Md08.only (-3) else ⟨((Md08.form n.toNat ws).rows.length : Int), (Md08.form n.toNat ws).turns, Md08.ints (Md08.form n.toNat ws).rows.flatten⟩) = _
  rw [ef]
  show (if most < ((Br.phi n.toNat (Br.braidW n.toNat ws).1 (Br.braidW n.toNat ws).2).length : Int) then Md08.only (-3) else ⟨((Br.phi n.toNat (Br.braidW n.toNat ws).1 (Br.braidW n.toNat ws).2).length : Int), (Br.braidW n.toNat ws).1, Md08.ints (Br.phi n.toNat (Br.braidW n.toNat ws).1 (Br.braidW n.toNat ws).2).flatten⟩) = _
  rw [hl]
theorem form_bad {n most : Int} {ws : List Int} (h : (isWord n ws && decide (0 ≤ most)) = false) : Md08.answer (.form ws (ws.length : Int) n most) = Md08.only (-2) := by
  have er : (Md08.Call.form ws (ws.length : Int) n most).right = false := by
    show (Md08.word_ n (ws.length : Int) ws && decide (0 ≤ most)) = false
    rw [← word_eq]
    exact h
  unfold Md08.answer
  rw [if_pos er]
theorem form_eq (n most : Int) (ws : List Int) : ansForm n most ws = PyMd08.form n most ws := by
  show ansForm n most ws = (if (Md08.answer (.form ws (ws.length : Int) n most)).value < 0 then [(Md08.answer (.form ws (ws.length : Int) n most)).value] else (Md08.answer (.form ws (ws.length : Int) n most)).value :: (Md08.answer (.form ws (ws.length : Int) n most)).turns :: (Md08.answer (.form ws (ws.length : Int) n most)).out)
  unfold ansForm
  cases h : (isWord n ws && decide (0 ≤ most)) with
  | false =>
    rw [form_bad h, if_neg Bool.false_ne_true]
    rfl
  | true =>
    rw [form_ans h, if_pos rfl]
    by_cases hm : most < ((Br.braidW n.toNat ws).2.length : Int)
    · rw [if_pos hm, if_pos hm]
      rfl
    · rw [if_neg hm, if_neg hm]
      show _ = (if ((Br.braidW n.toNat ws).2.length : Int) < 0 then _ else _)
      rw [if_neg (by omega)]
def Dom (as : List SpecAt.Arg) : Prop := ∃ n most w, as = [.int n, .int most, .lst w]
def ans : List SpecAt.Arg → List Int
  | [.int n, .int most, .lst w] => ansForm n most w
  | _ => []
theorem said : PySem.Challenge.rw_strandforms_s04_form.wellSaid = true := by decide +kernel
theorem pre_of (args : List PySem.W.WData) (h : PySem.Challenge.rw_strandforms_s04_form.pre args = true) : ∃ as : List SpecAt.Arg, args = as.map SpecAt.Arg.data ∧ Dom as ∧ as.length = ["n", "most", "w"].length ∧ (∀ x ∈ as, x.small) ∧
    PySem.Challenge.rw_strandforms_s04_form.post args (.list ((ans as).map PySem.W.WData.int)) = true := by
  obtain ⟨⟨n, most, w, u⟩, hw, hq, rfl⟩ := (PySem.W.OpenSpec.pre_iff said args).mp h
  have hw0 := hw
  have hl : w.length ≤ 4096 := by
    have k := PySem.W.Codec.and_of hw
    have ka := PySem.W.Codec.and_of k.2
    have k2 := PySem.W.Codec.and_of ka.2
    have k3 := PySem.W.Codec.and_of (show (PySem.W.Codec.inLen 0 4096 w && _) = true from k2.1)
    exact (PySem.W.Codec.inNat_iff.mp k3.1).2
  refine ⟨[.int n, .int most, .lst w], rfl, ⟨n, most, w, rfl⟩, rfl, ?_, ?_⟩
  · intro x hx
    simp only [List.mem_cons, List.not_mem_nil, or_false] at hx
    rcases hx with rfl | rfl | rfl
    · trivial
    · trivial
    · show w.length ≤ sizeLine
      rw [sizeLine_eq]; omega
  · refine (PySem.W.OpenSpec.post_iff said hw0 _ []).mpr ?_
    show PySem.W.WData.list ((ansForm n most w).map PySem.W.WData.int) = PySem.W.WData.list ((PyMd08.form n most w).map PySem.W.WData.int)
    rw [form_eq]
theorem sp_of (K : PySem.W.Frag) (H : Hp) (as : List SpecAt.Arg) (vs : List V) (Q : VK) (hd : Dom as) (h : SpecAt.ArgsAt K H as vs) (k : ∀ H' l, H' l = some (.lst ((ans as).map V.int)) → Q (.ref l) H') : spForm K vs H Q E0 := by
  obtain ⟨n, most, w, rfl⟩ := hd
  cases h with
  | int _ h =>
    cases h with
    | int _ h =>
      cases h with
      | lst hS hl h =>
        cases h
        exact ⟨n, most, _, w, rfl, hS, fun H' l _ _ e => k H' l e⟩
end Pl
open PySem PySem.W PyProof.Rows
set_option maxRecDepth 100000 in
set_option maxHeartbeats 0 in
theorem PySem.Challenge.cw_strandforms_s04_form_holds : PySem.Challenge.rw_strandforms_s04_form.Holds := by
  w_on; k_headS; (case hw => exact ⟨[.int 2, .int 0, .list []], by decide +kernel, by decide +kernel⟩)
  k_fillS
  refine SpecAt.walk_spec (r := PySem.Challenge.rw_strandforms_s04_form) (k := 8) (ps := ["n", "most", "w"]) (sp := Pl.spForm) Pl.Dom Pl.ans rfl ⟨rfl, by decide, by decide⟩ (fun w h Y => PySem.W.kIn_of Y) ?F Pl.pre_of Pl.sp_of
  case F =>
    intro w mg fa h KX G hmg
    have T : Pr.Txt (L2.KOf KX) mg := by
      dsimp only [L2.KOf]
      refine' ⟨Com.blt_mk KX G ?b1,
        Com.blt_mk KX G ?b2,
        Com.blt_mk KX G ?b3,
        Com.blt_mk KX G ?b4,
        Com.blt_mk KX G ?b5,
        Com.blt_mk KX G ?b6,
        Com.int_mk KX G ?c7,
        Com.int_mk KX G ?c8,
        Com.int_mk KX G ?c9,
        Com.int_mk KX G ?c10,
        Com.int_mk KX G ?c11,
        Com.int_mk KX G ?c12,
        Com.has_mk KX G ?a13 ?l13 ?d13 ?k13 (fun _ _ _ _ _ _ us hl => match us, hl with | [_], _ => rfl),
        Com.has_mk KX G ?a14 ?l14 ?d14 ?k14 (fun _ _ _ _ _ _ us hl => match us, hl with | [_, _], _ => rfl),
        Com.has_mk KX G ?a15 ?l15 ?d15 ?k15 (fun _ _ _ _ _ _ us hl => match us, hl with | [_, _], _ => rfl),
        Com.has_mk KX G ?a16 ?l16 ?d16 ?k16 (fun _ _ _ _ _ _ us hl => match us, hl with | [_], _ => rfl),
        Com.has_mk KX G ?a17 ?l17 ?d17 ?k17 (fun _ _ _ _ _ _ us hl => match us, hl with | [_], _ => rfl),
        Com.has_mk KX G ?a18 ?l18 ?d18 ?k18 (fun _ _ _ _ _ _ us hl => match us, hl with | [_, _], _ => rfl),
        Com.has_mk KX G ?a19 ?l19 ?d19 ?k19 (fun _ _ _ _ _ _ us hl => match us, hl with | [_], _ => rfl),
        Com.has_mk KX G ?a20 ?l20 ?d20 ?k20 (fun _ _ _ _ _ _ us hl => match us, hl with | [_], _ => rfl),
        Com.has_mk KX G ?a21 ?l21 ?d21 ?k21 (fun _ _ _ _ _ _ us hl => match us, hl with | [_, _, _], _ => rfl),
        Com.has_mk KX G ?a22 ?l22 ?d22 ?k22 (fun _ _ _ _ _ _ us hl => match us, hl with | [_, _], _ => rfl),
        Com.has_mk KX G ?a23 ?l23 ?d23 ?k23 (fun _ _ _ _ _ _ us hl => match us, hl with | [_, _], _ => rfl),
        Com.has_mk KX G ?a24 ?l24 ?d24 ?k24 (fun _ _ _ _ _ _ us hl => match us, hl with | [_, _, _], _ => rfl)⟩
      (case b1 => k_is)
      (case b2 => k_is)
      (case b3 => k_is)
      (case b4 => k_is)
      (case b5 => k_is)
      (case b6 => k_is)
      (case c7 => k_is)
      (case c8 => k_is)
      (case c9 => k_is)
      (case c10 => k_is)
      (case c11 => k_is)
      (case c12 => k_is)
      (case a13 => k_is)
      (case l13 => k_is)
      (case d13 => k_is)
      (case k13 => k_is)
      (case a14 => k_is)
      (case l14 => k_is)
      (case d14 => k_is)
      (case k14 => k_is)
      (case a15 => k_is)
      (case l15 => k_is)
      (case d15 => k_is)
      (case k15 => k_is)
      (case a16 => k_is)
      (case l16 => k_is)
      (case d16 => k_is)
      (case k16 => k_is)
      (case a17 => k_is)
      (case l17 => k_is)
      (case d17 => k_is)
      (case k17 => k_is)
      (case a18 => k_is)
      (case l18 => k_is)
      (case d18 => k_is)
      (case k18 => k_is)
      (case a19 => k_is)
      (case l19 => k_is)
      (case d19 => k_is)
      (case k19 => k_is)
      (case a20 => k_is)
      (case l20 => k_is)
      (case d20 => k_is)
      (case k20 => k_is)
      (case a21 => k_is)
      (case l21 => k_is)
      (case d21 => k_is)
      (case k21 => k_is)
      (case a22 => k_is)
      (case l22 => k_is)
      (case d22 => k_is)
      (case k22 => k_is)
      (case a23 => k_is)
      (case l23 => k_is)
      (case d23 => k_is)
      (case k23 => k_is)
      (case a24 => k_is)
      (case l24 => k_is)
      (case d24 => k_is)
      (case k24 => k_is)
    have T_Braid : ∃ C, Pr.Txt_Braid (L2.KOf KX) mg C := by
      dsimp only [L2.KOf]
      refine' ⟨_, Com.cls_mk KX G ?y25_0 ?y25_1 ?y25_2 ?y25_3 ?y25_4 ?y25_5 ?y25_6,
        Com.noattr_mk ?na26,
        Com.noattr_mk ?na27,
        Com.noattr_mk ?na28,
        Com.noattr_mk ?na29,
        Com.noattr_mk ?na30,
        Com.meth_mk ?a31 ?i31 ?l31 ?d31 ?k31 (fun _ _ _ _ _ _ us hl => match us, hl with | [_, _], _ => rfl),
        Com.meth_mk ?a32 ?i32 ?l32 ?d32 ?k32 (fun _ _ _ _ _ _ us hl => match us, hl with | [_, _], _ => rfl),
        Com.meth_mk ?a33 ?i33 ?l33 ?d33 ?k33 (fun _ _ _ _ _ _ us hl => match us, hl with | [_, _], _ => rfl),
        Com.meth_mk ?a34 ?i34 ?l34 ?d34 ?k34 (fun _ _ _ _ _ _ us hl => match us, hl with | [_], _ => rfl),
        Com.meth_mk ?a35 ?i35 ?l35 ?d35 ?k35 (fun _ _ _ _ _ _ us hl => match us, hl with | [_, _], _ => rfl),
        Com.meth_mk ?a36 ?i36 ?l36 ?d36 ?k36 (fun _ _ _ _ _ _ us hl => match us, hl with | [_, _], _ => rfl),
        Com.meth_mk ?a37 ?i37 ?l37 ?d37 ?k37 (fun _ _ _ _ _ _ us hl => match us, hl with | [_], _ => rfl)⟩
      (case y25_0 => k_is)
      (case y25_1 => k_is)
      (case y25_2 => k_is)
      (case y25_3 => k_is)
      (case y25_4 => k_is)
      (case y25_5 => k_is)
      (case y25_6 => k_is)
      (case na26 => k_is)
      (case na27 => k_is)
      (case na28 => k_is)
      (case na29 => k_is)
      (case na30 => k_is)
      (case a31 => k_is)
      (case i31 => k_is)
      (case l31 => k_is)
      (case d31 => k_is)
      (case k31 => k_is)
      (case a32 => k_is)
      (case i32 => k_is)
      (case l32 => k_is)
      (case d32 => k_is)
      (case k32 => k_is)
      (case a33 => k_is)
      (case i33 => k_is)
      (case l33 => k_is)
      (case d33 => k_is)
      (case k33 => k_is)
      (case a34 => k_is)
      (case i34 => k_is)
      (case l34 => k_is)
      (case d34 => k_is)
      (case k34 => k_is)
      (case a35 => k_is)
      (case i35 => k_is)
      (case l35 => k_is)
      (case d35 => k_is)
      (case k35 => k_is)
      (case a36 => k_is)
      (case i36 => k_is)
      (case l36 => k_is)
      (case d36 => k_is)
      (case k36 => k_is)
      (case a37 => k_is)
      (case i37 => k_is)
      (case l37 => k_is)
      (case d37 => k_is)
      (case k37 => k_is)
    obtain ⟨C_Braid, T_Braid⟩ := T_Braid
    exact Com.main_mk hmg T.f_form (fun f fd H base _ _ => Pl.ok_form T T_Braid H) (fun _ _ _ _ _ _ us hl => match us, hl with | [_, _, _], _ => rfl)
#print axioms PySem.Challenge.cw_strandforms_s04_form_holds
