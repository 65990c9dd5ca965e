import PyProof.Rows.All
import Wide.All
import OpenK.AllK
import Wide.FinOn
import PyProof.EqAt
import PyProof.EqKinds
import PyProof.TupleCall
import KE.BitLaws
import Open.SpecLaws
import KE.OsHead
import KE.OsGo
import PySem.Challenge.RW_sharedring_s01_answers
-- CHANGE: your row's module here, as the last of these rows
set_option Elab.async false
set_option linter.all false
set_option maxRecDepth 100000
/-! THE HAND LAYER, for ints, bools, texts, own classes, lists, tuples, dicts, comprehensions, walks over dicts, enumerate, zip, reversed, texts, calls, loops. Paste it whole ahead of your own text; what your proof does not reach may be deleted. -/
namespace L2
open PySem PySem.Spec PyProof.Rows

/-- a key: an int or a str -/
abbrev Key := Sum Int Str
def keyIs : Key → Value → Bool
  | .inl k, v => Value.isInt k v
  | .inr x, v => Value.isStrOf x v
def keyH (w : World) : Key → Int
  | .inl k => hashInt k
  | .inr x => hashStr w x
theorem keyIs_shape : ∀ {k : Key} {v : Value}, keyIs k v = true → (∃ i t, k = Sum.inl i ∧ v = Value.int i t) ∨ (∃ x t, k = Sum.inr x ∧ v = Value.str x t)
  | .inl i, v, h => by
    obtain ⟨t, e⟩ := Value.isInt_shape (k := i) (v := v) h
    exact .inl ⟨i, t, rfl, e⟩
  | .inr x, v, h => by
    obtain ⟨t, e⟩ := Value.isStrOf_shape (x := x) (v := v) h
    exact .inr ⟨x, t, rfl, e⟩
theorem key_ll (a b : Int) : decide ((Sum.inl a : Key) = Sum.inl b) = (a == b) := by
  by_cases e : a = b
  · subst e; simp
  · have h : ¬ (Sum.inl a : Key) = Sum.inl b := fun q => e (Sum.inl.inj q)
    rw [decide_eq_false h]
    exact (beq_eq_false_iff_ne.mpr e).symm
theorem key_rr (a b : Str) : decide ((Sum.inr a : Key) = Sum.inr b) = decide (a = b) := by
  by_cases e : a = b
  · subst e; simp
  · have h : ¬ (Sum.inr a : Key) = Sum.inr b := fun q => e (Sum.inr.inj q)
    rw [decide_eq_false h, decide_eq_false e]
theorem key_lr (a : Int) (b : Str) : decide ((Sum.inl a : Key) = Sum.inr b) = false := decide_eq_false (fun q => nomatch q)
theorem key_rl (a : Str) (b : Int) : decide ((Sum.inr a : Key) = Sum.inl b) = false := decide_eq_false (fun q => nomatch q)

def mixKind (prog : Program) (w : World) : PySem.KeyKind prog w Key where
  is := keyIs
  hash := keyH w
  inj := fun v a b ha hb => by
    rcases keyIs_shape ha with ⟨i, t, rfl, rfl⟩ | ⟨x, t, rfl, rfl⟩
    · rcases keyIs_shape hb with ⟨j, u, rfl, e⟩ | ⟨y, u, rfl, e⟩
      · injection e with e1 _; rw [e1]
      · exact nomatch e
    · rcases keyIs_shape hb with ⟨j, u, rfl, e⟩ | ⟨y, u, rfl, e⟩
      · exact nomatch e
      · injection e with e1 _; rw [e1]
  byValue := fun k v h => by
    rcases keyIs_shape h with ⟨i, t, rfl, rfl⟩ | ⟨x, t, rfl, rfl⟩ <;> rfl
  pyHash := fun hv h => by
    rcases keyIs_shape hv with ⟨i, t, rfl, rfl⟩ | ⟨x, t, rfl, rfl⟩
    · exact wpAny_pyHash_int h
    · exact wpAny_pyHash_str h
  eqBool := fun hu hv h => by
    rcases keyIs_shape hu with ⟨i, t, rfl, rfl⟩ | ⟨x, t, rfl, rfl⟩
    · rcases keyIs_shape hv with ⟨j, u, rfl, rfl⟩ | ⟨y, u, rfl, rfl⟩
      · rw [key_ll] at h; exact wpAny_eqBool_int h
      · rw [key_lr] at h; exact SeqAt.EqAt.int_str i t y u _ _ _ _ h
    · rcases keyIs_shape hv with ⟨j, u, rfl, rfl⟩ | ⟨y, u, rfl, rfl⟩
      · rw [key_rl] at h; exact SeqAt.EqAt.str_int x t j u _ _ _ _ h
      · rw [key_rr] at h; exact wpAny_eqBool_str h
  «strs» := fun k x t v h => by
    rcases keyIs_shape h with ⟨i, u, rfl, e⟩ | ⟨y, u, rfl, e⟩
    · exact nomatch e
    · injection e with e1 _
      subst e1
      cases v <;> rfl

end L2

namespace L2
open PySem PySem.Spec PyProof.Rows

/-- a value, without the heap -/
inductive V where
  | non | bl (b : Bool) | int (i : Int) | str (x : Str) | byt (b : Array UInt8) | flt (b : UInt64) | ref (a : Addr) | ty (n : String)
  deriving DecidableEq

def RelV : V → Value → Prop
  | .non, u => u = Value.none
  | .bl b, u => u = Value.bool b
  | .int i, u => ∃ t, u = Value.int i t
  | .str x, u => ∃ t, u = Value.str x t
  | .byt b, u => ∃ t, u = Value.bytes b t
  | .flt b, u => ∃ t, u = Value.float b t
  | .ref a, u => u = Value.ref a
  | .ty n, u => u = Value.type n

abbrev Vals : List V → List Value → Prop := Paired RelV
theorem Vals.length {xs : List V} {us : List Value} (r : Vals xs us) : xs.length = us.length := Paired.length r
theorem Vals.get : ∀ {xs : List V} {us : List Value} {i : Nat} {x : V}, Vals xs us → xs[i]? = some x → ∃ u, us[i]? = some u ∧ RelV x u
  | _, _, _, _, .nil, e => by simp at e
  | _, _, 0, _, .cons r _, e => by simp at e; subst e; exact ⟨_, rfl, r⟩
  | _, _, i + 1, x, .cons _ t, e => by
    obtain ⟨u, h1, h2⟩ := Vals.get (i := i) (x := x) t (by simpa using e)
    exact ⟨u, by simpa using h1, h2⟩
theorem Vals.set {x : V} {u : Value} (r : RelV x u) : ∀ {xs : List V} {us : List Value} (i : Nat), Vals xs us → Vals (xs.set i x) (us.set i u)
  | _, _, _, .nil => .nil
  | _, _, 0, .cons _ t => .cons r t
  | _, _, i + 1, .cons q t => .cons q (Vals.set r i t)
theorem Vals.append : ∀ {xs ys : List V} {us ws : List Value}, Vals xs us → Vals ys ws → Vals (xs ++ ys) (us ++ ws)
  | _, _, _, _, .nil, s => s
  | _, _, _, _, .cons r t, s => .cons r (Vals.append t s)
theorem Vals.take : ∀ {xs : List V} {us : List Value} (n : Nat), Vals xs us → Vals (xs.take n) (us.take n)
  | _, _, 0, _ => .nil
  | _, _, _ + 1, .nil => .nil
  | _, _, n + 1, .cons r t => .cons r (Vals.take n t)
theorem Vals.drop : ∀ {xs : List V} {us : List Value} (n : Nat), Vals xs us → Vals (xs.drop n) (us.drop n)
  | _, _, 0, r => r
  | _, _, _ + 1, .nil => .nil
  | _, _, n + 1, .cons _ t => Vals.drop n t
def RelO : Option V → Option Value → Prop
  | some v, some u => RelV v u
  | none, none => True
  | _, _ => False
def KV {κ : Type} : List (κ × V) → List (κ × Value) → Prop := Paired fun (p : κ × V) (q : κ × Value) => p.1 = q.1 ∧ RelV p.2 q.2

/-- a key of a dict (00_mix): an int or a text -/
def kV : Key → V
  | .inl i => .int i
  | .inr x => .str x

/-- what stands at a tracked address -/
inductive HO where
  /-- a list -/
  | lst (xs : List V)
  /-- a tuple (never changes) -/
  | tup (xs : List V)
  /-- a dict whose keys are ints and texts; one whose keys are tuples of ints and texts (the empty one is both) -/
  | dK (kvs : List (Key × V)) | dT (kvs : List (List Key × V))
  /-- a set of ints: its members, its size -/
  | set (S : Int → Bool) (n : Nat)
  /-- an instance of the class at C, its dict at dx, its attributes -/
  | ins (C dx : Addr) (fs : List (Str × V))
  /-- the dict of the instance at x -/
  | own (x : Addr)
  /-- the dict of an exception -/
  | xd (fs : List (Str × V))
  /-- a bound method, f of x -/
  | met (f x : Addr)
  /-- a range object lo, lo + 1, .. below hi -/
  | rng (lo hi : Int)
  /-- a thing that is known to the object (the script; a dict while a loop walks it): read, never written while it is so -/
  | frz (o : Obj) (u : HO)
  /-- a code object's table -/
  | tbl (ps : Array Value)
  /-- any other thing, by what is true of its one object (a def of one's own: SetO a S n := HO.ext fun h => ..) -/
  | ext (φ : Heap → Prop)

abbrev Hp := Addr → Option HO
def upd (H : Hp) (a : Addr) (o : HO) : Hp := fun b => if b = a then some o else H b
theorem upd_same {H : Hp} {a : Addr} {o : HO} : upd H a o a = some o := by unfold upd; rw [if_pos rfl]
theorem upd_ne {H : Hp} {a b : Addr} {o : HO} (h : b ≠ a) : upd H a o b = H b := by unfold upd; rw [if_neg h]
theorem upd_upd {H : Hp} {a : Addr} {o u : HO} : upd (upd H a o) a u = upd H a u := by
  funext b; unfold upd; split <;> rfl
/-- two objects of different content stand apart -/
theorem ne_of {H : Hp} {a b : Addr} {o u : HO} (h : H a = some o) (h' : H b = some u) (d : o ≠ u) : a ≠ b := by
  intro e; subst e; rw [h] at h'; exact d (Option.some.inj h')
theorem ne_of_none {H : Hp} {a b : Addr} {o : HO} (h : H a = some o) (h' : H b = none) : a ≠ b := by
  intro e; subst e; rw [h] at h'; cases h'

section
variable (P : Program) (w : World)
def ObjOk (H : Hp) (h : Heap) (a : Addr) : HO → Prop
  | .lst xs => xs.length ≤ sizeLine ∧ ∃ (its : List Value) (n : Nat), Vals xs its ∧ h.get? a = some { cls := .type "list", data := .seq its.toArray n }
  | .tup xs => xs.length ≤ sizeLine ∧ ∃ its : List Value, Vals xs its ∧ IsTup h a its.toArray
  | .dK kvs => kvs.length ≤ sizeLine ∧ (a == sysModules) = false ∧ ∃ vs, KV kvs vs ∧ h.DictOf (mixKind P w) a vs
  | .dT kvs => kvs.length ≤ sizeLine ∧ (a == sysModules) = false ∧ ∃ xs : List (List Key × Addr × Value),
      Paired (fun (p : List Key × V) (q : List Key × Addr × Value) => p.1 = q.1 ∧ H q.2.1 = some (.tup (p.1.map kV)) ∧ RelV p.2 q.2.2) kvs xs ∧
      ∃ o es ep, h.get? a = some o ∧ o.ExactDict ∧ o.data = .dict es ep ∧ es.toList = xs.map (entryOfKey (tupleKind (mixKind P w))) ∧ (xs.map (·.1)).Nodup
  | .set S n => h.SetOf (intKind P w) a S n
  | .ins C dx fs => H dx = some (.own a) ∧ fs.length ≤ 1000 ∧ dx ≠ a ∧ h.get? a = some (PySem.W.instObj C dx) ∧
      ∃ mA, h.Ns1 dx mA ∧ (∀ f, RelO (fs.lookup f) (mA f)) ∧ PySem.Within mA (fs.map (·.1))
  | .own _ => ∃ o, h.get? a = some o
  | .xd fs => ∃ mA, h.Ns1 a mA ∧ ∀ f, RelO (fs.lookup f) (mA f)
  | .rng lo hi => ∃ t u v, h.get? a = some { cls := .type "range", data := .fields #[.int lo t, .int hi u, .int 1 v] }
  | .frz o u => h.get? a = some o ∧ ObjOk H h a u
  | .tbl ps => h.get? a = some { cls := .none, data := .fields ps }
  | .met f x => h.get? a = some (PySem.W.methodObj (.ref f) (.ref x))
  | .ext φ => φ h ∧ (∃ o, h.get? a = some o) ∧ ∀ h1 h2 : Heap, φ h1 → (∀ o, h1.get? a = some o → h2.get? a = some o) → φ h2
/-- the abstract heap is held -/
def HOk (H : Hp) (h : Heap) : Prop := ∀ a o, H a = some o → ObjOk P w H h a o
end

section
variable {P : Program} {w : World} {H H' : Hp} {h h' : Heap} {a : Addr} {o : HO}
theorem ObjOk.lt (x : ObjOk P w H h a o) : a < h.objs.size := by
  cases o with
  | lst xs => obtain ⟨_, _, _, _, e⟩ := x; exact Heap.lt_size e
  | tup xs => obtain ⟨_, _, _, p⟩ := x; exact p.lt
  | dK kvs => obtain ⟨_, _, _, _, o, _, _, e, _⟩ := x; exact Heap.lt_size e
  | dT kvs => obtain ⟨_, _, _, _, o, _, _, e, _⟩ := x; exact Heap.lt_size e
  | set S n => obtain ⟨o, _, _, _, e, _⟩ := x; exact Heap.lt_size e
  | ins C dx fs => obtain ⟨_, _, _, e, _⟩ := x; exact Heap.lt_size e
  | own y => obtain ⟨_, e⟩ := x; exact Heap.lt_size e
  | xd fs => obtain ⟨_, ⟨_, _, _, e, _⟩, _⟩ := x; exact Heap.lt_size e
  | rng lo hi => obtain ⟨_, _, _, e⟩ := x; exact Heap.lt_size e
  | frz ob u => obtain ⟨e, _⟩ := x; exact Heap.lt_size e
  | tbl ps => exact Heap.lt_size (show h.get? a = some _ from x)
  | met f y => exact Heap.lt_size (show h.get? a = some _ from x)
  | ext φ => obtain ⟨_, ⟨_, e⟩, _⟩ := x; exact Heap.lt_size e
theorem Paired.mapP {α β : Type} {F G : α → β → Prop} : ∀ {l₁ : List α} {l₂ : List β}, Paired F l₁ l₂ → (∀ a b, F a b → G a b) → Paired G l₁ l₂
  | _, _, .nil, _ => .nil
  | _, _, .cons r t, f => .cons (f _ _ r) (Paired.mapP t f)
/-- what an object's description leans on: its own object, its own dict, the tuples -/
theorem ObjOk.stay (x : ObjOk P w H h a o) (k : ∀ b u, (b = a ∨ H b = some (.own a)) → h.get? b = some u → h'.get? b = some u)
    (ho : ∀ b, H b = some (.own a) → H' b = some (.own a)) (ht : ∀ b xs, H b = some (.tup xs) → H' b = some (.tup xs)) : ObjOk P w H' h' a o := by
  induction o with
  | lst xs => obtain ⟨z, its, n, r, e⟩ := x; exact ⟨z, its, n, r, k _ _ (.inl rfl) e⟩
  | tup xs => obtain ⟨z, its, r, ob, e, c⟩ := x; exact ⟨z, its, r, ob, k _ _ (.inl rfl) e, c⟩
  | dK kvs => obtain ⟨z, y, vs, r, ob, es, ep, e, c⟩ := x; exact ⟨z, y, vs, r, ob, es, ep, k _ _ (.inl rfl) e, c⟩
  | dT kvs =>
    obtain ⟨z, y, xs, r, ob, es, ep, e, c⟩ := x
    exact ⟨z, y, xs, Paired.mapP r fun p q z => ⟨z.1, ht _ _ z.2.1, z.2.2⟩, ob, es, ep, k _ _ (.inl rfl) e, c⟩
  | set S n => obtain ⟨ob, es, ep, t, e, c⟩ := x; exact ⟨ob, es, ep, t, k _ _ (.inl rfl) e, c⟩
  | ins C dx fs =>
    obtain ⟨d, z, ne, e, mA, ⟨od, es, ep, e2, c⟩, r⟩ := x
    exact ⟨ho _ d, z, ne, k _ _ (.inl rfl) e, mA, ⟨od, es, ep, k _ _ (.inr d) e2, c⟩, r⟩
  | own y => obtain ⟨ob, e⟩ := x; exact ⟨ob, k _ _ (.inl rfl) e⟩
  | xd fs => obtain ⟨mA, ⟨od, es, ep, e, c⟩, r⟩ := x; exact ⟨mA, ⟨od, es, ep, k _ _ (.inl rfl) e, c⟩, r⟩
  | rng lo hi => obtain ⟨t, u, v, e⟩ := x; exact ⟨t, u, v, k _ _ (.inl rfl) e⟩
  | frz ob u ih => obtain ⟨e, q⟩ := x; exact ⟨k _ _ (.inl rfl) e, ih q⟩
  | tbl ps =>
    have e : h.get? a = some { cls := .none, data := .fields ps } := x
    show h'.get? a = some { cls := .none, data := .fields ps }
    exact k a _ (.inl rfl) e
  | met f y =>
    have e : h.get? a = some (PySem.W.methodObj (.ref f) (.ref y)) := x
    show h'.get? a = some (PySem.W.methodObj (.ref f) (.ref y))
    exact k a _ (.inl rfl) e
  | ext φ => obtain ⟨p, ⟨o, e⟩, st⟩ := x; exact ⟨st _ _ p fun o q => k _ _ (.inl rfl) q, ⟨o, k _ _ (.inl rfl) e⟩, st⟩
theorem HOk.lt (x : HOk P w H h) (e : H a = some o) : a < h.objs.size := (x a o e).lt
theorem HOk.fresh (x : HOk P w H h) (e : h.objs.size ≤ a) : H a = none := by
  cases q : H a with
  | none => rfl
  | some u => exact absurd (Nat.lt_of_lt_of_le (x.lt q) e) (Nat.lt_irrefl _)
/-- every object of the heap is kept -/
theorem HOk.kept (x : HOk P w H h) (k : ∀ b u, h.get? b = some u → h'.get? b = some u) : HOk P w H h' := fun a o e =>
  (x a o e).stay (fun b u _ q => k b u q) (fun _ q => q) fun _ _ q => q
/-- a new object is laid and tracked -/
theorem HOk.laid (x : HOk P w H h) (k : ∀ b u, h.get? b = some u → h'.get? b = some u) (hp : h.objs.size ≤ a) (new : ObjOk P w (upd H a o) h' a o) : HOk P w (upd H a o) h' := fun b u e => by
  have hn := x.fresh hp
  by_cases hb : b = a
  · subst hb; rw [upd_same] at e; cases e; exact new
  · rw [upd_ne hb] at e
    exact (x b u e).stay (fun c v _ q => k c v q) (fun c q => by rw [upd_ne (ne_of_none q hn)]; exact q) fun c xs q => by rw [upd_ne (ne_of_none q hn)]; exact q
end

/-- what may be read as u: it is u, or a known u -/
def Rd (H : Hp) (a : Addr) (u : HO) : Prop := H a = some u ∨ ∃ o, H a = some (.frz o u)
theorem Rd.ok {P : Program} {w : World} {H : Hp} {h : Heap} {a : Addr} {u : HO} (r : Rd H a u) (x : HOk P w H h) : ObjOk P w H h a u := by
  rcases r with r | ⟨o, r⟩
  · exact x a u r
  · obtain ⟨_, q⟩ := x a _ r
    exact q
/-- what may be written -/
def Mut : Option HO → Prop
  | some (.lst _) => True
  | some (.dK _) => True
  | some (.dT _) => True
  | some (.set _ _) => True
  | some (.ins _ _ _) => True
  | some (.ext _) => True
  | _ => False
section
variable {P : Program} {w : World} {H : Hp} {h h' : Heap} {x e : Addr} {o' : HO}
/-- the object at e is changed: x itself, or the dict of the instance x -/
theorem HOk.write (ok : HOk P w H h) (mu : Mut (H x)) (he : e = x ∨ H e = some (.own x)) (k : ∀ b u, b ≠ e → h.get? b = some u → h'.get? b = some u) (heo : ∃ u, h'.get? e = some u)
    (new : ObjOk P w (upd H x o') h' x o') : HOk P w (upd H x o') h' := fun b u q => by
  have nown : ∀ c y, H c = some (.own y) → c ≠ x := fun c y r z => by subst z; rw [r] at mu; exact mu
  have ntup : ∀ c xs, H c = some (.tup xs) → c ≠ x := fun c xs r z => by subst z; rw [r] at mu; exact mu
  by_cases hb : b = x
  · subst hb; rw [upd_same] at q; cases q; exact new
  · rw [upd_ne hb] at q
    by_cases hbe : b = e
    · have q' : H b = some (.own x) := by
        rcases he with z | z
        · exact absurd (hbe.trans z) hb
        · rw [hbe]; exact z
      rw [q] at q'; cases q'
      obtain ⟨v, hv⟩ := heo
      exact ⟨v, by rw [hbe]; exact hv⟩
    · refine (ok b u q).stay (fun c v hc r => k c v ?_ r) (fun c r => by rw [upd_ne (nown c b r)]; exact r) fun c xs r => by rw [upd_ne (ntup c xs r)]; exact r
      rcases hc with rfl | hc
      · exact hbe
      · rintro rfl
        rcases he with z | z
        · exact nown c b hc z
        · rw [hc] at z; cases z; exact hb rfl
end

/-! ### kept unless tracked; of the frames at fs (the callers') the slots may change (an exception that passes writes there); of the records at ex (iterators) nothing is said -/
structure Un (fs ex : List Addr) (H H' : Hp) (h h' : Heap) : Prop where
  keep : ∀ b o, h.get? b = some o → H b = none → b ∉ fs → b ∉ ex → h'.get? b = some o
  slot : ∀ b o, h.get? b = some o → H b = none → b ∈ fs → b ∉ ex → ∃ sl, h'.get? b = some { o with slots := sl }
  free : ∀ b o, h.get? b = some o → H b = none → b ∉ ex → H' b = none
  there : ∀ b o, h.get? b = some o → b ∉ ex → ∃ o', h'.get? b = some o'
  tups : ∀ b xs, H b = some (.tup xs) → H' b = some (.tup xs)
  frzs : ∀ b o u, H b = some (.frz o u) → H' b = some (.frz o u)
  tbls : ∀ b ps, H b = some (.tbl ps) → ∃ more, H' b = some (.tbl (ps ++ more))
section
variable {fs fs' ex ex' : List Addr} {H H1 H2 : Hp} {h h1 h2 h' : Heap} {a x e : Addr} {o : HO}
theorem Un.any (u : Un fs ex H H1 h h1) {b : Addr} {ob : Obj} (q : h.get? b = some ob) (n : H b = none) (hx : b ∉ ex) : ∃ sl, h1.get? b = some { ob with slots := sl } := by
  by_cases hb : b ∈ fs
  · exact u.slot b ob q n hb hx
  · exact ⟨ob.slots, u.keep b ob q n hb hx⟩
theorem Un.kept (k : ∀ b u, h.get? b = some u → h'.get? b = some u) : Un fs ex H H h h' :=
  ⟨fun b ob q _ _ _ => k b ob q, fun b ob q _ _ _ => ⟨ob.slots, k b ob q⟩, fun _ _ _ n _ => n, fun b ob q _ => ⟨ob, k b ob q⟩, fun _ _ q => q, fun _ _ _ q => q, fun _ ps q => ⟨#[], by rw [q]; simp⟩⟩
theorem Un.refl : Un fs ex H H h h := Un.kept fun _ _ q => q
theorem Un.laid (k : ∀ b u, h.get? b = some u → h'.get? b = some u) (hp : h.objs.size ≤ a) (hn : H a = none) : Un fs ex H (upd H a o) h h' where
  keep := fun b u q _ _ _ => k b u q
  slot := fun b u q _ _ _ => ⟨u.slots, k b u q⟩
  free := fun b u q n _ => by rw [upd_ne (Nat.ne_of_lt (Nat.lt_of_lt_of_le (Heap.lt_size q) hp))]; exact n
  there := fun b u q _ => ⟨u, k b u q⟩
  tups := fun b xs q => by rw [upd_ne (ne_of_none q hn)]; exact q
  frzs := fun b u xs q => by rw [upd_ne (ne_of_none q hn)]; exact q
  tbls := fun b ps q => ⟨#[], by rw [upd_ne (ne_of_none q hn), q]; simp⟩
theorem Un.write (mu : Mut (H x)) (he : e = x ∨ H e = some (.own x)) (k : ∀ b u, b ≠ e → h.get? b = some u → h'.get? b = some u) (heo : ∃ u, h'.get? e = some u) : Un fs ex H (upd H x o) h h' := by
  have hx : ∀ b, H b = none → b ≠ x := fun b n z => by subst z; rw [n] at mu; exact mu
  have hb : ∀ b, H b = none → b ≠ e := fun b n z => by
    subst z
    rcases he with r | r
    · exact hx b n r
    · rw [n] at r; cases r
  have hm : ∀ b u, H b = some u → ¬ Mut (some u) → b ≠ x := fun b u q nm z => by subst z; rw [q] at mu; exact nm mu
  refine ⟨fun b u q n _ _ => k b u (hb b n) q, fun b u q n _ _ => ⟨u.slots, k b u (hb b n) q⟩, fun b u q n _ => by rw [upd_ne (hx b n)]; exact n, fun b u q _ => ?_,
    fun b xs q => by rw [upd_ne (hm b _ q fun z => z)]; exact q, fun b u xs q => by rw [upd_ne (hm b _ q fun z => z)]; exact q, fun b ps q => ⟨#[], by rw [upd_ne (hm b _ q fun z => z), q]; simp⟩⟩
  by_cases hbe : b = e
  · subst hbe; exact heo
  · exact ⟨u, k b u hbe q⟩
end

/-! ### the heap without what is tracked -/
def trk (h : Heap) (H : Hp) : List Addr := (List.range h.objs.size).filter fun a => (H a).isSome
def hidT (h : Heap) (H : Hp) : Heap := PySem.W.hideAll h (trk h H)
theorem hidT_size (h : Heap) (H : Hp) : (hidT h H).objs.size = h.objs.size := PySem.W.hideAll_size _ _
theorem hidT_get {h : Heap} {H : Hp} {b : Addr} {o : Obj} (e : h.get? b = some o) (n : H b = none) : (hidT h H).get? b = some o :=
  PySem.W.hideAll_get _ e fun hm => by
    have q : (H b).isSome = true := (List.mem_filter.mp hm).2
    rw [n] at q; simp at q
theorem of_hidT {h : Heap} {H : Hp} {b : Addr} {o : Obj} (e : (hidT h H).get? b = some o) : h.get? b = some o ∧ H b = none := by
  have e' : h.get? b = some o := PySem.W.of_hideAll (trk h H) e
  refine ⟨e', ?_⟩
  cases q : H b with
  | none => rfl
  | some x =>
    have hm : b ∈ trk h H := List.mem_filter.mpr ⟨List.mem_range.mpr (Heap.lt_size e'), by simp [q]⟩
    have z : (hidT h H).get? b = none := PySem.W.hideAll_none (trk h H) hm
    rw [z] at e; cases e

/-! ### OpenK's ledger, filled with every new object but one -/
end L2

namespace L2
open PySem PySem.Spec PyProof.Rows

/-- the module's facts, over the base: the heap at the law's entry without what is tracked there -/
structure Mod (K : PySem.W.Frag) (mg : Str → Option Value) (base : Heap) : Prop where
  kin : K.In base
  glob : base.Ns mainGlobals mg
  blt : ∃ mb, base.Ns builtinsNs mb ∧ ∀ x : Str, x ≠ "__name__" → mb x = bootBuiltins x
  nolimit : base.NoLimit

/-- the context: a def's body (or a comprehension's block) running. base: fixed through the whole law; s₀, H₀: the entry; outer: the frames whose slots others may change (a def's callers); stack: all frames that run;
   ex: iterators that were made ahead of the entry and are walked here (a comprehension's); fn: the names whose cells were made at the entry (a def: all; a comprehension's block: its own); calm: not within an except suite; pn: pins that every state bears; xe: what is wanted of an exception that leaves the code -/
structure Cx where
  prog : Program
  w : World
  K : PySem.W.Frag
  mg : Str → Option Value
  base : Heap
  A : Around
  N : List Str
  s_0 : Shared
  H_0 : Hp
  env : Env
  outer : List Env
  stack : List Env
  ex : List Addr
  fn : Str → Bool
  calm : Bool
  pn : List (Addr × Obj)
  xe : Value → Shared → Prop
/-- the callers' frames -/
def frs (l : List Env) : List Addr := l.filterMap (·.frame)
abbrev Cx.fs (X : Cx) : List Addr := frs X.outer

def Vis (sc : Scope) (x : Str) : Prop := sc.names.lookup x = some .local ∨ sc.names.lookup x = some .cell ∨ sc.names.lookup x = some .free
def Loc (sc : Scope) (x : Str) : Prop := sc.names.lookup x = some .local ∨ sc.names.lookup x = some .cell
def Look (env : Env) (h : Heap) (m : Str → Option Value) (x : Str) (u : Value) : Prop :=
  (env.kindOf x = some .local ∧ m x = some u) ∨ ((env.kindOf x = some .cell ∨ env.kindOf x = some .free) ∧ ∃ c, env.cells.lookup x = some c ∧ h.IsCell c (some u))

structure Cx.Ok (X : Cx) : Prop where
  mod : Mod X.K X.mg X.base
  kind : X.env.scope.kind = .function
  glob : X.env.globals = mainGlobals
  blt : X.env.builtins = builtinsNs
  above : X.s_0.heap.objs.size ≤ X.env.locals
  inj : ∀ x y c, X.env.cells.lookup x = some c → X.env.cells.lookup y = some c → x = y
  has : ∀ x, (X.env.kindOf x = some .cell ∨ X.env.kindOf x = some .free) → ∃ c, X.env.cells.lookup x = some c
  cab : ∀ x c, X.fn x = true → X.env.cells.lookup x = some c → X.s_0.heap.objs.size ≤ c
  hd : X.calm = true → X.A.handled = none
  frames : X.A.frames = some X.stack
  stk : X.stack = X.outer ∨ (X.stack = X.env :: X.outer ∧ X.env.frame = some X.env.locals)
  exf : ∀ b ∈ X.ex, b ≠ X.env.locals ∧ ∀ x c, X.env.cells.lookup x = some c → c ≠ b
  bs : ∀ b o, X.base.get? b = some o → X.s_0.heap.get? b = some o ∧ X.H_0 b = none
  bsz : X.base.objs.size ≤ X.s_0.heap.objs.size
  noex : ∀ b o, X.base.get? b = some o → b ∉ X.ex
  exfs : ∀ b ∈ X.ex, b ∉ X.fs
  funs : X.s_0.heap.FunFrames X.base X.outer
  frf : ∀ b ∈ X.fs, X.H_0 b = none

structure Inv (X : Cx) (pins : List (Addr × Obj)) (σ : List (Option V)) (H : Hp) (s : Shared) : Prop where
  ok : X.Ok
  os : s.os = X.s_0.os
  bare : AllBare s.gens
  base : Un X.fs X.ex X.H_0 H X.s_0.heap s.heap
  loc : ∃ m, s.heap.Ns X.env.locals m ∧ ∀ (i : Nat) (x : Str) (v : V), X.N[i]? = some x → σ[i]? = some (some v) → Vis X.env.scope x → ∃ u, RelV v u ∧ Look X.env s.heap m x u
  cell : ∀ x c, X.env.cells.lookup x = some c → ∃ v, s.heap.IsCell c v
  free : H X.env.locals = none
  freeC : ∀ x c, X.env.cells.lookup x = some c → H c = none
  pin : ∀ p ∈ X.pn ++ pins, s.heap.get? p.1 = some p.2 ∧ H p.1 = none ∧ p.1 ≠ X.env.locals ∧ p.1 ∉ X.fs ∧ ∀ v, p.2.data ≠ .cell v
  hok : HOk X.prog X.w H s.heap
  len : σ.length = X.N.length

section
variable {X : Cx} {pins : List (Addr × Obj)} {σ : List (Option V)} {H H' : Hp} {s : Shared} {h' : Heap}

theorem Cx.Ok.nofr (ok : X.Ok) {b : Addr} {o : Obj} (e : X.base.get? b = some o) : b ∉ X.fs := fun hb => by
  have := (ok.funs.mem hb).1
  rw [e] at this; cases this
theorem Inv.bs (I : Inv X pins σ H s) : ∀ b o, X.base.get? b = some o → s.heap.get? b = some o ∧ H b = none := fun b o e =>
  ⟨I.base.keep b o (I.ok.bs b o e).1 (I.ok.bs b o e).2 (I.ok.nofr e) (I.ok.noex b o e), I.base.free b o (I.ok.bs b o e).1 (I.ok.bs b o e).2 (I.ok.noex b o e)⟩
theorem Inv.bk (I : Inv X pins σ H s) : ∀ b o, X.base.get? b = some o → s.heap.get? b = some o := fun b o e => (I.bs b o e).1
theorem Inv.mod (I : Inv X pins σ H s) : Mod X.K X.mg X.base := I.ok.mod
theorem Inv.kIn (I : Inv X pins σ H s) : X.K.In s.heap := I.ok.mod.kin.keeps I.bk
theorem Inv.lt (I : Inv X pins σ H s) : X.env.locals < s.heap.objs.size := let ⟨_, hn, _⟩ := I.loc; hn.lt
theorem Inv.sz (I : Inv X pins σ H s) : X.s_0.heap.objs.size ≤ s.heap.objs.size := Nat.le_trans I.ok.above (Nat.le_of_lt I.lt)
theorem Inv.nofs (I : Inv X pins σ H s) {a : Addr} (h : s.heap.objs.size ≤ a) : a ∉ X.fs := fun hb => by
  obtain ⟨_, o, ho, _⟩ := I.ok.funs.mem hb
  exact absurd (Nat.lt_of_lt_of_le (Heap.lt_size ho) (Nat.le_trans I.sz h)) (Nat.lt_irrefl _)
theorem Inv.cne (I : Inv X pins σ H s) : ∀ x c, X.env.cells.lookup x = some c → c ≠ X.env.locals := fun x c e z => by
  obtain ⟨v, o, ho, hd⟩ := I.cell x c e
  obtain ⟨m, ⟨o', es, ep, ho', hd', _⟩, _⟩ := I.loc
  rw [z, ho'] at ho; cases ho; rw [hd'] at hd; cases hd
theorem Inv.funs (I : Inv X pins σ H s) : s.heap.FunFrames X.base X.outer := by
  have all : ∀ (l : List Env), (∀ b ∈ frs l, b ∈ X.fs) → X.s_0.heap.FunFrames X.base l → s.heap.FunFrames X.base l := by
    intro l
    induction l with
    | nil => intro _ _; trivial
    | cons env r ih =>
      intro hs hl
      obtain ⟨hk, ⟨L, o, hf, hn, ho, hd⟩, hr⟩ := hl
      have hL : L ∈ X.fs := hs L (by unfold frs; rw [List.filterMap_cons, hf]; exact List.mem_cons_self)
      obtain ⟨sl, e⟩ := I.base.slot L o ho (I.ok.frf L hL) hL fun z => I.ok.exfs L z hL
      exact ⟨hk, ⟨L, _, hf, hn, e, hd⟩, ih (fun b hb => hs b (by unfold frs; rw [List.filterMap_cons, hf]; exact List.mem_cons_of_mem _ hb)) hr⟩
  exact all X.outer (fun _ hb => hb) I.ok.funs

/-- the frames that run, for a call -/
theorem Inv.stack (I : Inv X pins σ H s) : s.heap.FunFrames X.base X.stack := by
  rcases I.ok.stk with e | ⟨e, hf⟩
  · rw [e]; exact I.funs
  · rw [e]
    obtain ⟨m, hn, _⟩ := I.loc
    refine .cons (by rw [I.ok.kind]; decide) hf hn ?_ I.funs
    exact Heap.get?_none_of_le (Nat.le_trans I.ok.bsz I.ok.above)
theorem Inv.stkSub (I : Inv X pins σ H s) : ∀ b ∈ frs X.stack, b ∈ X.env.locals :: X.fs := fun b hb => by
  rcases I.ok.stk with e | ⟨e, hf⟩
  · rw [e] at hb; exact List.mem_cons_of_mem _ hb
  · rw [e] at hb
    unfold frs at hb
    rw [List.filterMap_cons, hf] at hb
    exact hb
theorem Inv.stkFree (I : Inv X pins σ H s) : ∀ b ∈ frs X.stack, H b = none := fun b hb => by
  rcases List.mem_cons.mp (I.stkSub b hb) with e | hb
  · rw [e]; exact I.free
  · obtain ⟨_, o, ho, _⟩ := I.ok.funs.mem hb
    exact I.base.free b o ho (I.ok.frf b hb) fun z => I.ok.exfs b z hb

/-- THE STEP: the untracked objects but the frame and the records at ch are kept (the callers' frames up to slots), the frame's map is kept, the new abstract heap is held -/
theorem Inv.step {g' : Array GenState} {t' : Nat} {d' : Drawn} {ch : List Addr} (I : Inv X pins σ H s)
    (hch : ∀ b ∈ ch, (b ∈ X.ex ∨ X.s_0.heap.objs.size ≤ b) ∧ b ≠ X.env.locals ∧ (∀ x c, X.env.cells.lookup x = some c → c ≠ b) ∧ ∀ p ∈ X.pn ++ pins, p.1 ≠ b)
    (keep : ∀ b o, b ≠ X.env.locals → b ∉ X.fs → b ∉ ch → s.heap.get? b = some o → H b = none → h'.get? b = some o)
    (slot : ∀ b o, b ≠ X.env.locals → b ∈ X.fs → b ∉ ch → s.heap.get? b = some o → H b = none → ∃ sl, h'.get? b = some { o with slots := sl }) (free : ∀ b o, b ∉ ch → s.heap.get? b = some o → H b = none → H' b = none)
    (there : ∀ b o, b ∉ ch → s.heap.get? b = some o → ∃ o', h'.get? b = some o')
    (tups : ∀ b xs, H b = some (.tup xs) → H' b = some (.tup xs)) (frzs : ∀ b o u, H b = some (.frz o u) → H' b = some (.frz o u)) (tbls : ∀ b ps, H b = some (.tbl ps) → ∃ more, H' b = some (.tbl (ps ++ more)))
    (ns : ∀ m, s.heap.Ns X.env.locals m → h'.Ns X.env.locals m) (hok : HOk X.prog X.w H' h') (hg : AllBare g') :
    Inv X pins σ H' { s with heap := h', gens := g', drawn := d', toks := t' } := by
  have neL : ∀ b o, X.s_0.heap.get? b = some o → b ≠ X.env.locals := fun b o e => Nat.ne_of_lt (Nat.lt_of_lt_of_le (Heap.lt_size e) I.ok.above)
  have neC : ∀ b o, X.s_0.heap.get? b = some o → b ∉ X.ex → b ∉ ch := fun b o e hx hb => by
    rcases (hch b hb).1 with z | z
    · exact hx z
    · exact absurd (Nat.lt_of_lt_of_le (Heap.lt_size e) z) (Nat.lt_irrefl _)
  have cellK : ∀ x c, X.env.cells.lookup x = some c → ∀ v, s.heap.IsCell c v → h'.IsCell c v := fun x c e v ⟨o, ho, hd⟩ => by
    have nch : c ∉ ch := fun z => (hch c z).2.2.1 x c e rfl
    by_cases hc : c ∈ X.fs
    · obtain ⟨sl, q⟩ := slot c o (I.cne x c e) hc nch ho (I.freeC x c e)
      exact ⟨_, q, hd⟩
    · exact ⟨o, keep c o (I.cne x c e) hc nch ho (I.freeC x c e), hd⟩
  refine ⟨I.ok, I.os, hg, ⟨fun b o e n hb hx => ?_, fun b o e n hb hx => ?_, fun b o e n hx => ?_, fun b o e hx => ?_, fun b xs e => tups b xs (I.base.tups b xs e), fun b o xs e => frzs b o xs (I.base.frzs b o xs e), fun b ps e => ?_⟩, ?_, fun x c e => ?_, ?_, fun x c e => ?_, fun p hp => ?_, hok, I.len⟩
  · exact keep b o (neL b o e) hb (neC b o e hx) (I.base.keep b o e n hb hx) (I.base.free b o e n hx)
  · obtain ⟨sl, e1⟩ := I.base.slot b o e n hb hx
    obtain ⟨sl', e2⟩ := slot b _ (neL b o e) hb (neC b o e hx) e1 (I.base.free b o e n hx)
    exact ⟨sl', e2⟩
  · obtain ⟨o', e1⟩ := I.base.there b o e hx
    exact free b o' (neC b o e hx) e1 (I.base.free b o e n hx)
  · obtain ⟨o', e1⟩ := I.base.there b o e hx
    exact there b o' (neC b o e hx) e1
  · obtain ⟨m1, e1⟩ := I.base.tbls b ps e
    obtain ⟨m2, e2⟩ := tbls b _ e1
    exact ⟨m1 ++ m2, by rw [e2, Array.append_assoc]⟩
  · obtain ⟨m, hn, hl⟩ := I.loc
    refine ⟨m, ns m hn, fun i x v e1 e2 e3 => ?_⟩
    obtain ⟨u, r, l⟩ := hl i x v e1 e2 e3
    refine ⟨u, r, ?_⟩
    rcases l with l | ⟨k, c, e, z⟩
    · exact .inl l
    · exact .inr ⟨k, c, e, cellK x c e _ z⟩
  · obtain ⟨v, z⟩ := I.cell x c e
    exact ⟨v, cellK x c e v z⟩
  · obtain ⟨m, ⟨o, _, _, ho, _⟩, _⟩ := I.loc
    exact free _ o (fun z => (hch _ z).2.1 rfl) ho I.free
  · obtain ⟨v, o, ho, hd⟩ := I.cell x c e
    exact free c o (fun z => (hch c z).2.2.1 x c e rfl) ho (I.freeC x c e)
  · obtain ⟨e, n, ne, nf, d⟩ := I.pin p hp
    have nch : p.1 ∉ ch := fun z => (hch p.1 z).2.2.2 p hp rfl
    exact ⟨keep p.1 p.2 ne nf nch e n, free p.1 p.2 nch e n, ne, nf, d⟩
/-- .. where the frame's own object is kept too -/
theorem Inv.un {t' : Nat} (I : Inv X pins σ H s) (u : Un X.fs [] H H' s.heap h') (hok : HOk X.prog X.w H' h') : Inv X pins σ H' { s with heap := h', toks := t' } := by
  obtain ⟨m, ⟨o, es, ep, ho, r⟩, _⟩ := id I.loc
  obtain ⟨sl, hL⟩ := u.any ho I.free (by simp)
  exact I.step (g' := s.gens) (d' := s.drawn) (ch := []) (fun _ z => nomatch z) (fun b o _ hb _ e n => u.keep b o e n hb (by simp)) (fun b o _ hb _ e n => u.slot b o e n hb (by simp)) (fun b o _ e n => u.free b o e n (by simp)) (fun b o _ e => u.there b o e (by simp)) u.tups u.frzs u.tbls (fun m' hm => by
    obtain ⟨o', es', ep', ho', r'⟩ := hm
    rw [ho] at ho'; cases ho'
    exact ⟨_, es', ep', hL, r'⟩) hok I.bare
/-- behind a call (or a comprehension's block): the slots of this frame may have changed too, the records at ch may have turned -/
theorem Inv.call {g' : Array GenState} {t' : Nat} {d' : Drawn} {ch : List Addr} (I : Inv X pins σ H s) (u : Un (frs X.stack) ch H H' s.heap h') (hok : HOk X.prog X.w H' h') (hg : AllBare g')
    (hch : ∀ b ∈ ch, (b ∈ X.ex ∨ X.s_0.heap.objs.size ≤ b) ∧ b ≠ X.env.locals ∧ (∀ x c, X.env.cells.lookup x = some c → c ≠ b) ∧ ∀ p ∈ X.pn ++ pins, p.1 ≠ b) :
    Inv X pins σ H' { s with heap := h', gens := g', drawn := d', toks := t' } := by
  obtain ⟨m, ⟨o, es, ep, ho, r⟩, _⟩ := id I.loc
  obtain ⟨sl, hL⟩ := u.any ho I.free fun z => (hch _ z).2.1 rfl
  exact I.step (ch := ch) hch (fun b o hL hb hc e n => u.keep b o e n (fun z => (List.mem_cons.mp (I.stkSub b z)).elim hL hb) hc) (fun b o _ _ hc e n => u.any e n hc) (fun b o hc e n => u.free b o e n hc) (fun b o hc e => u.there b o e hc) u.tups u.frzs u.tbls (fun m' hm => by
    obtain ⟨o', es', ep', ho', r'⟩ := hm
    rw [ho] at ho'; cases ho'
    exact ⟨_, es', ep', hL, r'⟩) hok hg
/-- an untracked record of ours (an iterator) has turned -/
theorem Inv.turned {t' : Nat} {it : Addr} (I : Inv X pins σ H s) (k : ∀ b o, b ≠ it → s.heap.get? b = some o → h'.get? b = some o) (hn : H it = none) (hL : it ≠ X.env.locals)
    (h1 : it ∈ X.ex ∨ X.s_0.heap.objs.size ≤ it) (h2 : ∀ x c, X.env.cells.lookup x = some c → c ≠ it) (h3 : ∀ p ∈ X.pn ++ pins, p.1 ≠ it) : Inv X pins σ H { s with heap := h', toks := t' } := by
  have nit : ∀ b u, H b = some u → b ≠ it := fun b u e z => by rw [z, hn] at e; cases e
  refine I.step (g' := s.gens) (d' := s.drawn) (ch := [it]) (fun b hb => ?_) (fun b o _ _ hc e _ => k b o (fun z => hc (by simp [z])) e) (fun b o _ _ hc e _ => ⟨o.slots, k b o (fun z => hc (by simp [z])) e⟩) (fun _ _ _ _ n => n)
    (fun b o hc e => ⟨o, k b o (fun z => hc (by simp [z])) e⟩) (fun _ _ e => e) (fun _ _ _ e => e) (fun b ps e => ⟨#[], by rw [e]; simp⟩) (fun m hm => ?_) (fun b u e => ?_) I.bare
  · have e : b = it := by simpa using hb
    subst e
    exact ⟨h1, hL, h2, h3⟩
  · obtain ⟨o, es, ep, ho, r⟩ := hm
    exact ⟨o, es, ep, k _ o (Ne.symm hL) ho, r⟩
  · refine (I.hok b u e).stay (fun c v hc q => k c v ?_ q) (fun _ q => q) fun _ _ q => q
    rcases hc with z | z
    · rw [z]; exact nit b u e
    · exact nit c _ z
theorem Inv.tok (I : Inv X pins σ H s) (t : Nat) : Inv X pins σ H { s with toks := t } := I.un (h' := s.heap) (t' := t) Un.refl I.hok
/-- all objects kept -/
theorem Inv.kept {t' : Nat} (I : Inv X pins σ H s) (k : ∀ b u, s.heap.get? b = some u → h'.get? b = some u) : Inv X pins σ H { s with heap := h', toks := t' } := I.un (Un.kept k) (I.hok.kept k)
/-- a new object laid and tracked -/
theorem Inv.laid {a : Addr} {o : HO} {t' : Nat} (I : Inv X pins σ H s) (k : ∀ b u, s.heap.get? b = some u → h'.get? b = some u) (hp : s.heap.objs.size ≤ a) (new : ObjOk X.prog X.w (upd H a o) h' a o) :
    Inv X pins σ (upd H a o) { s with heap := h', toks := t' } := I.un (Un.laid k hp (I.hok.fresh hp)) (I.hok.laid k hp new)
/-- an object written -/
theorem Inv.write {x e : Addr} {o : HO} {t' : Nat} (I : Inv X pins σ H s) (mu : Mut (H x)) (he : e = x ∨ H e = some (.own x)) (k : ∀ b u, b ≠ e → s.heap.get? b = some u → h'.get? b = some u) (heo : ∃ u, h'.get? e = some u)
    (new : ObjOk X.prog X.w (upd H x o) h' x o) : Inv X pins σ (upd H x o) { s with heap := h', toks := t' } := I.un (Un.write mu he k heo) (I.hok.write mu he k heo new)
theorem Inv.pins_of {pins' : List (Addr × Obj)} (I : Inv X pins σ H s) (h : ∀ p ∈ pins', s.heap.get? p.1 = some p.2 ∧ H p.1 = none ∧ p.1 ≠ X.env.locals ∧ p.1 ∉ X.fs ∧ ∀ v, p.2.data ≠ .cell v) : Inv X pins' σ H s :=
  ⟨I.ok, I.os, I.bare, I.base, I.loc, I.cell, I.free, I.freeC, fun p hp => (List.mem_append.mp hp).elim (fun z => I.pin p (List.mem_append_left _ z)) (h p), I.hok, I.len⟩

theorem nodup_ix {N : List Str} (hN : N.Nodup) {i j : Nat} {x : Str} (a : N[i]? = some x) (b : N[j]? = some x) : i = j := by
  obtain ⟨h1, e1⟩ := List.getElem?_eq_some_iff.mp a
  obtain ⟨h2, e2⟩ := List.getElem?_eq_some_iff.mp b
  exact (List.getElem_inj hN).mp (e1.trans e2.symm)

/-- a name is stored; what changed -/
theorem store_ok2 {M : Model} {A : Around} {E : Value → Shared → Prop} {i : Nat} {x : Str} {v : V} {u : Value} {Q : Unit → Shared → Prop} (I : Inv X pins σ H s) (hN : X.N.Nodup) (hi : X.N[i]? = some x) (hx : Loc X.env.scope x) (r : RelV v u)
    (h : ∀ s', Inv X pins (σ.set i (some v)) H s' → (∃ a, Heap.SameBut a s.heap s'.heap ∧ (a = X.env.locals ∨ X.env.cells.lookup x = some a)) → Q () s') (hf : X.fn x = true ∨ X.env.scope.names.lookup x = some .local := by first | exact .inl rfl | exact .inr rfl | assumption) : wpAny M A (storeName X.env x u) Q E s := by
  obtain ⟨m, hn, hl⟩ := id I.loc
  have hcls : (X.env.scope.kind == .class || (X.env.scope.kind == .module && X.env.locals != X.env.globals)) = false := by rw [I.ok.kind]; rfl
  have hiσ : i < σ.length := by rw [I.len]; exact (List.getElem?_eq_some_iff.mp hi).1
  have cne := I.cne
  have tracked : ∀ {a : Addr} {h' : Heap}, (∃ o, s.heap.get? a = some o ∧ H a = none) → Heap.SameBut a s.heap h' → HOk X.prog X.w H h' := fun {a h'} ha hs b ob e => by
    obtain ⟨_, _, hfree⟩ := ha
    refine (I.hok b ob e).stay (fun c w' hc q => (hs.2 c ?_).trans q) (fun _ q => q) fun _ _ q => q
    rintro rfl
    rcases hc with rfl | hc
    · rw [hfree] at e; cases e
    · rw [hfree] at hc; cases hc
  rcases hx with hk | hk
  · refine wpAny_storeName_local hk hn (fun h' hn' hs => ?_) hcls
    obtain ⟨oL, _, _, hoL, _⟩ := id hn
    refine h _ ⟨I.ok, I.os, I.bare, ⟨fun b o e n hb hx => ?_, fun b o e n hb hx => ?_, I.base.free, fun b o e hx => ?_, I.base.tups, I.base.frzs, I.base.tbls⟩, ⟨_, hn', fun j y v' e1 e2 e3 => ?_⟩, fun y c e => ?_, I.free, I.freeC, fun p hp => ?_, tracked ⟨oL, hoL, I.free⟩ hs, by simpa using I.len⟩ ⟨_, hs, .inl rfl⟩
    · exact (hs.2 b (Nat.ne_of_lt (Nat.lt_of_lt_of_le (Heap.lt_size e) I.ok.above))).trans (I.base.keep b o e n hb hx)
    · obtain ⟨sl, e1⟩ := I.base.slot b o e n hb hx
      exact ⟨sl, (hs.2 b (Nat.ne_of_lt (Nat.lt_of_lt_of_le (Heap.lt_size e) I.ok.above))).trans e1⟩
    · obtain ⟨o', e1⟩ := I.base.there b o e hx
      exact ⟨o', (hs.2 b (Nat.ne_of_lt (Nat.lt_of_lt_of_le (Heap.lt_size e) I.ok.above))).trans e1⟩
    · by_cases hj : j = i
      · subst hj
        rw [hi] at e1; cases e1
        rw [List.getElem?_set_self hiσ] at e2
        cases e2
        exact ⟨u, r, .inl ⟨hk, by simp⟩⟩
      · rw [List.getElem?_set_ne (Ne.symm hj)] at e2
        obtain ⟨u', r', q⟩ := hl j y v' e1 e2 e3
        refine ⟨u', r', ?_⟩
        rcases q with ⟨k, e⟩ | ⟨k, c, e, z⟩
        · refine .inl ⟨k, ?_⟩
          have : y ≠ x := fun e => hj (nodup_ix hN e1 (e ▸ hi))
          simp [this, e]
        · exact .inr ⟨k, c, e, z.sameBut hs (cne y c e)⟩
    · obtain ⟨w', z⟩ := I.cell y c e
      exact ⟨w', z.sameBut hs (cne y c e)⟩
    · obtain ⟨e, n, ne, nf, d⟩ := I.pin p hp
      exact ⟨(hs.2 p.1 ne).trans e, n, ne, nf, d⟩
  · have hfn : X.fn x = true := by
      rcases hf with z | z
      · exact z
      · rw [z] at hk; cases hk
    obtain ⟨c, hc⟩ := I.ok.has x (.inl hk)
    obtain ⟨w', z⟩ := I.cell x c hc
    refine wpAny_storeName_cell I.ok.kind hk hc z (fun h' hc' hs => ?_)
    obtain ⟨oc, hoc, hocd⟩ := id z
    refine h { s with heap := h' } ⟨I.ok, I.os, I.bare, ⟨fun b o e n hb hx => ?_, fun b o e n hb hx => ?_, I.base.free, fun b o e hx => ?_, I.base.tups, I.base.frzs, I.base.tbls⟩, ⟨m, hn.sameBut hs (Ne.symm (cne x c hc)), fun j y v' e1 e2 e3 => ?_⟩, fun y c' e => ?_, I.free, I.freeC, fun p hp => ?_, tracked ⟨oc, hoc, I.freeC x c hc⟩ hs, by simpa using I.len⟩ ⟨c, hs, .inr hc⟩
    · exact (hs.2 b (Nat.ne_of_lt (Nat.lt_of_lt_of_le (Heap.lt_size e) (I.ok.cab x c hfn hc)))).trans (I.base.keep b o e n hb hx)
    · obtain ⟨sl, e1⟩ := I.base.slot b o e n hb hx
      exact ⟨sl, (hs.2 b (Nat.ne_of_lt (Nat.lt_of_lt_of_le (Heap.lt_size e) (I.ok.cab x c hfn hc)))).trans e1⟩
    · obtain ⟨o', e1⟩ := I.base.there b o e hx
      exact ⟨o', (hs.2 b (Nat.ne_of_lt (Nat.lt_of_lt_of_le (Heap.lt_size e) (I.ok.cab x c hfn hc)))).trans e1⟩
    · by_cases hj : j = i
      · subst hj
        rw [hi] at e1; cases e1
        rw [List.getElem?_set_self hiσ] at e2
        cases e2
        exact ⟨u, r, .inr ⟨.inl hk, c, hc, hc'⟩⟩
      · rw [List.getElem?_set_ne (Ne.symm hj)] at e2
        obtain ⟨u', r', q⟩ := hl j y v' e1 e2 e3
        refine ⟨u', r', ?_⟩
        rcases q with q | ⟨k, c', e, z'⟩
        · exact .inl q
        · refine .inr ⟨k, c', e, z'.sameBut hs ?_⟩
          rintro rfl
          exact hj (nodup_ix hN e1 (I.ok.inj _ _ _ e hc ▸ hi))
    · by_cases hcc : c' = c
      · subst hcc; exact ⟨_, hc'⟩
      · obtain ⟨w2, z2⟩ := I.cell y c' e
        exact ⟨w2, z2.sameBut hs hcc⟩
    · obtain ⟨e, n, ne, nf, d⟩ := I.pin p hp
      refine ⟨(hs.2 p.1 ?_).trans e, n, ne, nf, d⟩
      intro q
      rw [q, hoc] at e
      have q' : oc = p.2 := Option.some.inj e
      exact d w' (by rw [← q']; exact hocd)
theorem store_ok {M : Model} {A : Around} {E : Value → Shared → Prop} {i : Nat} {x : Str} {v : V} {u : Value} {Q : Unit → Shared → Prop} (I : Inv X pins σ H s) (hN : X.N.Nodup) (hi : X.N[i]? = some x) (hx : Loc X.env.scope x) (r : RelV v u)
    (h : ∀ s', Inv X pins (σ.set i (some v)) H s' → Q () s') (hf : X.fn x = true ∨ X.env.scope.names.lookup x = some .local := by first | exact .inl rfl | exact .inr rfl | assumption) : wpAny M A (storeName X.env x u) Q E s :=
  store_ok2 I hN hi hx r (fun s' I' _ => h s' I') hf
end

/-! ### the judgements -/
/-- an exception: its class, its own dict's address (where it has one), the abstract heap behind it -/
abbrev XK := Value → Option Addr → Hp → Prop
abbrev St := List (Option V)
abbrev VK := V → Hp → Prop
/-- an expression's reading; a test's; an argument list's -/
abbrev TE := St → Hp → VK → Prop
abbrev TT := St → Hp → (Bool → Hp → Prop) → Prop
abbrev TA := St → Hp → (List V → Hp → Prop) → Prop
/-- what is wanted behind a statement -/
structure Ends where
  nx : St → Hp → Prop
  rt : VK
  bk : St → Hp → Prop := fun _ _ => False
  ct : St → Hp → Prop := fun _ _ => False
abbrev TS := Ends → St → Hp → Prop

def EP (X : Cx) (pins : List (Addr × Obj)) (σ : St) (Q : VK) (u : Value) (s' : Shared) : Prop := ∃ v H', Inv X pins σ H' s' ∧ RelV v u ∧ Q v H'
def TP (X : Cx) (pins : List (Addr × Obj)) (σ : St) (Q : Bool → Hp → Prop) (b : Bool) (s' : Shared) : Prop := ∃ H', Inv X pins σ H' s' ∧ Q b H'
def AP (X : Cx) (pins : List (Addr × Obj)) (σ : St) (Q : List V → Hp → Prop) (us : List Value) (s' : Shared) : Prop := ∃ vs H', Inv X pins σ H' s' ∧ Vals vs us ∧ Q vs H'
def SP (X : Cx) (pins : List (Addr × Obj)) (D : Ends) (f : Flow) (s' : Shared) : Prop :=
  match f with
  | .next => ∃ σ' H', Inv X pins σ' H' s' ∧ D.nx σ' H'
  | .brk => ∃ σ' H', Inv X pins σ' H' s' ∧ D.bk σ' H'
  | .cont => ∃ σ' H', Inv X pins σ' H' s' ∧ D.ct σ' H'
  | .ret u => ∃ v σ' H', Inv X pins σ' H' s' ∧ RelV v u ∧ D.rt v H'

def PE (X : Cx) (e : Expr) (t : TE) : Prop :=
  ∀ (pins : List (Addr × Obj)) (s : Shared) (σ : St) (H : Hp) (Q : VK), Inv X pins σ H s → t σ H Q → wpAny (model X.prog X.w) X.A (eval e X.env) (EP X pins σ Q) X.xe s
def PT (X : Cx) (e : Expr) (t : TT) : Prop :=
  ∀ (pins : List (Addr × Obj)) (s : Shared) (σ : St) (H : Hp) (Q : Bool → Hp → Prop), Inv X pins σ H s → t σ H Q → wpAny (model X.prog X.w) X.A (isTrue e X.env (eval e X.env)) (TP X pins σ Q) X.xe s
/-- a test whatever its 'whole' is (and, or) -/
def PW (X : Cx) (e : Expr) (t : TT) : Prop :=
  ∀ (whole : Sem Value) (pins : List (Addr × Obj)) (s : Shared) (σ : St) (H : Hp) (Q : Bool → Hp → Prop), Inv X pins σ H s → t σ H Q → wpAny (model X.prog X.w) X.A (isTrue e X.env whole) (TP X pins σ Q) X.xe s
theorem PW.pt {X : Cx} {e : Expr} {t : TT} (h : PW X e t) : PT X e t := h _
/-- an argument list (no star), from the left -/
def PA (X : Cx) (es : List Expr) (t : TA) : Prop :=
  ∀ (pos : Pos) (pins : List (Addr × Obj)) (s : Shared) (σ : St) (H : Hp) (Q : List V → Hp → Prop), Inv X pins σ H s → t σ H Q → wpAny (model X.prog X.w) X.A (spliced (backTo pos (starEach es X.env))) (AP X pins σ Q) X.xe s
def PS (X : Cx) (st : Stmt) (t : TS) : Prop :=
  ∀ (pins : List (Addr × Obj)) (s : Shared) (σ : St) (H : Hp) (D : Ends), Inv X pins σ H s → t D σ H → wpAny (model X.prog X.w) X.A (exec st X.env) (SP X pins D) X.xe s
def PSs (X : Cx) (st : List Stmt) (t : TS) : Prop :=
  ∀ (pins : List (Addr × Obj)) (s : Shared) (σ : St) (H : Hp) (D : Ends), Inv X pins σ H s → t D σ H → wpAny (model X.prog X.w) X.A (execs st X.env) (SP X pins D) X.xe s
/-- weaken the end -/
theorem thn {α : Type} {t : Sem α} {Q Q' : α → Shared → Prop} {M : Model} {A : Around} {E : Value → Shared → Prop} {s : Shared} (h : wpAny M A t Q E s) (hQ : ∀ a s, Q a s → Q' a s) : wpAny M A t Q' E s := wpAny_mono h hQ fun _ _ x => x
end L2

namespace L2
open PySem PySem.Spec PyProof.Rows
section
variable {X : Cx}

/-- two expressions in a row -/
theorem bin {a b : Expr} {ta tb : TE} (ha : PE X a ta) (hb : PE X b tb) {pins : List (Addr × Obj)} {s : Shared} {σ : St} {H : Hp} {R : V → V → Hp → Prop} (I : Inv X pins σ H s) (h : ta σ H fun x H1 => tb σ H1 fun y H2 => R x y H2)
    {α : Type} {Q : α → Shared → Prop} {f : Value → Value → Sem α}
    (hf : ∀ v u s2 x y H2, Inv X pins σ H2 s2 → RelV x v → RelV y u → R x y H2 → wpAny (model X.prog X.w) X.A (f v u) Q X.xe s2) :
    wpAny (model X.prog X.w) X.A (eval a X.env) (fun v s₁ => wpAny (model X.prog X.w) X.A (eval b X.env) (fun u s₂ => wpAny (model X.prog X.w) X.A (f v u) Q X.xe s₂) X.xe s₁) X.xe s := by
  refine thn (ha pins s σ H _ I h) fun v s1 ⟨x, H1, I1, r1, q1⟩ => ?_
  refine thn (hb pins s1 σ H1 _ I1 q1) fun u s2 ⟨y, H2, I2, r2, q2⟩ => ?_
  exact hf v u s2 x y H2 I2 r1 r2 q2

/-! ### names and constants -/
def tVar (i : Nat) : TE := fun σ H Q => ∃ v, σ[i]? = some (some v) ∧ Q v H
def tC (v : V) : TE := fun _ H Q => Q v H
theorem pe_var {i : Nat} {x : Str} {pos : Pos} (hN : X.N[i]? = some x) (hv : Vis X.env.scope x) (hd : (x == ("__debug__" : Str)) = false := by decide) (hcd : (x == ("__classdict__" : Str)) = false := by decide) : PE X (.Name x pos) (tVar i) := by
  intro pins s σ H Q I h
  obtain ⟨v, e, h⟩ := h
  obtain ⟨m, hn, hl⟩ := I.loc
  obtain ⟨u, r, l⟩ := hl i x v hN e hv
  have fin : EP X pins σ Q u s := ⟨v, H, I, r, h⟩
  rcases l with ⟨hk, hm⟩ | ⟨hk, c, hc, hcell⟩
  · exact wpAny_Name (wpAny_loadName_local I.ok.kind hk hn hm fin) hd
  · rcases hk with hk | hk
    · exact wpAny_Name (wpAny_loadName_cell I.ok.kind hk hc hcell fin) hd
    · exact wpAny_Name (wpAny_loadName_free I.ok.kind hk hc hcell fin hcd) hd
theorem pe_int {i j pos} : PE X (.Constant (.int i) j pos) (tC (.int i)) := fun _ _ _ H _ I h => wpAny_Constant_int ⟨.int i, H, I.tok _, ⟨_, rfl⟩, h⟩
theorem pe_bl {b j pos} : PE X (.Constant (.bool b) j pos) (tC (.bl b)) := fun _ _ _ H _ I h => Constant_bool ⟨.bl b, H, I, rfl, h⟩
theorem pe_non {j pos} : PE X (.Constant .none j pos) (tC .non) := fun _ _ _ H _ I h => Constant_none ⟨.non, H, I, rfl, h⟩
/-- a global name of the def -/
def Gl (X : Cx) (x : Str) : Prop := X.env.kindOf x = some .globalImplicit
theorem ld_glob {E : Value → Shared → Prop} {pins : List (Addr × Obj)} {s : Shared} {σ : St} {H : Hp} {x : Str} {u : Value} {pos : Pos} {Q : Value → Shared → Prop} (I : Inv X pins σ H s) (hg : Gl X x) (hm : X.mg x = some u) (h : Q u s)
    (hd : (x == ("__debug__" : Str)) = false := by decide) : wpAny (model X.prog X.w) X.A (eval (.Name x pos) X.env) Q E s :=
  Calls.Name_function_global I.ok.kind hg (Calls.loadGlobal_global (by rw [I.ok.glob]; exact I.mod.glob.keeps I.bk) hm h) hd
theorem ld_blt {E : Value → Shared → Prop} {pins : List (Addr × Obj)} {s : Shared} {σ : St} {H : Hp} {x : Str} {u : Value} {pos : Pos} {Q : Value → Shared → Prop} (I : Inv X pins σ H s) (hg : Gl X x) (hm : X.mg x = none) (hv : bootBuiltins x = some u) (h : Q u s)
    (hn : x ≠ "__name__" := by decide) (hd : (x == ("__debug__" : Str)) = false := by decide) : wpAny (model X.prog X.w) X.A (eval (.Name x pos) X.env) Q E s := by
  obtain ⟨mb, h1, h2⟩ := I.mod.blt
  exact Calls.Name_function_global I.ok.kind hg (Calls.loadGlobal_builtin (by rw [I.ok.glob]; exact I.mod.glob.keeps I.bk) hm (by rw [I.ok.blt]; exact h1.keeps I.bk) ((h2 x hn).trans hv) h) hd
/-- a module's constant, a class, a function, as a value -/
theorem pe_glob {x : Str} {v : V} {u : Value} {pos : Pos} (hg : Gl X x) (hm : X.mg x = some u) (r : RelV v u) (hd : (x == ("__debug__" : Str)) = false := by decide) : PE X (.Name x pos) (tC v) :=
  fun _ _ _ H _ I h => ld_glob I hg hm ⟨v, H, I, r, h⟩ hd
/-! ### arithmetic -/
variable {a b : Expr} {ta tb : TE} {pos : Pos}
/-! ### comparisons -/
def PC (X : Cx) (op : CmpOp) (a b : Expr) (t : TE) : Prop :=
  ∀ (pins : List (Addr × Obj)) (s : Shared) (σ : St) (H : Hp) (Q : VK), Inv X pins σ H s → t σ H Q →
    wpAny (model X.prog X.w) X.A (eval a X.env) (fun v s₁ => wpAny (model X.prog X.w) X.A (eval b X.env) (fun u s₂ => wpAny (model X.prog X.w) X.A (compareOp op v u) (EP X pins σ Q) X.xe s₂) X.xe s₁) X.xe s
/-- a comparison as a value, as a test -/
def tB (t : TE) : TT := fun σ H Q => t σ H fun x H1 => ∃ c, x = .bl c ∧ Q c H1
theorem pt_cmp {op : CmpOp} {t : TE} (h : PC X op a b t) (h1 : behindInMarks op b = false := by first | exact nobehind _ (by decide) (by decide) | rfl) : PT X (.Compare a [op] [b] pos) (tB t) := by
  intro pins s σ H Q I hw
  refine wpAny_isTrue_Compare1 (thn (h pins s σ H _ I hw) fun v s1 h1 => thn h1 fun u s2 h2 => thn h2 fun c s3 ⟨x, H1, I1, r1, q1⟩ => ?_) h1
  obtain ⟨d, rfl, q⟩ := q1
  cases r1
  exact wpAny_truthy_bool ⟨H1, I1, q⟩
/-- an expression whose value is a bool, as a test -/
theorem pt_val {e : Expr} {t : TE} (h : PE X e t) (he : ∀ whole, isTrue e X.env whole = (do let v ← whole; standAt e.pos; holding [v] (truthy v)) := by intro _; rfl) : PT X e (tB t) := by
  intro pins s σ H Q I hw
  refine isTrue_plain (thn (h pins s σ H _ I hw) fun v s1 ⟨x, H1, I1, r1, q1⟩ => ?_) (he _)
  obtain ⟨d, rfl, q⟩ := q1
  cases r1
  exact wpAny_truthy_bool ⟨H1, I1, q⟩

/-! ### and, or, not -/
variable {tA tB' : TT} {rest : List Expr}
def tAnd (t u : TT) : TT := fun σ H Q => t σ H fun c H1 => if c = true then u σ H1 Q else Q false H1
def tOr (t u : TT) : TT := fun σ H Q => t σ H fun c H1 => if c = true then Q true H1 else u σ H1 Q
theorem pw_and1 (ha : PT X a tA) : PW X (.BoolOp .And [a] pos) tA := by
  intro wh pins s σ H Q I h
  refine isTrue_and (thn (ha pins s σ H Q I h) fun c s1 e => ?_)
  cases c with
  | true => exact isTrue_and_nil e
  | false => exact e
theorem pw_or1 (ha : PT X a tA) : PW X (.BoolOp .Or [a] pos) tA := by
  intro wh pins s σ H Q I h
  refine isTrue_or (thn (ha pins s σ H Q I h) fun c s1 e => ?_)
  cases c with
  | false => exact isTrue_or_nil e
  | true => exact e
theorem pw_and (ha : PT X a tA) (hb : PW X (.BoolOp .And (b :: rest) pos) tB') : PW X (.BoolOp .And (a :: b :: rest) pos) (tAnd tA tB') := by
  intro wh pins s σ H Q I h
  refine isTrue_and (thn (ha pins s σ H _ I h) fun c s1 ⟨H1, I1, q1⟩ => ?_)
  cases c with
  | true => exact hb wh pins s1 σ H1 Q I1 q1
  | false => exact ⟨H1, I1, q1⟩
theorem pw_or (ha : PT X a tA) (hb : PW X (.BoolOp .Or (b :: rest) pos) tB') : PW X (.BoolOp .Or (a :: b :: rest) pos) (tOr tA tB') := by
  intro wh pins s σ H Q I h
  refine isTrue_or (thn (ha pins s σ H _ I h) fun c s1 ⟨H1, I1, q1⟩ => ?_)
  cases c with
  | true => exact ⟨H1, I1, q1⟩
  | false => exact hb wh pins s1 σ H1 Q I1 q1
end
end L2

namespace L2
open PySem PySem.Spec PyProof.Rows

/-! ### a list, a tuple that is read: tracked, frozen, or an object of the module -/
def SqL (K : PySem.W.Frag) (H : Hp) (a : Addr) (xs : List V) : Prop :=
  Rd H a (.lst xs) ∨
    ∃ (o : Obj) (its : Array Value) (n : Nat), K.lookup a = some o ∧ o.cls = .type "list" ∧ o.dict = none ∧ o.data = .seq its n ∧ its.size ≤ sizeLine ∧ Vals xs its.toList
def SqT (K : PySem.W.Frag) (H : Hp) (a : Addr) (xs : List V) : Prop :=
  Rd H a (.tup xs) ∨
    ∃ (o : Obj) (its : Array Value) (n : Nat), K.lookup a = some o ∧ o.cls = .type "tuple" ∧ o.data = .seq its n ∧ its.size ≤ sizeLine ∧ Vals xs its.toList
def absV : Value → Option V
  | .none => some .non
  | .bool b => some (.bl b)
  | .int i _ => some (.int i)
  | .str x _ => some (.str x)
  | .bytes b _ => some (.byt b)
  | .float b _ => some (.flt b)
  | .ref a => some (.ref a)
  | .type n => some (.ty n)
  | _ => none
theorem RelV.abs {x : V} {u : Value} (r : RelV x u) : absV u = some x := by
  cases x with
  | non => cases r; rfl
  | bl _ => cases r; rfl
  | int _ => obtain ⟨t, rfl⟩ := r; rfl
  | str _ => obtain ⟨t, rfl⟩ := r; rfl
  | byt _ => obtain ⟨t, rfl⟩ := r; rfl
  | flt _ => obtain ⟨t, rfl⟩ := r; rfl
  | ref _ => cases r; rfl
  | ty _ => cases r; rfl
theorem RelV.inj {x y : V} {u : Value} (r : RelV x u) (q : RelV y u) : x = y := Option.some.inj (r.abs.symm.trans q.abs)
theorem Vals.inj : ∀ {xs ys : List V} {us : List Value}, Vals xs us → Vals ys us → xs = ys
  | _, _, _, .nil, .nil => rfl
  | _, _, _, .cons r t, .cons r' t' => by rw [r.inj r', Vals.inj t t']
section
variable {X : Cx} {pins : List (Addr × Obj)} {σ : St} {H : Hp} {s : Shared} {a : Addr} {xs ys : List V}
theorem SqL.of {K : PySem.W.Frag} (h : H a = some (.lst xs)) : SqL K H a xs := .inl (.inl h)
theorem Inv.list (I : Inv X pins σ H s) (h : SqL X.K H a xs) : ∃ its : List Value, Vals xs its ∧ PlainL s.heap a its.toArray ∧ xs.length ≤ sizeLine := by
  rcases h with h | ⟨o, its, n, hk, hc, hd, hs, hz, r⟩
  · obtain ⟨z, its, n, r, e⟩ := h.ok I.hok
    exact ⟨its, r, ⟨_, n, e, rfl, rfl, rfl⟩, z⟩
  · refine ⟨its.toList, r, ⟨o, n, I.kIn a o hk, hc, hd, by simpa using hs⟩, ?_⟩
    have e := r.length
    simp only [Array.length_toList] at e
    omega
theorem Inv.tuple (I : Inv X pins σ H s) (h : SqT X.K H a xs) : ∃ its : List Value, Vals xs its ∧ IsTup s.heap a its.toArray ∧ xs.length ≤ sizeLine := by
  rcases h with h | ⟨o, its, n, hk, hc, hs, hz, r⟩
  · obtain ⟨z, its, r, p⟩ := h.ok I.hok
    exact ⟨its, r, p, z⟩
  · refine ⟨its.toList, r, ⟨o, I.kIn a o hk, hc, n, by simpa using hs⟩, ?_⟩
    have e := r.length
    simp only [Array.length_toList] at e
    omega
theorem Inv.list_inj (I : Inv X pins σ H s) (h : SqL X.K H a xs) (h' : SqL X.K H a ys) : xs = ys := by
  obtain ⟨its, r, ⟨o, n, e, _, _, d⟩, _⟩ := I.list h
  obtain ⟨its', r', ⟨o', n', e', _, _, d'⟩, _⟩ := I.list h'
  rw [e] at e'; cases e'
  rw [d] at d'
  injection d' with d1 _
  have : its = its' := by simpa using congrArg Array.toList d1
  subst this
  exact r.inj r'
end

/-! ### another wish about exceptions -/
abbrev Cx.wish (X : Cx) (E : Value → Shared → Prop) : Cx := { X with xe := E }
/-- no exception leaves -/
abbrev Cx.nox (X : Cx) : Cx := X.wish fun _ _ => False
theorem Cx.Ok.wish {X : Cx} (ok : X.Ok) (E : Value → Shared → Prop) : (X.wish E).Ok :=
  ⟨ok.mod, ok.kind, ok.glob, ok.blt, ok.above, ok.inj, ok.has, ok.cab, ok.hd, ok.frames, ok.stk, ok.exf, ok.bs, ok.bsz, ok.noex, ok.exfs, ok.funs, ok.frf⟩
theorem Cx.Ok.unwish {X : Cx} {E : Value → Shared → Prop} (ok : (X.wish E).Ok) : X.Ok :=
  ⟨ok.mod, ok.kind, ok.glob, ok.blt, ok.above, ok.inj, ok.has, ok.cab, ok.hd, ok.frames, ok.stk, ok.exf, ok.bs, ok.bsz, ok.noex, ok.exfs, ok.funs, ok.frf⟩
section
variable {X : Cx} {pins : List (Addr × Obj)} {σ : St} {H : Hp} {s : Shared} {E : Value → Shared → Prop}
theorem Inv.wish (I : Inv X pins σ H s) (E : Value → Shared → Prop) : Inv (X.wish E) pins σ H s := ⟨I.ok.wish E, I.os, I.bare, I.base, I.loc, I.cell, I.free, I.freeC, I.pin, I.hok, I.len⟩
theorem Inv.unwish (I : Inv (X.wish E) pins σ H s) : Inv X pins σ H s := ⟨I.ok.unwish, I.os, I.bare, I.base, I.loc, I.cell, I.free, I.freeC, I.pin, I.hok, I.len⟩
theorem SP.unwish {D : Ends} {f : Flow} {s' : Shared} (h : SP (X.wish E) pins D f s') : SP X pins D f s' := by
  cases f with
  | next => obtain ⟨σ', H', I, q⟩ := h; exact ⟨σ', H', I.unwish, q⟩
  | brk => obtain ⟨σ', H', I, q⟩ := h; exact ⟨σ', H', I.unwish, q⟩
  | cont => obtain ⟨σ', H', I, q⟩ := h; exact ⟨σ', H', I.unwish, q⟩
  | ret u => obtain ⟨v, σ', H', I, r, q⟩ := h; exact ⟨v, σ', H', I.unwish, r, q⟩
theorem PSs.nox {st : List Stmt} {t : TS} (h : PSs X.nox st t) : PSs X st t := fun pins s σ H D I hw =>
  wpAny_mono (h pins s σ H D (I.wish _) hw) (fun _ _ q => q.unwish) fun _ _ z => False.elim z
end

/-! ### blocks and small statements -/
section
variable {X : Cx} {st : Stmt} {rest : List Stmt} {t u : TS} {e : Expr} {te : TE} {pos : Pos}
def tNext : TS := fun D σ H => D.nx σ H
def tSeq (t u : TS) : TS := fun D σ H => t { D with nx := u D } σ H
theorem pss_nil : PSs X [] tNext := fun _ _ σ H _ I h => wpAny_execs_nil ⟨σ, H, I, h⟩
theorem pss_cons (h1 : PS X st t) (h2 : PSs X rest u) : PSs X (st :: rest) (tSeq t u) := by
  intro pins s σ H D I h
  refine wpAny_execs_cons (thn (h1 pins s σ H { D with nx := u D } I h) fun f s1 q => ?_)
  cases f with
  | next =>
    obtain ⟨σ', H', I', q⟩ := q
    exact h2 pins s1 σ' H' D I' q
  | ret v => exact q
  | brk => exact q
  | cont => exact q
theorem pss_one (h1 : PS X st t) : PSs X [st] t := by
  intro pins s σ H D I h
  refine wpAny_execs_cons (thn (h1 pins s σ H D I h) fun f s1 q => ?_)
  cases f with
  | next => exact wpAny_execs_nil q
  | ret v => exact q
  | brk => exact q
  | cont => exact q
/-- in a def's body nothing is shown -/
theorem Inv.quiet {pins : List (Addr × Obj)} {σ : St} {H : Hp} {s : Shared} (I : Inv X pins σ H s) : interactive X.env = false := by simp [interactive, I.ok.kind]
/-- an expression whose value is dropped -/
def tDrop (te : TE) : TS := fun D σ H => te σ H fun _ H1 => D.nx σ H1
theorem ps_expr (he : PE X e te) (hs : swapsWith e none pos.line X.env = pure false := by rfl) : PS X (.Expr e pos) (tDrop te) := by
  intro pins s σ H D I h
  exact wpAny_Expr_any (thn (he pins s σ H _ I h) fun v s1 ⟨x, H1, I1, r1, q1⟩ => ⟨σ, H1, I1, q1⟩) I.quiet hs
def tRet (te : TE) : TS := fun D σ H => te σ H D.rt
theorem ps_ret (he : PE X e te) : PS X (.Return (some e) pos) (tRet te) := by
  intro pins s σ H D I h
  exact wpAny_Return_some (thn (he pins s σ H _ I h) fun v s1 ⟨x, H1, I1, r1, q1⟩ => ⟨x, σ, H1, I1, r1, q1⟩)
def tIfS (c : TT) (t u : TS) : TS := fun D σ H => c σ H fun b H1 => if b = true then t D σ H1 else u D σ H1
theorem ps_if {c : Expr} {a b : List Stmt} {tc : TT} (hc : PT X c tc) (ha : PSs X a t) (hb : PSs X b u) : PS X (.If c a b pos) (tIfS tc t u) := by
  intro pins s σ H D I h
  refine wpAny_If (thn (hc pins s σ H _ I h) fun d s1 ⟨H1, I1, q1⟩ => ?_)
  cases d with
  | true => exact ha pins s1 σ H1 D I1 q1
  | false => exact hb pins s1 σ H1 D I1 q1
/-- code that the proof never comes to -/
def tNever : TS := fun _ _ _ => False
theorem ps_never : PS X st tNever := fun _ _ _ _ _ _ h => h.elim
end

/-! ### targets -/
abbrev TG := V → St → Hp → (St → Hp → Prop) → Prop
abbrev TGs := List V → St → Hp → (St → Hp → Prop) → Prop
def PG (X : Cx) (target : Expr) (t : TG) : Prop :=
  ∀ (pins : List (Addr × Obj)) (s : Shared) (σ : St) (H : Hp) (v : V) (u : Value) (Q : St → Hp → Prop), Inv X pins σ H s → RelV v u → t v σ H Q →
    wpAny (model X.prog X.w) X.A (assign target X.env u) (fun _ s' => ∃ σ' H', Inv X pins σ' H' s' ∧ Q σ' H') X.xe s
/-- several targets, one after another -/
def PGs (X : Cx) (ts : List Expr) (t : TGs) : Prop :=
  ∀ (pins : List (Addr × Obj)) (s : Shared) (σ : St) (H : Hp) (vs : List V) (us : List Value) (Q : St → Hp → Prop), Inv X pins σ H s → Vals vs us → t vs σ H Q →
    wpAny (model X.prog X.w) X.A (assignInOrder ((assignEach ts X.env).map (·.2)) us) (fun _ s' => ∃ σ' H', Inv X pins σ' H' s' ∧ Q σ' H') X.xe s
/-- o[i] = v, by values -/
abbrev TSet := V → V → V → Hp → (Hp → Prop) → Prop
def PSet (X : Cx) (t : TSet) : Prop :=
  ∀ (pins : List (Addr × Obj)) (s : Shared) (σ : St) (H : Hp) (o i v : V) (ov iv u : Value) (Q : Hp → Prop), Inv X pins σ H s → RelV o ov → RelV i iv → RelV v u → t o i v H Q →
    wpAny (model X.prog X.w) X.A (setItem ov iv u) (fun _ s' => ∃ H', Inv X pins σ H' s' ∧ Q H') X.xe s
section
variable {X : Cx} {pos : Pos}
def gName (i : Nat) : TG := fun v σ H Q => Q (σ.set i (some v)) H
theorem pg_name {i : Nat} {x : Str} (hN : X.N.Nodup) (hi : X.N[i]? = some x) (hx : Loc X.env.scope x) (hf : X.fn x = true ∨ X.env.scope.names.lookup x = some .local := by first | exact .inl rfl | exact .inr rfl | assumption) : PG X (.Name x pos) (gName i) := by
  intro pins s σ H v u Q I r h
  exact wpAny_assign_Name (store_ok I hN hi hx r (fun s' I' => ⟨_, H, I', h⟩) hf)
def gNil : TGs := fun vs σ H Q => vs = [] ∧ Q σ H
def gCons (t : TG) (u : TGs) : TGs := fun vs σ H Q => ∃ v r, vs = v :: r ∧ t v σ H fun σ' H' => u r σ' H' Q
theorem pgs_nil : PGs X [] gNil := by
  intro pins s σ H vs us Q I r h
  obtain ⟨e, h⟩ := h
  subst e
  cases r
  exact assignInOrder_nil ⟨σ, H, I, h⟩
theorem pgs_cons {e : Expr} {es : List Expr} {t : TG} {u : TGs} (h1 : PG X e t) (h2 : PGs X es u)
    (hs : (assignEach (e :: es) X.env).map (·.2) = assign e X.env :: (assignEach es X.env).map (·.2) := by rfl) : PGs X (e :: es) (gCons t u) := by
  intro pins s σ H vs us Q I r h
  obtain ⟨v, vr, e1, h⟩ := h
  subst e1
  cases r with
  | cons r rr =>
    rw [hs]
    refine assignInOrder_cons (thn (h1 pins s σ H _ _ _ I r h) fun _ s1 ⟨σ1, H1, I1, q1⟩ => ?_)
    exact h2 pins s1 σ1 H1 _ _ Q I1 rr q1
/-- (a, b, ..) = a tuple of that length -/
def gTup (K : PySem.W.Frag) (n : Nat) (t : TGs) : TG := fun v σ H Q => ∃ a xs, v = .ref a ∧ SqT K H a xs ∧ xs.length = n ∧ t xs σ H Q
theorem pg_tup {es : List Expr} {k : Nat} {t : TGs} {n : Nat} (hc : X.calm = true) (h : PGs X es t)
    (hn : (assignEach es X.env).length = n := by rfl) (hst : (assignEach es X.env).findIdx? (·.1) = none := by rfl) : PG X (.Tuple es k pos) (gTup X.K n t) := by
  intro pins s σ H v u Q I r hw
  obtain ⟨a, xs, e1, hq, hl, hw⟩ := hw
  subst e1
  cases r
  obtain ⟨its, rv, ht, hz⟩ := I.tuple hq
  refine assign_Tuple_tuple (I.ok.hd hc) ht (by simp [hn, ← hl, rv.length]) hst fun h' hx => ?_
  have I1 : Inv X pins σ H { s with heap := h' } := I.kept (t' := s.toks) fun b o e => hx b o (Nat.ne_of_lt (Heap.lt_size e)) e
  exact h pins _ σ H xs _ Q I1 (by simpa using rv) hw
/-- o[i] = .. -/
def gSub (to ti : TE) (t : TSet) : TG := fun v σ H Q => to σ H fun o H1 => ti σ H1 fun i H2 => t o i v H2 fun H3 => Q σ H3
theorem pg_sub {o i : Expr} {to ti : TE} {t : TSet} (ho : PE X o to) (hi : PE X i ti) (hs : PSet X t)
    (ha : ∀ v, assign (.Subscript o i pos) X.env v = (do
      let ov ← holding [v] (eval o X.env)
      let iv ← holding [v, ov] (eval i X.env)
      standAt pos
      holding [v, ov, iv] (setItem ov iv v)
      release [v, ov, iv] []) := by intro _; rfl) : PG X (.Subscript o i pos) (gSub to ti t) := by
  intro pins s σ H v u Q I r h
  rw [ha]
  refine wpAny_bind (wpAny_holding (thn (ho pins s σ H _ I h) fun ov s1 ⟨x, H1, I1, r1, q1⟩ => ?_))
  refine wpAny_bind (wpAny_holding (thn (hi pins s1 σ H1 _ I1 q1) fun iv s2 ⟨y, H2, I2, r2, q2⟩ => ?_))
  refine wpAny_bind (wpAny_standAt (wpAny_bind (wpAny_holding (thn (hs pins s2 σ H2 x y v ov iv u _ I2 r1 r2 r q2) fun _ s3 ⟨H3, I3, q3⟩ => ?_))))
  exact wpAny_release ⟨σ, H3, I3, q3⟩
/-- target = value -/
def tAsg (te : TE) (g : TG) : TS := fun D σ H => te σ H fun x H1 => g x σ H1 D.nx
theorem ps_asg {tg e : Expr} {te : TE} {g : TG} (he : PE X e te) (hg : PG X tg g) (hs : swapsWithSole [tg] e pos.line X.env = pure false := by rfl) (hw : swappedStores [tg] e X.env = pure none := by rfl)
    (h1 : (assignEach [tg] X.env).map (·.2) = [assign tg X.env] := by rfl) : PS X (.Assign [tg] e pos) (tAsg te g) := by
  intro pins s σ H D I h
  refine wpAny_Assign_stores (thn (he pins s σ H _ I h) fun v s1 ⟨x, H1, I1, r1, q1⟩ => ?_) hs hw
  rw [h1]
  exact thn (hg pins s1 σ H1 x v _ I1 r1 q1) fun _ s2 q => q
/-- name = value -/
theorem ps_set {i : Nat} {x : Str} {e : Expr} {te : TE} {pos' : Pos} (hN : X.N.Nodup) (hi : X.N[i]? = some x) (hx : Loc X.env.scope x) (he : PE X e te) (hs : swapsWith e (some (.Name x pos')) pos.line X.env = pure false := by rfl) (hf : X.fn x = true ∨ X.env.scope.names.lookup x = some .local := by first | exact .inl rfl | exact .inr rfl | assumption) :
    PS X (.Assign [.Name x pos'] e pos) (tAsg te (gName i)) := by
  intro pins s σ H D I h
  refine wpAny_Assign_Name (thn (he pins s σ H _ I h) fun v s1 ⟨y, H1, I1, r1, q1⟩ => ?_) hs
  exact store_ok I1 hN hi hx r1 (fun s2 I2 => ⟨_, H1, I2, q1⟩) hf
end

/-! ### while -/
section
variable {X : Cx} {pos : Pos}
/-- the invariant W with its measure -/
def tWhile (c : TT) (tb : TS) : TS := fun D σ H => ∃ W : Nat → St → Hp → Prop, (∃ m, W m σ H) ∧ ∀ m σ H, W m σ H →
  c σ H fun b H1 => if b = true then ∃ N : St → Hp → Prop, (∀ σ' H', N σ' H' → ∃ m', m' < m ∧ W m' σ' H') ∧ tb { D with nx := N, ct := N, bk := D.nx } σ H1 else D.nx σ H1
theorem ps_while {c : Expr} {body : List Stmt} {tc : TT} {tb : TS} (hp : PassesOwn (model X.prog X.w) X.A X.env X.xe) (hc : PT X c tc) (hb : PSs X body tb) : PS X (.While c body [] pos) (tWhile tc tb) := by
  intro pins s σ H D I h
  obtain ⟨W, ⟨m0, w0⟩, turn⟩ := h
  refine wpAny_While (codeAny_whileLoop (fun n s' => ∃ σ' H', Inv X pins σ' H' s' ∧ W n σ' H') ?_ m0 ⟨σ, H, I, w0⟩)
  rintro n s1 ⟨σ1, H1, I1, w1⟩
  refine wpAny_passesOwn hp (thn (hc pins s1 σ1 H1 _ I1 (turn n σ1 H1 w1)) fun b s2 ⟨H2, I2, q2⟩ => ?_)
  cases b with
  | true =>
    obtain ⟨N, hN, q2⟩ := q2
    rw [if_pos rfl]
    refine wpAny_passesOwn hp (thn (hb pins s2 σ1 H2 _ I2 q2) fun f s3 q3 => ?_)
    cases f with
    | next =>
      obtain ⟨σ3, H3, I3, n3⟩ := q3
      obtain ⟨m', hm, w3⟩ := hN σ3 H3 n3
      exact ⟨m', hm, σ3, H3, I3, w3⟩
    | cont =>
      obtain ⟨σ3, H3, I3, n3⟩ := q3
      obtain ⟨m', hm, w3⟩ := hN σ3 H3 n3
      exact ⟨m', hm, σ3, H3, I3, w3⟩
    | brk => exact q3
    | ret v => exact q3
  | false =>
    rw [if_neg Bool.false_ne_true]
    exact wpAny_execs_nil ⟨σ1, H2, I2, q2⟩
end

/-! ### what a loop or a comprehension walks -/
/-- at turn i: it yields x (the heap may grow), or it stops -/
structure It where
  go : Nat → Hp → Prop
  yld : Nat → Hp → V → Hp → Prop
  stop : Nat → Hp → Prop
/-- the iterator's own objects may turn: they are not the frame's, not pinned, younger than the entry (or a comprehension's own) -/
def FpOk (X : Cx) (pins : List (Addr × Obj)) (H : Hp) (b : Addr) : Prop :=
  H b = none ∧ b ≠ X.env.locals ∧ b ∉ X.fs ∧ (b ∈ X.ex ∨ X.s_0.heap.objs.size ≤ b) ∧ (∀ x c, X.env.cells.lookup x = some c → c ≠ b) ∧ ∀ p ∈ X.pn ++ pins, p.1 ≠ b
theorem Inv.fpOk {X : Cx} {pins : List (Addr × Obj)} {σ : St} {H H' : Hp} {s : Shared} {b : Addr} (I : Inv X pins σ H s) (hb : s.heap.objs.size ≤ b) (hn : H' b = none) : FpOk X pins H' b := by
  refine ⟨hn, Nat.ne_of_gt (Nat.lt_of_lt_of_le I.lt hb), I.nofs hb, .inr (Nat.le_trans I.sz hb), fun x c e z => ?_, fun p hp z => ?_⟩
  · obtain ⟨v, q⟩ := I.cell x c e
    exact absurd (Nat.lt_of_lt_of_le q.lt (by rw [z]; exact hb)) (Nat.lt_irrefl _)
  · exact absurd (Nat.lt_of_lt_of_le (Heap.lt_size (I.pin p hp).1) (by rw [z]; exact hb)) (Nat.lt_irrefl _)
structure Turn (P : Program) (w : World) (K : PySem.W.Frag) (tg : Expr) (J : It) (fp : List Addr) (it : Addr) (tn : Nat → Heap → Prop) : Prop where
  mem : it ∈ fp
  obj : ∀ i h, tn i h → ∀ b ∈ fp, ∃ o, h.get? b = some o ∧ ∀ v, o.data ≠ .cell v
  keep : ∀ i h h', tn i h → (∀ b ∈ fp, ∀ o, h.get? b = some o → h'.get? b = some o) → tn i h'
  item : ∀ (X : Cx), X.prog = P → X.w = w → X.K = K → X.calm = true → ∀ (i : Nat) (pins : List (Addr × Obj)) (s : Shared) (σ : St) (H : Hp) (E : Value → Shared → Prop), Inv X pins σ H s → (∀ b ∈ fp, FpOk X pins H b) → tn i s.heap → J.go i H →
    wpAny (model P w) X.A (pyNext (.ref it)) (fun r s1 => ∃ u, r = some u ∧
      wpAny (model P w) X.A (letOwnedTupleGo tg (.ref it) u) (fun _ s2 => ∃ x H', Inv X pins σ H' s2 ∧ RelV x u ∧ J.yld i H x H' ∧ tn (i + 1) s2.heap ∧ ∀ b ∈ fp, H' b = none) E s1) E s
  done : ∀ (X : Cx), X.prog = P → X.w = w → X.K = K → X.calm = true → ∀ (i : Nat) (pins : List (Addr × Obj)) (s : Shared) (σ : St) (H : Hp) (E : Value → Shared → Prop), Inv X pins σ H s → (∀ b ∈ fp, FpOk X pins H b) → tn i s.heap → J.stop i H →
    wpAny (model P w) X.A (pyNext (.ref it)) (fun r s1 => r = none ∧ Inv X pins σ H s1) E s
  self : ∀ (A : Around) (i : Nat) (s : Shared) (Q : Value → Shared → Prop) (E : Value → Shared → Prop), tn i s.heap → Q (.ref it) s → wpAny (model P w) A (pyIter (.ref it)) Q E s
abbrev TI := St → Hp → (It → Hp → Prop) → Prop
/-- an iterator has come -/
def PIE (X : Cx) (pins : List (Addr × Obj)) (σ : St) (tg : Expr) (R : It → Hp → Prop) (itv : Value) (s2 : Shared) : Prop :=
  ∃ (it : Addr) (fp : List Addr) (tn : Nat → Heap → Prop) (J : It) (H' : Hp), itv = .ref it ∧ Inv X pins σ H' s2 ∧ Turn X.prog X.w X.K tg J fp it tn ∧ tn 0 s2.heap ∧ (∀ b ∈ fp, FpOk X pins H' b) ∧ R J H'
def PI (X : Cx) (tg iter : Expr) (wi : TI) : Prop :=
  ∀ (pins : List (Addr × Obj)) (s : Shared) (σ : St) (H : Hp) (R : It → Hp → Prop), Inv X pins σ H s → wi σ H R →
    wpAny (model X.prog X.w) X.A (eval iter X.env) (fun v s1 => wpAny (model X.prog X.w) X.A (pyIter v) (PIE X pins σ tg R) X.xe s1) X.xe s

/-- the step ahead of the store is nothing for an iterator that keeps no tuple -/
theorem go_of {M : Model} {A : Around} {E : Value → Shared → Prop} {s : Shared} {tg : Expr} {it : Addr} {u : Value} {o : Obj} {n : String} {vs : Array Value} {Q : Unit → Shared → Prop} (ho : s.heap.get? it = some o) (hc : o.cls = .type n) (hd : o.data = .fields vs)
    (hn : ["enumerate", "zip", "dict_itemiterator", "dict_reverseitemiterator", "odict_iterator", "itertools.zip_longest", "itertools.pairwise"].contains n = false) (hQ : Q () s) : wpAny M A (letOwnedTupleGo tg (.ref it) u) Q E s := by
  unfold letOwnedTupleGo
  cases tg <;> first
    | exact wpAny_pure hQ
    | (cases u <;> first
        | exact wpAny_pure hQ
        | (refine wpAny_bind (wpAny_load ho ?_)
           rw [hc, hd]
           show wpAny M A (if (["enumerate", "zip", "dict_itemiterator", "dict_reverseitemiterator", "odict_iterator", "itertools.zip_longest", "itertools.pairwise"].contains n && vs[0]? == some (rawInt _)) = true then _ else _) Q E s
           rw [if_neg (by intro h; rw [hn, Bool.false_and] at h; cases h)]
           exact wpAny_pure hQ))

/-- the list at a, as it stands at each turn (a loop may append to it) -/
def Itl (K : PySem.W.Frag) (a : Addr) : It :=
  ⟨fun i H => ∃ xs x, SqL K H a xs ∧ xs[i]? = some x, fun i H x H' => H' = H ∧ ∀ xs, SqL K H a xs → xs[i]? = some x, fun i H => ∃ xs, SqL K H a xs ∧ xs.length ≤ i⟩
/-- lo, lo + 1, .. (n of them) -/
def Itr (lo : Int) (n : Nat) : It := ⟨fun i _ => i < n, fun i H x H' => H' = H ∧ x = .int (lo + i), fun i _ => n ≤ i⟩
theorem turn_list {P : Program} {w : World} {K : PySem.W.Frag} {tg : Expr} (a it : Addr) : Turn P w K tg (Itl K a) [it] it (fun i h => h.IsListIter it a i) where
  mem := by simp
  obj := fun i h st b hb => by
    have e : b = it := by simpa using hb
    subst e
    obtain ⟨o, e, c, d⟩ := st
    exact ⟨o, e, fun v z => by rw [d] at z; cases z⟩
  keep := fun i h h' st k => st.at fun o e => k it (by simp) o e
  item := by
    intro X hP hw hK hc i pins s σ H E I hf st hg
    subst hP hw hK
    obtain ⟨xs, x, hq, hx⟩ := hg
    obtain ⟨its, rv, p, hz⟩ := I.list hq
    obtain ⟨u, hu, ru⟩ := rv.get hx
    obtain ⟨f0, f1, f2, f3, f4, f5⟩ := hf it (by simp)
    refine wpAny_pyNext_list_item st p.isList (x := u) (by simpa using hu) fun h' st' sb => ?_
    have I1 : Inv X pins σ H { s with heap := h' } := I.turned (t' := s.toks) (fun b o hb e => (sb.2 b hb).trans e) f0 f1 f3 f4 f5
    obtain ⟨o, e, c, d⟩ := id st'
    exact ⟨u, rfl, go_of (s := { s with heap := h' }) e c d (by decide) ⟨x, H, I1, ru, ⟨rfl, fun ys hy => by rw [I.list_inj hy hq]; exact hx⟩, st', fun b hb => (hf b hb).1⟩⟩
  done := by
    intro X hP hw hK hc i pins s σ H E I hf st hg
    subst hP hw hK
    obtain ⟨xs, hq, hx⟩ := hg
    obtain ⟨its, rv, p, hz⟩ := I.list hq
    obtain ⟨f0, f1, f2, f3, f4, f5⟩ := hf it (by simp)
    have hl := rv.length
    exact wpAny_pyNext_list_end (I.ok.hd hc) st p.isList (by simp; omega) fun h' eb => ⟨rfl, I.turned (t' := s.toks) (fun b o hb e => eb b o hb e) f0 f1 f3 f4 f5⟩
  self := fun _ _ _ _ _ st h => wpAny_pyIter_listiter st h
theorem turn_range {P : Program} {w : World} {K : PySem.W.Frag} {tg : Expr} (it : Addr) (lo : Int) (n : Nat) : Turn P w K tg (Itr lo n) [it] it (fun i h => IsRangeIter h it (lo + (i : Nat) * 1) ((n : Int) - (i : Nat)) 1) where
  mem := by simp
  obj := fun i h st b hb => by
    have e : b = it := by simpa using hb
    subst e
    exact ⟨_, st, fun v z => by
      have z' : Data.fields _ = Data.cell v := z
      cases z'⟩
  keep := fun i h h' st k => k it (by simp) _ st
  item := by
    intro X hP hw hK hc i pins s σ H E I hf st hg
    subst hP hw hK
    obtain ⟨f0, f1, f2, f3, f4, f5⟩ := hf it (by simp)
    have W := Walks.range (prog := X.prog) (w := X.w) (I.ok.hd hc) it lo 1 n
    refine W.item i s _ _ hg st fun v h' tk hv st' kk => ?_
    obtain ⟨t, rfl⟩ := hv
    have I1 : Inv X pins σ H { s with heap := h', toks := tk } := I.turned (fun b o hb e => kk b o (by simpa using hb) e) f0 f1 f3 f4 f5
    refine ⟨_, rfl, go_of (s := { s with heap := h', toks := tk }) (n := "range_iterator") st' rfl rfl (by decide) ⟨.int (lo + i), H, I1, ⟨t, ?_⟩, ⟨rfl, rfl⟩, st', fun b hb => (hf b hb).1⟩⟩
    rw [Int.mul_one]
  done := by
    intro X hP hw hK hc i pins s σ H E I hf st hg
    subst hP hw hK
    obtain ⟨f0, f1, f2, f3, f4, f5⟩ := hf it (by simp)
    exact wpAny_pyNext_range_end (I.ok.hd hc) st (by have : n ≤ i := hg; omega) fun h' eb => ⟨rfl, I.turned (t' := s.toks) (fun b o hb e => eb b o hb e) f0 f1 f3 f4 f5⟩
  self := fun _ _ _ _ _ st h => wpAny_pyIter_rangeiter st h
end L2

namespace L2
open PySem PySem.Spec PyProof.Rows
section
variable {X : Cx} {tg : Expr}
def iList (K : PySem.W.Frag) (tl : TE) : TI := fun σ H R => tl σ H fun x H1 => ∃ a, x = .ref a ∧ (∃ xs, SqL K H1 a xs) ∧ R (Itl K a) H1
theorem pi_list {l : Expr} {tl : TE} (hl : PE X l tl) : PI X tg l (iList X.K tl) := by
  intro pins s σ H R I h
  refine thn (hl pins s σ H _ I h) fun v s1 ⟨x, H1, I1, r1, q1⟩ => ?_
  obtain ⟨a, e, ⟨xs, hq⟩, q⟩ := q1
  subst e
  cases r1
  obtain ⟨its, rv, p, hz⟩ := I1.list hq
  refine wpAny_pyIter_list p.isList ?_
  refine ⟨s1.heap.objs.size, [s1.heap.objs.size], _, _, H1, rfl, I1.kept (t' := s1.toks) fun b o e => Heap.get?_push_of_some _ e, turn_list a _, ⟨_, Heap.get?_push_size _ rfl, rfl, rfl⟩, fun b hb => ?_, q⟩
  have e : b = s1.heap.objs.size := by simpa using hb
  subst e
  exact I1.fpOk (Nat.le_refl _) (I1.hok.fresh (Nat.le_refl _))
/-- a range object just made, walked -/
theorem range_it {pins : List (Addr × Obj)} {σ : St} {H : Hp} {s : Shared} {R : It → Hp → Prop} {E : Value → Shared → Prop} {lo hi : Int} {t u v : Tok} {tk : Nat} (I : Inv X pins σ H s) (h1 : -(2 ^ 62) ≤ lo) (h2 : lo < 2 ^ 62) (h3 : -(2 ^ 62) ≤ hi) (h4 : hi < 2 ^ 62)
    (q : R (Itr lo (hi - lo).toNat) H) : wpAny (model X.prog X.w) X.A (pyIter (.ref s.heap.objs.size)) (PIE X pins σ tg R) E { s with heap := s.heap.push { cls := .type "range", data := .fields #[.int lo t, .int hi u, .int 1 v] }, toks := tk } := by
  refine wpAny_pyIter_range (IsRange.new ..) (small_one h1 h2 h3 h4) ?_
  have I1 : Inv X pins σ H { s with heap := s.heap.push { cls := .type "range", data := .fields #[.int lo t, .int hi u, .int 1 v] }, toks := tk } := I.kept fun b o e => Heap.get?_push_of_some _ e
  refine ⟨(s.heap.push { cls := .type "range", data := .fields #[.int lo t, .int hi u, .int 1 v] }).objs.size, [(s.heap.push { cls := .type "range", data := .fields #[.int lo t, .int hi u, .int 1 v] }).objs.size], _, _, H, rfl,
    I1.kept (t' := tk) fun b o e => Heap.get?_push_of_some _ e, turn_range _ lo (hi - lo).toNat, ?_, fun b hb => ?_, q⟩
  · have e1 : lo + ((0 : Nat) : Int) * 1 = lo := by simp
    have e2 : (((hi - lo).toNat : Nat) : Int) - ((0 : Nat) : Int) = Builtin.Range.rangeSize lo hi 1 := by rw [rangeSize_one]; split <;> omega
    show IsRangeIter _ _ (lo + ((0 : Nat) : Int) * 1) ((((hi - lo).toNat : Nat) : Int) - ((0 : Nat) : Int)) 1
    rw [e1, e2]
    exact Heap.get?_push_size _ rfl
  · have e : b = (s.heap.push { cls := .type "range", data := .fields #[.int lo t, .int hi u, .int 1 v] }).objs.size := by simpa using hb
    subst e
    exact I1.fpOk (Nat.le_refl _) (I1.hok.fresh (Nat.le_refl _))
def iRng1 (ta : TA) : TI := fun σ H R => ta σ H fun vs H1 => ∃ j : Int, vs = [.int j] ∧ -(2 ^ 62) ≤ j ∧ j < 2 ^ 62 ∧ R (Itr 0 j.toNat) H1
theorem pi_range1 {a : Expr} {ta : TA} {p pos : Pos} (hg : Gl X "range") (hm : X.mg "range" = none) (ha : PA X [a] ta) (hs : starEach [a] X.env = [(false, eval a X.env)] := by rfl) : PI X tg (.Call (.Name "range" p) [a] [] pos) (iRng1 ta) := by
  intro pins s σ H R I h
  refine Call_ (ld_blt I hg hm boot_range (PyProof.Rows.callWith_type1 (thn (ha pos pins s σ H _ I h) fun us s1 ⟨vs, H1, I1, r1, q1⟩ => ?_) hs rfl))
  obtain ⟨j, e, q1, q2, q⟩ := q1
  subst e
  cases r1 with
  | cons r rr =>
    cases rr
    obtain ⟨t, rfl⟩ := r
    exact call_range_1 (range_it I1 (by omega) (by omega) q1 q2 (by simpa using q))
/-! ### for -/
/-- W: the invariant by the turn and a measure; N: what the body is to reach -/
def tFor (wi : TI) (g : TG) (tb : TS) : TS := fun D σ H => wi σ H fun J H1 => ∃ W : Nat → Nat → St → Hp → Prop, (∃ m, W 0 m σ H1) ∧ ∀ i m σ H, W i m σ H →
  (J.stop i H ∧ D.nx σ H) ∨ (J.go i H ∧ ∃ N : St → Hp → Prop, (∀ σ' H', N σ' H' → ∃ m', m' < m ∧ W (i + 1) m' σ' H') ∧ ∀ x H', J.yld i H x H' → g x σ H' fun σ2 H2 => tb { D with nx := N, ct := N, bk := D.nx } σ2 H2)
/-- the records at fp as they stand -/
def pinsAt (fp : List Addr) (h : Heap) : List (Addr × Obj) := fp.filterMap fun b => (h.get? b).map fun o => (b, o)
theorem mem_pinsAt {fp : List Addr} {h : Heap} {b : Addr} {o : Obj} (hb : b ∈ fp) (e : h.get? b = some o) : (b, o) ∈ pinsAt fp h := List.mem_filterMap.mpr ⟨b, hb, by rw [e]; rfl⟩
theorem of_pinsAt {fp : List Addr} {h : Heap} {p : Addr × Obj} (hp : p ∈ pinsAt fp h) : p.1 ∈ fp ∧ h.get? p.1 = some p.2 := by
  obtain ⟨b, hb, e⟩ := List.mem_filterMap.mp hp
  cases q : h.get? b with
  | none => rw [q] at e; cases e
  | some o =>
    rw [q] at e
    have e' : (b, o) = p := Option.some.inj e
    subst e'
    exact ⟨hb, q⟩
theorem Inv.pinned {pins : List (Addr × Obj)} {σ : St} {H : Hp} {s : Shared} {fp : List Addr} (I : Inv X pins σ H s) (hf : ∀ b ∈ fp, FpOk X pins H b) (ho : ∀ b ∈ fp, ∃ o, s.heap.get? b = some o ∧ ∀ v, o.data ≠ .cell v) : Inv X (pins ++ pinsAt fp s.heap) σ H s :=
  I.pins_of fun p hp => (List.mem_append.mp hp).elim (fun z => I.pin p (List.mem_append_right _ z)) fun z => by
    obtain ⟨hb, e⟩ := of_pinsAt z
    obtain ⟨f0, f1, f2, _⟩ := hf p.1 hb
    obtain ⟨o, e', d⟩ := ho p.1 hb
    rw [e] at e'; cases e'
    exact ⟨e, f0, f1, f2, d⟩
theorem Inv.unpinned {pins pl : List (Addr × Obj)} {σ : St} {H : Hp} {s : Shared} (I : Inv X (pins ++ pl) σ H s) : Inv X pins σ H s := I.pins_of fun p hp => I.pin p (List.mem_append_right _ (List.mem_append_left _ hp))
theorem ps_for {iter : Expr} {body : List Stmt} {wi : TI} {g : TG} {tb : TS} {pos : Pos} (hp : PassesOwn (model X.prog X.w) X.A X.env X.xe) (hc : X.calm = true) (hi : PI X tg iter wi) (hg : PG X tg g) (hb : PSs X body tb)
    (hs : ∀ x, foldedSetIterable iter X.env x = pure x := by intro _; rfl) : PS X (.For tg iter body [] pos) (tFor wi g tb) := by
  intro pins s σ H D I h
  refine wpAny_For (thn (hi pins s σ H _ I h) fun v s1 h1 => thn h1 fun itv s2 h2 => ?_) hs
  obtain ⟨it, fp, tn, J, H2, e, I2, T, st2, f2, W, ⟨m0, w0⟩, turn⟩ := h2
  subst e
  -- what stays true of the iterator's objects through the loop
  have stat : ∀ {H' : Hp}, (∀ b ∈ fp, H' b = none) → ∀ b ∈ fp, FpOk X pins H' b := fun hn b hb => ⟨hn b hb, (f2 b hb).2⟩
  refine codeAny_forLoop_any (fun n s' => ∃ i σ' H', Inv X pins σ' H' s' ∧ tn i s'.heap ∧ (∀ b ∈ fp, H' b = none) ∧ W i n σ' H') ?_ m0 ⟨0, σ, H2, I2, st2, fun b hb => (f2 b hb).1, w0⟩
  rintro n s3 ⟨i, σ3, H3, I3, st3, fr3, w3⟩
  rcases turn i n σ3 H3 w3 with ⟨stop, qn⟩ | ⟨go, N, hN, step⟩
  · refine wpAny_passesOwn hp (thn (T.done X rfl rfl rfl hc i pins s3 σ3 H3 X.xe I3 (stat fr3) st3 stop) fun r s4 ⟨hr, I4⟩ => ?_)
    subst hr
    exact wpAny_execs_nil ⟨σ3, H3, I4, qn⟩
  · refine wpAny_passesOwn hp (thn (T.item X rfl rfl rfl hc i pins s3 σ3 H3 X.xe I3 (stat fr3) st3 go) fun r s4 ⟨u, hr, h4⟩ => ?_)
    subst hr
    refine wpAny_passesOwn hp (thn h4 fun _ s5 ⟨x, H5, I5, r5, y5, st5, fr5⟩ => ?_)
    have I5' := I5.pinned (stat fr5) (T.obj _ _ st5)
    refine wpAny_passesOwn hp (thn (hg _ s5 σ3 H5 x u _ I5' r5 (step x H5 y5)) fun _ s6 ⟨σ6, H6, I6, q6⟩ => ?_)
    refine wpAny_passesOwn hp (thn (hb _ s6 σ6 H6 _ I6 q6) fun f s7 q7 => ?_)
    have again : ∀ {σ7 : St} {H7 : Hp}, Inv X (pins ++ pinsAt fp s5.heap) σ7 H7 s7 → N σ7 H7 → ∃ m, m < n ∧ ∃ i σ' H', Inv X pins σ' H' s7 ∧ tn i s7.heap ∧ (∀ b ∈ fp, H' b = none) ∧ W i m σ' H' := fun {σ7 H7} I7 n7 => by
      obtain ⟨m', hm, w7⟩ := hN σ7 H7 n7
      refine ⟨m', hm, i + 1, σ7, H7, I7.unpinned, T.keep _ _ _ st5 fun b hb o e => (I7.pin (b, o) (List.mem_append_right _ (List.mem_append_right _ (mem_pinsAt hb e)))).1, fun b hb => ?_, w7⟩
      obtain ⟨o, e, d⟩ := T.obj _ _ st5 b hb
      exact (I7.pin (b, o) (List.mem_append_right _ (List.mem_append_right _ (mem_pinsAt hb e)))).2.1
    cases f with
    | next => obtain ⟨σ7, H7, I7, n7⟩ := q7; exact again I7 n7
    | cont => obtain ⟨σ7, H7, I7, n7⟩ := q7; exact again I7 n7
    | brk => obtain ⟨σ7, H7, I7, q7⟩ := q7; exact ⟨σ7, H7, I7.unpinned, q7⟩
    | ret v => obtain ⟨x7, σ7, H7, I7, r7, q7⟩ := q7; exact ⟨x7, σ7, H7, I7.unpinned, r7, q7⟩
end

/-! ### the forms one uses -/
/-- over a list that the body leaves as it is -/
theorem for_list {K : PySem.W.Frag} {a : Addr} {xs : List V} {g : TG} {tb : TS} {D : Ends} {σ : St} {H : Hp} (Pv : Nat → St → Hp → Prop) (h0 : Pv 0 σ H) (hl : ∀ i σ H, i ≤ xs.length → Pv i σ H → SqL K H a xs)
    (hs : ∀ i x σ H, xs[i]? = some x → Pv i σ H → g x σ H fun σ2 H2 => tb { D with nx := Pv (i + 1), ct := Pv (i + 1), bk := D.nx } σ2 H2) (hd : ∀ σ H, Pv xs.length σ H → D.nx σ H) :
    ∃ W : Nat → Nat → St → Hp → Prop, (∃ m, W 0 m σ H) ∧ ∀ i m σ H, W i m σ H →
      ((Itl K a).stop i H ∧ D.nx σ H) ∨ ((Itl K a).go i H ∧ ∃ N : St → Hp → Prop, (∀ σ' H', N σ' H' → ∃ m', m' < m ∧ W (i + 1) m' σ' H') ∧ ∀ x H', (Itl K a).yld i H x H' → g x σ H' fun σ2 H2 => tb { D with nx := N, ct := N, bk := D.nx } σ2 H2) := by
  refine ⟨fun i m σ H => m = xs.length - i ∧ i ≤ xs.length ∧ Pv i σ H, ⟨xs.length, by simp, Nat.zero_le _, h0⟩, ?_⟩
  rintro i m σ H ⟨rfl, hi, p⟩
  have q := hl i σ H hi p
  by_cases hlt : i < xs.length
  · refine .inr ⟨⟨xs, xs[i], q, by simp [hlt]⟩, Pv (i + 1), fun σ' H' p' => ⟨xs.length - (i + 1), by omega, rfl, hlt, p'⟩, fun x H' y => ?_⟩
    obtain ⟨e, y⟩ := y
    subst e
    exact hs i x σ _ (y xs q) p
  · have e : i = xs.length := by omega
    subst e
    exact .inl ⟨⟨xs, q, Nat.le_refl _⟩, hd σ H p⟩
theorem for_range {lo : Int} {n : Nat} {g : TG} {tb : TS} {D : Ends} {σ : St} {H : Hp} (Pv : Nat → St → Hp → Prop) (h0 : Pv 0 σ H)
    (hs : ∀ i σ H, i < n → Pv i σ H → g (.int (lo + i)) σ H fun σ2 H2 => tb { D with nx := Pv (i + 1), ct := Pv (i + 1), bk := D.nx } σ2 H2) (hd : ∀ σ H, Pv n σ H → D.nx σ H) :
    ∃ W : Nat → Nat → St → Hp → Prop, (∃ m, W 0 m σ H) ∧ ∀ i m σ H, W i m σ H →
      ((Itr lo n).stop i H ∧ D.nx σ H) ∨ ((Itr lo n).go i H ∧ ∃ N : St → Hp → Prop, (∀ σ' H', N σ' H' → ∃ m', m' < m ∧ W (i + 1) m' σ' H') ∧ ∀ x H', (Itr lo n).yld i H x H' → g x σ H' fun σ2 H2 => tb { D with nx := N, ct := N, bk := D.nx } σ2 H2) := by
  refine ⟨fun i m σ H => m = n - i ∧ i ≤ n ∧ Pv i σ H, ⟨n, by simp, Nat.zero_le _, h0⟩, ?_⟩
  rintro i m σ H ⟨rfl, hi, p⟩
  by_cases hlt : i < n
  · refine .inr ⟨hlt, Pv (i + 1), fun σ' H' p' => ⟨n - (i + 1), by omega, rfl, hlt, p'⟩, fun x H' y => ?_⟩
    obtain ⟨e, y⟩ := y
    subst e y
    exact hs i σ _ hlt p
  · have e : i = n := by omega
    subst e
    exact .inl ⟨Nat.le_refl _, hd σ H p⟩
end L2

namespace L2
open PySem PySem.Spec PyProof.Rows

abbrev R2 := V → V → Hp → VK → Prop
/-- a two-place operation on values: f is binaryOp op, inplaceOp op or compareOp op -/
def OpR (X : Cx) (f : Value → Value → Sem Value) (r : R2) : Prop :=
  ∀ (pins : List (Addr × Obj)) (s : Shared) (σ : St) (H : Hp) (x y : V) (v u : Value) (Q : VK), Inv X pins σ H s → RelV x v → RelV y u → r x y H Q →
    wpAny (model X.prog X.w) X.A (f v u) (EP X pins σ Q) X.xe s
/-- a call of a value that is known (a builtin, a type) with values -/
def CallR (X : Cx) (f : Value) (r : List V → Hp → VK → Prop) : Prop :=
  ∀ (pins : List (Addr × Obj)) (s : Shared) (σ : St) (H : Hp) (xs : List V) (us : List Value) (Q : VK), Inv X pins σ H s → Vals xs us → r xs H Q →
    wpAny (model X.prog X.w) X.A (call f us) (EP X pins σ Q) X.xe s
def tOp (r : R2) (ta tb : TE) : TE := fun σ H Q => ta σ H fun x H1 => tb σ H1 fun y H2 => r x y H2 Q
/-- ints in, under C, and a value out -/
def rI (C : Int → Int → Prop) (g : Int → Int → V) : R2 := fun x y H Q => ∃ i j, x = .int i ∧ y = .int j ∧ C i j ∧ Q (g i j) H
def rI0 (g : Int → Int → V) : R2 := fun x y H Q => ∃ i j, x = .int i ∧ y = .int j ∧ Q (g i j) H
section
variable {X : Cx} {a b c : Expr} {ta tb tc : TE} {pos : Pos}

theorem binT (ha : PE X a ta) (hb : PE X b tb) {pins : List (Addr × Obj)} {s : Shared} {σ : St} {H : Hp} {R : V → V → Hp → Prop} (I : Inv X pins σ H s)
    (h : ta σ H fun x H1 => tb σ H1 fun y H2 => R x y H2) {Q : Value → Shared → Prop} {f : Value → Value → Sem Value}
    (hf : ∀ v u s2 x y H2, Inv X pins σ H2 s2 → RelV x v → RelV y u → R x y H2 → wpAny (model X.prog X.w) X.A (f v u) Q X.xe s2) :
    wpAny (model X.prog X.w) X.A (eval a X.env) (fun v s₁ => wpAny (model X.prog X.w) X.A (eval b X.env) (fun u s₂ => wpAny (model X.prog X.w) X.A (f v u) Q X.xe s₂) X.xe s₁) X.xe s := by
  refine thn (ha pins s σ H _ I h) fun v s1 ⟨x, H1, I1, r1, q1⟩ => ?_
  refine thn (hb pins s1 σ H1 _ I1 q1) fun u s2 ⟨y, H2, I2, r2, q2⟩ => ?_
  exact hf v u s2 x y H2 I2 r1 r2 q2

theorem pe_op {op : Operator} {r : R2} (ho : OpR X (binaryOp op) r) (ha : PE X a ta) (hb : PE X b tb) : PE X (.BinOp a op b pos) (tOp r ta tb) := by
  intro pins s σ H Q I h
  exact wpAny_BinOp (binT ha hb I h fun v u s2 x y H2 I2 rx ry q => ho pins s2 σ H2 x y v u Q I2 rx ry q)
/-! ### ints -/
theorem opI {f : Value → Value → Sem Value} {C : Int → Int → Prop} {g : Int → Int → Int}
    (rule : ∀ (i j : Int) (t u : Tok) (s : Shared) (Q : Value → Shared → Prop) (E : Value → Shared → Prop), C i j → Q (.int (g i j) s.toks) { s with toks := s.toks + 1 } → wpAny (model X.prog X.w) X.A (f (.int i t) (.int j u)) Q E s) :
    OpR X f (rI C fun i j => .int (g i j)) := by
  intro pins s σ H x y v u Q I rx ry h
  obtain ⟨i, j, rfl, rfl, hc, q⟩ := h
  obtain ⟨t, rfl⟩ := rx
  obtain ⟨t', rfl⟩ := ry
  exact rule i j t t' s _ _ hc ⟨.int (g i j), H, I.tok _, ⟨_, rfl⟩, q⟩
theorem opI0 {f : Value → Value → Sem Value} {g : Int → Int → Int}
    (rule : ∀ (i j : Int) (t u : Tok) (s : Shared) (Q : Value → Shared → Prop) (E : Value → Shared → Prop), Q (.int (g i j) s.toks) { s with toks := s.toks + 1 } → wpAny (model X.prog X.w) X.A (f (.int i t) (.int j u)) Q E s) :
    OpR X f (rI0 fun i j => .int (g i j)) := by
  intro pins s σ H x y v u Q I rx ry h
  obtain ⟨i, j, rfl, rfl, q⟩ := h
  obtain ⟨t, rfl⟩ := rx
  obtain ⟨t', rfl⟩ := ry
  exact rule i j t t' s _ _ ⟨.int (g i j), H, I.tok _, ⟨_, rfl⟩, q⟩
theorem opB0 {f : Value → Value → Sem Value} {g : Int → Int → Bool}
    (rule : ∀ (i j : Int) (t u : Tok) (s : Shared) (Q : Value → Shared → Prop) (E : Value → Shared → Prop), Q (.bool (g i j)) s → wpAny (model X.prog X.w) X.A (f (.int i t) (.int j u)) Q E s) :
    OpR X f (rI0 fun i j => .bl (g i j)) := by
  intro pins s σ H x y v u Q I rx ry h
  obtain ⟨i, j, rfl, rfl, q⟩ := h
  obtain ⟨t, rfl⟩ := rx
  obtain ⟨t', rfl⟩ := ry
  exact rule i j t t' s _ _ ⟨.bl (g i j), H, I, rfl, q⟩

def CDiv (i j : Int) : Prop := 0 < j ∧ j < 1073741824
def CMul (i j : Int) : Prop := (-(2 ^ 64) < i ∧ i < 2 ^ 64) ∨ (-(2 ^ 64) < j ∧ j < 2 ^ 64)
theorem CMul.ok {i j : Int} (h : CMul i j) : IntMulOk i j := by
  rcases h with ⟨h1, h2⟩ | ⟨h1, h2⟩
  · exact .of_left (intBits_le_64 h1 h2)
  · exact .of_right (intBits_le_64 h1 h2)
theorem two_pow_nn (k : Nat) : (0 : Int) ≤ 2 ^ k := by
  rw [two_pow_cast]
  exact Int.natCast_nonneg _

theorem op_add : OpR X (binaryOp .Add) (rI0 fun i j => .int (i + j)) := opI0 fun _ _ _ _ _ _ _ q => add_int q
theorem op_sub : OpR X (binaryOp .Sub) (rI0 fun i j => .int (i - j)) := opI0 fun _ _ _ _ _ _ _ q => sub_int q
theorem op_mul : OpR X (binaryOp .Mult) (rI CMul fun i j => .int (i * j)) := opI fun _ _ _ _ _ _ _ hc q => mul_int q hc.ok
/-- // by a positive divisor -/
theorem op_fdiv : OpR X (binaryOp .FloorDiv) (rI CDiv fun i j => .int (i / j)) := opI fun i j _ _ _ _ _ hc q => by
  have h1 : (0 : Int) < j := hc.1
  have h2 : j < 1073741824 := hc.2
  exact floordiv_int (by omega) (by rw [Int.fdiv_eq_ediv_of_nonneg i (by omega)]; exact q) (.inl (PyProof.noPylong_small (by omega)))
/-- % by a positive divisor of any size -/
theorem op_mod : OpR X (binaryOp .Mod) (rI (fun _ j => 0 < j) fun i j => .int (i % j)) := opI fun i j _ _ _ _ _ hc q => by
  have h1 : (0 : Int) < j := hc
  exact mod_int' (by omega) (by rw [Int.fmod_eq_emod_of_nonneg i (by omega)]; exact q)
theorem op_shr : OpR X (binaryOp .RShift) (rI (fun _ j => 0 ≤ j) fun i j => .int (i / 2 ^ j.toNat)) := opI fun i j _ _ _ _ _ hc q =>
  rshift_int hc (by rw [Int.fdiv_eq_ediv_of_nonneg i (two_pow_nn _)]; exact q)
theorem op_and : OpR X (binaryOp .BitAnd) (rI0 fun i j => .int (Builtin.bitAnd i j)) := opI0 fun _ _ _ _ _ _ _ q => and_int q
theorem op_xor : OpR X (binaryOp .BitXor) (rI0 fun i j => .int (Builtin.bitXor i j)) := opI0 fun _ _ _ _ _ _ _ q => xor_int q

/-! ### bools among ints: n += (a < b) -/
end

/-! ### comparisons -/
/-- the scalars that == tells apart as data does -/
def scal : V → V → Bool
  | .non, .non => true | .non, .int _ => true | .int _, .non => true | .non, .bl _ => true | .bl _, .non => true | .non, .str _ => true | .str _, .non => true
  | .int _, .int _ => true | .bl _, .bl _ => true | .str _, .str _ => true | .byt _, .byt _ => true
  | .int _, .str _ => true | .str _, .int _ => true | .bl _, .str _ => true | .str _, .bl _ => true
  | _, _ => false
def rEq : R2 := fun x y H Q => scal x y = true ∧ Q (.bl (decide (x = y))) H
def rNe : R2 := fun x y H Q => scal x y = true ∧ Q (.bl (!decide (x = y))) H

theorem dec_int {i j : Int} : decide (V.int i = V.int j) = (i == j) := by
  rw [Bool.eq_iff_iff]
  simp
theorem dec_bl {i j : Bool} : decide (V.bl i = V.bl j) = (i == j) := by
  rw [Bool.eq_iff_iff]
  simp
theorem dec_str {i j : Str} : decide (V.str i = V.str j) = (i == j) := by
  rw [Bool.eq_iff_iff]
  simp
theorem dec_byt {i j : Array UInt8} : decide (V.byt i = V.byt j) = (i.toList == j.toList) := by
  rw [Bool.eq_iff_iff]
  cases i
  cases j
  simp

section
variable {X : Cx} {a b c : Expr} {ta tb tc : TE} {pos : Pos}
theorem fin_bl {pins : List (Addr × Obj)} {σ : St} {H : Hp} {s : Shared} {Q : VK} {k k' : Bool} (I : Inv X pins σ H s) (q : Q (.bl k) H) (e : k = k') : EP X pins σ Q (.bool k') s := by
  subst e
  exact ⟨.bl k, H, I, rfl, q⟩
theorem op_eq : OpR X (compareOp .Eq) rEq := by
  intro pins s σ H x y v u Q I rx ry h
  obtain ⟨hs, q⟩ := h
  cases x with
  | non =>
    cases rx
    cases y with
    | non => cases ry; exact PySem.EqNone.eq_none_none (fin_bl I q (by simp))
    | bl j => cases ry; exact PySem.EqNone.eq_none_bool (fin_bl I q (by simp))
    | int j => obtain ⟨t', rfl⟩ := ry; exact PySem.EqNone.eq_none_int (fin_bl I q (by simp))
    | str j => obtain ⟨t', rfl⟩ := ry; exact PySem.EqNone.eq_none_str (fin_bl I q (by simp))
    | _ => exact absurd (show false = true from hs) Bool.false_ne_true
  | bl i =>
    cases rx
    cases y with
    | non => cases ry; exact PySem.EqNone.eq_bool_none (fin_bl I q (by simp))
    | bl j => cases ry; exact eq_bool (fin_bl I q dec_bl)
    | str j => obtain ⟨t', rfl⟩ := ry; exact PySem.EqMixed.eq_bool_str (fin_bl I q (by simp))
    | _ => exact absurd (show false = true from hs) Bool.false_ne_true
  | int i =>
    obtain ⟨t, rfl⟩ := rx
    cases y with
    | non => cases ry; exact PySem.EqNone.eq_int_none (fin_bl I q (by simp))
    | int j => obtain ⟨t', rfl⟩ := ry; exact eq_int (fin_bl I q dec_int)
    | str j => obtain ⟨t', rfl⟩ := ry; exact PySem.EqMixed.eq_int_str (fin_bl I q (by simp))
    | _ => exact absurd (show false = true from hs) Bool.false_ne_true
  | str i =>
    obtain ⟨t, rfl⟩ := rx
    cases y with
    | non => cases ry; exact PySem.EqNone.eq_str_none (fin_bl I q (by simp))
    | bl j => cases ry; exact PySem.EqMixed.eq_str_bool (fin_bl I q (by simp))
    | int j => obtain ⟨t', rfl⟩ := ry; exact PySem.EqMixed.eq_str_int (fin_bl I q (by simp))
    | str j => obtain ⟨t', rfl⟩ := ry; exact eq_str (fin_bl I q dec_str)
    | _ => exact absurd (show false = true from hs) Bool.false_ne_true
  | byt i =>
    obtain ⟨t, rfl⟩ := rx
    cases y with
    | byt j => obtain ⟨t', rfl⟩ := ry; exact PySem.W.eq_bytes (fin_bl I q dec_byt)
    | _ => exact absurd (show false = true from hs) Bool.false_ne_true
  | _ => cases y <;> exact absurd (show false = true from hs) Bool.false_ne_true
theorem op_ne : OpR X (compareOp .NotEq) rNe := by
  intro pins s σ H x y v u Q I rx ry h
  obtain ⟨hs, q⟩ := h
  cases x with
  | non =>
    cases rx
    cases y with
    | non => cases ry; exact PySem.EqNone.ne_none_none (fin_bl I q (by simp))
    | bl j => cases ry; exact PySem.EqNone.ne_none_bool (fin_bl I q (by simp))
    | int j => obtain ⟨t', rfl⟩ := ry; exact PySem.EqNone.ne_none_int (fin_bl I q (by simp))
    | str j => obtain ⟨t', rfl⟩ := ry; exact PySem.EqNone.ne_none_str (fin_bl I q (by simp))
    | _ => exact absurd (show false = true from hs) Bool.false_ne_true
  | bl i =>
    cases rx
    cases y with
    | non => cases ry; exact PySem.EqNone.ne_bool_none (fin_bl I q (by simp))
    | bl j => cases ry; exact ne_bool (fin_bl I q (congrArg not dec_bl))
    | str j => obtain ⟨t', rfl⟩ := ry; exact PySem.EqMixed.ne_bool_str (fin_bl I q (by simp))
    | _ => exact absurd (show false = true from hs) Bool.false_ne_true
  | int i =>
    obtain ⟨t, rfl⟩ := rx
    cases y with
    | non => cases ry; exact PySem.EqNone.ne_int_none (fin_bl I q (by simp))
    | int j => obtain ⟨t', rfl⟩ := ry; exact ne_int (fin_bl I q (congrArg not dec_int))
    | str j => obtain ⟨t', rfl⟩ := ry; exact PySem.EqMixed.ne_int_str (fin_bl I q (by simp))
    | _ => exact absurd (show false = true from hs) Bool.false_ne_true
  | str i =>
    obtain ⟨t, rfl⟩ := rx
    cases y with
    | non => cases ry; exact PySem.EqNone.ne_str_none (fin_bl I q (by simp))
    | bl j => cases ry; exact PySem.EqMixed.ne_str_bool (fin_bl I q (by simp))
    | int j => obtain ⟨t', rfl⟩ := ry; exact PySem.EqMixed.ne_str_int (fin_bl I q (by simp))
    | str j => obtain ⟨t', rfl⟩ := ry; exact ne_str (fin_bl I q (congrArg not dec_str))
    | _ => exact absurd (show false = true from hs) Bool.false_ne_true
  | byt i =>
    obtain ⟨t, rfl⟩ := rx
    cases y with
    | byt j => obtain ⟨t', rfl⟩ := ry; exact PySem.W.ne_bytes (fin_bl I q (congrArg not dec_byt))
    | _ => exact absurd (show false = true from hs) Bool.false_ne_true
  | _ => cases y <;> exact absurd (show false = true from hs) Bool.false_ne_true

theorem op_lt : OpR X (compareOp .Lt) (rI0 fun i j => .bl (decide (i < j))) := opB0 fun _ _ _ _ _ _ _ q => lt_int q
theorem op_le : OpR X (compareOp .LtE) (rI0 fun i j => .bl (decide (i ≤ j))) := opB0 fun _ _ _ _ _ _ _ q => le_int q
theorem op_gt : OpR X (compareOp .Gt) (rI0 fun i j => .bl (decide (j < i))) := opB0 fun _ _ _ _ _ _ _ q => gt_int q
theorem op_ge : OpR X (compareOp .GtE) (rI0 fun i j => .bl (decide (j ≤ i))) := opB0 fun _ _ _ _ _ _ _ q => ge_int q
/-- is None, is not None: the right side a value none -/
theorem op_isN : OpR X (compareOp .Is) (fun x y H Q => y = .non ∧ Q (.bl (decide (x = .non))) H) := by
  intro pins s σ H x y v u Q I rx ry h
  obtain ⟨rfl, q⟩ := h
  cases ry
  refine is_none_gen (fin_bl I q ?_)
  cases x <;> first
    | (cases rx; rfl)
    | (obtain ⟨t, rfl⟩ := rx; rfl)
theorem op_notN : OpR X (compareOp .IsNot) (fun x y H Q => y = .non ∧ Q (.bl (!decide (x = .non))) H) := by
  intro pins s σ H x y v u Q I rx ry h
  obtain ⟨rfl, q⟩ := h
  cases ry
  refine isnot_none_gen (fin_bl I q ?_)
  cases x <;> first
    | (cases rx; rfl)
    | (obtain ⟨t, rfl⟩ := rx; rfl)

theorem nomark (b : Expr) {op : CmpOp} (h : op ≠ .In := by decide) (h2 : op ≠ .NotIn := by decide) : behindInMarks op b = false := by
  have e1 : (op == CmpOp.In) = false := by cases op <;> first | rfl | exact absurd rfl h
  have e2 : (op == CmpOp.NotIn) = false := by cases op <;> first | rfl | exact absurd rfl h2
  cases b <;> simp [behindInMarks, e1, e2]
/-- a comparison as a value; hm: nomark b, or (for in, not in) by with_unfolding_all rfl -/
theorem pe_cmpR {op : CmpOp} {r : R2} (ho : OpR X (compareOp op) r) (ha : PE X a ta) (hb : PE X b tb) (hm : behindInMarks op b = false) : PE X (.Compare a [op] [b] pos) (tOp r ta tb) := by
  intro pins s σ H Q I h
  exact wpAny_Compare1 (binT ha hb I h fun v u s2 x y H2 I2 rx ry q => ho pins s2 σ H2 x y v u Q I2 rx ry q) hm
/-- a reading of a value as a test -/
def tTest (t : TE) : TT := fun σ H Q => t σ H fun x H' => ∃ k, x = .bl k ∧ Q k H'
theorem pt_cmpR {op : CmpOp} {r : R2} (ho : OpR X (compareOp op) r) (ha : PE X a ta) (hb : PE X b tb) (hm : behindInMarks op b = false) : PT X (.Compare a [op] [b] pos) (tTest (tOp r ta tb)) := by
  intro pins s σ H Q I h
  refine wpAny_isTrue_Compare1 (thn (ha pins s σ H _ I h) fun v s1 ⟨x, H1, I1, r1, q1⟩ => thn (hb pins s1 σ H1 _ I1 q1) fun u s2 ⟨y, H2, I2, r2, q2⟩ =>
    thn (ho pins s2 σ H2 x y v u _ I2 r1 r2 q2) fun c s3 ⟨z, H3, I3, r3, k, e, q3⟩ => ?_) hm
  subst e
  cases r3
  exact wpAny_truthy_bool ⟨H3, I3, q3⟩
/-! ### truth -/
theorem line63 : (sizeLine : Nat) < 2 ^ 63 := by rw [sizeLine_eq]; decide
/-! ### strs and bytes -/
/-! ### scalar builtins, by CallR -/
theorem vals1 {x : V} {us : List Value} (r : Vals [x] us) : ∃ u, us = [u] ∧ RelV x u := by
  cases r with
  | cons r1 r2 => cases r2; exact ⟨_, rfl, r1⟩
end
end L2

namespace L2
open PySem PySem.Spec PyProof.Rows

/-! ### an instance, its attributes a map -/
structure ObjM (h : Heap) (x dx C : Addr) (mA : Str → Option Value) : Prop where
  obj : h.get? x = some (PySem.W.instObj C dx)
  ns : h.Ns1 dx mA
  ne : dx ≠ x

theorem lookIn_ns {h : Heap} {dx : Addr} {mA : Str → Option Value} (n : h.Ns1 dx mA) : ∃ od, h.get? dx = some od ∧ ∀ name, PySem.W.lookIn name od = some (mA name) := by
  obtain ⟨o, es, ep, ho, hd, hk, _, hm⟩ := n
  refine ⟨o, ho, fun name => ?_⟩
  have e := hm name
  unfold nsFind findBy at e
  rw [← Array.find?_toList] at e
  unfold PySem.W.lookIn
  rw [hd]
  dsimp only
  split
  · rename_i y q
    rw [q] at e
    exact congrArg some e
  · rename_i q
    rw [q] at e
    have a : es.toList.any (·.refKey) = false := by
      rw [List.any_eq_false]
      intro y hy
      obtain ⟨z, t, hkey⟩ := hk y (Array.mem_toList_iff.mp hy)
      simp [DictEntry.refKey, hkey]
    have a' : ¬ es.toList.any (·.refKey) = true := by rw [a]; exact Bool.false_ne_true
    rw [if_neg a']
    exact congrArg some e

theorem ObjM.look {h : Heap} {x dx C : Addr} {mA : Str → Option Value} (I : ObjM h x dx C mA) : ∃ od, PySem.W.InstAt h x (PySem.W.instObj C dx) C (some od) ∧ ∀ name, PySem.W.lookIn name od = some (mA name) :=
  let ⟨od, ho, hl⟩ := lookIn_ns I.ns
  ⟨od, ⟨I.obj, rfl, rfl, ho⟩, hl⟩

section
variable {prog : Program} {w : World} {A : Around} {E : Value → Shared → Prop} {s : Shared} {K : PySem.W.Frag} {x dx C f : Addr} {mA : Str → Option Value} {name : Str} {v : Value}

theorem get_map {expr : Bool} {Q : Value → Shared → Prop} (X : K.In s.heap) (I : ObjM s.heap x dx C mA) (hg : PySem.W.plainGet K C name = true) (hh : PySem.W.hasDictIn K C = true)
    (ha : PySem.W.findIn K (.ref C) name = some none) (hv : mA name = some v) (hv' : PySem.W.handedIn v = true) (h : Q v { s with toks := s.toks + 1 }) :
    wpAny (model prog w) A (getAttr (.ref x) name expr) Q E s := by
  obtain ⟨od, J, hl⟩ := I.look
  exact PySem.W.get_value X J (PySem.W.plainGet_of hg).1 (PySem.W.findObj_own hh ha rfl (by rw [hl, hv])) hv' h

theorem get_meth {pl : Sem Bool} {Q : Value × List Value → Shared → Prop} (X : K.In s.heap) (I : ObjM s.heap x dx C mA) (hg : PySem.W.plainGet K C name = true)
    (hf : PySem.W.findIn K (.ref C) name = some (some (.ref f))) (ht : PySem.W.isFn K (.ref f) = true) (hv : mA name = none) (h : Q (.ref f, [.ref x]) s) :
    wpAny (model prog w) A (getMethod (.ref x) name pl) Q E s := by
  obtain ⟨od, J, hl⟩ := I.look
  exact PySem.W.method_fn X J (PySem.W.plainGet_of hg).1 (PySem.W.plainGet_of hg).2 hf (beq_iff_eq.mp ht) (by show (PySem.W.lookIn name od).map (·.isSome) = some false; rw [hl, hv]; rfl) h

theorem set_map {ns : List Str} {Q : Unit → Shared → Prop} (X : K.In s.heap) (I : ObjM s.heap x dx C mA)
    (hs : PySem.W.findIn K (.ref C) "__setattr__" = some (some (.builtin "object.__setattr__"))) (hp : PySem.W.plainOver K C = true) (ht : PySem.W.takerIn K C name = some none) (hh : PySem.W.hasDictIn K C = true)
    (hw : PySem.Within mA ns) (hsz : ns.length ≤ sizeLine)
    (h : ∀ h', ObjM h' x dx C (fun y => if y = name then some v else mA y) → Heap.SameBut dx s.heap h' → Q () { s with heap := h', toks := s.toks + 2 }) :
    wpAny (model prog w) A (setAttr (.ref x) name v) Q E s := by
  obtain ⟨od, J, hl⟩ := I.look
  refine PySem.W.set_plain X J hs (PySem.W.osa_open (s := { s with toks := s.toks + 1 }) (r := none) X J hp ht fun b => ?_)
  obtain ⟨cd, hc, hd'⟩ := PySem.W.any_some hh
  have hx : s.heap.get? x = some ⟨.ref C, some dx, .plain, #[]⟩ := I.obj
  refine wpAny_bind (wpAny_pure (wpAny_bind (wpAny_bind (wpAny_loadPart hx (wpAny_bind (PySem.W.Looks.here (s := { s with toks := s.toks + 1 }) (PySem.W.looks_clsIn X hc) ?_))))))
  rw [hd']
  refine wpAny_pure (a := some dx) (wpAny_bind (wpAny_pure (wpAny_bind ?_)))
  refine wpAny_nsSet1 (s := { s with toks := s.toks + 1 }) I.ns fun h' hn2 hs2 => ?_
  obtain ⟨oD, esD, epD, hoD, hdD, hcD⟩ := hn2.count (PySem.Within.cons name v hw)
  refine wpAny_bind (wpAny_lookBehind hoD (by rw [hdD]; exact pastItsLine_dict (Nat.le_trans hcD (by rw [List.length_cons]; omega))) ?_)
  exact wpAny_pure (h _ ⟨(hs2.2 _ (Ne.symm I.ne)).trans I.obj, hn2, I.ne⟩ hs2)

/-- C(..): the dict at the heap's end, the instance behind it; then its __init__ -/
theorem make_map {R : Result → Shared → Prop} {vs : List Value} {kw : List (Str × Value)} (X : K.In s.heap) (hm : PySem.W.makesIn K C = true)
    (hi : PySem.W.findIn K (.ref C) "__init__" = some (some (.ref f))) (hf : PySem.W.typeIn K (.ref f) = some (.type "function"))
    (h : codeAny (model prog w) (A.under (.builtin "type.__call__" ⟨.ref C :: vs, kw⟩)) (.call (.ref f) ⟨.ref (s.heap.objs.size + 1) :: vs, kw⟩) (PySem.W.InitBack (s.heap.objs.size + 1) R)
      { s with heap := (s.heap.push PySem.W.emptyDict).push (PySem.W.instObj C s.heap.objs.size) }) :
    codeAny (model prog w) A (.call (.ref C) ⟨vs, kw⟩) R s := by
  obtain ⟨hh, g, d, t, os⟩ := s
  exact PySem.W.make_core (PySem.W.makes_of X hm) (PySem.W.looks_findIn X hi) (fun self => PySem.W.bind_fn X self hf) (.inl rfl) h
end

/-! ### the attributes as a list of pairs -/
def putF (f : Str) (v : V) : List (Str × V) → List (Str × V)
  | [] => [(f, v)]
  | (g, x) :: r => if g = f then (g, v) :: r else (g, x) :: putF f v r
theorem lookup_putF (f g : Str) (v : V) : ∀ fs : List (Str × V), (putF f v fs).lookup g = if g = f then some v else fs.lookup g
  | [] => by
    show List.lookup g [(f, v)] = _
    by_cases h : g = f
    · have hb : (g == f) = true := beq_iff_eq.mpr h
      simp only [List.lookup, hb, if_pos h]
    · have hb : (g == f) = false := beq_eq_false_iff_ne.mpr h
      simp only [List.lookup, hb, if_neg h]
  | (k, x) :: r => by
    have ih := lookup_putF f g v r
    rw [show putF f v ((k, x) :: r) = (if k = f then (k, v) :: r else (k, x) :: putF f v r) from rfl]
    by_cases hk : k = f
    · rw [if_pos hk]
      by_cases h : g = k
      · have hb : (g == k) = true := beq_iff_eq.mpr h
        simp only [List.lookup, hb, if_pos (h.trans hk)]
      · have hb : (g == k) = false := beq_eq_false_iff_ne.mpr h
        simp only [List.lookup, hb, if_neg (fun e : g = f => h (e.trans hk.symm))]
    · rw [if_neg hk]
      by_cases h : g = k
      · have hb : (g == k) = true := beq_iff_eq.mpr h
        simp only [List.lookup, hb, if_neg (fun e : g = f => hk (h.symm.trans e))]
      · have hb : (g == k) = false := beq_eq_false_iff_ne.mpr h
        simp only [List.lookup, hb]
        exact ih
theorem keys_putF (f : Str) (v : V) : ∀ fs : List (Str × V), f ∈ (putF f v fs).map (·.1) ∧ ∀ g, g ∈ fs.map (·.1) → g ∈ (putF f v fs).map (·.1)
  | [] => ⟨by simp [putF], fun g h => by simp at h⟩
  | (k, x) :: r => by
    obtain ⟨i1, i2⟩ := keys_putF f v r
    rw [show putF f v ((k, x) :: r) = (if k = f then (k, v) :: r else (k, x) :: putF f v r) from rfl]
    by_cases hk : k = f
    · rw [if_pos hk]
      subst hk
      exact ⟨by simp, fun g h => by simpa using h⟩
    · rw [if_neg hk]
      refine ⟨?_, fun g h => ?_⟩
      · rw [List.map_cons]
        exact List.mem_cons_of_mem _ i1
      · rw [List.map_cons] at h ⊢
        rcases List.mem_cons.mp h with e | e
        · exact List.mem_cons.mpr (.inl e)
        · exact List.mem_cons_of_mem _ (i2 g e)
theorem length_putF (f : Str) (v : V) : ∀ fs : List (Str × V), (putF f v fs).length ≤ fs.length + 1
  | [] => by simp [putF]
  | (k, x) :: r => by
    have ih := length_putF f v r
    rw [show putF f v ((k, x) :: r) = (if k = f then (k, v) :: r else (k, x) :: putF f v r) from rfl]
    by_cases hk : k = f
    · rw [if_pos hk, List.length_cons, List.length_cons]; omega
    · rw [if_neg hk, List.length_cons, List.length_cons]; omega

theorem RelO.some_of {v : V} {o : Option Value} (r : RelO (some v) o) : ∃ u, o = some u ∧ RelV v u := by
  cases o with
  | none => exact (show False from r).elim
  | some u => exact ⟨u, rfl, r⟩
theorem RelO.none_of {o : Option Value} (r : RelO none o) : o = none := by
  cases o with
  | none => rfl
  | some u => exact (show False from r).elim
theorem handed_of {v : V} {u : Value} (r : RelV v u) : PySem.W.handedIn u = true := by
  cases v with
  | non => cases (show u = Value.none from r); rfl
  | bl b => cases (show u = Value.bool b from r); rfl
  | int i => obtain ⟨t, e⟩ := (show ∃ t, u = Value.int i t from r); cases e; rfl
  | str x => obtain ⟨t, e⟩ := (show ∃ t, u = Value.str x t from r); cases e; rfl
  | byt b => obtain ⟨t, e⟩ := (show ∃ t, u = Value.bytes b t from r); cases e; rfl
  | flt b => obtain ⟨t, e⟩ := (show ∃ t, u = Value.float b t from r); cases e; rfl
  | ref a => cases (show u = Value.ref a from r); rfl
  | ty n => cases (show u = Value.type n from r); rfl

section
variable {P : Program} {w : World} {H H' : Hp} {h h' : Heap} {a C dx : Addr} {fs fs' : List (Str × V)}
theorem ins_get (hok : HOk P w H h) (e : H a = some (.ins C dx fs)) : ∃ mA, ObjM h a dx C mA ∧ (∀ f, RelO (fs.lookup f) (mA f)) ∧ PySem.Within mA (fs.map (·.1)) ∧ fs.length ≤ 1000 ∧ H dx = some (.own a) := by
  obtain ⟨d, z, ne, ob, mA, n, r, q⟩ := (show ObjOk P w H h a (.ins C dx fs) from hok a _ e)
  exact ⟨mA, ⟨ob, n, ne⟩, r, q, z, d⟩
end

/-! ### what of the text a class must have -/
structure Cls (K : PySem.W.Frag) (C : Addr) : Prop where
  pg : PySem.W.plainGet K C Str.empty = true
  hd : PySem.W.hasDictIn K C = true
  po : PySem.W.plainOver K C = true
  sa : PySem.W.findIn K (.ref C) "__setattr__" = some (some (.builtin "object.__setattr__"))
theorem Cls.get {K : PySem.W.Frag} {C : Addr} (c : Cls K C) (f : Str) : PySem.W.plainGet K C f = true := c.pg
/-- no class of it has the name -/
def NoAttr (K : PySem.W.Frag) (C : Addr) (f : Str) : Prop := PySem.W.findIn K (.ref C) f = some none
theorem NoAttr.taker {K : PySem.W.Frag} {C : Addr} {f : Str} (n : NoAttr K C f) : PySem.W.takerIn K C f = some none := by
  unfold PySem.W.takerIn
  rw [show PySem.W.findIn K (.ref C) f = some none from n]
  rfl
/-- a method: a plain def of the class or of one above it -/
structure Meth (K : PySem.W.Frag) (C : Addr) (m : Str) (f : Addr) : Prop where
  at_ : PySem.W.findIn K (.ref C) m = some (some (.ref f))
  fn : PySem.W.isFn K (.ref f) = true
  kp : PySem.W.keepIn K (.ref f) = true

section
variable {X : Cx} {pins : List (Addr × Obj)} {σ : St} {H : Hp} {s : Shared} {a C dx : Addr} {fs : List (Str × V)} {f : Str} {v : V} {A : Around} {E : Value → Shared → Prop}

theorem getattr_ok {b : Bool} {Q : Value → Shared → Prop} (I : Inv X pins σ H s) (e : H a = some (.ins C dx fs)) (c : Cls X.K C) (n : NoAttr X.K C f) (l : fs.lookup f = some v)
    (h : ∀ u s', Inv X pins σ H s' → RelV v u → Q u s') : wpAny (model X.prog X.w) A (getAttr (.ref a) f b) Q E s := by
  obtain ⟨mA, O, r, _, _, _⟩ := ins_get I.hok e
  obtain ⟨u, hu, ru⟩ := RelO.some_of (v := v) (o := mA f) (by rw [← l]; exact r f)
  exact get_map I.kIn O (c.get f) c.hd n hu (handed_of ru) (h u _ (I.tok _) ru)

theorem getmeth_ok {m : Str} {g : Addr} {pl : Sem Bool} {Q : Value × List Value → Shared → Prop} (I : Inv X pins σ H s) (e : H a = some (.ins C dx fs)) (c : Cls X.K C) (k : Meth X.K C m g) (l : fs.lookup m = none)
    (h : Q (.ref g, [.ref a]) s) : wpAny (model X.prog X.w) A (getMethod (.ref a) m pl) Q E s := by
  obtain ⟨mA, O, r, _, _, _⟩ := ins_get I.hok e
  have hn : mA m = none := RelO.none_of (by rw [← l]; exact r m)
  exact get_meth I.kIn O (c.get m) k.at_ k.fn hn h

theorem setattr_ok {y : V} {u : Value} {Q : Unit → Shared → Prop} (I : Inv X pins σ H s) (e : H a = some (.ins C dx fs)) (c : Cls X.K C) (n : NoAttr X.K C f) (hl : fs.length < 1000) (ry : RelV y u)
    (h : ∀ s', Inv X pins σ (upd H a (.ins C dx (putF f y fs))) s' → Q () s') : wpAny (model X.prog X.w) A (setAttr (.ref a) f u) Q E s := by
  obtain ⟨mA, O, r, wi, _, ho⟩ := ins_get I.hok e
  have hz : (fs.map (·.1)).length ≤ sizeLine := by rw [List.length_map, sizeLine_eq]; omega
  refine set_map I.kIn O c.sa c.po n.taker c.hd wi hz fun h' O' sb => h _ ?_
  have hd : ∃ o, h'.get? dx = some o := let ⟨o, _, _, e', _⟩ := O'.ns; ⟨o, e'⟩
  refine I.write (x := a) (e := dx) (by rw [e]; exact True.intro) (.inr ho) (fun b q hb z => (sb.2 b hb).trans z) hd ?_
  refine ⟨by rw [upd_ne O.ne]; exact ho, ?_, O.ne, O'.obj, _, O'.ns, fun g => ?_, fun g hg => ?_⟩
  · have := length_putF f y fs; omega
  · show RelO ((putF f y fs).lookup g) (if g = f then some u else mA g)
    rw [lookup_putF]
    by_cases q : g = f
    · rw [if_pos q, if_pos q]; exact ry
    · rw [if_neg q, if_neg q]; exact r g
  · by_cases q : g = f
    · rw [q]; exact (keys_putF f y fs).1
    · refine (keys_putF f y fs).2 g (wi g fun z => hg ?_)
      show (if g = f then some u else mA g) = none
      rw [if_neg q]; exact z

/-- a new instance, tracked, without attributes -/
theorem Inv.made (I : Inv X pins σ H s) : Inv X pins σ (upd (upd H s.heap.objs.size (.own (s.heap.objs.size + 1))) (s.heap.objs.size + 1) (.ins C s.heap.objs.size []))
    { s with heap := (s.heap.push PySem.W.emptyDict).push (PySem.W.instObj C s.heap.objs.size) } := by
  have e1 : (s.heap.push PySem.W.emptyDict).get? s.heap.objs.size = some PySem.W.emptyDict := Heap.get?_push_size s.heap rfl
  have e2 : ((s.heap.push PySem.W.emptyDict).push (PySem.W.instObj C s.heap.objs.size)).get? (s.heap.objs.size + 1) = some (PySem.W.instObj C s.heap.objs.size) := by
    have := Heap.get?_push_size (s.heap.push PySem.W.emptyDict) (o := PySem.W.instObj C s.heap.objs.size) rfl
    rwa [Heap.size_push] at this
  have e3 : (s.heap.push PySem.W.emptyDict).Ns s.heap.objs.size (fun _ => none) := ⟨PySem.W.emptyDict, #[], _, e1, rfl, (fun e he => absurd he (by simp)), fun _ => rfl⟩
  have I1 := I.laid (a := s.heap.objs.size) (o := .own (s.heap.objs.size + 1)) (h' := s.heap.push PySem.W.emptyDict) (t' := s.toks) (fun b u q => Heap.get?_push_of_some _ q) (Nat.le_refl _) ⟨_, e1⟩
  refine I1.laid (a := s.heap.objs.size + 1) (o := .ins C s.heap.objs.size []) (t' := s.toks) (fun b u q => Heap.get?_push_of_some _ q) (Nat.le_of_eq (Heap.size_push _ _)) ?_
  have ne : s.heap.objs.size ≠ s.heap.objs.size + 1 := Nat.ne_of_lt (Nat.lt_succ_self _)
  refine ⟨by rw [upd_ne ne, upd_same], Nat.zero_le _, ne, e2, fun _ => none, (Heap.Ns1.of_empty e3).at fun o q => Heap.get?_push_of_some _ q, fun _ => True.intro, fun y hy => absurd rfl hy⟩

/-- e.f where nothing but the object is asked: through attributeBase (super) and the last hold -/
theorem attr_of {prog : Program} {w : World} {env : Env} {e : Expr} {f : Str} {pos : Pos} {s : Shared} {Q : Value → Shared → Prop} (hb : attributeBase e f env (eval e env) = eval e env)
    (h : wpAny (model prog w) A (eval e env) (fun o s₁ => wpAny (model prog w) A (getAttr o f true) Q E s₁) E s) : wpAny (model prog w) A (eval (.Attribute e f pos) env) Q E s :=
  Attribute_any_ h (by rw [arm_eval_Attribute, hb])
end

/-! ### readings and rules -/
/-- e.f, an attribute of the instance -/
def tFld (K : PySem.W.Frag) (ta : TE) (f : Str) : TE := fun σ H Q => ta σ H fun x H1 => ∃ a C dx fs v, x = .ref a ∧ H1 a = some (.ins C dx fs) ∧ Cls K C ∧ NoAttr K C f ∧ fs.lookup f = some v ∧ Q v H1
/-- e.f = value -/
def sFld (K : PySem.W.Frag) (ta tv : TE) (f : Str) : TS := fun D σ H => tv σ H fun y H1 => ta σ H1 fun x H2 => ∃ a C dx fs, x = .ref a ∧ H2 a = some (.ins C dx fs) ∧ Cls K C ∧ NoAttr K C f ∧ fs.length < 1000 ∧
  D.nx σ (upd H2 a (.ins C dx (putF f y fs)))
section
variable {X : Cx} {o e value : Expr} {f : Str} {pos pos' tpos : Pos} {ta tv : TE}
theorem pe_fld (he : PE X e ta) (hb : attributeBase e f X.env (eval e X.env) = eval e X.env) : PE X (.Attribute e f pos) (tFld X.K ta f) := by
  intro pins s σ H Q I h
  refine attr_of hb (thn (he pins s σ H _ I h) fun u s1 ⟨x, H1, I1, rx, a, C, dx, fs, v, ex, ea, c, n, l, q⟩ => ?_)
  subst ex
  obtain rfl : u = Value.ref a := rx
  exact getattr_ok I1 ea c n l fun u' s2 I2 ru => ⟨v, H1, I2, ru, q⟩
theorem ps_fld (ha : PE X o ta) (hv : PE X value tv) (hs : swapsWith value (some (.Attribute o f pos')) pos.line X.env = pure false) : PS X (.Assign [.Attribute o f pos'] value pos) (sFld X.K ta tv f) := by
  intro pins s σ H D I h
  refine plainObj_wpAny_Assign_Attribute (thn (hv pins s σ H _ I h) fun u s1 ⟨y, H1, I1, ry, q⟩ => thn (ha pins s1 σ H1 _ I1 q) fun ov s2 ⟨x, H2, I2, rx, a, C, dx, fs, ex, ea, c, n, l, q2⟩ => ?_) hs
  subst ex
  obtain rfl : ov = Value.ref a := rx
  exact setattr_ok I2 ea c n l ry fun s3 I3 => ⟨σ, _, I3, q2⟩
/-- what is between an instance and its method: the tree of a method call -/
theorem methcall_of {pl : Sem Bool} {m : Str} {apos : Pos} {args : List Expr} {pins : List (Addr × Obj)} {s : Shared} {σ : St} {H : Hp} {Q : Value → Shared → Prop} {te : TE} (he : PE X e te) (I : Inv X pins σ H s)
    (h : te σ H fun x H1 => ∃ a C dx fs g, x = .ref a ∧ H1 a = some (.ins C dx fs) ∧ Cls X.K C ∧ Meth X.K C m g ∧ fs.lookup m = none ∧
      ∀ s1, Inv X pins σ H1 s1 → wpAny (model X.prog X.w) X.A (callWith pos (.ref g) [.ref a] (backTo pos (starEach args X.env)) (backToKw pos (keywordEach [] X.env))) Q X.xe s1)
    (ht : eval (.Call (.Attribute e m apos) args [] pos) X.env = (do
      let ov ← eval e X.env
      standAt apos.atName
      let (f, first) ← holding [ov] (getMethod ov m pl)
      callWith pos f first (backTo pos (starEach args X.env)) (backToKw pos (keywordEach [] X.env)))) :
    wpAny (model X.prog X.w) X.A (eval (.Call (.Attribute e m apos) args [] pos) X.env) Q X.xe s := by
  refine PySem.W.methodCall_KW (pl := pl) (thn (he pins s σ H _ I h) fun u s1 ⟨x, H1, I1, rx, a, C, dx, fs, g, ex, ea, c, k, l, q⟩ => ?_) ht
  subst ex
  obtain rfl : u = Value.ref a := rx
  exact getmeth_ok I1 ea c k l (q s1 I1)
end

/-! ### isinstance -/
section
variable {X : Cx} {pins : List (Addr × Obj)} {σ : St} {H : Hp} {s : Shared} {A : Around} {E : Value → Shared → Prop} {Q : Value → Shared → Prop} {c : Value} {b : Bool}
end
end L2

namespace L2
open PySem PySem.Spec PyProof.Rows

/-! ### room -/
structure Room (k : Nat) (A : Around) : Prop where
  hd : A.handled = none
  dp : A.depth + 3 * k + 5 < recursionLimit
  un : A.units + 16 * k + 200 < cLine
theorem Room.mono {j k : Nat} {A : Around} (r : Room k A) (h : j ≤ k) : Room j A := ⟨r.hd, by have := r.dp; omega, by have := r.un; omega⟩
theorem Room.deeper {k : Nat} {A : Around} (r : Room (k + 1) A) (env : Env) : Room k (A.deeper env) :=
  ⟨r.hd, by have := r.dp; show A.depth + 1 + 3 * k + 5 < _; omega, by have := r.un; show A.units + 3 + 16 * k + 200 < _; omega⟩
theorem make_depth {A : Around} {C : Addr} {us : List Value} {kw : List (Str × Value)} : (A.under (.builtin "type.__call__" ⟨.ref C :: us, kw⟩)).depth = A.depth + 1 := by
  first | rfl | simp [Around.under, Code.weight, Code.isCreation, Code.isGuard, Code.isCaller, Code.frames, Code.isFrame, guardIds]
theorem make_units {A : Around} {C : Addr} {us : List Value} {kw : List (Str × Value)} : (A.under (.builtin "type.__call__" ⟨.ref C :: us, kw⟩)).units = A.units + 1 := by
  first | rfl | simp [Around.under, Code.cUnits, Code.frames, Code.isFrame]
theorem Room.make {k : Nat} {A : Around} (r : Room (k + 1) A) (C : Addr) (us : List Value) (kw : List (Str × Value)) : Room k (A.under (.builtin "type.__call__" ⟨.ref C :: us, kw⟩)) :=
  ⟨r.hd, by have := r.dp; rw [make_depth]; omega, by have := r.un; rw [make_units]; omega⟩
theorem Room.depth {k : Nat} {A : Around} (r : Room k A) : A.depth < recursionLimit := by have := r.dp; omega
theorem Room.units {k : Nat} {A : Around} (r : Room k A) : A.units + 64 < cLine := by have := r.un; omega
/-! ### argument lists and displays -/
def tNil : TA := fun _ H Q => Q [] H
def tCons (ta : TE) (tr : TA) : TA := fun σ H Q => ta σ H fun x H1 => tr σ H1 fun xs H2 => Q (x :: xs) H2
section
variable {X : Cx} {e : Expr} {es : List Expr} {te : TE} {t : TA} {pos : Pos}
theorem pa_nil : PA X [] tNil := fun _ _ _ _ H Q I h => Calls.spliced_nil ⟨[], H, I, .nil, h⟩
theorem pa_cons (ha : PE X e te) (hr : PA X es t) (hs : starEach (e :: es) X.env = (false, eval e X.env) :: starEach es X.env := by rfl) : PA X (e :: es) (tCons te t) := by
  intro pos pins s σ H Q I h
  rw [hs]
  show wpAny _ _ (spliced ((false, eval e X.env) :: backTo pos (starEach es X.env))) _ _ s
  refine Calls.spliced_cons (thn (ha pins s σ H _ I h) fun u s1 ⟨x, H1, I1, r1, q1⟩ => ?_)
  exact thn (hr pos pins s1 σ H1 _ I1 q1) fun us s2 ⟨xs, H2, I2, r2, q2⟩ => ⟨x :: xs, H2, I2, .cons r1 r2, q2⟩

def tLst (t : TA) : TE := fun σ H Q => t σ H fun xs H1 => xs.length ≤ sizeLine ∧ ∀ p, H1 p = none → Q (.ref p) (upd H1 p (.lst xs))
theorem pe_lst (h : PA X es t) : PE X (.List es pos) (tLst t) := by
  intro pins s σ H Q I hq
  refine wpAny_List_spliced (thn (h pos pins s σ H _ I hq) fun us s1 ⟨xs, H1, I1, r, z, q⟩ => ⟨by rw [← r.length]; exact z, ?_⟩)
  have hf : H1 s1.heap.objs.size = none := I1.hok.fresh (Nat.le_refl _)
  refine ⟨.ref s1.heap.objs.size, upd H1 s1.heap.objs.size (.lst xs), I1.laid (t' := s1.toks) (fun b u e => Heap.get?_push_of_some _ e) (Nat.le_refl _) ?_, rfl, q _ hf⟩
  exact ⟨z, us, 0, r, Heap.get?_push_size _ rfl⟩
end

/-! ### what a def promises -/
/-- a def's promise: the bound arguments in the parameters' order, the heap, the wanted end, the wanted exception -/
abbrev Sp := List V → Hp → VK → XK → Prop
/-- how an exception lies behind a call (file 08 gives it): the callers' frames, abstract heap and state ahead of the call, the wish, the exception, the state -/
abbrev CXT := List Env → Hp → Shared → XK → Value → Shared → Prop

/-- the state at a call -/
structure Env0 (P : Program) (w : World) (K : PySem.W.Frag) (mg : Str → Option Value) (base : Heap) (A : Around) (outer : List Env) (s : Shared) (H : Hp) : Prop where
  frames : A.frames = some outer
  mod : Mod K mg base
  bs : ∀ b o, base.get? b = some o → s.heap.get? b = some o ∧ H b = none
  bsz : base.objs.size ≤ s.heap.objs.size
  funs : s.heap.FunFrames base outer
  frf : ∀ b ∈ frs outer, H b = none
  hok : HOk P w H s.heap
  bare : AllBare s.gens
/-- a call's end -/
def CE (outer : List Env) (P : Program) (w : World) (H : Hp) (s : Shared) (Q : VK) (u : Value) (s' : Shared) : Prop :=
  ∃ v H', s'.os = s.os ∧ AllBare s'.gens ∧ Un (frs outer) [] H H' s.heap s'.heap ∧ HOk P w H' s'.heap ∧ RelV v u ∧ Q v H'
def CR (CX : CXT) (outer : List Env) (P : Program) (w : World) (H : Hp) (s : Shared) (Q : VK) (E : XK) (r : Result) (s' : Shared) : Prop :=
  match r with
  | .ok (.ret u) => CE outer P w H s Q u s'
  | .ok _ => False
  | .error e => CX outer H s E e s'
structure FnOk (P : Program) (w : World) (K : PySem.W.Frag) (mg : Str → Option Value) (base : Heap) (CX : CXT) (k : Nat) (f : Addr) (fd : FuncData) (ps : List Str) (sp : Sp) : Prop where
  len : ∀ vs H Q E, sp vs H Q E → vs.length = ps.length
  run : ∀ (A : Around) (outer : List Env) (s : Shared) (H : Hp) (args : Args) (us : List Value) (vs : List V) (Q : VK) (E : XK), Room k A → Env0 P w K mg base A outer s H → BindsTo s fd args (ps.zip us) → Vals vs us → sp vs H Q E →
    codeAny (model P w) A (.call (.ref f) args) (CR CX outer P w H s Q E) s
theorem Env0.make {P : Program} {w : World} {K : PySem.W.Frag} {mg : Str → Option Value} {base : Heap} {A : Around} {outer : List Env} {s : Shared} {H : Hp} (e : Env0 P w K mg base A outer s H) (C : Addr) (us : List Value) (kw : List (Str × Value)) :
    Env0 P w K mg base (A.under (.builtin "type.__call__" ⟨.ref C :: us, kw⟩)) outer s H := ⟨by first | exact e.frames | (simpa [Around.under, Code.envs, Code.isFrame, pushEnvs] using e.frames), e.mod, e.bs, e.bsz, e.funs, e.frf, e.hok, e.bare⟩
section
variable {X : Cx} {pins : List (Addr × Obj)} {σ : St} {H : Hp} {s s' : Shared}
/-- from a body: what a callee wants -/
theorem Inv.env0 (I : Inv X pins σ H s) : Env0 X.prog X.w X.K X.mg X.base X.A X.stack s H :=
  ⟨I.ok.frames, I.ok.mod, I.bs, Nat.le_trans I.ok.bsz I.sz, I.stack, I.stkFree, I.hok, I.bare⟩
/-- behind a call -/
theorem Inv.after {Q : VK} {u : Value} (I : Inv X pins σ H s) (h : CE X.stack X.prog X.w H s Q u s') : EP X pins σ Q u s' := by
  obtain ⟨v, H', os, bare, un, hok, r, q⟩ := h
  obtain ⟨hh, g, d, t, os'⟩ := s'
  obtain rfl : os' = s.os := os
  exact ⟨v, H', I.call (h' := hh) (g' := g) (d' := d) (t' := t) (ch := []) un hok bare (fun b z => absurd z (by simp)), r, q⟩
end

/-! ### calls -/
/-- f(..): the written arguments, then the defaults dvs; E: what is wanted of an exception -/
def tCall (sp : Sp) (dvs : List V) (E : XK) (t : TA) : TE := fun σ H Q => t σ H fun vs H1 => sp (vs ++ dvs) H1 Q E
/-- o.m(..) of an instance of the class at C -/
def tMeth (C : Addr) (m : Str) (sp : Sp) (dvs : List V) (E : XK) (ta : TE) (t : TA) : TE := fun σ H Q => ta σ H fun x H1 => ∃ a dx fs, x = .ref a ∧ H1 a = some (.ins C dx fs) ∧ fs.lookup m = none ∧
  t σ H1 fun vs H2 => sp (x :: (vs ++ dvs)) H2 Q E
/-- C(..): a new instance and its dict, then __init__ -/
def tMake (C : Addr) (sp : Sp) (dvs : List V) (E : XK) (t : TA) : TE := fun σ H Q => t σ H fun vs H1 => ∀ x dx, H1 x = none → H1 dx = none → dx ≠ x →
  sp (.ref x :: (vs ++ dvs)) (upd (upd H1 dx (.own x)) x (.ins C dx [])) (fun v H2 => v = .non ∧ Q (.ref x) H2) E

/-- how the parameters are bound: us the positional arguments, kw the keywords' values by name, ds the defaults that fill up -/
def Binds (K : PySem.W.Frag) (fd : FuncData) (ps : List Str) (ds : List Value) : Prop :=
  ∀ (s : Shared) (us : List Value), K.In s.heap → (us ++ ds).length = ps.length → BindsTo s fd ⟨us, []⟩ (ps.zip (us ++ ds))
/-- every parameter is given -/
theorem Binds.all {K : PySem.W.Frag} {fd : FuncData} {ps : List Str} (h : ∀ us : List Value, us.length = ps.length → bindArgs fd ⟨us, []⟩ = pure (ps.zip us)) : Binds K fd ps [] := fun s us _ hl => by
  rw [List.append_nil] at hl ⊢
  exact .of_eq (h us hl)

/-- an exception of a callee reaches what this body wants of exceptions -/
def Passes (CX : CXT) (X : Cx) (E : XK) : Prop := ∀ (pins : List (Addr × Obj)) (σ : St) (H : Hp) (s : Shared) (e : Value) (s' : Shared), Inv X pins σ H s → CX X.stack H s E e s' → X.xe e s'

section
variable {X : Cx} {CX : CXT} {k : Nat} {f C : Addr} {fd : FuncData} {ps : List Str} {sp : Sp} {dvs : List V} {ds : List Value} {E : XK} {x m : Str} {p pos apos : Pos} {e o : Expr} {es : List Expr} {ta : TE} {t : TA}

/-- the callee runs -/
theorem run_fn {pins : List (Addr × Obj)} {σ : St} {H : Hp} {s : Shared} {Q : VK} {us : List Value} {vs : List V} (F : FnOk X.prog X.w X.K X.mg X.base CX k f fd ps sp) (hr : Room k X.A) (hb : Binds X.K fd ps ds) (hd : Vals dvs ds) (hx : Passes CX X E)
    (I : Inv X pins σ H s) (r : Vals vs us) (h : sp (vs ++ dvs) H Q E) : wpAny (model X.prog X.w) X.A (call (.ref f) us) (EP X pins σ Q) X.xe s := by
  have r2 : Vals (vs ++ dvs) (us ++ ds) := r.append hd
  have hl : (us ++ ds).length = ps.length := by rw [← r2.length]; exact F.len _ _ _ _ h
  refine wpAny_call (codeAny_mono (F.run X.A X.stack s H ⟨us, []⟩ (us ++ ds) (vs ++ dvs) Q E hr I.env0 (hb s us I.kIn hl) r2 h) fun r s' hq => ?_)
  cases r with
  | error e => exact hx pins σ H s e s' I hq
  | ok fl =>
    cases fl with
    | ret u => exact I.after hq
    | next => exact False.elim hq
    | brk => exact False.elim hq
    | cont => exact False.elim hq

theorem pe_call (F : FnOk X.prog X.w X.K X.mg X.base CX k f fd ps sp) (hr : Room k X.A) (hg : Gl X x) (hm : X.mg x = some (.ref f)) (hk : PySem.W.keepIn X.K (.ref f) = true) (hb : Binds X.K fd ps ds) (hd : Vals dvs ds) (hx : Passes CX X E)
    (ha : PA X (e :: es) t) (hdb : (x == ("__debug__" : Str)) = false := by decide) (he : starEach (e :: es) X.env = (false, eval e X.env) :: starEach es X.env := by rfl) (hpl : (backTo pos (starEach es X.env)).any (·.1) = false := by rfl) :
    PE X (.Call (.Name x p) (e :: es) [] pos) (tCall sp dvs E t) := by
  intro pins s σ H Q I h
  refine wpAny_Call_Name_kw (ld_glob I hg hm ?_ hdb)
  refine PySem.W.callWith_K (h₀ := X.base) I.ok.mod.kin hk (thn (ha pos pins s σ H _ I h) fun us s1 ⟨vs, H1, I1, r, q⟩ => ⟨I1.kIn, ?_⟩) he hpl
  exact run_fn F hr hb hd hx I1 r q
theorem pe_call0 (F : FnOk X.prog X.w X.K X.mg X.base CX k f fd ps sp) (hr : Room k X.A) (hg : Gl X x) (hm : X.mg x = some (.ref f)) (hk : PySem.W.keepIn X.K (.ref f) = true) (hb : Binds X.K fd ps ds) (hd : Vals dvs ds) (hx : Passes CX X E)
    (hdb : (x == ("__debug__" : Str)) = false := by decide) : PE X (.Call (.Name x p) [] [] pos) (tCall sp dvs E tNil) := by
  intro pins s σ H Q I h
  refine wpAny_Call_Name_kw (ld_glob I hg hm ?_ hdb)
  exact PySem.W.callWith_K0 I.kIn hk (run_fn (us := []) F hr hb hd hx I .nil h)

/-- o.m() -/
theorem pe_meth0 {pl : Sem Bool} (he : PE X o ta) (c : Cls X.K C) (hm : Meth X.K C m f) (F : FnOk X.prog X.w X.K X.mg X.base CX k f fd ps sp) (hr : Room k X.A) (hb : Binds X.K fd ps ds) (hd : Vals dvs ds) (hx : Passes CX X E)
    (ht : eval (.Call (.Attribute o m apos) [] [] pos) X.env = (do
      let ov ← eval o X.env
      standAt apos.atName
      let (f, first) ← holding [ov] (getMethod ov m pl)
      callWith pos f first (backTo pos (starEach [] X.env)) (backToKw pos (keywordEach [] X.env))) := by rfl) :
    PE X (.Call (.Attribute o m apos) [] [] pos) (tMeth C m sp dvs E ta tNil) := by
  intro pins s σ H Q I h
  refine PySem.W.methodCall_KW (pl := pl) (thn (he pins s σ H _ I h) fun u s1 ⟨x, H1, I1, rx, a, dx, fs, ex, ea, l, q⟩ => ?_) ht
  subst ex
  obtain rfl : u = Value.ref a := rx
  refine getmeth_ok I1 ea c hm l ?_
  exact PySem.W.callWith_K0 (first := [.ref a]) I1.kIn hm.kp (run_fn (us := [.ref a]) (vs := [.ref a]) F hr hb hd hx I1 (.cons rfl .nil) q)

/-- what a class must have to be made -/
structure Mk (K : PySem.W.Frag) (C f : Addr) : Prop where
  makes : PySem.W.makesIn K C = true
  init : PySem.W.findIn K (.ref C) "__init__" = some (some (.ref f))
  fn : PySem.W.isFn K (.ref f) = true
  kp : PySem.W.keepIn K (.ref C) = true

theorem run_make {pins : List (Addr × Obj)} {σ : St} {H : Hp} {s : Shared} {Q : VK} {us : List Value} {vs : List V} (M : Mk X.K C f) (F : FnOk X.prog X.w X.K X.mg X.base CX k f fd ps sp) (hr : Room (k + 1) X.A) (hb : Binds X.K fd ps ds) (hd : Vals dvs ds)
    (hx : Passes CX X E) (I : Inv X pins σ H s) (r : Vals vs us)
    (h : ∀ x dx, H x = none → H dx = none → dx ≠ x → sp (.ref x :: (vs ++ dvs)) (upd (upd H dx (.own x)) x (.ins C dx [])) (fun v H2 => v = .non ∧ Q (.ref x) H2) E) :
    wpAny (model X.prog X.w) X.A (call (.ref C) us) (EP X pins σ Q) X.xe s := by
  have hq := h (s.heap.objs.size + 1) s.heap.objs.size (I.hok.fresh (Nat.le_succ _)) (I.hok.fresh (Nat.le_refl _)) (Nat.ne_of_lt (Nat.lt_succ_self _))
  have I2 := Inv.made (C := C) I
  have r2 : Vals (V.ref (s.heap.objs.size + 1) :: (vs ++ dvs)) (Value.ref (s.heap.objs.size + 1) :: (us ++ ds)) := .cons rfl (r.append hd)
  have hl : (Value.ref (s.heap.objs.size + 1) :: us ++ ds).length = ps.length := by
    have e := r2.length
    rw [F.len _ _ _ _ hq] at e
    exact e.symm
  refine wpAny_call (make_map (f := f) I.kIn M.makes M.init (beq_iff_eq.mp M.fn) (codeAny_mono (F.run _ X.stack _ _ ⟨Value.ref (s.heap.objs.size + 1) :: us, []⟩ (Value.ref (s.heap.objs.size + 1) :: (us ++ ds)) _ _ E (hr.make C us [])
    (I2.env0.make C us []) (hb _ (Value.ref (s.heap.objs.size + 1) :: us) I2.kIn hl) r2 hq) fun r s' hq' => ?_))
  cases r with
  | error e => exact hx pins σ _ _ e s' I2 hq'
  | ok fl =>
    cases fl with
    | ret u =>
      obtain ⟨v, H', I3, rv, ev, q3⟩ := I2.after hq'
      subst ev
      exact ⟨rv, ⟨V.ref (s.heap.objs.size + 1), H', I3, rfl, q3⟩⟩
    | next => exact False.elim hq'
    | brk => exact False.elim hq'
    | cont => exact False.elim hq'
theorem pe_make (M : Mk X.K C f) (F : FnOk X.prog X.w X.K X.mg X.base CX k f fd ps sp) (hr : Room (k + 1) X.A) (hg : Gl X x) (hm : X.mg x = some (.ref C)) (hb : Binds X.K fd ps ds) (hd : Vals dvs ds) (hx : Passes CX X E)
    (ha : PA X (e :: es) t) (hdb : (x == ("__debug__" : Str)) = false := by decide) (he : starEach (e :: es) X.env = (false, eval e X.env) :: starEach es X.env := by rfl) (hpl : (backTo pos (starEach es X.env)).any (·.1) = false := by rfl) :
    PE X (.Call (.Name x p) (e :: es) [] pos) (tMake C sp dvs E t) := by
  intro pins s σ H Q I h
  refine wpAny_Call_Name_kw (ld_glob I hg hm ?_ hdb)
  refine PySem.W.callWith_K (h₀ := X.base) I.ok.mod.kin M.kp (thn (ha pos pins s σ H _ I h) fun us s1 ⟨vs, H1, I1, r, q⟩ => ⟨I1.kIn, ?_⟩) he hpl
  exact run_make M F hr hb hd hx I1 r q
end

/-! ### keywords -/
section
variable {X : Cx} {CX : CXT} {k : Nat} {f C : Addr} {fd : FuncData} {ps ks : List Str} {sp : Sp} {E : XK} {x m : Str} {p pos apos kpos : Pos} {e o : Expr} {es : List Expr} {kws : List Keyword} {te ta : TE} {t tk : TA} {nm : Option Str}
variable {g : List Value → List Value → List Value} {gV : List V → List V → List V}
end

/-! ### a def's body keeps its promise -/
/-- names: the parameters first -/
structure FnScope (N P : List Str) (sc : Scope) : Prop where
  kind : sc.kind = .function
  co : sc.isCoroutine = false
  gen : sc.isGenerator = false
  nd : N.Nodup
  pre : N.take P.length = P
  par : ∀ x ∈ P, sc.names.lookup x = some .local ∨ sc.names.lookup x = some .cell
  nofree : ∀ y ∈ sc.names, y.2 ≠ .free

theorem bindL_out {kindOf : Str → Option NameKind} {x : Str} : ∀ {binds : List (Str × Value)} {m : Str → Option Value}, (∀ v, (x, v) ∉ binds) → bindL kindOf binds m x = m x
  | [], _, _ => rfl
  | (n, v) :: r, m, h => by
    unfold bindL
    rw [bindL_out fun w hw => h w (List.mem_cons_of_mem _ hw)]
    split
    · have : x ≠ n := by rintro rfl; exact h v List.mem_cons_self
      simp [this]
    · rfl
theorem bindC_out {kindOf : Str → Option NameKind} {x : Str} : ∀ {binds : List (Str × Value)} {m : Str → Option Value}, (∀ v, (x, v) ∉ binds) → bindC kindOf binds m x = m x
  | [], _, _ => rfl
  | (n, v) :: r, m, h => by
    unfold bindC
    rw [bindC_out fun w hw => h w (List.mem_cons_of_mem _ hw)]
    split
    · rfl
    · have : x ≠ n := by rintro rfl; exact h v List.mem_cons_self
      simp [this]
theorem bindL_get {kindOf : Str → Option NameKind} {x : Str} {v : Value} : ∀ {P : List Str} {vs : List Value} {i : Nat} {m : Str → Option Value}, P.Nodup → P[i]? = some x → vs[i]? = some v → kindOf x = some .local →
    bindL kindOf (P.zip vs) m x = some v
  | [], _, _, _, _, h, _, _ => by simp at h
  | _ :: _, [], _, _, _, _, h, _ => by simp at h
  | p :: P, w :: vs, 0, m, nd, h1, h2, hk => by
    simp at h1 h2; subst h1; subst h2
    show bindL kindOf ((p, w) :: P.zip vs) m p = _
    unfold bindL
    rw [bindL_out fun v hv => (List.nodup_cons.mp nd).1 (List.of_mem_zip hv).1, if_pos hk]
    simp
  | p :: P, w :: vs, i + 1, m, nd, h1, h2, hk => by
    show bindL kindOf ((p, w) :: P.zip vs) m x = _
    unfold bindL
    exact bindL_get (i := i) (List.nodup_cons.mp nd).2 (by simpa using h1) (by simpa using h2) hk
theorem bindC_get {kindOf : Str → Option NameKind} {x : Str} {v : Value} : ∀ {P : List Str} {vs : List Value} {i : Nat} {m : Str → Option Value}, P.Nodup → P[i]? = some x → vs[i]? = some v → kindOf x ≠ some .local →
    bindC kindOf (P.zip vs) m x = some v
  | [], _, _, _, _, h, _, _ => by simp at h
  | _ :: _, [], _, _, _, _, h, _ => by simp at h
  | p :: P, w :: vs, 0, m, nd, h1, h2, hk => by
    simp at h1 h2; subst h1; subst h2
    show bindC kindOf ((p, w) :: P.zip vs) m p = _
    unfold bindC
    rw [bindC_out fun v hv => (List.nodup_cons.mp nd).1 (List.of_mem_zip hv).1, if_neg hk]
    simp
  | p :: P, w :: vs, i + 1, m, nd, h1, h2, hk => by
    show bindC kindOf ((p, w) :: P.zip vs) m x = _
    unfold bindC
    exact bindC_get (i := i) (List.nodup_cons.mp nd).2 (by simpa using h1) (by simpa using h2) hk

/-- the names' values at the entry -/
def start (N : List Str) (vs : List V) : St := vs.map some ++ List.replicate (N.length - vs.length) none

/-- the context of a def's body, at its entry; an exception leaves the frame, then lies as CX says -/
def cxOf (CX : CXT) (P : Program) (w : World) (K : PySem.W.Frag) (mg : Str → Option Value) (base : Heap) (N : List Str) (qual : Str) (scope : Scope) (f : Addr) (cd : Value) (A : Around) (outer : List Env) (s : Shared) (H : Hp) (E : XK) : Cx where
  prog := P
  w := w
  K := K
  mg := mg
  base := base
  A := A.deeper (envOfC qual scope s.heap.objs.size f cd)
  N := N
  s_0 := s
  H_0 := H
  env := envOfC qual scope s.heap.objs.size f cd
  outer := outer
  stack := envOfC qual scope s.heap.objs.size f cd :: outer
  ex := []
  calm := true
  fn := fun _ => true
  pn := []
  xe := fun e s' => wpAny (model P w) (A.deeper (envOfC qual scope s.heap.objs.size f cd)) (leaving (envOfC qual scope s.heap.objs.size f cd) e) (fun _ s'' => CX outer H s E e s'') (fun e' s'' => CX outer H s E e' s'') s'

theorem cell_has {sc : Scope} {n : Nat} {x : Str} (h : sc.names.lookup x = some .cell) : ∃ c, (cellsFrom n sc.names []).lookup x = some c := by
  have q := PySem.W.cellsFrom_some sc.names n [] (.inl h)
  exact Option.isSome_iff_exists.mp q

theorem inv_start {CX : CXT} {P : Program} {w : World} {K : PySem.W.Frag} {mg : Str → Option Value} {base : Heap} {N ps : List Str} {qual : Str} {scope : Scope} {f : Addr} {cd : Value} {A : Around} {outer : List Env} {s s1 : Shared} {H : Hp} {E : XK} {us : List Value} {vs : List V}
    (S : FnScope N ps scope) (hd : A.handled = none) (e0 : Env0 P w K mg base A outer s H) (hl : vs.length = ps.length) (r : Vals vs us)
    (x : InCallC s s.heap.objs.size (bindL (envOfC qual scope s.heap.objs.size f cd).kindOf (ps.zip us) fun _ => none) (cellsFrom (s.heap.objs.size + 1) scope.names []) (bindC (envOfC qual scope s.heap.objs.size f cd).kindOf (ps.zip us) fun _ => none) s1) :
    Inv (cxOf CX P w K mg base N qual scope f cd A outer s H E) [] (start N vs) H s1 := by
  have hpl : ps.length ≤ N.length := by have := congrArg List.length S.pre; rw [List.length_take] at this; omega
  obtain ⟨h1, tk, rfl, hk⟩ := x.done
  have noA : ∀ b : Addr, b ∉ (cxOf CX P w K mg base N qual scope f cd A outer s H E).ex := fun b z => absurd (show b ∈ ([] : List Addr) from z) (by simp)
  refine ⟨⟨e0.mod, S.kind, rfl, rfl, Nat.le_refl _, fun y z c h1 h2 => ?_, fun y hy => ?_, fun y c _ h => ?_, fun _ => hd, Around.frames_deeper e0.frames, .inr ⟨rfl, rfl⟩, fun b z => absurd z (noA b), e0.bs, e0.bsz, fun b _ _ => noA b, fun b z => absurd z (noA b), e0.funs, e0.frf⟩,
    rfl, e0.bare, Un.kept hk, ⟨_, x.toInCall.ns, fun i y v h1 h2 h3 => ?_⟩, fun y c h => ⟨_, x.cell y c h⟩, e0.hok.fresh (Nat.le_refl _), fun y c h => ?_, fun p hp => absurd (show p ∈ ([] : List (Addr × Obj)) from hp) (by simp), e0.hok.kept hk, ?_⟩
  · exact name_of_addr x.apart (PySem.mem_of_lookup h1) (PySem.mem_of_lookup h2)
  · have hy : scope.names.lookup y = some .cell ∨ scope.names.lookup y = some .free := hy
    rcases hy with hy | hy
    · exact cell_has hy
    · exact absurd rfl (S.nofree _ (PySem.mem_of_lookup hy))
  · exact Nat.le_of_lt (x.above y c (PySem.mem_of_lookup h))
  · have hi : i < vs.length := by
      unfold start at h2
      by_cases hi : i < vs.length
      · exact hi
      · rw [List.getElem?_append_right (by simpa using hi)] at h2
        rw [List.getElem?_replicate] at h2
        split at h2 <;> cases h2
    have ha : vs[i]? = some v := by
      unfold start at h2
      rw [List.getElem?_append_left (by simpa using hi), List.getElem?_map] at h2
      cases e : vs[i]? with
      | none => rw [e] at h2; cases h2
      | some a => rw [e] at h2; cases h2; rfl
    obtain ⟨u, hu, rv⟩ := r.get ha
    have hp : ps[i]? = some y := by
      rw [← S.pre, List.getElem?_take_of_lt (by omega)]; exact h1
    have ndP : ps.Nodup := by rw [← S.pre]; exact S.nd.sublist (List.take_sublist _ _)
    refine ⟨u, rv, ?_⟩
    rcases S.par y (List.mem_of_getElem? hp) with k | k
    · exact .inl ⟨k, bindL_get ndP hp hu k⟩
    · obtain ⟨c, e⟩ := cell_has (n := s.heap.objs.size + 1) k
      refine .inr ⟨.inl k, c, e, ?_⟩
      have q := x.cell y c e
      rw [bindC_get ndP hp hu (by show scope.names.lookup y ≠ _; rw [k]; decide)] at q
      exact q
  · exact e0.hok.fresh (Nat.le_of_lt (x.above y c (PySem.mem_of_lookup h)))
  · unfold start
    show _ = N.length
    rw [List.length_append, List.length_map, List.length_replicate]
    omega

/-- THE RULE: a def (or a method) of the text, by its body. The body's reading t is chosen for each entry; it is run at the parameters' values -/
theorem fn_of {CX : CXT} {P : Program} {w : World} {K : PySem.W.Frag} {mg : Str → Option Value} {base : Heap} {k : Nat} {f : Addr} {name qual : Str} {params : Arguments} {body : List Stmt} {scope : Scope} {dV kV doc pm cdv ct oc : Value} {an od : Option Addr}
    {osl : Array (Option Value)} {N ps : List Str} {sp : Sp} (lk : K.lookup f = some ⟨oc, od, .func (PySem.W.fnOf name qual params body scope dV kV doc pm an cdv ct), osl⟩) (hcd : PySem.W.codeIn K cdv qual = true) (S : FnScope N ps scope)
    (len : ∀ vs H Q E, sp vs H Q E → vs.length = ps.length)
    (hbody : ∀ (A : Around) (outer : List Env) (s : Shared) (H : Hp) (vs : List V) (Q : VK) (E : XK), Room k (A.deeper (envOfC qual scope s.heap.objs.size f cdv)) → sp vs H Q E →
      ∃ t, PSs (cxOf CX P w K mg base N qual scope f cdv A outer s H E) body t ∧ t { nx := fun _ H' => Q .non H', rt := Q } (start N vs) H) :
    FnOk P w K mg base CX (k + 1) f (PySem.W.fnOf name qual params body scope dV kV doc pm an cdv ct) ps sp := by
  refine ⟨len, fun A outer s H args us vs Q E hr e0 hb r hsp => ?_⟩
  have hl := len _ _ _ _ hsp
  have KX : K.In s.heap := e0.mod.kin.keeps fun b o e => (e0.bs b o e).1
  have lim : s.heap.NoLimit := e0.mod.nolimit.keeps fun b o e => (e0.bs b o e).1
  have hkind : ∀ y ∈ ps.zip us, scope.names.lookup y.1 = some .local ∨ (scope.names.lookup y.1 = some .cell ∧ ((cellsFrom (s.heap.objs.size + 1) scope.names []).lookup y.1).isSome = true) := fun ⟨n, v⟩ hy => by
    rcases S.par n (List.of_mem_zip hy).1 with q | q
    · exact .inl q
    · exact .inr ⟨q, PySem.W.cellsFrom_some _ _ _ (.inl q)⟩
  refine codeAny_call_function hr.depth (KX _ _ lk) rfl S.co S.gen rfl (PySem.W.codeRec_of KX hcd) (hb _ _ _ _ ?_)
  refine wpAny_newFunctionEnv_cells S.kind hkind fun env he s1 x => ?_
  subst he
  refine ⟨lim.keeps x.toInCall.keep, codeAny_func ?_⟩
  obtain ⟨t, ht, hq⟩ := hbody A outer s H vs Q E (hr.deeper _) hsp
  have I : Inv (cxOf CX P w K mg base N qual scope f cdv A outer s H E) [] (start N vs) H s1 := inv_start S hr.hd e0 hl r x
  refine wpAny_mono (ht [] s1 (start N vs) H _ I hq) (fun fl s' hs => ?_) fun e s' hs => hs
  have fin : ∀ {σ' : St} {H' : Hp} {v : V} {u : Value}, Inv (cxOf CX P w K mg base N qual scope f cdv A outer s H E) [] σ' H' s' → RelV v u → Q v H' → CE outer P w H s Q u s' :=
    fun {σ' H' v u} J rv q => ⟨v, H', J.os, J.bare, J.base, J.hok, rv, q⟩
  cases fl with
  | ret u =>
    obtain ⟨v, σ', H', J, rv, q⟩ := hs
    exact fin J rv q
  | next =>
    obtain ⟨σ', H', J, q⟩ := hs
    exact fin (v := V.non) (u := Value.none) J rfl q
  | brk =>
    obtain ⟨_, _, _, q⟩ := hs
    exact False.elim q
  | cont =>
    obtain ⟨_, _, _, q⟩ := hs
    exact False.elim q
end L2

namespace L2
open PySem PySem.Spec PyProof.Rows
section
variable {X : Cx} {x : Str} {p pos : Pos} {e : Expr} {es : List Expr} {t : TA} {id T : String} {r : List V → Hp → VK → Prop}

def tCB (r : List V → Hp → VK → Prop) (t : TA) : TE := fun σ H Q => t σ H fun vs H1 => r vs H1 Q
/-- f(e, ..), f a built-in function -/
theorem pe_callB (hc : CallR X (.builtin id) r) (hg : Gl X x) (hm : X.mg x = none) (hv : bootBuiltins x = some (.builtin id)) (ha : PA X (e :: es) t) (hn : x ≠ "__name__" := by decide) (hdb : (x == ("__debug__" : Str)) = false := by decide)
    (he : starEach (e :: es) X.env = (false, eval e X.env) :: starEach es X.env := by rfl) (hpl : (backTo pos (starEach es X.env)).any (·.1) = false := by rfl) : PE X (.Call (.Name x p) (e :: es) [] pos) (tCB r t) := by
  intro pins s σ H Q I h
  refine wpAny_Call_Name_kw (ld_blt I hg hm hv ?_ hn hdb)
  exact PyProof.Rows.callWith_builtin1 (thn (ha pos pins s σ H _ I h) fun us s1 ⟨vs, H1, I1, r1, q1⟩ => hc pins s1 σ H1 vs us Q I1 r1 q1) he hpl
end
end L2

namespace HT
open PySem PyProof.Rows

section
open PySem.SeqAt
open PySem.AutoSeq1 (wpAny_loadPart')
open PySem.MeetsSeq PySem.MeetsSeq2 PySem.MeetsSeq3

end

section
variable {prog : Program} {w : World} {A : Around} {E : Value → Shared → Prop} {s : Shared}

/-! ### t[a:b], not the whole -/
/-- a slice's bound as a place among n (d where it is left out) -/
def sIx (n d : Nat) : Option Int → Nat
  | none => d
  | some v => if v < 0 then (v + (n : Int)).toNat else min v.toNat n
theorem sIx_none (n d : Nat) : sIx n d none = d := rfl
theorem sIx_nat (n d k : Nat) : sIx n d (some (k : Int)) = min k n := by
  show (if (k : Int) < 0 then ((k : Int) + (n : Int)).toNat else min (k : Int).toNat n) = min k n
  rw [if_neg (by omega), Int.toNat_natCast]
end
end HT

namespace L2
open PySem PySem.Spec PyProof.Rows

/-! ### the parts of a slice -/
abbrev TO := St → Hp → (Option Int → Hp → Prop) → Prop
/-- a slice's part (left out, or an int) -/
def PO (X : Cx) (e : Option Expr) (t : TO) : Prop :=
  ∀ (pins : List (Addr × Obj)) (s : Shared) (σ : St) (H : Hp) (Q : Option Int → Hp → Prop), Inv X pins σ H s → t σ H Q →
    wpAny (model X.prog X.w) X.A (evalPart e X.env) (fun u s' => ∃ o H', Inv X pins σ H' s' ∧ IsPart u o ∧ Q o H') X.xe s
def tNoPart : TO := fun _ H Q => Q none H
def tPart (t : TE) : TO := fun σ H Q => t σ H fun x H1 => ∃ i, x = .int i ∧ Q (some i) H1

section
variable {X : Cx} {e : Expr} {te : TE} {lo hi : Option Expr} {tl th : TO} {pos p2 : Pos}

theorem po_none : PO X none tNoPart := by
  intro pins s σ H Q I h
  rw [evalPart_none]
  exact wpAny_pure ⟨none, H, I, .none, h⟩
theorem po_some (h : PE X e te) : PO X (some e) (tPart te) := by
  intro pins s σ H Q I hw
  rw [evalPart_some]
  refine thn (h pins s σ H _ I hw) fun u s1 ⟨x, H1, I1, r1, q1⟩ => ?_
  obtain ⟨i, rfl, q⟩ := q1
  obtain ⟨t, rfl⟩ := r1
  exact ⟨some i, H1, I1, .int i t, q⟩

/-- what a slice of a value is, by values: the slice object stands at sl -/
def SlR (X : Cx) (r : V → Option Int → Option Int → Hp → VK → Prop) : Prop :=
  ∀ (pins : List (Addr × Obj)) (s : Shared) (σ : St) (H : Hp) (x : V) (v vl vu : Value) (lo hi : Option Int) (sl : Addr) (Q : VK), Inv X pins σ H s → RelV x v → s.heap.IsSliceOf sl vl vu .none → IsPart vl lo → IsPart vu hi → r x lo hi H Q →
    ∃ T id, typeLookup (.type T) "__getitem__" = pure (some (.builtin id)) ∧ s.TypeIs v T ∧ wpAny (model X.prog X.w) X.A (getItem v (.ref sl)) (EP X pins σ Q) X.xe s
def tSl (r : V → Option Int → Option Int → Hp → VK → Prop) (te : TE) (tl th : TO) : TE := fun σ H Q => te σ H fun x H1 => tl σ H1 fun l H2 => th σ H2 fun u H3 => r x l u H3 Q
/-- a[lo:hi], any a -/
theorem pe_slice {r : V → Option Int → Option Int → Hp → VK → Prop} (hr : SlR X r) (he : PE X e te) (hl : PO X lo tl) (hu : PO X hi th) : PE X (.Subscript e (.Slice lo hi none p2) pos) (tSl r te tl th) := by
  intro pins s σ H Q I h
  refine Subscript_ (thn (he pins s σ H _ I h) fun v s1 ⟨x, H1, I1, r1, q1⟩ => ?_)
  refine wpAny_Slice (thn (hl pins s1 σ H1 _ I1 q1) fun vl s2 ⟨l, H2, I2, pl, q2⟩ => thn (hu pins s2 σ H2 _ I2 q2) fun vu s3 ⟨u, H3, I3, pu, q3⟩ => ?_)
  rw [evalPart_none]
  refine wpAny_pure ?_
  have I4 : Inv X pins σ H3 { s3 with heap := s3.heap.push { cls := .type "slice", data := .fields #[vl, vu, .none] } } := I3.kept (t' := s3.toks) fun b ob q => Heap.get?_push_of_some _ q
  obtain ⟨T, id, hT, ht, hg⟩ := hr pins { s3 with heap := s3.heap.push { cls := .type "slice", data := .fields #[vl, vu, .none] } } σ H3 x v vl vu l u s3.heap.objs.size Q I4 r1 (Heap.IsSliceOf.new ..) pl pu q3
  show wpAny (model X.prog X.w) X.A (subscriptTail e (.Slice lo hi none p2) v (.ref s3.heap.objs.size)) (EP X pins σ Q) X.xe { s3 with heap := s3.heap.push { cls := .type "slice", data := .fields #[vl, vu, .none] } }
  exact tail_any (ops := [.ref s3.heap.objs.size, v]) ht hT hg (by with_unfolding_all rfl)

/-- the items of xs[lo:hi] -/
def cutV (xs : List V) (lo hi : Option Int) : List V := (xs.drop (HT.sIx xs.length 0 lo)).take (HT.sIx xs.length xs.length hi - HT.sIx xs.length 0 lo)
theorem cutV_length (xs : List V) (lo hi : Option Int) : (cutV xs lo hi).length ≤ xs.length := by
  unfold cutV
  rw [List.length_take, List.length_drop]
  omega
/-! ### t < u, t + u -/
end
end L2

namespace L2
open PySem PySem.Spec PyProof.Rows

/-! ### places -/
/-- the place that an index of any sign means -/
def ixN (n : Nat) (i : Int) : Option Nat := if 0 ≤ i then (if i < n then some i.toNat else none) else if -(n : Int) ≤ i then some (i + n).toNat else none
def atI {α : Type} (xs : List α) (i : Int) : Option α := (ixN xs.length i).bind fun j => xs[j]?
theorem ixN_seq {n : Nat} {i : Int} {j : Nat} (h : ixN n i = some j) : seqIndex? i n = some j ∧ j < n ∧ -(n : Int) ≤ i ∧ i < n := by
  unfold ixN at h
  by_cases h0 : 0 ≤ i
  · rw [if_pos h0] at h
    by_cases h1 : i < n
    · rw [if_pos h1] at h
      have e : i.toNat = j := Option.some.inj h
      exact ⟨by rw [seqIndex_of h0 h1, e], by omega, by omega, h1⟩
    · rw [if_neg h1] at h; cases h
  · rw [if_neg h0] at h
    by_cases h1 : -(n : Int) ≤ i
    · rw [if_pos h1] at h
      have e : (i + n).toNat = j := Option.some.inj h
      exact ⟨by rw [seqIndex_neg (by omega) h1, e], by omega, h1, by omega⟩
    · rw [if_neg h1] at h; cases h
theorem atI_get {α : Type} {xs : List α} {i : Int} {v : α} (h : atI xs i = some v) : ∃ j, seqIndex? i xs.length = some j ∧ xs[j]? = some v ∧ j < xs.length ∧ -(xs.length : Int) ≤ i ∧ i < xs.length := by
  unfold atI at h
  cases e : ixN xs.length i with
  | none => rw [e] at h; cases h
  | some j =>
    rw [e] at h
    obtain ⟨h1, h2, h3, h4⟩ := ixN_seq e
    exact ⟨j, h1, h, h2, h3, h4⟩
theorem atI_nat {α : Type} {xs : List α} {j : Nat} {v : α} (h : xs[j]? = some v) : atI xs (j : Int) = some v := by
  have hj : j < xs.length := (List.getElem?_eq_some_iff.mp h).1
  have e : ixN xs.length (j : Int) = some j := by
    unfold ixN
    rw [if_pos (by omega), if_pos (by omega)]; simp
  unfold atI; rw [e]; exact h
/-! ### what may be subscripted -/
/-- what stands as an index of a plain subscript -/
def PlainIx (b : Expr) : Prop := ∀ o i, subscripted b false o i = operate [o, i] (getItem o i)
/-- a subscript by values -/
def IxR (X : Cx) (r : R2) : Prop :=
  ∀ (value slice : Expr) (pins : List (Addr × Obj)) (s : Shared) (σ : St) (H : Hp) (x y : V) (v u : Value) (Q : VK), Inv X pins σ H s → RelV x v → RelV y u → r x y H Q →
    subscripted slice false v u = operate [v, u] (getItem v u) → wpAny (model X.prog X.w) X.A (subscriptTail value slice v u) (EP X pins σ Q) X.xe s
/-- a call of a builtin's method by values: the receiver, the arguments -/
def MtR (X : Cx) (id : String) (r : V → List V → Hp → VK → Prop) : Prop :=
  ∀ (pins : List (Addr × Obj)) (s : Shared) (σ : St) (H : Hp) (x : V) (xs : List V) (v : Value) (us : List Value) (Q : VK), Inv X pins σ H s → RelV x v → Vals xs us → r x xs H Q →
    wpAny (model X.prog X.w) X.A (call (.builtin id) (v :: us)) (EP X pins σ Q) X.xe s
section
variable {X : Cx} {a b : Expr} {ta tb : TE} {pos : Pos}
/-- a[b] -/
theorem pe_ix {r : R2} (hr : IxR X r) (ha : PE X a ta) (hb : PE X b tb) (hs : PlainIx b) : PE X (.Subscript a b pos) (tOp r ta tb) := by
  intro pins s σ H Q I h
  exact Subscript_ (binT ha hb I h fun v u s2 x y H2 I2 rx ry q => hr a b pins s2 σ H2 x y v u Q I2 rx ry q (hs _ _))

def rIxL (K : PySem.W.Frag) : R2 := fun x y H Q => ∃ p xs i v, x = .ref p ∧ y = .int i ∧ SqL K H p xs ∧ atI xs i = some v ∧ Q v H
theorem ix_list : IxR X (rIxL X.K) := by
  intro value slice pins s σ H x y v u Q I rx ry h hs
  obtain ⟨p, xs, i, z, rfl, rfl, hq, he, q⟩ := h
  cases rx
  obtain ⟨t, rfl⟩ := ry
  obtain ⟨its, r, pl, hz⟩ := I.list hq
  obtain ⟨j, h1, h2, h3, h4, h5⟩ := atI_get he
  obtain ⟨w, ew, rw'⟩ := r.get h2
  have hl := r.length
  have hn := line63
  have fin : EP X pins σ Q w s := ⟨z, H, I, rw', q⟩
  by_cases h0 : 0 ≤ i
  · have hj : i.toNat = j := by
      rw [seqIndex_of h0 h5] at h1
      exact Option.some.inj h1
    exact item_listR pl.isList h0 (by omega) (by rw [hj]; simpa using ew) fin hs
  · have hj : (i + (its.toArray.size : Int)).toNat = j := by
      rw [seqIndex_neg (by omega) h4] at h1
      rw [List.size_toArray, ← hl]
      exact Option.some.inj h1
    exact subscriptTail_builtinR (x := w) pl.isList.typeIs slot_list_getitem.lookup
      (wpAny_getItem_list_neg (Q := fun r s' => r = w ∧ EP X pins σ Q r s') pl.isList (by omega) (by rw [List.size_toArray] <;> omega) (by omega) (by rw [hj]; simpa using ew) ⟨rfl, fin⟩) hs
/-! ### xs[i] = v, any sign -/
/-- the list's object behind a store -/
theorem mapSeq_set (its : List Value) (n j : Nat) (u : Value) : Obj.mapSeq (·.setIfInBounds j u) { cls := .type "list", data := .seq its.toArray n } = { cls := .type "list", data := .seq (its.set j u).toArray n } := by
  simp [Obj.mapSeq]
theorem Inv.lst {pins : List (Addr × Obj)} {σ : St} {H : Hp} {s : Shared} {p : Addr} {xs : List V} (I : Inv X pins σ H s) (h : H p = some (.lst xs)) :
    ∃ (its : List Value) (n : Nat), Vals xs its ∧ s.heap.get? p = some { cls := .type "list", data := .seq its.toArray n } ∧ xs.length ≤ sizeLine := by
  obtain ⟨z, its, n, r, e⟩ := I.hok p _ h
  exact ⟨its, n, r, e, z⟩
/-- the list at p is written by an update of its object -/
theorem Inv.lstUpd {pins : List (Addr × Obj)} {σ : St} {H : Hp} {s : Shared} {p : Addr} {xs ys : List V} {its its' : List Value} {n n' : Nat} {f : Obj → Obj} (I : Inv X pins σ H s) (h : H p = some (.lst xs))
    (ho : s.heap.get? p = some { cls := .type "list", data := .seq its.toArray n }) (hf : f { cls := .type "list", data := .seq its.toArray n } = { cls := .type "list", data := .seq its'.toArray n' }) (r : Vals ys its') (hz : ys.length ≤ sizeLine) (t : Nat) :
    Inv X pins σ (upd H p (.lst ys)) { s with heap := s.heap.update p f, toks := t } := by
  have e : (s.heap.update p f).get? p = some { cls := .type "list", data := .seq its'.toArray n' } := by
    rw [Heap.get?_update_self f ho (by rw [hf] <;> rfl), hf]
  refine I.write (x := p) (e := p) (by rw [h]; trivial) (.inl rfl) (fun b u hb q => (Heap.get?_update_other _ _ (Ne.symm hb)).trans q) ⟨_, e⟩ ?_
  exact ⟨hz, its', n', r, e⟩
def rSetL : V → V → V → Hp → (Hp → Prop) → Prop := fun o i v H Q => ∃ p xs k j, o = .ref p ∧ i = .int k ∧ H p = some (.lst xs) ∧ ixN xs.length k = some j ∧ Q (upd H p (.lst (xs.set j v)))
theorem set_list : PSet X rSetL := by
  intro pins s σ H o i v ov iv u Q I ro ri rv h
  obtain ⟨p, xs, k, j, rfl, rfl, hp, hj, q⟩ := h
  cases ro
  obtain ⟨t, rfl⟩ := ri
  obtain ⟨its, n, r, ho, hz⟩ := I.lst hp
  obtain ⟨h1, h2, h3, h4⟩ := ixN_seq hj
  have hl := r.length
  have hn := line63
  have I' : Inv X pins σ (upd H p (.lst (xs.set j v))) { s with heap := s.heap.update p (Obj.mapSeq (·.setIfInBounds j u)) } :=
    I.lstUpd hp ho (mapSeq_set its n j u) (r.set rv j) (by rw [List.length_set]; exact hz) s.toks
  by_cases h0 : 0 ≤ k
  · have hk : k.toNat = j := by
      rw [seqIndex_of h0 h4] at h1
      exact Option.some.inj h1
    exact PySem.W.ki_setAt ho h0 (by omega) (by rw [List.size_toArray, ← hl]; exact h4) (by rw [hk]; exact ⟨_, I', q⟩)
  · have hk : (k + (its.toArray.size : Int)).toNat = j := by
      rw [seqIndex_neg (by omega) h3] at h1
      rw [List.size_toArray, ← hl]
      exact Option.some.inj h1
    exact PySem.W.ki_setBack ho (by omega) (by rw [List.size_toArray, ← hl]; exact h3) (by omega) (by rw [hk]; exact ⟨_, I', q⟩)

/-! ### slices -/
theorem slice_bounds (lo hi : Option Int) (n : Nat) : (sliceBounds lo hi none n).1 = ((HT.sIx n 0 lo : Nat) : Int) ∧ (sliceBounds lo hi none n).2.1 = ((HT.sIx n n hi : Nat) : Int) ∧ (sliceBounds lo hi none n).2.2 = 1 := by
  refine ⟨?_, ?_, rfl⟩
  · cases lo with
    | none => simp [sliceBounds, HT.sIx]
    | some i =>
      simp only [sliceBounds, HT.sIx, Option.getD_none, show (1 : Int) > 0 by decide, if_true]
      by_cases h : i < 0
      · simp only [h, if_true] <;> omega
      · simp only [h, if_false] <;> omega
  · cases hi with
    | none => simp [sliceBounds, HT.sIx]
    | some i =>
      simp only [sliceBounds, HT.sIx, Option.getD_none, show (1 : Int) > 0 by decide, if_true]
      by_cases h : i < 0
      · simp only [h, if_true] <;> omega
      · simp only [h, if_false] <;> omega
theorem slicePick_cut (its : List Value) (lo hi : Option Int) : slicePick its.toArray lo hi none = ((its.drop (HT.sIx its.length 0 lo)).take (HT.sIx its.length its.length hi - HT.sIx its.length 0 lo)).toArray := by
  obtain ⟨h1, h2, h3⟩ := slice_bounds lo hi its.toArray.size
  unfold slicePick
  rw [h1, h2, h3]
  simp only [sliceRange_one, pick_run, List.size_toArray] <;> rfl
/-- xs[lo:hi] of a list: a new list -/
def rSlL (K : PySem.W.Frag) : V → Option Int → Option Int → Hp → VK → Prop := fun x lo hi H Q => ∃ a xs, x = .ref a ∧ SqL K H a xs ∧ ∀ p, H p = none → Q (.ref p) (upd H p (.lst (cutV xs lo hi)))
theorem sl_list : SlR X (rSlL X.K) := by
  intro pins s σ H x v vl vu lo hi sl Q I rx hs pl pu h
  obtain ⟨a, xs, rfl, hx, q⟩ := h
  cases rx
  obtain ⟨its, r, ht, hz⟩ := I.list hx
  have hlen := r.length
  refine ⟨"list", _, slot_list_getitem.lookup, ht.isList.typeIs, ?_⟩
  refine wpAny_getItem_list_slice ht.isList hs pl pu .none (by simp) ?_ (by rw [List.size_toArray] <;> omega)
  rw [slicePick_cut, ← hlen]
  refine ⟨.ref s.heap.objs.size, _, I.laid (t' := s.toks) (o := .lst (cutV xs lo hi)) (fun b ob q => Heap.get?_push_of_some _ q) (Nat.le_refl _) ?_, rfl, q _ (I.hok.fresh (Nat.le_refl _))⟩
  exact ⟨Nat.le_trans (cutV_length xs lo hi) hz, _, 0, (r.drop (HT.sIx xs.length 0 lo)).take (HT.sIx xs.length xs.length hi - HT.sIx xs.length 0 lo), Heap.get?_push_size _ rfl⟩

/-! ### in, not in: flat items -/
/-! ### len, list(x), tuple(x) of any list or tuple that is read -/
theorem call_len_seq : CallR X (.builtin "len") (fun xs H Q => ∃ p ys, xs = [.ref p] ∧ (SqL X.K H p ys ∨ SqT X.K H p ys) ∧ Q (.int ys.length) H) := by
  intro pins s σ H xs us Q I r h
  obtain ⟨p, ys, rfl, hq, q⟩ := h
  obtain ⟨u, rfl, rx⟩ := vals1 r
  cases rx
  have hn := line63
  rcases hq with hq | hq
  · obtain ⟨its, r', pl, hz⟩ := I.list hq
    have hlen := r'.length
    exact Calls.call_len_list pl.isList (by simp only [List.size_toArray] <;> omega) ⟨.int ys.length, H, I.tok _, ⟨s.toks + 1, by rw [List.size_toArray, hlen]⟩, q⟩
  · obtain ⟨its, r', pl, hz⟩ := I.tuple hq
    have hlen := r'.length
    exact len_tuple pl (by simp only [List.size_toArray] <;> omega) ⟨.int ys.length, H, I.tok _, ⟨s.toks + 1, by rw [List.size_toArray, hlen]⟩, q⟩
/-! ### the call of a builtin's method: o.m(..) -/
/-- the value is of that builtin type -/
def tyV (K : PySem.W.Frag) (T : String) (x : V) (H : Hp) : Prop := match x with
  | .str _ => T = "str"
  | .int _ => T = "int"
  | .ref p => (T = "list" ∧ ∃ xs, SqL K H p xs) ∨ (T = "tuple" ∧ ∃ o, K.lookup p = some o ∧ o.cls = .type "tuple" ∧ o.dict = none) ∨
      (T = "dict" ∧ ((∃ kvs, H p = some (.dK kvs)) ∨ ∃ kvs, H p = some (.dT kvs))) ∨ (T = "set" ∧ ∃ S n, H p = some (.set S n))
  | _ => False
theorem tyV_is {pins : List (Addr × Obj)} {σ : St} {H : Hp} {s : Shared} {T : String} {x : V} {v : Value} (I : Inv X pins σ H s) (r : RelV x v) (ty : tyV X.K T x H) :
    s.TypeIs v T ∧ ∀ a, v = .ref a → ∃ ob, s.heap.get? a = some ob ∧ ob.dict = none := by
  cases x with
  | str z =>
    obtain ⟨t, rfl⟩ := r
    cases (show T = "str" from ty)
    exact ⟨typeIs_str s z t, fun _ e => nomatch e⟩
  | int i =>
    obtain ⟨t, rfl⟩ := r
    cases (show T = "int" from ty)
    exact ⟨typeIs_int s i t, fun _ e => nomatch e⟩
  | ref p =>
    cases r
    rcases ty with ⟨rfl, xs, hq⟩ | ⟨rfl, o, hk, hc, hd⟩ | ⟨rfl, hk⟩ | ⟨rfl, S, n, hk⟩
    · obtain ⟨its, _, pl, _⟩ := I.list hq
      refine ⟨pl.isList.typeIs, fun a e => ?_⟩
      cases e
      obtain ⟨o, n, e, c, hd, _⟩ := pl
      exact ⟨o, e, hd⟩
    · refine ⟨⟨o, I.kIn p o hk, hc⟩, fun a e => ?_⟩
      cases e
      exact ⟨o, I.kIn _ o hk, hd⟩
    · have z : ∃ o, s.heap.get? p = some o ∧ o.ExactDict := by
        rcases hk with ⟨kvs, hk⟩ | ⟨kvs, hk⟩
        · obtain ⟨_, _, _, _, o, _, _, e, ex, _⟩ := I.hok p _ hk
          exact ⟨o, e, ex⟩
        · obtain ⟨_, _, _, _, o, _, _, e, ex, _⟩ := I.hok p _ hk
          exact ⟨o, e, ex⟩
      obtain ⟨o, e, ex⟩ := z
      refine ⟨⟨o, e, ex.1⟩, fun a e2 => ?_⟩
      cases e2
      exact ⟨o, e, ex.2.1⟩
    · obtain ⟨o, _, _, _, e, ex, _⟩ := I.hok p _ hk
      refine ⟨⟨o, e, ex.1⟩, fun a e2 => ?_⟩
      cases e2
      exact ⟨o, e, ex.2.1⟩
  | _ => exact False.elim ty
def tBM (K : PySem.W.Frag) (T : String) (r : V → List V → Hp → VK → Prop) (to : TE) (t : TA) : TE := fun σ H Q => to σ H fun x H1 => tyV K T x H1 ∧ t σ H1 fun xs H2 => r x xs H2 Q
variable {o e : Expr} {es : List Expr} {to : TE} {t : TA} {name : Str} {apos cpos : Pos} {T id : String} {r : V → List V → Hp → VK → Prop}
theorem pe_bm (pa : PlainAttrs T) (slot : Slot T name id) (hty : typeOf (.builtin id) = pure (.type "method_descriptor")) (hm : MtR X id r) (ho : PE X o to) (ha : PA X (e :: es) t)
    (hbase : attributeBase o name X.env (eval o X.env) = eval o X.env := by rfl)
    (hfew : ((backTo cpos (starEach (e :: es) X.env)).all (fun x => !x.1) && (backToKw cpos (keywordEach [] X.env)).all (fun x => x.1.isSome)
      && decide ((e :: es).length + ([] : List Keyword).length + (if ([] : List Keyword).isEmpty then 0 else 1) < 30)) = true := by rfl)
    (hline : (apos.endLine == cpos.line) = true := by rfl) (hs : starEach (e :: es) X.env = (false, eval e X.env) :: starEach es X.env := by rfl) (hplain : (backTo cpos (starEach es X.env)).any (·.1) = false := by rfl) :
    PE X (.Call (.Attribute o name apos) (e :: es) [] cpos) (tBM X.K T r to t) := by
  intro pins s σ H Q I h
  refine wpAny_Call_method_late hbase hfew hline rfl (thn (ho pins s σ H _ I h) fun v s1 ⟨x, H1, I1, r1, ty, q1⟩ => ?_)
  obtain ⟨h1, h2⟩ := tyV_is I1 r1 ty
  refine ⟨T, id, pa, slot, hty, h1, h2, ?_⟩
  have hA := ha cpos pins s1 σ H1 _ I1 q1
  rw [hs] at hA ⊢
  refine Calls.callWith_builtin (by show (false || (backTo cpos (starEach es X.env)).any (·.1)) = false; rw [hplain] <;> rfl) (Calls.evalArgs_plain ?_)
  exact thn hA fun us s2 ⟨vs, H2, I2, r2, q2⟩ => hm pins s2 σ H2 x vs v us Q I2 r1 r2 q2
/- xs.append(e), list.index on a module's tuple .. are MtR facts of 06m -/
end
end L2

namespace L2
open PySem PySem.Spec PyProof.Rows

def MtM (X : Cx) (id : String) (r : V → List V → Hp → VK → Prop) : Prop :=
  ∀ (pins : List (Addr × Obj)) (s : Shared) (σ : St) (H : Hp) (x : V) (xs : List V) (v : Value) (us : List Value) (Q : VK), Inv X pins σ H s → RelV x v → Vals xs us → r x xs H Q →
    wpAny (model X.prog X.w) X.A (call (.builtin id) (v :: us)) (EP X pins σ Q) X.xe s

/-! ### lists of values -/
theorem Vals.one : ∀ {x : V} {us : List Value}, Vals [x] us → ∃ u, us = [u] ∧ RelV x u
  | _, _, .cons r .nil => ⟨_, rfl, r⟩
theorem Vals.rep {xs : List V} {us : List Value} (h : Vals xs us) : ∀ k : Nat, Vals (List.replicate k xs).flatten (List.replicate k us).flatten
  | 0 => .nil
  | k + 1 => by
    rw [List.replicate_succ, List.replicate_succ, List.flatten_cons, List.flatten_cons]
    exact Vals.append h (Vals.rep h k)
theorem foldl_rep (its : List Value) : ∀ (k : Nat) (acc : List Value),
    List.foldl (fun x1 x2 => x1 ++ x2) acc.toArray (List.replicate k its.toArray) = (acc ++ (List.replicate k its).flatten).toArray
  | 0, acc => by simp
  | k + 1, acc => by
    have e : acc.toArray ++ its.toArray = (acc ++ its).toArray := by simp
    have e2 : (acc ++ its) ++ (List.replicate k its).flatten = acc ++ (List.replicate (k + 1) its).flatten := by
      rw [List.replicate_succ, List.flatten_cons, List.append_assoc]
    rw [← e2, ← foldl_rep its k (acc ++ its), ← e, List.replicate_succ, List.foldl_cons]

section
variable {X : Cx} {pins : List (Addr × Obj)} {σ : St} {H : Hp} {s : Shared} {l b : Addr} {xs ys zs : List V}

/-! ### the two steps: a tracked list is rewritten, a new list is laid -/
theorem Inv.lset {its its' : List Value} {n : Nat} {f : Array Value → Array Value} {t' : Nat} (I : Inv X pins σ H s) (hH : H l = some (.lst xs))
    (e : s.heap.get? l = some { cls := .type "list", data := .seq its.toArray n }) (hf : f its.toArray = its'.toArray) (hv : Vals ys its') (hz : ys.length ≤ sizeLine) :
    Inv X pins σ (upd H l (.lst ys)) { s with heap := s.heap.update l (Obj.mapSeq f), toks := t' } := by
  have q := PySem.IsL.update e f
  rw [hf] at q
  refine I.write (x := l) (e := l) (by rw [hH]; exact trivial) (.inl rfl) (fun b' u hb hu => (Heap.get?_update_other s.heap (Obj.mapSeq f) (Ne.symm hb)).trans hu) ⟨_, q⟩ ?_
  exact ⟨hz, its', _, hv, q⟩
theorem Inv.lnew {its : List Value} {t' : Nat} (I : Inv X pins σ H s) (hv : Vals ys its) (hz : ys.length ≤ sizeLine) :
    Inv X pins σ (upd H s.heap.objs.size (.lst ys)) { s with heap := s.heap.push { cls := .type "list", data := .seq its.toArray }, toks := t' } :=
  I.laid (fun _ _ q => Heap.get?_push_of_some _ q) (Nat.le_refl _) ⟨hz, its, 0, hv, Heap.get?_push_size _ rfl⟩
theorem Inv.fresh (I : Inv X pins σ H s) : H s.heap.objs.size = none := I.hok.fresh (Nat.le_refl _)
theorem Inv.lstM (I : Inv X pins σ H s) (hH : H l = some (.lst xs)) : xs.length ≤ sizeLine ∧ ∃ (its : List Value) (n : Nat), Vals xs its ∧ xs.length = its.length ∧ s.heap.get? l = some { cls := .type "list", data := .seq its.toArray n } := by
  obtain ⟨z, its, n, r, e⟩ := I.hok l _ hH
  exact ⟨z, its, n, r, r.length, e⟩

theorem notLongL {n : Nat} (h : n ≤ sizeLine) : Builtin.List.listTooLong n = false := by
  unfold Builtin.List.listTooLong
  exact decide_eq_false (by omega)
end

section
variable {X : Cx}

/-! ### methods -/
def rAppend : V → List V → Hp → VK → Prop := fun x vs H Q => ∃ l xs y, x = .ref l ∧ vs = [y] ∧ H l = some (.lst xs) ∧ xs.length < sizeLine ∧ Q .non (upd H l (.lst (xs ++ [y])))
theorem mt_append : MtM X "list.append" rAppend := by
  intro pins s σ H x vs v us Q I rx rv h
  obtain ⟨l, xs, y, rfl, rfl, hH, hz, q⟩ := h
  cases rx
  obtain ⟨u, rfl, ru⟩ := rv.one
  obtain ⟨z, its, n, r, hl, e⟩ := I.lstM hH
  refine call_meets F.slot_list_append ⟨_, e, rfl⟩ F.entry_list_append (F.args_list_append_2 _ _) (PySem.list_append l its.toArray n u (by rw [List.size_toArray]; omega)) ⟨e, ?_⟩
  refine ⟨.non, _, I.lset (its' := its ++ [u]) hH e (by simp) (r.append (.cons ru .nil)) ?_, rfl, q⟩
  rw [List.length_append, List.length_singleton]
  omega

def rExtend : V → List V → Hp → VK → Prop := fun x vs H Q => ∃ l b xs zs, x = .ref l ∧ vs = [.ref b] ∧ H l = some (.lst xs) ∧ H b = some (.lst zs) ∧ xs.length + zs.length ≤ sizeLine ∧ Q .non (upd H l (.lst (xs ++ zs)))
theorem mt_extend : MtM X "list.extend" rExtend := by
  intro pins s σ H x vs v us Q I rx rv h
  obtain ⟨l, b, xs, zs, rfl, rfl, hH, hB, hz, q⟩ := h
  cases rx
  obtain ⟨u, rfl, ru⟩ := rv.one
  cases ru
  obtain ⟨z, its, n, r, hl, e⟩ := I.lstM hH
  obtain ⟨z2, its2, n2, r2, hl2, e2⟩ := I.lstM hB
  have hsz : its.toArray.size + its2.toArray.size ≤ sizeLine := by rw [List.size_toArray, List.size_toArray]; omega
  have hlong : ¬ (!its.toArray.isEmpty && Builtin.List.listTooLong (its.toArray.size + its2.toArray.size)) = true := by
    rw [notLongL hsz, Bool.and_false]
    exact Bool.false_ne_true
  refine call_meets F.slot_list_extend ⟨_, e, rfl⟩ F.entry_list_extend (F.args_list_extend_2 _ _)
    (AutoSeq1.list_extend_list_list_0 l its.toArray n b its2.toArray n2 hlong (by rw [List.size_toArray]; omega) (by omega)) ⟨e, e2, ?_⟩
  refine ⟨.non, _, I.lset (its' := its ++ its2) hH e (by simp) (r.append r2) ?_, rfl, q⟩
  rw [List.length_append]
  omega

/-! ### list + list, list += list, list * int -/
def rCat : R2 := fun x y H Q => ∃ l b xs zs, x = .ref l ∧ y = .ref b ∧ H l = some (.lst xs) ∧ H b = some (.lst zs) ∧ xs.length + zs.length ≤ sizeLine ∧ ∀ p, H p = none → Q (.ref p) (upd H p (.lst (xs ++ zs)))
theorem op_cat : OpR X (binaryOp .Add) rCat := by
  intro pins s σ H x y v u Q I rx ry h
  obtain ⟨l, b, xs, zs, rfl, rfl, hH, hB, hz, q⟩ := h
  cases rx
  cases ry
  obtain ⟨z, its, n, r, hl, e⟩ := I.lstM hH
  obtain ⟨z2, its2, n2, r2, hl2, e2⟩ := I.lstM hB
  refine PySem.P.add_list e e2 ?_ (by rw [List.size_toArray, List.size_toArray]; omega)
  have ea : its.toArray ++ its2.toArray = (its ++ its2).toArray := by simp
  rw [ea]
  exact ⟨.ref _, _, I.lnew (t' := s.toks) (r.append r2) (by rw [List.length_append]; omega), rfl, q _ I.fresh⟩
/-- a list times an int (a negative one is nothing) -/
def rRep : R2 := fun x y H Q => ∃ l k xs, x = .ref l ∧ y = .int k ∧ H l = some (.lst xs) ∧ -(2 ^ 63) ≤ k ∧ k < 2 ^ 63 ∧ xs.length * k.toNat ≤ sizeLine ∧
  ∀ p, H p = none → Q (.ref p) (upd H p (.lst (List.replicate k.toNat xs).flatten))
theorem len_rep {α : Type} (xs : List α) (k : Nat) : (List.replicate k xs).flatten.length = k * xs.length := by
  induction k with
  | zero => simp
  | succ k ih => rw [List.replicate_succ, List.flatten_cons, List.length_append, ih, Nat.succ_mul, Nat.add_comm]
theorem op_rep : OpR X (binaryOp .Mult) rRep := by
  intro pins s σ H x y v u Q I rx ry h
  obtain ⟨l, k, xs, rfl, rfl, hH, h1, h2, hz, q⟩ := h
  cases rx
  obtain ⟨t, rfl⟩ := ry
  obtain ⟨z, its, n, r, hl, e⟩ := I.lstM hH
  have hlen : its.toArray.size * k.toNat ≤ sizeLine := by rw [List.size_toArray, ← hl]; exact hz
  have hcap : ¬ its.toArray.size * k.toNat > (2 ^ 63 - 1) / 8 := by
    have : (sizeLine : Nat) ≤ (2 ^ 63 - 1) / 8 := by decide
    omega
  have hfit : ¬ (!Builtin.List.listFitsIndex k) = true := by
    rw [fitsIndex_both h1 h2]
    exact Bool.false_ne_true
  have hlong : ¬ Builtin.List.listTooLong (its.toArray.size * k.toNat) = true := by
    rw [notLongL hlen]
    exact Bool.false_ne_true
  have hnew : List.foldl (fun x1 x2 => x1 ++ x2) #[] (List.replicate (if its.toArray.isEmpty = true then 0 else k.toNat) its.toArray) = (List.replicate k.toNat its).flatten.toArray := by
    have f0 : ∀ m : Nat, List.foldl (fun x1 x2 => x1 ++ x2) #[] (List.replicate m its.toArray) = (List.replicate m its).flatten.toArray := fun m => by
      have := foldl_rep its m []
      rw [List.nil_append] at this
      exact this
    rw [f0]
    cases its with
    | nil => simp
    | cons a r' => rw [if_neg (by simp)]
  refine wpAny_binaryOp_repeat_ref (T := "list") (U := "int") (by decide) ⟨_, e, rfl⟩ (fun s' => typeIs_int s' k t) noFill_list_mul F.fills_int_mul F.slot_int_rmul repeat_list F.slot_int_index.lookup
    (call_meets F.slot_int_rmul (typeIs_int s k t) F.entry_int_rmul (F.args_int_rmul_2 _ _) (int___rmul___int_list k t l its.toArray n)
      ⟨e, rfl, ⟨_, e, rfl⟩, call_meets F.slot_list_mul ⟨_, e, rfl⟩ F.entry_list_mul (F.args_list_mul_2 _ _) (AutoListH.list___mul___list_int_3 l its.toArray n k t hfit hcap hlong) ⟨e, ?_⟩⟩)
  rw [hnew]
  exact ⟨.ref _, _, I.lnew (t' := s.toks) (r.rep k.toNat) (by rw [len_rep, Nat.mul_comm]; exact hz), rfl, q _ I.fresh⟩

/-! ### del xs[i] -/
end

/-! ### xs[a:b] = ys -/
section
variable {prog : Program} {w : World} {A : Around} {E : Value → Shared → Prop} {s : Shared}
end

section
variable {X : Cx}
end
end L2

namespace L2
open PySem PySem.Spec PyProof.Rows

/-! ### the library's walks over a list of ints, kept objects alone -/
section
variable {prog : Program} {w : World} {A : Around} {E : Value → Shared → Prop} {s : Shared} {l : Addr} {its : List Value} {ns : List Int} {Q : Value → Shared → Prop}
end

/-! ### the calls, by values (CallR of 03t; MtR of 06l) -/
section
variable {X : Cx}
/-! sorted, sort (fewer than 64 items: the library's own bound) -/
end

/-! ### list.index, flat items -/
section
variable {X : Cx}
end

/-! ### type(x) of an own instance; is, is not of a module's class -/
section
variable {X : Cx}
end

/-! ### any(xs), all(xs) of a list of bools -/
section
variable {X : Cx}
end

/-! ### == and != of data at any depth: none, bools, ints, texts, lists, tuples -/
mutual
inductive Dp (K : PySem.W.Frag) (H : Hp) : V → PyData → Prop
  | non : Dp K H .non .none
  | bl (b : Bool) : Dp K H (.bl b) (.bool b)
  | int (i : Int) : Dp K H (.int i) (.int i)
  | str (x : Str) : Dp K H (.str x) (.str x)
  | lst {a : Addr} {xs : List V} {ds : List PyData} : SqL K H a xs → DpAll K H xs ds → Dp K H (.ref a) (.list ds)
  | tup {a : Addr} {xs : List V} {ds : List PyData} : SqT K H a xs → DpAll K H xs ds → Dp K H (.ref a) (.tuple ds)
inductive DpAll (K : PySem.W.Frag) (H : Hp) : List V → List PyData → Prop
  | nil : DpAll K H [] []
  | cons {v : V} {vs : List V} {d : PyData} {ds : List PyData} : Dp K H v d → DpAll K H vs ds → DpAll K H (v :: vs) (d :: ds)
end
section
variable {X : Cx} {pins : List (Addr × Obj)} {σ : St} {H : Hp} {s : Shared}
mutual
theorem Dp.reads (I : Inv X pins σ H s) : ∀ (d : PyData) (v : V) (u : Value), Dp X.K H v d → RelV v u → ∃ as, Reads s.heap u d as
  | .none, _, _, h, r => by
    cases h
    cases r
    exact ⟨_, Reads.none⟩
  | .bool b, _, _, h, r => by
    cases h
    cases r
    exact ⟨_, Reads.bool b⟩
  | .int i, _, _, h, r => by
    cases h
    obtain ⟨t, rfl⟩ := r
    exact ⟨_, Reads.int i t⟩
  | .str x, _, _, h, r => by
    cases h
    obtain ⟨t, rfl⟩ := r
    exact ⟨_, Reads.str x t⟩
  | .list ds, _, _, h, r => by
    cases h with
    | lst hs ha =>
      cases r
      obtain ⟨its, rv, ⟨o, n, ho, hc, _, hd⟩, _⟩ := I.list hs
      obtain ⟨as, hr⟩ := Dp.readsAll I ds _ its ha rv
      exact ⟨_, Reads.list ho hc hd hr⟩
  | .tuple ds, _, _, h, r => by
    cases h with
    | tup hs ha =>
      cases r
      obtain ⟨its, rv, ⟨o, ho, hc, n, hd⟩, _⟩ := I.tuple hs
      obtain ⟨as, hr⟩ := Dp.readsAll I ds _ its ha rv
      exact ⟨_, Reads.tuple ho hc hd hr⟩
  | .dict _, _, _, h, _ => by cases h
theorem Dp.readsAll (I : Inv X pins σ H s) : ∀ (ds : List PyData) (vs : List V) (us : List Value), DpAll X.K H vs ds → Vals vs us → ∃ as, ReadsAll s.heap us ds as
  | [], _, _, h, r => by
    cases h
    cases r
    exact ⟨_, ReadsAll.nil⟩
  | d :: ds, _, _, h, r => by
    cases h with
    | cons h1 h2 =>
      cases r with
      | cons r1 r2 =>
        obtain ⟨as, q1⟩ := Dp.reads I d _ _ h1 r1
        obtain ⟨bs, q2⟩ := Dp.readsAll I ds _ _ h2 r2
        exact ⟨_, ReadsAll.cons q1 q2⟩
end
end
section
variable {X : Cx}
def rEqD (K : PySem.W.Frag) : R2 := fun x y H Q => ∃ d e, Dp K H x d ∧ Dp K H y e ∧ SeqAt.shaped d = true ∧ SeqAt.shaped e = true ∧ Q (.bl (PyData.eqv d e)) H
theorem op_eqD (hu : X.A.units + 64 < cLine) : OpR X (compareOp .Eq) (rEqD X.K) := by
  intro pins s σ H x y v u Q I rx ry h
  obtain ⟨d, e, hd, he, sd, se, q⟩ := h
  obtain ⟨as, r1⟩ := Dp.reads I d x v hd rx
  obtain ⟨bs, r2⟩ := Dp.reads I e y u he ry
  exact SeqAt.compareEq_shaped r1 r2 sd se hu ⟨.bl _, H, I, rfl, q⟩
end
end L2

namespace L2
open PySem PySem.Spec PyProof.Rows
section
variable {X : Cx} {pins : List (Addr × Obj)} {σ : St} {H : Hp} {s : Shared}
end

section
variable {X : Cx}
end

/-! ### the forms one uses -/
end L2

namespace L2
open PySem PySem.Spec PyProof.Rows

section
variable {prog : Program} {w : World} {A : Around} {R : Result → Shared → Prop} {s : Shared} {elt t0 i0 t1 i1 : Expr} {ifs0 ifs1 : List Expr} {scope : Scope} {pos : Pos} {it acc : Value} {env : Env}
end

section
variable {X : Cx}
end
end L2

namespace L2
open PySem PySem.Spec PyProof.Rows

/-! ### lists of pairs as tables -/
section
variable {κ : Type} [DecidableEq κ]
end


/-! ### a tracked dict, its keys ints and texts or tuples of these -/
section
variable {P : Program} {w : World} {H : Hp} {h : Heap} {a : Addr}
end

section
variable {X : Cx} {pins : List (Addr × Obj)} {σ : St} {H : Hp} {s : Shared} {a : Addr} {y v : V} {u r : Value} {o : Option V} {A : Around} {E : Value → Shared → Prop}

end

section
variable {X : Cx} {pins : List (Addr × Obj)} {σ : St} {H : Hp} {s : Shared} {a : Addr} {kvs : List (Key × V)} {k : Key} {u : Value} {A : Around} {E : Value → Shared → Prop}
end


/-! ### readings and rules -/
section
variable {X : Cx} {o i e value : Expr} {pos pos' tpos : Pos} {td ty tv : TE}
end


/-! ### displays -/
section
variable {X : Cx} {pos : Pos}
end

/-! ### methods -/
section
variable {X : Cx} {pins : List (Addr × Obj)} {σ : St} {H : Hp} {s : Shared} {a : Addr} {y d : V} {u r : Value} {o : Option V} {A : Around} {E : Value → Shared → Prop}
end

section
variable {X : Cx} {o e f : Expr} {apos cpos : Pos} {td ty tx : TE}
end

/-! ### dict(d): a copy -/
section
variable {X : Cx} {pins : List (Addr × Obj)} {σ : St} {H : Hp} {s : Shared} {a : Addr} {kvs : List (Key × V)} {A : Around} {E : Value → Shared → Prop}
end


section
variable {X : Cx} {pins : List (Addr × Obj)} {σ : St} {H : Hp} {s : Shared} {a : Addr} {y : V} {u : Value} {A : Around} {E : Value → Shared → Prop}
end
end L2

namespace L2
open PySem PySem.Spec PyProof.Rows

section
variable {prog : Program} {w : World} {A : Around} {E : Value → Shared → Prop}
end

section
variable {X : Cx}
end
end L2

namespace L2
open PySem PySem.Spec PyProof.Rows

theorem boot_reversed5 : bootBuiltins "reversed" = some (.type "reversed") := by decide +kernel

section
variable {X : Cx} {pins : List (Addr × Obj)} {σ : St} {H : Hp} {s : Shared} {h' : Heap}
/-- .. and one new object is laid -/
theorem Inv.turnedNew {t' : Nat} {ch : List Addr} {T : Addr} {ob : HO} (I : Inv X pins σ H s) (k : ∀ b o, b ∉ ch → s.heap.get? b = some o → h'.get? b = some o) (hf : ∀ b ∈ ch, FpOk X pins H b) (hT : s.heap.objs.size ≤ T)
    (new : ObjOk X.prog X.w (upd H T ob) h' T ob) : Inv X pins σ (upd H T ob) { s with heap := h', toks := t' } := by
  have hn : H T = none := I.hok.fresh hT
  have nit : ∀ b u, H b = some u → b ∉ ch := fun b u e z => by
    have q := (hf b z).1
    rw [q] at e; cases e
  refine I.step (g' := s.gens) (d' := s.drawn) (ch := ch) (fun b hb => ⟨(hf b hb).2.2.2.1, (hf b hb).2.1, (hf b hb).2.2.2.2.1, (hf b hb).2.2.2.2.2⟩) (fun b o _ _ hc e _ => k b o hc e) (fun b o _ _ hc e _ => ⟨o.slots, k b o hc e⟩)
    (fun b o _ e n => ?_) (fun b o hc e => ⟨o, k b o hc e⟩) (fun b xs e => ?_) (fun b o u e => ?_) (fun b ps e => ⟨#[], ?_⟩) (fun m hm => ?_) (fun b u e => ?_) I.bare
  · rw [upd_ne (Nat.ne_of_lt (Nat.lt_of_lt_of_le (Heap.lt_size e) hT))]; exact n
  · rw [upd_ne (ne_of_none e hn)]; exact e
  · rw [upd_ne (ne_of_none e hn)]; exact e
  · rw [upd_ne (ne_of_none e hn), e]; simp
  · obtain ⟨o, es, ep, ho, r⟩ := hm
    exact ⟨o, es, ep, k _ o (fun z => (hf _ z).2.1 rfl) ho, r⟩
  · by_cases hb : b = T
    · subst hb
      rw [upd_same] at e
      cases e
      exact new
    · rw [upd_ne hb] at e
      refine (I.hok b u e).stay (fun c v hc q => k c v ?_ q) (fun c q => by rw [upd_ne (ne_of_none q hn)]; exact q) fun c xs q => by rw [upd_ne (ne_of_none q hn)]; exact q
      rcases hc with z | z
      · rw [z]; exact nit b u e
      · exact nit c _ z

/-! ### locking a thing while a statement runs -/
end
section
variable {X : Cx}
/-! ### one iterator just laid -/
theorem pi_one {tg : Expr} {pins : List (Addr × Obj)} {σ : St} {H : Hp} {s : Shared} {R : It → Hp → Prop} {J : It} {tn : Nat → Heap → Prop} {tk : Nat} (I : Inv X pins σ H s) (o : Obj)
    (T : Turn X.prog X.w X.K tg J [s.heap.objs.size] s.heap.objs.size tn) (st : tn 0 (s.heap.push o)) (q : R J H) : PIE X pins σ tg R (.ref s.heap.objs.size) { s with heap := s.heap.push o, toks := tk } := by
  refine ⟨s.heap.objs.size, [s.heap.objs.size], tn, J, H, rfl, I.kept fun b ob e => Heap.get?_push_of_some _ e, T, st, fun b hb => ?_, q⟩
  have e : b = s.heap.objs.size := by simpa using hb
  subst e
  exact I.fpOk (Nat.le_refl _) (I.hok.fresh (Nat.le_refl _))
end

/-! ### range with a step -/
section
variable {X : Cx} {tg : Expr}
end
/-! ### reversed(list) -/
/-- the list at a (n items at the start, which the loop leaves there), from its end -/
def Itv (K : PySem.W.Frag) (a : Addr) (n : Nat) : It :=
  ⟨fun i H => i < n ∧ ∃ (xs : List V) (x : V), SqL K H a xs ∧ xs[n - 1 - i]? = some x, fun i H x H' => H' = H ∧ ∀ xs, SqL K H a xs → xs[n - 1 - i]? = some x, fun i _ => n ≤ i⟩
theorem turn_rev {P : Program} {w : World} {K : PySem.W.Frag} {tg : Expr} (a it : Addr) (n : Nat) : Turn P w K tg (Itv K a n) [it] it (fun i h => i ≤ n ∧ h.IsRevIter it a ((n : Int) - 1 - (i : Nat))) where
  mem := by simp
  obj := fun i h st b hb => by
    have e : b = it := by simpa using hb
    subst e
    obtain ⟨_, o, e, c, d⟩ := st
    exact ⟨o, e, fun v z => by rw [d] at z; cases z⟩
  keep := fun i h h' st k => ⟨st.1, st.2.at fun o e => k it (by simp) o e⟩
  item := by
    intro X hP hw hK hc i pins s σ H E I hf st hg
    subst hP hw hK
    obtain ⟨hin, xs, x, hq, hx⟩ := hg
    obtain ⟨its, rv, p, hz⟩ := I.list hq
    obtain ⟨u, hu, ru⟩ := rv.get hx
    obtain ⟨f0, f1, f2, f3, f4, f5⟩ := hf it (by simp)
    obtain ⟨_, hit⟩ := st
    have e1 : (n : Int) - 1 - ((i : Nat) : Int) = ((n - 1 - i : Nat) : Int) := by omega
    rw [e1] at hit
    refine wpAny_pyNext_rev_item hit p.isList (x := u) (by simpa using hu) fun h' st' sb => ?_
    have e2 : ((n - 1 - i : Nat) : Int) - 1 = (n : Int) - 1 - ((i + 1 : Nat) : Int) := by omega
    rw [e2] at st'
    have I1 : Inv X pins σ H { s with heap := h' } := I.turned (t' := s.toks) (fun b o hb e => (sb.2 b hb).trans e) f0 f1 f3 f4 f5
    obtain ⟨o, e, c, d⟩ := id st'
    exact ⟨u, rfl, go_of (s := { s with heap := h' }) e c d (by decide) ⟨x, H, I1, ru, ⟨rfl, fun ys hy => by rw [I.list_inj hy hq]; exact hx⟩, ⟨hin, st'⟩, fun b hb => (hf b hb).1⟩⟩
  done := by
    intro X hP hw hK hc i pins s σ H E I hf st hg
    subst hP hw hK
    obtain ⟨f0, f1, f2, f3, f4, f5⟩ := hf it (by simp)
    obtain ⟨hin, hit⟩ := st
    have hge : n ≤ i := hg
    have e1 : (n : Int) - 1 - ((i : Nat) : Int) = -1 := by omega
    rw [e1] at hit
    exact wpAny_pyNext_rev_end (I.ok.hd hc) hit fun h' eb => ⟨rfl, I.turned (t' := s.toks) (fun b o hb e => eb b o hb e) f0 f1 f3 f4 f5⟩
  self := fun A i s Q E st h => wpAny_pyIter_revIter st.2 h
def iRev (K : PySem.W.Frag) (ta : TA) : TI := fun σ H R => ta σ H fun vs H1 => ∃ (a : Addr) (xs : List V), vs = [.ref a] ∧ SqL K H1 a xs ∧ R (Itv K a xs.length) H1
section
variable {X : Cx} {tg : Expr}
theorem pi_reversed {e : Expr} {ta : TA} {p pos : Pos} (hg : Gl X "reversed") (hm : X.mg "reversed" = none) (ha : PA X [e] ta) (hs : starEach [e] X.env = [(false, eval e X.env)] := by rfl) : PI X tg (.Call (.Name "reversed" p) [e] [] pos) (iRev X.K ta) := by
  intro pins s σ H R I h
  refine Call_ (ld_blt I hg hm boot_reversed5 (PyProof.Rows.callWith_type1 (thn (ha pos pins s σ H _ I h) fun us s1 ⟨vs, H1, I1, r1, q1⟩ => ?_) hs rfl))
  obtain ⟨a, xs, e, hq, q⟩ := q1
  subst e
  cases r1 with
  | cons r rr =>
    cases rr
    cases r
    obtain ⟨its, rv, p', hz⟩ := I1.list hq
    have hl := rv.length
    have e1 : ((its.toArray.size : Nat) : Int) - 1 = (xs.length : Int) - 1 - ((0 : Nat) : Int) := by simp only [List.size_toArray]; omega
    refine call_reversed_list p'.isList (wpAny_pyIter_revIter (l := a) (i := ((its.toArray.size : Nat) : Int) - 1) ⟨_, Heap.get?_push_size _ rfl, rfl, rfl⟩ ?_)
    refine pi_one (tk := s1.toks) I1 _ (turn_rev a _ xs.length) ⟨Nat.zero_le _, ?_⟩ q
    rw [← e1]
    exact ⟨_, Heap.get?_push_size _ rfl, rfl, rfl⟩
end

/-! ### a str -/
/-! ### a dict's keys: any dict's entries -/
section
variable {prog : Program} {w : World} {A : Around} {E : Value → Shared → Prop} {s : Shared}
end

/-! ### a locked dict -/
section
variable {X : Cx} {pins : List (Addr × Obj)} {σ : St} {H : Hp} {s : Shared} {d : Addr} {o : Obj}
end

section
variable {P : Program} {w : World} {K : PySem.W.Frag} {tg : Expr} {d : Addr} {o : Obj} {es : Array DictEntry} {ep : Nat}
end

/-! ### for k in d, d.keys(), d.values(), d.items() -/
section
variable {X : Cx} {tg e : Expr} {td : TE} {apos cpos : Pos}
end

/-! ### enumerate(list) -/
/-- the list at a as it stands at each turn, each item in a new pair -/
def Ite (K : PySem.W.Frag) (a : Addr) : It :=
  ⟨fun i H => ∃ (xs : List V) (x : V), SqL K H a xs ∧ xs[i]? = some x, fun i H v H' => ∃ T x, v = .ref T ∧ H T = none ∧ H' = upd H T (.tup [.int (i : Nat), x]) ∧ ∀ xs, SqL K H a xs → xs[i]? = some x, fun i H => ∃ xs : List V, SqL K H a xs ∧ xs.length ≤ i⟩
theorem turn_enum {P : Program} {w : World} {K : PySem.W.Frag} {elts : List Expr} {kk : Nat} {tpos : Pos} (a e it : Addr) :
    Turn P w K (.Tuple elts kk tpos) (Ite K a) [e, it] e (fun i h => (∃ old, IsEnum h e it ((i : Nat) : Int) old) ∧ h.IsListIter it a i ∧ e ≠ it) where
  mem := by simp
  obj := fun i h st b hb => by
    obtain ⟨⟨old, he⟩, ⟨o, ho, hc, hd⟩, _⟩ := st
    have e' : b = e ∨ b = it := by simpa using hb
    rcases e' with z | z
    · rw [z]; exact ⟨_, he, fun v q => nomatch q⟩
    · rw [z]; exact ⟨o, ho, fun v q => by rw [hd] at q; cases q⟩
  keep := fun i h h' st k => let ⟨⟨old, he⟩, hi, hne⟩ := st; ⟨⟨old, k e (by simp) _ he⟩, hi.at fun o q => k it (by simp) o q, hne⟩
  item := by
    intro X hP hw hK hc i pins s σ H E I hf st hg
    subst hP hw hK
    obtain ⟨⟨old, he⟩, hit, hne⟩ := st
    obtain ⟨xs, x, hq, hx⟩ := hg
    obtain ⟨its, rv, p, hz⟩ := I.list hq
    obtain ⟨u, hu, ru⟩ := rv.get hx
    have hel : e < s.heap.objs.size := Heap.lt_size he
    have hil : it < s.heap.objs.size := by obtain ⟨_, q, _⟩ := hit; exact Heap.lt_size q
    refine wpAny_pyNext_enum_item he hit p.isList (x := u) (by simpa using hu) hne fun h' ho hit' hT hsz hk => ?_
    refine ⟨_, rfl, wpAny_letOwnedTupleGo_enum (s := { s with heap := h', toks := s.toks + 1 }) ho fun h'' he' sb => ?_⟩
    have hT2 : h''.get? s.heap.objs.size = some { cls := .type "tuple", data := .seq #[.int i s.toks, u] } := (sb.2 _ (Nat.ne_of_gt hel)).trans hT
    have new : ObjOk X.prog X.w (upd H s.heap.objs.size (.tup [.int (i : Nat), x])) h'' s.heap.objs.size (.tup [.int (i : Nat), x]) :=
      ⟨by show 2 ≤ sizeLine; decide, [.int i s.toks, u], .cons ⟨_, rfl⟩ (.cons ru .nil), ⟨_, hT2, rfl, _, rfl⟩⟩
    have I1 : Inv X pins σ (upd H s.heap.objs.size (.tup [.int (i : Nat), x])) { s with heap := h'', toks := s.toks + 1 } :=
      I.turnedNew (ch := [e, it]) (fun b ob hb q => (sb.2 b (fun z => hb (by simp [z]))).trans (hk b ob (fun z => hb (by simp [z])) (fun z => hb (by simp [z])) q)) hf (Nat.le_refl _) new
    refine ⟨.ref s.heap.objs.size, _, I1, rfl, ⟨_, x, rfl, I.hok.fresh (Nat.le_refl _), rfl, fun ys hy => by rw [I.list_inj hy hq]; exact hx⟩, ⟨⟨u, ?_⟩, hit'.at fun o q => (sb.2 it (Ne.symm hne)).trans q, hne⟩, fun b hb => ?_⟩
    · have e1 : ((i + 1 : Nat) : Int) = (i : Int) + 1 := by omega
      rw [e1]; exact he'
    · have hb' : b < s.heap.objs.size := by
        have e' : b = e ∨ b = it := by simpa using hb
        rcases e' with z | z
        · rw [z]; exact hel
        · rw [z]; exact hil
      rw [upd_ne (Nat.ne_of_lt hb')]
      exact (hf b hb).1
  done := by
    intro X hP hw hK hc i pins s σ H E I hf st hg
    subst hP hw hK
    obtain ⟨⟨old, he⟩, hit, hne⟩ := st
    obtain ⟨xs, hq, hx⟩ := hg
    obtain ⟨its, rv, p, hz⟩ := I.list hq
    obtain ⟨f0, f1, f2, f3, f4, f5⟩ := hf it (by simp)
    have hl := rv.length
    exact wpAny_pyNext_enum_end (I.ok.hd hc) he hit p.isList (by simp; omega) fun h' eb => ⟨rfl, I.turned (t' := s.toks) (fun b o hb q => eb b o hb q) f0 f1 f3 f4 f5⟩
  self := fun A i s Q E st h => let ⟨⟨_, he⟩, _⟩ := st; wpAny_pyIter_enum he h
def iEnum (K : PySem.W.Frag) (ta : TA) : TI := fun σ H R => ta σ H fun vs H1 => ∃ a xs, vs = [.ref a] ∧ SqL K H1 a xs ∧ R (Ite K a) H1
theorem pi_enum {X : Cx} {e : Expr} {ta : TA} {p pos tpos : Pos} {elts : List Expr} {kk : Nat} (hg : Gl X "enumerate") (hm : X.mg "enumerate" = none) (ha : PA X [e] ta) (hs : starEach [e] X.env = [(false, eval e X.env)] := by rfl) :
    PI X (.Tuple elts kk tpos) (.Call (.Name "enumerate" p) [e] [] pos) (iEnum X.K ta) := by
  intro pins s σ H R I h
  refine Call_ (ld_blt I hg hm boot_enumerate (PyProof.Rows.callWith_type1 (thn (ha pos pins s σ H _ I h) fun us s1 ⟨vs, H1, I1, r1, q1⟩ => ?_) hs rfl))
  obtain ⟨a, xs, ex, hq, q⟩ := q1
  subst ex
  cases r1 with
  | cons r rr =>
    cases rr
    cases r
    obtain ⟨its, rv, p', hz⟩ := I1.list hq
    refine call_enumerate_list p'.isList fun h' he hit hsz hk => wpAny_pyIter_enum he ?_
    have I2 : Inv X pins σ H1 { s1 with heap := h' } := I1.kept (t' := s1.toks) hk
    refine ⟨s1.heap.objs.size + 1, [s1.heap.objs.size + 1, s1.heap.objs.size], _, _, H1, rfl, I2, turn_enum a (s1.heap.objs.size + 1) s1.heap.objs.size, ⟨⟨.none, he⟩, hit, Nat.succ_ne_self _⟩, fun b hb => ?_, q⟩
    have e' : b = s1.heap.objs.size + 1 ∨ b = s1.heap.objs.size := by simpa using hb
    have hle : s1.heap.objs.size ≤ b := by
      rcases e' with z | z
      · rw [z]; exact Nat.le_add_right _ _
      · rw [z]; exact Nat.le_refl _
    exact I1.fpOk hle (I1.hok.fresh hle)
/-! ### zip(list, list) -/
end L2

section 
namespace Bits
open PySem PyProof.Rows

end Bits
end 

section 
namespace TL
open PySem PySem.Builtin PySem.Builtin.Str PySem.StrLaws

/-! ### the list functions -/
/-! ### the model's split and partition are these -/
/-! ### computing spl and par -/
/-! ### digits -/
/-! ### words: x.split() -/
end TL
end 

namespace L2
open PySem PySem.Spec PyProof.Rows

section
variable {X : Cx} {pins : List (Addr × Obj)} {σ : St} {H : Hp} {s : Shared} {Q : VK}
end

section
variable {X : Cx}

/-! ### of a text alone -/
/-! ### of a text and a text -/
end

section
variable {X : Cx} {o e : Expr} {to te : TE}
end
end L2

namespace L2
open PySem PySem.Spec PyProof.Rows

section
variable {X : Cx}
end

/-! ### slices of a text -/
end L2

namespace Att
open PySem PySem.W PySem.Calls PyProof.Rows

/-! ### the script -/
/-! ### the attachment: holds_open's last premise (the goal 'hc' behind k_head) from a wpAny of the law's body -/
/-! ### rules over ANY heap (no ledger) from facts about the written part K: the library's own take a ledger (News) for what they write -/
section
variable {prog : Program} {w : World} {A : Around} {E : Value → Shared → Prop} {s : Shared} {K : Frag}

/-! the whole heap as the ledger: makes every rule that writes through a ledger a rule over any heap -/
end
end Att

namespace L2
open PySem PySem.Spec PyProof.Rows

end L2

namespace L2
open PySem PySem.Spec PyProof.Rows

abbrev KOf {K : PySem.W.Frag} {h : Heap} (_ : K.In h) : PySem.W.Frag := K

end L2

/- THE LAST THEOREM (shape; LID, My.* are yours):
   My.Adr: a structure of the addresses that your layer names (classes, functions); My.Txt K t: a structure (Prop) of the equations over K;
   My.txt_mk : {K} {implicit addresses ..} (e1 : nsIn K mainGlobals "law" = some (some (.ref f))) (e2 : K.lookup f = some ⟨oc, od, .func (fnOf "law" "law" params body scope dV kV doc pm an cdv ct), sl⟩) (e3 : codeIn K cdv "law" = true) .. : ∃ t, My.Txt K t

set_option maxRecDepth 100000 in
set_option maxHeartbeats 0 in
theorem PySem.Challenge.cw_LID_holds : PySem.Challenge.rw_LID.Holds := by
  w_on; o_law; k_head; (case hw => w_witness2)
  k_fill
  refine L2.walk_of (l := PySem.Challenge.rw_LID) (n := 63) (k := 40) (x := "script") (CX := fun w => ..) (sp := fun _ => My.sp_law) rfl (by decide) rfl ⟨rfl, by decide, by decide⟩ (fun w h Y => PySem.W.kIn_of Y) ?F ?S ?C
  case F =>
    intro w mg fa h KX G hmg
    have T : ∃ t, My.Txt (L2.KOf KX) t := by
      dsimp only [L2.KOf]                          -- K must stand as «<heap const> w.params» for k_is
      refine' My.txt_mk ?e1 ?e2 ?e3 ..
      (case e1 => PySem.W.k_is)                    -- in the order: a name -> its address -> its object -> its parts
      (case e2 => PySem.W.k_is)
      ..
    obtain ⟨t, T⟩ := T
    have e0 := hmg.symm.trans (PySem.W.mg_of KX G T.law)
    cases e0                                       -- fa is the law's own address
    exact ⟨_, fun s u => .of_eq rfl, fun base kb nb => My.law_fn T kb nb⟩     -- if «.of_eq rfl» comes too early: refine' ⟨_, ?b, fun base kb nb => My.law_fn T kb nb⟩; exact fun s u => .of_eq rfl
  case S => exact fun w H a ns hl hO hS => ..
  case C => exact ..
(the tactic k_is has no namespace: write k_is) -/

/-! SHORT WORDS over the layer: a def of the text, its body, what a loop and a test want. -/
namespace L2
open PySem PySem.Spec PyProof.Rows

/-! ### the text by places -/
/-- the j-th statement of a class's body -/
def inClass (s : Stmt) (j : Nat) : Stmt := match s with
  | .ClassDef _ _ _ body _ _ _ _ _ _ _ => body.getD j (.Pass ⟨0, 0, 0, 0⟩)
  | _ => .Pass ⟨0, 0, 0, 0⟩
def defArgs (s : Stmt) : Arguments := match s with
  | .FunctionDef _ a _ _ _ _ _ _ _ _ => a
  | _ => { posonlyargs := [], args := [], vararg := none, kwonlyargs := [], kw_defaults := [], kwarg := none, defaults := [] }
def defBody (s : Stmt) : List Stmt := match s with
  | .FunctionDef _ _ b _ _ _ _ _ _ _ => b
  | _ => []
def defScope (s : Stmt) : Scope := match s with
  | .FunctionDef _ _ _ _ _ _ sc _ _ _ => sc
  | _ => { kind := .function, names := [], isGenerator := false, isCoroutine := false }

/-! ### no exception leaves a def -/
abbrev CX0 : CXT := fun _ _ _ _ _ _ => False
abbrev E0 : XK := fun _ _ _ => False
theorem pass0 {X : Cx} : Passes CX0 X E0 := fun _ _ _ _ _ _ _ h => h.elim

/-! ### a def (or method) of the text as it stands behind the top -/
structure Fun (K : PySem.W.Frag) (x qual : Str) (st : Stmt) (f : Addr) (fd : FuncData) : Prop where
  ex : ∃ (oc : Value) (od : Option Addr) (kV doc pm : Value) (an : Option Addr) (cdv ct : Value) (osl : Array (Option Value)),
    fd = PySem.W.fnOf x qual (defArgs st) (defBody st) (defScope st) .none kV doc pm an cdv ct ∧ K.lookup f = some ⟨oc, od, .func fd, osl⟩ ∧ PySem.W.codeIn K cdv qual = true
  kp : PySem.W.keepIn K (.ref f) = true
section
variable {P : Program} {w : World} {K : PySem.W.Frag} {mg : Str → Option Value} {base : Heap}
/-- THE RULE for a def: its body as a term of rules, and the reading of that term -/
theorem Fun.ok {x qual : Str} {st : Stmt} {f : Addr} {fd : FuncData} {N ps : List Str} {k : Nat} {sp : Sp} (F : Fun K x qual st f fd) (S : FnScope N ps (defScope st)) (len : ∀ vs H Q E, sp vs H Q E → vs.length = ps.length)
    (hbody : ∀ (cdv : Value) (A : Around) (outer : List Env) (s : Shared) (H : Hp) (vs : List V) (Q : VK) (E : XK), Room k (A.deeper (envOfC qual (defScope st) s.heap.objs.size f cdv)) → sp vs H Q E →
      ∃ t, PSs (cxOf CX0 P w K mg base N qual (defScope st) f cdv A outer s H E).nox (defBody st) t ∧ t { nx := fun _ H' => Q .non H', rt := Q } (start N vs) H) : FnOk P w K mg base CX0 (k + 1) f fd ps sp := by
  obtain ⟨oc, od, kV, doc, pm, an, cdv, ct, osl, rfl, lk, hcd⟩ := F.ex
  refine fn_of lk hcd S len fun A outer s H vs Q E hr hsp => ?_
  obtain ⟨t, h, q⟩ := hbody cdv A outer s H vs Q E hr hsp
  exact ⟨t, h.nox, q⟩
/-- how its arguments bind (no defaults): h is «fun _ _ _ _ _ _ us hl => match us, hl with | [_, _], _ => rfl», one _ a parameter -/
theorem Fun.binds {x qual : Str} {st : Stmt} {f : Addr} {fd : FuncData} {ps : List Str} (F : Fun K x qual st f fd)
    (h : ∀ (kV doc pm : Value) (an : Option Addr) (cdv ct : Value) (us : List Value), us.length = ps.length → bindArgs (PySem.W.fnOf x qual (defArgs st) (defBody st) (defScope st) .none kV doc pm an cdv ct) ⟨us, []⟩ = pure (ps.zip us)) : Binds K fd ps [] := by
  obtain ⟨oc, od, kV, doc, pm, an, cdv, ct, osl, rfl, lk, hcd⟩ := F.ex
  exact .all (h kV doc pm an cdv ct)
theorem fun_mk {x qual : Str} {st : Stmt} {f : Addr} {oc : Value} {od an : Option Addr} {osl : Array (Option Value)} {kV doc pm cdv ct : Value} (l : K.lookup f = some ⟨oc, od, .func (PySem.W.fnOf x qual (defArgs st) (defBody st) (defScope st) .none kV doc pm an cdv ct), osl⟩)
    (c : PySem.W.codeIn K cdv qual = true) (k : PySem.W.keepIn K (.ref f) = true) : Fun K x qual st f (PySem.W.fnOf x qual (defArgs st) (defBody st) (defScope st) .none kV doc pm an cdv ct) := ⟨⟨oc, od, kV, doc, pm, an, cdv, ct, osl, rfl, l, c⟩, k⟩
end
/-! ### expressions in short: the name that stands in the i-th slot -/
section
variable {X : Cx}
theorem pv (i : Nat) {x : Str} {pos : Pos} (hN : X.N[i]? = some x := by rfl) (hv : Vis X.env.scope x := by first | exact Or.inl rfl | exact Or.inr (Or.inl rfl) | exact Or.inr (Or.inr rfl)) (hd : (x == ("__debug__" : Str)) = false := by decide)
    (hcd : (x == ("__classdict__" : Str)) = false := by decide) : PE X (.Name x pos) (tVar i) := pe_var hN hv hd hcd
end

/-! ### tests -/
theorem iteF {A B : Prop} (h : B) : if false = true then A else B := by
  rw [if_neg Bool.false_ne_true]
  exact h
theorem iteT {A B : Prop} (h : A) : if true = true then A else B := by
  rw [if_pos rfl]
  exact h
theorem ite2 {c A B : Prop} [Decidable c] (h1 : c → A) (h2 : ¬ c → B) : if c then A else B := by
  by_cases h : c
  · rw [if_pos h]
    exact h1 h
  · rw [if_neg h]
    exact h2 h
/-! ### heaps -/
/-- all that was tracked is as it was -/
def Same (H H' : Hp) : Prop := ∀ b o, H b = some o → H' b = some o
theorem Same.trans {H H1 H2 : Hp} (a : Same H H1) (b : Same H1 H2) : Same H H2 := fun c o h => b c o (a c o h)
theorem Same.free {H H' : Hp} (e : Same H H') {l : Addr} (h : H' l = Option.none) : H l = Option.none := by
  cases q : H l with
  | none => rfl
  | some o =>
    rw [e l o q] at h
    cases h
theorem Same.seq {K : PySem.W.Frag} {H H' : Hp} {a : Addr} {xs : List V} (e : Same H H') (h : SqL K H a xs) : SqL K H' a xs := by
  rcases h with (h | ⟨o, h⟩) | h
  · exact .inl (.inl (e _ _ h))
  · exact .inl (.inr ⟨o, e _ _ h⟩)
  · exact .inr h

/-! ### a dict's pairs: keys that differ -/
section
variable {κ : Type} [DecidableEq κ]
end
/-! ### lists -/
/-- a new instance and its __init__ leave all that was tracked as it was -/
theorem Same.made {H H1 : Hp} {x dx C : Addr} (nx : H x = Option.none) (nd : H dx = Option.none) (k : ∀ b o, (upd (upd H dx (.own x)) x (.ins C dx [])) b = some o → b ≠ x → H1 b = some o) : Same H H1 := fun b o e =>
  k b o (by rw [upd_ne (ne_of_none e nx), upd_ne (ne_of_none e nd)]; exact e) (ne_of_none e nx)
end L2
section
set_option Elab.async false
set_option linter.all false
set_option maxRecDepth 100000
set_option maxHeartbeats 2000000
namespace L2
open PySem PySem.Spec PyProof.Rows
open PySem.W (WData Codec OpenSpec Well WellAll ReadsW ReadsAllW)
/-! ### an answer as data -/
mutual
/-- x stands for the datum d, lists and tuples all the way -/
inductive Dw (K : PySem.W.Frag) (H : Hp) : V → WData → Prop
  | non : Dw K H .non .none
  | bl (b : Bool) : Dw K H (.bl b) (.bool b)
  | int (i : Int) : Dw K H (.int i) (.int i)
  | str (x : Str) : Dw K H (.str x) (.str x)
  | byt (b : Array UInt8) : Dw K H (.byt b) (.bytes b.toList)
  | lst {a : Addr} {xs : List V} {ds : List WData} : SqL K H a xs → DwAll K H xs ds → Dw K H (.ref a) (.list ds)
  | tup {a : Addr} {xs : List V} {ds : List WData} : SqT K H a xs → DwAll K H xs ds → Dw K H (.ref a) (.tuple ds)
inductive DwAll (K : PySem.W.Frag) (H : Hp) : List V → List WData → Prop
  | nil : DwAll K H [] []
  | cons {v : V} {vs : List V} {d : WData} {ds : List WData} : Dw K H v d → DwAll K H vs ds → DwAll K H (v :: vs) (d :: ds)
end
theorem dw_ints {K : PySem.W.Frag} {H : Hp} : ∀ ns : List Int, DwAll K H (ns.map V.int) (ns.map WData.int)
  | [] => .nil
  | n :: r => .cons (.int n) (dw_ints r)
theorem ints_dw {K : PySem.W.Frag} {H : Hp} : ∀ (ns : List Int) (xs : List V), DwAll K H xs (ns.map WData.int) → xs = ns.map V.int
  | [], xs, h => by
    cases h
    rfl
  | n :: r, xs, h => by
    cases h with
    | cons h1 h2 =>
      cases h1
      rw [ints_dw r _ h2] <;> rfl
section
variable {P : Program} {w : World} {K : PySem.W.Frag} {H : Hp} {h : Heap} {R : PySem.W.WRecords} {cl : Str → Option Addr}
theorem sqL_at {a : Addr} {xs : List V} (hok : HOk P w H h) (KX : K.In h) (q : SqL K H a xs) : ∃ (its : List Value) (o : Obj) (n : Nat), Vals xs its ∧ h.get? a = some o ∧ o.cls = .type "list" ∧ o.data = .seq its.toArray n := by
  rcases q with q | ⟨o, its, n, e, hc, _, hd, _, hv⟩
  · obtain ⟨_, its, n, hv, e⟩ := (show ObjOk P w H h a (.lst xs) from q.ok hok)
    exact ⟨its, _, n, hv, e, rfl, rfl⟩
  · exact ⟨its.toList, o, n, hv, KX _ _ e, hc, by simp [hd]⟩
theorem sqT_at {a : Addr} {xs : List V} (hok : HOk P w H h) (KX : K.In h) (q : SqT K H a xs) : ∃ (its : List Value) (o : Obj) (n : Nat), Vals xs its ∧ h.get? a = some o ∧ o.cls = .type "tuple" ∧ o.data = .seq its.toArray n := by
  rcases q with q | ⟨o, its, n, e, hc, hd, _, hv⟩
  · obtain ⟨_, its, hv, o, e, hc, n, hd⟩ := (show ObjOk P w H h a (.tup xs) from q.ok hok)
    exact ⟨its, o, n, hv, e, hc, hd⟩
  · exact ⟨its.toList, o, n, hv, KX _ _ e, hc, by simp [hd]⟩
mutual
theorem Dw.reads (hok : HOk P w H h) (KX : K.In h) : ∀ (d : WData) (v : V) (u : Value), Dw K H v d → RelV v u → ∃ as, ReadsW R cl h u d as
  | .none, _, _, x, r => by
    cases x
    cases r
    exact ⟨_, ReadsW.none⟩
  | .bool b, _, _, x, r => by
    cases x
    cases r
    exact ⟨_, ReadsW.bool b⟩
  | .int i, _, _, x, r => by
    cases x
    obtain ⟨t, rfl⟩ := r
    exact ⟨_, ReadsW.int i t⟩
  | .str s, _, _, x, r => by
    cases x
    obtain ⟨t, rfl⟩ := r
    exact ⟨_, ReadsW.str s t⟩
  | .bytes b, _, _, x, r => by
    cases x
    obtain ⟨t, rfl⟩ := r
    exact ⟨_, ReadsW.bytes _ t⟩
  | .list ds, _, _, x, r => by
    cases x with
    | lst hs ha =>
      cases r
      obtain ⟨its, o, n, rv, ho, hc, hd⟩ := sqL_at hok KX hs
      obtain ⟨as, hr⟩ := Dw.readsAll hok KX ds _ its ha rv
      exact ⟨_, ReadsW.list ho hc hd hr⟩
  | .tuple ds, _, _, x, r => by
    cases x with
    | tup hs ha =>
      cases r
      obtain ⟨its, o, n, rv, ho, hc, hd⟩ := sqT_at hok KX hs
      obtain ⟨as, hr⟩ := Dw.readsAll hok KX ds _ its ha rv
      exact ⟨_, ReadsW.tuple ho hc hd hr⟩
  | .float _, _, _, x, _ => by cases x
  | .dict _, _, _, x, _ => by cases x
  | .bytearray _, _, _, x, _ => by cases x
  | .set _, _, _, x, _ => by cases x
  | .frozenset _, _, _, x, _ => by cases x
  | .obj _ _, _, _, x, _ => by cases x
theorem Dw.readsAll (hok : HOk P w H h) (KX : K.In h) : ∀ (ds : List WData) (vs : List V) (us : List Value), DwAll K H vs ds → Vals vs us → ∃ as, ReadsAllW R cl h us ds as
  | [], _, _, x, r => by
    cases x
    cases r
    exact ⟨_, ReadsAllW.nil⟩
  | d :: ds, _, _, x, r => by
    cases x with
    | cons h1 h2 =>
      cases r with
      | cons r1 r2 =>
        obtain ⟨as, q1⟩ := Dw.reads hok KX d _ _ h1 r1
        obtain ⟨bs, q2⟩ := Dw.readsAll hok KX ds _ _ h2 r2
        exact ⟨_, ReadsAllW.cons q1 q2⟩
end
end
/-! ### the arguments -/
mutual
/-- data that a codec tells -/
def plW : WData → Bool
  | .none => true
  | .bool _ => true
  | .int _ => true
  | .str _ => true
  | .bytes _ => true
  | .list xs => plWs xs
  | .tuple xs => plWs xs
  | _ => false
def plWs : List WData → Bool
  | [] => true
  | x :: r => plW x && plWs r
end
theorem plWs_map {α : Type} {f : α → WData} (h : ∀ a, plW (f a) = true) : ∀ l : List α, plWs (l.map f) = true
  | [] => rfl
  | x :: r => by
    show (plW (f x) && plWs (r.map f)) = true
    rw [h x, plWs_map h r] <;> rfl
theorem pl_enc : ∀ (c : Codec) (a : c.denote), plW (c.enc a) = true
  | .unit, _ => rfl
  | .bool, _ => rfl
  | .int _ _, _ => rfl
  | .nat _ _, _ => rfl
  | .u8, _ => rfl
  | .bytes _ _, _ => rfl
  | .text _ _ _ _, _ => rfl
  | .list _ _ c, a => plWs_map (fun x => pl_enc c x) a
  | .pair c d, a => by
    show (plW (c.enc a.1) && (plW (d.enc a.2) && true)) = true
    rw [pl_enc c a.1, pl_enc d a.2] <;> rfl
  | .triple c d e, a => by
    show (plW (c.enc a.1) && (plW (d.enc a.2.1) && (plW (e.enc a.2.2) && true))) = true
    rw [pl_enc c a.1, pl_enc d a.2.1, pl_enc e a.2.2] <;> rfl
  | .option c, none => rfl
  | .option c, some x => pl_enc c x
theorem pl_encAll : ∀ (cs : List Codec) (a : Codec.denoteAll cs), plWs (Codec.encAll cs a) = true
  | [], _ => rfl
  | c :: cs, a => by
    show (plW (c.enc a.1) && plWs (Codec.encAll cs a.2)) = true
    rw [pl_enc c a.1, pl_encAll cs a.2] <;> rfl
theorem weight_mem : ∀ {xs : List WData} {d : WData}, d ∈ xs → d.weight ≤ WData.weightAll xs
  | [], d, h => absurd h (by simp)
  | x :: r, d, h => by
    show d.weight ≤ x.weight + 1 + WData.weightAll r
    rcases List.mem_cons.mp h with e | m
    · rw [e]
      omega
    · have z := weight_mem m
      omega
def toV : Value → V
  | .none => .non
  | .bool b => .bl b
  | .int i _ => .int i
  | .str x _ => .str x
  | .bytes b _ => .byt b
  | .ref a => .ref a
  | _ => .non
/-- a value of the arguments, its objects among A -/
def OkU (A : List Addr) : Value → Prop
  | .none => True
  | .bool _ => True
  | .int _ _ => True
  | .str _ _ => True
  | .bytes _ _ => True
  | .ref a => a ∈ A
  | _ => False
theorem OkU.mono {A B : List Addr} (h : ∀ a ∈ A, a ∈ B) : ∀ {u : Value}, OkU A u → OkU B u := fun {u} x => by
  cases u with
  | ref a => exact h a x
  | none => trivial
  | bool b => trivial
  | int i t => trivial
  | str s t => trivial
  | bytes b t => trivial
  | _ => exact False.elim x
theorem relV_toV {A : List Addr} {u : Value} (x : OkU A u) : RelV (toV u) u := by
  cases u with
  | ref a => rfl
  | none => rfl
  | bool b => rfl
  | int i t => exact ⟨t, rfl⟩
  | str s t => exact ⟨t, rfl⟩
  | bytes b t => exact ⟨t, rfl⟩
  | _ => exact False.elim x
theorem vals_toV {A : List Addr} : ∀ {vs : List Value}, (∀ u ∈ vs, OkU A u) → Vals (vs.map toV) vs
  | [], _ => .nil
  | u :: r, h => .cons (relV_toV (h u (List.mem_cons_self ..))) (vals_toV fun x hx => h x (List.mem_cons_of_mem _ hx))
/-- an object of the arguments -/
def ArgOb (h : Heap) (A : List Addr) (a : Addr) : Prop := ∃ vs : List Value, vs.length ≤ sizeLine ∧ (∀ u ∈ vs, OkU A u) ∧
  (h.get? a = some { cls := .type "list", data := .seq vs.toArray } ∨ h.get? a = some { cls := .type "tuple", data := .seq vs.toArray })
theorem ArgOb.mono {h : Heap} {A B : List Addr} {a : Addr} (k : ∀ a ∈ A, a ∈ B) (x : ArgOb h A a) : ArgOb h B a := by
  obtain ⟨vs, h1, h2, h3⟩ := x
  exact ⟨vs, h1, fun u hu => (h2 u hu).mono k, h3⟩
theorem wellAll_len {P : Params} {h : Heap} : ∀ {vs : List Value} {ds : List WData}, WellAll P h vs ds → vs.length = ds.length
  | _, _, .nil => rfl
  | _, _, .cons _ b => by
    show _ + 1 = _ + 1
    rw [wellAll_len b]
theorem well_list {P : Params} {h : Heap} {v : Value} {ds : List WData} (x : Well P h v (.list ds)) : ∃ (a : Addr) (vs : List Value), v = .ref a ∧ h.get? a = some { cls := .type "list", data := .seq vs.toArray } ∧ WellAll P h vs ds := by
  cases x with
  | list ho hall => exact ⟨_, _, rfl, ho, hall⟩
theorem well_tuple {P : Params} {h : Heap} {v : Value} {ds : List WData} (x : Well P h v (.tuple ds)) : ∃ (a : Addr) (vs : List Value), v = .ref a ∧ h.get? a = some { cls := .type "tuple", data := .seq vs.toArray } ∧ WellAll P h vs ds := by
  cases x with
  | tuple ho hall => exact ⟨_, _, rfl, ho, hall⟩
theorem well_cons {P : Params} {h : Heap} {us : List Value} {d : WData} {ds : List WData} (x : WellAll P h us (d :: ds)) : ∃ (v : Value) (vs : List Value), us = v :: vs ∧ Well P h v d ∧ WellAll P h vs ds := by
  cases x with
  | cons a b => exact ⟨_, _, rfl, a, b⟩
theorem line_of {n : Nat} (h : n ≤ 1048576) : n ≤ sizeLine := Nat.le_trans h (by decide)
section
variable {P : Params} {h : Heap}
mutual
theorem area_one : ∀ (d : WData) (v : Value), Well P h v d → plW d = true → d.weight ≤ 1048576 → ∃ A : List Addr, OkU A v ∧ ∀ a ∈ A, ArgOb h A a
  | .none, _, x, _, _ => by
    cases x
    exact ⟨[], trivial, fun a m => absurd m (by simp)⟩
  | .bool b, _, x, _, _ => by
    cases x
    exact ⟨[], trivial, fun a m => absurd m (by simp)⟩
  | .int i, _, x, _, _ => by
    cases x
    exact ⟨[], trivial, fun a m => absurd m (by simp)⟩
  | .str s, _, x, _, _ => by
    cases x
    exact ⟨[], trivial, fun a m => absurd m (by simp)⟩
  | .bytes b, _, x, _, _ => by
    cases x
    exact ⟨[], trivial, fun a m => absurd m (by simp)⟩
  | .list ds, _, x, p, z => by
    obtain ⟨a, vs, rfl, ho, hall⟩ := well_list x
    have z2 : WData.weightAll ds ≤ 1048576 := z
    obtain ⟨A, h1, h2⟩ := area_all ds _ hall p fun d hd => Nat.le_trans (weight_mem hd) z2
    have k : ∀ b ∈ A, b ∈ a :: A := fun b hb => List.mem_cons_of_mem _ hb
    refine ⟨a :: A, List.mem_cons_self .., fun b hb => ?_⟩
    rcases List.mem_cons.mp hb with e | m
    · rw [e]
      exact ⟨vs, line_of (by rw [wellAll_len hall]; exact Nat.le_trans (PySem.W.length_le_weightAllW ds) z2), fun u hu => (h1 u hu).mono k, .inl ho⟩
    · exact (h2 b m).mono k
  | .tuple ds, _, x, p, z => by
    obtain ⟨a, vs, rfl, ho, hall⟩ := well_tuple x
    have z2 : WData.weightAll ds ≤ 1048576 := z
    obtain ⟨A, h1, h2⟩ := area_all ds _ hall p fun d hd => Nat.le_trans (weight_mem hd) z2
    have k : ∀ b ∈ A, b ∈ a :: A := fun b hb => List.mem_cons_of_mem _ hb
    refine ⟨a :: A, List.mem_cons_self .., fun b hb => ?_⟩
    rcases List.mem_cons.mp hb with e | m
    · rw [e]
      exact ⟨vs, line_of (by rw [wellAll_len hall]; exact Nat.le_trans (PySem.W.length_le_weightAllW ds) z2), fun u hu => (h1 u hu).mono k, .inr ho⟩
    · exact (h2 b m).mono k
  | .float _, _, _, p, _ => Bool.noConfusion (show false = true from p)
  | .dict _, _, _, p, _ => Bool.noConfusion (show false = true from p)
  | .bytearray _, _, _, p, _ => Bool.noConfusion (show false = true from p)
  | .set _, _, _, p, _ => Bool.noConfusion (show false = true from p)
  | .frozenset _, _, _, p, _ => Bool.noConfusion (show false = true from p)
  | .obj _ _, _, _, p, _ => Bool.noConfusion (show false = true from p)
theorem area_all : ∀ (ds : List WData) (vs : List Value), WellAll P h vs ds → plWs ds = true → (∀ d ∈ ds, d.weight ≤ 1048576) → ∃ A : List Addr, (∀ u ∈ vs, OkU A u) ∧ ∀ a ∈ A, ArgOb h A a
  | [], _, x, _, _ => by
    cases x
    exact ⟨[], fun u m => absurd m (by simp), fun a m => absurd m (by simp)⟩
  | d :: ds, _, x, p, z => by
    obtain ⟨v, vs, rfl, x1, x2⟩ := well_cons x
    have q : plW d = true ∧ plWs ds = true := Bool.and_eq_true_iff.mp p
    obtain ⟨A, a1, a2⟩ := area_one d v x1 q.1 (z d (List.mem_cons_self ..))
    obtain ⟨B, b1, b2⟩ := area_all ds vs x2 q.2 fun e he => z e (List.mem_cons_of_mem _ he)
    have kA : ∀ b ∈ A, b ∈ A ++ B := fun b hb => List.mem_append.mpr (.inl hb)
    have kB : ∀ b ∈ B, b ∈ A ++ B := fun b hb => List.mem_append.mpr (.inr hb)
    refine ⟨A ++ B, fun u hu => ?_, fun b hb => ?_⟩
    · rcases List.mem_cons.mp hu with e | m
      · rw [e]
        exact a1.mono kA
      · exact (b1 u m).mono kB
    · rcases List.mem_append.mp hb with m | m
      · exact (a2 b m).mono kA
      · exact (b2 b m).mono kB
end
end
/-- what is tracked of an argument's object -/
def hoOf (o : Obj) : Option HO := match o.data with
  | .seq vs _ => if (o.cls == Value.type "list") = true then some (.frz o (.lst (vs.toList.map toV))) else some (.frz o (.tup (vs.toList.map toV)))
  | _ => none
def argH (K : PySem.W.Frag) (h : Heap) (A : List Addr) : Hp := fun b => if b ∈ A then (if (K.lookup b).isNone = true then (h.get? b).bind hoOf else none) else none
/-- nothing is tracked but what is known to the object -/
def OnlyF (H : Hp) : Prop := ∀ b, H b = none ∨ ∃ o u, H b = some (.frz o u)
theorem hoOf_lst (vs : List Value) : hoOf { cls := .type "list", data := .seq vs.toArray } = some (.frz { cls := .type "list", data := .seq vs.toArray } (.lst (vs.map toV))) := by
  show (if (Value.type "list" == Value.type "list") = true then some (HO.frz { cls := .type "list", data := .seq vs.toArray } (.lst (vs.toArray.toList.map toV))) else some (HO.frz { cls := .type "list", data := .seq vs.toArray } (.tup (vs.toArray.toList.map toV)))) = _
  rw [if_pos (beq_self_eq_true _)]
theorem hoOf_tup (vs : List Value) : hoOf { cls := .type "tuple", data := .seq vs.toArray } = some (.frz { cls := .type "tuple", data := .seq vs.toArray } (.tup (vs.map toV))) := by
  show (if (Value.type "tuple" == Value.type "list") = true then some (HO.frz { cls := .type "tuple", data := .seq vs.toArray } (.lst (vs.toArray.toList.map toV))) else some (HO.frz { cls := .type "tuple", data := .seq vs.toArray } (.tup (vs.toArray.toList.map toV)))) = _
  rw [if_neg (by decide)]
section
variable {P : Program} {w : World} {K : PySem.W.Frag} {h : Heap} {A : List Addr}
theorem argH_at {b : Addr} {o : Obj} (hb : b ∈ A) (hk : K.lookup b = none) (e : h.get? b = some o) : argH K h A b = hoOf o := by
  unfold argH
  rw [if_pos hb, hk, if_pos (show (none : Option Obj).isNone = true from rfl), e] <;> rfl
theorem of_argH {b : Addr} {u : HO} (q : argH K h A b = some u) : b ∈ A ∧ K.lookup b = none := by
  unfold argH at q
  by_cases hb : b ∈ A
  · rw [if_pos hb] at q
    cases hk : K.lookup b with
    | none => exact ⟨hb, rfl⟩
    | some o =>
      rw [hk, if_neg (by simp)] at q
      cases q
  · rw [if_neg hb] at q
    cases q
/-- what stands tracked -/
theorem argH_is (ar : ∀ a ∈ A, ArgOb h A a) {b : Addr} {u : HO} (q : argH K h A b = some u) : K.lookup b = none ∧ ∃ vs : List Value, vs.length ≤ sizeLine ∧ (∀ u ∈ vs, OkU A u) ∧
    ((h.get? b = some { cls := .type "list", data := .seq vs.toArray } ∧ u = .frz { cls := .type "list", data := .seq vs.toArray } (.lst (vs.map toV))) ∨
     (h.get? b = some { cls := .type "tuple", data := .seq vs.toArray } ∧ u = .frz { cls := .type "tuple", data := .seq vs.toArray } (.tup (vs.map toV)))) := by
  obtain ⟨hb, hk⟩ := of_argH q
  obtain ⟨vs, h1, h2, h3⟩ := ar b hb
  refine ⟨hk, vs, h1, h2, ?_⟩
  rcases h3 with e | e
  · rw [argH_at hb hk e, hoOf_lst] at q
    exact .inl ⟨e, (Option.some.inj q).symm⟩
  · rw [argH_at hb hk e, hoOf_tup] at q
    exact .inr ⟨e, (Option.some.inj q).symm⟩
theorem argH_only (ar : ∀ a ∈ A, ArgOb h A a) : OnlyF (argH K h A) := fun b => by
  cases q : argH K h A b with
  | none => exact .inl rfl
  | some u =>
    obtain ⟨_, vs, _, _, ⟨_, e⟩ | ⟨_, e⟩⟩ := argH_is ar q
    · exact .inr ⟨_, _, by rw [e]⟩
    · exact .inr ⟨_, _, by rw [e]⟩
theorem argH_ok (ar : ∀ a ∈ A, ArgOb h A a) : HOk P w (argH K h A) h := fun b u q => by
  obtain ⟨_, vs, h1, h2, ⟨e, rfl⟩ | ⟨e, rfl⟩⟩ := argH_is ar q
  · exact ⟨e, by rw [List.length_map]; exact h1, vs, _, vals_toV h2, e⟩
  · exact ⟨e, by rw [List.length_map]; exact h1, vs, vals_toV h2, _, e, rfl, _, rfl⟩
theorem seq_inj {c c' : Value} {vs us : List Value} (e : (some { cls := c, data := .seq vs.toArray } : Option Obj) = some { cls := c', data := .seq us.toArray }) : c = c' ∧ vs = us := by
  have e1 := Option.some.inj e
  have e2 : c = c' := congrArg Obj.cls e1
  have e3 : Data.seq vs.toArray = Data.seq us.toArray := congrArg Obj.data e1
  injection e3 with e4
  refine ⟨e2, ?_⟩
  have e5 := congrArg Array.toList e4
  simpa using e5
/-- a list argument -/
theorem argL (KX : K.In h) (ar : ∀ a ∈ A, ArgOb h A a) {a : Addr} {vs : List Value} (ha : a ∈ A) (e : h.get? a = some { cls := .type "list", data := .seq vs.toArray }) : (∀ u ∈ vs, OkU A u) ∧ SqL K (argH K h A) a (vs.map toV) := by
  obtain ⟨us, h1, h2, h3⟩ := ar a ha
  have hu : us = vs := by
    rcases h3 with q | q
    · rw [e] at q
      exact (seq_inj q).2.symm
    · rw [e] at q
      exact absurd (Value.type.inj (seq_inj q).1) (by decide)
  subst hu
  refine ⟨h2, ?_⟩
  cases hk : K.lookup a with
  | none => exact .inl (.inr ⟨_, by rw [argH_at ha hk e, hoOf_lst]⟩)
  | some o =>
    have e2 := KX a o hk
    rw [e] at e2
    obtain rfl := Option.some.inj e2
    exact .inr ⟨_, us.toArray, _, hk, rfl, rfl, rfl, by rw [List.size_toArray]; exact h1, by simpa using vals_toV h2⟩
theorem argT (KX : K.In h) (ar : ∀ a ∈ A, ArgOb h A a) {a : Addr} {vs : List Value} (ha : a ∈ A) (e : h.get? a = some { cls := .type "tuple", data := .seq vs.toArray }) : (∀ u ∈ vs, OkU A u) ∧ SqT K (argH K h A) a (vs.map toV) := by
  obtain ⟨us, h1, h2, h3⟩ := ar a ha
  have hu : us = vs := by
    rcases h3 with q | q
    · rw [e] at q
      exact absurd (Value.type.inj (seq_inj q).1) (by decide)
    · rw [e] at q
      exact (seq_inj q).2.symm
  subst hu
  refine ⟨h2, ?_⟩
  cases hk : K.lookup a with
  | none => exact .inl (.inr ⟨_, by rw [argH_at ha hk e, hoOf_tup]⟩)
  | some o =>
    have e2 := KX a o hk
    rw [e] at e2
    obtain rfl := Option.some.inj e2
    exact .inr ⟨_, us.toArray, _, hk, rfl, rfl, by rw [List.size_toArray]; exact h1, by simpa using vals_toV h2⟩
mutual
theorem dw_one {Pm : Params} (KX : K.In h) (ar : ∀ a ∈ A, ArgOb h A a) : ∀ (d : WData) (v : Value), Well Pm h v d → plW d = true → OkU A v → Dw K (argH K h A) (toV v) d
  | .none, _, x, _, _ => by
    cases x
    exact .non
  | .bool b, _, x, _, _ => by
    cases x
    exact .bl b
  | .int i, _, x, _, _ => by
    cases x
    exact .int i
  | .str s, _, x, _, _ => by
    cases x
    exact .str s
  | .bytes b, _, x, _, _ => by
    cases x
    have z := Dw.byt (K := K) (H := argH K h A) b.toArray
    exact z
  | .list ds, _, x, p, hu => by
    obtain ⟨a, vs, rfl, ho, hall⟩ := well_list x
    obtain ⟨h2, hs⟩ := argL KX ar hu ho
    exact .lst hs (dw_all KX ar ds _ hall p h2)
  | .tuple ds, _, x, p, hu => by
    obtain ⟨a, vs, rfl, ho, hall⟩ := well_tuple x
    obtain ⟨h2, hs⟩ := argT KX ar hu ho
    exact .tup hs (dw_all KX ar ds _ hall p h2)
  | .float _, _, _, p, _ => Bool.noConfusion (show false = true from p)
  | .dict _, _, _, p, _ => Bool.noConfusion (show false = true from p)
  | .bytearray _, _, _, p, _ => Bool.noConfusion (show false = true from p)
  | .set _, _, _, p, _ => Bool.noConfusion (show false = true from p)
  | .frozenset _, _, _, p, _ => Bool.noConfusion (show false = true from p)
  | .obj _ _, _, _, p, _ => Bool.noConfusion (show false = true from p)
theorem dw_all {Pm : Params} (KX : K.In h) (ar : ∀ a ∈ A, ArgOb h A a) : ∀ (ds : List WData) (vs : List Value), WellAll Pm h vs ds → plWs ds = true → (∀ u ∈ vs, OkU A u) → DwAll K (argH K h A) (vs.map toV) ds
  | [], _, x, _, _ => by
    cases x
    exact .nil
  | d :: ds, _, x, p, hu => by
    obtain ⟨v, vs, rfl, x1, x2⟩ := well_cons x
    have q : plW d = true ∧ plWs ds = true := Bool.and_eq_true_iff.mp p
    exact .cons (dw_one KX ar d v x1 q.1 (hu _ (List.mem_cons_self ..))) (dw_all KX ar ds vs x2 q.2 fun u m => hu u (List.mem_cons_of_mem _ m))
end
end
/-! ### the call -/
theorem spec_call {P : Program} {w : World} {K : PySem.W.Frag} {mg mb : Str → Option Value} {CX : CXT} {k : Nat} {fa : Addr} {fd : FuncData} {ps : List Str} {sp : Sp} {s₁ : Shared} {vals : List Value} {ds : List WData} {R : PySem.W.WRecords} {cl : Str → Option Addr} {d0 : WData}
    (KX : K.In s₁.heap) (hns : s₁.heap.Ns mainGlobals mg) (hb : s₁.heap.Ns builtinsNs mb) (hbb : ∀ x : Str, x ≠ "__name__" → mb x = bootBuiltins x) (hlim : s₁.heap.NoLimit) (hg : s₁.gens = #[])
    (hwl : WellAll w.params s₁.heap vals ds) (hpl : plWs ds = true) (hwt : ∀ d ∈ ds, d.weight ≤ 1048576) (hr : Room k callerA)
    (F : ∀ base : Heap, K.In base → base.Ns mainGlobals mg → FnOk P w K mg base CX k fa fd ps sp) (hbind : ∀ (s : Shared) (us : List Value), us.length = ps.length → BindsTo s fd ⟨us, []⟩ (ps.zip us)) (hlen : ds.length = ps.length)
    (hsp : ∀ (H : Hp) (xs : List V), OnlyF H → DwAll K H xs ds → sp xs H (fun v H' => Dw K H' v d0) fun _ _ _ => False)
    (hCX : ∀ H e s', CX [] H s₁ (fun _ _ _ => False) e s' → False) :
    codeAny (model P w) callerA (.call (.ref fa) ⟨vals, []⟩) (fun r s' => ∃ u as, r = .ok (.ret u) ∧ ReadsW R cl s'.heap u d0 as ∧ OldK s₁.heap s'.heap ∧ s'.os = s₁.os ∧ AllBare s'.gens) s₁ := by
  obtain ⟨A, ho, ar⟩ := area_all ds vals hwl hpl hwt
  have hO : OnlyF (argH K s₁.heap A) := argH_only ar
  have hok : HOk P w (argH K s₁.heap A) s₁.heap := argH_ok ar
  have hS := dw_all KX ar ds vals hwl hpl ho
  have hV := vals_toV ho
  have hK : ∀ b u, argH K s₁.heap A b = some u → K.lookup b = none := fun b u q => (argH_is ar q).1
  have noA : ∀ {b : Addr} {o : Obj} {es : Array DictEntry} {ep : Nat}, s₁.heap.get? b = some o → o.data = .dict es ep → argH K s₁.heap A b = none := fun {b o es ep} e d => by
    cases q : argH K s₁.heap A b with
    | none => rfl
    | some u =>
      obtain ⟨_, vs, _, _, ⟨e2, _⟩ | ⟨e2, _⟩⟩ := argH_is ar q
      · rw [e2] at e
        cases e
        have d' : Data.seq vs.toArray _ = Data.dict es ep := d
        cases d'
      · rw [e2] at e
        cases e
        have d' : Data.seq vs.toArray _ = Data.dict es ep := d
        cases d'
  generalize argH K s₁.heap A = H at hO hok hS hK noA
  have base_of : ∀ {b : Addr} {o : Obj}, s₁.heap.get? b = some o → H b = none → (hidT s₁.heap H).get? b = some o := fun e n => hidT_get e n
  have nsK : ∀ {b : Addr} {m : Str → Option Value}, s₁.heap.Ns b m → (hidT s₁.heap H).Ns b m := fun {b m} ⟨o, es, ep, e, d, r⟩ => ⟨o, es, ep, base_of e (noA e d), d, r⟩
  have nK : ∀ b o, K.lookup b = some o → H b = none := fun b o e => by
    cases q : H b with
    | none => rfl
    | some u =>
      rw [hK b u q] at e
      cases e
  have hKb : K.In (hidT s₁.heap H) := fun b o e => base_of (KX b o e) (nK b o e)
  have hM : Mod K mg (hidT s₁.heap H) := ⟨hKb, nsK hns, ⟨mb, nsK hb, hbb⟩, let ⟨mc, h1, h2⟩ := hlim; ⟨mc, nsK h1, h2⟩⟩
  have e0 : Env0 P w K mg (hidT s₁.heap H) callerA [] s₁ H := ⟨rfl, hM, fun b o e => of_hidT e, Nat.le_of_eq (hidT_size _ _), trivial, fun b hb => absurd (show b ∈ ([] : List Addr) from hb) (by simp), hok, .of_eq hg⟩
  have hl : vals.length = ps.length := by rw [wellAll_len hwl]; exact hlen
  refine codeAny_mono ((F _ hKb (nsK hns)).run callerA [] s₁ H ⟨vals, []⟩ vals (vals.map toV) _ _ hr e0 (hbind s₁ vals hl) hV (hsp H _ hO hS)) fun r s' x => ?_
  cases r with
  | error e => exact (hCX H e s' x).elim
  | ok fl =>
    cases fl with
    | next => exact False.elim x
    | brk => exact False.elim x
    | cont => exact False.elim x
    | ret u =>
      obtain ⟨v, H', os, bare, un, hok', r', q⟩ := x
      have kept : ∀ b o, s₁.heap.get? b = some o → s'.heap.get? b = some o := fun b o e => by
        cases q2 : H b with
        | none => exact un.keep b o e q2 (by intro z; exact absurd (show b ∈ ([] : List Addr) from z) (by simp)) (by simp)
        | some u2 =>
          rcases hO b with z | ⟨ob, u3, z⟩
          · rw [q2] at z
            cases z
          · have z2 := un.frzs b ob _ z
            obtain ⟨e1, _⟩ := hok b _ z
            obtain ⟨e2, _⟩ := hok' b _ z2
            rw [e] at e1
            cases e1
            exact e2
      have KX' : K.In s'.heap := fun b o e => kept b o (KX b o e)
      obtain ⟨as, hrd⟩ := Dw.reads (R := R) (cl := cl) hok' KX' d0 v u q r'
      exact ⟨u, as, rfl, hrd, OldK.of_keep kept, os, bare⟩
/-! ### the row -/
theorem layable_weight {ds : List WData} (h : WData.layableAll ds = true) : ∀ d ∈ ds, d.weight ≤ 1048576 := fun d hd =>
  (PySem.W.layableW_iff.mp (List.all_eq_true.mp h d hd)).2.2
theorem encAll_len : ∀ (cs : List Codec) (a : Codec.denoteAll cs), (Codec.encAll cs a).length = cs.length
  | [], _ => rfl
  | c :: cs, a => by
    show (Codec.encAll cs a.2).length + 1 = cs.length + 1
    rw [encAll_len cs a.2]
/-- the goal that k_headS leaves (case hc), from the promise of the row's def: whatever the arguments that the codecs let and the row asks for, the def gives what stands for enc (f ..) -/
theorem walk_spec {r : OpenSpec} {k : Nat} {q : Program} {loose : List Str} {XP : (Str → Option Value) → Heap → Prop} {YP : World → Heap → Prop} {d : DefRec} {K : Params → PySem.W.Frag} {CX : World → CXT} {ps : List Str} {sp : World → Sp}
    (hwell : r.wellSaid = true) (hdf : d.params.defaults = []) (hlen : r.args.length = ps.length) (hr : Room k callerA)
    (hY : ∀ (w : World) (h : Heap), YP w h → (K w.params).In h)
    (F : ∀ (w : World) (mg : Str → Option Value) (fa : Addr) (h : Heap), YP w h → (K w.params).In h → h.Ns mainGlobals mg → mg d.name = some (.ref fa) →
      ∃ fd : FuncData, (∀ (s : Shared) (us : List Value), us.length = ps.length → BindsTo s fd ⟨us, []⟩ (ps.zip us)) ∧
        ∀ base : Heap, (K w.params).In base → base.Ns mainGlobals mg → FnOk r.prog w (K w.params) mg base (CX w) k fa fd ps (sp w))
    (hsp : ∀ (w : World) (H : Hp) (xs : List V) (a : Codec.denoteAll r.args), OnlyF H → Codec.withinAll r.args a = true → Codec.app r.args r.asked a = true → DwAll (K w.params) H xs (Codec.encAll r.args a) →
      sp w xs H (fun v H' => Dw (K w.params) H' v (r.ret.enc (Codec.app r.args r.f a))) fun _ _ _ => False)
    (hCX : ∀ (w : World) (H : Hp) (s : Shared) (e : Value) (s' : Shared), CX w [] H s (fun _ _ _ => False) e s' → False) :
    PySem.W.WalkOS q loose XP YP r d [] (fun f vs => PySem.call f vs) := by
  intro w s_0 s₁ mg mb G Y fa o pm cd doc dV kV ho hd hcd hD hmg hg args vals as hpre hlay hrd hwl hlo
  obtain ⟨a, e1, e2⟩ := PySem.W.os_pre_some hpre
  obtain ⟨e3, hwi⟩ := Codec.encAll_of_decAll r.args args a e1
  subst e3
  have KX := hY w _ Y
  obtain ⟨fd, hb, hF⟩ := F w mg fa _ Y KX G.T.g hmg
  refine PySem.W.enter_call (codeAny_mono (spec_call (R := []) (cl := classAt s_0.heap) (d0 := r.ret.enc (Codec.app r.args r.f a)) KX G.T.g G.T.b G.T.builtins G.T.nolimit hg hwl (pl_encAll _ _) (layable_weight hlay) hr hF hb (by rw [encAll_len]; exact hlen)
    (fun H xs hO hS => hsp w H xs a hO hwi e2 hS) fun H e s' => hCX w H s₁ e s') fun r' s' hq => ?_)
  obtain ⟨u, as', rfl, h1, h2, h3, h4⟩ := hq
  exact ⟨.inl ⟨u, _, as', rfl, fun _ => rfl, h1, (OpenSpec.post_iff hwell hwi _ _).mpr rfl, fun z => Bool.noConfusion (show false = true from z)⟩, h2, h3, h4⟩
/-- the same where the promise hangs on the written part alone -/
theorem walk_specK {r : OpenSpec} {k : Nat} {q : Program} {loose : List Str} {XP : (Str → Option Value) → Heap → Prop} {YP : World → Heap → Prop} {d : DefRec} {K : Params → PySem.W.Frag} {CX : CXT} {ps : List Str} {sp : PySem.W.Frag → Sp}
    (hwell : r.wellSaid = true) (hdf : d.params.defaults = []) (hlen : r.args.length = ps.length) (hr : Room k callerA)
    (hY : ∀ (w : World) (h : Heap), YP w h → (K w.params).In h)
    (F : ∀ (w : World) (mg : Str → Option Value) (fa : Addr) (h : Heap), YP w h → (K w.params).In h → h.Ns mainGlobals mg → mg d.name = some (.ref fa) →
      ∃ fd : FuncData, (∀ (s : Shared) (us : List Value), us.length = ps.length → BindsTo s fd ⟨us, []⟩ (ps.zip us)) ∧
        ∀ base : Heap, (K w.params).In base → base.Ns mainGlobals mg → FnOk r.prog w (K w.params) mg base CX k fa fd ps (sp (K w.params)))
    (hsp : ∀ (K : PySem.W.Frag) (H : Hp) (xs : List V) (a : Codec.denoteAll r.args), OnlyF H → Codec.withinAll r.args a = true → Codec.app r.args r.asked a = true → DwAll K H xs (Codec.encAll r.args a) →
      sp K xs H (fun v H' => Dw K H' v (r.ret.enc (Codec.app r.args r.f a))) fun _ _ _ => False)
    (hCX : ∀ (H : Hp) (s : Shared) (e : Value) (s' : Shared), CX [] H s (fun _ _ _ => False) e s' → False) :
    PySem.W.WalkOS q loose XP YP r d [] (fun f vs => PySem.call f vs) :=
  walk_spec (K := K) (CX := fun _ => CX) (sp := fun w => sp (K w.params)) hwell hdf hlen hr hY F (fun w H xs a h1 h2 h3 h4 => hsp (K w.params) H xs a h1 h2 h3 h4) fun _ H s e s' => hCX H s e s'
end L2
-- rests on (row put in by the clerk, for the bench that shows a file only what it spells): KE.SpHead KE.OsShapes
end
section
set_option Elab.async false
set_option linter.all false
namespace My
open Sa14 (Bytes)
open Sx40Neutral (nums byts)

/-! ### bits -/
theorem xor_and_add : ∀ (a b : Nat), (a ^^^ b) + 2 * (a &&& b) = a + b := by
  intro a
  induction a using Nat.strongRecOn with
  | ind a ih =>
    intro b
    by_cases h : a = 0
    · subst h; simp
    · have h1 := ih (a / 2) (by omega) (b / 2)
      have e1 : (a ^^^ b) / 2 = a / 2 ^^^ b / 2 := Nat.xor_div_two
      have e2 : (a &&& b) / 2 = a / 2 &&& b / 2 := Nat.and_div_two
      have e3 : (a ^^^ b) % 2 = (a % 2 + b % 2) % 2 := by
        rcases Nat.mod_two_eq_zero_or_one a with ha | ha <;> rcases Nat.mod_two_eq_zero_or_one b with hb | hb <;>
          (have q := @Nat.xor_mod_two_pow a b 1; simp only [Nat.pow_one] at q; rw [q, ha, hb]; decide)
      have e4 : (a &&& b) % 2 = (a % 2) * (b % 2) := by
        rcases Nat.mod_two_eq_zero_or_one a with ha | ha <;> rcases Nat.mod_two_eq_zero_or_one b with hb | hb <;>
          (have q := @Nat.and_mod_two_pow a b 1; simp only [Nat.pow_one] at q; rw [q, ha, hb]; decide)
      have d1 := Nat.div_add_mod (a ^^^ b) 2
      have d2 := Nat.div_add_mod (a &&& b) 2
      rw [e1, e3] at d1
      rw [e2, e4] at d2
      rcases Nat.mod_two_eq_zero_or_one a with ha | ha <;> rcases Nat.mod_two_eq_zero_or_one b with hb | hb <;> rw [ha, hb] at d1 d2 <;> simp at d1 d2 <;> omega

/-! ### lists of bytes as lists of ints -/
theorem nums_length (b : Bytes) : (nums b).length = b.length := by unfold nums; simp
theorem nums_append (a b : Bytes) : nums (a ++ b) = nums a ++ nums b := by unfold nums; simp
theorem nums_take (b : Bytes) (n : Nat) : nums (b.take n) = (nums b).take n := by unfold nums; simp [List.map_take]
theorem nums_drop (b : Bytes) (n : Nat) : nums (b.drop n) = (nums b).drop n := by unfold nums; simp [List.map_drop]
theorem nums_nil : nums [] = [] := rfl
theorem nums_cons (x : UInt8) (b : Bytes) : nums (x :: b) = (x.toNat : Int) :: nums b := rfl
theorem nums_get (b : Bytes) (i : Nat) : (nums b)[i]? = (b[i]?).map fun x => (x.toNat : Int) := by unfold nums; simp
theorem nums_set (b : Bytes) (i : Nat) (x : UInt8) : nums (b.set i x) = (nums b).set i (x.toNat : Int) := by unfold nums; simp [List.map_set]
theorem nums_replicate (n : Nat) (x : UInt8) : nums (List.replicate n x) = List.replicate n (x.toNat : Int) := by unfold nums; simp
theorem nums_byts {l : List Int} (h : ∀ x ∈ l, 0 ≤ x ∧ x ≤ 255) : nums (byts l) = l := by
  unfold nums byts
  rw [List.map_map]
  conv => rhs; rw [← List.map_id l]
  apply List.map_congr_left
  intro x hx
  have := h x hx
  show ((UInt8.ofNat x.toNat).toNat : Int) = x
  rw [UInt8.toNat_ofNat']
  omega
theorem byts_length (l : List Int) : (byts l).length = l.length := by unfold byts; simp
theorem byts_append (a b : List Int) : byts (a ++ b) = byts a ++ byts b := by unfold byts; simp

/-! ### numbers in bytes -/
/-- the number that bytes mean, the lowest first -/
def val (l : Bytes) : Nat := l.foldr (fun c x => c.toNat + 256 * x) 0
theorem val_nil : val [] = 0 := rfl
theorem val_cons (c : UInt8) (l : Bytes) : val (c :: l) = c.toNat + 256 * val l := rfl
theorem at_val (b : Bytes) (off n : Nat) : Sa14.at_ b off n = val ((b.drop off).take n) := rfl
theorem val_lt : ∀ l : Bytes, val l < 256 ^ l.length
  | [] => by simp [val]
  | c :: l => by
    have h := val_lt l
    have hc := c.toNat_lt
    rw [val_cons, List.length_cons, Nat.pow_succ]
    omega
theorem bytes_succ (k n : Nat) : Sa14.bytes (k + 1) n = UInt8.ofNat (n % 256) :: Sa14.bytes k (n / 256) := by
  unfold Sa14.bytes
  rw [List.range_succ_eq_map, List.map_cons, List.map_map]
  congr 1
  · simp
  · apply List.map_congr_left
    intro i _
    show UInt8.ofNat (n / 256 ^ (i + 1) % 256) = UInt8.ofNat (n / 256 / 256 ^ i % 256)
    rw [Nat.div_div_eq_div_mul, Nat.pow_succ, Nat.mul_comm (256 ^ i) 256]
theorem bytes_zero (n : Nat) : Sa14.bytes 0 n = [] := rfl
theorem bytes_snoc (k n : Nat) : Sa14.bytes (k + 1) n = Sa14.bytes k n ++ [UInt8.ofNat (n / 256 ^ k % 256)] := by
  unfold Sa14.bytes
  rw [List.range_succ, List.map_append]
  rfl
theorem bytes_length (k n : Nat) : (Sa14.bytes k n).length = k := by unfold Sa14.bytes; simp
theorem bytes_val : ∀ l : Bytes, Sa14.bytes l.length (val l) = l
  | [] => rfl
  | c :: l => by
    have hc := c.toNat_lt
    rw [List.length_cons, bytes_succ, val_cons]
    have e1 : (c.toNat + 256 * val l) % 256 = c.toNat := by omega
    have e2 : (c.toNat + 256 * val l) / 256 = val l := by omega
    rw [e1, e2, bytes_val l, UInt8.ofNat_toNat]
theorem val_bytes : ∀ (k n : Nat), val (Sa14.bytes k n) = n % 256 ^ k
  | 0, n => by rw [bytes_zero, val_nil]; omega
  | k + 1, n => by
    rw [bytes_succ, val_cons, val_bytes k, UInt8.toNat_ofNat']
    have h1 : n % 256 % 2 ^ 8 = n % 256 := by omega
    have h2 : 256 ^ (k + 1) = 256 * 256 ^ k := by rw [Nat.pow_succ, Nat.mul_comm]
    rw [h1, h2, Nat.mod_mul]
theorem val_bytes_lt {k n : Nat} (h : n < 256 ^ k) : val (Sa14.bytes k n) = n := by rw [val_bytes, Nat.mod_eq_of_lt h]
theorem bytes_mod (k n : Nat) : Sa14.bytes k (n % 256 ^ k) = Sa14.bytes k n := by
  have e := bytes_val (Sa14.bytes k n)
  rw [bytes_length, val_bytes] at e
  exact e
theorem bytes_at {b : Bytes} {off n : Nat} (h : off + n ≤ b.length) : Sa14.bytes n (Sa14.at_ b off n) = (b.drop off).take n := by
  have e := bytes_val ((b.drop off).take n)
  have hl : ((b.drop off).take n).length = n := by rw [List.length_take, List.length_drop]; omega
  rw [hl] at e
  exact e
theorem at_lt {b : Bytes} {off n : Nat} : Sa14.at_ b off n < 256 ^ n := by
  have h := val_lt ((b.drop off).take n)
  have hl : ((b.drop off).take n).length ≤ n := by rw [List.length_take]; omega
  exact Nat.lt_of_lt_of_le h (Nat.pow_le_pow_right (by decide) hl)
theorem head_lt (b : Bytes) : Sa14.head b < Sa14.W := at_lt (b := b) (off := 0) (n := 8)
theorem tail_lt (b : Bytes) : Sa14.tail b < Sa14.W := at_lt (b := b) (off := 8) (n := 8)

/-- a number read from the highest byte on -/
theorem read_fold (l : List Int) : ∀ (a : Int), l.foldl (fun n x => n * 256 + x) a = l.foldl (fun n x => n * 256 + x) a := fun _ => rfl
def rd (l : List Int) : Int := l.foldr (fun c x => x * 256 + c) 0
theorem rd_nums : ∀ l : Bytes, rd (nums l) = (val l : Int)
  | [] => rfl
  | c :: l => by
    show rd (nums l) * 256 + (c.toNat : Int) = _
    rw [rd_nums l, val_cons]
    omega

/-! ### bytes put at a place -/
theorem put_length {b l : Bytes} {off : Nat} (h : off + l.length ≤ b.length) : (Sa14.put b off l).length = b.length := by
  unfold Sa14.put
  simp only [List.length_append, List.length_take, List.length_drop]
  omega
theorem put_nil (b : Bytes) (off : Nat) : Sa14.put b off [] = b := by
  unfold Sa14.put
  simp
theorem put_get {b l : Bytes} {off i : Nat} (h : off + l.length ≤ b.length) : (Sa14.put b off l)[i]? = if i < off then b[i]? else if i < off + l.length then l[i - off]? else b[i]? := by
  unfold Sa14.put
  have hb : (b.take off).length = off := by rw [List.length_take]; omega
  by_cases h1 : i < off
  · rw [if_pos h1, List.getElem?_append_left (by omega), List.getElem?_take, if_pos h1]
  · rw [if_neg h1, List.getElem?_append_right (by omega), hb]
    by_cases h2 : i < off + l.length
    · rw [if_pos h2, List.getElem?_append_left (by omega)]
    · rw [if_neg h2, List.getElem?_append_right (by omega), List.getElem?_drop]
      congr 1
      omega
theorem put_snoc {b d : Bytes} {off i : Nat} {x : UInt8} (h : off + d.length ≤ b.length) (hi : d[i]? = some x) : Sa14.put b off (d.take (i + 1)) = (Sa14.put b off (d.take i)).set (off + i) x := by
  have hid : i < d.length := (List.getElem?_eq_some_iff.mp hi).1
  have l1 : (d.take (i + 1)).length = i + 1 := by rw [List.length_take]; omega
  have l2 : (d.take i).length = i := by rw [List.length_take]; omega
  apply List.ext_getElem?
  intro j
  rw [put_get (by omega), List.getElem?_set, put_get (by omega), put_length (by omega), l1, l2]
  by_cases e : off + i = j
  · subst e
    rw [if_neg (show ¬ off + i < off by omega), if_pos (show off + i < off + (i + 1) by omega), if_pos rfl, if_pos (show off + i < b.length by omega), List.getElem?_take, if_pos (by omega)]
    rw [show off + i - off = i by omega, hi]
  · rw [if_neg e]
    by_cases h1 : j < off
    · rw [if_pos h1, if_pos h1]
    · rw [if_neg h1, if_neg h1]
      by_cases h2 : j < off + i
      · rw [if_pos (by omega), if_pos h2, List.getElem?_take, if_pos (by omega), List.getElem?_take, if_pos (by omega)]
      · rw [if_neg (by omega), if_neg h2]
end My
end
section
set_option Elab.async false
set_option linter.all false
namespace My
open Sa14 (Bytes)
open Sx40Neutral (nums byts)

/-! ### the sum -/
theorem shift_lt {c : Nat} (h : c < 2 ^ 32) : Sa14.shift c < 2 ^ 32 := by
  unfold Sa14.shift
  split
  · exact Nat.xor_lt_two_pow (by omega) (by decide)
  · omega
/-- k times shifted -/
def shifts : Nat → Nat → Nat
  | 0, c => c
  | k + 1, c => Sa14.shift (shifts k c)
theorem eight_shifts (c : Nat) : Sa14.eight c = shifts 8 c := by
  unfold Sa14.eight
  rw [show List.range 8 = [0, 1, 2, 3, 4, 5, 6, 7] from rfl]
  simp only [List.foldl_cons, List.foldl_nil, shifts]
theorem shifts_lt {c : Nat} (h : c < 2 ^ 32) : ∀ k, shifts k c < 2 ^ 32
  | 0 => h
  | k + 1 => shift_lt (shifts_lt h k)
theorem eight_lt {c : Nat} (h : c < 2 ^ 32) : Sa14.eight c < 2 ^ 32 := by rw [eight_shifts]; exact shifts_lt h 8
/-- the sum's running number -/
def run (l : Bytes) (c : Nat) : Nat := l.foldl (fun c x => Sa14.eight (c ^^^ x.toNat)) c
theorem run_nil (c : Nat) : run [] c = c := rfl
theorem run_snoc (l : Bytes) (x : UInt8) (c : Nat) : run (l ++ [x]) c = Sa14.eight (run l c ^^^ x.toNat) := by
  unfold run
  rw [List.foldl_append]
  rfl
theorem run_lt : ∀ (l : Bytes) {c : Nat}, c < 2 ^ 32 → run l c < 2 ^ 32
  | [], _, h => h
  | x :: l, c, h => by
    show run l (Sa14.eight (c ^^^ x.toNat)) < _
    refine run_lt l (eight_lt (Nat.xor_lt_two_pow h ?_))
    have := x.toNat_lt
    omega
theorem sum_run (l : Bytes) : Sa14.sum l = run l (2 ^ 32 - 1) ^^^ (2 ^ 32 - 1) := rfl
theorem sum_lt (l : Bytes) : Sa14.sum l < 2 ^ 32 := by
  rw [sum_run]
  exact Nat.xor_lt_two_pow (run_lt l (by decide)) (by decide)

/-! ### a slot -/
theorem made_length {m : Nat} {x : Sa14.Msg} (h : x.bytes.length ≤ 48) : (Sa14.made m x).length = 64 := by
  unfold Sa14.made
  simp only [List.length_append, bytes_length, List.length_replicate, Sa14.MOST]
  omega
/-- the slot's first 60 bytes -/
def front (m : Nat) (x : Sa14.Msg) : Bytes := Sa14.bytes 8 m ++ (Sa14.bytes 2 x.kind ++ (Sa14.bytes 2 x.bytes.length ++ (x.bytes ++ List.replicate (48 - x.bytes.length) 0)))
theorem made_front (m : Nat) (x : Sa14.Msg) : Sa14.made m x = front m x ++ Sa14.bytes 4 (Sa14.sum (front m x)) := rfl
theorem front_length {m : Nat} {x : Sa14.Msg} (h : x.bytes.length ≤ 48) : (front m x).length = 60 := by
  unfold front
  simp only [List.length_append, bytes_length, List.length_replicate]
  omega
/-- what the program asks of a slot -/
def Right (s : Bytes) (m : Nat) : Prop := Sa14.at_ s 0 8 = m ∧ Sa14.at_ s 10 2 ≤ 48 ∧ (∀ x ∈ (s.drop (12 + Sa14.at_ s 10 2)).take (48 - Sa14.at_ s 10 2), x = 0) ∧ Sa14.at_ s 60 4 = Sa14.sum (s.take 60)
/-- the message that a slot tells -/
def msg (s : Bytes) : Sa14.Msg := ⟨Sa14.at_ s 8 2, (s.drop 12).take (Sa14.at_ s 10 2)⟩
theorem all_zero : ∀ {l : Bytes}, (∀ x ∈ l, x = 0) → l = List.replicate l.length 0
  | [], _ => rfl
  | x :: l, h => by
    have e : x = 0 := h x (by simp)
    have e2 := all_zero (l := l) fun y hy => h y (by simp [hy])
    rw [List.length_cons, List.replicate_succ, ← e2, e]
theorem cut_glue {s : Bytes} {a b : Nat} : (s.drop a).take b ++ s.drop (a + b) = s.drop a := by
  rw [← List.drop_drop, List.take_append_drop]
theorem right_made {s : Bytes} {m : Nat} (hl : s.length = 64) (h : Right s m) : s = Sa14.made m (msg s) := by
  obtain ⟨h1, h2, h3, h4⟩ := h
  have hn : (msg s).bytes.length = Sa14.at_ s 10 2 := by
    show ((s.drop 12).take _).length = _
    rw [List.length_take, List.length_drop]; omega
  have f : front m (msg s) = s.take 60 := by
    have z := all_zero h3
    have zl : ((s.drop (12 + Sa14.at_ s 10 2)).take (48 - Sa14.at_ s 10 2)).length = 48 - Sa14.at_ s 10 2 := by rw [List.length_take, List.length_drop]; omega
    rw [zl] at z
    unfold front
    rw [hn, ← z, ← h1]
    show Sa14.bytes 8 (Sa14.at_ s 0 8) ++ (Sa14.bytes 2 (Sa14.at_ s 8 2) ++ (Sa14.bytes 2 (Sa14.at_ s 10 2) ++ ((s.drop 12).take (Sa14.at_ s 10 2) ++ _))) = _
    rw [bytes_at (by omega), bytes_at (by omega), bytes_at (by omega)]
    have g1 : (s.drop 12).take (Sa14.at_ s 10 2) ++ (s.drop (12 + Sa14.at_ s 10 2)).take (48 - Sa14.at_ s 10 2) = (s.drop 12).take 48 := by
      rw [← List.drop_drop, ← List.take_add]
      congr 1
      omega
    have g2 : (s.drop 10).take 2 ++ (s.drop 12).take 48 = (s.drop 10).take 50 := by
      rw [show 12 = 10 + 2 from rfl, ← List.drop_drop, ← List.take_add]
    have g3 : (s.drop 8).take 2 ++ (s.drop 10).take 50 = (s.drop 8).take 52 := by
      rw [show 10 = 8 + 2 from rfl, ← List.drop_drop, ← List.take_add]
    have g4 : (s.drop 0).take 8 ++ (s.drop 8).take 52 = s.take 60 := by
      rw [List.drop_zero, ← List.take_add]
    rw [g1, g2, g3, g4]
  rw [made_front, f, ← h4, bytes_at (by omega)]
  have e : (s.drop 60).take 4 = s.drop 60 := by
    apply List.take_of_length_le
    rw [List.length_drop]; omega
  rw [e, List.take_append_drop]
theorem made_right {m : Nat} {x : Sa14.Msg} (hm : m < Sa14.W) (hk : x.kind < 65536) (hx : x.bytes.length ≤ 48) : Right (Sa14.made m x) m ∧ msg (Sa14.made m x) = x := by
  have hf := front_length (m := m) hx
  have p1 : Sa14.at_ (Sa14.made m x) 0 8 = m := by
    rw [at_val]
    have e : ((Sa14.made m x).drop 0).take 8 = Sa14.bytes 8 m := by
      rw [List.drop_zero]
      unfold Sa14.made
      simp only [List.append_assoc]
      rw [List.take_append_of_le_length (by rw [bytes_length]; exact Nat.le_refl _), List.take_of_length_le (by rw [bytes_length]; exact Nat.le_refl _)]
    rw [e, val_bytes_lt hm]
  have d8 : (Sa14.made m x).drop 8 = Sa14.bytes 2 x.kind ++ (Sa14.bytes 2 x.bytes.length ++ (x.bytes ++ (List.replicate (48 - x.bytes.length) 0 ++ Sa14.bytes 4 (Sa14.sum (front m x))))) := by
    rw [made_front]
    conv => lhs; unfold front
    simp only [List.append_assoc]
    exact List.drop_left' (bytes_length _ _)
  have d10 : (Sa14.made m x).drop 10 = Sa14.bytes 2 x.bytes.length ++ (x.bytes ++ (List.replicate (48 - x.bytes.length) 0 ++ Sa14.bytes 4 (Sa14.sum (front m x)))) := by
    rw [show 10 = 8 + 2 from rfl, ← List.drop_drop, d8]
    exact List.drop_left' (bytes_length _ _)
  have d12 : (Sa14.made m x).drop 12 = x.bytes ++ (List.replicate (48 - x.bytes.length) 0 ++ Sa14.bytes 4 (Sa14.sum (front m x))) := by
    rw [show 12 = 10 + 2 from rfl, ← List.drop_drop, d10]
    exact List.drop_left' (bytes_length _ _)
  have p2 : Sa14.at_ (Sa14.made m x) 10 2 = x.bytes.length := by
    rw [at_val, d10, List.take_left' (bytes_length _ _), val_bytes_lt (Nat.lt_of_le_of_lt hx (by decide))]
  have p3 : Sa14.at_ (Sa14.made m x) 8 2 = x.kind := by
    rw [at_val, d8, List.take_left' (bytes_length _ _), val_bytes_lt (Nat.lt_of_lt_of_le hk (by decide))]
  refine ⟨⟨p1, by rw [p2]; exact hx, ?_, ?_⟩, ?_⟩
  · rw [p2, ← List.drop_drop, d12, List.drop_left' rfl, List.take_left' (by rw [List.length_replicate])]
    intro y hy
    exact (List.mem_replicate.mp hy).2
  · rw [at_val, made_front, List.drop_left' hf, List.take_left' hf, List.take_of_length_le (by rw [bytes_length]; exact Nat.le_refl _)]
    exact val_bytes_lt (sum_lt _)
  · unfold msg
    rw [p2, p3, d12, List.take_left' rfl]
theorem msg_ok (s : Bytes) : (msg s).kind < 65536 := at_lt (b := s) (off := 8) (n := 2)
theorem msg_len {s : Bytes} (hl : s.length = 64) (h : Sa14.at_ s 10 2 ≤ 48) : (msg s).bytes.length = Sa14.at_ s 10 2 := by
  show ((s.drop 12).take _).length = _
  rw [List.length_take, List.length_drop]
  omega
theorem place_lt (m : Nat) : Sa14.place m + 64 ≤ 16448 := by
  unfold Sa14.place Sa14.SLOTS
  omega
theorem slot_length {b : Bytes} (hb : b.length = 16448) (m : Nat) : (Sa14.slot b m).length = 64 := by
  unfold Sa14.slot
  have := place_lt m
  rw [List.length_take, List.length_drop]
  omega
open Classical in
/-- **the program's test is the specification's** -/
theorem sound_iff {b : Bytes} {m : Nat} (hb : b.length = 16448) (hm : m < Sa14.W) : Sa14.sound b m = if Right (Sa14.slot b m) m then some (msg (Sa14.slot b m)) else none := by
  have hl := slot_length hb m
  show (if Sa14.at_ (Sa14.slot b m) 10 2 ≤ Sa14.MOST ∧ Sa14.slot b m = Sa14.made m (msg (Sa14.slot b m)) then some (msg (Sa14.slot b m)) else none) = _
  by_cases h : Right (Sa14.slot b m) m
  · rw [if_pos h, if_pos ⟨h.2.1, right_made hl h⟩]
  · rw [if_neg h, if_neg]
    rintro ⟨h1, h2⟩
    have h1 : Sa14.at_ (Sa14.slot b m) 10 2 ≤ 48 := h1
    apply h
    have q := (made_right (m := m) (x := msg (Sa14.slot b m)) hm (msg_ok _) (by rw [msg_len hl h1]; exact h1)).1
    rw [← h2] at q
    exact q
theorem sound_yes {b : Bytes} {m : Nat} (hb : b.length = 16448) (hm : m < Sa14.W) (h : Right (Sa14.slot b m) m) : Sa14.sound b m = some (msg (Sa14.slot b m)) := by
  rw [sound_iff hb hm, if_pos h]
theorem sound_no {b : Bytes} {m : Nat} (hb : b.length = 16448) (hm : m < Sa14.W) (h : ¬ Right (Sa14.slot b m) m) : Sa14.sound b m = none := by
  rw [sound_iff hb hm, if_neg h]
/-- what is told of a right slot -/
theorem told_slot {s : Bytes} {m : Nat} (hl : s.length = 64) (h : Right s m) : Sa14.told (msg s) = (s.drop 8).take 2 ++ (s.drop 12).take 48 := by
  have hn := msg_len hl h.2.1
  unfold Sa14.told
  rw [hn]
  show Sa14.bytes 2 (Sa14.at_ s 8 2) ++ ((s.drop 12).take (Sa14.at_ s 10 2) ++ List.replicate (48 - Sa14.at_ s 10 2) 0) = _
  rw [bytes_at (by omega)]
  congr 1
  have z := all_zero h.2.2.1
  have zl : ((s.drop (12 + Sa14.at_ s 10 2)).take (48 - Sa14.at_ s 10 2)).length = 48 - Sa14.at_ s 10 2 := by rw [List.length_take, List.length_drop]; have := h.2.1; omega
  rw [zl] at z
  rw [← z, ← List.drop_drop, ← List.take_add]
  congr 1
  have := h.2.1
  omega
end My
end
section
set_option Elab.async false
set_option linter.all false
namespace My
open Sa14 (Bytes)
open Sx40Neutral (nums byts)

/-! ### the calls as one list -/
/-- how a call stands in the list: what is read (c), what is left (t) -/
inductive Reads : List Int → List (List Int) → List Int → Prop
  | c0 (t) : Reads (0 :: t) [[0]] t
  | c1 (k : Int) (n : Nat) (d t) : d.length = n → Reads (1 :: k :: (n : Int) :: (d ++ t)) [[1, k], d] t
  | c2 (t) : Reads (2 :: t) [[2]] t
  | c3 (z t) : Reads (3 :: z :: t) [[3, z]] t
  | c4 (z t) : Reads (4 :: z :: t) [[4, z]] t
  | c5 (t) : Reads (5 :: t) [[5]] t
  | c6 (t) : Reads (6 :: t) [[6]] t
  | c7 (n : Nat) (d t) : d.length = n → Reads (7 :: (n : Int) :: (d ++ t)) [[7], d] t
  | c8 (z : Int) (n : Nat) (d t) : d.length = n → Reads (8 :: z :: (n : Int) :: (d ++ t)) [[8, z], d] t
  | c9 (x y t) : Reads (9 :: x :: y :: t) [[9, x, y]] t
theorem row_inv {l x t : List Int} (h : PyFlat.row l = some (x, t)) : ∃ n : Nat, l = (n : Int) :: (x ++ t) ∧ x.length = n := by
  cases l with
  | nil => simp [PyFlat.row] at h
  | cons n r =>
    unfold PyFlat.row at h
    dsimp only at h
    by_cases hn : 0 ≤ n ∧ n.toNat ≤ r.length
    · rw [if_pos hn] at h
      have e := Option.some.inj h
      have e1 : r.take n.toNat = x := congrArg Prod.fst e
      have e2 : r.drop n.toNat = t := congrArg Prod.snd e
      refine ⟨n.toNat, ?_, ?_⟩
      · rw [← e1, ← e2, List.take_append_drop]
        congr 1
        omega
      · rw [← e1, List.length_take]
        omega
    · rw [if_neg hn] at h
      cases h
theorem rows1_inv {l : List Int} {xs : List (List Int)} {t : List Int} (h : PyFlat.rows 1 l = some (xs, t)) : ∃ (n : Nat) (x : List Int), xs = [x] ∧ l = (n : Int) :: (x ++ t) ∧ x.length = n := by
  unfold PyFlat.rows at h
  cases e : PyFlat.row l with
  | none => rw [e] at h; cases h
  | some q =>
    obtain ⟨x, s⟩ := q
    rw [e] at h
    simp only [PyFlat.rows] at h
    have e1 := Option.some.inj h
    have e2 : [x] = xs := congrArg Prod.fst e1
    have e3 : s = t := congrArg Prod.snd e1
    subst e3
    obtain ⟨n, h1, h2⟩ := row_inv e
    exact ⟨n, x, e2.symm, h1, h2⟩
theorem rows0_inv {l : List Int} {xs : List (List Int)} {t : List Int} (h : PyFlat.rows 0 l = some (xs, t)) : xs = [] ∧ l = t := by
  unfold PyFlat.rows at h
  have e1 := Option.some.inj h
  exact ⟨(congrArg Prod.fst e1).symm, congrArg Prod.snd e1⟩
theorem call_shape {p : Int} {r : List Int} {n k : Nat} {c : List (List Int)} {t : List Int} (hs : PySx40.shape p = some (n, k)) (h : PyFlat.call PySx40.shape (p :: r) = some (c, t)) :
    n ≤ r.length ∧ ∃ xs, PyFlat.rows k (r.drop n) = some (xs, t) ∧ c = (p :: r.take n) :: xs := by
  unfold PyFlat.call at h
  dsimp only at h
  rw [hs] at h
  dsimp only at h
  by_cases hl : r.length < n
  · rw [if_pos hl] at h; cases h
  · rw [if_neg hl] at h
    cases e : PyFlat.rows k (r.drop n) with
    | none => rw [e] at h; cases h
    | some q =>
      obtain ⟨xs, t'⟩ := q
      rw [e] at h
      have e1 := Option.some.inj h
      have e2 : (p :: r.take n) :: xs = c := congrArg Prod.fst e1
      have e3 : t' = t := congrArg Prod.snd e1
      subst e3
      exact ⟨by omega, xs, rfl, e2.symm⟩
theorem reads_of {l : List Int} {c : List (List Int)} {t : List Int} (h : PyFlat.call PySx40.shape l = some (c, t)) : Reads l c t := by
  cases l with
  | nil => simp [PyFlat.call] at h
  | cons p r =>
    by_cases h0 : p = 0
    · subst h0
      obtain ⟨_, xs, e, rfl⟩ := call_shape (n := 0) (k := 0) (by rfl) h
      obtain ⟨rfl, e2⟩ := rows0_inv e
      rw [List.drop_zero] at e2
      subst e2
      exact .c0 _
    by_cases h1 : p = 1
    · subst h1
      obtain ⟨hl, xs, e, rfl⟩ := call_shape (n := 1) (k := 1) (by rfl) h
      obtain ⟨n, x, rfl, e2, e3⟩ := rows1_inv e
      match r, hl, e2 with
      | z :: r', _, e2 =>
        have e2 : r' = (n : Int) :: (x ++ t) := e2
        subst e2
        exact .c1 z n x t e3
    by_cases h2 : p = 2
    · subst h2
      obtain ⟨_, xs, e, rfl⟩ := call_shape (n := 0) (k := 0) (by rfl) h
      obtain ⟨rfl, e2⟩ := rows0_inv e
      rw [List.drop_zero] at e2
      subst e2
      exact .c2 _
    by_cases h3 : p = 3
    · subst h3
      obtain ⟨hl, xs, e, rfl⟩ := call_shape (n := 1) (k := 0) (by rfl) h
      obtain ⟨rfl, e2⟩ := rows0_inv e
      match r, hl, e2 with
      | z :: r', _, e2 =>
        have e2 : r' = t := e2
        subst e2
        exact .c3 z r'
    by_cases h4 : p = 4
    · subst h4
      obtain ⟨hl, xs, e, rfl⟩ := call_shape (n := 1) (k := 0) (by rfl) h
      obtain ⟨rfl, e2⟩ := rows0_inv e
      match r, hl, e2 with
      | z :: r', _, e2 =>
        have e2 : r' = t := e2
        subst e2
        exact .c4 z r'
    by_cases h5 : p = 5
    · subst h5
      obtain ⟨_, xs, e, rfl⟩ := call_shape (n := 0) (k := 0) (by rfl) h
      obtain ⟨rfl, e2⟩ := rows0_inv e
      rw [List.drop_zero] at e2
      subst e2
      exact .c5 _
    by_cases h6 : p = 6
    · subst h6
      obtain ⟨_, xs, e, rfl⟩ := call_shape (n := 0) (k := 0) (by rfl) h
      obtain ⟨rfl, e2⟩ := rows0_inv e
      rw [List.drop_zero] at e2
      subst e2
      exact .c6 _
    by_cases h7 : p = 7
    · subst h7
      obtain ⟨hl, xs, e, rfl⟩ := call_shape (n := 0) (k := 1) (by rfl) h
      obtain ⟨n, x, rfl, e2, e3⟩ := rows1_inv e
      rw [List.drop_zero] at e2
      subst e2
      exact .c7 n x t e3
    by_cases h8 : p = 8
    · subst h8
      obtain ⟨hl, xs, e, rfl⟩ := call_shape (n := 1) (k := 1) (by rfl) h
      obtain ⟨n, x, rfl, e2, e3⟩ := rows1_inv e
      match r, hl, e2 with
      | z :: r', _, e2 =>
        have e2 : r' = (n : Int) :: (x ++ t) := e2
        subst e2
        exact .c8 z n x t e3
    by_cases h9 : p = 9
    · subst h9
      obtain ⟨hl, xs, e, rfl⟩ := call_shape (n := 2) (k := 0) (by rfl) h
      obtain ⟨rfl, e2⟩ := rows0_inv e
      match r, hl, e2 with
      | x :: y :: r', _, e2 =>
        have e2 : r' = t := e2
        subst e2
        exact .c9 x y r'
    · exfalso
      have hs : PySx40.shape p = none := by
        unfold PySx40.shape
        rw [if_neg h0, if_neg h1, if_neg h2, if_neg h3, if_neg h4, if_neg h5, if_neg h6, if_neg h7, if_neg h8, if_neg h9]
      unfold PyFlat.call at h
      dsimp only at h
      rw [hs] at h
      cases h
theorem reads_suffix {l : List Int} {c : List (List Int)} {t : List Int} (h : Reads l c t) : t.length < l.length ∧ t = l.drop (l.length - t.length) := by
  have key : ∀ (p t : List Int), 0 < p.length → t.length < (p ++ t).length ∧ t = (p ++ t).drop ((p ++ t).length - t.length) := by
    intro p t hp
    rw [List.length_append]
    refine ⟨by omega, ?_⟩
    rw [Nat.add_sub_cancel, List.drop_left' rfl]
  cases h with
  | c0 => exact key [0] t (by simp)
  | c1 k n d _ _ => have := key (1 :: k :: (n : Int) :: d) t (by simp); simpa using this
  | c2 => exact key [2] t (by simp)
  | c3 z => exact key [3, z] t (by simp)
  | c4 z => exact key [4, z] t (by simp)
  | c5 => exact key [5] t (by simp)
  | c6 => exact key [6] t (by simp)
  | c7 n d _ _ => have := key (7 :: (n : Int) :: d) t (by simp); simpa using this
  | c8 z n d _ _ => have := key (8 :: z :: (n : Int) :: d) t (by simp); simpa using this
  | c9 x y => exact key [9, x, y] t (by simp)
theorem calls_nil {f : Nat} {cs : List (List (List Int))} (h : PyFlat.calls PySx40.shape f [] = some cs) : cs = [] := by
  cases f <;> (simp [PyFlat.calls] at h; exact h)
theorem calls_cons {f : Nat} {p : Int} {r : List Int} {cs : List (List (List Int))} (h : PyFlat.calls PySx40.shape f (p :: r) = some cs) :
    ∃ (f' : Nat) (c : List (List Int)) (t : List Int) (cs' : List (List (List Int))), Reads (p :: r) c t ∧ PyFlat.calls PySx40.shape f' t = some cs' ∧ cs = c :: cs' := by
  cases f with
  | zero => simp [PyFlat.calls] at h
  | succ f =>
    unfold PyFlat.calls at h
    cases e : PyFlat.call PySx40.shape (p :: r) with
    | none => rw [e] at h; cases h
    | some q =>
      obtain ⟨c, t⟩ := q
      rw [e] at h
      dsimp only at h
      cases e2 : PyFlat.calls PySx40.shape f t with
      | none => rw [e2] at h; cases h
      | some cs' =>
        rw [e2] at h
        exact ⟨f, c, t, cs', reads_of e, e2, (Option.some.inj h).symm⟩

/-! ### what is asked -/
theorem bytes_in {r : List Int} (h : NeutralIO.bytes r = true) : ∀ x ∈ r, 0 ≤ x ∧ x ≤ 255 := by
  intro x hx
  unfold NeutralIO.bytes at h
  have := List.all_eq_true.mp h x hx
  simp at this
  exact this
theorem asked_put {k : Int} {d : List Int} (h : Sx40Neutral.asked1 (PySx40.whole [[1, k], d]) = true) : 0 ≤ k ∧ k ≤ 65535 ∧ d.length ≤ 48 ∧ ∀ x ∈ d, 0 ≤ x ∧ x ≤ 255 := by
  have h : (NeutralIO.within k 0 65535 && (Sx40Neutral.whole32 (d.length : Int) && Sx40Neutral.long (d.length : Int) 48 d)) = true := h
  unfold NeutralIO.within Sx40Neutral.whole32 Sx40Neutral.long at h
  simp only [Bool.and_eq_true, decide_eq_true_eq] at h
  obtain ⟨⟨h1, h2⟩, h3, h4, h5⟩ := h
  refine ⟨h1, h2, ?_, bytes_in h4⟩
  split at h5 <;> omega
theorem asked_sum {d : List Int} (h : Sx40Neutral.asked1 (PySx40.whole [[7], d]) = true) : d.length ≤ 5000 ∧ ∀ x ∈ d, 0 ≤ x ∧ x ≤ 255 := by
  have h : (Sx40Neutral.whole32 (d.length : Int) && ((decide ((d.length : Int) ≤ 5000) || decide (65536 < (d.length : Int))) && Sx40Neutral.long (d.length : Int) 65536 d)) = true := h
  unfold Sx40Neutral.whole32 Sx40Neutral.long at h
  simp only [Bool.and_eq_true, Bool.or_eq_true, decide_eq_true_eq] at h
  obtain ⟨h1, h3, h4, h5⟩ := h
  refine ⟨?_, bytes_in h4⟩
  split at h5 <;> omega
theorem asked_write {z : Int} {d : List Int} (h : Sx40Neutral.asked1 (PySx40.whole [[8, z], d]) = true) : 0 ≤ z ∧ z ≤ 16447 ∧ z.toNat + d.length ≤ 16448 ∧ ∀ x ∈ d, 0 ≤ x ∧ x ≤ 255 := by
  have h : (NeutralIO.within z 0 16447 && (NeutralIO.bytes d && decide (z + (d.length : Int) ≤ 16448))) = true := h
  unfold NeutralIO.within at h
  simp only [Bool.and_eq_true, decide_eq_true_eq] at h
  obtain ⟨⟨h1, h2⟩, h3, h4⟩ := h
  exact ⟨h1, h2, by omega, bytes_in h3⟩
theorem asked_oth {x y : Int} (h : Sx40Neutral.asked1 (PySx40.whole [[9, x, y]]) = true) : 0 ≤ x ∧ x ≤ 16448 ∧ 0 ≤ y ∧ x + y ≤ 16448 := by
  have h : (NeutralIO.within x 0 16448 && NeutralIO.within y 0 (16448 - x)) = true := h
  unfold NeutralIO.within at h
  simp only [Bool.and_eq_true, decide_eq_true_eq] at h
  obtain ⟨⟨h1, h2⟩, h3, h4⟩ := h
  exact ⟨h1, h2, h3, by omega⟩

/-! ### how long an answer is -/
theorem told_len {b : Bytes} {m : Nat} {x : Sa14.Msg} (h : Sa14.sound b m = some x) : (Sa14.told x).length = 50 := by
  have hx : x.bytes.length ≤ 48 := by
    unfold Sa14.sound at h
    dsimp only at h
    split at h
    · rename_i h1
      have e := Option.some.inj h
      rw [← e]
      show (List.take _ _).length ≤ 48
      have h2 : Sa14.at_ (Sa14.slot b m) 10 2 ≤ 48 := h1.1
      rw [List.length_take]
      omega
    · cases h
  unfold Sa14.told
  simp only [List.length_append, bytes_length, List.length_replicate, Sa14.MOST]
  omega
theorem act_len (b : Bytes) (o : Sa14.Op) : (Sx40.act b o).out.length ≤ 50 := by
  have h0 : ∀ v c, (Sa14.no v c).out.length ≤ 50 := fun v c => by show ([] : Bytes).length ≤ 50; simp
  cases o with
  | begin_ => exact h0 _ _
  | sum l n =>
    unfold Sx40.act
    dsimp only
    split
    · show (Sa14.bytes 4 _).length ≤ 50
      rw [bytes_length]; omega
    · exact h0 _ _
  | put k l n =>
    unfold Sx40.act
    dsimp only
    split
    · exact h0 _ _
    · split
      · exact h0 _ _
      · split <;> exact h0 _ _
  | take =>
    unfold Sx40.act
    dsimp only
    split
    · exact h0 _ _
    · split
      · exact h0 _ _
      · split
        · rename_i x hx
          exact Nat.le_of_eq (told_len hx)
        · exact h0 _ _
  | wait n =>
    unfold Sx40.act
    dsimp only
    split
    · exact h0 _ _
    · split <;> exact h0 _ _
  | look k =>
    unfold Sx40.act
    dsimp only
    split
    · exact h0 _ _
    · split
      · exact h0 _ _
      · split
        · exact h0 _ _
        · split
          · rename_i x hx
            exact Nat.le_of_eq (told_len hx)
          · exact h0 _ _
  | sound =>
    unfold Sx40.act
    dsimp only
    split
    · exact h0 _ _
    · show (Sa14.bits _).length ≤ 50
      unfold Sa14.bits
      simp
  | mend =>
    unfold Sx40.act
    dsimp only
    split
    · exact h0 _ _
    · show ([] : Bytes).length ≤ 50
      simp
theorem step_len {b : Bytes} {l : List Int} {c : List (List Int)} {t : List Int} (hb : b.length = 16448) (h : Reads l c t) : (Sx40Neutral.step b (PySx40.whole c)).2.length ≤ 16448 := by
  have key : ∀ o, ((Sx40.act b o).value :: nums (Sx40.act b o).out).length ≤ 16448 := fun o => by
    have := act_len b o
    rw [List.length_cons, nums_length]
    omega
  cases h with
  | c0 => exact key _
  | c1 k n d _ _ => exact key _
  | c2 => exact key _
  | c3 z => exact key _
  | c4 z => exact key _
  | c5 => exact key _
  | c6 => exact key _
  | c7 n d _ _ => exact key _
  | c8 z n d _ _ => exact Nat.zero_le _
  | c9 x y =>
    show (nums ((b.drop x.toNat).take y.toNat)).length ≤ 16448
    rw [nums_length, List.length_take, List.length_drop]
    omega
end My
end
section
set_option Elab.async false
set_option linter.all false
namespace My
open Sa14 (Bytes)
open Sx40Neutral (nums byts)
/-- a call of the ring's own, as the specification steps -/
def acted (b : Bytes) (o : Sa14.Op) : Bytes × List Int := ((Sx40.act b o).ring, (Sx40.act b o).value :: nums (Sx40.act b o).out)
theorem step_0 (b : Bytes) : Sx40Neutral.step b (PySx40.whole [[0]]) = acted b .begin_ := rfl
theorem step_1 (b : Bytes) (k : Int) (d : List Int) : Sx40Neutral.step b (PySx40.whole [[1, k], d]) = acted b (.put k.toNat (byts d) (d.length : Int)) := rfl
theorem step_2 (b : Bytes) : Sx40Neutral.step b (PySx40.whole [[2]]) = acted b .take := rfl
theorem step_3 (b : Bytes) (z : Int) : Sx40Neutral.step b (PySx40.whole [[3, z]]) = acted b (.wait z) := rfl
theorem step_4 (b : Bytes) (z : Int) : Sx40Neutral.step b (PySx40.whole [[4, z]]) = acted b (.look z) := rfl
theorem step_5 (b : Bytes) : Sx40Neutral.step b (PySx40.whole [[5]]) = acted b .sound := rfl
theorem step_6 (b : Bytes) : Sx40Neutral.step b (PySx40.whole [[6]]) = acted b .mend := rfl
theorem step_7 (b : Bytes) (d : List Int) : Sx40Neutral.step b (PySx40.whole [[7], d]) = acted b (.sum (byts d) (d.length : Int)) := rfl
theorem step_8 (b : Bytes) (z : Int) (d : List Int) : Sx40Neutral.step b (PySx40.whole [[8, z], d]) = (Sa14.put b z.toNat (byts d), []) := rfl
theorem step_9 (b : Bytes) (x y : Int) : Sx40Neutral.step b (PySx40.whole [[9, x, y]]) = (b, nums ((b.drop x.toNat).take y.toNat)) := rfl
end My
end
section
set_option Elab.async false
set_option linter.all false
namespace My
open Sa14 (Bytes)
open Sx40Neutral (nums byts)

/-! ### a bit for each message -/
/-- the i-th of the 32 bytes -/
def byteOf (l : List Bool) (i : Nat) : Nat := (List.range 8).foldl (fun n j => n + if l.getD (8 * i + j) false = true then 2 ^ j else 0) 0
theorem bits_eq (l : List Bool) : Sa14.bits l = (List.range 32).map fun i => UInt8.ofNat (byteOf l i) := rfl
def bitOf (l : List Bool) (i j : Nat) : Nat := if l.getD (8 * i + j) false = true then 2 ^ j else 0
theorem byteOf_eq (l : List Bool) (i : Nat) : byteOf l i = bitOf l i 0 + bitOf l i 1 + bitOf l i 2 + bitOf l i 3 + bitOf l i 4 + bitOf l i 5 + bitOf l i 6 + bitOf l i 7 := by
  unfold byteOf
  rw [show List.range 8 = [0, 1, 2, 3, 4, 5, 6, 7] from rfl]
  simp only [List.foldl_cons, List.foldl_nil, Nat.zero_add]
  rfl
/-- the number whose bits these are, the first one's the lowest -/
def mk : List Bool → Nat
  | [] => 0
  | c :: l => (if c = true then 1 else 0) + 2 * mk l
theorem mk_step : ∀ (l : List Bool) (j : Nat), mk (l.drop j) = (if l.getD j false = true then 1 else 0) + 2 * mk (l.drop (j + 1))
  | [], j => by simp [mk]
  | c :: l, 0 => by simp [mk]
  | c :: l, j + 1 => by
    have h := mk_step l j
    simpa using h
theorem mk_div (l : List Bool) : ∀ j, mk l / 2 ^ j = mk (l.drop j)
  | 0 => by simp
  | j + 1 => by
    have h := mk_step l j
    rw [Nat.pow_succ, ← Nat.div_div_eq_div_mul, mk_div l j, h]
    split <;> omega
theorem mk_snoc : ∀ (l : List Bool) (c : Bool), mk (l ++ [c]) = mk l + (if c = true then 2 ^ l.length else 0)
  | [], c => by cases c <;> rfl
  | d :: l, c => by
    show (if d = true then 1 else 0) + 2 * mk (l ++ [c]) = (if d = true then 1 else 0) + 2 * mk l + (if c = true then 2 ^ (l.length + 1) else 0)
    rw [mk_snoc l c, Nat.pow_succ]
    cases c <;> simp <;> omega
theorem bit_if (l : List Bool) (i j : Nat) : bitOf l i j = 2 ^ j * (if l.getD (8 * i + j) false = true then 1 else 0) := by
  unfold bitOf
  split <;> simp
theorem byteOf_mk (l : List Bool) (i : Nat) : byteOf l i = mk l / 256 ^ i % 256 := by
  rw [show (256 : Nat) ^ i = 2 ^ (8 * i) by rw [Nat.pow_mul], mk_div, byteOf_eq]
  have h0 := mk_step l (8 * i)
  have h1 : mk (l.drop (8 * i + 1)) = _ + 2 * mk (l.drop (8 * i + 2)) := mk_step l (8 * i + 1)
  have h2 : mk (l.drop (8 * i + 2)) = _ + 2 * mk (l.drop (8 * i + 3)) := mk_step l (8 * i + 2)
  have h3 : mk (l.drop (8 * i + 3)) = _ + 2 * mk (l.drop (8 * i + 4)) := mk_step l (8 * i + 3)
  have h4 : mk (l.drop (8 * i + 4)) = _ + 2 * mk (l.drop (8 * i + 5)) := mk_step l (8 * i + 4)
  have h5 : mk (l.drop (8 * i + 5)) = _ + 2 * mk (l.drop (8 * i + 6)) := mk_step l (8 * i + 5)
  have h6 : mk (l.drop (8 * i + 6)) = _ + 2 * mk (l.drop (8 * i + 7)) := mk_step l (8 * i + 6)
  have h7 : mk (l.drop (8 * i + 7)) = _ + 2 * mk (l.drop (8 * i + 8)) := mk_step l (8 * i + 7)
  rw [bit_if, bit_if, bit_if, bit_if, bit_if, bit_if, bit_if, bit_if]
  have le : ∀ j, (if l.getD j false = true then 1 else 0) ≤ 1 := fun j => by split <;> omega
  have e0 := le (8 * i)
  have e1 := le (8 * i + 1)
  have e2 := le (8 * i + 2)
  have e3 := le (8 * i + 3)
  have e4 := le (8 * i + 4)
  have e5 := le (8 * i + 5)
  have e6 := le (8 * i + 6)
  have e7 := le (8 * i + 7)
  simp only [Nat.add_zero]
  generalize (if l.getD (8 * i) false = true then 1 else 0) = b0 at *
  generalize (if l.getD (8 * i + 1) false = true then 1 else 0) = b1 at *
  generalize (if l.getD (8 * i + 2) false = true then 1 else 0) = b2 at *
  generalize (if l.getD (8 * i + 3) false = true then 1 else 0) = b3 at *
  generalize (if l.getD (8 * i + 4) false = true then 1 else 0) = b4 at *
  generalize (if l.getD (8 * i + 5) false = true then 1 else 0) = b5 at *
  generalize (if l.getD (8 * i + 6) false = true then 1 else 0) = b6 at *
  generalize (if l.getD (8 * i + 7) false = true then 1 else 0) = b7 at *
  omega
/-- **the 32 bytes of the bits are the number's bytes** -/
theorem bits_mk (l : List Bool) : Sa14.bits l = Sa14.bytes 32 (mk l) := by
  rw [bits_eq]
  unfold Sa14.bytes
  apply List.map_congr_left
  intro i _
  rw [byteOf_mk]
/-! ### those that wait, one after another -/
/-- the first i that wait: which are sound; the sound ones -/
def flags (b : Bytes) (i : Nat) : List Bool := (List.range i).map fun k => (Sa14.sound b ((Sa14.head b + k) % Sa14.W)).isSome
def keptTo (b : Bytes) (i : Nat) : List Sa14.Msg := (List.range i).filterMap fun k => Sa14.sound b ((Sa14.head b + k) % Sa14.W)
theorem flags_len (b : Bytes) (i : Nat) : (flags b i).length = i := by unfold flags; simp
theorem flags_snoc (b : Bytes) (i : Nat) : flags b (i + 1) = flags b i ++ [(Sa14.sound b ((Sa14.head b + i) % Sa14.W)).isSome] := by
  unfold flags
  rw [List.range_succ, List.map_append]
  rfl
theorem kept_none {b : Bytes} {i : Nat} (h : Sa14.sound b ((Sa14.head b + i) % Sa14.W) = none) : keptTo b (i + 1) = keptTo b i := by
  unfold keptTo
  rw [List.range_succ, List.filterMap_append]
  simp [h]
theorem kept_some {b : Bytes} {i : Nat} {x : Sa14.Msg} (h : Sa14.sound b ((Sa14.head b + i) % Sa14.W) = some x) : keptTo b (i + 1) = keptTo b i ++ [x] := by
  unfold keptTo
  rw [List.range_succ, List.filterMap_append]
  simp [h]
theorem kept_len (b : Bytes) : ∀ i, (keptTo b i).length ≤ i
  | 0 => Nat.le_refl _
  | i + 1 => by
    have ih := kept_len b i
    cases e : Sa14.sound b ((Sa14.head b + i) % Sa14.W) with
    | none => rw [kept_none e]; omega
    | some x => rw [kept_some e, List.length_append, List.length_singleton]; omega
theorem flags_eq (b : Bytes) : (Sa14.numbers b).map (fun m => (Sa14.sound b m).isSome) = flags b (Sa14.waiting b) := by
  unfold Sa14.numbers flags
  rw [List.map_map]
  rfl
theorem kept_eq (b : Bytes) : Sa14.kept b = keptTo b (Sa14.waiting b) := by
  unfold Sa14.kept Sa14.numbers keptTo
  rw [List.filterMap_map]
  rfl
/-! ### mended -/
/-- the first i of the kept ones written -/
def laid (b : Bytes) (h : Nat) (l : List Sa14.Msg) : Bytes := l.zipIdx.foldl (fun (c : Bytes) (x : Sa14.Msg × Nat) => Sa14.setSlot c ((h + x.2) % Sa14.W) (Sa14.made ((h + x.2) % Sa14.W) x.1)) b
theorem laid_nil (b : Bytes) (h : Nat) : laid b h [] = b := rfl
theorem laid_snoc (b : Bytes) (h : Nat) (l : List Sa14.Msg) (x : Sa14.Msg) : laid b h (l ++ [x]) = Sa14.setSlot (laid b h l) ((h + l.length) % Sa14.W) (Sa14.made ((h + l.length) % Sa14.W) x) := by
  unfold laid
  rw [List.zipIdx_append, List.foldl_append]
  simp
theorem mended_eq (b : Bytes) : Sx40.mended b = Sa14.setHead (laid b ((Sa14.tail b + Sa14.W - (Sa14.kept b).length) % Sa14.W) (Sa14.kept b)) ((Sa14.tail b + Sa14.W - (Sa14.kept b).length) % Sa14.W) := rfl
/-! ### a right slot under another number -/
theorem renum {s : Bytes} {m0 : Nat} (hl : s.length = 64) (h : Right s m0) (m : Nat) : Sa14.bytes 8 m ++ (s.drop 8).take 52 = front m (msg s) := by
  have hx : (msg s).bytes.length ≤ 48 := by rw [msg_len hl h.2.1]; exact h.2.1
  have e := right_made hl h
  generalize msg s = x at e hx
  have d8 : s.drop 8 = (Sa14.bytes 2 x.kind ++ (Sa14.bytes 2 x.bytes.length ++ (x.bytes ++ List.replicate (48 - x.bytes.length) 0))) ++ Sa14.bytes 4 (Sa14.sum (front m0 x)) := by
    rw [e, made_front]
    conv => lhs; unfold front
    rw [List.append_assoc]
    exact List.drop_left' (bytes_length _ _)
  rw [d8, List.take_left' (by simp only [List.length_append, bytes_length, List.length_replicate]; omega)]
  rfl
/-! ### the calls of stage 2 -/
theorem act_sum {b d : Bytes} (h : d.length ≤ 5000) : Sx40.act b (.sum d (d.length : Int)) = ⟨0, Sa14.bytes 4 (Sa14.sum d), b⟩ := by
  have hw : Sa14.within (d.length : Int) 65536 = true := by
    unfold Sa14.within
    simp
    omega
  unfold Sx40.act
  dsimp only
  rw [if_pos hw]
theorem right_wrong {b : Bytes} (h : 256 < Sa14.waiting b) : Sa14.right b = false := by
  unfold Sa14.right Sa14.SLOTS
  rw [decide_eq_false_iff_not]
  omega
theorem right_ok {b : Bytes} (h : ¬ 256 < Sa14.waiting b) : ¬ Sa14.right b = false := by
  unfold Sa14.right Sa14.SLOTS
  rw [decide_eq_false_iff_not]
  omega
theorem act_sound_wrong {b : Bytes} (h : 256 < Sa14.waiting b) : Sx40.act b .sound = Sa14.no (-4) b := by
  unfold Sx40.act
  dsimp only
  rw [if_pos (right_wrong h)]
theorem act_sound_ok {b : Bytes} (h : ¬ 256 < Sa14.waiting b) : Sx40.act b .sound = ⟨((keptTo b (Sa14.waiting b)).length : Int), Sa14.bytes 32 (mk (flags b (Sa14.waiting b))), b⟩ := by
  unfold Sx40.act
  dsimp only
  rw [if_neg (right_ok h), flags_eq, kept_eq, bits_mk]
theorem act_mend_wrong {b : Bytes} (h : 256 < Sa14.waiting b) : Sx40.act b .mend = Sa14.no (-4) (Sa14.setHead b (Sa14.tail b)) := by
  unfold Sx40.act
  dsimp only
  rw [if_pos (right_wrong h)]
/-- the head of the mended ring -/
def mhead (b : Bytes) : Nat := (Sa14.tail b + Sa14.W - (keptTo b (Sa14.waiting b)).length) % Sa14.W
theorem act_mend_ok {b : Bytes} (h : ¬ 256 < Sa14.waiting b) : Sx40.act b .mend = ⟨(Sa14.waiting b : Int) - (keptTo b (Sa14.waiting b)).length, [], Sa14.setHead (laid b (mhead b) (keptTo b (Sa14.waiting b))) (mhead b)⟩ := by
  unfold Sx40.act
  dsimp only
  rw [if_neg (right_ok h), mended_eq, kept_eq]
  rfl
theorem mhead_int {b : Bytes} (h : ¬ 256 < Sa14.waiting b) : ((Sa14.tail b : Int) - ((keptTo b (Sa14.waiting b)).length : Nat)) % 18446744073709551616 = (mhead b : Nat) := by
  unfold mhead
  have h1 := tail_lt b
  have h2 := kept_len b (Sa14.waiting b)
  have e : Sa14.W = 18446744073709551616 := by decide
  rw [e] at h1 ⊢
  omega
end My
end
section
set_option Elab.async false
set_option linter.all false
set_option maxRecDepth 100000
namespace My
open PySem PySem.Spec PyProof.Rows L2
open Sa14 (Bytes)
open Sx40Neutral (nums byts)

/-- ints as values -/
abbrev L (l : List Int) : List V := l.map V.int

/-! ### heaps -/
/-- all but a stands as it was -/
def Ch (a : Addr) (H H' : Hp) : Prop := ∀ b o, H b = some o → b ≠ a → H' b = some o
theorem Same.ch {H H' : Hp} (s : Same H H') (a : Addr) : Ch a H H' := fun b o e _ => s b o e
theorem Ch.trans {a : Addr} {H H1 H2 : Hp} (x : Ch a H H1) (y : Ch a H1 H2) : Ch a H H2 := fun b o e n => y b o (x b o e n) n
theorem Ch.up {a : Addr} {H : Hp} {o : HO} : Ch a H (upd H a o) := fun b o e n => by rw [upd_ne n]; exact e
theorem Same.up {p : Addr} {H : Hp} {o : HO} (h : H p = none) : Same H (upd H p o) := fun b u e => by rw [upd_ne (ne_of_none e h)]; exact e
theorem Same.up2 {p : Addr} {H H1 : Hp} {o : HO} (h : H p = none) (s : Same H H1) : Same H (upd H1 p o) := fun b u e => by rw [upd_ne (ne_of_none e h)]; exact s b u e
theorem Ch.seq {K : PySem.W.Frag} {a q : Addr} {xs : List V} {H H' : Hp} (c : Ch a H H') (n : q ≠ a) (h : SqL K H q xs) : SqL K H' q xs := by
  rcases h with (h | ⟨o, h⟩) | h
  · exact .inl (.inl (c _ _ h n))
  · exact .inl (.inr ⟨o, c _ _ h n⟩)
  · exact .inr h
/-- a list that is read: where it lies, nothing new lies -/
theorem Ch.free {a p : Addr} {H H' : Hp} (c : Ch a H H') (n : p ≠ a) (h : H' p = none) : H p = none := by
  cases q : H p with
  | none => rfl
  | some o => rw [c p o q n] at h; cases h
/-- a changed one, whatever else is new: back to Ch -/
theorem Ch.of {a : Addr} {H H1 H2 : Hp} (s : Same H H1) (c : Ch a H1 H2) : Ch a H H2 := fun b o e n => c b o (s b o e) n
theorem Ch.of' {a : Addr} {H H1 H2 : Hp} (c : Ch a H H1) (s : Same H1 H2) : Ch a H H2 := fun b o e n => s b o (c b o e n)
/-- a new list was changed: to those that were ahead of it, nothing was -/
theorem Same.of_ch {a : Addr} {H H1 H2 : Hp} (s : Same H H1) (n : H a = none) (c : Ch a H1 H2) : Same H H2 := fun b o e => c b o (s b o e) (ne_of_none e n)
theorem Same.rfl' {H : Hp} : Same H H := fun _ _ e => e

/-- a new list of ints is handed back -/
def New (H : Hp) (l : List Int) (Q : VK) : Prop := ∀ (H' : Hp) (p : Addr), Same H H' → H p = none → H' p = some (.lst (L l)) → Q (.ref p) H'

/-! ### a def of the text, its promise -/
def Df (K : PySem.W.Frag) (mg : Str → Option Value) (x : Str) (st : Stmt) (ps : List Str) : Prop :=
  ∃ (f : Addr) (fd : FuncData), Fun K x x st f fd ∧ mg x = some (.ref f) ∧ Binds K fd ps []
def Fn (P : Program) (w : World) (K : PySem.W.Frag) (mg : Str → Option Value) (base : Heap) (x : Str) (k : Nat) (ps : List Str) (sp : Sp) : Prop :=
  ∃ (f : Addr) (fd : FuncData), FnOk P w K mg base CX0 k f fd ps sp ∧ mg x = some (.ref f) ∧ PySem.W.keepIn K (.ref f) = true ∧ Binds K fd ps []
section
variable {P : Program} {w : World} {K : PySem.W.Frag} {mg : Str → Option Value} {base : Heap}
theorem Df.ok {x : Str} {st : Stmt} {N ps : List Str} {k : Nat} {sp : Sp} (F : Df K mg x st ps) (S : FnScope N ps (defScope st)) (len : ∀ vs H Q E, sp vs H Q E → vs.length = ps.length)
    (hbody : ∀ (f : Addr) (cdv : Value) (A : Around) (outer : List Env) (s : Shared) (H : Hp) (vs : List V) (Q : VK) (E : XK), Room k (A.deeper (envOfC x (defScope st) s.heap.objs.size f cdv)) → sp vs H Q E →
      ∃ t, PSs (cxOf CX0 P w K mg base N x (defScope st) f cdv A outer s H E).nox (defBody st) t ∧ t { nx := fun _ H' => Q .non H', rt := Q } (start N vs) H) : Fn P w K mg base x (k + 1) ps sp := by
  obtain ⟨f, fd, F, hm, hb⟩ := F
  exact ⟨f, fd, F.ok S len (hbody f), hm, F.kp, hb⟩
end
def tFn (sp : Sp) (t : TA) : TE := fun σ H Q => t σ H fun vs H1 => sp vs H1 Q E0
section
variable {X : Cx} {k : Nat} {ps : List Str} {sp : Sp} {x : Str} {p pos : Pos} {e : Expr} {es : List Expr} {t : TA}
theorem pe_fn (F : Fn X.prog X.w X.K X.mg X.base x k ps sp) (hr : Room k X.A) (hg : Gl X x) (ha : PA X (e :: es) t) (hdb : (x == ("__debug__" : Str)) = false := by decide)
    (he : starEach (e :: es) X.env = (false, eval e X.env) :: starEach es X.env := by rfl) (hpl : (backTo pos (starEach es X.env)).any (·.1) = false := by rfl) :
    PE X (.Call (.Name x p) (e :: es) [] pos) (tFn sp t) := by
  obtain ⟨f, fd, F, hm, hk, hb⟩ := F
  have h := pe_call F hr hg hm hk hb .nil pass0 ha (p := p) hdb he hpl
  have e0 : tCall sp [] E0 t = tFn sp t := by
    funext σ H Q
    unfold tCall tFn
    simp only [List.append_nil]
  rw [e0] at h
  exact h
theorem pe_fn0 (F : Fn X.prog X.w X.K X.mg X.base x k ps sp) (hr : Room k X.A) (hg : Gl X x) (hdb : (x == ("__debug__" : Str)) = false := by decide) :
    PE X (.Call (.Name x p) [] [] pos) (tFn sp tNil) := by
  obtain ⟨f, fd, F, hm, hk, hb⟩ := F
  have h := pe_call0 F hr hg hm hk hb .nil pass0 (p := p) (pos := pos) hdb
  have e0 : tCall sp [] E0 tNil = tFn sp tNil := by
    funext σ H Q
    unfold tCall tFn
    simp only [List.append_nil]
  rw [e0] at h
  exact h
end
/-- a whole number of the module's top -/
def Cn (mg : Str → Option Value) (x : Str) (i : Int) : Prop := ∃ t, mg x = some (.int i t)
theorem pe_cn {X : Cx} {x : Str} {i : Int} {pos : Pos} (c : Cn X.mg x i) (hg : Gl X x) (hd : (x == ("__debug__" : Str)) = false := by decide) : PE X (.Name x pos) (tC (.int i)) := by
  obtain ⟨t, h⟩ := c
  exact pe_glob hg h ⟨t, rfl⟩ hd

/-! ### loops -/
theorem for_rev {K : PySem.W.Frag} {a : Addr} {xs : List V} {g : TG} {tb : TS} {D : Ends} {σ : L2.St} {H : Hp} (Pv : Nat → L2.St → Hp → Prop) (h0 : Pv 0 σ H) (hl : ∀ i σ H, i ≤ xs.length → Pv i σ H → SqL K H a xs)
    (hs : ∀ i x σ H, i < xs.length → xs[xs.length - 1 - i]? = some x → Pv i σ H → g x σ H fun σ2 H2 => tb { D with nx := Pv (i + 1), ct := Pv (i + 1), bk := D.nx } σ2 H2) (hd : ∀ σ H, Pv xs.length σ H → D.nx σ H) :
    ∃ W : Nat → Nat → L2.St → Hp → Prop, (∃ m, W 0 m σ H) ∧ ∀ i m σ H, W i m σ H →
      ((Itv K a xs.length).stop i H ∧ D.nx σ H) ∨ ((Itv K a xs.length).go i H ∧ ∃ N : L2.St → Hp → Prop, (∀ σ' H', N σ' H' → ∃ m', m' < m ∧ W (i + 1) m' σ' H') ∧ ∀ x H', (Itv K a xs.length).yld i H x H' → g x σ H' fun σ2 H2 => tb { D with nx := N, ct := N, bk := D.nx } σ2 H2) := by
  refine ⟨fun i m σ H => m = xs.length - i ∧ i ≤ xs.length ∧ Pv i σ H, ⟨xs.length, by simp, Nat.zero_le _, h0⟩, ?_⟩
  rintro i m σ H ⟨rfl, hi, p⟩
  have q := hl i σ H hi p
  by_cases hlt : i < xs.length
  · have hx : xs.length - 1 - i < xs.length := by omega
    refine .inr ⟨⟨hlt, xs, xs[xs.length - 1 - i], q, List.getElem?_eq_getElem hx⟩, Pv (i + 1), fun σ' H' p' => ⟨xs.length - (i + 1), by omega, rfl, hlt, p'⟩, fun x H' y => ?_⟩
    obtain ⟨e, y⟩ := y
    subst e
    exact hs i x σ _ hlt (y xs q) p
  · have e : i = xs.length := by omega
    subst e
    exact .inl ⟨Nat.le_refl _, hd σ H p⟩
theorem for_enum {K : PySem.W.Frag} {a : Addr} {xs : List V} {g : TG} {tb : TS} {D : Ends} {σ : L2.St} {H : Hp} (Pv : Nat → L2.St → Hp → Prop) (h0 : Pv 0 σ H) (hl : ∀ i σ H, i ≤ xs.length → Pv i σ H → SqL K H a xs)
    (hs : ∀ i x T σ H, xs[i]? = some x → H T = none → Pv i σ H → g (.ref T) σ (upd H T (.tup [.int (i : Nat), x])) fun σ2 H2 => tb { D with nx := Pv (i + 1), ct := Pv (i + 1), bk := D.nx } σ2 H2) (hd : ∀ σ H, Pv xs.length σ H → D.nx σ H) :
    ∃ W : Nat → Nat → L2.St → Hp → Prop, (∃ m, W 0 m σ H) ∧ ∀ i m σ H, W i m σ H →
      ((Ite K a).stop i H ∧ D.nx σ H) ∨ ((Ite K a).go i H ∧ ∃ N : L2.St → Hp → Prop, (∀ σ' H', N σ' H' → ∃ m', m' < m ∧ W (i + 1) m' σ' H') ∧ ∀ x H', (Ite K a).yld i H x H' → g x σ H' fun σ2 H2 => tb { D with nx := N, ct := N, bk := D.nx } σ2 H2) := by
  refine ⟨fun i m σ H => m = xs.length - i ∧ i ≤ xs.length ∧ Pv i σ H, ⟨xs.length, by simp, Nat.zero_le _, h0⟩, ?_⟩
  rintro i m σ H ⟨rfl, hi, p⟩
  have q := hl i σ H hi p
  by_cases hlt : i < xs.length
  · refine .inr ⟨⟨xs, xs[i], q, List.getElem?_eq_getElem hlt⟩, Pv (i + 1), fun σ' H' p' => ⟨xs.length - (i + 1), by omega, rfl, hlt, p'⟩, fun x H' y => ?_⟩
    obtain ⟨T, z, rfl, hT, rfl, y⟩ := y
    exact hs i z T σ _ (y xs q) hT p
  · have e : i = xs.length := by omega
    subst e
    exact .inl ⟨⟨xs, q, Nat.le_refl _⟩, hd σ H p⟩

/-! ### slices of lists of ints -/
theorem sIx_nat' (n d k : Nat) : HT.sIx n d (some (k : Int)) = min k n := HT.sIx_nat n d k
theorem L_length (l : List Int) : (L l).length = l.length := List.length_map ..
/-- xs[i:i + k] -/
theorem cutV_at (l : List Int) (i k : Nat) : cutV (L l) (some (i : Int)) (some ((i + k : Nat) : Int)) = L ((l.drop i).take k) := by
  unfold cutV
  rw [sIx_nat', sIx_nat', L_length]
  show List.take _ (List.drop _ (List.map V.int l)) = List.map V.int _
  rw [List.map_take, List.map_drop]
  by_cases h : i ≤ l.length
  · rw [Nat.min_eq_left h]
    by_cases h2 : i + k ≤ l.length
    · rw [Nat.min_eq_left h2, Nat.add_sub_cancel_left]
    · rw [Nat.min_eq_right (by omega), List.take_of_length_le (by rw [List.length_drop, List.length_map]; omega), List.take_of_length_le (by rw [List.length_drop, List.length_map]; omega)]
  · rw [Nat.min_eq_right (by omega), Nat.min_eq_right (by omega), List.drop_eq_nil_of_le (as := List.map V.int l) (i := i) (by rw [List.length_map]; omega)]
    simp
theorem cutV_to (l : List Int) (i j : Nat) (h : i ≤ j) : cutV (L l) (some (i : Int)) (some (j : Int)) = L ((l.drop i).take (j - i)) := by
  have e := cutV_at l i (j - i)
  rw [show i + (j - i) = j by omega] at e
  exact e
theorem cutV_upto (l : List Int) (j : Nat) : cutV (L l) none (some (j : Int)) = L (l.take j) := by
  have e := cutV_to l 0 j (Nat.zero_le _)
  rw [List.drop_zero, Nat.sub_zero] at e
  rw [← e]
  unfold cutV
  rw [HT.sIx_none]
  have : HT.sIx (L l).length 0 (some ((0 : Nat) : Int)) = 0 := by rw [sIx_nat']; omega
  rw [this]
theorem cutV_from (l : List Int) (i : Nat) : cutV (L l) (some (i : Int)) none = L (l.drop i) := by
  unfold cutV
  rw [sIx_nat', HT.sIx_none, L_length]
  show List.take _ (List.drop _ (List.map V.int l)) = List.map V.int _
  rw [List.map_drop]
  by_cases h : i ≤ l.length
  · rw [Nat.min_eq_left h, List.take_of_length_le (by rw [List.length_drop, List.length_map]; exact Nat.le_refl _)]
  · rw [Nat.min_eq_right (by omega), Nat.sub_self, List.take_zero, List.drop_eq_nil_of_le (as := List.map V.int l) (i := i) (by rw [List.length_map]; omega)]
theorem L_get {l : List Int} {i : Nat} {y : V} (h : (L l)[i]? = some y) : ∃ z, l[i]? = some z ∧ y = V.int z := by
  rw [List.getElem?_map] at h
  cases e : l[i]? with
  | none => rw [e] at h; cases h
  | some z => rw [e] at h; exact ⟨z, rfl, (Option.some.inj h).symm⟩
theorem L_set (l : List Int) (i : Nat) (z : Int) : (L l).set i (V.int z) = L (l.set i z) := (List.map_set ..).symm
theorem L_append (a b : List Int) : L a ++ L b = L (a ++ b) := (List.map_append ..).symm
theorem L_snoc (a : List Int) (z : Int) : L a ++ [V.int z] = L (a ++ [z]) := by rw [← L_append]; rfl
theorem nums_at {b : Bytes} {i : Nat} {z : Int} (h : (nums b)[i]? = some z) : ∃ x, b[i]? = some x ∧ z = (x.toNat : Int) := by
  rw [nums_get] at h
  cases e : b[i]? with
  | none => rw [e] at h; cases h
  | some x => rw [e] at h; exact ⟨x, rfl, (Option.some.inj h).symm⟩
theorem ixN_nat {n j : Nat} (h : j < n) : ixN n (j : Int) = some j := by
  unfold ixN
  rw [if_pos (by omega), if_pos (by omega)]
  simp
end My
end
section
set_option Elab.async false
set_option linter.all false
set_option maxRecDepth 100000
namespace My
open PySem PySem.Spec PyProof.Rows L2
open Sa14 (Bytes)
open Sx40Neutral (nums byts)
/-! ### the text by places -/
def top (i : Nat) : Stmt := PySem.Challenge.pw_sharedring_s01_answers.main.body.getD i (.Pass ⟨0, 0, 0, 0⟩)
abbrev sReadNumber : Stmt := top 1
abbrev sNumberBytes : Stmt := top 2
abbrev sWriteBytes : Stmt := top 3
abbrev sCrc : Stmt := top 7
abbrev sSumBytes : Stmt := top 8

/-! ### promises -/
def spReadNumber (K : PySem.W.Frag) : Sp := fun vs H Q _ => ∃ (a : Addr) (b : Bytes) (off n : Nat), vs = [.ref a, .int off, .int n] ∧ SqL K H a (L (nums b)) ∧ ∀ H' : Hp, Same H H' → Q (.int (Sa14.at_ b off n)) H'
def spNumberBytes : Sp := fun vs H Q _ => ∃ (n w : Nat), vs = [.int n, .int w] ∧ w ≤ 1000 ∧ New H (nums (Sa14.bytes w n)) Q
def spWriteBytes (K : PySem.W.Frag) : Sp := fun vs H Q _ => ∃ (a q : Addr) (b d : Bytes) (off : Nat), vs = [.ref a, .int off, .ref q] ∧ q ≠ a ∧ H a = some (.lst (L (nums b))) ∧ SqL K H q (L (nums d)) ∧ off + d.length ≤ b.length ∧
  ∀ H' : Hp, Ch a H H' → H' a = some (.lst (L (nums (Sa14.put b off d)))) → Q .non H'
def spSumBytes (K : PySem.W.Frag) : Sp := fun vs H Q _ => ∃ (a : Addr) (b : Bytes), vs = [.ref a] ∧ SqL K H a (L (nums b)) ∧ New H (nums (Sa14.bytes 4 (Sa14.sum b))) Q
def spCrc (K : PySem.W.Frag) : Sp := fun vs H Q _ => ∃ (a : Addr) (b : Bytes), vs = [.ref a] ∧ SqL K H a (L (nums b)) ∧ ∀ H' : Hp, Same H H' → Q (.int (Sa14.sum b)) H'

section
variable {P : Program} {w : World} {K : PySem.W.Frag} {mg : Str → Option Value} {base : Heap}

theorem rd_drop {l : List Int} {i : Nat} {x : Int} (hi : i < l.length) (h : l[l.length - 1 - i]? = some x) : rd (l.drop (l.length - (i + 1))) = rd (l.drop (l.length - i)) * 256 + x := by
  have hj : l.length - 1 - i < l.length := by omega
  have e : l[l.length - 1 - i] = x := by
    rw [List.getElem?_eq_getElem hj] at h
    exact Option.some.inj h
  rw [show l.length - (i + 1) = l.length - 1 - i by omega, List.drop_eq_getElem_cons hj, e, show l.length - 1 - i + 1 = l.length - i by omega]
  rfl

theorem scReadNumber : FnScope ["memory", "at", "width", "number", "byte"] ["memory", "at", "width"] (defScope sReadNumber) := ⟨rfl, rfl, rfl, by decide +kernel, rfl, by decide +kernel, by decide +kernel⟩
theorem ok_read_number (F : Df K mg "read_number" sReadNumber ["memory", "at", "width"]) (hrev : mg "reversed" = none) : Fn P w K mg base "read_number" 1 ["memory", "at", "width"] (spReadNumber K) := by
  refine F.ok scReadNumber (fun vs H Q E h => ?_) (fun f cdv A outer s H vs Q E hr h => ?_)
  · obtain ⟨a, b, off, n, rfl, _⟩ := h
    rfl
  · obtain ⟨a, b, off, n, rfl, hS, k⟩ := h
    refine ⟨_, pss_cons (ps_set (i := 3) scReadNumber.nd rfl (Or.inl rfl) pe_int)
      (pss_cons (ps_for PassesOwn.never rfl (pi_reversed rfl hrev (pa_cons (pe_slice sl_list (pv 0) (po_some (pv 1)) (po_some (pe_op op_add (pv 1) (pv 2)))) pa_nil)) (pg_name (i := 4) scReadNumber.nd rfl (Or.inl rfl))
        (pss_one (ps_set (i := 3) scReadNumber.nd rfl (Or.inl rfl) (pe_op op_add (pe_op op_mul (pv 3) pe_int) (pv 4)))))
      (pss_one (ps_ret (pv 3)))), ?_⟩
    refine ⟨_, rfl, _, rfl, _, rfl, _, rfl, _, rfl, _, _, rfl, rfl, _, rfl, a, _, rfl, hS, fun p hp => ?_⟩
    have ec := cutV_at (nums b) off n
    rw [← nums_drop, ← nums_take, Int.natCast_add] at ec
    rw [ec]
    have s1 : Same H (upd H p (.lst (L (nums ((b.drop off).take n))))) := Same.up hp
    refine ⟨p, _, rfl, SqL.of upd_same, for_rev (K := K) (a := p) (xs := L (nums ((b.drop off).take n)))
      (fun i σ H' => ∃ v : Option V, σ = [some (.ref a), some (.int off), some (.int n), some (.int (rd ((nums ((b.drop off).take n)).drop ((nums ((b.drop off).take n)).length - i)))), v] ∧ H' = upd H p (.lst (L (nums ((b.drop off).take n)))))
      ⟨none, ?_, rfl⟩ (fun i σ H' _ ⟨_, _, e⟩ => by rw [e]; exact SqL.of upd_same) ?_ ?_⟩
    · rw [Nat.sub_zero, List.drop_length]
      rfl
    · rintro i y σ H' hi hx ⟨v, rfl, rfl⟩
      rw [L_length] at hi hx
      obtain ⟨z, hz, rfl⟩ := L_get hx
      refine ⟨_, rfl, _, _, rfl, rfl, .inr ⟨by decide, by decide⟩, _, rfl, _, _, rfl, rfl, ?_⟩
      refine ⟨some (.int z), ?_, rfl⟩
      rw [rd_drop hi hz]
      rfl
    · rintro σ H' ⟨v, rfl, rfl⟩
      refine ⟨_, rfl, ?_⟩
      rw [L_length, Nat.sub_self, List.drop_zero, rd_nums]
      exact k _ s1

theorem scNumberBytes : FnScope ["number", "width", "told", "rest", "step"] ["number", "width"] (defScope sNumberBytes) := ⟨rfl, rfl, rfl, by decide +kernel, rfl, by decide +kernel, by decide +kernel⟩
theorem ok_number_bytes (F : Df K mg "number_bytes" sNumberBytes ["number", "width"]) (hrng : mg "range" = none) : Fn P w K mg base "number_bytes" 1 ["number", "width"] spNumberBytes := by
  refine F.ok scNumberBytes (fun vs H Q E h => ?_) (fun f cdv A outer s H vs Q E hr h => ?_)
  · obtain ⟨n, wd, rfl, _⟩ := h
    rfl
  · obtain ⟨n, wd, rfl, hw, k⟩ := h
    refine ⟨_, pss_cons (ps_set (i := 2) scNumberBytes.nd rfl (Or.inl rfl) (pe_lst pa_nil))
      (pss_cons (ps_set (i := 3) scNumberBytes.nd rfl (Or.inl rfl) (pv 0))
      (pss_cons (ps_for PassesOwn.never rfl (pi_range1 rfl hrng (pa_cons (pv 1) pa_nil)) (pg_name (i := 4) scNumberBytes.nd rfl (Or.inl rfl))
        (pss_cons (ps_expr (pe_bm PySem.F.plainAttrs_list PySem.F.slot_list_append PySem.F.type_list_append mt_append (pv 2) (pa_cons (pe_op op_mod (pv 3) pe_int) pa_nil)))
        (pss_one (ps_set (i := 3) scNumberBytes.nd rfl (Or.inl rfl) (pe_op op_fdiv (pv 3) pe_int)))))
      (pss_one (ps_ret (pv 2))))), ?_⟩
    refine ⟨Nat.zero_le _, fun p hp => ?_⟩
    refine ⟨_, rfl, _, rfl, _, rfl, by omega, by omega, for_range (n := wd) (fun i σ H' => ∃ v : Option V, σ = [some (.int n), some (.int wd), some (.ref p), some (.int ((n / 256 ^ i : Nat) : Int)), v] ∧ Same H H' ∧ H' p = some (.lst (L (nums (Sa14.bytes i n))))) ?_ ?_ ?_⟩
    · refine ⟨none, ?_, Same.up hp, upd_same⟩
      rw [Nat.pow_zero, Nat.div_one]
      rfl
    · rintro i σ H' hi ⟨v, rfl, s1, hq⟩
      refine ⟨_, rfl, .inl ⟨rfl, _, SqL.of hq⟩, _, rfl, _, _, rfl, rfl, by show (0 : Int) < 256; decide, p, _, _, rfl, rfl, hq, ?_, ?_⟩
      · rw [L_length, nums_length, bytes_length]
        exact Nat.lt_of_lt_of_le hi (Nat.le_trans hw (by decide))
      · refine ⟨_, rfl, _, _, rfl, rfl, ⟨by decide, by decide⟩, some (.int (0 + (i : Int))), ?_, Same.up2 hp s1, ?_⟩
        · have e : ((n / 256 ^ i : Nat) : Int) / 256 = ((n / 256 ^ (i + 1) : Nat) : Int) := by
            rw [Nat.pow_succ, ← Nat.div_div_eq_div_mul]
            omega
          show [some (V.int (n : Int)), some (V.int (wd : Int)), some (V.ref p), some (V.int (((n / 256 ^ i : Nat) : Int) / 256)), some (V.int (0 + (i : Int)))] = _
          rw [e]
        · rw [upd_same, bytes_snoc, nums_append, ← L_append]
          have e : (((UInt8.ofNat (n / 256 ^ i % 256)).toNat : Nat) : Int) = ((n / 256 ^ i : Nat) : Int) % 256 := by
            rw [UInt8.toNat_ofNat']
            omega
          show _ = some (HO.lst (_ ++ [V.int ((UInt8.ofNat (n / 256 ^ i % 256)).toNat : Nat)]))
          rw [e]
    · rintro σ H' ⟨v, rfl, s1, hq⟩
      exact ⟨_, rfl, k H' p s1 hp hq⟩

theorem scWriteBytes : FnScope ["memory", "at", "data", "k", "byte"] ["memory", "at", "data"] (defScope sWriteBytes) := ⟨rfl, rfl, rfl, by decide +kernel, rfl, by decide +kernel, by decide +kernel⟩
theorem ok_write_bytes (F : Df K mg "write_bytes" sWriteBytes ["memory", "at", "data"]) (henum : mg "enumerate" = none) : Fn P w K mg base "write_bytes" 1 ["memory", "at", "data"] (spWriteBytes K) := by
  refine F.ok scWriteBytes (fun vs H Q E h => ?_) (fun f cdv A outer s H vs Q E hr h => ?_)
  · obtain ⟨a, q, b, d, off, rfl, _⟩ := h
    rfl
  · obtain ⟨a, q, b, d, off, rfl, hne, ha, hS, hle, k⟩ := h
    refine ⟨_, pss_one (ps_for PassesOwn.never rfl (pi_enum rfl henum (pa_cons (pv 2) pa_nil)) (pg_tup rfl (pgs_cons (pg_name (i := 3) scWriteBytes.nd rfl (Or.inl rfl)) (pgs_cons (pg_name (i := 4) scWriteBytes.nd rfl (Or.inl rfl)) pgs_nil)))
      (pss_one (ps_asg (pv 4) (pg_sub (pv 0) (pe_op op_add (pv 1) (pv 3)) set_list)))), ?_⟩
    refine ⟨_, rfl, q, _, rfl, hS, for_enum (K := K) (a := q) (xs := L (nums d)) (fun i σ H' => ∃ v v' : Option V, σ = [some (.ref a), some (.int off), some (.ref q), v, v'] ∧ Ch a H H' ∧ H' a = some (.lst (L (nums (Sa14.put b off (d.take i)))))) ?_ ?_ ?_ ?_⟩
    · exact ⟨none, none, rfl, fun b o e _ => e, by rw [List.take_zero, put_nil]; exact ha⟩
    · rintro i σ H' _ ⟨v, v', _, c, _⟩
      exact c.seq hne hS
    · rintro i y T σ H' hy hT ⟨v, v', rfl, c, hq⟩
      obtain ⟨z, hz, rfl⟩ := L_get hy
      obtain ⟨x, hx, rfl⟩ := nums_at hz
      have hid : i < d.length := (List.getElem?_eq_some_iff.mp hx).1
      have hTa : a ≠ T := ne_of_none hq hT
      refine ⟨T, _, rfl, .inl (.inl upd_same), rfl, _, _, rfl, _, _, rfl, rfl, _, rfl, _, rfl, _, rfl, _, rfl, _, _, rfl, rfl, a, _, _, off + i, rfl, rfl, (by rw [upd_ne hTa]; exact hq), ?_, some (.int (i : Int)), some (.int (x.toNat : Int)), rfl, ?_, ?_⟩
      · rw [L_length, nums_length, put_length (by rw [List.length_take]; omega)]
        have := ixN_nat (n := b.length) (j := off + i) (by omega)
        rw [Int.natCast_add] at this
        exact this
      · exact (c.of' (Same.up hT)).trans Ch.up
      · rw [upd_same, put_snoc hle hx, nums_set, L_set]
    · rintro σ H' ⟨v, v', rfl, c, hq⟩
      rw [L_length, nums_length, List.take_length] at hq
      exact k H' c hq
end
end My
end
section
set_option Elab.async false
set_option linter.all false
set_option maxRecDepth 100000
namespace My
open PySem PySem.Spec PyProof.Rows L2
open Sa14 (Bytes)
open Sx40Neutral (nums byts)
abbrev sMakeSlot : Stmt := top 17
abbrev sRenumbered : Stmt := top 18
abbrev sMessageLength : Stmt := top 19
abbrev sIsSound : Stmt := top 20
abbrev sTellMessage : Stmt := top 21

theorem xor_nat (a b : Nat) : Builtin.bitXor (a : Int) (b : Int) = ((a ^^^ b : Nat) : Int) := by
  have h := xor_and_add a b
  rw [bitXor_and, bitAnd_pp (Int.natCast_nonneg _) (Int.natCast_nonneg _)]
  simp only [Int.toNat_natCast]
  omega
theorem take_snoc {α : Type} {l : List α} {i : Nat} {x : α} (h : l[i]? = some x) : l.take (i + 1) = l.take i ++ [x] := by
  rw [List.take_succ, h]
  rfl
section
variable {P : Program} {w : World} {K : PySem.W.Frag} {mg : Str → Option Value} {base : Heap}
theorem shift_int (c : Nat) : (if (c : Int) % 2 = 1 then Builtin.bitXor ((c : Int) / 2 ^ (Int.toNat 1)) 2197175160 else (c : Int) / 2 ^ (Int.toNat 1)) = ((Sa14.shift c : Nat) : Int) := by
  have e : (c : Int) / 2 ^ (Int.toNat 1) = ((c / 2 : Nat) : Int) := by
    show (c : Int) / 2 ^ 1 = _
    omega
  rw [e]
  unfold Sa14.shift
  by_cases h : c % 2 = 1
  · rw [if_pos (by omega), if_pos h]
    exact xor_nat (c / 2) 2197175160
  · rw [if_neg (by omega), if_neg h]

theorem scCrc : FnScope ["data", "c", "byte", "step", "fell_out"] ["data"] (defScope sCrc) := ⟨rfl, rfl, rfl, by decide +kernel, rfl, by decide +kernel, by decide +kernel⟩
theorem ok_crc (F : Df K mg "crc32c" sCrc ["data"]) (hrng : mg "range" = none) (c1 : Cn mg "ALL_ONES" 4294967295) (c2 : Cn mg "TURNED_POLYNOMIAL" 2197175160) : Fn P w K mg base "crc32c" 1 ["data"] (spCrc K) := by
  refine F.ok scCrc (fun vs H Q E h => ?_) (fun f cdv A outer s H vs Q E hr h => ?_)
  · obtain ⟨a, b, rfl, _⟩ := h
    rfl
  · obtain ⟨a, b, rfl, hS, k⟩ := h
    refine ⟨_, pss_cons (ps_set (i := 1) scCrc.nd rfl (Or.inl rfl) (pe_cn c1 rfl))
      (pss_cons (ps_for PassesOwn.never rfl (pi_list (pv 0)) (pg_name (i := 2) scCrc.nd rfl (Or.inl rfl))
        (pss_cons (ps_set (i := 1) scCrc.nd rfl (Or.inl rfl) (pe_op op_xor (pv 1) (pv 2)))
        (pss_one (ps_for PassesOwn.never rfl (pi_range1 rfl hrng (pa_cons pe_int pa_nil)) (pg_name (i := 3) scCrc.nd rfl (Or.inl rfl))
          (pss_cons (ps_set (i := 4) scCrc.nd rfl (Or.inl rfl) (pe_op op_and (pv 1) pe_int))
          (pss_cons (ps_set (i := 1) scCrc.nd rfl (Or.inl rfl) (pe_op op_shr (pv 1) pe_int))
          (pss_one (ps_if (pt_cmpR op_eq (pv 4) pe_int (nomark _)) (pss_one (ps_set (i := 1) scCrc.nd rfl (Or.inl rfl) (pe_op op_xor (pv 1) (pe_cn c2 rfl)))) pss_nil)))))))) 
      (pss_one (ps_ret (pe_op op_xor (pv 1) (pe_cn c1 rfl))))), ?_⟩
    refine ⟨_, rfl, a, rfl, ⟨_, hS⟩, for_list (K := K) (a := a) (xs := L (nums b)) (fun i σ H' => ∃ v2 v3 v4 : Option V, σ = [some (.ref a), some (.int (run (b.take i) (2 ^ 32 - 1) : Nat)), v2, v3, v4] ∧ H' = H) ?_ (fun i σ H' _ ⟨_, _, _, _, e⟩ => by rw [e]; exact hS) ?_ ?_⟩
    · exact ⟨none, none, none, rfl, rfl⟩
    · rintro i y σ H' hy ⟨v2, v3, v4, rfl, rfl⟩
      obtain ⟨z, hz, rfl⟩ := L_get hy
      obtain ⟨x, hx, rfl⟩ := nums_at hz
      refine ⟨_, rfl, _, rfl, _, _, rfl, rfl, ?_⟩
      refine ⟨8, rfl, by decide, by decide, for_range (n := 8) (fun j σ H'' => ∃ v3 v4 : Option V, σ = [some (.ref a), some (.int (shifts j (run (b.take i) (2 ^ 32 - 1) ^^^ x.toNat) : Nat)), some (.int (x.toNat : Int)), v3, v4] ∧ H'' = H') ?_ ?_ ?_⟩
      · refine ⟨v3, v4, ?_, rfl⟩
        show [some (V.ref a), some (V.int (Builtin.bitXor _ _)), _, _, _] = _
        rw [xor_nat]
        rfl
      · rintro j σ H'' hj ⟨v3, v4, rfl, rfl⟩
        refine ⟨_, rfl, _, _, rfl, rfl, _, rfl, _, _, rfl, rfl, (by show (0 : Int) ≤ 1; decide), _, rfl, rfl, _, rfl, ?_⟩
        have hs := shift_int (shifts j (run (b.take i) (2 ^ 32 - 1) ^^^ x.toNat))
        have hb := bitAnd_m1 ((shifts j (run (b.take i) (2 ^ 32 - 1) ^^^ x.toNat) : Nat) : Int)
        refine ite2 (fun h => ?_) (fun h => ?_)
        · have h' := V.int.inj (of_decide_eq_true h)
          rw [if_pos (hb.symm.trans h')] at hs
          refine ⟨_, rfl, _, _, rfl, rfl, some (.int (0 + (j : Int))), some (.int (Builtin.bitAnd ((shifts j (run (b.take i) (2 ^ 32 - 1) ^^^ x.toNat) : Nat) : Int) 1)), ?_, rfl⟩
          exact congrArg (fun q => [some (V.ref a), some (V.int q), some (V.int (x.toNat : Int)), some (V.int (0 + (j : Int))), some (V.int (Builtin.bitAnd ((shifts j (run (b.take i) (2 ^ 32 - 1) ^^^ x.toNat) : Nat) : Int) 1))]) hs
        · have h' : ¬ ((shifts j (run (b.take i) (2 ^ 32 - 1) ^^^ x.toNat) : Nat) : Int) % 2 = 1 := fun q => h (decide_eq_true (congrArg V.int (hb.trans q)))
          rw [if_neg h'] at hs
          refine ⟨some (.int (0 + (j : Int))), some (.int (Builtin.bitAnd ((shifts j (run (b.take i) (2 ^ 32 - 1) ^^^ x.toNat) : Nat) : Int) 1)), ?_, rfl⟩
          exact congrArg (fun q => [some (V.ref a), some (V.int q), some (V.int (x.toNat : Int)), some (V.int (0 + (j : Int))), some (V.int (Builtin.bitAnd ((shifts j (run (b.take i) (2 ^ 32 - 1) ^^^ x.toNat) : Nat) : Int) 1))]) hs
      · rintro σ H'' ⟨v3, v4, rfl, rfl⟩
        refine ⟨some (.int (x.toNat : Int)), v3, v4, ?_, rfl⟩
        rw [take_snoc hx, run_snoc, eight_shifts]
    · rintro σ H' ⟨v2, v3, v4, rfl, rfl⟩
      refine ⟨_, rfl, _, _, rfl, rfl, ?_⟩
      rw [L_length, nums_length, List.take_length]
      have e := xor_nat (run b (2 ^ 32 - 1)) (2 ^ 32 - 1)
      have e2 : ((2 ^ 32 - 1 : Nat) : Int) = 4294967295 := by decide
      rw [e2, ← sum_run] at e
      show Q (V.int (Builtin.bitXor _ 4294967295)) _
      rw [e]
      exact k _ Same.rfl'

theorem scSumBytes : FnScope ["data"] ["data"] (defScope sSumBytes) := ⟨rfl, rfl, rfl, by decide +kernel, rfl, by decide +kernel, by decide +kernel⟩
theorem ok_sum_bytes (F : Df K mg "sum_bytes" sSumBytes ["data"]) (FN : Fn P w K mg base "number_bytes" 1 ["number", "width"] spNumberBytes) (FC : Fn P w K mg base "crc32c" 1 ["data"] (spCrc K)) : Fn P w K mg base "sum_bytes" 2 ["data"] (spSumBytes K) := by
  refine F.ok scSumBytes (fun vs H Q E h => ?_) (fun f cdv A outer s H vs Q E hr h => ?_)
  · obtain ⟨a, b, rfl, _⟩ := h
    rfl
  · obtain ⟨a, b, rfl, hS, k⟩ := h
    refine ⟨_, pss_one (ps_ret (pe_fn FN hr rfl (pa_cons (pe_fn FC hr rfl (pa_cons (pv 0) pa_nil)) (pa_cons pe_int pa_nil)))), ?_⟩
    refine ⟨_, rfl, a, b, rfl, hS, fun H1 s1 => ?_⟩
    exact ⟨Sa14.sum b, 4, rfl, by decide, fun H2 p s2 n e => k H2 p (s1.trans s2) (s1.free n) e⟩
end
end My
end
section
set_option Elab.async false
set_option linter.all false
set_option maxRecDepth 100000
namespace My
open PySem PySem.Spec PyProof.Rows L2
open Sa14 (Bytes)
open Sx40Neutral (nums byts)
def spMakeSlot : Sp := fun vs H Q _ => ∃ (m kind : Nat) (q : Addr) (d : Bytes), vs = [.int m, .int kind, .ref q] ∧ H q = some (.lst (L (nums d))) ∧ d.length ≤ 48 ∧ New H (nums (Sa14.made m ⟨kind, d⟩)) Q
def spMessageLength (K : PySem.W.Frag) : Sp := fun vs H Q _ => ∃ (a : Addr) (b : Bytes), vs = [.ref a] ∧ SqL K H a (L (nums b)) ∧ ∀ H' : Hp, Same H H' → Q (.int (Sa14.at_ b 10 2)) H'
def spIsSound (K : PySem.W.Frag) : Sp := fun vs H Q _ => ∃ (a : Addr) (s : Bytes) (m : Nat), vs = [.ref a, .int m] ∧ SqL K H a (L (nums s)) ∧ s.length = 64 ∧ ∀ (H' : Hp) (r : Bool), Same H H' → (r = true ↔ Right s m) → Q (.bl r) H'
def spRenumbered (K : PySem.W.Frag) : Sp := fun vs H Q _ => ∃ (q : Addr) (s : Bytes) (m m0 : Nat), vs = [.ref q, .int m] ∧ SqL K H q (L (nums s)) ∧ s.length = 64 ∧ Right s m0 ∧ New H (nums (Sa14.made m (msg s))) Q
def spTellMessage (K : PySem.W.Frag) : Sp := fun vs H Q _ => ∃ (a : Addr) (s : Bytes), vs = [.ref a] ∧ SqL K H a (L (nums s)) ∧ New H ((Sa14.at_ s 10 2 : Int) :: nums ((s.drop 8).take 2 ++ (s.drop 12).take 48)) Q

theorem zeros_L (k : Nat) : (List.replicate k [V.int 0]).flatten = L (nums (List.replicate k (0 : UInt8))) := by
  rw [nums_replicate]
  induction k with
  | zero => rfl
  | succ k ih =>
    rw [List.replicate_succ, List.flatten_cons, ih]
    rfl
theorem line_small {n : Nat} (h : n ≤ 100000) : n ≤ sizeLine := Nat.le_trans h (by decide)
section
variable {P : Program} {w : World} {K : PySem.W.Frag} {mg : Str → Option Value} {base : Heap}

theorem scMakeSlot : FnScope ["number", "kind", "data", "zeros", "summed"] ["number", "kind", "data"] (defScope sMakeSlot) := ⟨rfl, rfl, rfl, by decide +kernel, rfl, by decide +kernel, by decide +kernel⟩
theorem ok_make_slot (F : Df K mg "make_slot" sMakeSlot ["number", "kind", "data"]) (hlen : mg "len" = none) (c1 : Cn mg "MOST_DATA" 48)
    (FN : Fn P w K mg base "number_bytes" 1 ["number", "width"] spNumberBytes) (FS : Fn P w K mg base "sum_bytes" 2 ["data"] (spSumBytes K)) : Fn P w K mg base "make_slot" 3 ["number", "kind", "data"] spMakeSlot := by
  refine F.ok scMakeSlot (fun vs H Q E h => ?_) (fun f cdv A outer s H vs Q E hr h => ?_)
  · obtain ⟨m, kind, q, d, rfl, _⟩ := h
    rfl
  · obtain ⟨m, kind, q, d, rfl, hq, hd, k⟩ := h
    have hr1 : Room 1 _ := hr.mono (by decide)
    refine ⟨_, pss_cons (ps_set (i := 3) scMakeSlot.nd rfl (Or.inl rfl) (pe_op op_rep (pe_lst (pa_cons pe_int pa_nil)) (pe_op op_sub (pe_cn c1 rfl) (pe_callB call_len_seq (by rfl) hlen PySem.boot_len (pa_cons (pv 2) pa_nil)))))
      (pss_cons (ps_set (i := 4) scMakeSlot.nd rfl (Or.inl rfl) (pe_op op_cat (pe_op op_cat (pe_op op_cat (pe_op op_cat (pe_fn FN hr1 rfl (pa_cons (pv 0) (pa_cons pe_int pa_nil))) (pe_fn FN hr1 rfl (pa_cons (pv 1) (pa_cons pe_int pa_nil))))
        (pe_fn FN hr1 rfl (pa_cons (pe_callB call_len_seq (by rfl) hlen PySem.boot_len (pa_cons (pv 2) pa_nil)) (pa_cons pe_int pa_nil)))) (pv 2)) (pv 3)))
      (pss_one (ps_ret (pe_op op_cat (pv 4) (pe_fn FS hr rfl (pa_cons (pv 4) pa_nil)))))), ?_⟩
    -- zeros = [0] * (MOST_DATA - len(data))
    refine ⟨(by show 1 ≤ sizeLine; decide), fun p0 n0 => ?_⟩
    have s0 : Same H (upd H p0 (.lst [V.int 0])) := Same.up n0
    refine ⟨_, rfl, q, _, rfl, .inl (SqL.of (s0 _ _ hq)), _, _, rfl, rfl, ?_⟩
    refine ⟨p0, _, _, rfl, rfl, upd_same, ?_, ?_, ?_, fun z nz => ?_⟩
    · rw [L_length, nums_length]; omega
    · rw [L_length, nums_length]; omega
    · rw [L_length, nums_length]
      exact line_small (by show 1 * _ ≤ _; omega)
    have ez : ((48 : Int) - ((L (nums d)).length : Nat)).toNat = 48 - d.length := by rw [L_length, nums_length]; omega
    rw [ez, zeros_L]
    have s1 := s0.trans (Same.up nz (o := HO.lst (L (nums (List.replicate (48 - d.length) (0 : UInt8))))))
    generalize hH1 : upd (upd H p0 (.lst [V.int 0])) z (.lst (L (nums (List.replicate (48 - d.length) (0 : UInt8))))) = H1 at s1
    have hz : H1 z = some (.lst (L (nums (List.replicate (48 - d.length) (0 : UInt8))))) := by rw [← hH1]; exact upd_same
    -- summed
    refine ⟨_, rfl, m, 8, rfl, by decide, fun H2 a1 s2 n1 h1 => ?_⟩
    refine ⟨_, rfl, kind, 2, rfl, by decide, fun H3 a2 s3 n2 h2 => ?_⟩
    refine ⟨a1, a2, _, _, rfl, rfl, s3 _ _ h1, h2, ?_, fun a3 n3 => ?_⟩
    · rw [L_length, L_length, nums_length, nums_length, bytes_length, bytes_length]; exact line_small (by decide)
    have q3 : Same H3 (upd H3 a3 (.lst (L (nums (Sa14.bytes 8 m)) ++ L (nums (Sa14.bytes 2 kind))))) := Same.up n3
    have hd3 := q3 _ _ (s3 _ _ (s2 _ _ (s1 _ _ hq)))
    refine ⟨_, rfl, q, _, rfl, .inl (SqL.of hd3), d.length, 2, ?_, by decide, fun H4 a4 s4 n4 h4 => ?_⟩
    · rw [L_length, nums_length]; rfl
    refine ⟨a3, a4, _, _, rfl, rfl, s4 _ _ upd_same, h4, ?_, fun a5 n5 => ?_⟩
    · simp only [List.length_append, List.length_map, nums_length, bytes_length]; exact line_small (by decide)
    refine ⟨_, rfl, ?_⟩
    have e5 := Same.up n5 (o := HO.lst (L (nums (Sa14.bytes 8 m)) ++ L (nums (Sa14.bytes 2 kind)) ++ L (nums (Sa14.bytes 2 d.length))))
    refine ⟨a5, q, _, _, rfl, rfl, upd_same, e5 _ _ (s4 _ _ hd3), ?_, fun a6 n6 => ?_⟩
    · simp only [List.length_append, List.length_map, nums_length, bytes_length]; exact line_small (by omega)
    have e6 := Same.up n6 (o := HO.lst (L (nums (Sa14.bytes 8 m)) ++ L (nums (Sa14.bytes 2 kind)) ++ L (nums (Sa14.bytes 2 d.length)) ++ L (nums d)))
    refine ⟨_, rfl, ?_⟩
    refine ⟨a6, z, _, _, rfl, rfl, upd_same, e6 _ _ (e5 _ _ (s4 _ _ (q3 _ _ (s3 _ _ (s2 _ _ hz))))), ?_, fun a7 n7 => ?_⟩
    · simp only [List.length_append, List.length_map, nums_length, bytes_length, List.length_replicate]; exact line_small (by omega)
    have el : L (nums (Sa14.bytes 8 m)) ++ L (nums (Sa14.bytes 2 kind)) ++ L (nums (Sa14.bytes 2 d.length)) ++ L (nums d) ++ L (nums (List.replicate (48 - d.length) (0 : UInt8))) = L (nums (front m ⟨kind, d⟩)) := by
      unfold front
      simp only [nums_append, ← L_append, List.append_assoc]
    rw [el]
    have e7 := Same.up n7 (o := HO.lst (L (nums (front m ⟨kind, d⟩))))
    -- return
    refine ⟨_, rfl, _, rfl, a7, front m ⟨kind, d⟩, rfl, SqL.of upd_same, fun H6 a8 s6 n8 h8 => ?_⟩
    refine ⟨a7, a8, _, _, rfl, rfl, s6 _ _ upd_same, h8, ?_, fun a9 n9 => ?_⟩
    · simp only [List.length_map, nums_length, bytes_length, front_length (x := ⟨kind, d⟩) hd]; exact line_small (by decide)
    have sA : Same H H6 := s1.trans (s2.trans (s3.trans (q3.trans (s4.trans (e5.trans (e6.trans (e7.trans s6)))))))
    refine k _ a9 (sA.trans (Same.up n9)) (sA.free n9) ?_
    rw [upd_same, L_append, ← nums_append, made_front]

theorem scRenumbered : FnScope ["slot", "number", "summed"] ["slot", "number"] (defScope sRenumbered) := ⟨rfl, rfl, rfl, by decide +kernel, rfl, by decide +kernel, by decide +kernel⟩
theorem ok_renumbered_slot (F : Df K mg "renumbered_slot" sRenumbered ["slot", "number"]) (c1 : Cn mg "KIND_AT" 8) (c2 : Cn mg "SUM_AT" 60)
    (FN : Fn P w K mg base "number_bytes" 1 ["number", "width"] spNumberBytes) (FS : Fn P w K mg base "sum_bytes" 2 ["data"] (spSumBytes K)) : Fn P w K mg base "renumbered_slot" 3 ["slot", "number"] (spRenumbered K) := by
  refine F.ok scRenumbered (fun vs H Q E h => ?_) (fun f cdv A outer s H vs Q E hr h => ?_)
  · obtain ⟨q, b, m, m0, rfl, _⟩ := h
    rfl
  · obtain ⟨q, b, m, m0, rfl, hS, hl, hm, k⟩ := h
    have hr1 : Room 1 _ := hr.mono (by decide)
    refine ⟨_, pss_cons (ps_set (i := 2) scRenumbered.nd rfl (Or.inl rfl) (pe_op op_cat (pe_fn FN hr1 rfl (pa_cons (pv 1) (pa_cons pe_int pa_nil))) (pe_slice sl_list (pv 0) (po_some (pe_cn c1 rfl)) (po_some (pe_cn c2 rfl)))))
      (pss_one (ps_ret (pe_op op_cat (pv 2) (pe_fn FS hr rfl (pa_cons (pv 2) pa_nil))))), ?_⟩
    refine ⟨_, rfl, m, 8, rfl, by decide, fun H1 a1 s1 n1 h1 => ?_⟩
    refine ⟨_, rfl, _, rfl, _, rfl, q, _, rfl, s1.seq hS, fun p2 n2 => ?_⟩
    have e1 := cutV_to (nums b) 8 60 (by decide)
    rw [← nums_drop, ← nums_take] at e1
    have e1 : cutV (L (nums b)) (some 8) (some 60) = L (nums ((b.drop 8).take 52)) := e1
    rw [e1]
    have t2 := Same.up n2 (o := HO.lst (L (nums ((b.drop 8).take 52))))
    refine ⟨a1, p2, _, _, rfl, rfl, t2 _ _ h1, upd_same, ?_, fun p3 n3 => ?_⟩
    · simp only [List.length_map, nums_length, List.length_take, bytes_length]
      exact line_small (by omega)
    rw [L_append, ← nums_append, renum hl hm m]
    have hx : (msg b).bytes.length ≤ 48 := by rw [msg_len hl hm.2.1]; exact hm.2.1
    have s3 := s1.trans (t2.trans (Same.up n3 (o := HO.lst (L (nums (front m (msg b)))))))
    refine ⟨_, rfl, _, rfl, p3, front m (msg b), rfl, SqL.of upd_same, fun H6 a8 s6 n8 h8 => ?_⟩
    refine ⟨p3, a8, _, _, rfl, rfl, s6 _ _ upd_same, h8, ?_, fun a9 n9 => ?_⟩
    · simp only [List.length_map, nums_length, bytes_length, front_length hx]; exact line_small (by decide)
    have sA := s3.trans s6
    refine k _ a9 (sA.trans (Same.up n9)) (sA.free n9) ?_
    rw [upd_same, L_append, ← nums_append, made_front]

/-! ### lists of ints, equal or not -/
theorem dp_ints {H : Hp} : ∀ l : List Int, DpAll K H (L l) (l.map PyData.int)
  | [] => .nil
  | z :: l => .cons (.int z) (dp_ints l)
theorem eqv_ints : ∀ l r : List Int, PyData.eqvAll (l.map PyData.int) (r.map PyData.int) = decide (l = r)
  | [], [] => by simp [PyData.eqvAll]
  | [], y :: r => by simp [PyData.eqvAll]
  | x :: l, [] => by simp [PyData.eqvAll]
  | x :: l, y :: r => by
    rw [List.map_cons, List.map_cons, PyData.eqvAll, eqv_ints l r, PyData.eqv]
    by_cases h : x = y <;> by_cases h2 : l = r <;> simp [h, h2]
theorem nums_inj {a b : Bytes} (h : nums a = nums b) : a = b := by
  have e : ∀ l : Bytes, byts (nums l) = l := fun l => by
    unfold byts nums
    rw [List.map_map]
    conv => rhs; rw [← List.map_id l]
    apply List.map_congr_left
    intro x _
    show UInt8.ofNat (x.toNat : Int).toNat = x
    rw [Int.toNat_natCast, UInt8.ofNat_toNat]
  rw [← e a, ← e b, h]
theorem sum_iff {b : Bytes} (hl : b.length = 64) : nums (b.drop 60) = nums (Sa14.bytes 4 (Sa14.sum (b.take 60))) ↔ Sa14.at_ b 60 4 = Sa14.sum (b.take 60) := by
  have e4 : (b.drop 60).take 4 = b.drop 60 := List.take_of_length_le (by rw [List.length_drop]; omega)
  constructor
  · intro h
    rw [at_val, e4, nums_inj h]
    exact val_bytes_lt (sum_lt _)
  · intro h
    rw [← h, bytes_at (by omega), e4]

theorem scMessageLength : FnScope ["slot"] ["slot"] (defScope sMessageLength) := ⟨rfl, rfl, rfl, by decide +kernel, rfl, by decide +kernel, by decide +kernel⟩
theorem ok_message_length (F : Df K mg "message_length" sMessageLength ["slot"]) (c1 : Cn mg "LENGTH_AT" 10) (FR : Fn P w K mg base "read_number" 1 ["memory", "at", "width"] (spReadNumber K)) : Fn P w K mg base "message_length" 2 ["slot"] (spMessageLength K) := by
  refine F.ok scMessageLength (fun vs H Q E h => ?_) (fun f cdv A outer s H vs Q E hr h => ?_)
  · obtain ⟨a, b, rfl, _⟩ := h
    rfl
  · obtain ⟨a, b, rfl, hS, k⟩ := h
    refine ⟨_, pss_one (ps_ret (pe_fn FR hr rfl (pa_cons (pv 0) (pa_cons (pe_cn c1 rfl) (pa_cons pe_int pa_nil))))), ?_⟩
    exact ⟨_, rfl, a, b, 10, 2, rfl, hS, k⟩

theorem scIsSound : FnScope ["slot", "number", "length", "byte"] ["slot", "number"] (defScope sIsSound) := ⟨rfl, rfl, rfl, by decide +kernel, rfl, by decide +kernel, by decide +kernel⟩
theorem ok_is_sound (F : Df K mg "is_sound" sIsSound ["slot", "number"]) (c1 : Cn mg "NUMBER_AT" 0) (c2 : Cn mg "MOST_DATA" 48) (c3 : Cn mg "DATA_AT" 12) (c4 : Cn mg "SUM_AT" 60)
    (FR : Fn P w K mg base "read_number" 1 ["memory", "at", "width"] (spReadNumber K)) (FS : Fn P w K mg base "sum_bytes" 2 ["data"] (spSumBytes K)) (FM : Fn P w K mg base "message_length" 2 ["slot"] (spMessageLength K)) : Fn P w K mg base "is_sound" 3 ["slot", "number"] (spIsSound K) := by
  refine F.ok scIsSound (fun vs H Q E h => ?_) (fun f cdv A outer s H vs Q E hr h => ?_)
  · obtain ⟨a, b, m, rfl, _⟩ := h
    rfl
  · obtain ⟨a, b, m, rfl, hS, hl, k⟩ := h
    have hr1 : Room 1 _ := hr.mono (by decide)
    refine ⟨_, pss_cons (ps_set (i := 2) scIsSound.nd rfl (Or.inl rfl) (pe_fn FM hr rfl (pa_cons (pv 0) pa_nil)))
      (pss_cons (ps_if (PW.pt (pw_or (pt_cmpR op_ne (pe_fn FR hr1 rfl (pa_cons (pv 0) (pa_cons (pe_cn c1 rfl) (pa_cons pe_int pa_nil)))) (pv 1) (nomark _)) (pw_or1 (pt_cmpR op_gt (pv 2) (pe_cn c2 rfl) (nomark _))))) (pss_one (ps_ret pe_bl)) pss_nil)
      (pss_cons (ps_for PassesOwn.never rfl (pi_list (pe_slice sl_list (pv 0) (po_some (pe_op op_add (pe_cn c3 rfl) (pv 2))) (po_some (pe_cn c4 rfl)))) (pg_name (i := 3) scIsSound.nd rfl (Or.inl rfl))
        (pss_one (ps_if (pt_cmpR op_ne (pv 3) pe_int (nomark _)) (pss_one (ps_ret pe_bl)) pss_nil)))
      (pss_one (ps_ret (pe_cmpR (op_eqD hr.units) (pe_slice sl_list (pv 0) (po_some (pe_cn c4 rfl)) po_none) (pe_fn FS hr rfl (pa_cons (pe_slice sl_list (pv 0) po_none (po_some (pe_cn c4 rfl))) pa_nil)) (nomark _)))))), ?_⟩
    refine ⟨_, rfl, a, b, rfl, hS, fun H1 s1 => ?_⟩
    have hS1 := s1.seq hS
    refine ⟨_, rfl, a, b, 0, 8, rfl, hS1, fun H2 s2 => ?_⟩
    have s12 := s1.trans s2
    refine ⟨_, rfl, rfl, _, rfl, ?_⟩
    refine ite2 (fun h1 => ?_) (fun h1 => ?_)
    · -- the number is another
      refine iteT ?_
      refine k _ false s12 ⟨fun q => (by cases q), fun q => ?_⟩
      rw [q.1] at h1
      simp at h1
    have h1 : Sa14.at_ b 0 8 = m := by
      by_cases e : Sa14.at_ b 0 8 = m
      · exact e
      · exfalso
        apply h1
        rw [decide_eq_false (fun q => e (by have := V.int.inj q; omega))]
        rfl
    refine ⟨_, rfl, _, _, rfl, rfl, _, rfl, ?_⟩
    refine ite2 (fun h2 => ?_) (fun h2 => ?_)
    · have h2 : (48 : Int) < (Sa14.at_ b 10 2 : Nat) := of_decide_eq_true h2
      refine k _ false s12 ⟨fun q => (by cases q), fun q => ?_⟩
      have := q.2.1
      omega
    have h2 : Sa14.at_ b 10 2 ≤ 48 := by
      by_cases e : Sa14.at_ b 10 2 ≤ 48
      · exact e
      · exact absurd (decide_eq_true (show (48 : Int) < (Sa14.at_ b 10 2 : Nat) by omega)) h2
    refine ⟨_, rfl, _, rfl, _, _, rfl, rfl, _, rfl, _, rfl, a, _, rfl, s12.seq hS, fun p np => ?_⟩
    have ec := cutV_to (nums b) (12 + Sa14.at_ b 10 2) 60 (by omega)
    rw [← nums_drop, ← nums_take, Int.natCast_add, show 60 - (12 + Sa14.at_ b 10 2) = 48 - Sa14.at_ b 10 2 by omega] at ec
    have ec : cutV (L (nums b)) (some (12 + (Sa14.at_ b 10 2 : Int))) (some 60) = L (nums ((b.drop (12 + Sa14.at_ b 10 2)).take (48 - Sa14.at_ b 10 2))) := ec
    rw [ec]
    have s3 := s12.trans (Same.up np (o := HO.lst (L (nums ((b.drop (12 + Sa14.at_ b 10 2)).take (48 - Sa14.at_ b 10 2))))))
    refine ⟨p, rfl, ⟨_, SqL.of upd_same⟩, for_list (K := K) (a := p) (xs := L (nums ((b.drop (12 + Sa14.at_ b 10 2)).take (48 - Sa14.at_ b 10 2))))
      (fun i σ H' => ∃ v : Option V, σ = [some (.ref a), some (.int m), some (.int (Sa14.at_ b 10 2)), v] ∧ H' = upd H2 p (.lst (L (nums ((b.drop (12 + Sa14.at_ b 10 2)).take (48 - Sa14.at_ b 10 2))))) ∧
        ∀ x ∈ ((b.drop (12 + Sa14.at_ b 10 2)).take (48 - Sa14.at_ b 10 2)).take i, x = 0) ⟨none, rfl, rfl, by simp⟩ (fun i σ H' _ ⟨_, _, e, _⟩ => by rw [e]; exact SqL.of upd_same) ?_ ?_⟩
    · rintro i y σ H' hy ⟨v, rfl, rfl, hz⟩
      obtain ⟨z, hz', rfl⟩ := L_get hy
      obtain ⟨x, hx, rfl⟩ := nums_at hz'
      refine ⟨_, rfl, rfl, _, rfl, ?_⟩
      refine ite2 (fun h3 => ?_) (fun h3 => ?_)
      · refine k _ false s3 ⟨fun q => (by cases q), fun q => ?_⟩
        have e0 := q.2.2.1 x (List.mem_of_getElem? hx)
        subst e0
        simp at h3
      · refine ⟨some (.int (x.toNat : Int)), rfl, rfl, ?_⟩
        have e0 : x = 0 := by
          by_cases e : x = 0
          · exact e
          · exfalso
            apply h3
            rw [decide_eq_false (fun q => e (by have q' := V.int.inj q; exact UInt8.toNat_inj.mp (by show x.toNat = 0; omega)))]
            rfl
        intro x' hx'
        rw [take_snoc hx] at hx'
        rcases List.mem_append.mp hx' with h | h
        · exact hz x' h
        · rw [List.mem_singleton.mp h]; exact e0
    · rintro σ H' ⟨v, rfl, rfl, hz⟩
      rw [L_length, nums_length, List.take_length] at hz
      have hS3 := s3.seq hS
      refine ⟨_, rfl, _, rfl, a, _, rfl, hS3, fun p1 np1 => ?_⟩
      have ec1 := cutV_from (nums b) 60
      rw [← nums_drop] at ec1
      have ec1 : cutV (L (nums b)) (some 60) none = L (nums (b.drop 60)) := ec1
      rw [ec1]
      have s4 := Same.up np1 (o := HO.lst (L (nums (b.drop 60))))
      refine ⟨_, rfl, _, rfl, a, _, rfl, s4.seq hS3, fun p2 np2 => ?_⟩
      have ec2 := cutV_upto (nums b) 60
      rw [← nums_take] at ec2
      have ec2 : cutV (L (nums b)) none (some 60) = L (nums (b.take 60)) := ec2
      rw [ec2]
      have s5 := Same.up np2 (o := HO.lst (L (nums (b.take 60))))
      refine ⟨p2, b.take 60, rfl, SqL.of upd_same, fun H5 p5 s6 n5 h5 => ?_⟩
      have h1' : H5 p1 = some (.lst (L (nums (b.drop 60)))) := s6 _ _ (s5 _ _ upd_same)
      refine ⟨_, _, .lst (SqL.of h1') (dp_ints _), .lst (SqL.of h5) (dp_ints _), PySem.W.ke_shaped_ints _, PySem.W.ke_shaped_ints _, ?_⟩
      rw [PyData.eqv, eqv_ints]
      refine k _ _ (s3.trans (s4.trans (s5.trans s6))) ⟨fun q => ⟨h1, h2, hz, (sum_iff hl).mp (of_decide_eq_true q)⟩, fun q => decide_eq_true ((sum_iff hl).mpr q.2.2.2)⟩

theorem scTellMessage : FnScope ["slot"] ["slot"] (defScope sTellMessage) := ⟨rfl, rfl, rfl, by decide +kernel, rfl, by decide +kernel, by decide +kernel⟩
theorem ok_tell_message (F : Df K mg "tell_message" sTellMessage ["slot"]) (c1 : Cn mg "KIND_AT" 8) (c2 : Cn mg "LENGTH_AT" 10) (c3 : Cn mg "DATA_AT" 12) (c4 : Cn mg "SUM_AT" 60) (FM : Fn P w K mg base "message_length" 2 ["slot"] (spMessageLength K)) : Fn P w K mg base "tell_message" 3 ["slot"] (spTellMessage K) := by
  refine F.ok scTellMessage (fun vs H Q E h => ?_) (fun f cdv A outer s H vs Q E hr h => ?_)
  · obtain ⟨a, b, rfl, _⟩ := h
    rfl
  · obtain ⟨a, b, rfl, hS, k⟩ := h
    refine ⟨_, pss_one (ps_ret (pe_op op_cat (pe_op op_cat (pe_lst (pa_cons (pe_fn FM hr rfl (pa_cons (pv 0) pa_nil)) pa_nil)) (pe_slice sl_list (pv 0) (po_some (pe_cn c1 rfl)) (po_some (pe_cn c2 rfl)))) (pe_slice sl_list (pv 0) (po_some (pe_cn c3 rfl)) (po_some (pe_cn c4 rfl))))), ?_⟩
    refine ⟨_, rfl, a, b, rfl, hS, fun H1 s1 => ?_⟩
    refine ⟨(by show 1 ≤ sizeLine; decide), fun p1 n1 => ?_⟩
    have s2 := s1.trans (Same.up n1 (o := HO.lst [V.int (Sa14.at_ b 10 2)]))
    refine ⟨_, rfl, _, rfl, _, rfl, a, _, rfl, s2.seq hS, fun p2 n2 => ?_⟩
    have e1 := cutV_to (nums b) 8 10 (by decide)
    rw [← nums_drop, ← nums_take] at e1
    have e1 : cutV (L (nums b)) (some 8) (some 10) = L (nums ((b.drop 8).take 2)) := e1
    rw [e1]
    have t2 := Same.up n2 (o := HO.lst (L (nums ((b.drop 8).take 2))))
    refine ⟨p1, p2, _, _, rfl, rfl, t2 _ _ upd_same, upd_same, ?_, fun p3 n3 => ?_⟩
    · simp only [List.length_map, nums_length, List.length_take]
      exact line_small (by show 1 + _ ≤ _; omega)
    have t3 := Same.up n3 (o := HO.lst ([V.int (Sa14.at_ b 10 2)] ++ L (nums ((b.drop 8).take 2))))
    have s3 := s2.trans (t2.trans t3)
    refine ⟨_, rfl, _, rfl, _, rfl, a, _, rfl, s3.seq hS, fun p4 n4 => ?_⟩
    have e2 := cutV_to (nums b) 12 60 (by decide)
    rw [← nums_drop, ← nums_take] at e2
    have e2 : cutV (L (nums b)) (some 12) (some 60) = L (nums ((b.drop 12).take 48)) := e2
    rw [e2]
    have t4 := Same.up n4 (o := HO.lst (L (nums ((b.drop 12).take 48))))
    refine ⟨p3, p4, _, _, rfl, rfl, t4 _ _ upd_same, upd_same, ?_, fun p5 n5 => ?_⟩
    · simp only [List.length_append, List.length_map, nums_length, List.length_take]
      exact line_small (by show 1 + _ + _ ≤ _; omega)
    have s4 := s3.trans t4
    refine k _ p5 (s4.trans (Same.up n5)) (s4.free n5) ?_
    rw [upd_same, nums_append]
    show _ = some (HO.lst (V.int _ :: L (_ ++ _)))
    rw [← L_append]
    rfl
end
end My
end
section
set_option Elab.async false
set_option linter.all false
set_option maxRecDepth 100000
namespace My
open PySem PySem.Spec PyProof.Rows L2
open Sa14 (Bytes)
open Sx40Neutral (nums byts)
abbrev sNewRing : Stmt := top 29
abbrev sReadHead : Stmt := top 30
abbrev sReadTail : Stmt := top 31
abbrev sSetHead : Stmt := top 32
abbrev sSetTail : Stmt := top 33
abbrev sCountWaiting : Stmt := top 34
abbrev sPlaceOf : Stmt := top 35
abbrev sReadSlot : Stmt := top 36
abbrev sWriteSlot : Stmt := top 37

/-- the ring at a -/
def Rg (H : Hp) (a : Addr) (b : Bytes) : Prop := H a = some (.lst (L (nums b))) ∧ b.length = 16448
theorem Rg.sq {K : PySem.W.Frag} {H : Hp} {a : Addr} {b : Bytes} (r : Rg H a b) : SqL K H a (L (nums b)) := SqL.of r.1
theorem Rg.same {H H' : Hp} {a : Addr} {b : Bytes} (r : Rg H a b) (s : Same H H') : Rg H' a b := ⟨s _ _ r.1, r.2⟩

def spNewRing : Sp := fun vs H Q _ => vs = [] ∧ New H (nums Sx40.init) Q
def spReadN (g : Bytes → Nat) : Sp := fun vs H Q _ => ∃ (a : Addr) (b : Bytes), vs = [.ref a] ∧ Rg H a b ∧ ∀ H' : Hp, Same H H' → Q (.int (g b)) H'
def spSetN (g : Bytes → Nat → Bytes) : Sp := fun vs H Q _ => ∃ (a : Addr) (b : Bytes) (n : Nat), vs = [.ref a, .int n] ∧ Rg H a b ∧ ∀ H' : Hp, Ch a H H' → Rg H' a (g b n) → Q .non H'
def spPlaceOf : Sp := fun vs H Q _ => ∃ m : Nat, vs = [.int m] ∧ Q (.int (Sa14.place m)) H
def spReadSlot : Sp := fun vs H Q _ => ∃ (a : Addr) (b : Bytes) (m : Nat), vs = [.ref a, .int m] ∧ Rg H a b ∧ New H (nums (Sa14.slot b m)) Q
def spWriteSlot (K : PySem.W.Frag) : Sp := fun vs H Q _ => ∃ (a q : Addr) (b s : Bytes) (m : Nat), vs = [.ref a, .int m, .ref q] ∧ q ≠ a ∧ Rg H a b ∧ SqL K H q (L (nums s)) ∧ s.length = 64 ∧ ∀ H' : Hp, Ch a H H' → Rg H' a (Sa14.setSlot b m s) → Q .non H'

theorem setHead_eq (b : Bytes) (n : Nat) : Sa14.setHead b n = Sa14.put b 0 (Sa14.bytes 8 n) := by
  unfold Sa14.setHead
  rw [show Sa14.W = 256 ^ 8 from by decide, bytes_mod]
theorem setTail_eq (b : Bytes) (n : Nat) : Sa14.setTail b n = Sa14.put b 8 (Sa14.bytes 8 n) := by
  unfold Sa14.setTail
  rw [show Sa14.W = 256 ^ 8 from by decide, bytes_mod]
theorem setHead_length {b : Bytes} (h : b.length = 16448) (n : Nat) : (Sa14.setHead b n).length = 16448 := by
  rw [setHead_eq, put_length (by rw [bytes_length]; omega), h]
theorem setTail_length {b : Bytes} (h : b.length = 16448) (n : Nat) : (Sa14.setTail b n).length = 16448 := by
  rw [setTail_eq, put_length (by rw [bytes_length]; omega), h]
theorem setSlot_length {b s : Bytes} (h : b.length = 16448) (hs : s.length = 64) (m : Nat) : (Sa14.setSlot b m s).length = 16448 := by
  unfold Sa14.setSlot
  have := place_lt m
  rw [put_length (by omega), h]
theorem waiting_int (b : Bytes) : ((Sa14.tail b : Int) - (Sa14.head b : Int)) % 18446744073709551616 = (Sa14.waiting b : Nat) := by
  unfold Sa14.waiting
  have h1 := head_lt b
  have h2 := tail_lt b
  have e : Sa14.W = 18446744073709551616 := by decide
  rw [e] at h1 h2 ⊢
  omega
section
variable {P : Program} {w : World} {K : PySem.W.Frag} {mg : Str → Option Value} {base : Heap}

theorem scNewRing : FnScope [] [] (defScope sNewRing) := ⟨rfl, rfl, rfl, by decide +kernel, rfl, by decide +kernel, by decide +kernel⟩
theorem ok_new_ring (F : Df K mg "new_ring" sNewRing []) (c1 : Cn mg "RING_SIZE" 16448) : Fn P w K mg base "new_ring" 1 [] spNewRing := by
  refine F.ok scNewRing (fun vs H Q E h => ?_) (fun f cdv A outer s H vs Q E hr h => ?_)
  · obtain ⟨rfl, _⟩ := h
    rfl
  · obtain ⟨rfl, k⟩ := h
    refine ⟨_, pss_one (ps_ret (pe_op op_rep (pe_lst (pa_cons pe_int pa_nil)) (pe_cn c1 rfl))), ?_⟩
    refine ⟨(by show 1 ≤ sizeLine; decide), fun p n => ?_⟩
    refine ⟨p, _, _, rfl, rfl, upd_same, by decide, by decide, ?_, fun z nz => ?_⟩
    · exact line_small (by decide)
    have s1 := Same.up n (o := HO.lst [V.int 0])
    refine k _ z (s1.trans (Same.up nz)) (s1.free nz) ?_
    rw [upd_same, zeros_L]
    rfl

theorem scReadHead : FnScope ["ring"] ["ring"] (defScope sReadHead) := ⟨rfl, rfl, rfl, by decide +kernel, rfl, by decide +kernel, by decide +kernel⟩
theorem ok_read_head (F : Df K mg "read_head" sReadHead ["ring"]) (c1 : Cn mg "HEAD_AT" 0) (FR : Fn P w K mg base "read_number" 1 ["memory", "at", "width"] (spReadNumber K)) : Fn P w K mg base "read_head" 2 ["ring"] (spReadN Sa14.head) := by
  refine F.ok scReadHead (fun vs H Q E h => ?_) (fun f cdv A outer s H vs Q E hr h => ?_)
  · obtain ⟨a, b, rfl, _⟩ := h
    rfl
  · obtain ⟨a, b, rfl, hR, k⟩ := h
    refine ⟨_, pss_one (ps_ret (pe_fn FR hr rfl (pa_cons (pv 0) (pa_cons (pe_cn c1 rfl) (pa_cons pe_int pa_nil))))), ?_⟩
    exact ⟨_, rfl, a, b, 0, 8, rfl, hR.sq, k⟩
theorem scReadTail : FnScope ["ring"] ["ring"] (defScope sReadTail) := ⟨rfl, rfl, rfl, by decide +kernel, rfl, by decide +kernel, by decide +kernel⟩
theorem ok_read_tail (F : Df K mg "read_tail" sReadTail ["ring"]) (c1 : Cn mg "TAIL_AT" 8) (FR : Fn P w K mg base "read_number" 1 ["memory", "at", "width"] (spReadNumber K)) : Fn P w K mg base "read_tail" 2 ["ring"] (spReadN Sa14.tail) := by
  refine F.ok scReadTail (fun vs H Q E h => ?_) (fun f cdv A outer s H vs Q E hr h => ?_)
  · obtain ⟨a, b, rfl, _⟩ := h
    rfl
  · obtain ⟨a, b, rfl, hR, k⟩ := h
    refine ⟨_, pss_one (ps_ret (pe_fn FR hr rfl (pa_cons (pv 0) (pa_cons (pe_cn c1 rfl) (pa_cons pe_int pa_nil))))), ?_⟩
    exact ⟨_, rfl, a, b, 8, 8, rfl, hR.sq, k⟩

theorem scSetHead : FnScope ["ring", "number"] ["ring", "number"] (defScope sSetHead) := ⟨rfl, rfl, rfl, by decide +kernel, rfl, by decide +kernel, by decide +kernel⟩
theorem ok_set_head (F : Df K mg "set_head" sSetHead ["ring", "number"]) (c1 : Cn mg "HEAD_AT" 0) (FN : Fn P w K mg base "number_bytes" 1 ["number", "width"] spNumberBytes) (FW : Fn P w K mg base "write_bytes" 1 ["memory", "at", "data"] (spWriteBytes K)) : Fn P w K mg base "set_head" 2 ["ring", "number"] (spSetN Sa14.setHead) := by
  refine F.ok scSetHead (fun vs H Q E h => ?_) (fun f cdv A outer s H vs Q E hr h => ?_)
  · obtain ⟨a, b, n, rfl, _⟩ := h
    rfl
  · obtain ⟨a, b, n, rfl, hR, k⟩ := h
    refine ⟨_, pss_one (ps_expr (pe_fn FW hr rfl (pa_cons (pv 0) (pa_cons (pe_cn c1 rfl) (pa_cons (pe_fn FN hr rfl (pa_cons (pv 1) (pa_cons pe_int pa_nil))) pa_nil))))), ?_⟩
    refine ⟨_, rfl, _, rfl, n, 8, rfl, by decide, fun H1 q s1 nq hq => ?_⟩
    refine ⟨a, q, b, Sa14.bytes 8 n, 0, rfl, (ne_of_none hR.1 nq).symm, s1 _ _ hR.1, SqL.of hq, by rw [bytes_length, hR.2]; decide, fun H2 c2 h2 => ?_⟩
    rw [← setHead_eq] at h2
    exact k H2 (Ch.of s1 c2) ⟨h2, setHead_length hR.2 n⟩
theorem scSetTail : FnScope ["ring", "number"] ["ring", "number"] (defScope sSetTail) := ⟨rfl, rfl, rfl, by decide +kernel, rfl, by decide +kernel, by decide +kernel⟩
theorem ok_set_tail (F : Df K mg "set_tail" sSetTail ["ring", "number"]) (c1 : Cn mg "TAIL_AT" 8) (FN : Fn P w K mg base "number_bytes" 1 ["number", "width"] spNumberBytes) (FW : Fn P w K mg base "write_bytes" 1 ["memory", "at", "data"] (spWriteBytes K)) : Fn P w K mg base "set_tail" 2 ["ring", "number"] (spSetN Sa14.setTail) := by
  refine F.ok scSetTail (fun vs H Q E h => ?_) (fun f cdv A outer s H vs Q E hr h => ?_)
  · obtain ⟨a, b, n, rfl, _⟩ := h
    rfl
  · obtain ⟨a, b, n, rfl, hR, k⟩ := h
    refine ⟨_, pss_one (ps_expr (pe_fn FW hr rfl (pa_cons (pv 0) (pa_cons (pe_cn c1 rfl) (pa_cons (pe_fn FN hr rfl (pa_cons (pv 1) (pa_cons pe_int pa_nil))) pa_nil))))), ?_⟩
    refine ⟨_, rfl, _, rfl, n, 8, rfl, by decide, fun H1 q s1 nq hq => ?_⟩
    refine ⟨a, q, b, Sa14.bytes 8 n, 8, rfl, (ne_of_none hR.1 nq).symm, s1 _ _ hR.1, SqL.of hq, by rw [bytes_length, hR.2]; decide, fun H2 c2 h2 => ?_⟩
    rw [← setTail_eq] at h2
    exact k H2 (Ch.of s1 c2) ⟨h2, setTail_length hR.2 n⟩

theorem scCountWaiting : FnScope ["ring"] ["ring"] (defScope sCountWaiting) := ⟨rfl, rfl, rfl, by decide +kernel, rfl, by decide +kernel, by decide +kernel⟩
theorem ok_count_waiting (F : Df K mg "count_waiting" sCountWaiting ["ring"]) (c1 : Cn mg "NUMBERS_END" 18446744073709551616) (FH : Fn P w K mg base "read_head" 2 ["ring"] (spReadN Sa14.head)) (FT : Fn P w K mg base "read_tail" 2 ["ring"] (spReadN Sa14.tail)) : Fn P w K mg base "count_waiting" 3 ["ring"] (spReadN Sa14.waiting) := by
  refine F.ok scCountWaiting (fun vs H Q E h => ?_) (fun f cdv A outer s H vs Q E hr h => ?_)
  · obtain ⟨a, b, rfl, _⟩ := h
    rfl
  · obtain ⟨a, b, rfl, hR, k⟩ := h
    refine ⟨_, pss_one (ps_ret (pe_op op_mod (pe_op op_sub (pe_fn FT hr rfl (pa_cons (pv 0) pa_nil)) (pe_fn FH hr rfl (pa_cons (pv 0) pa_nil))) (pe_cn c1 rfl))), ?_⟩
    refine ⟨_, rfl, a, b, rfl, hR, fun H1 s1 => ?_⟩
    refine ⟨_, rfl, a, b, rfl, hR.same s1, fun H2 s2 => ?_⟩
    refine ⟨_, _, rfl, rfl, _, _, rfl, rfl, (by show (0 : Int) < 18446744073709551616; decide), ?_⟩
    show Q (V.int _) H2
    rw [waiting_int]
    exact k _ (s1.trans s2)

theorem scPlaceOf : FnScope ["number"] ["number"] (defScope sPlaceOf) := ⟨rfl, rfl, rfl, by decide +kernel, rfl, by decide +kernel, by decide +kernel⟩
theorem ok_place_of (F : Df K mg "place_of" sPlaceOf ["number"]) (c1 : Cn mg "SLOTS_AT" 64) (c2 : Cn mg "SLOT_SIZE" 64) (c3 : Cn mg "SLOT_COUNT" 256) : Fn P w K mg base "place_of" 1 ["number"] spPlaceOf := by
  refine F.ok scPlaceOf (fun vs H Q E h => ?_) (fun f cdv A outer s H vs Q E hr h => ?_)
  · obtain ⟨m, rfl, _⟩ := h
    rfl
  · obtain ⟨m, rfl, k⟩ := h
    refine ⟨_, pss_one (ps_ret (pe_op op_add (pe_cn c1 rfl) (pe_op op_mul (pe_cn c2 rfl) (pe_op op_mod (pv 0) (pe_cn c3 rfl))))), ?_⟩
    refine ⟨_, rfl, _, _, rfl, rfl, (by show (0 : Int) < 256; decide), _, _, rfl, rfl, .inl ⟨by decide, by decide⟩, _, _, rfl, rfl, ?_⟩
    have e : (64 : Int) + 64 * ((m : Int) % 256) = (Sa14.place m : Nat) := by
      unfold Sa14.place Sa14.SLOTS
      omega
    show Q (V.int _) H
    rw [e]
    exact k

theorem scReadSlot : FnScope ["ring", "number", "at"] ["ring", "number"] (defScope sReadSlot) := ⟨rfl, rfl, rfl, by decide +kernel, rfl, by decide +kernel, by decide +kernel⟩
theorem ok_read_slot (F : Df K mg "read_slot" sReadSlot ["ring", "number"]) (c1 : Cn mg "SLOT_SIZE" 64) (FP : Fn P w K mg base "place_of" 1 ["number"] spPlaceOf) : Fn P w K mg base "read_slot" 2 ["ring", "number"] spReadSlot := by
  refine F.ok scReadSlot (fun vs H Q E h => ?_) (fun f cdv A outer s H vs Q E hr h => ?_)
  · obtain ⟨a, b, m, rfl, _⟩ := h
    rfl
  · obtain ⟨a, b, m, rfl, hR, k⟩ := h
    refine ⟨_, pss_cons (ps_set (i := 2) scReadSlot.nd rfl (Or.inl rfl) (pe_fn FP hr rfl (pa_cons (pv 1) pa_nil)))
      (pss_one (ps_ret (pe_slice sl_list (pv 0) (po_some (pv 2)) (po_some (pe_op op_add (pv 2) (pe_cn c1 rfl)))))), ?_⟩
    refine ⟨_, rfl, m, rfl, ?_⟩
    refine ⟨_, rfl, _, rfl, _, rfl, _, rfl, _, _, rfl, rfl, _, rfl, a, _, rfl, hR.sq, fun p np => ?_⟩
    have e := cutV_at (nums b) (Sa14.place m) 64
    rw [← nums_drop, ← nums_take, Int.natCast_add] at e
    have e : cutV (L (nums b)) (some (Sa14.place m : Int)) (some ((Sa14.place m : Int) + 64)) = L (nums (Sa14.slot b m)) := e
    rw [e]
    exact k _ p (Same.up np) np upd_same

theorem scWriteSlot : FnScope ["ring", "number", "slot"] ["ring", "number", "slot"] (defScope sWriteSlot) := ⟨rfl, rfl, rfl, by decide +kernel, rfl, by decide +kernel, by decide +kernel⟩
theorem ok_write_slot (F : Df K mg "write_slot" sWriteSlot ["ring", "number", "slot"]) (FP : Fn P w K mg base "place_of" 1 ["number"] spPlaceOf) (FW : Fn P w K mg base "write_bytes" 1 ["memory", "at", "data"] (spWriteBytes K)) : Fn P w K mg base "write_slot" 2 ["ring", "number", "slot"] (spWriteSlot K) := by
  refine F.ok scWriteSlot (fun vs H Q E h => ?_) (fun f cdv A outer s H vs Q E hr h => ?_)
  · obtain ⟨a, q, b, sl, m, rfl, _⟩ := h
    rfl
  · obtain ⟨a, q, b, sl, m, rfl, hne, hR, hS, hl, k⟩ := h
    refine ⟨_, pss_one (ps_expr (pe_fn FW hr rfl (pa_cons (pv 0) (pa_cons (pe_fn FP hr rfl (pa_cons (pv 1) pa_nil)) (pa_cons (pv 2) pa_nil))))), ?_⟩
    refine ⟨_, rfl, _, rfl, m, rfl, _, rfl, ?_⟩
    refine ⟨a, q, b, sl, Sa14.place m, rfl, hne, hR.1, hS, ?_, fun H2 c2 h2 => ?_⟩
    · have := place_lt m
      rw [hR.2, hl]; exact this
    · exact k H2 c2 ⟨h2, setSlot_length hR.2 hl m⟩
end
end My
end
section
set_option Elab.async false
set_option linter.all false
set_option maxRecDepth 100000
namespace My
open PySem PySem.Spec PyProof.Rows L2
open Sa14 (Bytes)
open Sx40Neutral (nums byts)
abbrev sRgBegin : Stmt := top 45
abbrev sRgPut : Stmt := top 46
abbrev sSoundSlot : Stmt := top 47
abbrev sTellWaiting : Stmt := top 48
abbrev sRgTake : Stmt := top 49
abbrev sRgLook : Stmt := top 50
abbrev sRgWait : Stmt := top 51
abbrev sRgSound : Stmt := top 52
abbrev sSoundSlots : Stmt := top 53
abbrev sRgMend : Stmt := top 54
abbrev sRgSum : Stmt := top 55
abbrev sOthersWrite : Stmt := top 56
abbrev sOthersLook : Stmt := top 57

/-! ### tests that are known -/
theorem iteY {c A B : Prop} [Decidable c] (hc : c) (h : A) : if decide c = true then A else B := by
  rw [decide_eq_true hc]
  exact iteT h
theorem iteN {c A B : Prop} [Decidable c] (hc : ¬ c) (h : B) : if decide c = true then A else B := by
  rw [decide_eq_false hc]
  exact iteF h
theorem iteNotY {c A B : Prop} [Decidable c] (hc : c) (h : B) : if (!decide c) = true then A else B := by
  rw [decide_eq_true hc]
  exact iteF h
theorem iteNotN {c A B : Prop} [Decidable c] (hc : ¬ c) (h : A) : if (!decide c) = true then A else B := by
  rw [decide_eq_false hc]
  exact iteT h
theorem ref_non {p : Addr} : ¬ V.ref p = V.non := fun z => by cases z

/-- a call's end: the ring at a is b', a new list l is handed back -/
def Ans (a : Addr) (H : Hp) (b' : Bytes) (l : List Int) (Q : VK) : Prop := ∀ (H' : Hp) (p : Addr), Ch a H H' → Rg H' a b' → H p = none → H' p = some (.lst (L l)) → Q (.ref p) H'
abbrev AnsA (a : Addr) (H : Hp) (x : Sa14.Ans) (Q : VK) : Prop := Ans a H x.ring (x.value :: nums x.out) Q
theorem Ans.fin {a p : Addr} {H H1 : Hp} {b' : Bytes} {l : List Int} {Q : VK} (k : Ans a H b' l Q) (c : Ch a H H1) (r : Rg H1 a b') (n : H1 p = none) {xs : List V} (e : xs = L l) : Q (.ref p) (upd H1 p (.lst xs)) :=
  k _ p (c.of' (Same.up n)) (r.same (Same.up n)) (c.free (ne_of_none r.1 n).symm n) (by rw [upd_same, e])
theorem Ans.new {a : Addr} {H : Hp} {b : Bytes} {l : List Int} {Q : VK} (k : Ans a H b l Q) (r : Rg H a b) : New H l Q := fun H' p s n e => k H' p (Same.ch s a) (r.same s) n e

def spOp0 (o : Sa14.Op) : Sp := fun vs H Q _ => ∃ (a : Addr) (b : Bytes), vs = [.ref a] ∧ Rg H a b ∧ AnsA a H (Sx40.act b o) Q
def spOp1 (o : Int → Sa14.Op) : Sp := fun vs H Q _ => ∃ (a : Addr) (b : Bytes) (z : Int), vs = [.ref a, .int z] ∧ Rg H a b ∧ AnsA a H (Sx40.act b (o z)) Q
def spPut : Sp := fun vs H Q _ => ∃ (a q : Addr) (b d : Bytes) (kind : Nat), vs = [.ref a, .int kind, .ref q] ∧ q ≠ a ∧ Rg H a b ∧ H q = some (.lst (L (nums d))) ∧ d.length ≤ 48 ∧ AnsA a H (Sx40.act b (.put kind d (d.length : Int))) Q
/-- what tell_waiting tells -/
def tw (b : Bytes) (k : Nat) : List Int := if Sa14.right b = false then [-4] else if Sa14.waiting b ≤ k then [-1] else match Sa14.sound b ((Sa14.head b + k) % Sa14.W) with
  | some x => (x.bytes.length : Int) :: nums (Sa14.told x)
  | none => [-3]
/-- the number of the k-th that waits -/
def numAt (b : Bytes) (k : Nat) : Nat := (Sa14.head b + k) % Sa14.W
theorem numAt_lt (b : Bytes) (k : Nat) : numAt b k < Sa14.W := Nat.mod_lt _ (by decide)
theorem snd_yes {b : Bytes} {i : Nat} (hb : b.length = 16448) (h : Right (Sa14.slot b (numAt b i)) (numAt b i)) : Sa14.sound b ((Sa14.head b + i) % Sa14.W) = some (msg (Sa14.slot b (numAt b i))) := sound_yes hb (numAt_lt b i) h
theorem snd_no {b : Bytes} {i : Nat} (hb : b.length = 16448) (h : ¬ Right (Sa14.slot b (numAt b i)) (numAt b i)) : Sa14.sound b ((Sa14.head b + i) % Sa14.W) = none := sound_no hb (numAt_lt b i) h
def spSoundSlot : Sp := fun vs H Q _ => ∃ (a : Addr) (b : Bytes) (k : Nat), vs = [.ref a, .int k] ∧ Rg H a b ∧ (Right (Sa14.slot b (numAt b k)) (numAt b k) → New H (nums (Sa14.slot b (numAt b k))) Q) ∧ (¬ Right (Sa14.slot b (numAt b k)) (numAt b k) → ∀ H' : Hp, Same H H' → Q .non H')
def spTellWaiting : Sp := fun vs H Q _ => ∃ (a : Addr) (b : Bytes) (k : Nat), vs = [.ref a, .int k] ∧ Rg H a b ∧ New H (tw b k) Q
def spOthersWrite (K : PySem.W.Frag) : Sp := fun vs H Q _ => ∃ (a q : Addr) (b d : Bytes) (off : Nat), vs = [.ref a, .int off, .ref q] ∧ q ≠ a ∧ Rg H a b ∧ SqL K H q (L (nums d)) ∧ off + d.length ≤ 16448 ∧ Ans a H (Sa14.put b off d) [] Q
def spOthersLook : Sp := fun vs H Q _ => ∃ (a : Addr) (b : Bytes) (off n : Nat), vs = [.ref a, .int off, .int n] ∧ Rg H a b ∧ New H (nums ((b.drop off).take n)) Q

/-! ### the specification, call by call -/
theorem right_iff (b : Bytes) : Sa14.right b = false ↔ 256 < Sa14.waiting b := by
  unfold Sa14.right Sa14.SLOTS
  rw [decide_eq_false_iff_not]
  omega
theorem act_put_wrong {b d : Bytes} {kind : Nat} (hd : d.length ≤ 48) (h : 256 < Sa14.waiting b) : Sx40.act b (.put kind d (d.length : Int)) = Sa14.no (-4) b := by
  have hw : Sa14.within (d.length : Int) Sa14.MOST = true := by
    unfold Sa14.within Sa14.MOST
    simp
    omega
  unfold Sx40.act
  dsimp only
  rw [if_neg (by rw [hw]; decide), if_pos ((right_iff b).mpr h)]
theorem act_put_full {b d : Bytes} {kind : Nat} (hd : d.length ≤ 48) (h : Sa14.waiting b = 256) : Sx40.act b (.put kind d (d.length : Int)) = Sa14.no (-1) b := by
  have hw : Sa14.within (d.length : Int) Sa14.MOST = true := by
    unfold Sa14.within Sa14.MOST
    simp
    omega
  unfold Sx40.act
  dsimp only
  rw [if_neg (by rw [hw]; decide), if_neg (by rw [right_iff]; omega), if_pos (show Sa14.waiting b = Sa14.SLOTS from h)]
theorem act_put_ok {b d : Bytes} {kind : Nat} (hd : d.length ≤ 48) (h : Sa14.waiting b < 256) : Sx40.act b (.put kind d (d.length : Int)) = Sa14.no 0 (Sa14.setTail (Sa14.setSlot b (Sa14.tail b) (Sa14.made (Sa14.tail b) ⟨kind, d⟩)) (Sa14.tail b + 1)) := by
  have hw : Sa14.within (d.length : Int) Sa14.MOST = true := by
    unfold Sa14.within Sa14.MOST
    simp
    omega
  unfold Sx40.act
  dsimp only
  rw [if_neg (by rw [hw]; decide), if_neg (by rw [right_iff]; omega), if_neg (by show ¬ _ = 256; omega)]
theorem tw_wrong {b : Bytes} {k : Nat} (h : 256 < Sa14.waiting b) : tw b k = [-4] := by
  unfold tw
  rw [if_pos ((right_iff b).mpr h)]
theorem tw_none {b : Bytes} {k : Nat} (h : ¬ 256 < Sa14.waiting b) (hk : Sa14.waiting b ≤ k) : tw b k = [-1] := by
  unfold tw
  rw [if_neg (by rw [right_iff]; exact h), if_pos hk]
theorem tw_sound {b : Bytes} {k : Nat} {x : Sa14.Msg} (h : ¬ 256 < Sa14.waiting b) (hk : ¬ Sa14.waiting b ≤ k) (hx : Sa14.sound b ((Sa14.head b + k) % Sa14.W) = some x) : tw b k = (x.bytes.length : Int) :: nums (Sa14.told x) := by
  unfold tw
  rw [if_neg (by rw [right_iff]; exact h), if_neg hk, hx]
theorem tw_damaged {b : Bytes} {k : Nat} (h : ¬ 256 < Sa14.waiting b) (hk : ¬ Sa14.waiting b ≤ k) (hx : Sa14.sound b ((Sa14.head b + k) % Sa14.W) = none) : tw b k = [-3] := by
  unfold tw
  rw [if_neg (by rw [right_iff]; exact h), if_neg hk, hx]
theorem act_look {b : Bytes} {k : Nat} (h : k ≤ 255) : (Sx40.act b (.look (k : Int))).ring = b ∧ (Sx40.act b (.look (k : Int))).value :: nums (Sx40.act b (.look (k : Int))).out = tw b k := by
  have hw : Sa14.within (k : Int) 255 = true := by
    unfold Sa14.within
    simp
    omega
  unfold Sx40.act
  dsimp only
  rw [if_neg (by rw [hw]; decide), Int.toNat_natCast]
  by_cases h1 : 256 < Sa14.waiting b
  · rw [if_pos ((right_iff b).mpr h1), tw_wrong h1]
    exact ⟨rfl, rfl⟩
  · rw [if_neg (by rw [right_iff]; exact h1)]
    by_cases h2 : Sa14.waiting b ≤ k
    · rw [if_pos (by omega), tw_none h1 h2]
      exact ⟨rfl, rfl⟩
    · rw [if_neg (by omega)]
      cases hx : Sa14.sound b ((Sa14.head b + k) % Sa14.W) with
      | some x => rw [tw_sound h1 h2 hx]; exact ⟨rfl, rfl⟩
      | none => rw [tw_damaged h1 h2 hx]; exact ⟨rfl, rfl⟩
theorem act_look_out {b : Bytes} {z : Int} (h : z < 0 ∨ 256 ≤ z) : Sx40.act b (.look z) = Sa14.no (-2) b := by
  have hw : Sa14.within z 255 = false := by
    unfold Sa14.within
    rcases h with h | h
    · rw [decide_eq_false (by omega)]; rfl
    · rw [decide_eq_false (p := z ≤ _) (by omega), Bool.and_false]
  unfold Sx40.act
  dsimp only
  rw [if_pos hw]
theorem act_take {b : Bytes} : (Sx40.act b .take).ring = (if 256 < Sa14.waiting b ∨ Sa14.waiting b = 0 then b else Sa14.setHead b (Sa14.head b + 1)) ∧ (Sx40.act b .take).value :: nums (Sx40.act b .take).out = tw b 0 := by
  have e0 : (Sa14.head b + 0) % Sa14.W = Sa14.head b := Nat.mod_eq_of_lt (head_lt b)
  unfold Sx40.act
  dsimp only
  by_cases h1 : 256 < Sa14.waiting b
  · rw [if_pos ((right_iff b).mpr h1), tw_wrong h1, if_pos (.inl h1)]
    exact ⟨rfl, rfl⟩
  · rw [if_neg (by rw [right_iff]; exact h1)]
    by_cases h2 : Sa14.waiting b = 0
    · rw [if_pos h2, tw_none h1 (by omega), if_pos (.inr h2)]
      exact ⟨rfl, rfl⟩
    · rw [if_neg h2, if_neg (by omega)]
      cases hx : Sa14.sound b (Sa14.head b) with
      | some x => rw [tw_sound h1 (by omega) (by rw [e0]; exact hx)]; exact ⟨rfl, rfl⟩
      | none => rw [tw_damaged h1 (by omega) (by rw [e0]; exact hx)]; exact ⟨rfl, rfl⟩
theorem act_wait_out {b : Bytes} {z : Int} (h : z < 0 ∨ 1000 < z) : Sx40.act b (.wait z) = Sa14.no (-2) b := by
  have hw : Sa14.within z 1000 = false := by
    unfold Sa14.within
    rcases h with h | h
    · rw [decide_eq_false (by omega)]; rfl
    · rw [decide_eq_false (p := z ≤ _) (by omega), Bool.and_false]
  unfold Sx40.act
  dsimp only
  rw [if_pos hw]
theorem act_wait {b : Bytes} {z : Int} (h : 0 ≤ z) (h' : z ≤ 1000) : Sx40.act b (.wait z) = if 256 < Sa14.waiting b then Sa14.no (-4) b else Sa14.no (Sa14.waiting b : Int) b := by
  have hw : Sa14.within z 1000 = true := by
    unfold Sa14.within
    simp
    omega
  unfold Sx40.act
  dsimp only
  rw [if_neg (by rw [hw]; decide)]
  by_cases h1 : 256 < Sa14.waiting b
  · rw [if_pos h1, if_pos ((right_iff b).mpr h1)]
  · rw [if_neg h1, if_neg (by rw [right_iff]; exact h1)]
theorem act_begin (b : Bytes) : Sx40.act b .begin_ = Sa14.no 0 (Sa14.setTail (Sa14.setHead b 0) 0) := rfl

section
variable {P : Program} {w : World} {K : PySem.W.Frag} {mg : Str → Option Value} {base : Heap}

theorem scRgBegin : FnScope ["ring"] ["ring"] (defScope sRgBegin) := ⟨rfl, rfl, rfl, by decide +kernel, rfl, by decide +kernel, by decide +kernel⟩
theorem ok_rg_begin (F : Df K mg "rg_begin" sRgBegin ["ring"]) (FH : Fn P w K mg base "set_head" 2 ["ring", "number"] (spSetN Sa14.setHead)) (FT : Fn P w K mg base "set_tail" 2 ["ring", "number"] (spSetN Sa14.setTail)) : Fn P w K mg base "rg_begin" 3 ["ring"] (spOp0 .begin_) := by
  refine F.ok scRgBegin (fun vs H Q E h => ?_) (fun f cdv A outer s H vs Q E hr h => ?_)
  · obtain ⟨a, b, rfl, _⟩ := h
    rfl
  · obtain ⟨a, b, rfl, hR, k⟩ := h
    refine ⟨_, pss_cons (ps_expr (pe_fn FH hr rfl (pa_cons (pv 0) (pa_cons pe_int pa_nil)))) (pss_cons (ps_expr (pe_fn FT hr rfl (pa_cons (pv 0) (pa_cons pe_int pa_nil)))) (pss_one (ps_ret (pe_lst (pa_cons pe_int pa_nil))))), ?_⟩
    refine ⟨_, rfl, a, b, 0, rfl, hR, fun H1 c1 r1 => ?_⟩
    refine ⟨_, rfl, a, _, 0, rfl, r1, fun H2 c2 r2 => ?_⟩
    refine ⟨(by show 1 ≤ sizeLine; decide), fun p n => ?_⟩
    exact k.fin (c1.trans c2) r2 n rfl

theorem scRgPut : FnScope ["ring", "kind", "data", "waiting", "tail"] ["ring", "kind", "data"] (defScope sRgPut) := ⟨rfl, rfl, rfl, by decide +kernel, rfl, by decide +kernel, by decide +kernel⟩
theorem ok_rg_put (F : Df K mg "rg_put" sRgPut ["ring", "kind", "data"]) (c1 : Cn mg "SLOT_COUNT" 256) (c2 : Cn mg "NUMBERS_WRONG" (-4)) (c3 : Cn mg "NOT_NOW" (-1))
    (FC : Fn P w K mg base "count_waiting" 3 ["ring"] (spReadN Sa14.waiting)) (FR : Fn P w K mg base "read_tail" 2 ["ring"] (spReadN Sa14.tail)) (FM : Fn P w K mg base "make_slot" 3 ["number", "kind", "data"] spMakeSlot)
    (FW : Fn P w K mg base "write_slot" 2 ["ring", "number", "slot"] (spWriteSlot K)) (FT : Fn P w K mg base "set_tail" 2 ["ring", "number"] (spSetN Sa14.setTail)) : Fn P w K mg base "rg_put" 4 ["ring", "kind", "data"] spPut := by
  refine F.ok scRgPut (fun vs H Q E h => ?_) (fun f cdv A outer s H vs Q E hr h => ?_)
  · obtain ⟨a, q, b, d, kind, rfl, _⟩ := h
    rfl
  · obtain ⟨a, q, b, d, kind, rfl, hne, hR, hq, hd, k⟩ := h
    have hr2 : Room 2 _ := hr.mono (by decide)
    refine ⟨_, pss_cons (ps_set (i := 3) scRgPut.nd rfl (Or.inl rfl) (pe_fn FC hr rfl (pa_cons (pv 0) pa_nil)))
      (pss_cons (ps_if (pt_cmpR op_gt (pv 3) (pe_cn c1 rfl) (nomark _)) (pss_one (ps_ret (pe_lst (pa_cons (pe_cn c2 rfl) pa_nil)))) pss_nil)
      (pss_cons (ps_if (pt_cmpR op_eq (pv 3) (pe_cn c1 rfl) (nomark _)) (pss_one (ps_ret (pe_lst (pa_cons (pe_cn c3 rfl) pa_nil)))) pss_nil)
      (pss_cons (ps_set (i := 4) scRgPut.nd rfl (Or.inl rfl) (pe_fn FR hr2 rfl (pa_cons (pv 0) pa_nil)))
      (pss_cons (ps_expr (pe_fn FW hr2 rfl (pa_cons (pv 0) (pa_cons (pv 4) (pa_cons (pe_fn FM hr rfl (pa_cons (pv 4) (pa_cons (pv 1) (pa_cons (pv 2) pa_nil)))) pa_nil)))))
      (pss_cons (ps_expr (pe_fn FT hr2 rfl (pa_cons (pv 0) (pa_cons (pe_op op_add (pv 4) pe_int) pa_nil))))
      (pss_one (ps_ret (pe_lst (pa_cons pe_int pa_nil))))))))), ?_⟩
    refine ⟨_, rfl, a, b, rfl, hR, fun H1 s1 => ?_⟩
    refine ⟨_, rfl, _, _, rfl, rfl, _, rfl, ?_⟩
    refine ite2 (fun h1 => ?_) (fun h1 => ?_)
    · have h1 : (256 : Int) < (Sa14.waiting b : Nat) := of_decide_eq_true h1
      rw [act_put_wrong hd (by omega)] at k
      exact ⟨(by show 1 ≤ sizeLine; decide), fun p n => k.fin (Same.ch s1 a) (hR.same s1) n rfl⟩
    have h1 : ¬ (256 : Int) < (Sa14.waiting b : Nat) := fun q => h1 (decide_eq_true q)
    refine ⟨_, rfl, rfl, _, rfl, ?_⟩
    refine ite2 (fun h2 => ?_) (fun h2 => ?_)
    · have h2 := V.int.inj (of_decide_eq_true h2)
      rw [act_put_full hd (by omega)] at k
      exact ⟨(by show 1 ≤ sizeLine; decide), fun p n => k.fin (Same.ch s1 a) (hR.same s1) n rfl⟩
    have h2 : ¬ Sa14.waiting b = 256 := fun q => h2 (decide_eq_true (by rw [q]; rfl))
    rw [act_put_ok hd (by omega)] at k
    refine ⟨_, rfl, a, b, rfl, hR.same s1, fun H2 s2 => ?_⟩
    have s12 := s1.trans s2
    refine ⟨_, rfl, _, rfl, _, rfl, _, rfl, _, rfl, Sa14.tail b, kind, q, d, rfl, s12 _ _ hq, hd, fun H3 p s3 np hp => ?_⟩
    have s13 := s12.trans s3
    refine ⟨a, p, b, _, Sa14.tail b, rfl, (ne_of_none (s12 _ _ hR.1) np).symm, hR.same s13, SqL.of hp, made_length hd, fun H4 c4 r4 => ?_⟩
    refine ⟨_, rfl, _, rfl, _, _, rfl, rfl, a, _, Sa14.tail b + 1, rfl, r4, fun H5 c5 r5 => ?_⟩
    refine ⟨(by show 1 ≤ sizeLine; decide), fun p n => ?_⟩
    exact k.fin ((Ch.of s13 c4).trans c5) r5 n rfl

theorem scSoundSlot : FnScope ["ring", "k", "number", "slot"] ["ring", "k"] (defScope sSoundSlot) := ⟨rfl, rfl, rfl, by decide +kernel, rfl, by decide +kernel, by decide +kernel⟩
theorem ok_sound_slot (F : Df K mg "sound_slot" sSoundSlot ["ring", "k"]) (c4 : Cn mg "NUMBERS_END" 18446744073709551616) (FR : Fn P w K mg base "read_head" 2 ["ring"] (spReadN Sa14.head)) (FS : Fn P w K mg base "read_slot" 2 ["ring", "number"] spReadSlot)
    (FI : Fn P w K mg base "is_sound" 3 ["slot", "number"] (spIsSound K)) : Fn P w K mg base "sound_slot" 4 ["ring", "k"] spSoundSlot := by
  refine F.ok scSoundSlot (fun vs H Q E h => ?_) (fun f cdv A outer s H vs Q E hr h => ?_)
  · obtain ⟨a, b, i, rfl, _⟩ := h
    rfl
  · obtain ⟨a, b, i, rfl, hR, kY, kN⟩ := h
    have hr2 : Room 2 _ := hr.mono (by decide)
    refine ⟨_, pss_cons (ps_set (i := 2) scSoundSlot.nd rfl (Or.inl rfl) (pe_op op_mod (pe_op op_add (pe_fn FR hr2 rfl (pa_cons (pv 0) pa_nil)) (pv 1)) (pe_cn c4 rfl)))
      (pss_cons (ps_set (i := 3) scSoundSlot.nd rfl (Or.inl rfl) (pe_fn FS hr2 rfl (pa_cons (pv 0) (pa_cons (pv 2) pa_nil))))
      (pss_cons (ps_if (pt_val (pe_fn FI hr rfl (pa_cons (pv 3) (pa_cons (pv 2) pa_nil)))) (pss_one (ps_ret (pv 3))) pss_nil)
      (pss_one (ps_ret pe_non)))), ?_⟩
    refine ⟨_, rfl, a, b, rfl, hR, fun H2 s2 => ?_⟩
    refine ⟨_, rfl, _, _, rfl, rfl, _, _, rfl, rfl, (by show (0 : Int) < 18446744073709551616; decide), ?_⟩
    have em : ((Sa14.head b : Int) + (i : Int)) % 18446744073709551616 = ((numAt b i : Nat) : Int) := by
      unfold numAt
      rw [show Sa14.W = 18446744073709551616 by decide]
      omega
    generalize numAt b i = m at em kY kN
    refine ⟨_, rfl, _, rfl, a, b, m, ?_, hR.same s2, fun H3 q s3 nq hq => ?_⟩
    · show [V.ref a, V.int _] = _
      rw [em]
    have s13 := s2.trans s3
    refine ⟨_, rfl, _, rfl, q, Sa14.slot b m, m, ?_, SqL.of hq, slot_length hR.2 m, fun H4 r s4 hr4 => ?_⟩
    · show [V.ref q, V.int _] = _
      rw [em]
    have s14 := s13.trans s4
    refine ⟨r, rfl, ?_⟩
    refine ite2 (fun h3 => ?_) (fun h3 => ?_)
    · exact ⟨_, rfl, kY (hr4.mp h3) H4 q s14 (s2.free nq) (s4 _ _ hq)⟩
    · exact kN (fun z => h3 (hr4.mpr z)) H4 s14

theorem scTellWaiting : FnScope ["ring", "k", "waiting", "slot"] ["ring", "k"] (defScope sTellWaiting) := ⟨rfl, rfl, rfl, by decide +kernel, rfl, by decide +kernel, by decide +kernel⟩
theorem ok_tell_waiting (F : Df K mg "tell_waiting" sTellWaiting ["ring", "k"]) (c1 : Cn mg "SLOT_COUNT" 256) (c2 : Cn mg "NUMBERS_WRONG" (-4)) (c3 : Cn mg "NOT_NOW" (-1)) (c5 : Cn mg "DAMAGED" (-3))
    (FC : Fn P w K mg base "count_waiting" 3 ["ring"] (spReadN Sa14.waiting)) (FS : Fn P w K mg base "sound_slot" 4 ["ring", "k"] spSoundSlot) (FM : Fn P w K mg base "tell_message" 3 ["slot"] (spTellMessage K)) : Fn P w K mg base "tell_waiting" 5 ["ring", "k"] spTellWaiting := by
  refine F.ok scTellWaiting (fun vs H Q E h => ?_) (fun f cdv A outer s H vs Q E hr h => ?_)
  · obtain ⟨a, b, i, rfl, _⟩ := h
    rfl
  · obtain ⟨a, b, i, rfl, hR, k⟩ := h
    have hr3 : Room 3 _ := hr.mono (by decide)
    refine ⟨_, pss_cons (ps_set (i := 2) scTellWaiting.nd rfl (Or.inl rfl) (pe_fn FC hr3 rfl (pa_cons (pv 0) pa_nil)))
      (pss_cons (ps_if (pt_cmpR op_gt (pv 2) (pe_cn c1 rfl) (nomark _)) (pss_one (ps_ret (pe_lst (pa_cons (pe_cn c2 rfl) pa_nil)))) pss_nil)
      (pss_cons (ps_if (pt_cmpR op_le (pv 2) (pv 1) (nomark _)) (pss_one (ps_ret (pe_lst (pa_cons (pe_cn c3 rfl) pa_nil)))) pss_nil)
      (pss_cons (ps_set (i := 3) scTellWaiting.nd rfl (Or.inl rfl) (pe_fn FS hr rfl (pa_cons (pv 0) (pa_cons (pv 1) pa_nil))))
      (pss_cons (ps_if (pt_cmpR op_isN (pv 3) pe_non (nomark _)) (pss_one (ps_ret (pe_lst (pa_cons (pe_cn c5 rfl) pa_nil)))) pss_nil)
      (pss_one (ps_ret (pe_fn FM hr3 rfl (pa_cons (pv 3) pa_nil)))))))), ?_⟩
    refine ⟨_, rfl, a, b, rfl, hR, fun H1 s1 => ?_⟩
    refine ⟨_, rfl, _, _, rfl, rfl, _, rfl, ?_⟩
    refine ite2 (fun h1 => ?_) (fun h1 => ?_)
    · have h1 : (256 : Int) < (Sa14.waiting b : Nat) := of_decide_eq_true h1
      rw [tw_wrong (by omega)] at k
      exact ⟨(by show 1 ≤ sizeLine; decide), fun p n => k _ p (s1.trans (Same.up n)) (s1.free n) upd_same⟩
    have h1 : ¬ (256 : Int) < (Sa14.waiting b : Nat) := fun q => h1 (decide_eq_true q)
    refine ⟨_, rfl, _, rfl, _, _, rfl, rfl, _, rfl, ?_⟩
    refine ite2 (fun h2 => ?_) (fun h2 => ?_)
    · have h2 : (Sa14.waiting b : Int) ≤ (i : Int) := of_decide_eq_true h2
      rw [tw_none (by omega) (by omega)] at k
      exact ⟨(by show 1 ≤ sizeLine; decide), fun p n => k _ p (s1.trans (Same.up n)) (s1.free n) upd_same⟩
    have h2 : ¬ (Sa14.waiting b : Int) ≤ (i : Int) := fun q => h2 (decide_eq_true q)
    have hm := numAt_lt b i
    refine ⟨_, rfl, _, rfl, a, b, i, rfl, hR.same s1, fun h3 H4 q s4 nq hq => ?_, fun h3 H4 s4 => ?_⟩
    · refine ⟨_, rfl, rfl, _, rfl, iteN ref_non ?_⟩
      have s14 := s1.trans s4
      rw [tw_sound (by omega) (by omega) (snd_yes hR.2 h3), told_slot (slot_length hR.2 _) h3, msg_len (slot_length hR.2 _) h3.2.1] at k
      exact ⟨_, rfl, q, _, rfl, SqL.of hq, fun H5 p s5 n e => k H5 p (s14.trans s5) (s14.free n) e⟩
    · refine ⟨_, rfl, rfl, _, rfl, iteY rfl ?_⟩
      have s14 := s1.trans s4
      rw [tw_damaged (by omega) (by omega) (snd_no hR.2 h3)] at k
      exact ⟨(by show 1 ≤ sizeLine; decide), fun p n => k _ p (s14.trans (Same.up n)) (s14.free n) upd_same⟩
end
end My
end
section
set_option Elab.async false
set_option linter.all false
set_option maxRecDepth 100000
namespace My
open PySem PySem.Spec PyProof.Rows L2
open Sa14 (Bytes)
open Sx40Neutral (nums byts)
section
variable {P : Program} {w : World} {K : PySem.W.Frag} {mg : Str → Option Value} {base : Heap}

/-- the first number that tell_waiting tells -/
theorem tw_first (b : Bytes) : ∃ (z : Int) (r : List Int), tw b 0 = z :: r ∧ ((0 ≤ z ∨ z = -3) ↔ ¬ (256 < Sa14.waiting b ∨ Sa14.waiting b = 0)) := by
  by_cases h1 : 256 < Sa14.waiting b
  · exact ⟨-4, [], tw_wrong h1, by constructor <;> intro h <;> omega⟩
  · by_cases h2 : Sa14.waiting b = 0
    · exact ⟨-1, [], tw_none h1 (by omega), by constructor <;> intro h <;> omega⟩
    · cases hx : Sa14.sound b ((Sa14.head b + 0) % Sa14.W) with
      | some x => exact ⟨_, _, tw_sound h1 (by omega) hx, by constructor <;> intro h <;> omega⟩
      | none => exact ⟨-3, [], tw_damaged h1 (by omega) hx, by constructor <;> intro h <;> omega⟩

theorem scRgTake : FnScope ["ring", "told"] ["ring"] (defScope sRgTake) := ⟨rfl, rfl, rfl, by decide +kernel, rfl, by decide +kernel, by decide +kernel⟩
theorem ok_rg_take (F : Df K mg "rg_take" sRgTake ["ring"]) (c1 : Cn mg "DAMAGED" (-3)) (FW : Fn P w K mg base "tell_waiting" 5 ["ring", "k"] spTellWaiting)
    (FR : Fn P w K mg base "read_head" 2 ["ring"] (spReadN Sa14.head)) (FH : Fn P w K mg base "set_head" 2 ["ring", "number"] (spSetN Sa14.setHead)) : Fn P w K mg base "rg_take" 6 ["ring"] (spOp0 .take) := by
  refine F.ok scRgTake (fun vs H Q E h => ?_) (fun f cdv A outer s H vs Q E hr h => ?_)
  · obtain ⟨a, b, rfl, _⟩ := h
    rfl
  · obtain ⟨a, b, rfl, hR, k⟩ := h
    have hr2 : Room 2 _ := hr.mono (by decide)
    obtain ⟨z, r, ez, hz⟩ := tw_first b
    unfold AnsA at k
    rw [(act_take (b := b)).1, (act_take (b := b)).2] at k
    refine ⟨_, pss_cons (ps_set (i := 1) scRgTake.nd rfl (Or.inl rfl) (pe_fn FW hr rfl (pa_cons (pv 0) (pa_cons pe_int pa_nil))))
      (pss_cons (ps_if (PW.pt (pw_or (pt_cmpR op_ge (pe_ix ix_list (pv 1) pe_int (fun _ _ => rfl)) pe_int (nomark _)) (pw_or1 (pt_cmpR op_eq (pe_ix ix_list (pv 1) pe_int (fun _ _ => rfl)) (pe_cn c1 rfl) (nomark _)))))
        (pss_one (ps_expr (pe_fn FH hr2 rfl (pa_cons (pv 0) (pa_cons (pe_op op_add (pe_fn FR hr2 rfl (pa_cons (pv 0) pa_nil)) pe_int) pa_nil))))) pss_nil)
      (pss_one (ps_ret (pv 1)))), ?_⟩
    refine ⟨_, rfl, a, b, 0, rfl, hR, fun H1 q s1 nq hq => ?_⟩
    have hq0 : atI (L (tw b 0)) ((0 : Nat) : Int) = some (V.int z) := atI_nat (by rw [ez]; rfl)
    -- how it goes on if head is moved
    have go : ¬ (256 < Sa14.waiting b ∨ Sa14.waiting b = 0) → tFn (spSetN Sa14.setHead) (tCons (tVar 0) (tCons (tOp (rI0 fun i j => .int (i + j)) (tFn (spReadN Sa14.head) (tCons (tVar 0) tNil)) (tC (.int 1))) tNil)) [some (V.ref a), some (V.ref q)] H1 (fun _ H2 => Q (.ref q) H2) := by
      intro hn
      rw [if_neg hn] at k
      refine ⟨_, rfl, _, rfl, a, b, rfl, hR.same s1, fun H2 s2 => ?_⟩
      refine ⟨_, _, rfl, rfl, a, b, Sa14.head b + 1, rfl, hR.same (s1.trans s2), fun H3 c3 r3 => ?_⟩
      have nqa : q ≠ a := (ne_of_none hR.1 nq).symm
      exact k H3 q (Ch.of (s1.trans s2) c3) r3 nq (c3 _ _ (s2 _ _ hq) nqa)
    refine ⟨_, rfl, q, _, _, _, rfl, rfl, SqL.of hq, hq0, _, _, rfl, rfl, _, rfl, ?_⟩
    refine ite2 (fun h1 => ?_) (fun h1 => ?_)
    · have h1 : (0 : Int) ≤ z := of_decide_eq_true h1
      refine iteT ?_
      obtain ⟨v, e, g⟩ := go (hz.mp (.inl h1))
      refine ⟨v, e, ?_⟩
      obtain ⟨v2, e2, g2⟩ := g
      refine ⟨v2, e2, ?_⟩
      obtain ⟨a', b', e3, r3, g3⟩ := g2
      refine ⟨a', b', e3, r3, fun H2 s2 => ?_⟩
      obtain ⟨i, j, ei, ej, a4, b4, n4, e4, r4, g4⟩ := g3 H2 s2
      exact ⟨i, j, ei, ej, a4, b4, n4, e4, r4, fun H3 c3 r3 => ⟨_, rfl, g4 H3 c3 r3⟩⟩
    have h1 : ¬ (0 : Int) ≤ z := fun q => h1 (decide_eq_true q)
    refine ⟨_, rfl, q, _, _, _, rfl, rfl, SqL.of hq, hq0, rfl, _, rfl, ?_⟩
    refine ite2 (fun h2 => ?_) (fun h2 => ?_)
    · have h2 : z = -3 := V.int.inj (of_decide_eq_true h2)
      obtain ⟨v, e, g⟩ := go (hz.mp (.inr h2))
      refine ⟨v, e, ?_⟩
      obtain ⟨v2, e2, g2⟩ := g
      refine ⟨v2, e2, ?_⟩
      obtain ⟨a', b', e3, r3, g3⟩ := g2
      refine ⟨a', b', e3, r3, fun H2 s2 => ?_⟩
      obtain ⟨i, j, ei, ej, a4, b4, n4, e4, r4, g4⟩ := g3 H2 s2
      exact ⟨i, j, ei, ej, a4, b4, n4, e4, r4, fun H3 c3 r3 => ⟨_, rfl, g4 H3 c3 r3⟩⟩
    have h2 : ¬ z = -3 := fun q => h2 (decide_eq_true (by rw [q]))
    have hy : 256 < Sa14.waiting b ∨ Sa14.waiting b = 0 := Classical.byContradiction fun q => (hz.mpr q).elim h1 h2
    rw [if_pos hy] at k
    exact ⟨_, rfl, k H1 q (Same.ch s1 a) (hR.same s1) nq hq⟩

theorem scRgLook : FnScope ["ring", "k"] ["ring", "k"] (defScope sRgLook) := ⟨rfl, rfl, rfl, by decide +kernel, rfl, by decide +kernel, by decide +kernel⟩
theorem ok_rg_look (F : Df K mg "rg_look" sRgLook ["ring", "k"]) (c1 : Cn mg "SLOT_COUNT" 256) (c2 : Cn mg "OUT_OF_RANGE" (-2)) (FW : Fn P w K mg base "tell_waiting" 5 ["ring", "k"] spTellWaiting) : Fn P w K mg base "rg_look" 6 ["ring", "k"] (spOp1 .look) := by
  refine F.ok scRgLook (fun vs H Q E h => ?_) (fun f cdv A outer s H vs Q E hr h => ?_)
  · obtain ⟨a, b, z, rfl, _⟩ := h
    rfl
  · obtain ⟨a, b, z, rfl, hR, k⟩ := h
    refine ⟨_, pss_cons (ps_if (PW.pt (pw_or (pt_cmpR op_lt (pv 1) pe_int (nomark _)) (pw_or1 (pt_cmpR op_ge (pv 1) (pe_cn c1 rfl) (nomark _))))) (pss_one (ps_ret (pe_lst (pa_cons (pe_cn c2 rfl) pa_nil)))) pss_nil)
      (pss_one (ps_ret (pe_fn FW hr rfl (pa_cons (pv 0) (pa_cons (pv 1) pa_nil))))), ?_⟩
    refine ⟨_, rfl, _, _, rfl, rfl, _, rfl, ?_⟩
    refine ite2 (fun h1 => ?_) (fun h1 => ?_)
    · have h1 : z < 0 := of_decide_eq_true h1
      refine iteT ?_
      rw [act_look_out (.inl h1)] at k
      exact ⟨(by show 1 ≤ sizeLine; decide), fun p n => k.fin (Same.ch Same.rfl' a) hR n rfl⟩
    have h1 : ¬ z < 0 := fun q => h1 (decide_eq_true q)
    refine ⟨_, rfl, _, _, rfl, rfl, _, rfl, ?_⟩
    refine ite2 (fun h2 => ?_) (fun h2 => ?_)
    · have h2 : (256 : Int) ≤ z := of_decide_eq_true h2
      rw [act_look_out (.inr h2)] at k
      exact ⟨(by show 1 ≤ sizeLine; decide), fun p n => k.fin (Same.ch Same.rfl' a) hR n rfl⟩
    have h2 : ¬ (256 : Int) ≤ z := fun q => h2 (decide_eq_true q)
    obtain ⟨i, rfl⟩ : ∃ i : Nat, z = (i : Int) := ⟨z.toNat, by omega⟩
    unfold AnsA at k
    rw [(act_look (b := b) (k := i) (by omega)).1, (act_look (b := b) (k := i) (by omega)).2] at k
    exact ⟨_, rfl, _, rfl, a, b, i, rfl, hR, k.new hR⟩

theorem scRgWait : FnScope ["ring", "looks", "waiting", "looked_again"] ["ring", "looks"] (defScope sRgWait) := ⟨rfl, rfl, rfl, by decide +kernel, rfl, by decide +kernel, by decide +kernel⟩
theorem ok_rg_wait (F : Df K mg "rg_wait" sRgWait ["ring", "looks"]) (c1 : Cn mg "MOST_LOOKS" 1000) (c2 : Cn mg "OUT_OF_RANGE" (-2)) (c3 : Cn mg "SLOT_COUNT" 256) (c4 : Cn mg "NUMBERS_WRONG" (-4)) (FC : Fn P w K mg base "count_waiting" 3 ["ring"] (spReadN Sa14.waiting)) : Fn P w K mg base "rg_wait" 4 ["ring", "looks"] (spOp1 .wait) := by
  refine F.ok scRgWait (fun vs H Q E h => ?_) (fun f cdv A outer s H vs Q E hr h => ?_)
  · obtain ⟨a, b, z, rfl, _⟩ := h
    rfl
  · obtain ⟨a, b, z, rfl, hR, k⟩ := h
    refine ⟨_, pss_cons (ps_if (PW.pt (pw_or (pt_cmpR op_lt (pv 1) pe_int (nomark _)) (pw_or1 (pt_cmpR op_gt (pv 1) (pe_cn c1 rfl) (nomark _))))) (pss_one (ps_ret (pe_lst (pa_cons (pe_cn c2 rfl) pa_nil)))) pss_nil)
      (pss_cons (ps_set (i := 2) scRgWait.nd rfl (Or.inl rfl) (pe_fn FC hr rfl (pa_cons (pv 0) pa_nil)))
      (pss_cons (ps_set (i := 3) scRgWait.nd rfl (Or.inl rfl) pe_int)
      (pss_cons (ps_while PassesOwn.never (PW.pt (pw_and (pt_cmpR op_eq (pv 2) pe_int (nomark _)) (pw_and1 (pt_cmpR op_lt (pv 3) (pv 1) (nomark _)))))
        (pss_cons (ps_set (i := 2) scRgWait.nd rfl (Or.inl rfl) (pe_fn FC hr rfl (pa_cons (pv 0) pa_nil))) (pss_one (ps_set (i := 3) scRgWait.nd rfl (Or.inl rfl) (pe_op op_add (pv 3) pe_int)))))
      (pss_cons (ps_if (pt_cmpR op_gt (pv 2) (pe_cn c3 rfl) (nomark _)) (pss_one (ps_ret (pe_lst (pa_cons (pe_cn c4 rfl) pa_nil)))) pss_nil)
      (pss_one (ps_ret (pe_lst (pa_cons (pv 2) pa_nil)))))))), ?_⟩
    refine ⟨_, rfl, _, _, rfl, rfl, _, rfl, ?_⟩
    refine ite2 (fun h1 => ?_) (fun h1 => ?_)
    · have h1 : z < 0 := of_decide_eq_true h1
      refine iteT ?_
      rw [act_wait_out (.inl h1)] at k
      exact ⟨(by show 1 ≤ sizeLine; decide), fun p n => k.fin (Same.ch Same.rfl' a) hR n rfl⟩
    have h1 : ¬ z < 0 := fun q => h1 (decide_eq_true q)
    refine ⟨_, rfl, _, _, rfl, rfl, _, rfl, ?_⟩
    refine ite2 (fun h2 => ?_) (fun h2 => ?_)
    · have h2 : (1000 : Int) < z := of_decide_eq_true h2
      rw [act_wait_out (.inr h2)] at k
      exact ⟨(by show 1 ≤ sizeLine; decide), fun p n => k.fin (Same.ch Same.rfl' a) hR n rfl⟩
    have h2 : ¬ (1000 : Int) < z := fun q => h2 (decide_eq_true q)
    rw [act_wait (by omega) (by omega)] at k
    refine ⟨_, rfl, a, b, rfl, hR, fun H1 s1 => ?_⟩
    -- behind the loop
    have fin : ∀ (v : Int) (H' : Hp), Same H H' → tSeq (tIfS (tTest (tOp (rI0 fun i j => .bl (decide (j < i))) (tVar 2) (tC (.int 256)))) (tRet (tLst (tCons (tC (.int (-4))) tNil))) tNext) (tRet (tLst (tCons (tVar 2) tNil)))
        { nx := fun _ H' => Q .non H', rt := Q } [some (V.ref a), some (.int z), some (.int (Sa14.waiting b : Nat)), some (.int v)] H' := by
      intro v H' s'
      refine ⟨_, rfl, _, _, rfl, rfl, _, rfl, ?_⟩
      refine ite2 (fun h3 => ?_) (fun h3 => ?_)
      · have h3 : (256 : Int) < (Sa14.waiting b : Nat) := of_decide_eq_true h3
        rw [if_pos (by omega)] at k
        exact ⟨(by show 1 ≤ sizeLine; decide), fun p n => k.fin (Same.ch s' a) (hR.same s') n rfl⟩
      · have h3 : ¬ (256 : Int) < (Sa14.waiting b : Nat) := fun q => h3 (decide_eq_true q)
        rw [if_neg (by omega)] at k
        exact ⟨_, rfl, (by show 1 ≤ sizeLine; decide), fun p n => k.fin (Same.ch s' a) (hR.same s') n rfl⟩
    refine ⟨fun m σ H' => ∃ v : Int, σ = [some (V.ref a), some (.int z), some (.int (Sa14.waiting b : Nat)), some (.int v)] ∧ Same H H' ∧ m = (z - v).toNat, ⟨_, 0, rfl, s1, rfl⟩, ?_⟩
    rintro m σ H' ⟨v, rfl, s', rfl⟩
    refine ⟨_, rfl, rfl, _, rfl, ?_⟩
    refine ite2 (fun h3 => ?_) (fun h3 => iteF (fin v H' s'))
    refine ⟨_, rfl, _, rfl, _, _, rfl, rfl, _, rfl, ?_⟩
    refine ite2 (fun h4 => ?_) (fun h4 => fin v H' s')
    have h4 : v < z := of_decide_eq_true h4
    refine ⟨fun σ' H'' => ∃ v' : Int, v < v' ∧ σ' = [some (V.ref a), some (.int z), some (.int (Sa14.waiting b : Nat)), some (.int v')] ∧ Same H H'', ?_, ?_⟩
    · rintro σ' H'' ⟨v', hv, rfl, s''⟩
      exact ⟨_, by omega, v', rfl, s'', rfl⟩
    · refine ⟨_, rfl, a, b, rfl, hR.same s', fun H2 s2 => ?_⟩
      refine ⟨_, rfl, _, _, rfl, rfl, v + 1, by omega, rfl, s'.trans s2⟩

theorem scOthersWrite : FnScope ["ring", "at", "data"] ["ring", "at", "data"] (defScope sOthersWrite) := ⟨rfl, rfl, rfl, by decide +kernel, rfl, by decide +kernel, by decide +kernel⟩
theorem ok_others_write (F : Df K mg "others_write" sOthersWrite ["ring", "at", "data"]) (FW : Fn P w K mg base "write_bytes" 1 ["memory", "at", "data"] (spWriteBytes K)) : Fn P w K mg base "others_write" 2 ["ring", "at", "data"] (spOthersWrite K) := by
  refine F.ok scOthersWrite (fun vs H Q E h => ?_) (fun f cdv A outer s H vs Q E hr h => ?_)
  · obtain ⟨a, q, b, d, off, rfl, _⟩ := h
    rfl
  · obtain ⟨a, q, b, d, off, rfl, hne, hR, hS, hle, k⟩ := h
    refine ⟨_, pss_cons (ps_expr (pe_fn FW hr rfl (pa_cons (pv 0) (pa_cons (pv 1) (pa_cons (pv 2) pa_nil))))) (pss_one (ps_ret (pe_lst pa_nil))), ?_⟩
    refine ⟨_, rfl, _, rfl, _, rfl, a, q, b, d, off, rfl, hne, hR.1, hS, by rw [hR.2]; exact hle, fun H1 c1 h1 => ?_⟩
    exact ⟨Nat.zero_le _, fun p n => k.fin c1 ⟨h1, by rw [put_length (by rw [hR.2]; exact hle), hR.2]⟩ n rfl⟩

theorem scOthersLook : FnScope ["ring", "at", "count"] ["ring", "at", "count"] (defScope sOthersLook) := ⟨rfl, rfl, rfl, by decide +kernel, rfl, by decide +kernel, by decide +kernel⟩
theorem ok_others_look (F : Df K mg "others_look" sOthersLook ["ring", "at", "count"]) : Fn P w K mg base "others_look" 1 ["ring", "at", "count"] spOthersLook := by
  refine F.ok scOthersLook (fun vs H Q E h => ?_) (fun f cdv A outer s H vs Q E hr h => ?_)
  · obtain ⟨a, b, off, n, rfl, _⟩ := h
    rfl
  · obtain ⟨a, b, off, n, rfl, hR, k⟩ := h
    refine ⟨_, pss_one (ps_ret (pe_slice sl_list (pv 0) (po_some (pv 1)) (po_some (pe_op op_add (pv 1) (pv 2))))), ?_⟩
    refine ⟨_, rfl, _, rfl, _, rfl, _, rfl, _, rfl, _, _, rfl, rfl, _, rfl, a, _, rfl, hR.sq, fun p np => ?_⟩
    have e := cutV_at (nums b) off n
    rw [← nums_drop, ← nums_take, Int.natCast_add] at e
    rw [e]
    exact k _ p (Same.up np) np upd_same
end
end My
end
section
set_option Elab.async false
set_option linter.all false
set_option maxRecDepth 100000
namespace My
open PySem PySem.Spec PyProof.Rows L2
open Sa14 (Bytes)
open Sx40Neutral (nums byts)
def spSum (K : PySem.W.Frag) : Sp := fun vs H Q _ => ∃ (q : Addr) (d : Bytes), vs = [.ref q] ∧ SqL K H q (L (nums d)) ∧ New H (0 :: nums (Sa14.bytes 4 (Sa14.sum d))) Q
/-- copies of right slots, new since H0: the messages that they tell -/
def KeptAt (H0 H : Hp) (rs : List Addr) (ms : List Sa14.Msg) : Prop := rs.length = ms.length ∧ ∀ (i : Nat) (r : Addr), rs[i]? = some r → ∃ (s : Bytes) (m : Nat), H0 r = none ∧ H r = some (.lst (L (nums s))) ∧ s.length = 64 ∧ Right s m ∧ ms[i]? = some (msg s)
theorem KeptAt.nil {H0 H : Hp} : KeptAt H0 H [] [] := ⟨rfl, fun i r h => by cases h⟩
theorem KeptAt.mono {H0 H H' : Hp} {rs : List Addr} {ms : List Sa14.Msg} (k : KeptAt H0 H rs ms) (h : ∀ r ∈ rs, ∀ o, H r = some o → H' r = some o) : KeptAt H0 H' rs ms := by
  refine ⟨k.1, fun i r hr => ?_⟩
  obtain ⟨s, m, h0, h1, h2, h3, h4⟩ := k.2 i r hr
  exact ⟨s, m, h0, h r (List.mem_of_getElem? hr) _ h1, h2, h3, h4⟩
theorem KeptAt.snoc {H0 H : Hp} {rs : List Addr} {ms : List Sa14.Msg} {q : Addr} {s : Bytes} {m : Nat} (k : KeptAt H0 H rs ms) (h0 : H0 q = none) (h1 : H q = some (.lst (L (nums s)))) (h2 : s.length = 64) (h3 : Right s m) : KeptAt H0 H (rs ++ [q]) (ms ++ [msg s]) := by
  refine ⟨by rw [List.length_append, List.length_append, k.1]; rfl, fun i r hr => ?_⟩
  by_cases hi : i < rs.length
  · rw [List.getElem?_append_left hi] at hr
    obtain ⟨s', m', q0, q1, q2, q3, q4⟩ := k.2 i r hr
    exact ⟨s', m', q0, q1, q2, q3, by rw [List.getElem?_append_left (by rw [← k.1]; exact hi)]; exact q4⟩
  · rw [List.getElem?_append_right (by omega)] at hr
    have e : i - rs.length = 0 := by
      have := (List.getElem?_eq_some_iff.mp hr).1
      rw [List.length_singleton] at this
      omega
    rw [e] at hr
    have er : q = r := Option.some.inj hr
    subst er
    refine ⟨s, m, h0, h1, h2, h3, ?_⟩
    rw [List.getElem?_append_right (by rw [← k.1]; omega), ← k.1, e]
    rfl
def spSoundSlots : Sp := fun vs H Q _ => ∃ (a : Addr) (b : Bytes) (n : Nat), vs = [.ref a, .int n] ∧ Rg H a b ∧ n ≤ 256 ∧
  ∀ (H' : Hp) (p : Addr) (rs : List Addr), Same H H' → H p = none → H' p = some (.lst (rs.map V.ref)) → KeptAt H H' rs (keptTo b n) → Q (.ref p) H'
section
variable {P : Program} {w : World} {K : PySem.W.Frag} {mg : Str → Option Value} {base : Heap}

theorem scRgSum : FnScope ["data"] ["data"] (defScope sRgSum) := ⟨rfl, rfl, rfl, by decide +kernel, rfl, by decide +kernel, by decide +kernel⟩
theorem ok_rg_sum (F : Df K mg "rg_sum" sRgSum ["data"]) (FS : Fn P w K mg base "sum_bytes" 2 ["data"] (spSumBytes K)) : Fn P w K mg base "rg_sum" 3 ["data"] (spSum K) := by
  refine F.ok scRgSum (fun vs H Q E h => ?_) (fun f cdv A outer s H vs Q E hr h => ?_)
  · obtain ⟨q, d, rfl, _⟩ := h
    rfl
  · obtain ⟨q, d, rfl, hS, k⟩ := h
    refine ⟨_, pss_one (ps_ret (pe_op op_cat (pe_lst (pa_cons pe_int pa_nil)) (pe_fn FS hr rfl (pa_cons (pv 0) pa_nil)))), ?_⟩
    refine ⟨(by show 1 ≤ sizeLine; decide), fun p1 n1 => ?_⟩
    have s1 := Same.up n1 (o := HO.lst [V.int 0])
    refine ⟨_, rfl, q, d, rfl, s1.seq hS, fun H2 p2 s2 n2 h2 => ?_⟩
    refine ⟨p1, p2, _, _, rfl, rfl, s2 _ _ upd_same, h2, ?_, fun p3 n3 => ?_⟩
    · simp only [List.length_map, nums_length, bytes_length]
      exact line_small (by decide)
    have s12 := s1.trans s2
    exact k _ p3 (s12.trans (Same.up n3)) (s12.free n3) upd_same

theorem scRgSound : FnScope ["ring", "waiting", "sound", "marks", "mark", "k"] ["ring"] (defScope sRgSound) := ⟨rfl, rfl, rfl, by decide +kernel, rfl, by decide +kernel, by decide +kernel⟩
theorem ok_rg_sound (F : Df K mg "rg_sound" sRgSound ["ring"]) (hrng : mg "range" = none) (c1 : Cn mg "SLOT_COUNT" 256) (c2 : Cn mg "NUMBERS_WRONG" (-4)) (c3 : Cn mg "MARKS_SIZE" 32)
    (FC : Fn P w K mg base "count_waiting" 3 ["ring"] (spReadN Sa14.waiting)) (FS : Fn P w K mg base "sound_slot" 4 ["ring", "k"] spSoundSlot) (FN : Fn P w K mg base "number_bytes" 1 ["number", "width"] spNumberBytes) : Fn P w K mg base "rg_sound" 5 ["ring"] (spOp0 .sound) := by
  refine F.ok scRgSound (fun vs H Q E h => ?_) (fun f cdv A outer s H vs Q E hr h => ?_)
  · obtain ⟨a, b, rfl, _⟩ := h
    rfl
  · obtain ⟨a, b, rfl, hR, k⟩ := h
    have hr1 : Room 1 _ := hr.mono (by decide)
    have hr3 : Room 3 _ := hr.mono (by decide)
    refine ⟨_, pss_cons (ps_set (i := 1) scRgSound.nd rfl (Or.inl rfl) (pe_fn FC hr3 rfl (pa_cons (pv 0) pa_nil)))
      (pss_cons (ps_if (pt_cmpR op_gt (pv 1) (pe_cn c1 rfl) (nomark _)) (pss_one (ps_ret (pe_lst (pa_cons (pe_cn c2 rfl) pa_nil)))) pss_nil)
      (pss_cons (ps_set (i := 2) scRgSound.nd rfl (Or.inl rfl) pe_int)
      (pss_cons (ps_set (i := 3) scRgSound.nd rfl (Or.inl rfl) pe_int)
      (pss_cons (ps_set (i := 4) scRgSound.nd rfl (Or.inl rfl) pe_int)
      (pss_cons (ps_for PassesOwn.never rfl (pi_range1 rfl hrng (pa_cons (pv 1) pa_nil)) (pg_name (i := 5) scRgSound.nd rfl (Or.inl rfl))
        (pss_cons (ps_if (pt_cmpR op_notN (pe_fn FS hr rfl (pa_cons (pv 0) (pa_cons (pv 5) pa_nil))) pe_non (nomark _))
          (pss_cons (ps_set (i := 2) scRgSound.nd rfl (Or.inl rfl) (pe_op op_add (pv 2) pe_int)) (pss_one (ps_set (i := 3) scRgSound.nd rfl (Or.inl rfl) (pe_op op_add (pv 3) (pv 4))))) pss_nil)
        (pss_one (ps_set (i := 4) scRgSound.nd rfl (Or.inl rfl) (pe_op op_mul (pv 4) pe_int)))))
      (pss_one (ps_ret (pe_op op_cat (pe_lst (pa_cons (pv 2) pa_nil)) (pe_fn FN hr1 rfl (pa_cons (pv 3) (pa_cons (pe_cn c3 rfl) pa_nil))))))))))), ?_⟩
    refine ⟨_, rfl, a, b, rfl, hR, fun H1 s1 => ?_⟩
    refine ⟨_, rfl, _, _, rfl, rfl, _, rfl, ?_⟩
    refine ite2 (fun h1 => ?_) (fun h1 => ?_)
    · have h1 : (256 : Int) < (Sa14.waiting b : Nat) := of_decide_eq_true h1
      rw [act_sound_wrong (by omega)] at k
      exact ⟨(by show 1 ≤ sizeLine; decide), fun p n => k.fin (Same.ch s1 a) (hR.same s1) n rfl⟩
    have h1 : ¬ (256 : Int) < (Sa14.waiting b : Nat) := fun q => h1 (decide_eq_true q)
    rw [act_sound_ok (by omega)] at k
    generalize Sa14.waiting b = wt at k h1 ⊢
    refine ⟨_, rfl, _, rfl, by omega, by omega, for_range (n := (wt : Int).toNat) (fun i σ H' => ∃ v : Option V, σ = [some (.ref a), some (.int (wt : Nat)), some (.int ((keptTo b i).length : Nat)), some (.int ((mk (flags b i) : Nat) : Int)), some (.int ((2 ^ i : Nat) : Int)), v] ∧ Same H H') ⟨none, rfl, s1⟩ ?_ ?_⟩
    · rintro i σ H' hi ⟨v, rfl, s'⟩
      have e2 : ((2 ^ i : Nat) : Int) * 2 = ((2 ^ (i + 1) : Nat) : Int) := by rw [Nat.pow_succ]; omega
      refine ⟨_, rfl, _, rfl, a, b, i, by show [V.ref a, V.int (0 + (i : Int))] = _; rw [Int.zero_add], hR.same s', fun h3 H4 q s4 nq hq => ?_, fun h3 H4 s4 => ?_⟩
      · have hx := snd_yes hR.2 h3
        refine ⟨rfl, _, rfl, iteNotN ref_non ?_⟩
        refine ⟨_, rfl, _, _, rfl, rfl, _, rfl, _, rfl, _, _, rfl, rfl, _, rfl, _, _, rfl, rfl, .inr ⟨by decide, by decide⟩, some (.int (0 + (i : Int))), ?_, s'.trans s4⟩
        have ek : (((keptTo b i).length : Nat) : Int) + 1 = ((keptTo b (i + 1)).length : Nat) := by
          rw [kept_some hx, List.length_append, List.length_singleton]
          rfl
        have em : ((mk (flags b i) : Nat) : Int) + ((2 ^ i : Nat) : Int) = ((mk (flags b (i + 1)) : Nat) : Int) := by
          rw [flags_snoc, hx, mk_snoc, flags_len, if_pos (Option.isSome_some), Int.natCast_add]
        rw [← ek, ← em, ← e2]
        rfl
      · have hx := snd_no hR.2 h3
        refine ⟨rfl, _, rfl, iteNotY rfl ?_⟩
        refine ⟨_, rfl, _, _, rfl, rfl, .inr ⟨by decide, by decide⟩, some (.int (0 + (i : Int))), ?_, s'.trans s4⟩
        have em : mk (flags b (i + 1)) = mk (flags b i) := by
          rw [flags_snoc, hx, mk_snoc, if_neg (by decide), Nat.add_zero]
        rw [kept_none hx, em, ← e2]
        rfl
    · rintro σ H' h
      rw [Int.toNat_natCast] at h
      obtain ⟨v, rfl, s'⟩ := h
      refine ⟨_, rfl, (by show 1 ≤ sizeLine; decide), fun p1 n1 => ?_⟩
      have t1 := Same.up n1 (o := HO.lst [V.int ((keptTo b (wt)).length : Nat)])
      refine ⟨_, rfl, mk (flags b (wt)), 32, rfl, by decide, fun H2 p2 s2 n2 h2 => ?_⟩
      refine ⟨p1, p2, _, _, rfl, rfl, s2 _ _ upd_same, h2, ?_, fun p3 n3 => ?_⟩
      · simp only [List.length_map, nums_length, bytes_length]
        exact line_small (by show 1 + 32 ≤ 100000; decide)
      have s3 := s'.trans (t1.trans s2)
      exact k.fin (Same.ch s3 a) (hR.same s3) n3 rfl

theorem scSoundSlots : FnScope ["ring", "waiting", "found", "k", "slot"] ["ring", "waiting"] (defScope sSoundSlots) := ⟨rfl, rfl, rfl, by decide +kernel, rfl, by decide +kernel, by decide +kernel⟩
theorem ok_sound_slots (F : Df K mg "sound_slots" sSoundSlots ["ring", "waiting"]) (hrng : mg "range" = none) (FS : Fn P w K mg base "sound_slot" 4 ["ring", "k"] spSoundSlot) : Fn P w K mg base "sound_slots" 5 ["ring", "waiting"] spSoundSlots := by
  refine F.ok scSoundSlots (fun vs H Q E h => ?_) (fun f cdv A outer s H vs Q E hr h => ?_)
  · obtain ⟨a, b, n, rfl, _⟩ := h
    rfl
  · obtain ⟨a, b, n, rfl, hR, hn, k⟩ := h
    refine ⟨_, pss_cons (ps_set (i := 2) scSoundSlots.nd rfl (Or.inl rfl) (pe_lst pa_nil))
      (pss_cons (ps_for PassesOwn.never rfl (pi_range1 rfl hrng (pa_cons (pv 1) pa_nil)) (pg_name (i := 3) scSoundSlots.nd rfl (Or.inl rfl))
        (pss_cons (ps_set (i := 4) scSoundSlots.nd rfl (Or.inl rfl) (pe_fn FS hr rfl (pa_cons (pv 0) (pa_cons (pv 3) pa_nil))))
        (pss_one (ps_if (pt_cmpR op_notN (pv 4) pe_non (nomark _)) (pss_one (ps_expr (pe_bm PySem.F.plainAttrs_list PySem.F.slot_list_append PySem.F.type_list_append mt_append (pv 2) (pa_cons (pv 4) pa_nil)))) pss_nil))))
      (pss_one (ps_ret (pv 2)))), ?_⟩
    refine ⟨Nat.zero_le _, fun p hp => ?_⟩
    refine ⟨_, rfl, _, rfl, by omega, by omega, for_range (n := n) (fun i σ H' => ∃ (v v' : Option V) (rs : List Addr), σ = [some (.ref a), some (.int n), some (.ref p), v, v'] ∧ Same H H' ∧ H' p = some (.lst (rs.map V.ref)) ∧ KeptAt H H' rs (keptTo b i) ∧ ∀ r ∈ rs, r ≠ p)
      ⟨none, none, [], rfl, Same.up hp, upd_same, .nil, fun r h => by cases h⟩ ?_ ?_⟩
    · rintro i σ H' hi ⟨v, v', rs, rfl, s', hp', hk, hne⟩
      refine ⟨_, rfl, _, rfl, a, b, i, by show [V.ref a, V.int (0 + (i : Int))] = _; rw [Int.zero_add], hR.same s', fun h3 H4 q s4 nq hq => ?_, fun h3 H4 s4 => ?_⟩
      · have hx := snd_yes hR.2 h3
        have hp4 := s4 _ _ hp'
        refine ⟨_, rfl, rfl, _, rfl, iteNotN ref_non ?_⟩
        refine ⟨_, rfl, .inl ⟨rfl, _, SqL.of hp4⟩, _, rfl, p, _, _, rfl, rfl, hp4, ?_, ?_⟩
        · rw [List.length_map, hk.1]
          exact Nat.lt_of_lt_of_le (Nat.lt_of_le_of_lt (kept_len b i) hi) (line_small (by omega))
        have nqp : q ≠ p := (ne_of_none hp' nq).symm
        refine ⟨some (.int (0 + (i : Int))), some (.ref q), rs ++ [q], rfl, Same.up2 hp (s'.trans s4), ?_, ?_, ?_⟩
        · rw [upd_same, List.map_append]
          rfl
        · rw [kept_some hx]
          exact (hk.mono fun r hr o e => by rw [upd_ne (hne r hr)]; exact s4 _ _ e).snoc (s'.free nq) (by rw [upd_ne nqp]; exact hq) (slot_length hR.2 _) h3
        · intro r hr
          rcases List.mem_append.mp hr with h | h
          · exact hne r h
          · rw [List.mem_singleton.mp h]; exact nqp
      · have hx := snd_no hR.2 h3
        refine ⟨_, rfl, rfl, _, rfl, iteNotY rfl ?_⟩
        refine ⟨some (.int (0 + (i : Int))), some .non, rs, rfl, s'.trans s4, s4 _ _ hp', ?_, hne⟩
        rw [kept_none hx]
        exact hk.mono fun r _ o e => s4 _ _ e
    · rintro σ H' ⟨v, v', rs, rfl, s', hp', hk, hne⟩
      exact ⟨_, rfl, k H' p rs s' hp hp' hk⟩

theorem scRgMend : FnScope ["ring", "waiting", "tail", "kept", "head", "k", "slot", "number"] ["ring"] (defScope sRgMend) := ⟨rfl, rfl, rfl, by decide +kernel, rfl, by decide +kernel, by decide +kernel⟩
theorem ok_rg_mend (F : Df K mg "rg_mend" sRgMend ["ring"]) (hlen : mg "len" = none) (henum : mg "enumerate" = none) (c1 : Cn mg "SLOT_COUNT" 256) (c2 : Cn mg "NUMBERS_WRONG" (-4)) (c3 : Cn mg "NUMBERS_END" 18446744073709551616)
    (FC : Fn P w K mg base "count_waiting" 3 ["ring"] (spReadN Sa14.waiting)) (FT : Fn P w K mg base "read_tail" 2 ["ring"] (spReadN Sa14.tail)) (FH : Fn P w K mg base "set_head" 2 ["ring", "number"] (spSetN Sa14.setHead))
    (FS : Fn P w K mg base "sound_slots" 5 ["ring", "waiting"] spSoundSlots) (FW : Fn P w K mg base "write_slot" 2 ["ring", "number", "slot"] (spWriteSlot K)) (FN : Fn P w K mg base "renumbered_slot" 3 ["slot", "number"] (spRenumbered K)) : Fn P w K mg base "rg_mend" 6 ["ring"] (spOp0 .mend) := by
  refine F.ok scRgMend (fun vs H Q E h => ?_) (fun f cdv A outer s H vs Q E hr h => ?_)
  · obtain ⟨a, b, rfl, _⟩ := h
    rfl
  · obtain ⟨a, b, rfl, hR, k⟩ := h
    have hr2 : Room 2 _ := hr.mono (by decide)
    have hr3 : Room 3 _ := hr.mono (by decide)
    refine ⟨_, pss_cons (ps_set (i := 1) scRgMend.nd rfl (Or.inl rfl) (pe_fn FC hr3 rfl (pa_cons (pv 0) pa_nil)))
      (pss_cons (ps_set (i := 2) scRgMend.nd rfl (Or.inl rfl) (pe_fn FT hr2 rfl (pa_cons (pv 0) pa_nil)))
      (pss_cons (ps_if (pt_cmpR op_gt (pv 1) (pe_cn c1 rfl) (nomark _)) (pss_cons (ps_expr (pe_fn FH hr2 rfl (pa_cons (pv 0) (pa_cons (pv 2) pa_nil)))) (pss_one (ps_ret (pe_lst (pa_cons (pe_cn c2 rfl) pa_nil))))) pss_nil)
      (pss_cons (ps_set (i := 3) scRgMend.nd rfl (Or.inl rfl) (pe_fn FS hr rfl (pa_cons (pv 0) (pa_cons (pv 1) pa_nil))))
      (pss_cons (ps_set (i := 4) scRgMend.nd rfl (Or.inl rfl) (pe_op op_mod (pe_op op_sub (pv 2) (pe_callB call_len_seq (by rfl) hlen PySem.boot_len (pa_cons (pv 3) pa_nil))) (pe_cn c3 rfl)))
      (pss_cons (ps_for PassesOwn.never rfl (pi_enum rfl henum (pa_cons (pv 3) pa_nil)) (pg_tup rfl (pgs_cons (pg_name (i := 5) scRgMend.nd rfl (Or.inl rfl)) (pgs_cons (pg_name (i := 6) scRgMend.nd rfl (Or.inl rfl)) pgs_nil)))
        (pss_cons (ps_set (i := 7) scRgMend.nd rfl (Or.inl rfl) (pe_op op_mod (pe_op op_add (pv 4) (pv 5)) (pe_cn c3 rfl)))
        (pss_one (ps_expr (pe_fn FW hr2 rfl (pa_cons (pv 0) (pa_cons (pv 7) (pa_cons (pe_fn FN hr3 rfl (pa_cons (pv 6) (pa_cons (pv 7) pa_nil))) pa_nil))))))))
      (pss_cons (ps_expr (pe_fn FH hr2 rfl (pa_cons (pv 0) (pa_cons (pv 4) pa_nil))))
      (pss_one (ps_ret (pe_lst (pa_cons (pe_op op_sub (pv 1) (pe_callB call_len_seq (by rfl) hlen PySem.boot_len (pa_cons (pv 3) pa_nil))) pa_nil)))))))))), ?_⟩
    refine ⟨_, rfl, a, b, rfl, hR, fun H1 s1 => ?_⟩
    refine ⟨_, rfl, a, b, rfl, hR.same s1, fun H2 s2 => ?_⟩
    have s12 := s1.trans s2
    refine ⟨_, rfl, _, _, rfl, rfl, _, rfl, ?_⟩
    refine ite2 (fun h1 => ?_) (fun h1 => ?_)
    · have h1 : (256 : Int) < (Sa14.waiting b : Nat) := of_decide_eq_true h1
      rw [act_mend_wrong (by omega)] at k
      refine ⟨_, rfl, _, rfl, a, b, Sa14.tail b, rfl, hR.same s12, fun H3 c3 r3 => ?_⟩
      exact ⟨(by show 1 ≤ sizeLine; decide), fun p n => k.fin (Ch.of s12 c3) r3 n rfl⟩
    have h1 : ¬ (256 : Int) < (Sa14.waiting b : Nat) := fun q => h1 (decide_eq_true q)
    rw [act_mend_ok (by omega)] at k
    have eh := mhead_int (b := b) (by omega)
    refine ⟨_, rfl, _, rfl, a, b, Sa14.waiting b, rfl, hR.same s12, by omega, fun H3 p rs s3 np hp hk => ?_⟩
    have s13 := s12.trans s3
    have hl : (rs.map V.ref).length = (keptTo b (Sa14.waiting b)).length := by rw [List.length_map, hk.1]
    refine ⟨_, rfl, _, rfl, p, _, rfl, .inl (SqL.of hp), _, _, rfl, rfl, _, _, rfl, rfl, (by show (0 : Int) < 18446744073709551616; decide), ?_⟩
    have npa : p ≠ a := (ne_of_none (s12 _ _ hR.1) np).symm
    generalize mhead b = hd at k eh
    generalize keptTo b (Sa14.waiting b) = ms at k eh hk hl
    refine ⟨_, rfl, p, _, rfl, SqL.of hp, for_enum (K := K) (a := p) (xs := rs.map V.ref) (fun i σ H' => ∃ v v' v'' : Option V, σ = [some (.ref a), some (.int (Sa14.waiting b : Nat)), some (.int (Sa14.tail b : Nat)), some (.ref p), some (.int (hd : Nat)), v, v', v''] ∧ Ch a H3 H' ∧ Rg H' a (laid b hd (ms.take i))) ?_ ?_ ?_ ?_⟩
    · refine ⟨none, none, none, ?_, fun b o e _ => e, hR.same s13⟩
      show [some (V.ref a), _, _, _, some (V.int (((Sa14.tail b : Int) - ((rs.map V.ref).length : Nat)) % 18446744073709551616)), _, _, _] = _
      rw [hl, eh]
    · rintro i σ H' _ ⟨v, v', v'', _, c, _⟩
      exact c.seq npa (SqL.of hp)
    · rintro i y T σ H' hy hT ⟨v, v', v'', rfl, c, A'⟩
      rw [List.getElem?_map] at hy
      obtain ⟨r, hr', rfl⟩ := Option.map_eq_some_iff.mp hy
      obtain ⟨sl, m0, n0, hsl, hl64, hm0, hms⟩ := hk.2 i r hr'
      have nra : r ≠ a := (ne_of_none (s12 _ _ hR.1) n0).symm
      have sT := Same.up hT (o := HO.tup [V.int (i : Nat), V.ref r])
      have hx : (msg sl).bytes.length ≤ 48 := by rw [msg_len hl64 hm0.2.1]; exact hm0.2.1
      have em : ((hd : Int) + (i : Int)) % 18446744073709551616 = (((hd + i) % Sa14.W : Nat) : Int) := by
        rw [show Sa14.W = 18446744073709551616 by decide]
        omega
      refine ⟨T, _, rfl, .inl (.inl upd_same), rfl, _, _, rfl, _, _, rfl, rfl, _, rfl, _, rfl, _, _, rfl, rfl, _, _, rfl, rfl, (by show (0 : Int) < 18446744073709551616; decide), ?_⟩
      refine ⟨_, rfl, _, rfl, _, rfl, _, rfl, r, sl, (hd + i) % Sa14.W, m0, ?_, SqL.of (sT _ _ (c _ _ hsl nra)), hl64, hm0, fun H5 q5 s5 n5 h5 => ?_⟩
      · show [V.ref r, V.int _] = _
        rw [em]
      have A5 := (A'.same sT).same s5
      refine ⟨a, q5, _, _, (hd + i) % Sa14.W, ?_, (ne_of_none (A'.same sT).1 n5).symm, A5, SqL.of h5, made_length hx, fun H6 c6 r6 => ?_⟩
      · show [V.ref a, V.int _, V.ref q5] = _
        rw [em]
      refine ⟨some (.int (i : Nat)), some (.ref r), some (.int (((hd : Int) + (i : Int)) % 18446744073709551616)), rfl, (c.of' (sT.trans s5)).trans c6, ?_⟩
      have hil : (ms.take i).length = i := by
        have := (List.getElem?_eq_some_iff.mp hms).1
        rw [List.length_take]; omega
      have el := laid_snoc b hd (ms.take i) (msg sl)
      rw [hil] at el
      rw [take_snoc hms, el]
      exact r6
    · rintro σ H' ⟨v, v', v'', rfl, c, A'⟩
      rw [hl, List.take_length] at A'
      refine ⟨_, rfl, _, rfl, a, _, hd, rfl, A', fun H5 c5 r5 => ?_⟩
      have hp5 : H5 p = some (.lst (rs.map V.ref)) := c5 _ _ (c _ _ hp npa) npa
      refine ⟨_, rfl, _, rfl, p, _, rfl, .inl (SqL.of hp5), _, _, rfl, rfl, (by show 1 ≤ sizeLine; decide), fun p9 n9 => ?_⟩
      refine k.fin ((Ch.of s13 c).trans c5) r5 n9 ?_
      rw [hl]
      rfl
end
end My
end
section
set_option Elab.async false
set_option linter.all false
set_option maxRecDepth 100000
namespace My
open PySem PySem.Spec PyProof.Rows L2
open Sa14 (Bytes)
open Sx40Neutral (nums byts)
abbrev sInit : Stmt := inClass (top 59) 0
abbrev sHasMore : Stmt := inClass (top 59) 1
abbrev sReadOne : Stmt := inClass (top 59) 2
abbrev sReadRow : Stmt := inClass (top 59) 3

/-! ### a method of a class, its promise -/
def Dm (K : PySem.W.Frag) (C : Addr) (m qual : Str) (st : Stmt) (ps : List Str) : Prop :=
  ∃ (f : Addr) (fd : FuncData), Fun K m qual st f fd ∧ Meth K C m f ∧ Binds K fd ps []
def Mt (P : Program) (w : World) (K : PySem.W.Frag) (mg : Str → Option Value) (base : Heap) (C : Addr) (m : Str) (k : Nat) (ps : List Str) (sp : Sp) : Prop :=
  ∃ (f : Addr) (fd : FuncData), FnOk P w K mg base CX0 k f fd ps sp ∧ Meth K C m f ∧ Binds K fd ps []
section
variable {P : Program} {w : World} {K : PySem.W.Frag} {mg : Str → Option Value} {base : Heap}
theorem Dm.ok {C : Addr} {m qual : Str} {st : Stmt} {N ps : List Str} {k : Nat} {sp : Sp} (F : Dm K C m qual st ps) (S : FnScope N ps (defScope st)) (len : ∀ vs H Q E, sp vs H Q E → vs.length = ps.length)
    (hbody : ∀ (f : Addr) (cdv : Value) (A : Around) (outer : List Env) (s : Shared) (H : Hp) (vs : List V) (Q : VK) (E : XK), Room k (A.deeper (envOfC qual (defScope st) s.heap.objs.size f cdv)) → sp vs H Q E →
      ∃ t, PSs (cxOf CX0 P w K mg base N qual (defScope st) f cdv A outer s H E).nox (defBody st) t ∧ t { nx := fun _ H' => Q .non H', rt := Q } (start N vs) H) : Mt P w K mg base C m (k + 1) ps sp := by
  obtain ⟨f, fd, F, hm, hb⟩ := F
  exact ⟨f, fd, F.ok S len (hbody f), hm, hb⟩
end
def tMt (C : Addr) (m : Str) (sp : Sp) (ta : TE) (t : TA) : TE := fun σ H Q => ta σ H fun x H1 => ∃ a dx fs, x = .ref a ∧ H1 a = some (.ins C dx fs) ∧ fs.lookup m = none ∧ t σ H1 fun vs H2 => sp (x :: vs) H2 Q E0
theorem tMt_eq (C : Addr) (m : Str) (sp : Sp) (ta : TE) (t : TA) : tMeth C m sp [] E0 ta t = tMt C m sp ta t := by
  funext σ H Q
  unfold tMeth tMt
  simp only [List.append_nil]
section
variable {X : Cx} {k : Nat} {C : Addr} {ps : List Str} {sp : Sp} {m : Str} {p pos apos : Pos} {e o : Expr} {es : List Expr} {ta : TE} {t : TA}
theorem pe_mt0 {pl : Sem Bool} (he : PE X o ta) (c : Cls X.K C) (F : Mt X.prog X.w X.K X.mg X.base C m k ps sp) (hr : Room k X.A)
    (ht : eval (.Call (.Attribute o m apos) [] [] pos) X.env = (do
      let ov ← eval o X.env
      standAt apos.atName
      let (f, first) ← holding [ov] (getMethod ov m pl)
      callWith pos f first (backTo pos (starEach [] X.env)) (backToKw pos (keywordEach [] X.env))) := by rfl) :
    PE X (.Call (.Attribute o m apos) [] [] pos) (tMt C m sp ta tNil) := by
  obtain ⟨f, fd, F, hm, hb⟩ := F
  rw [← tMt_eq]
  exact pe_meth0 he c hm F hr hb .nil pass0 ht
/-- a class that is made with arguments -/
def Mkr (P : Program) (w : World) (K : PySem.W.Frag) (mg : Str → Option Value) (base : Heap) (x : Str) (C : Addr) (k : Nat) (ps : List Str) (sp : Sp) : Prop :=
  ∃ (f : Addr) (fd : FuncData), Mk K C f ∧ FnOk P w K mg base CX0 k f fd ps sp ∧ mg x = some (.ref C) ∧ Binds K fd ps []
def tMkr (C : Addr) (sp : Sp) (t : TA) : TE := fun σ H Q => t σ H fun vs H1 => ∀ x dx, H1 x = none → H1 dx = none → dx ≠ x → sp (.ref x :: vs) (upd (upd H1 dx (.own x)) x (.ins C dx [])) (fun v H2 => v = .non ∧ Q (.ref x) H2) E0
theorem pe_mkr {x : Str} (M : Mkr X.prog X.w X.K X.mg X.base x C k ps sp) (hr : Room (k + 1) X.A) (hg : Gl X x)
    (ha : PA X (e :: es) t) (hdb : (x == ("__debug__" : Str)) = false := by decide) (he : starEach (e :: es) X.env = (false, eval e X.env) :: starEach es X.env := by rfl) (hpl : (backTo pos (starEach es X.env)).any (·.1) = false := by rfl) :
    PE X (.Call (.Name x p) (e :: es) [] pos) (tMkr C sp t) := by
  obtain ⟨f, fd, M, F, hm, hb⟩ := M
  have e0 : tMake C sp [] E0 t = tMkr C sp t := by
    funext σ H Q
    unfold tMake tMkr
    simp only [List.append_nil]
  rw [← e0]
  exact pe_make M F hr hg hm hb .nil pass0 ha hdb he hpl
end

/-! ### the reader -/
def rf (c : Addr) (i : Int) : List (Str × V) := putF "place" (.int i) (putF "calls" (.ref c) [])
theorem rf_calls (c : Addr) (i : Int) : (rf c i).lookup ("calls" : Str) = some (.ref c) := by
  unfold rf
  rw [lookup_putF, if_neg (by decide +kernel), lookup_putF, if_pos rfl]
theorem rf_place (c : Addr) (i : Int) : (rf c i).lookup ("place" : Str) = some (.int i) := by
  unfold rf
  rw [lookup_putF, if_pos rfl]
theorem rf_no (c : Addr) (i : Int) {m : Str} (h : ¬ m = "place") (h' : ¬ m = "calls") : (rf c i).lookup m = none := by
  unfold rf
  rw [lookup_putF, if_neg h, lookup_putF, if_neg h']
  rfl
theorem putF_putF (f : Str) (v u : V) : ∀ fs : List (Str × V), putF f v (putF f u fs) = putF f v fs
  | [] => by
    show (if f = f then [(f, v)] else _) = [(f, v)]
    rw [if_pos rfl]
  | (g, x) :: r => by
    show putF f v (if g = f then (g, u) :: r else (g, x) :: putF f u r) = if g = f then (g, v) :: r else (g, x) :: putF f v r
    by_cases h : g = f
    · rw [if_pos h, if_pos h]
      show (if g = f then (g, v) :: r else _) = _
      rw [if_pos h]
    · rw [if_neg h, if_neg h]
      show (if g = f then (g, v) :: _ else (g, x) :: putF f v (putF f u r)) = _
      rw [if_neg h, putF_putF f v u r]
theorem rf_put (c : Addr) (i j : Int) : putF "place" (.int j) (rf c i) = rf c j := putF_putF _ _ _ _
theorem rf_len (c : Addr) (i : Int) : (rf c i).length < 1000 := by
  have h1 := length_putF "place" (.int i) (putF "calls" (.ref c) [])
  have h2 := length_putF "calls" (.ref c) []
  unfold rf
  have : ([] : List (Str × V)).length = 0 := rfl
  omega
/-- a reader at r: its list, its place -/
def RdAt (C : Addr) (H : Hp) (r c : Addr) (i : Nat) : Prop := ∃ dx, H r = some (.ins C dx (rf c (i : Int)))
theorem RdAt.same {C : Addr} {H H' : Hp} {r c : Addr} {i : Nat} (h : RdAt C H r c i) (s : Same H H') : RdAt C H' r c i := let ⟨dx, e⟩ := h; ⟨dx, s _ _ e⟩
theorem RdAt.seq {C : Addr} {K : PySem.W.Frag} {H H' : Hp} {r c q : Addr} {i : Nat} {xs : List V} (h : RdAt C H r c i) (s : Ch r H H') (hq : SqL K H q xs) : SqL K H' q xs := by
  obtain ⟨dx, e⟩ := h
  rcases hq with (h | ⟨o, h⟩) | h
  · exact .inl (.inl (s _ _ h (ne_of h e (by intro z; cases z))))
  · exact .inl (.inr ⟨o, s _ _ h (ne_of h e (by intro z; cases z))⟩)
  · exact .inr h

structure TxtR (K : PySem.W.Frag) (C : Addr) : Prop where
  cl : Cls K C
  nC : NoAttr K C "calls"
  nP : NoAttr K C "place"

def spInit (C : Addr) : Sp := fun vs H Q _ => ∃ (p dx c : Addr), vs = [.ref p, .ref c] ∧ H p = some (.ins C dx []) ∧ ∀ H' : Hp, RdAt C H' p c 0 → Ch p H H' → Q .non H'
def spHasMore (K : PySem.W.Frag) (C : Addr) : Sp := fun vs H Q _ => ∃ (r c : Addr) (i : Nat) (ns : List Int), vs = [.ref r] ∧ RdAt C H r c i ∧ SqL K H c (L ns) ∧ Q (.bl (decide (i < ns.length))) H
def spReadOne (K : PySem.W.Frag) (C : Addr) : Sp := fun vs H Q _ => ∃ (r c : Addr) (i : Nat) (ns : List Int) (z : Int), vs = [.ref r] ∧ RdAt C H r c i ∧ SqL K H c (L ns) ∧ ns[i]? = some z ∧ ∀ H' : Hp, RdAt C H' r c (i + 1) → Ch r H H' → Q (.int z) H'
def spReadRow (K : PySem.W.Frag) (C : Addr) : Sp := fun vs H Q _ => ∃ (r c : Addr) (i n : Nat) (ns : List Int), vs = [.ref r] ∧ RdAt C H r c i ∧ SqL K H c (L ns) ∧ ns[i]? = some (n : Int) ∧
  ∀ (H' : Hp) (p : Addr), RdAt C H' r c (i + 1 + n) → Ch r H H' → H p = none → H' p = some (.lst (L ((ns.drop (i + 1)).take n))) → Q (.ref p) H'
section
variable {P : Program} {w : World} {K : PySem.W.Frag} {mg : Str → Option Value} {base : Heap} {C : Addr}

theorem scInit : FnScope ["self", "calls"] ["self", "calls"] (defScope sInit) := ⟨rfl, rfl, rfl, by decide +kernel, rfl, by decide +kernel, by decide +kernel⟩
theorem ok_init {f : Addr} {fd : FuncData} (F : Fun K "__init__" "CallReader.__init__" sInit f fd) (T : TxtR K C) : FnOk P w K mg base CX0 1 f fd ["self", "calls"] (spInit C) := by
  refine F.ok scInit (fun vs H Q E h => ?_) (fun cdv A outer s H vs Q E hr h => ?_)
  · obtain ⟨p, dx, c, rfl, _⟩ := h
    rfl
  · obtain ⟨p, dx, c, rfl, hp, k⟩ := h
    refine ⟨_, pss_cons (ps_fld (pv 0) (pv 1) rfl) (pss_one (ps_fld (pv 0) pe_int rfl)), ?_⟩
    refine ⟨_, rfl, _, rfl, p, C, dx, [], rfl, hp, T.cl, T.nC, (by show 0 < 1000; decide), ?_⟩
    refine ⟨_, rfl, p, C, dx, _, rfl, upd_same, T.cl, T.nP, ?_, ?_⟩
    · have h2 := length_putF "calls" (V.ref c) []
      have : ([] : List (Str × V)).length = 0 := rfl
      omega
    · rw [upd_upd]
      exact k _ ⟨dx, upd_same⟩ Ch.up

theorem scHasMore : FnScope ["self"] ["self"] (defScope sHasMore) := ⟨rfl, rfl, rfl, by decide +kernel, rfl, by decide +kernel, by decide +kernel⟩
theorem ok_has_more (F : Dm K C "has_more" "CallReader.has_more" sHasMore ["self"]) (T : TxtR K C) (hlen : mg "len" = none) : Mt P w K mg base C "has_more" 1 ["self"] (spHasMore K C) := by
  refine F.ok scHasMore (fun vs H Q E h => ?_) (fun f cdv A outer s H vs Q E hr h => ?_)
  · obtain ⟨r, c, i, ns, rfl, _⟩ := h
    rfl
  · obtain ⟨r, c, i, ns, rfl, ⟨dx, hr'⟩, hS, k⟩ := h
    refine ⟨_, pss_one (ps_ret (pe_cmpR op_lt (pe_fld (pv 0) rfl) (pe_callB call_len_seq (by rfl) hlen PySem.boot_len (pa_cons (pe_fld (pv 0) rfl) pa_nil)) (nomark _))), ?_⟩
    refine ⟨_, rfl, r, C, dx, _, _, rfl, hr', T.cl, T.nP, rf_place _ _, _, rfl, r, C, dx, _, _, rfl, hr', T.cl, T.nC, rf_calls _ _, c, _, rfl, .inl hS, _, _, rfl, rfl, ?_⟩
    have e : decide ((i : Int) < ((L ns).length : Nat)) = decide (i < ns.length) := by
      rw [L_length]
      exact decide_eq_decide.mpr (by omega)
    show Q (V.bl _) H
    rw [e]
    exact k

theorem scReadOne : FnScope ["self", "number"] ["self"] (defScope sReadOne) := ⟨rfl, rfl, rfl, by decide +kernel, rfl, by decide +kernel, by decide +kernel⟩
theorem ok_read_one (F : Dm K C "read_one" "CallReader.read_one" sReadOne ["self"]) (T : TxtR K C) : Mt P w K mg base C "read_one" 1 ["self"] (spReadOne K C) := by
  refine F.ok scReadOne (fun vs H Q E h => ?_) (fun f cdv A outer s H vs Q E hr h => ?_)
  · obtain ⟨r, c, i, ns, z, rfl, _⟩ := h
    rfl
  · obtain ⟨r, c, i, ns, z, rfl, ⟨dx, hr'⟩, hS, hz, k⟩ := h
    refine ⟨_, pss_cons (ps_set (i := 1) scReadOne.nd rfl (Or.inl rfl) (pe_ix ix_list (pe_fld (pv 0) rfl) (pe_fld (pv 0) rfl) (fun _ _ => rfl)))
      (pss_cons (ps_fld (pv 0) (pe_op op_add (pe_fld (pv 0) rfl) pe_int) rfl) (pss_one (ps_ret (pv 1)))), ?_⟩
    refine ⟨_, rfl, r, C, dx, _, _, rfl, hr', T.cl, T.nC, rf_calls _ _, _, rfl, r, C, dx, _, _, rfl, hr', T.cl, T.nP, rf_place _ _, c, _, _, _, rfl, rfl, hS, atI_nat (v := V.int z) (by rw [List.getElem?_map, hz]; rfl), ?_⟩
    refine ⟨_, rfl, r, C, dx, _, _, rfl, hr', T.cl, T.nP, rf_place _ _, _, _, rfl, rfl, _, rfl, r, C, dx, _, rfl, hr', T.cl, T.nP, rf_len _ _, ?_⟩
    refine ⟨_, rfl, k _ ⟨dx, ?_⟩ Ch.up⟩
    rw [upd_same]
    have e := rf_put c i ((i : Int) + 1)
    show some (HO.ins C dx (putF "place" (V.int ((i : Int) + 1)) (rf c i))) = _
    rw [e]
    rfl

theorem scReadRow : FnScope ["self", "count", "begin"] ["self"] (defScope sReadRow) := ⟨rfl, rfl, rfl, by decide +kernel, rfl, by decide +kernel, by decide +kernel⟩
theorem ok_read_row (F : Dm K C "read_row" "CallReader.read_row" sReadRow ["self"]) (T : TxtR K C) (FO : Mt P w K mg base C "read_one" 1 ["self"] (spReadOne K C)) : Mt P w K mg base C "read_row" 2 ["self"] (spReadRow K C) := by
  refine F.ok scReadRow (fun vs H Q E h => ?_) (fun f cdv A outer s H vs Q E hr h => ?_)
  · obtain ⟨r, c, i, n, ns, rfl, _⟩ := h
    rfl
  · obtain ⟨r, c, i, n, ns, rfl, hR, hS, hz, k⟩ := h
    refine ⟨_, pss_cons (ps_set (i := 1) scReadRow.nd rfl (Or.inl rfl) (pe_mt0 (pv 0) T.cl FO hr))
      (pss_cons (ps_set (i := 2) scReadRow.nd rfl (Or.inl rfl) (pe_fld (pv 0) rfl))
      (pss_cons (ps_fld (pv 0) (pe_op op_add (pv 2) (pv 1)) rfl)
      (pss_one (ps_ret (pe_slice sl_list (pe_fld (pv 0) rfl) (po_some (pv 2)) (po_some (pe_op op_add (pv 2) (pv 1)))))))), ?_⟩
    obtain ⟨dx, hr'⟩ := id hR
    refine ⟨_, rfl, r, dx, _, rfl, hr', rf_no _ _ (by decide +kernel) (by decide +kernel), r, c, i, ns, _, rfl, hR, hS, hz, fun H1 R1 c1 => ?_⟩
    have hS1 := hR.seq c1 hS
    obtain ⟨d1, hr1⟩ := id R1
    refine ⟨_, rfl, r, C, d1, _, _, rfl, hr1, T.cl, T.nP, rf_place _ _, ?_⟩
    refine ⟨_, rfl, _, rfl, _, _, rfl, rfl, _, rfl, r, C, d1, _, rfl, hr1, T.cl, T.nP, rf_len _ _, ?_⟩
    have e := rf_put c ((i + 1 : Nat) : Int) (((i + 1 : Nat) : Int) + (n : Int))
    have e2 : ((i + 1 : Nat) : Int) + (n : Int) = ((i + 1 + n : Nat) : Int) := by omega
    have hr2 : (upd H1 r (.ins C d1 (putF "place" (V.int (((i + 1 : Nat) : Int) + (n : Int))) (rf c ((i + 1 : Nat) : Int))))) r = some (.ins C d1 (rf c ((i + 1 + n : Nat) : Int))) := by
      rw [upd_same, e, e2]
    have c2 : Ch r H1 (upd H1 r (.ins C d1 (putF "place" (V.int (((i + 1 : Nat) : Int) + (n : Int))) (rf c ((i + 1 : Nat) : Int))))) := Ch.up
    have hS2 := R1.seq c2 hS1
    refine ⟨_, rfl, r, C, d1, _, _, rfl, hr2, T.cl, T.nC, rf_calls _ _, _, rfl, _, rfl, _, rfl, _, rfl, _, _, rfl, rfl, _, rfl, c, _, rfl, hS2, fun p np => ?_⟩
    have ec := cutV_at ns (i + 1) n
    rw [Int.natCast_add (i + 1) n] at ec
    rw [ec]
    have npr : p ≠ r := fun z => by rw [z, hr2] at np; cases np
    refine k _ p ⟨d1, by rw [upd_ne npr.symm]; exact hr2⟩ ((c1.trans c2).of' (Same.up np)) ((c1.trans c2).free npr np) upd_same
end
end My
end
section
set_option Elab.async false
set_option linter.all false
set_option maxRecDepth 100000
namespace My
open PySem PySem.Spec PyProof.Rows L2
open Sa14 (Bytes)
open Sx40Neutral (nums byts)
abbrev sOthersCall : Stmt := top 72
abbrev sOneCall : Stmt := top 73
abbrev sAnswers : Stmt := top 74

/-- all but a and r stands as it was -/
def Ch2 (a r : Addr) (H H' : Hp) : Prop := ∀ b o, H b = some o → b ≠ a → b ≠ r → H' b = some o
/-- a call's end: the ring, the reader's place, the new list -/
def Fin (C a r c : Addr) (j : Nat) (H : Hp) (b' : Bytes) (l : List Int) (Q : VK) : Prop := ∀ (H' : Hp) (p : Addr), Ch2 a r H H' → Rg H' a b' → RdAt C H' r c j → H p = none → H' p = some (.lst (L l)) → Q (.ref p) H'
theorem rg_ne_rd {C a r c : Addr} {H : Hp} {b : Bytes} {i : Nat} (h : Rg H a b) (h' : RdAt C H r c i) : a ≠ r := by
  obtain ⟨dx, e⟩ := h'
  exact ne_of h.1 e (by intro z; cases z)
theorem Fin.op {C a r c : Addr} {j : Nat} {H H1 : Hp} {b b' : Bytes} {l : List Int} {Q : VK} (k : Fin C a r c j H b' l Q) (cr : Ch r H H1) (R1 : RdAt C H1 r c j) (A1 : Rg H1 a b) : Ans a H1 b' l Q := by
  intro H2 p c2 r2 n e
  have ne := rg_ne_rd A1 R1
  obtain ⟨dx, er⟩ := id R1
  refine k H2 p (fun x o ex h1 h2 => c2 x o (cr x o ex h2) h1) r2 ⟨dx, c2 _ _ er ne.symm⟩ ?_ e
  exact cr.free (fun z => by rw [z, er] at n; cases n) n
theorem Fin.acted {C a r c : Addr} {j : Nat} {H : Hp} {b : Bytes} {w : List (List Int)} {o : Sa14.Op} {Q : VK} (k : Fin C a r c j H (Sx40Neutral.step b w).1 (Sx40Neutral.step b w).2 Q) (hs : Sx40Neutral.step b w = acted b o) :
    Fin C a r c j H (Sx40.act b o).ring ((Sx40.act b o).value :: nums (Sx40.act b o).out) Q := by
  rw [hs] at k
  exact k
theorem Rg.ch {C a r c : Addr} {H H1 : Hp} {b : Bytes} {i : Nat} (h : Rg H a b) (R : RdAt C H r c i) (cr : Ch r H H1) : Rg H1 a b := ⟨cr _ _ h.1 (rg_ne_rd h R), h.2⟩
theorem int_ne {i j : Int} (h : ¬ i = j) : ¬ V.int i = V.int j := fun q => h (V.int.inj q)
theorem drop_at {ns l : List Int} {i : Nat} (h : ns.drop i = l) (j : Nat) : ns[i + j]? = l[j]? := by rw [← h, List.getElem?_drop]
theorem drop_len {ns l : List Int} {i : Nat} (h : ns.drop i = l) : ns.length - i = l.length := by rw [← h, List.length_drop]

def spOthersCall (K : PySem.W.Frag) (C : Addr) : Sp := fun vs H Q _ => ∃ (a r c : Addr) (b : Bytes) (i : Nat) (ns : List Int) (op : Int), vs = [.ref a, .ref r, .int op] ∧ Rg H a b ∧ RdAt C H r c i ∧ SqL K H c (L ns) ∧
  ((op = 8 ∧ ∃ (off : Nat) (d : Bytes), ns[i]? = some (off : Int) ∧ ns[i + 1]? = some (d.length : Int) ∧ (ns.drop (i + 1 + 1)).take d.length = nums d ∧ off + d.length ≤ 16448 ∧ Fin C a r c (i + 1 + 1 + d.length) H (Sa14.put b off d) [] Q) ∨
   (op = 9 ∧ ∃ (off n : Nat), ns[i]? = some (off : Int) ∧ ns[i + 1]? = some (n : Int) ∧ Fin C a r c (i + 1 + 1) H b (nums ((b.drop off).take n)) Q))
def spOneCall (K : PySem.W.Frag) (C : Addr) : Sp := fun vs H Q _ => ∃ (a r c : Addr) (b : Bytes) (i : Nat) (ns : List Int) (cl : List (List Int)) (t : List Int), vs = [.ref a, .ref r] ∧ Rg H a b ∧ RdAt C H r c i ∧ SqL K H c (L ns) ∧ Reads (ns.drop i) cl t ∧
  Sx40Neutral.asked1 (PySx40.whole cl) = true ∧ Fin C a r c (ns.length - t.length) H (Sx40Neutral.step b (PySx40.whole cl)).1 (Sx40Neutral.step b (PySx40.whole cl)).2 Q
section
variable {P : Program} {w : World} {K : PySem.W.Frag} {mg : Str → Option Value} {base : Heap} {C : Addr}

theorem scOthersCall : FnScope ["ring", "reader", "call", "at"] ["ring", "reader", "call"] (defScope sOthersCall) := ⟨rfl, rfl, rfl, by decide +kernel, rfl, by decide +kernel, by decide +kernel⟩
theorem ok_others_call (F : Df K mg "others_call" sOthersCall ["ring", "reader", "call"]) (T : TxtR K C) (c1 : Cn mg "OTHERS_WRITE" 8) (FO : Mt P w K mg base C "read_one" 1 ["self"] (spReadOne K C)) (FR : Mt P w K mg base C "read_row" 2 ["self"] (spReadRow K C))
    (FW : Fn P w K mg base "others_write" 2 ["ring", "at", "data"] (spOthersWrite K)) (FL : Fn P w K mg base "others_look" 1 ["ring", "at", "count"] spOthersLook) : Fn P w K mg base "others_call" 3 ["ring", "reader", "call"] (spOthersCall K C) := by
  refine F.ok scOthersCall (fun vs H Q E h => ?_) (fun f cdv A outer s H vs Q E hr h => ?_)
  · obtain ⟨a, r, c, b, i, ns, op, rfl, _⟩ := h
    rfl
  · obtain ⟨a, r, c, b, i, ns, op, rfl, hA, hR, hS, k⟩ := h
    have hr1 : Room 1 _ := hr.mono (by decide)
    refine ⟨_, pss_cons (ps_set (i := 3) scOthersCall.nd rfl (Or.inl rfl) (pe_mt0 (pv 1) T.cl FO hr1))
      (pss_cons (ps_if (pt_cmpR op_eq (pv 2) (pe_cn c1 rfl) (nomark _)) (pss_one (ps_ret (pe_fn FW hr rfl (pa_cons (pv 0) (pa_cons (pv 3) (pa_cons (pe_mt0 (pv 1) T.cl FR hr) pa_nil)))))) pss_nil)
      (pss_one (ps_ret (pe_fn FL hr1 rfl (pa_cons (pv 0) (pa_cons (pv 3) (pa_cons (pe_mt0 (pv 1) T.cl FO hr1) pa_nil))))))), ?_⟩
    obtain ⟨dx, hr'⟩ := id hR
    rcases k with ⟨rfl, off, d, h1, h2, h3, h4, k⟩ | ⟨rfl, off, n, h1, h2, k⟩
    · refine ⟨_, rfl, r, dx, _, rfl, hr', rf_no _ _ (by decide +kernel) (by decide +kernel), r, c, i, ns, _, rfl, hR, hS, h1, fun H1 R1 e1 => ?_⟩
      refine ⟨_, rfl, rfl, _, rfl, iteY rfl ?_⟩
      have hS1 := hR.seq e1 hS
      have A1 := hA.ch hR e1
      obtain ⟨d1, hr1'⟩ := id R1
      refine ⟨_, rfl, _, rfl, _, rfl, r, d1, _, rfl, hr1', rf_no _ _ (by decide +kernel) (by decide +kernel), r, c, i + 1, d.length, ns, rfl, R1, hS1, h2, fun H2 p R2 e2 np hp => ?_⟩
      have A2 := A1.ch R1 e2
      rw [h3] at hp
      refine ⟨a, p, b, d, off, rfl, (ne_of_none A1.1 np).symm, A2, SqL.of hp, h4, ?_⟩
      exact k.op (e1.trans e2) R2 A2
    · refine ⟨_, rfl, r, dx, _, rfl, hr', rf_no _ _ (by decide +kernel) (by decide +kernel), r, c, i, ns, _, rfl, hR, hS, h1, fun H1 R1 e1 => ?_⟩
      refine ⟨_, rfl, rfl, _, rfl, iteN (int_ne (by decide)) ?_⟩
      have hS1 := hR.seq e1 hS
      have A1 := hA.ch hR e1
      obtain ⟨d1, hr1'⟩ := id R1
      refine ⟨_, rfl, _, rfl, _, rfl, r, d1, _, rfl, hr1', rf_no _ _ (by decide +kernel) (by decide +kernel), r, c, i + 1, ns, _, rfl, R1, hS1, h2, fun H2 R2 e2 => ?_⟩
      have A2 := A1.ch R1 e2
      exact ⟨a, b, off, n, rfl, A2, (k.op (e1.trans e2) R2 A2).new A2⟩

theorem scOneCall : FnScope ["ring", "reader", "call", "kind"] ["ring", "reader"] (defScope sOneCall) := ⟨rfl, rfl, rfl, by decide +kernel, rfl, by decide +kernel, by decide +kernel⟩
theorem ok_one_call (F : Df K mg "one_call" sOneCall ["ring", "reader"]) (T : TxtR K C) (n0 : Cn mg "RG_BEGIN" 0) (n1 : Cn mg "RG_PUT" 1) (n2 : Cn mg "RG_TAKE" 2) (n3 : Cn mg "RG_WAIT" 3) (n4 : Cn mg "RG_LOOK" 4) (n5 : Cn mg "RG_SOUND" 5) (n6 : Cn mg "RG_MEND" 6) (n7 : Cn mg "RG_SUM" 7) (n8 : Cn mg "OTHERS_WRITE" 8) (n9 : Cn mg "OTHERS_LOOK" 9)
    (FO : Mt P w K mg base C "read_one" 1 ["self"] (spReadOne K C)) (FR : Mt P w K mg base C "read_row" 2 ["self"] (spReadRow K C))
    (F0 : Fn P w K mg base "rg_begin" 3 ["ring"] (spOp0 .begin_)) (F1 : Fn P w K mg base "rg_put" 4 ["ring", "kind", "data"] spPut) (F2 : Fn P w K mg base "rg_take" 6 ["ring"] (spOp0 .take))
    (F3 : Fn P w K mg base "rg_wait" 4 ["ring", "looks"] (spOp1 .wait)) (F4 : Fn P w K mg base "rg_look" 6 ["ring", "k"] (spOp1 .look)) (F5 : Fn P w K mg base "rg_sound" 5 ["ring"] (spOp0 .sound)) (F6 : Fn P w K mg base "rg_mend" 6 ["ring"] (spOp0 .mend)) (F7 : Fn P w K mg base "rg_sum" 3 ["data"] (spSum K)) (F8 : Fn P w K mg base "others_call" 3 ["ring", "reader", "call"] (spOthersCall K C)) :
    Fn P w K mg base "one_call" 7 ["ring", "reader"] (spOneCall K C) := by
  refine F.ok scOneCall (fun vs H Q E h => ?_) (fun f cdv A outer s H vs Q E hr h => ?_)
  · obtain ⟨a, r, c, b, i, ns, cl, t, rfl, _⟩ := h
    rfl
  · obtain ⟨a, r, c, b, i, ns, cl, t, rfl, hA, hR, hS, hP, hask, k⟩ := h
    have hr1 : Room 1 _ := hr.mono (by decide)
    have hr2 : Room 2 _ := hr.mono (by decide)
    have hr3 : Room 3 _ := hr.mono (by decide)
    have hr4 : Room 4 _ := hr.mono (by decide)
    have hr5 : Room 5 _ := hr.mono (by decide)
    refine ⟨_, pss_cons (ps_set (i := 2) scOneCall.nd rfl (Or.inl rfl) (pe_mt0 (pv 1) T.cl FO hr1))
      (pss_cons (ps_if (pt_cmpR op_eq (pv 2) (pe_cn n0 rfl) (nomark _)) (pss_one (ps_ret (pe_fn F0 hr3 rfl (pa_cons (pv 0) pa_nil)))) pss_nil)
      (pss_cons (ps_if (pt_cmpR op_eq (pv 2) (pe_cn n1 rfl) (nomark _)) (pss_cons (ps_set (i := 3) scOneCall.nd rfl (Or.inl rfl) (pe_mt0 (pv 1) T.cl FO hr1)) (pss_one (ps_ret (pe_fn F1 hr4 rfl (pa_cons (pv 0) (pa_cons (pv 3) (pa_cons (pe_mt0 (pv 1) T.cl FR hr2) pa_nil))))))) pss_nil)
      (pss_cons (ps_if (pt_cmpR op_eq (pv 2) (pe_cn n2 rfl) (nomark _)) (pss_one (ps_ret (pe_fn F2 hr rfl (pa_cons (pv 0) pa_nil)))) pss_nil)
      (pss_cons (ps_if (pt_cmpR op_eq (pv 2) (pe_cn n3 rfl) (nomark _)) (pss_one (ps_ret (pe_fn F3 hr4 rfl (pa_cons (pv 0) (pa_cons (pe_mt0 (pv 1) T.cl FO hr1) pa_nil))))) pss_nil)
      (pss_cons (ps_if (pt_cmpR op_eq (pv 2) (pe_cn n4 rfl) (nomark _)) (pss_one (ps_ret (pe_fn F4 hr rfl (pa_cons (pv 0) (pa_cons (pe_mt0 (pv 1) T.cl FO hr1) pa_nil))))) pss_nil)
      (pss_cons (ps_if (pt_cmpR op_eq (pv 2) (pe_cn n5 rfl) (nomark _)) (pss_one (ps_ret (pe_fn F5 hr5 rfl (pa_cons (pv 0) pa_nil)))) pss_nil)
      (pss_cons (ps_if (pt_cmpR op_eq (pv 2) (pe_cn n6 rfl) (nomark _)) (pss_one (ps_ret (pe_fn F6 hr rfl (pa_cons (pv 0) pa_nil)))) pss_nil)
      (pss_cons (ps_if (pt_cmpR op_eq (pv 2) (pe_cn n7 rfl) (nomark _)) (pss_one (ps_ret (pe_fn F7 hr3 rfl (pa_cons (pe_mt0 (pv 1) T.cl FR hr2) pa_nil)))) pss_nil)
      (pss_cons (ps_if (PW.pt (pw_or (pt_cmpR op_eq (pv 2) (pe_cn n8 rfl) (nomark _)) (pw_or1 (pt_cmpR op_eq (pv 2) (pe_cn n9 rfl) (nomark _))))) (pss_one (ps_ret (pe_fn F8 hr3 rfl (pa_cons (pv 0) (pa_cons (pv 1) (pa_cons (pv 2) pa_nil)))))) pss_nil)
      (pss_one ps_never)))))))))), ?_⟩
    obtain ⟨dx, hr'⟩ := id hR
    have nm : ∀ j : Int, (rf c j).lookup ("read_one" : Str) = none := fun j => rf_no _ _ (by decide +kernel) (by decide +kernel)
    have nw : ∀ j : Int, (rf c j).lookup ("read_row" : Str) = none := fun j => rf_no _ _ (by decide +kernel) (by decide +kernel)
    generalize hl : ns.drop i = l at hP
    have dl := drop_len hl
    have il : ns[i]? = l[0]? := drop_at hl 0
    have il1 : ns[i + 1]? = l[1]? := drop_at hl 1
    have il2 : ns[i + 1 + 1]? = l[2]? := drop_at hl 2
    cases hP with
    | c0 =>
      have k := k.acted (step_0 b)
      refine ⟨_, rfl, r, dx, _, rfl, hr', nm _, r, c, i, ns, _, rfl, hR, hS, il, fun H1 R1 e1 => ?_⟩
      refine ⟨_, rfl, rfl, _, rfl, iteY rfl ?_⟩
      have A1 := hA.ch hR e1
      have ej : ns.length - t.length = i + 1 := by rw [List.length_cons] at dl; omega
      rw [ej] at k
      exact ⟨_, rfl, a, b, rfl, A1, k.op e1 R1 A1⟩
    | c1 kd n d _ hd =>
      have k := k.acted (step_1 b kd d)
      obtain ⟨q1, q2, q3, q4⟩ := asked_put hask
      refine ⟨_, rfl, r, dx, _, rfl, hr', nm _, r, c, i, ns, _, rfl, hR, hS, il, fun H1 R1 e1 => ?_⟩
      refine ⟨_, rfl, rfl, _, rfl, iteN (int_ne (by decide)) ?_⟩
      refine ⟨_, rfl, rfl, _, rfl, iteY rfl ?_⟩
      have hS1 := hR.seq e1 hS
      have A1 := hA.ch hR e1
      obtain ⟨d1, hr1'⟩ := id R1
      refine ⟨_, rfl, r, d1, _, rfl, hr1', nm _, r, c, i + 1, ns, _, rfl, R1, hS1, il1, fun H2 R2 e2 => ?_⟩
      have hS2 := R1.seq e2 hS1
      have A2 := A1.ch R1 e2
      obtain ⟨d2, hr2'⟩ := id R2
      refine ⟨_, rfl, _, rfl, _, rfl, r, d2, _, rfl, hr2', nw _, r, c, i + 1 + 1, n, ns, rfl, R2, hS2, il2, fun H3 p R3 e3 np hp => ?_⟩
      have A3 := A2.ch R2 e3
      have ed : (ns.drop (i + 1 + 1 + 1)).take n = d := by
        rw [show i + 1 + 1 + 1 = i + 3 from rfl, ← List.drop_drop, hl]
        show (d ++ t).take n = d
        rw [← hd, List.take_left' rfl]
      rw [ed] at hp
      have eb : nums (byts d) = d := nums_byts q4
      obtain ⟨kn, rfl⟩ : ∃ kn : Nat, kd = (kn : Int) := ⟨kd.toNat, by omega⟩
      have ej : ns.length - t.length = i + 1 + 1 + 1 + n := by
        simp only [List.length_cons, List.length_append] at dl
        omega
      rw [ej] at k
      have k' := k.op ((e1.trans e2).trans e3) R3 A3
      refine ⟨a, p, b, byts d, kn, rfl, (ne_of_none A2.1 np).symm, A3, by rw [eb]; exact hp, by rw [byts_length]; exact q3, ?_⟩
      have es : Sx40.act b (.put kn (byts d) ((byts d).length : Int)) = Sx40.act b (.put (kn : Int).toNat (byts d) (d.length : Int)) := by rw [byts_length, Int.toNat_natCast]
      unfold AnsA
      rw [es]
      exact k'
    | c2 =>
      have k := k.acted (step_2 b)
      refine ⟨_, rfl, r, dx, _, rfl, hr', nm _, r, c, i, ns, _, rfl, hR, hS, il, fun H1 R1 e1 => ?_⟩
      refine ⟨_, rfl, rfl, _, rfl, iteN (int_ne (by decide)) ?_⟩
      refine ⟨_, rfl, rfl, _, rfl, iteN (int_ne (by decide)) ?_⟩
      refine ⟨_, rfl, rfl, _, rfl, iteY rfl ?_⟩
      have A1 := hA.ch hR e1
      have ej : ns.length - t.length = i + 1 := by rw [List.length_cons] at dl; omega
      rw [ej] at k
      exact ⟨_, rfl, a, b, rfl, A1, k.op e1 R1 A1⟩
    | c3 z =>
      have k := k.acted (step_3 b z)
      refine ⟨_, rfl, r, dx, _, rfl, hr', nm _, r, c, i, ns, _, rfl, hR, hS, il, fun H1 R1 e1 => ?_⟩
      refine ⟨_, rfl, rfl, _, rfl, iteN (int_ne (by decide)) ?_⟩
      refine ⟨_, rfl, rfl, _, rfl, iteN (int_ne (by decide)) ?_⟩
      refine ⟨_, rfl, rfl, _, rfl, iteN (int_ne (by decide)) ?_⟩
      refine ⟨_, rfl, rfl, _, rfl, iteY rfl ?_⟩
      have hS1 := hR.seq e1 hS
      have A1 := hA.ch hR e1
      obtain ⟨d1, hr1'⟩ := id R1
      refine ⟨_, rfl, _, rfl, r, d1, _, rfl, hr1', nm _, r, c, i + 1, ns, _, rfl, R1, hS1, il1, fun H2 R2 e2 => ?_⟩
      have A2 := A1.ch R1 e2
      have ej : ns.length - t.length = i + 1 + 1 := by simp only [List.length_cons] at dl; omega
      rw [ej] at k
      exact ⟨a, b, z, rfl, A2, k.op (e1.trans e2) R2 A2⟩
    | c4 z =>
      have k := k.acted (step_4 b z)
      refine ⟨_, rfl, r, dx, _, rfl, hr', nm _, r, c, i, ns, _, rfl, hR, hS, il, fun H1 R1 e1 => ?_⟩
      refine ⟨_, rfl, rfl, _, rfl, iteN (int_ne (by decide)) ?_⟩
      refine ⟨_, rfl, rfl, _, rfl, iteN (int_ne (by decide)) ?_⟩
      refine ⟨_, rfl, rfl, _, rfl, iteN (int_ne (by decide)) ?_⟩
      refine ⟨_, rfl, rfl, _, rfl, iteN (int_ne (by decide)) ?_⟩
      refine ⟨_, rfl, rfl, _, rfl, iteY rfl ?_⟩
      have hS1 := hR.seq e1 hS
      have A1 := hA.ch hR e1
      obtain ⟨d1, hr1'⟩ := id R1
      refine ⟨_, rfl, _, rfl, r, d1, _, rfl, hr1', nm _, r, c, i + 1, ns, _, rfl, R1, hS1, il1, fun H2 R2 e2 => ?_⟩
      have A2 := A1.ch R1 e2
      have ej : ns.length - t.length = i + 1 + 1 := by simp only [List.length_cons] at dl; omega
      rw [ej] at k
      exact ⟨a, b, z, rfl, A2, k.op (e1.trans e2) R2 A2⟩
    | c5 =>
      have k := k.acted (step_5 b)
      refine ⟨_, rfl, r, dx, _, rfl, hr', nm _, r, c, i, ns, _, rfl, hR, hS, il, fun H1 R1 e1 => ?_⟩
      refine ⟨_, rfl, rfl, _, rfl, iteN (int_ne (by decide)) ?_⟩
      refine ⟨_, rfl, rfl, _, rfl, iteN (int_ne (by decide)) ?_⟩
      refine ⟨_, rfl, rfl, _, rfl, iteN (int_ne (by decide)) ?_⟩
      refine ⟨_, rfl, rfl, _, rfl, iteN (int_ne (by decide)) ?_⟩
      refine ⟨_, rfl, rfl, _, rfl, iteN (int_ne (by decide)) ?_⟩
      refine ⟨_, rfl, rfl, _, rfl, iteY rfl ?_⟩
      have A1 := hA.ch hR e1
      have ej : ns.length - t.length = i + 1 := by rw [List.length_cons] at dl; omega
      rw [ej] at k
      exact ⟨_, rfl, a, b, rfl, A1, k.op e1 R1 A1⟩
    | c6 =>
      have k := k.acted (step_6 b)
      refine ⟨_, rfl, r, dx, _, rfl, hr', nm _, r, c, i, ns, _, rfl, hR, hS, il, fun H1 R1 e1 => ?_⟩
      refine ⟨_, rfl, rfl, _, rfl, iteN (int_ne (by decide)) ?_⟩
      refine ⟨_, rfl, rfl, _, rfl, iteN (int_ne (by decide)) ?_⟩
      refine ⟨_, rfl, rfl, _, rfl, iteN (int_ne (by decide)) ?_⟩
      refine ⟨_, rfl, rfl, _, rfl, iteN (int_ne (by decide)) ?_⟩
      refine ⟨_, rfl, rfl, _, rfl, iteN (int_ne (by decide)) ?_⟩
      refine ⟨_, rfl, rfl, _, rfl, iteN (int_ne (by decide)) ?_⟩
      refine ⟨_, rfl, rfl, _, rfl, iteY rfl ?_⟩
      have A1 := hA.ch hR e1
      have ej : ns.length - t.length = i + 1 := by rw [List.length_cons] at dl; omega
      rw [ej] at k
      exact ⟨_, rfl, a, b, rfl, A1, k.op e1 R1 A1⟩
    | c7 n d _ hd =>
      have k := k.acted (step_7 b d)
      obtain ⟨q3, q4⟩ := asked_sum hask
      refine ⟨_, rfl, r, dx, _, rfl, hr', nm _, r, c, i, ns, _, rfl, hR, hS, il, fun H1 R1 e1 => ?_⟩
      refine ⟨_, rfl, rfl, _, rfl, iteN (int_ne (by decide)) ?_⟩
      refine ⟨_, rfl, rfl, _, rfl, iteN (int_ne (by decide)) ?_⟩
      refine ⟨_, rfl, rfl, _, rfl, iteN (int_ne (by decide)) ?_⟩
      refine ⟨_, rfl, rfl, _, rfl, iteN (int_ne (by decide)) ?_⟩
      refine ⟨_, rfl, rfl, _, rfl, iteN (int_ne (by decide)) ?_⟩
      refine ⟨_, rfl, rfl, _, rfl, iteN (int_ne (by decide)) ?_⟩
      refine ⟨_, rfl, rfl, _, rfl, iteN (int_ne (by decide)) ?_⟩
      refine ⟨_, rfl, rfl, _, rfl, iteY rfl ?_⟩
      have hS1 := hR.seq e1 hS
      have A1 := hA.ch hR e1
      obtain ⟨d1, hr1'⟩ := id R1
      refine ⟨_, rfl, r, d1, _, rfl, hr1', nw _, r, c, i + 1, n, ns, rfl, R1, hS1, il1, fun H2 p R2 e2 np hp => ?_⟩
      have A2 := A1.ch R1 e2
      have ed : (ns.drop (i + 1 + 1)).take n = d := by
        rw [show i + 1 + 1 = i + 2 from rfl, ← List.drop_drop, hl]
        show (d ++ t).take n = d
        rw [← hd, List.take_left' rfl]
      rw [ed] at hp
      have eb : nums (byts d) = d := nums_byts q4
      have ej : ns.length - t.length = i + 1 + 1 + n := by
        simp only [List.length_cons, List.length_append] at dl
        omega
      rw [ej] at k
      have es : Sx40.act b (.sum (byts d) (d.length : Int)) = ⟨0, Sa14.bytes 4 (Sa14.sum (byts d)), b⟩ := by
        rw [← byts_length d]
        exact act_sum (by rw [byts_length]; exact q3)
      rw [es] at k
      exact ⟨p, byts d, rfl, SqL.of (by rw [eb]; exact hp), (k.op (e1.trans e2) R2 A2).new A2⟩
    | c8 z n d _ hd =>
      rw [step_8] at k
      dsimp only at k
      obtain ⟨q1, q2, q3, q4⟩ := asked_write hask
      refine ⟨_, rfl, r, dx, _, rfl, hr', nm _, r, c, i, ns, _, rfl, hR, hS, il, fun H1 R1 e1 => ?_⟩
      refine ⟨_, rfl, rfl, _, rfl, iteN (int_ne (by decide)) ?_⟩
      refine ⟨_, rfl, rfl, _, rfl, iteN (int_ne (by decide)) ?_⟩
      refine ⟨_, rfl, rfl, _, rfl, iteN (int_ne (by decide)) ?_⟩
      refine ⟨_, rfl, rfl, _, rfl, iteN (int_ne (by decide)) ?_⟩
      refine ⟨_, rfl, rfl, _, rfl, iteN (int_ne (by decide)) ?_⟩
      refine ⟨_, rfl, rfl, _, rfl, iteN (int_ne (by decide)) ?_⟩
      refine ⟨_, rfl, rfl, _, rfl, iteN (int_ne (by decide)) ?_⟩
      refine ⟨_, rfl, rfl, _, rfl, iteN (int_ne (by decide)) ?_⟩
      refine ⟨_, rfl, rfl, _, rfl, iteY rfl (iteT ?_)⟩
      have hS1 := hR.seq e1 hS
      have A1 := hA.ch hR e1
      have eb : nums (byts d) = d := nums_byts q4
      obtain ⟨zn, rfl⟩ : ∃ zn : Nat, z = (zn : Int) := ⟨z.toNat, by omega⟩
      have ej : ns.length - t.length = i + 1 + 1 + 1 + (byts d).length := by
        simp only [List.length_cons, List.length_append] at dl
        rw [byts_length]
        omega
      rw [ej] at k
      refine ⟨_, rfl, _, rfl, _, rfl, a, r, c, b, i + 1, ns, 8, rfl, A1, R1, hS1, .inl ⟨rfl, zn, byts d, il1, ?_, ?_, ?_, ?_⟩⟩
      · rw [byts_length, hd]; exact il2
      · rw [byts_length, eb, show i + 1 + 1 + 1 = i + 3 from rfl, ← List.drop_drop, hl]
        show (d ++ t).take d.length = d
        rw [List.take_left' rfl]
      · rw [byts_length]
        rw [Int.toNat_natCast] at q3
        exact q3
      · exact fun H2 p h2 => k H2 p (fun x o ex n1 n2 => h2 x o (e1 x o ex n2) n1 n2)|> fun g => fun rg rd np hp => g rg rd (e1.free (fun z => by obtain ⟨d1, hr1'⟩ := R1; rw [z, hr1'] at np; cases np) np) hp
    | c9 x y =>
      rw [step_9] at k
      dsimp only at k
      obtain ⟨q1, q2, q3, q4⟩ := asked_oth hask
      refine ⟨_, rfl, r, dx, _, rfl, hr', nm _, r, c, i, ns, _, rfl, hR, hS, il, fun H1 R1 e1 => ?_⟩
      refine ⟨_, rfl, rfl, _, rfl, iteN (int_ne (by decide)) ?_⟩
      refine ⟨_, rfl, rfl, _, rfl, iteN (int_ne (by decide)) ?_⟩
      refine ⟨_, rfl, rfl, _, rfl, iteN (int_ne (by decide)) ?_⟩
      refine ⟨_, rfl, rfl, _, rfl, iteN (int_ne (by decide)) ?_⟩
      refine ⟨_, rfl, rfl, _, rfl, iteN (int_ne (by decide)) ?_⟩
      refine ⟨_, rfl, rfl, _, rfl, iteN (int_ne (by decide)) ?_⟩
      refine ⟨_, rfl, rfl, _, rfl, iteN (int_ne (by decide)) ?_⟩
      refine ⟨_, rfl, rfl, _, rfl, iteN (int_ne (by decide)) ?_⟩
      refine ⟨_, rfl, rfl, _, rfl, iteN (int_ne (by decide)) ?_⟩
      refine ⟨_, rfl, rfl, _, rfl, iteY rfl ?_⟩
      have hS1 := hR.seq e1 hS
      have A1 := hA.ch hR e1
      obtain ⟨xn, rfl⟩ : ∃ xn : Nat, x = (xn : Int) := ⟨x.toNat, by omega⟩
      obtain ⟨yn, rfl⟩ : ∃ yn : Nat, y = (yn : Int) := ⟨y.toNat, by omega⟩
      have ej : ns.length - t.length = i + 1 + 1 + 1 := by
        simp only [List.length_cons] at dl
        omega
      rw [ej] at k
      refine ⟨_, rfl, _, rfl, _, rfl, a, r, c, b, i + 1, ns, 9, rfl, A1, R1, hS1, .inr ⟨rfl, xn, yn, il1, il2, ?_⟩⟩
      exact fun H2 p h2 => k H2 p (fun x o ex n1 n2 => h2 x o (e1 x o ex n2) n1 n2)|> fun g => fun rg rd np hp => g rg rd (e1.free (fun z => by obtain ⟨d1, hr1'⟩ := R1; rw [z, hr1'] at np; cases np) np) hp
end
end My
end
section
set_option Elab.async false
set_option linter.all false
set_option maxRecDepth 100000
namespace My
open PySem PySem.Spec PyProof.Rows L2
open Sa14 (Bytes)
open Sx40Neutral (nums byts)
def spAnswers (K : PySem.W.Frag) : Sp := fun vs H Q _ => ∃ (c : Addr) (ns : List Int), vs = [.ref c] ∧ SqL K H c (L ns) ∧ PySx40.answers_asked ns = true ∧ ∀ (H' : Hp) (p : Addr), H' p = some (.lst (L (PySx40.answers ns))) → Q (.ref p) H'

/-- what is left to tell -/
def rest (b : Bytes) (cs : List (List (List Int))) : List Int := PyFlat.told (PyFlat.played Sx40Neutral.step b (cs.map PySx40.whole))
theorem rest_nil (b : Bytes) : rest b [] = [] := rfl
theorem rest_cons (b : Bytes) (c : List (List Int)) (cs : List (List (List Int))) : rest b (c :: cs) = ((Sx40Neutral.step b (PySx40.whole c)).2.length : Int) :: ((Sx40Neutral.step b (PySx40.whole c)).2 ++ rest (Sx40Neutral.step b (PySx40.whole c)).1 cs) := by
  unfold rest PyFlat.told
  rw [List.map_cons]
  conv => lhs; unfold PyFlat.played
  rw [List.flatMap_cons]
  rfl
theorem asked_inv {ns : List Int} (h : PySx40.answers_asked ns = true) : ∃ cs, PyFlat.calls PySx40.shape ns.length ns = some cs ∧ cs.length ≤ 100 ∧ (∀ c ∈ cs, Sx40Neutral.asked1 (PySx40.whole c) = true) ∧ PySx40.answers ns = rest Sx40.init cs := by
  unfold PySx40.answers_asked at h
  unfold PySx40.answers
  cases e : PyFlat.calls PySx40.shape ns.length ns with
  | none =>
    have e2 : PySx40.calls ns = none := by unfold PySx40.calls; rw [e]
    rw [e2] at h
    cases h
  | some cs =>
    have e2 : PySx40.calls ns = some (cs.map PySx40.whole) := by unfold PySx40.calls; rw [e]
    rw [e2] at h ⊢
    dsimp only at h ⊢
    rw [Bool.and_eq_true] at h
    obtain ⟨h1, h2⟩ := h
    unfold Sx40Neutral.asked at h2
    rw [Bool.and_eq_true, Bool.and_eq_true] at h2
    refine ⟨cs, rfl, ?_, ?_, rfl⟩
    · have := of_decide_eq_true h1
      rw [List.length_map] at this
      exact this
    · intro c hc
      exact List.all_eq_true.mp h2.2.2 _ (List.mem_map.mpr ⟨c, hc, rfl⟩)
theorem init_len : Sx40.init.length = 16448 := by
  unfold Sx40.init
  rw [List.length_replicate]
  rfl
section
variable {P : Program} {w : World} {K : PySem.W.Frag} {mg : Str → Option Value} {base : Heap} {C : Addr}
theorem scAnswers : FnScope ["calls", "ring", "reader", "told", "answer"] ["calls"] (defScope sAnswers) := ⟨rfl, rfl, rfl, by decide +kernel, rfl, by decide +kernel, by decide +kernel⟩
theorem ok_answers {f : Addr} {fd : FuncData} (F : Fun K "answers" "answers" sAnswers f fd) (T : TxtR K C) (hlen : mg "len" = none) (FN : Fn P w K mg base "new_ring" 1 [] spNewRing) (FM : Mkr P w K mg base "CallReader" C 1 ["self", "calls"] (spInit C))
    (FH : Mt P w K mg base C "has_more" 1 ["self"] (spHasMore K C)) (FO : Fn P w K mg base "one_call" 7 ["ring", "reader"] (spOneCall K C)) : FnOk P w K mg base CX0 8 f fd ["calls"] (spAnswers K) := by
  refine F.ok scAnswers (fun vs H Q E h => ?_) (fun cdv A outer s H vs Q E hr h => ?_)
  · obtain ⟨c, ns, rfl, _⟩ := h
    rfl
  · obtain ⟨c, ns, rfl, hS, hask, k⟩ := h
    have hr1 : Room 1 _ := hr.mono (by decide)
    have hr2 : Room 2 _ := hr.mono (by decide)
    refine ⟨_, pss_cons (ps_set (i := 1) scAnswers.nd rfl (Or.inl rfl) (pe_fn0 FN hr1 rfl))
      (pss_cons (ps_set (i := 2) scAnswers.nd rfl (Or.inl rfl) (pe_mkr FM hr2 rfl (pa_cons (pv 0) pa_nil)))
      (pss_cons (ps_set (i := 3) scAnswers.nd rfl (Or.inl rfl) (pe_lst pa_nil))
      (pss_cons (ps_while PassesOwn.never (pt_val (pe_mt0 (pv 2) T.cl FH hr1))
        (pss_cons (ps_set (i := 4) scAnswers.nd rfl (Or.inl rfl) (pe_fn FO hr rfl (pa_cons (pv 1) (pa_cons (pv 2) pa_nil))))
        (pss_cons (ps_expr (pe_bm PySem.F.plainAttrs_list PySem.F.slot_list_append PySem.F.type_list_append mt_append (pv 3) (pa_cons (pe_callB call_len_seq (by rfl) hlen PySem.boot_len (pa_cons (pv 4) pa_nil)) pa_nil)))
        (pss_one (ps_expr (pe_bm PySem.F.plainAttrs_list PySem.F.slot_list_extend PySem.F.type_list_extend mt_extend (pv 3) (pa_cons (pv 4) pa_nil)))))))
      (pss_one (ps_ret (pv 3)))))), ?_⟩
    obtain ⟨cs0, hc0, hl0, ha0, hans⟩ := asked_inv hask
    refine ⟨rfl, fun H1 a s1 na ha => ?_⟩
    have RA : Rg H1 a Sx40.init := ⟨ha, init_len⟩
    refine ⟨_, rfl, fun r dx nr nd ne => ?_⟩
    refine ⟨r, dx, c, rfl, upd_same, fun H2 R2 c2 => ⟨rfl, ?_⟩⟩
    have s2 : Same H1 H2 := Same.made nr nd fun b o e h => c2 b o e h
    have RA2 := RA.same s2
    refine ⟨Nat.zero_le _, fun t nt => ?_⟩
    have s3 : Same H2 (upd H2 t (.lst [])) := Same.up nt
    have nta : a ≠ t := ne_of_none RA2.1 nt
    have ntr : r ≠ t := by
      obtain ⟨d2, e2⟩ := id R2
      exact ne_of_none e2 nt
    have nr0 : H r = none := s1.free nr
    have nt0 : H t = none := (s1.trans s2).free nt
    refine ⟨fun m σ H' => ∃ (b : Bytes) (i : Nat) (g : Nat) (cs : List (List (List Int))) (acc : List Int) (v : Option V), σ = [some (.ref c), some (.ref a), some (.ref r), some (.ref t), v] ∧ Same H H' ∧ Rg H' a b ∧ RdAt C H' r c i ∧ H' t = some (.lst (L acc)) ∧
      PyFlat.calls PySx40.shape g (ns.drop i) = some cs ∧ (∀ c ∈ cs, Sx40Neutral.asked1 (PySx40.whole c) = true) ∧ acc ++ rest b cs = PySx40.answers ns ∧ acc.length + 16449 * cs.length ≤ 1644900 ∧ m = ns.length - i,
      ⟨_, Sx40.init, 0, ns.length, cs0, [], none, rfl, (s1.trans s2).trans s3, RA2.same s3, R2.same s3, upd_same, hc0, ha0, hans.symm, by rw [List.length_nil]; omega, rfl⟩, ?_⟩
    rintro m σ H' ⟨b, i, g, cs, acc, v, rfl, s', A', R', t', hc, hak, hacc, hsz, rfl⟩
    obtain ⟨d', er'⟩ := id R'
    have hS' := s'.seq hS
    refine ⟨_, rfl, r, d', _, rfl, er', rf_no _ _ (by decide +kernel) (by decide +kernel), r, c, i, ns, rfl, R', hS', _, rfl, ?_⟩
    by_cases hi : i < ns.length
    · refine iteY hi ?_
      obtain ⟨p0, r0, e0⟩ : ∃ p0 r0, ns.drop i = p0 :: r0 := ⟨ns[i], ns.drop (i + 1), List.drop_eq_getElem_cons hi⟩
      rw [e0] at hc
      obtain ⟨g', cl, tl, cs', hrd, hc', rfl⟩ := calls_cons hc
      rw [← e0] at hrd
      obtain ⟨hs1, hs2⟩ := reads_suffix hrd
      have hdl : (ns.drop i).length = ns.length - i := List.length_drop ..
      have etl : tl = ns.drop (ns.length - tl.length) := by
        rw [hdl, List.drop_drop] at hs2
        rw [show i + (ns.length - i - tl.length) = ns.length - tl.length by omega] at hs2
        exact hs2
      have hlen1 := step_len (b := b) A'.2 hrd
      rw [rest_cons] at hacc
      rw [List.length_cons] at hsz
      refine ⟨fun σ' H'' => ∃ (v : Option V) (b' : Bytes), σ' = [some (.ref c), some (.ref a), some (.ref r), some (.ref t), v] ∧ b' = (Sx40Neutral.step b (PySx40.whole cl)).1 ∧ Same H H'' ∧ Rg H'' a b' ∧ RdAt C H'' r c (ns.length - tl.length) ∧
        H'' t = some (.lst (L (acc ++ [((Sx40Neutral.step b (PySx40.whole cl)).2.length : Int)] ++ (Sx40Neutral.step b (PySx40.whole cl)).2))), ?_, ?_⟩
      · rintro σ' H'' ⟨v', b', rfl, eb', s'', A'', R'', t''⟩
        refine ⟨_, ?_, b', ns.length - tl.length, g', cs', _, v', rfl, s'', A'', R'', t'', ?_, fun c hc => hak c (List.mem_cons_of_mem _ hc), ?_, ?_, rfl⟩
        · omega
        · rw [← etl]; exact hc'
        · rw [← hacc, eb', List.append_assoc, List.append_assoc]
          rfl
        · simp only [List.length_append, List.length_singleton]
          omega
      · have hcl : Sx40Neutral.asked1 (PySx40.whole cl) = true := hak cl List.mem_cons_self
        refine ⟨_, rfl, _, rfl, a, r, c, b, i, ns, cl, tl, rfl, A', R', hS', hrd, hcl, fun H2 p e2 A2 R2' np hp => ?_⟩
        have npt : p ≠ t := (ne_of_none t' np).symm
        have t2 : H2 t = some (.lst (L acc)) := e2 t _ t' nta.symm ntr.symm
        have s2' : Same H H2 := fun x o ex => e2 x o (s' x o ex) (ne_of_none ex na) (ne_of_none ex nr0)
        refine ⟨_, rfl, .inl ⟨rfl, _, SqL.of t2⟩, _, rfl, p, _, rfl, .inl (SqL.of hp), t, _, _, rfl, rfl, t2, ?_, ?_⟩
        · rw [L_length]
          exact Nat.lt_of_le_of_lt (m := 1644900) (by omega) (by decide)
        have e3 : upd H2 t (.lst (L acc ++ [V.int ((L (Sx40Neutral.step b (PySx40.whole cl)).2).length : Nat)])) t = some (.lst (L (acc ++ [((Sx40Neutral.step b (PySx40.whole cl)).2.length : Int)]))) := by
          rw [upd_same, L_length, L_snoc]
        have hp3 : upd H2 t (.lst (L acc ++ [V.int ((L (Sx40Neutral.step b (PySx40.whole cl)).2).length : Nat)])) p = some (.lst (L (Sx40Neutral.step b (PySx40.whole cl)).2)) := by
          rw [upd_ne npt]; exact hp
        refine ⟨_, rfl, .inl ⟨rfl, _, SqL.of e3⟩, _, rfl, t, p, _, _, rfl, rfl, e3, hp3, ?_, ?_⟩
        · rw [L_length, L_length, List.length_append, List.length_singleton]
          exact Nat.le_trans (m := 1644900) (by omega) (by decide)
        · have hta : ∀ o1 o2, Rg (upd (upd H2 t o1) t o2) a (Sx40Neutral.step b (PySx40.whole cl)).1 := fun o1 o2 => ⟨by rw [upd_ne nta, upd_ne nta]; exact A2.1, A2.2⟩
          obtain ⟨d3, er3⟩ := id R2'
          refine ⟨some (.ref p), _, rfl, rfl, ?_, hta _ _, ⟨d3, by rw [upd_ne ntr, upd_ne ntr]; exact er3⟩, ?_⟩
          · exact Same.up2 nt0 (Same.up2 nt0 s2')
          · rw [upd_same, L_append]
    · refine iteN hi ?_
      have e0 : ns.drop i = [] := List.drop_eq_nil_of_le (by omega)
      rw [e0] at hc
      have ec := calls_nil hc
      subst ec
      rw [rest_nil, List.append_nil] at hacc
      refine ⟨_, rfl, ?_⟩
      rw [hacc] at t'
      exact k H' t t'
end
end My
end
section
set_option Elab.async false
set_option linter.all false
set_option maxRecDepth 100000
namespace My
open PySem PySem.Spec PyProof.Rows L2
open PySem.W (Codec)
/-! ### what the top has written -/
theorem df_mk {K : PySem.W.Frag} {h : Heap} {mg : Str → Option Value} (X : K.In h) (G : h.Ns mainGlobals mg) {x : Str} {st : Stmt} {ps : List Str} {f : Addr} {oc : Value} {od an : Option Addr} {osl : Array (Option Value)} {kV doc pm cdv ct : Value}
    (a : PySem.W.nsIn K mainGlobals x = some (some (.ref f))) (l : K.lookup f = some ⟨oc, od, .func (PySem.W.fnOf x x (defArgs st) (defBody st) (defScope st) .none kV doc pm an cdv ct), osl⟩)
    (c : PySem.W.codeIn K cdv x = true) (k : PySem.W.keepIn K (.ref f) = true)
    (b : ∀ (kV doc pm : Value) (an : Option Addr) (cdv ct : Value) (us : List Value), us.length = ps.length → bindArgs (PySem.W.fnOf x x (defArgs st) (defBody st) (defScope st) .none kV doc pm an cdv ct) ⟨us, []⟩ = pure (ps.zip us)) : Df K mg x st ps := by
  have F := fun_mk (st := st) l c k
  exact ⟨f, _, F, PySem.W.mg_of X G a, F.binds b⟩
theorem dm_mk {K : PySem.W.Frag} {C : Addr} {m qual : Str} {st : Stmt} {ps : List Str} {f : Addr} {oc : Value} {od an : Option Addr} {osl : Array (Option Value)} {kV doc pm cdv ct : Value}
    (a : PySem.W.findIn K (.ref C) m = some (some (.ref f))) (i : PySem.W.isFn K (.ref f) = true) (l : K.lookup f = some ⟨oc, od, .func (PySem.W.fnOf m qual (defArgs st) (defBody st) (defScope st) .none kV doc pm an cdv ct), osl⟩)
    (c : PySem.W.codeIn K cdv qual = true) (k : PySem.W.keepIn K (.ref f) = true)
    (b : ∀ (kV doc pm : Value) (an : Option Addr) (cdv ct : Value) (us : List Value), us.length = ps.length → bindArgs (PySem.W.fnOf m qual (defArgs st) (defBody st) (defScope st) .none kV doc pm an cdv ct) ⟨us, []⟩ = pure (ps.zip us)) : Dm K C m qual st ps := by
  have F := fun_mk (st := st) l c k
  exact ⟨f, _, F, ⟨a, i, k⟩, F.binds b⟩
/-- the class's __init__ -/
def Di (K : PySem.W.Frag) (mg : Str → Option Value) (x : Str) (C : Addr) (qual : Str) (st : Stmt) (ps : List Str) : Prop := ∃ (f : Addr) (fd : FuncData), Fun K "__init__" qual st f fd ∧ Mk K C f ∧ mg x = some (.ref C) ∧ Binds K fd ps []
theorem di_mk {K : PySem.W.Frag} {h : Heap} {mg : Str → Option Value} (X : K.In h) (G : h.Ns mainGlobals mg) {x : Str} {C : Addr} {qual : Str} {st : Stmt} {ps : List Str} {f : Addr} {oc : Value} {od an : Option Addr} {osl : Array (Option Value)} {kV doc pm cdv ct : Value}
    (aC : PySem.W.nsIn K mainGlobals x = some (some (.ref C))) (a : PySem.W.findIn K (.ref C) "__init__" = some (some (.ref f))) (i : PySem.W.isFn K (.ref f) = true) (l : K.lookup f = some ⟨oc, od, .func (PySem.W.fnOf "__init__" qual (defArgs st) (defBody st) (defScope st) .none kV doc pm an cdv ct), osl⟩)
    (c : PySem.W.codeIn K cdv qual = true) (k : PySem.W.keepIn K (.ref f) = true) (mk : PySem.W.makesIn K C = true) (kc : PySem.W.keepIn K (.ref C) = true)
    (b : ∀ (kV doc pm : Value) (an : Option Addr) (cdv ct : Value) (us : List Value), us.length = ps.length → bindArgs (PySem.W.fnOf "__init__" qual (defArgs st) (defBody st) (defScope st) .none kV doc pm an cdv ct) ⟨us, []⟩ = pure (ps.zip us)) : Di K mg x C qual st ps := by
  have F := fun_mk (st := st) l c k
  exact ⟨f, _, F, ⟨mk, a, i, kc⟩, PySem.W.mg_of X G aC, F.binds b⟩
theorem txr_mk {K : PySem.W.Frag} {C : Addr} (pg : PySem.W.plainGet K C Str.empty = true) (hd : PySem.W.hasDictIn K C = true) (po : PySem.W.plainOver K C = true) (sa : PySem.W.findIn K (.ref C) "__setattr__" = some (some (.builtin "object.__setattr__")))
    (nC : PySem.W.findIn K (.ref C) "calls" = some none) (nP : PySem.W.findIn K (.ref C) "place" = some none) : TxtR K C := ⟨⟨pg, hd, po, sa⟩, nC, nP⟩
theorem cn_mk {K : PySem.W.Frag} {h : Heap} {mg : Str → Option Value} (X : K.In h) (G : h.Ns mainGlobals mg) {x : Str} {i : Int} {t : Tok} (a : PySem.W.nsIn K mainGlobals x = some (some (.int i t))) : Cn mg x i := ⟨t, PySem.W.mg_of X G a⟩

structure Top (K : PySem.W.Frag) (mg : Str → Option Value) (C : Addr) : Prop where
  d_read_number : Df K mg "read_number" sReadNumber ["memory", "at", "width"]
  d_number_bytes : Df K mg "number_bytes" sNumberBytes ["number", "width"]
  d_write_bytes : Df K mg "write_bytes" sWriteBytes ["memory", "at", "data"]
  d_crc32c : Df K mg "crc32c" sCrc ["data"]
  d_sum_bytes : Df K mg "sum_bytes" sSumBytes ["data"]
  d_make_slot : Df K mg "make_slot" sMakeSlot ["number", "kind", "data"]
  d_renumbered_slot : Df K mg "renumbered_slot" sRenumbered ["slot", "number"]
  d_message_length : Df K mg "message_length" sMessageLength ["slot"]
  d_is_sound : Df K mg "is_sound" sIsSound ["slot", "number"]
  d_tell_message : Df K mg "tell_message" sTellMessage ["slot"]
  d_new_ring : Df K mg "new_ring" sNewRing []
  d_read_head : Df K mg "read_head" sReadHead ["ring"]
  d_read_tail : Df K mg "read_tail" sReadTail ["ring"]
  d_set_head : Df K mg "set_head" sSetHead ["ring", "number"]
  d_set_tail : Df K mg "set_tail" sSetTail ["ring", "number"]
  d_count_waiting : Df K mg "count_waiting" sCountWaiting ["ring"]
  d_place_of : Df K mg "place_of" sPlaceOf ["number"]
  d_read_slot : Df K mg "read_slot" sReadSlot ["ring", "number"]
  d_write_slot : Df K mg "write_slot" sWriteSlot ["ring", "number", "slot"]
  d_rg_begin : Df K mg "rg_begin" sRgBegin ["ring"]
  d_rg_put : Df K mg "rg_put" sRgPut ["ring", "kind", "data"]
  d_sound_slot : Df K mg "sound_slot" sSoundSlot ["ring", "k"]
  d_tell_waiting : Df K mg "tell_waiting" sTellWaiting ["ring", "k"]
  d_rg_take : Df K mg "rg_take" sRgTake ["ring"]
  d_rg_look : Df K mg "rg_look" sRgLook ["ring", "k"]
  d_rg_wait : Df K mg "rg_wait" sRgWait ["ring", "looks"]
  d_rg_sound : Df K mg "rg_sound" sRgSound ["ring"]
  d_sound_slots : Df K mg "sound_slots" sSoundSlots ["ring", "waiting"]
  d_rg_mend : Df K mg "rg_mend" sRgMend ["ring"]
  d_rg_sum : Df K mg "rg_sum" sRgSum ["data"]
  d_others_write : Df K mg "others_write" sOthersWrite ["ring", "at", "data"]
  d_others_look : Df K mg "others_look" sOthersLook ["ring", "at", "count"]
  d_others_call : Df K mg "others_call" sOthersCall ["ring", "reader", "call"]
  d_one_call : Df K mg "one_call" sOneCall ["ring", "reader"]
  d_answers : Df K mg "answers" sAnswers ["calls"]
  m_has_more : Dm K C "has_more" "CallReader.has_more" sHasMore ["self"]
  m_read_one : Dm K C "read_one" "CallReader.read_one" sReadOne ["self"]
  m_read_row : Dm K C "read_row" "CallReader.read_row" sReadRow ["self"]
  i_reader : Di K mg "CallReader" C "CallReader.__init__" sInit ["self", "calls"]
  t_reader : TxtR K C
  c_ALL_ONES : Cn mg "ALL_ONES" 4294967295
  c_TURNED_POLYNOMIAL : Cn mg "TURNED_POLYNOMIAL" 2197175160
  c_SLOT_SIZE : Cn mg "SLOT_SIZE" 64
  c_NUMBER_AT : Cn mg "NUMBER_AT" 0
  c_KIND_AT : Cn mg "KIND_AT" 8
  c_LENGTH_AT : Cn mg "LENGTH_AT" 10
  c_DATA_AT : Cn mg "DATA_AT" 12
  c_MOST_DATA : Cn mg "MOST_DATA" 48
  c_SUM_AT : Cn mg "SUM_AT" 60
  c_RING_SIZE : Cn mg "RING_SIZE" 16448
  c_HEAD_AT : Cn mg "HEAD_AT" 0
  c_TAIL_AT : Cn mg "TAIL_AT" 8
  c_SLOTS_AT : Cn mg "SLOTS_AT" 64
  c_SLOT_COUNT : Cn mg "SLOT_COUNT" 256
  c_NUMBERS_END : Cn mg "NUMBERS_END" 18446744073709551616
  c_NOT_NOW : Cn mg "NOT_NOW" (-1)
  c_OUT_OF_RANGE : Cn mg "OUT_OF_RANGE" (-2)
  c_DAMAGED : Cn mg "DAMAGED" (-3)
  c_NUMBERS_WRONG : Cn mg "NUMBERS_WRONG" (-4)
  c_MOST_LOOKS : Cn mg "MOST_LOOKS" 1000
  c_MARKS_SIZE : Cn mg "MARKS_SIZE" 32
  c_RG_BEGIN : Cn mg "RG_BEGIN" 0
  c_RG_PUT : Cn mg "RG_PUT" 1
  c_RG_TAKE : Cn mg "RG_TAKE" 2
  c_RG_WAIT : Cn mg "RG_WAIT" 3
  c_RG_LOOK : Cn mg "RG_LOOK" 4
  c_RG_SOUND : Cn mg "RG_SOUND" 5
  c_RG_MEND : Cn mg "RG_MEND" 6
  c_RG_SUM : Cn mg "RG_SUM" 7
  c_OTHERS_WRITE : Cn mg "OTHERS_WRITE" 8
  c_OTHERS_LOOK : Cn mg "OTHERS_LOOK" 9
  b_range : mg "range" = none
  b_reversed : mg "reversed" = none
  b_enumerate : mg "enumerate" = none
  b_len : mg "len" = none

theorem all_ok {P : Program} {w : World} {K : PySem.W.Frag} {mg : Str → Option Value} {base : Heap} {C : Addr} (T : Top K mg C) {f : Addr} {fd : FuncData} (FA : Fun K "answers" "answers" sAnswers f fd) : FnOk P w K mg base CX0 8 f fd ["calls"] (spAnswers K) := by
  have f_read_number := ok_read_number (P := P) (w := w) (base := base) T.d_read_number T.b_reversed
  have f_number_bytes := ok_number_bytes (P := P) (w := w) (base := base) T.d_number_bytes T.b_range
  have f_write_bytes := ok_write_bytes (P := P) (w := w) (base := base) T.d_write_bytes T.b_enumerate
  have f_crc := ok_crc (P := P) (w := w) (base := base) T.d_crc32c T.b_range T.c_ALL_ONES T.c_TURNED_POLYNOMIAL
  have f_sum_bytes := ok_sum_bytes T.d_sum_bytes f_number_bytes f_crc
  have f_make_slot := ok_make_slot T.d_make_slot T.b_len T.c_MOST_DATA f_number_bytes f_sum_bytes
  have f_renumbered := ok_renumbered_slot T.d_renumbered_slot T.c_KIND_AT T.c_SUM_AT f_number_bytes f_sum_bytes
  have f_message_length := ok_message_length T.d_message_length T.c_LENGTH_AT f_read_number
  have f_is_sound := ok_is_sound T.d_is_sound T.c_NUMBER_AT T.c_MOST_DATA T.c_DATA_AT T.c_SUM_AT f_read_number f_sum_bytes f_message_length
  have f_tell_message := ok_tell_message T.d_tell_message T.c_KIND_AT T.c_LENGTH_AT T.c_DATA_AT T.c_SUM_AT f_message_length
  have f_new_ring := ok_new_ring (P := P) (w := w) (base := base) T.d_new_ring T.c_RING_SIZE
  have f_read_head := ok_read_head T.d_read_head T.c_HEAD_AT f_read_number
  have f_read_tail := ok_read_tail T.d_read_tail T.c_TAIL_AT f_read_number
  have f_set_head := ok_set_head T.d_set_head T.c_HEAD_AT f_number_bytes f_write_bytes
  have f_set_tail := ok_set_tail T.d_set_tail T.c_TAIL_AT f_number_bytes f_write_bytes
  have f_count_waiting := ok_count_waiting T.d_count_waiting T.c_NUMBERS_END f_read_head f_read_tail
  have f_place_of := ok_place_of (P := P) (w := w) (base := base) T.d_place_of T.c_SLOTS_AT T.c_SLOT_SIZE T.c_SLOT_COUNT
  have f_read_slot := ok_read_slot T.d_read_slot T.c_SLOT_SIZE f_place_of
  have f_write_slot := ok_write_slot T.d_write_slot f_place_of f_write_bytes
  have f_rg_begin := ok_rg_begin T.d_rg_begin f_set_head f_set_tail
  have f_rg_put := ok_rg_put T.d_rg_put T.c_SLOT_COUNT T.c_NUMBERS_WRONG T.c_NOT_NOW f_count_waiting f_read_tail f_make_slot f_write_slot f_set_tail
  have f_sound_slot := ok_sound_slot T.d_sound_slot T.c_NUMBERS_END f_read_head f_read_slot f_is_sound
  have f_tell_waiting := ok_tell_waiting T.d_tell_waiting T.c_SLOT_COUNT T.c_NUMBERS_WRONG T.c_NOT_NOW T.c_DAMAGED f_count_waiting f_sound_slot f_tell_message
  have f_rg_take := ok_rg_take T.d_rg_take T.c_DAMAGED f_tell_waiting f_read_head f_set_head
  have f_rg_look := ok_rg_look T.d_rg_look T.c_SLOT_COUNT T.c_OUT_OF_RANGE f_tell_waiting
  have f_rg_wait := ok_rg_wait T.d_rg_wait T.c_MOST_LOOKS T.c_OUT_OF_RANGE T.c_SLOT_COUNT T.c_NUMBERS_WRONG f_count_waiting
  have f_rg_sound := ok_rg_sound T.d_rg_sound T.b_range T.c_SLOT_COUNT T.c_NUMBERS_WRONG T.c_MARKS_SIZE f_count_waiting f_sound_slot f_number_bytes
  have f_sound_slots := ok_sound_slots T.d_sound_slots T.b_range f_sound_slot
  have f_rg_mend := ok_rg_mend T.d_rg_mend T.b_len T.b_enumerate T.c_SLOT_COUNT T.c_NUMBERS_WRONG T.c_NUMBERS_END f_count_waiting f_read_tail f_set_head f_sound_slots f_write_slot f_renumbered
  have f_rg_sum := ok_rg_sum T.d_rg_sum f_sum_bytes
  have f_others_write := ok_others_write T.d_others_write f_write_bytes
  have f_others_look := ok_others_look (P := P) (w := w) (base := base) T.d_others_look
  have f_has_more := ok_has_more (P := P) (w := w) (base := base) T.m_has_more T.t_reader T.b_len
  have f_read_one := ok_read_one (P := P) (w := w) (mg := mg) (base := base) T.m_read_one T.t_reader
  have f_read_row := ok_read_row T.m_read_row T.t_reader f_read_one
  have f_others_call := ok_others_call T.d_others_call T.t_reader T.c_OTHERS_WRITE f_read_one f_read_row f_others_write f_others_look
  have f_one_call := ok_one_call T.d_one_call T.t_reader T.c_RG_BEGIN T.c_RG_PUT T.c_RG_TAKE T.c_RG_WAIT T.c_RG_LOOK T.c_RG_SOUND T.c_RG_MEND T.c_RG_SUM T.c_OTHERS_WRITE T.c_OTHERS_LOOK f_read_one f_read_row f_rg_begin f_rg_put f_rg_take f_rg_wait f_rg_look f_rg_sound f_rg_mend f_rg_sum f_others_call
  have f_reader : Mkr P w K mg base "CallReader" C 1 ["self", "calls"] (spInit C) := by
    obtain ⟨f, fd, F, M, hm, hb⟩ := T.i_reader
    exact ⟨f, fd, M, ok_init F T.t_reader, hm, hb⟩
  exact ok_answers FA T.t_reader T.b_len f_new_ring f_reader f_has_more f_one_call
end My
open PySem PySem.W PyProof.Rows
set_option maxRecDepth 100000 in
set_option maxHeartbeats 0 in
theorem PySem.Challenge.cw_sharedring_s01_answers_holds : PySem.Challenge.rw_sharedring_s01_answers.Holds := by
  w_on; k_headS; (case hw => exact ⟨[.list [.int 0]], by decide +kernel, by decide +kernel⟩)
  k_fillS
  refine L2.walk_specK (r := PySem.Challenge.rw_sharedring_s01_answers) (k := 8) (CX := L2.CX0) (ps := ["calls"]) (sp := My.spAnswers) (by decide +kernel) rfl rfl ⟨rfl, by decide, by decide⟩ (fun w h Y => PySem.W.kIn_of Y) ?F ?S (fun _ _ _ _ z => z)
  case F =>
    intro w mg fa h Y KX G hmg
    have i_reader : ∃ C, My.Di (L2.KOf KX) mg "CallReader" C "CallReader.__init__" My.sInit ["self", "calls"] ∧ My.TxtR (L2.KOf KX) C
      ∧ My.Dm (L2.KOf KX) C "has_more" "CallReader.has_more" My.sHasMore ["self"]
      ∧ My.Dm (L2.KOf KX) C "read_one" "CallReader.read_one" My.sReadOne ["self"]
      ∧ My.Dm (L2.KOf KX) C "read_row" "CallReader.read_row" My.sReadRow ["self"]
      := by
      dsimp only [L2.KOf]
      refine' ⟨_, My.di_mk KX G ?aC ?a ?i ?l ?c ?k ?mk ?kc ?b, My.txr_mk ?pg ?hd ?po ?sa ?nC ?nP, My.dm_mk ?a0 ?i0 ?l0 ?c0 ?k0 ?b0, My.dm_mk ?a1 ?i1 ?l1 ?c1 ?k1 ?b1, My.dm_mk ?a2 ?i2 ?l2 ?c2 ?k2 ?b2⟩
      (case aC => k_is); (case a => k_is); (case i => k_is); (case l => k_is); (case c => k_is); (case k => k_is); (case mk => k_is); (case kc => k_is)
      (case b => exact fun _ _ _ _ _ _ us hl => match us, hl with | [_, _], _ => rfl)
      (case pg => k_is); (case hd => k_is); (case po => k_is); (case sa => k_is); (case nC => k_is); (case nP => k_is)
      (case a0 => k_is); (case i0 => k_is); (case l0 => k_is); (case c0 => k_is); (case k0 => k_is); (case b0 => exact fun _ _ _ _ _ _ us hl => match us, hl with | [_], _ => rfl)
      (case a1 => k_is); (case i1 => k_is); (case l1 => k_is); (case c1 => k_is); (case k1 => k_is); (case b1 => exact fun _ _ _ _ _ _ us hl => match us, hl with | [_], _ => rfl)
      (case a2 => k_is); (case i2 => k_is); (case l2 => k_is); (case c2 => k_is); (case k2 => k_is); (case b2 => exact fun _ _ _ _ _ _ us hl => match us, hl with | [_], _ => rfl)
    obtain ⟨C, i_reader, t_reader, m_has_more, m_read_one, m_read_row⟩ := i_reader
    have T : My.Top (L2.KOf KX) mg C := by
      dsimp only [L2.KOf] at i_reader t_reader m_has_more m_read_one m_read_row ⊢
      refine' My.Top.mk ?d_read_number ?d_number_bytes ?d_write_bytes ?d_crc32c ?d_sum_bytes ?d_make_slot ?d_renumbered_slot ?d_message_length ?d_is_sound ?d_tell_message ?d_new_ring ?d_read_head ?d_read_tail ?d_set_head ?d_set_tail ?d_count_waiting ?d_place_of ?d_read_slot ?d_write_slot ?d_rg_begin ?d_rg_put ?d_sound_slot ?d_tell_waiting ?d_rg_take ?d_rg_look ?d_rg_wait ?d_rg_sound ?d_sound_slots ?d_rg_mend ?d_rg_sum ?d_others_write ?d_others_look ?d_others_call ?d_one_call ?d_answers m_has_more m_read_one m_read_row i_reader t_reader ?c_ALL_ONES ?c_TURNED_POLYNOMIAL ?c_SLOT_SIZE ?c_NUMBER_AT ?c_KIND_AT ?c_LENGTH_AT ?c_DATA_AT ?c_MOST_DATA ?c_SUM_AT ?c_RING_SIZE ?c_HEAD_AT ?c_TAIL_AT ?c_SLOTS_AT ?c_SLOT_COUNT ?c_NUMBERS_END ?c_NOT_NOW ?c_OUT_OF_RANGE ?c_DAMAGED ?c_NUMBERS_WRONG ?c_MOST_LOOKS ?c_MARKS_SIZE ?c_RG_BEGIN ?c_RG_PUT ?c_RG_TAKE ?c_RG_WAIT ?c_RG_LOOK ?c_RG_SOUND ?c_RG_MEND ?c_RG_SUM ?c_OTHERS_WRITE ?c_OTHERS_LOOK ?b_range ?b_reversed ?b_enumerate ?b_len
      (case d_read_number => refine' My.df_mk KX G ?a ?l ?c ?k ?b; (case a => k_is); (case l => k_is); (case c => k_is); (case k => k_is); (case b => exact fun _ _ _ _ _ _ us hl => match us, hl with | [_, _, _], _ => rfl))
      (case d_number_bytes => refine' My.df_mk KX G ?a ?l ?c ?k ?b; (case a => k_is); (case l => k_is); (case c => k_is); (case k => k_is); (case b => exact fun _ _ _ _ _ _ us hl => match us, hl with | [_, _], _ => rfl))
      (case d_write_bytes => refine' My.df_mk KX G ?a ?l ?c ?k ?b; (case a => k_is); (case l => k_is); (case c => k_is); (case k => k_is); (case b => exact fun _ _ _ _ _ _ us hl => match us, hl with | [_, _, _], _ => rfl))
      (case d_crc32c => refine' My.df_mk KX G ?a ?l ?c ?k ?b; (case a => k_is); (case l => k_is); (case c => k_is); (case k => k_is); (case b => exact fun _ _ _ _ _ _ us hl => match us, hl with | [_], _ => rfl))
      (case d_sum_bytes => refine' My.df_mk KX G ?a ?l ?c ?k ?b; (case a => k_is); (case l => k_is); (case c => k_is); (case k => k_is); (case b => exact fun _ _ _ _ _ _ us hl => match us, hl with | [_], _ => rfl))
      (case d_make_slot => refine' My.df_mk KX G ?a ?l ?c ?k ?b; (case a => k_is); (case l => k_is); (case c => k_is); (case k => k_is); (case b => exact fun _ _ _ _ _ _ us hl => match us, hl with | [_, _, _], _ => rfl))
      (case d_renumbered_slot => refine' My.df_mk KX G ?a ?l ?c ?k ?b; (case a => k_is); (case l => k_is); (case c => k_is); (case k => k_is); (case b => exact fun _ _ _ _ _ _ us hl => match us, hl with | [_, _], _ => rfl))
      (case d_message_length => refine' My.df_mk KX G ?a ?l ?c ?k ?b; (case a => k_is); (case l => k_is); (case c => k_is); (case k => k_is); (case b => exact fun _ _ _ _ _ _ us hl => match us, hl with | [_], _ => rfl))
      (case d_is_sound => refine' My.df_mk KX G ?a ?l ?c ?k ?b; (case a => k_is); (case l => k_is); (case c => k_is); (case k => k_is); (case b => exact fun _ _ _ _ _ _ us hl => match us, hl with | [_, _], _ => rfl))
      (case d_tell_message => refine' My.df_mk KX G ?a ?l ?c ?k ?b; (case a => k_is); (case l => k_is); (case c => k_is); (case k => k_is); (case b => exact fun _ _ _ _ _ _ us hl => match us, hl with | [_], _ => rfl))
      (case d_new_ring => refine' My.df_mk KX G ?a ?l ?c ?k ?b; (case a => k_is); (case l => k_is); (case c => k_is); (case k => k_is); (case b => exact fun _ _ _ _ _ _ us hl => match us, hl with | [], _ => rfl))
      (case d_read_head => refine' My.df_mk KX G ?a ?l ?c ?k ?b; (case a => k_is); (case l => k_is); (case c => k_is); (case k => k_is); (case b => exact fun _ _ _ _ _ _ us hl => match us, hl with | [_], _ => rfl))
      (case d_read_tail => refine' My.df_mk KX G ?a ?l ?c ?k ?b; (case a => k_is); (case l => k_is); (case c => k_is); (case k => k_is); (case b => exact fun _ _ _ _ _ _ us hl => match us, hl with | [_], _ => rfl))
      (case d_set_head => refine' My.df_mk KX G ?a ?l ?c ?k ?b; (case a => k_is); (case l => k_is); (case c => k_is); (case k => k_is); (case b => exact fun _ _ _ _ _ _ us hl => match us, hl with | [_, _], _ => rfl))
      (case d_set_tail => refine' My.df_mk KX G ?a ?l ?c ?k ?b; (case a => k_is); (case l => k_is); (case c => k_is); (case k => k_is); (case b => exact fun _ _ _ _ _ _ us hl => match us, hl with | [_, _], _ => rfl))
      (case d_count_waiting => refine' My.df_mk KX G ?a ?l ?c ?k ?b; (case a => k_is); (case l => k_is); (case c => k_is); (case k => k_is); (case b => exact fun _ _ _ _ _ _ us hl => match us, hl with | [_], _ => rfl))
      (case d_place_of => refine' My.df_mk KX G ?a ?l ?c ?k ?b; (case a => k_is); (case l => k_is); (case c => k_is); (case k => k_is); (case b => exact fun _ _ _ _ _ _ us hl => match us, hl with | [_], _ => rfl))
      (case d_read_slot => refine' My.df_mk KX G ?a ?l ?c ?k ?b; (case a => k_is); (case l => k_is); (case c => k_is); (case k => k_is); (case b => exact fun _ _ _ _ _ _ us hl => match us, hl with | [_, _], _ => rfl))
      (case d_write_slot => refine' My.df_mk KX G ?a ?l ?c ?k ?b; (case a => k_is); (case l => k_is); (case c => k_is); (case k => k_is); (case b => exact fun _ _ _ _ _ _ us hl => match us, hl with | [_, _, _], _ => rfl))
      (case d_rg_begin => refine' My.df_mk KX G ?a ?l ?c ?k ?b; (case a => k_is); (case l => k_is); (case c => k_is); (case k => k_is); (case b => exact fun _ _ _ _ _ _ us hl => match us, hl with | [_], _ => rfl))
      (case d_rg_put => refine' My.df_mk KX G ?a ?l ?c ?k ?b; (case a => k_is); (case l => k_is); (case c => k_is); (case k => k_is); (case b => exact fun _ _ _ _ _ _ us hl => match us, hl with | [_, _, _], _ => rfl))
      (case d_sound_slot => refine' My.df_mk KX G ?a ?l ?c ?k ?b; (case a => k_is); (case l => k_is); (case c => k_is); (case k => k_is); (case b => exact fun _ _ _ _ _ _ us hl => match us, hl with | [_, _], _ => rfl))
      (case d_tell_waiting => refine' My.df_mk KX G ?a ?l ?c ?k ?b; (case a => k_is); (case l => k_is); (case c => k_is); (case k => k_is); (case b => exact fun _ _ _ _ _ _ us hl => match us, hl with | [_, _], _ => rfl))
      (case d_rg_take => refine' My.df_mk KX G ?a ?l ?c ?k ?b; (case a => k_is); (case l => k_is); (case c => k_is); (case k => k_is); (case b => exact fun _ _ _ _ _ _ us hl => match us, hl with | [_], _ => rfl))
      (case d_rg_look => refine' My.df_mk KX G ?a ?l ?c ?k ?b; (case a => k_is); (case l => k_is); (case c => k_is); (case k => k_is); (case b => exact fun _ _ _ _ _ _ us hl => match us, hl with | [_, _], _ => rfl))
      (case d_rg_wait => refine' My.df_mk KX G ?a ?l ?c ?k ?b; (case a => k_is); (case l => k_is); (case c => k_is); (case k => k_is); (case b => exact fun _ _ _ _ _ _ us hl => match us, hl with | [_, _], _ => rfl))
      (case d_rg_sound => refine' My.df_mk KX G ?a ?l ?c ?k ?b; (case a => k_is); (case l => k_is); (case c => k_is); (case k => k_is); (case b => exact fun _ _ _ _ _ _ us hl => match us, hl with | [_], _ => rfl))
      (case d_sound_slots => refine' My.df_mk KX G ?a ?l ?c ?k ?b; (case a => k_is); (case l => k_is); (case c => k_is); (case k => k_is); (case b => exact fun _ _ _ _ _ _ us hl => match us, hl with | [_, _], _ => rfl))
      (case d_rg_mend => refine' My.df_mk KX G ?a ?l ?c ?k ?b; (case a => k_is); (case l => k_is); (case c => k_is); (case k => k_is); (case b => exact fun _ _ _ _ _ _ us hl => match us, hl with | [_], _ => rfl))
      (case d_rg_sum => refine' My.df_mk KX G ?a ?l ?c ?k ?b; (case a => k_is); (case l => k_is); (case c => k_is); (case k => k_is); (case b => exact fun _ _ _ _ _ _ us hl => match us, hl with | [_], _ => rfl))
      (case d_others_write => refine' My.df_mk KX G ?a ?l ?c ?k ?b; (case a => k_is); (case l => k_is); (case c => k_is); (case k => k_is); (case b => exact fun _ _ _ _ _ _ us hl => match us, hl with | [_, _, _], _ => rfl))
      (case d_others_look => refine' My.df_mk KX G ?a ?l ?c ?k ?b; (case a => k_is); (case l => k_is); (case c => k_is); (case k => k_is); (case b => exact fun _ _ _ _ _ _ us hl => match us, hl with | [_, _, _], _ => rfl))
      (case d_others_call => refine' My.df_mk KX G ?a ?l ?c ?k ?b; (case a => k_is); (case l => k_is); (case c => k_is); (case k => k_is); (case b => exact fun _ _ _ _ _ _ us hl => match us, hl with | [_, _, _], _ => rfl))
      (case d_one_call => refine' My.df_mk KX G ?a ?l ?c ?k ?b; (case a => k_is); (case l => k_is); (case c => k_is); (case k => k_is); (case b => exact fun _ _ _ _ _ _ us hl => match us, hl with | [_, _], _ => rfl))
      (case d_answers => refine' My.df_mk KX G ?a ?l ?c ?k ?b; (case a => k_is); (case l => k_is); (case c => k_is); (case k => k_is); (case b => exact fun _ _ _ _ _ _ us hl => match us, hl with | [_], _ => rfl))
      (case c_ALL_ONES => refine' My.cn_mk KX G ?a; (case a => k_is))
      (case c_TURNED_POLYNOMIAL => refine' My.cn_mk KX G ?a; (case a => k_is))
      (case c_SLOT_SIZE => refine' My.cn_mk KX G ?a; (case a => k_is))
      (case c_NUMBER_AT => refine' My.cn_mk KX G ?a; (case a => k_is))
      (case c_KIND_AT => refine' My.cn_mk KX G ?a; (case a => k_is))
      (case c_LENGTH_AT => refine' My.cn_mk KX G ?a; (case a => k_is))
      (case c_DATA_AT => refine' My.cn_mk KX G ?a; (case a => k_is))
      (case c_MOST_DATA => refine' My.cn_mk KX G ?a; (case a => k_is))
      (case c_SUM_AT => refine' My.cn_mk KX G ?a; (case a => k_is))
      (case c_RING_SIZE => refine' My.cn_mk KX G ?a; (case a => k_is))
      (case c_HEAD_AT => refine' My.cn_mk KX G ?a; (case a => k_is))
      (case c_TAIL_AT => refine' My.cn_mk KX G ?a; (case a => k_is))
      (case c_SLOTS_AT => refine' My.cn_mk KX G ?a; (case a => k_is))
      (case c_SLOT_COUNT => refine' My.cn_mk KX G ?a; (case a => k_is))
      (case c_NUMBERS_END => refine' My.cn_mk KX G ?a; (case a => k_is))
      (case c_NOT_NOW => refine' My.cn_mk KX G ?a; (case a => k_is))
      (case c_OUT_OF_RANGE => refine' My.cn_mk KX G ?a; (case a => k_is))
      (case c_DAMAGED => refine' My.cn_mk KX G ?a; (case a => k_is))
      (case c_NUMBERS_WRONG => refine' My.cn_mk KX G ?a; (case a => k_is))
      (case c_MOST_LOOKS => refine' My.cn_mk KX G ?a; (case a => k_is))
      (case c_MARKS_SIZE => refine' My.cn_mk KX G ?a; (case a => k_is))
      (case c_RG_BEGIN => refine' My.cn_mk KX G ?a; (case a => k_is))
      (case c_RG_PUT => refine' My.cn_mk KX G ?a; (case a => k_is))
      (case c_RG_TAKE => refine' My.cn_mk KX G ?a; (case a => k_is))
      (case c_RG_WAIT => refine' My.cn_mk KX G ?a; (case a => k_is))
      (case c_RG_LOOK => refine' My.cn_mk KX G ?a; (case a => k_is))
      (case c_RG_SOUND => refine' My.cn_mk KX G ?a; (case a => k_is))
      (case c_RG_MEND => refine' My.cn_mk KX G ?a; (case a => k_is))
      (case c_RG_SUM => refine' My.cn_mk KX G ?a; (case a => k_is))
      (case c_OTHERS_WRITE => refine' My.cn_mk KX G ?a; (case a => k_is))
      (case c_OTHERS_LOOK => refine' My.cn_mk KX G ?a; (case a => k_is))
      (case b_range => refine' PySem.W.mg_none_of KX G ?a; (case a => k_is))
      (case b_reversed => refine' PySem.W.mg_none_of KX G ?a; (case a => k_is))
      (case b_enumerate => refine' PySem.W.mg_none_of KX G ?a; (case a => k_is))
      (case b_len => refine' PySem.W.mg_none_of KX G ?a; (case a => k_is))
    obtain ⟨f0, fd0, F0, e0, hb0⟩ := T.d_answers
    have e1 := hmg.symm.trans e0
    cases e1
    refine ⟨fd0, ?_, fun base _ _ => My.all_ok T F0⟩
    obtain ⟨oc, od, kV, doc, pm, an, cdv, ct, osl, rfl, lk, hcd⟩ := F0.ex
    exact fun s us hu => match us, hu with | [_], _ => .of_eq rfl
  case S =>
    intro K H xs a hO hwi hask hx
    cases hx with
    | cons h1 h2 =>
      cases h2
      cases h1 with
      | lst hs ha =>
        have e := L2.ints_dw a.1 _ ha
        subst e
        exact ⟨_, a.1, rfl, hs, hask, fun H' p hp => .lst (L2.SqL.of hp) (L2.dw_ints _)⟩
end
