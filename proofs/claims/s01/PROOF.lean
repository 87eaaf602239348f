import PyProof.Rows.All
import Wide.All
import OpenK.AllK
import Wide.FinOn
import PyProof.EqAt
import PyProof.EqKinds
import PyProof.TupleCall
import KE.BitLaws
import Open.SpecLaws
import KE.OsHead
import KE.OsGo
import KE.KSortTupG
import PySem.Challenge.RW_roomdesk_s01_answers
set_option Elab.async false
set_option linter.all false
set_option maxRecDepth 100000
/-! THE HAND LAYER, for ints, bools, texts, own classes, lists, tuples, dicts, comprehensions, walks over dicts, enumerate, zip, reversed, texts, calls, loops. Paste it whole ahead of your own text; what your proof does not reach may be deleted. -/
namespace L2
open PySem PySem.Spec PyProof.Rows

/-- a key: an int or a str -/
abbrev Key := Sum Int Str
def keyIs : Key → Value → Bool
  | .inl k, v => Value.isInt k v
  | .inr x, v => Value.isStrOf x v
def keyH (w : World) : Key → Int
  | .inl k => hashInt k
  | .inr x => hashStr w x
theorem keyIs_shape : ∀ {k : Key} {v : Value}, keyIs k v = true → (∃ i t, k = Sum.inl i ∧ v = Value.int i t) ∨ (∃ x t, k = Sum.inr x ∧ v = Value.str x t)
  | .inl i, v, h => by
    obtain ⟨t, e⟩ := Value.isInt_shape (k := i) (v := v) h
    exact .inl ⟨i, t, rfl, e⟩
  | .inr x, v, h => by
    obtain ⟨t, e⟩ := Value.isStrOf_shape (x := x) (v := v) h
    exact .inr ⟨x, t, rfl, e⟩
theorem key_ll (a b : Int) : decide ((Sum.inl a : Key) = Sum.inl b) = (a == b) := by
  by_cases e : a = b
  · subst e; simp
  · have h : ¬ (Sum.inl a : Key) = Sum.inl b := fun q => e (Sum.inl.inj q)
    rw [decide_eq_false h]
    exact (beq_eq_false_iff_ne.mpr e).symm
theorem key_rr (a b : Str) : decide ((Sum.inr a : Key) = Sum.inr b) = decide (a = b) := by
  by_cases e : a = b
  · subst e; simp
  · have h : ¬ (Sum.inr a : Key) = Sum.inr b := fun q => e (Sum.inr.inj q)
    rw [decide_eq_false h, decide_eq_false e]
theorem key_lr (a : Int) (b : Str) : decide ((Sum.inl a : Key) = Sum.inr b) = false := decide_eq_false (fun q => nomatch q)
theorem key_rl (a : Str) (b : Int) : decide ((Sum.inr a : Key) = Sum.inl b) = false := decide_eq_false (fun q => nomatch q)

def mixKind (prog : Program) (w : World) : PySem.KeyKind prog w Key where
  is := keyIs
  hash := keyH w
  inj := fun v a b ha hb => by
    rcases keyIs_shape ha with ⟨i, t, rfl, rfl⟩ | ⟨x, t, rfl, rfl⟩
    · rcases keyIs_shape hb with ⟨j, u, rfl, e⟩ | ⟨y, u, rfl, e⟩
      · injection e with e1 _; rw [e1]
      · exact nomatch e
    · rcases keyIs_shape hb with ⟨j, u, rfl, e⟩ | ⟨y, u, rfl, e⟩
      · exact nomatch e
      · injection e with e1 _; rw [e1]
  byValue := fun k v h => by
    rcases keyIs_shape h with ⟨i, t, rfl, rfl⟩ | ⟨x, t, rfl, rfl⟩ <;> rfl
  pyHash := fun hv h => by
    rcases keyIs_shape hv with ⟨i, t, rfl, rfl⟩ | ⟨x, t, rfl, rfl⟩
    · exact wpAny_pyHash_int h
    · exact wpAny_pyHash_str h
  eqBool := fun hu hv h => by
    rcases keyIs_shape hu with ⟨i, t, rfl, rfl⟩ | ⟨x, t, rfl, rfl⟩
    · rcases keyIs_shape hv with ⟨j, u, rfl, rfl⟩ | ⟨y, u, rfl, rfl⟩
      · rw [key_ll] at h; exact wpAny_eqBool_int h
      · rw [key_lr] at h; exact SeqAt.EqAt.int_str i t y u _ _ _ _ h
    · rcases keyIs_shape hv with ⟨j, u, rfl, rfl⟩ | ⟨y, u, rfl, rfl⟩
      · rw [key_rl] at h; exact SeqAt.EqAt.str_int x t j u _ _ _ _ h
      · rw [key_rr] at h; exact wpAny_eqBool_str h
  «strs» := fun k x t v h => by
    rcases keyIs_shape h with ⟨i, u, rfl, e⟩ | ⟨y, u, rfl, e⟩
    · exact nomatch e
    · injection e with e1 _
      subst e1
      cases v <;> rfl

end L2

namespace L2
open PySem PySem.Spec PyProof.Rows

/-- a value, without the heap -/
inductive V where
  | non | bl (b : Bool) | int (i : Int) | str (x : Str) | byt (b : Array UInt8) | flt (b : UInt64) | ref (a : Addr) | ty (n : String)
  deriving DecidableEq

def RelV : V → Value → Prop
  | .non, u => u = Value.none
  | .bl b, u => u = Value.bool b
  | .int i, u => ∃ t, u = Value.int i t
  | .str x, u => ∃ t, u = Value.str x t
  | .byt b, u => ∃ t, u = Value.bytes b t
  | .flt b, u => ∃ t, u = Value.float b t
  | .ref a, u => u = Value.ref a
  | .ty n, u => u = Value.type n

abbrev Vals : List V → List Value → Prop := Paired RelV
theorem Vals.length {xs : List V} {us : List Value} (r : Vals xs us) : xs.length = us.length := Paired.length r
theorem Vals.get : ∀ {xs : List V} {us : List Value} {i : Nat} {x : V}, Vals xs us → xs[i]? = some x → ∃ u, us[i]? = some u ∧ RelV x u
  | _, _, _, _, .nil, e => by simp at e
  | _, _, 0, _, .cons r _, e => by simp at e; subst e; exact ⟨_, rfl, r⟩
  | _, _, i + 1, x, .cons _ t, e => by
    obtain ⟨u, h1, h2⟩ := Vals.get (i := i) (x := x) t (by simpa using e)
    exact ⟨u, by simpa using h1, h2⟩
theorem Vals.set {x : V} {u : Value} (r : RelV x u) : ∀ {xs : List V} {us : List Value} (i : Nat), Vals xs us → Vals (xs.set i x) (us.set i u)
  | _, _, _, .nil => .nil
  | _, _, 0, .cons _ t => .cons r t
  | _, _, i + 1, .cons q t => .cons q (Vals.set r i t)
theorem Vals.append : ∀ {xs ys : List V} {us ws : List Value}, Vals xs us → Vals ys ws → Vals (xs ++ ys) (us ++ ws)
  | _, _, _, _, .nil, s => s
  | _, _, _, _, .cons r t, s => .cons r (Vals.append t s)
theorem Vals.take : ∀ {xs : List V} {us : List Value} (n : Nat), Vals xs us → Vals (xs.take n) (us.take n)
  | _, _, 0, _ => .nil
  | _, _, _ + 1, .nil => .nil
  | _, _, n + 1, .cons r t => .cons r (Vals.take n t)
theorem Vals.drop : ∀ {xs : List V} {us : List Value} (n : Nat), Vals xs us → Vals (xs.drop n) (us.drop n)
  | _, _, 0, r => r
  | _, _, _ + 1, .nil => .nil
  | _, _, n + 1, .cons _ t => Vals.drop n t

def RelO : Option V → Option Value → Prop
  | some v, some u => RelV v u
  | none, none => True
  | _, _ => False
def KV {κ : Type} : List (κ × V) → List (κ × Value) → Prop := Paired fun (p : κ × V) (q : κ × Value) => p.1 = q.1 ∧ RelV p.2 q.2

/-- a key of a dict (00_mix): an int or a text -/
def kV : Key → V
  | .inl i => .int i
  | .inr x => .str x

/-- what stands at a tracked address -/
inductive HO where
  /-- a list -/
  | lst (xs : List V)
  /-- a tuple (never changes) -/
  | tup (xs : List V)
  /-- a dict whose keys are ints and texts; one whose keys are tuples of ints and texts (the empty one is both) -/
  | dK (kvs : List (Key × V)) | dT (kvs : List (List Key × V))
  /-- a set of ints: its members, its size -/
  | set (S : Int → Bool) (n : Nat)
  /-- an instance of the class at C, its dict at dx, its attributes -/
  | ins (C dx : Addr) (fs : List (Str × V))
  /-- the dict of the instance at x -/
  | own (x : Addr)
  /-- the dict of an exception -/
  | xd (fs : List (Str × V))
  /-- a bound method, f of x -/
  | met (f x : Addr)
  /-- a range object lo, lo + 1, .. below hi -/
  | rng (lo hi : Int)
  /-- a thing that is known to the object (the script; a dict while a loop walks it): read, never written while it is so -/
  | frz (o : Obj) (u : HO)
  /-- a code object's table -/
  | tbl (ps : Array Value)
  /-- any other thing, by what is true of its one object (a def of one's own: SetO a S n := HO.ext fun h => ..) -/
  | ext (φ : Heap → Prop)

abbrev Hp := Addr → Option HO
def upd (H : Hp) (a : Addr) (o : HO) : Hp := fun b => if b = a then some o else H b
theorem upd_same {H : Hp} {a : Addr} {o : HO} : upd H a o a = some o := by unfold upd; rw [if_pos rfl]
theorem upd_ne {H : Hp} {a b : Addr} {o : HO} (h : b ≠ a) : upd H a o b = H b := by unfold upd; rw [if_neg h]
theorem upd_upd {H : Hp} {a : Addr} {o u : HO} : upd (upd H a o) a u = upd H a u := by
  funext b; unfold upd; split <;> rfl
/-- two objects of different content stand apart -/
theorem ne_of {H : Hp} {a b : Addr} {o u : HO} (h : H a = some o) (h' : H b = some u) (d : o ≠ u) : a ≠ b := by
  intro e; subst e; rw [h] at h'; exact d (Option.some.inj h')
theorem ne_of_none {H : Hp} {a b : Addr} {o : HO} (h : H a = some o) (h' : H b = none) : a ≠ b := by
  intro e; subst e; rw [h] at h'; cases h'

section
variable (P : Program) (w : World)
def ObjOk (H : Hp) (h : Heap) (a : Addr) : HO → Prop
  | .lst xs => xs.length ≤ sizeLine ∧ ∃ (its : List Value) (n : Nat), Vals xs its ∧ h.get? a = some { cls := .type "list", data := .seq its.toArray n }
  | .tup xs => xs.length ≤ sizeLine ∧ ∃ its : List Value, Vals xs its ∧ IsTup h a its.toArray
  | .dK kvs => kvs.length ≤ sizeLine ∧ (a == sysModules) = false ∧ ∃ vs, KV kvs vs ∧ h.DictOf (mixKind P w) a vs
  | .dT kvs => kvs.length ≤ sizeLine ∧ (a == sysModules) = false ∧ ∃ xs : List (List Key × Addr × Value),
      Paired (fun (p : List Key × V) (q : List Key × Addr × Value) => p.1 = q.1 ∧ H q.2.1 = some (.tup (p.1.map kV)) ∧ RelV p.2 q.2.2) kvs xs ∧
      ∃ o es ep, h.get? a = some o ∧ o.ExactDict ∧ o.data = .dict es ep ∧ es.toList = xs.map (entryOfKey (tupleKind (mixKind P w))) ∧ (xs.map (·.1)).Nodup
  | .set S n => h.SetOf (intKind P w) a S n
  | .ins C dx fs => H dx = some (.own a) ∧ fs.length ≤ 1000 ∧ dx ≠ a ∧ h.get? a = some (PySem.W.instObj C dx) ∧
      ∃ mA, h.Ns1 dx mA ∧ (∀ f, RelO (fs.lookup f) (mA f)) ∧ PySem.Within mA (fs.map (·.1))
  | .own _ => ∃ o, h.get? a = some o
  | .xd fs => ∃ mA, h.Ns1 a mA ∧ ∀ f, RelO (fs.lookup f) (mA f)
  | .rng lo hi => ∃ t u v, h.get? a = some { cls := .type "range", data := .fields #[.int lo t, .int hi u, .int 1 v] }
  | .frz o u => h.get? a = some o ∧ ObjOk H h a u
  | .tbl ps => h.get? a = some { cls := .none, data := .fields ps }
  | .met f x => h.get? a = some (PySem.W.methodObj (.ref f) (.ref x))
  | .ext φ => φ h ∧ (∃ o, h.get? a = some o) ∧ ∀ h1 h2 : Heap, φ h1 → (∀ o, h1.get? a = some o → h2.get? a = some o) → φ h2
/-- the abstract heap is held -/
def HOk (H : Hp) (h : Heap) : Prop := ∀ a o, H a = some o → ObjOk P w H h a o
end

section
variable {P : Program} {w : World} {H H' : Hp} {h h' : Heap} {a : Addr} {o : HO}
theorem ObjOk.lt (x : ObjOk P w H h a o) : a < h.objs.size := by
  cases o with
  | lst xs => obtain ⟨_, _, _, _, e⟩ := x; exact Heap.lt_size e
  | tup xs => obtain ⟨_, _, _, p⟩ := x; exact p.lt
  | dK kvs => obtain ⟨_, _, _, _, o, _, _, e, _⟩ := x; exact Heap.lt_size e
  | dT kvs => obtain ⟨_, _, _, _, o, _, _, e, _⟩ := x; exact Heap.lt_size e
  | set S n => obtain ⟨o, _, _, _, e, _⟩ := x; exact Heap.lt_size e
  | ins C dx fs => obtain ⟨_, _, _, e, _⟩ := x; exact Heap.lt_size e
  | own y => obtain ⟨_, e⟩ := x; exact Heap.lt_size e
  | xd fs => obtain ⟨_, ⟨_, _, _, e, _⟩, _⟩ := x; exact Heap.lt_size e
  | rng lo hi => obtain ⟨_, _, _, e⟩ := x; exact Heap.lt_size e
  | frz ob u => obtain ⟨e, _⟩ := x; exact Heap.lt_size e
  | tbl ps => exact Heap.lt_size (show h.get? a = some _ from x)
  | met f y => exact Heap.lt_size (show h.get? a = some _ from x)
  | ext φ => obtain ⟨_, ⟨_, e⟩, _⟩ := x; exact Heap.lt_size e
theorem Paired.mapP {α β : Type} {F G : α → β → Prop} : ∀ {l₁ : List α} {l₂ : List β}, Paired F l₁ l₂ → (∀ a b, F a b → G a b) → Paired G l₁ l₂
  | _, _, .nil, _ => .nil
  | _, _, .cons r t, f => .cons (f _ _ r) (Paired.mapP t f)
/-- what an object's description leans on: its own object, its own dict, the tuples -/
theorem ObjOk.stay (x : ObjOk P w H h a o) (k : ∀ b u, (b = a ∨ H b = some (.own a)) → h.get? b = some u → h'.get? b = some u)
    (ho : ∀ b, H b = some (.own a) → H' b = some (.own a)) (ht : ∀ b xs, H b = some (.tup xs) → H' b = some (.tup xs)) : ObjOk P w H' h' a o := by
  induction o with
  | lst xs => obtain ⟨z, its, n, r, e⟩ := x; exact ⟨z, its, n, r, k _ _ (.inl rfl) e⟩
  | tup xs => obtain ⟨z, its, r, ob, e, c⟩ := x; exact ⟨z, its, r, ob, k _ _ (.inl rfl) e, c⟩
  | dK kvs => obtain ⟨z, y, vs, r, ob, es, ep, e, c⟩ := x; exact ⟨z, y, vs, r, ob, es, ep, k _ _ (.inl rfl) e, c⟩
  | dT kvs =>
    obtain ⟨z, y, xs, r, ob, es, ep, e, c⟩ := x
    exact ⟨z, y, xs, Paired.mapP r fun p q z => ⟨z.1, ht _ _ z.2.1, z.2.2⟩, ob, es, ep, k _ _ (.inl rfl) e, c⟩
  | set S n => obtain ⟨ob, es, ep, t, e, c⟩ := x; exact ⟨ob, es, ep, t, k _ _ (.inl rfl) e, c⟩
  | ins C dx fs =>
    obtain ⟨d, z, ne, e, mA, ⟨od, es, ep, e2, c⟩, r⟩ := x
    exact ⟨ho _ d, z, ne, k _ _ (.inl rfl) e, mA, ⟨od, es, ep, k _ _ (.inr d) e2, c⟩, r⟩
  | own y => obtain ⟨ob, e⟩ := x; exact ⟨ob, k _ _ (.inl rfl) e⟩
  | xd fs => obtain ⟨mA, ⟨od, es, ep, e, c⟩, r⟩ := x; exact ⟨mA, ⟨od, es, ep, k _ _ (.inl rfl) e, c⟩, r⟩
  | rng lo hi => obtain ⟨t, u, v, e⟩ := x; exact ⟨t, u, v, k _ _ (.inl rfl) e⟩
  | frz ob u ih => obtain ⟨e, q⟩ := x; exact ⟨k _ _ (.inl rfl) e, ih q⟩
  | tbl ps =>
    have e : h.get? a = some { cls := .none, data := .fields ps } := x
    show h'.get? a = some { cls := .none, data := .fields ps }
    exact k a _ (.inl rfl) e
  | met f y =>
    have e : h.get? a = some (PySem.W.methodObj (.ref f) (.ref y)) := x
    show h'.get? a = some (PySem.W.methodObj (.ref f) (.ref y))
    exact k a _ (.inl rfl) e
  | ext φ => obtain ⟨p, ⟨o, e⟩, st⟩ := x; exact ⟨st _ _ p fun o q => k _ _ (.inl rfl) q, ⟨o, k _ _ (.inl rfl) e⟩, st⟩
theorem HOk.lt (x : HOk P w H h) (e : H a = some o) : a < h.objs.size := (x a o e).lt
theorem HOk.fresh (x : HOk P w H h) (e : h.objs.size ≤ a) : H a = none := by
  cases q : H a with
  | none => rfl
  | some u => exact absurd (Nat.lt_of_lt_of_le (x.lt q) e) (Nat.lt_irrefl _)
/-- every object of the heap is kept -/
theorem HOk.kept (x : HOk P w H h) (k : ∀ b u, h.get? b = some u → h'.get? b = some u) : HOk P w H h' := fun a o e =>
  (x a o e).stay (fun b u _ q => k b u q) (fun _ q => q) fun _ _ q => q
/-- a new object is laid and tracked -/
theorem HOk.laid (x : HOk P w H h) (k : ∀ b u, h.get? b = some u → h'.get? b = some u) (hp : h.objs.size ≤ a) (new : ObjOk P w (upd H a o) h' a o) : HOk P w (upd H a o) h' := fun b u e => by
  have hn := x.fresh hp
  by_cases hb : b = a
  · subst hb; rw [upd_same] at e; cases e; exact new
  · rw [upd_ne hb] at e
    exact (x b u e).stay (fun c v _ q => k c v q) (fun c q => by rw [upd_ne (ne_of_none q hn)]; exact q) fun c xs q => by rw [upd_ne (ne_of_none q hn)]; exact q
end

/-- what may be read as u: it is u, or a known u -/
def Rd (H : Hp) (a : Addr) (u : HO) : Prop := H a = some u ∨ ∃ o, H a = some (.frz o u)
theorem Rd.ok {P : Program} {w : World} {H : Hp} {h : Heap} {a : Addr} {u : HO} (r : Rd H a u) (x : HOk P w H h) : ObjOk P w H h a u := by
  rcases r with r | ⟨o, r⟩
  · exact x a u r
  · obtain ⟨_, q⟩ := x a _ r
    exact q
/-- what may be written -/
def Mut : Option HO → Prop
  | some (.lst _) => True
  | some (.dK _) => True
  | some (.dT _) => True
  | some (.set _ _) => True
  | some (.ins _ _ _) => True
  | some (.ext _) => True
  | _ => False
section
variable {P : Program} {w : World} {H : Hp} {h h' : Heap} {x e : Addr} {o' : HO}
/-- the object at e is changed: x itself, or the dict of the instance x -/
theorem HOk.write (ok : HOk P w H h) (mu : Mut (H x)) (he : e = x ∨ H e = some (.own x)) (k : ∀ b u, b ≠ e → h.get? b = some u → h'.get? b = some u) (heo : ∃ u, h'.get? e = some u)
    (new : ObjOk P w (upd H x o') h' x o') : HOk P w (upd H x o') h' := fun b u q => by
  have nown : ∀ c y, H c = some (.own y) → c ≠ x := fun c y r z => by subst z; rw [r] at mu; exact mu
  have ntup : ∀ c xs, H c = some (.tup xs) → c ≠ x := fun c xs r z => by subst z; rw [r] at mu; exact mu
  by_cases hb : b = x
  · subst hb; rw [upd_same] at q; cases q; exact new
  · rw [upd_ne hb] at q
    by_cases hbe : b = e
    · have q' : H b = some (.own x) := by
        rcases he with z | z
        · exact absurd (hbe.trans z) hb
        · rw [hbe]; exact z
      rw [q] at q'; cases q'
      obtain ⟨v, hv⟩ := heo
      exact ⟨v, by rw [hbe]; exact hv⟩
    · refine (ok b u q).stay (fun c v hc r => k c v ?_ r) (fun c r => by rw [upd_ne (nown c b r)]; exact r) fun c xs r => by rw [upd_ne (ntup c xs r)]; exact r
      rcases hc with rfl | hc
      · exact hbe
      · rintro rfl
        rcases he with z | z
        · exact nown c b hc z
        · rw [hc] at z; cases z; exact hb rfl
end

/-! ### kept unless tracked; of the frames at fs (the callers') the slots may change (an exception that passes writes there); of the records at ex (iterators) nothing is said -/
structure Un (fs ex : List Addr) (H H' : Hp) (h h' : Heap) : Prop where
  keep : ∀ b o, h.get? b = some o → H b = none → b ∉ fs → b ∉ ex → h'.get? b = some o
  slot : ∀ b o, h.get? b = some o → H b = none → b ∈ fs → b ∉ ex → ∃ sl, h'.get? b = some { o with slots := sl }
  free : ∀ b o, h.get? b = some o → H b = none → b ∉ ex → H' b = none
  there : ∀ b o, h.get? b = some o → b ∉ ex → ∃ o', h'.get? b = some o'
  tups : ∀ b xs, H b = some (.tup xs) → H' b = some (.tup xs)
  frzs : ∀ b o u, H b = some (.frz o u) → H' b = some (.frz o u)
  tbls : ∀ b ps, H b = some (.tbl ps) → ∃ more, H' b = some (.tbl (ps ++ more))
section
variable {fs fs' ex ex' : List Addr} {H H1 H2 : Hp} {h h1 h2 h' : Heap} {a x e : Addr} {o : HO}
theorem Un.any (u : Un fs ex H H1 h h1) {b : Addr} {ob : Obj} (q : h.get? b = some ob) (n : H b = none) (hx : b ∉ ex) : ∃ sl, h1.get? b = some { ob with slots := sl } := by
  by_cases hb : b ∈ fs
  · exact u.slot b ob q n hb hx
  · exact ⟨ob.slots, u.keep b ob q n hb hx⟩
theorem Un.kept (k : ∀ b u, h.get? b = some u → h'.get? b = some u) : Un fs ex H H h h' :=
  ⟨fun b ob q _ _ _ => k b ob q, fun b ob q _ _ _ => ⟨ob.slots, k b ob q⟩, fun _ _ _ n _ => n, fun b ob q _ => ⟨ob, k b ob q⟩, fun _ _ q => q, fun _ _ _ q => q, fun _ ps q => ⟨#[], by rw [q]; simp⟩⟩
theorem Un.refl : Un fs ex H H h h := Un.kept fun _ _ q => q
theorem Un.laid (k : ∀ b u, h.get? b = some u → h'.get? b = some u) (hp : h.objs.size ≤ a) (hn : H a = none) : Un fs ex H (upd H a o) h h' where
  keep := fun b u q _ _ _ => k b u q
  slot := fun b u q _ _ _ => ⟨u.slots, k b u q⟩
  free := fun b u q n _ => by rw [upd_ne (Nat.ne_of_lt (Nat.lt_of_lt_of_le (Heap.lt_size q) hp))]; exact n
  there := fun b u q _ => ⟨u, k b u q⟩
  tups := fun b xs q => by rw [upd_ne (ne_of_none q hn)]; exact q
  frzs := fun b u xs q => by rw [upd_ne (ne_of_none q hn)]; exact q
  tbls := fun b ps q => ⟨#[], by rw [upd_ne (ne_of_none q hn), q]; simp⟩
theorem Un.write (mu : Mut (H x)) (he : e = x ∨ H e = some (.own x)) (k : ∀ b u, b ≠ e → h.get? b = some u → h'.get? b = some u) (heo : ∃ u, h'.get? e = some u) : Un fs ex H (upd H x o) h h' := by
  have hx : ∀ b, H b = none → b ≠ x := fun b n z => by subst z; rw [n] at mu; exact mu
  have hb : ∀ b, H b = none → b ≠ e := fun b n z => by
    subst z
    rcases he with r | r
    · exact hx b n r
    · rw [n] at r; cases r
  have hm : ∀ b u, H b = some u → ¬ Mut (some u) → b ≠ x := fun b u q nm z => by subst z; rw [q] at mu; exact nm mu
  refine ⟨fun b u q n _ _ => k b u (hb b n) q, fun b u q n _ _ => ⟨u.slots, k b u (hb b n) q⟩, fun b u q n _ => by rw [upd_ne (hx b n)]; exact n, fun b u q _ => ?_,
    fun b xs q => by rw [upd_ne (hm b _ q fun z => z)]; exact q, fun b u xs q => by rw [upd_ne (hm b _ q fun z => z)]; exact q, fun b ps q => ⟨#[], by rw [upd_ne (hm b _ q fun z => z), q]; simp⟩⟩
  by_cases hbe : b = e
  · subst hbe; exact heo
  · exact ⟨u, k b u hbe q⟩
end

/-! ### the heap without what is tracked -/
def trk (h : Heap) (H : Hp) : List Addr := (List.range h.objs.size).filter fun a => (H a).isSome
def hidT (h : Heap) (H : Hp) : Heap := PySem.W.hideAll h (trk h H)
theorem hidT_size (h : Heap) (H : Hp) : (hidT h H).objs.size = h.objs.size := PySem.W.hideAll_size _ _
theorem hidT_get {h : Heap} {H : Hp} {b : Addr} {o : Obj} (e : h.get? b = some o) (n : H b = none) : (hidT h H).get? b = some o :=
  PySem.W.hideAll_get _ e fun hm => by
    have q : (H b).isSome = true := (List.mem_filter.mp hm).2
    rw [n] at q; simp at q
theorem of_hidT {h : Heap} {H : Hp} {b : Addr} {o : Obj} (e : (hidT h H).get? b = some o) : h.get? b = some o ∧ H b = none := by
  have e' : h.get? b = some o := PySem.W.of_hideAll (trk h H) e
  refine ⟨e', ?_⟩
  cases q : H b with
  | none => rfl
  | some x =>
    have hm : b ∈ trk h H := List.mem_filter.mpr ⟨List.mem_range.mpr (Heap.lt_size e'), by simp [q]⟩
    have z : (hidT h H).get? b = none := PySem.W.hideAll_none (trk h H) hm
    rw [z] at e; cases e

/-! ### OpenK's ledger, filled with every new object but one -/
end L2

namespace L2
open PySem PySem.Spec PyProof.Rows

/-- the module's facts, over the base: the heap at the law's entry without what is tracked there -/
structure Mod (K : PySem.W.Frag) (mg : Str → Option Value) (base : Heap) : Prop where
  kin : K.In base
  glob : base.Ns mainGlobals mg
  blt : ∃ mb, base.Ns builtinsNs mb ∧ ∀ x : Str, x ≠ "__name__" → mb x = bootBuiltins x
  nolimit : base.NoLimit

set_option genInjectivity false in
set_option genSizeOf false in
/-- the context: a def's body (or a comprehension's block) running. base: fixed through the whole law; s₀, H₀: the entry; outer: the frames whose slots others may change (a def's callers); stack: all frames that run;
   ex: iterators that were made ahead of the entry and are walked here (a comprehension's); fn: the names whose cells were made at the entry (a def: all; a comprehension's block: its own); calm: not within an except suite; pn: pins that every state bears; xe: what is wanted of an exception that leaves the code -/
structure Cx where
  prog : Program
  w : World
  K : PySem.W.Frag
  mg : Str → Option Value
  base : Heap
  A : Around
  N : List Str
  s_0 : Shared
  H_0 : Hp
  env : Env
  outer : List Env
  stack : List Env
  ex : List Addr
  fn : Str → Bool
  calm : Bool
  pn : List (Addr × Obj)
  xe : Value → Shared → Prop
/-- the callers' frames -/
def frs (l : List Env) : List Addr := l.filterMap (·.frame)
abbrev Cx.fs (X : Cx) : List Addr := frs X.outer

def Vis (sc : Scope) (x : Str) : Prop := sc.names.lookup x = some .local ∨ sc.names.lookup x = some .cell ∨ sc.names.lookup x = some .free
def Loc (sc : Scope) (x : Str) : Prop := sc.names.lookup x = some .local ∨ sc.names.lookup x = some .cell
def Look (env : Env) (h : Heap) (m : Str → Option Value) (x : Str) (u : Value) : Prop :=
  (env.kindOf x = some .local ∧ m x = some u) ∨ ((env.kindOf x = some .cell ∨ env.kindOf x = some .free) ∧ ∃ c, env.cells.lookup x = some c ∧ h.IsCell c (some u))

structure Cx.Ok (X : Cx) : Prop where
  mod : Mod X.K X.mg X.base
  kind : X.env.scope.kind = .function
  glob : X.env.globals = mainGlobals
  blt : X.env.builtins = builtinsNs
  above : X.s_0.heap.objs.size ≤ X.env.locals
  inj : ∀ x y c, X.env.cells.lookup x = some c → X.env.cells.lookup y = some c → x = y
  has : ∀ x, (X.env.kindOf x = some .cell ∨ X.env.kindOf x = some .free) → ∃ c, X.env.cells.lookup x = some c
  cab : ∀ x c, X.fn x = true → X.env.cells.lookup x = some c → X.s_0.heap.objs.size ≤ c
  hd : X.calm = true → X.A.handled = none
  frames : X.A.frames = some X.stack
  stk : X.stack = X.outer ∨ (X.stack = X.env :: X.outer ∧ X.env.frame = some X.env.locals)
  exf : ∀ b ∈ X.ex, b ≠ X.env.locals ∧ ∀ x c, X.env.cells.lookup x = some c → c ≠ b
  bs : ∀ b o, X.base.get? b = some o → X.s_0.heap.get? b = some o ∧ X.H_0 b = none
  bsz : X.base.objs.size ≤ X.s_0.heap.objs.size
  noex : ∀ b o, X.base.get? b = some o → b ∉ X.ex
  exfs : ∀ b ∈ X.ex, b ∉ X.fs
  funs : X.s_0.heap.FunFrames X.base X.outer
  frf : ∀ b ∈ X.fs, X.H_0 b = none

structure Inv (X : Cx) (pins : List (Addr × Obj)) (σ : List (Option V)) (H : Hp) (s : Shared) : Prop where
  ok : X.Ok
  os : s.os = X.s_0.os
  bare : AllBare s.gens
  base : Un X.fs X.ex X.H_0 H X.s_0.heap s.heap
  loc : ∃ m, s.heap.Ns X.env.locals m ∧ ∀ (i : Nat) (x : Str) (v : V), X.N[i]? = some x → σ[i]? = some (some v) → Vis X.env.scope x → ∃ u, RelV v u ∧ Look X.env s.heap m x u
  cell : ∀ x c, X.env.cells.lookup x = some c → ∃ v, s.heap.IsCell c v
  free : H X.env.locals = none
  freeC : ∀ x c, X.env.cells.lookup x = some c → H c = none
  pin : ∀ p ∈ X.pn ++ pins, s.heap.get? p.1 = some p.2 ∧ H p.1 = none ∧ p.1 ≠ X.env.locals ∧ p.1 ∉ X.fs ∧ ∀ v, p.2.data ≠ .cell v
  hok : HOk X.prog X.w H s.heap
  len : σ.length = X.N.length

section
variable {X : Cx} {pins : List (Addr × Obj)} {σ : List (Option V)} {H H' : Hp} {s : Shared} {h' : Heap}

theorem Cx.Ok.nofr (ok : X.Ok) {b : Addr} {o : Obj} (e : X.base.get? b = some o) : b ∉ X.fs := fun hb => by
  have := (ok.funs.mem hb).1
  rw [e] at this; cases this
theorem Inv.bs (I : Inv X pins σ H s) : ∀ b o, X.base.get? b = some o → s.heap.get? b = some o ∧ H b = none := fun b o e =>
  ⟨I.base.keep b o (I.ok.bs b o e).1 (I.ok.bs b o e).2 (I.ok.nofr e) (I.ok.noex b o e), I.base.free b o (I.ok.bs b o e).1 (I.ok.bs b o e).2 (I.ok.noex b o e)⟩
theorem Inv.bk (I : Inv X pins σ H s) : ∀ b o, X.base.get? b = some o → s.heap.get? b = some o := fun b o e => (I.bs b o e).1
theorem Inv.mod (I : Inv X pins σ H s) : Mod X.K X.mg X.base := I.ok.mod
theorem Inv.kIn (I : Inv X pins σ H s) : X.K.In s.heap := I.ok.mod.kin.keeps I.bk
theorem Inv.lt (I : Inv X pins σ H s) : X.env.locals < s.heap.objs.size := let ⟨_, hn, _⟩ := I.loc; hn.lt
theorem Inv.sz (I : Inv X pins σ H s) : X.s_0.heap.objs.size ≤ s.heap.objs.size := Nat.le_trans I.ok.above (Nat.le_of_lt I.lt)
theorem Inv.nofs (I : Inv X pins σ H s) {a : Addr} (h : s.heap.objs.size ≤ a) : a ∉ X.fs := fun hb => by
  obtain ⟨_, o, ho, _⟩ := I.ok.funs.mem hb
  exact absurd (Nat.lt_of_lt_of_le (Heap.lt_size ho) (Nat.le_trans I.sz h)) (Nat.lt_irrefl _)
theorem Inv.cne (I : Inv X pins σ H s) : ∀ x c, X.env.cells.lookup x = some c → c ≠ X.env.locals := fun x c e z => by
  obtain ⟨v, o, ho, hd⟩ := I.cell x c e
  obtain ⟨m, ⟨o', es, ep, ho', hd', _⟩, _⟩ := I.loc
  rw [z, ho'] at ho; cases ho; rw [hd'] at hd; cases hd
theorem Inv.funs (I : Inv X pins σ H s) : s.heap.FunFrames X.base X.outer := by
  have all : ∀ (l : List Env), (∀ b ∈ frs l, b ∈ X.fs) → X.s_0.heap.FunFrames X.base l → s.heap.FunFrames X.base l := by
    intro l
    induction l with
    | nil => intro _ _; trivial
    | cons env r ih =>
      intro hs hl
      obtain ⟨hk, ⟨L, o, hf, hn, ho, hd⟩, hr⟩ := hl
      have hL : L ∈ X.fs := hs L (by unfold frs; rw [List.filterMap_cons, hf]; exact List.mem_cons_self)
      obtain ⟨sl, e⟩ := I.base.slot L o ho (I.ok.frf L hL) hL fun z => I.ok.exfs L z hL
      exact ⟨hk, ⟨L, _, hf, hn, e, hd⟩, ih (fun b hb => hs b (by unfold frs; rw [List.filterMap_cons, hf]; exact List.mem_cons_of_mem _ hb)) hr⟩
  exact all X.outer (fun _ hb => hb) I.ok.funs

/-- the frames that run, for a call -/
theorem Inv.stack (I : Inv X pins σ H s) : s.heap.FunFrames X.base X.stack := by
  rcases I.ok.stk with e | ⟨e, hf⟩
  · rw [e]; exact I.funs
  · rw [e]
    obtain ⟨m, hn, _⟩ := I.loc
    refine .cons (by rw [I.ok.kind]; decide) hf hn ?_ I.funs
    exact Heap.get?_none_of_le (Nat.le_trans I.ok.bsz I.ok.above)
theorem Inv.stkSub (I : Inv X pins σ H s) : ∀ b ∈ frs X.stack, b ∈ X.env.locals :: X.fs := fun b hb => by
  rcases I.ok.stk with e | ⟨e, hf⟩
  · rw [e] at hb; exact List.mem_cons_of_mem _ hb
  · rw [e] at hb
    unfold frs at hb
    rw [List.filterMap_cons, hf] at hb
    exact hb
theorem Inv.stkFree (I : Inv X pins σ H s) : ∀ b ∈ frs X.stack, H b = none := fun b hb => by
  rcases List.mem_cons.mp (I.stkSub b hb) with e | hb
  · rw [e]; exact I.free
  · obtain ⟨_, o, ho, _⟩ := I.ok.funs.mem hb
    exact I.base.free b o ho (I.ok.frf b hb) fun z => I.ok.exfs b z hb

/-- THE STEP: the untracked objects but the frame and the records at ch are kept (the callers' frames up to slots), the frame's map is kept, the new abstract heap is held -/
theorem Inv.step {g' : Array GenState} {t' : Nat} {d' : Drawn} {ch : List Addr} (I : Inv X pins σ H s)
    (hch : ∀ b ∈ ch, (b ∈ X.ex ∨ X.s_0.heap.objs.size ≤ b) ∧ b ≠ X.env.locals ∧ (∀ x c, X.env.cells.lookup x = some c → c ≠ b) ∧ ∀ p ∈ X.pn ++ pins, p.1 ≠ b)
    (keep : ∀ b o, b ≠ X.env.locals → b ∉ X.fs → b ∉ ch → s.heap.get? b = some o → H b = none → h'.get? b = some o)
    (slot : ∀ b o, b ≠ X.env.locals → b ∈ X.fs → b ∉ ch → s.heap.get? b = some o → H b = none → ∃ sl, h'.get? b = some { o with slots := sl }) (free : ∀ b o, b ∉ ch → s.heap.get? b = some o → H b = none → H' b = none)
    (there : ∀ b o, b ∉ ch → s.heap.get? b = some o → ∃ o', h'.get? b = some o')
    (tups : ∀ b xs, H b = some (.tup xs) → H' b = some (.tup xs)) (frzs : ∀ b o u, H b = some (.frz o u) → H' b = some (.frz o u)) (tbls : ∀ b ps, H b = some (.tbl ps) → ∃ more, H' b = some (.tbl (ps ++ more)))
    (ns : ∀ m, s.heap.Ns X.env.locals m → h'.Ns X.env.locals m) (hok : HOk X.prog X.w H' h') (hg : AllBare g') :
    Inv X pins σ H' { s with heap := h', gens := g', drawn := d', toks := t' } := by
  have neL : ∀ b o, X.s_0.heap.get? b = some o → b ≠ X.env.locals := fun b o e => Nat.ne_of_lt (Nat.lt_of_lt_of_le (Heap.lt_size e) I.ok.above)
  have neC : ∀ b o, X.s_0.heap.get? b = some o → b ∉ X.ex → b ∉ ch := fun b o e hx hb => by
    rcases (hch b hb).1 with z | z
    · exact hx z
    · exact absurd (Nat.lt_of_lt_of_le (Heap.lt_size e) z) (Nat.lt_irrefl _)
  have cellK : ∀ x c, X.env.cells.lookup x = some c → ∀ v, s.heap.IsCell c v → h'.IsCell c v := fun x c e v ⟨o, ho, hd⟩ => by
    have nch : c ∉ ch := fun z => (hch c z).2.2.1 x c e rfl
    by_cases hc : c ∈ X.fs
    · obtain ⟨sl, q⟩ := slot c o (I.cne x c e) hc nch ho (I.freeC x c e)
      exact ⟨_, q, hd⟩
    · exact ⟨o, keep c o (I.cne x c e) hc nch ho (I.freeC x c e), hd⟩
  refine ⟨I.ok, I.os, hg, ⟨fun b o e n hb hx => ?_, fun b o e n hb hx => ?_, fun b o e n hx => ?_, fun b o e hx => ?_, fun b xs e => tups b xs (I.base.tups b xs e), fun b o xs e => frzs b o xs (I.base.frzs b o xs e), fun b ps e => ?_⟩, ?_, fun x c e => ?_, ?_, fun x c e => ?_, fun p hp => ?_, hok, I.len⟩
  · exact keep b o (neL b o e) hb (neC b o e hx) (I.base.keep b o e n hb hx) (I.base.free b o e n hx)
  · obtain ⟨sl, e1⟩ := I.base.slot b o e n hb hx
    obtain ⟨sl', e2⟩ := slot b _ (neL b o e) hb (neC b o e hx) e1 (I.base.free b o e n hx)
    exact ⟨sl', e2⟩
  · obtain ⟨o', e1⟩ := I.base.there b o e hx
    exact free b o' (neC b o e hx) e1 (I.base.free b o e n hx)
  · obtain ⟨o', e1⟩ := I.base.there b o e hx
    exact there b o' (neC b o e hx) e1
  · obtain ⟨m1, e1⟩ := I.base.tbls b ps e
    obtain ⟨m2, e2⟩ := tbls b _ e1
    exact ⟨m1 ++ m2, by rw [e2, Array.append_assoc]⟩
  · obtain ⟨m, hn, hl⟩ := I.loc
    refine ⟨m, ns m hn, fun i x v e1 e2 e3 => ?_⟩
    obtain ⟨u, r, l⟩ := hl i x v e1 e2 e3
    refine ⟨u, r, ?_⟩
    rcases l with l | ⟨k, c, e, z⟩
    · exact .inl l
    · exact .inr ⟨k, c, e, cellK x c e _ z⟩
  · obtain ⟨v, z⟩ := I.cell x c e
    exact ⟨v, cellK x c e v z⟩
  · obtain ⟨m, ⟨o, _, _, ho, _⟩, _⟩ := I.loc
    exact free _ o (fun z => (hch _ z).2.1 rfl) ho I.free
  · obtain ⟨v, o, ho, hd⟩ := I.cell x c e
    exact free c o (fun z => (hch c z).2.2.1 x c e rfl) ho (I.freeC x c e)
  · obtain ⟨e, n, ne, nf, d⟩ := I.pin p hp
    have nch : p.1 ∉ ch := fun z => (hch p.1 z).2.2.2 p hp rfl
    exact ⟨keep p.1 p.2 ne nf nch e n, free p.1 p.2 nch e n, ne, nf, d⟩
/-- .. where the frame's own object is kept too -/
theorem Inv.un {t' : Nat} (I : Inv X pins σ H s) (u : Un X.fs [] H H' s.heap h') (hok : HOk X.prog X.w H' h') : Inv X pins σ H' { s with heap := h', toks := t' } := by
  obtain ⟨m, ⟨o, es, ep, ho, r⟩, _⟩ := id I.loc
  obtain ⟨sl, hL⟩ := u.any ho I.free (by simp)
  exact I.step (g' := s.gens) (d' := s.drawn) (ch := []) (fun _ z => nomatch z) (fun b o _ hb _ e n => u.keep b o e n hb (by simp)) (fun b o _ hb _ e n => u.slot b o e n hb (by simp)) (fun b o _ e n => u.free b o e n (by simp)) (fun b o _ e => u.there b o e (by simp)) u.tups u.frzs u.tbls (fun m' hm => by
    obtain ⟨o', es', ep', ho', r'⟩ := hm
    rw [ho] at ho'; cases ho'
    exact ⟨_, es', ep', hL, r'⟩) hok I.bare
/-- behind a call (or a comprehension's block): the slots of this frame may have changed too, the records at ch may have turned -/
theorem Inv.call {g' : Array GenState} {t' : Nat} {d' : Drawn} {ch : List Addr} (I : Inv X pins σ H s) (u : Un (frs X.stack) ch H H' s.heap h') (hok : HOk X.prog X.w H' h') (hg : AllBare g')
    (hch : ∀ b ∈ ch, (b ∈ X.ex ∨ X.s_0.heap.objs.size ≤ b) ∧ b ≠ X.env.locals ∧ (∀ x c, X.env.cells.lookup x = some c → c ≠ b) ∧ ∀ p ∈ X.pn ++ pins, p.1 ≠ b) :
    Inv X pins σ H' { s with heap := h', gens := g', drawn := d', toks := t' } := by
  obtain ⟨m, ⟨o, es, ep, ho, r⟩, _⟩ := id I.loc
  obtain ⟨sl, hL⟩ := u.any ho I.free fun z => (hch _ z).2.1 rfl
  exact I.step (ch := ch) hch (fun b o hL hb hc e n => u.keep b o e n (fun z => (List.mem_cons.mp (I.stkSub b z)).elim hL hb) hc) (fun b o _ _ hc e n => u.any e n hc) (fun b o hc e n => u.free b o e n hc) (fun b o hc e => u.there b o e hc) u.tups u.frzs u.tbls (fun m' hm => by
    obtain ⟨o', es', ep', ho', r'⟩ := hm
    rw [ho] at ho'; cases ho'
    exact ⟨_, es', ep', hL, r'⟩) hok hg
/-- an untracked record of ours (an iterator) has turned -/
theorem Inv.turned {t' : Nat} {it : Addr} (I : Inv X pins σ H s) (k : ∀ b o, b ≠ it → s.heap.get? b = some o → h'.get? b = some o) (hn : H it = none) (hL : it ≠ X.env.locals)
    (h1 : it ∈ X.ex ∨ X.s_0.heap.objs.size ≤ it) (h2 : ∀ x c, X.env.cells.lookup x = some c → c ≠ it) (h3 : ∀ p ∈ X.pn ++ pins, p.1 ≠ it) : Inv X pins σ H { s with heap := h', toks := t' } := by
  have nit : ∀ b u, H b = some u → b ≠ it := fun b u e z => by rw [z, hn] at e; cases e
  refine I.step (g' := s.gens) (d' := s.drawn) (ch := [it]) (fun b hb => ?_) (fun b o _ _ hc e _ => k b o (fun z => hc (by simp [z])) e) (fun b o _ _ hc e _ => ⟨o.slots, k b o (fun z => hc (by simp [z])) e⟩) (fun _ _ _ _ n => n)
    (fun b o hc e => ⟨o, k b o (fun z => hc (by simp [z])) e⟩) (fun _ _ e => e) (fun _ _ _ e => e) (fun b ps e => ⟨#[], by rw [e]; simp⟩) (fun m hm => ?_) (fun b u e => ?_) I.bare
  · have e : b = it := by simpa using hb
    subst e
    exact ⟨h1, hL, h2, h3⟩
  · obtain ⟨o, es, ep, ho, r⟩ := hm
    exact ⟨o, es, ep, k _ o (Ne.symm hL) ho, r⟩
  · refine (I.hok b u e).stay (fun c v hc q => k c v ?_ q) (fun _ q => q) fun _ _ q => q
    rcases hc with z | z
    · rw [z]; exact nit b u e
    · exact nit c _ z
theorem Inv.tok (I : Inv X pins σ H s) (t : Nat) : Inv X pins σ H { s with toks := t } := I.un (h' := s.heap) (t' := t) Un.refl I.hok
/-- all objects kept -/
theorem Inv.kept {t' : Nat} (I : Inv X pins σ H s) (k : ∀ b u, s.heap.get? b = some u → h'.get? b = some u) : Inv X pins σ H { s with heap := h', toks := t' } := I.un (Un.kept k) (I.hok.kept k)
/-- a new object laid and tracked -/
theorem Inv.laid {a : Addr} {o : HO} {t' : Nat} (I : Inv X pins σ H s) (k : ∀ b u, s.heap.get? b = some u → h'.get? b = some u) (hp : s.heap.objs.size ≤ a) (new : ObjOk X.prog X.w (upd H a o) h' a o) :
    Inv X pins σ (upd H a o) { s with heap := h', toks := t' } := I.un (Un.laid k hp (I.hok.fresh hp)) (I.hok.laid k hp new)
/-- an object written -/
theorem Inv.write {x e : Addr} {o : HO} {t' : Nat} (I : Inv X pins σ H s) (mu : Mut (H x)) (he : e = x ∨ H e = some (.own x)) (k : ∀ b u, b ≠ e → s.heap.get? b = some u → h'.get? b = some u) (heo : ∃ u, h'.get? e = some u)
    (new : ObjOk X.prog X.w (upd H x o) h' x o) : Inv X pins σ (upd H x o) { s with heap := h', toks := t' } := I.un (Un.write mu he k heo) (I.hok.write mu he k heo new)
/-- forgetting slots, pins -/
theorem Inv.weak {σ' : List (Option V)} (I : Inv X pins σ H s) (hl : σ'.length = σ.length) (w : ∀ (i : Nat) v, σ'[i]? = some (some v) → σ[i]? = some (some v)) : Inv X pins σ' H s :=
  ⟨I.ok, I.os, I.bare, I.base, let ⟨m, hn, hl'⟩ := I.loc; ⟨m, hn, fun i x v e1 e2 e3 => hl' i x v e1 (w i v e2) e3⟩, I.cell, I.free, I.freeC, I.pin, I.hok, hl.trans I.len⟩
theorem Inv.pins_of {pins' : List (Addr × Obj)} (I : Inv X pins σ H s) (h : ∀ p ∈ pins', s.heap.get? p.1 = some p.2 ∧ H p.1 = none ∧ p.1 ≠ X.env.locals ∧ p.1 ∉ X.fs ∧ ∀ v, p.2.data ≠ .cell v) : Inv X pins' σ H s :=
  ⟨I.ok, I.os, I.bare, I.base, I.loc, I.cell, I.free, I.freeC, fun p hp => (List.mem_append.mp hp).elim (fun z => I.pin p (List.mem_append_left _ z)) (h p), I.hok, I.len⟩

theorem nodup_ix {N : List Str} (hN : N.Nodup) {i j : Nat} {x : Str} (a : N[i]? = some x) (b : N[j]? = some x) : i = j := by
  obtain ⟨h1, e1⟩ := List.getElem?_eq_some_iff.mp a
  obtain ⟨h2, e2⟩ := List.getElem?_eq_some_iff.mp b
  exact (List.getElem_inj hN).mp (e1.trans e2.symm)

/-- a name is stored; what changed -/
theorem store_ok2 {M : Model} {A : Around} {E : Value → Shared → Prop} {i : Nat} {x : Str} {v : V} {u : Value} {Q : Unit → Shared → Prop} (I : Inv X pins σ H s) (hN : X.N.Nodup) (hi : X.N[i]? = some x) (hx : Loc X.env.scope x) (r : RelV v u)
    (h : ∀ s', Inv X pins (σ.set i (some v)) H s' → (∃ a, Heap.SameBut a s.heap s'.heap ∧ (a = X.env.locals ∨ X.env.cells.lookup x = some a)) → Q () s') (hf : X.fn x = true ∨ X.env.scope.names.lookup x = some .local := by first | exact .inl rfl | exact .inr rfl | assumption) : wpAny M A (storeName X.env x u) Q E s := by
  obtain ⟨m, hn, hl⟩ := id I.loc
  have hcls : (X.env.scope.kind == .class || (X.env.scope.kind == .module && X.env.locals != X.env.globals)) = false := by rw [I.ok.kind]; rfl
  have hiσ : i < σ.length := by rw [I.len]; exact (List.getElem?_eq_some_iff.mp hi).1
  have cne := I.cne
  have tracked : ∀ {a : Addr} {h' : Heap}, (∃ o, s.heap.get? a = some o ∧ H a = none) → Heap.SameBut a s.heap h' → HOk X.prog X.w H h' := fun {a h'} ha hs b ob e => by
    obtain ⟨_, _, hfree⟩ := ha
    refine (I.hok b ob e).stay (fun c w' hc q => (hs.2 c ?_).trans q) (fun _ q => q) fun _ _ q => q
    rintro rfl
    rcases hc with rfl | hc
    · rw [hfree] at e; cases e
    · rw [hfree] at hc; cases hc
  rcases hx with hk | hk
  · refine wpAny_storeName_local hk hn (fun h' hn' hs => ?_) hcls
    obtain ⟨oL, _, _, hoL, _⟩ := id hn
    refine h _ ⟨I.ok, I.os, I.bare, ⟨fun b o e n hb hx => ?_, fun b o e n hb hx => ?_, I.base.free, fun b o e hx => ?_, I.base.tups, I.base.frzs, I.base.tbls⟩, ⟨_, hn', fun j y v' e1 e2 e3 => ?_⟩, fun y c e => ?_, I.free, I.freeC, fun p hp => ?_, tracked ⟨oL, hoL, I.free⟩ hs, by simpa using I.len⟩ ⟨_, hs, .inl rfl⟩
    · exact (hs.2 b (Nat.ne_of_lt (Nat.lt_of_lt_of_le (Heap.lt_size e) I.ok.above))).trans (I.base.keep b o e n hb hx)
    · obtain ⟨sl, e1⟩ := I.base.slot b o e n hb hx
      exact ⟨sl, (hs.2 b (Nat.ne_of_lt (Nat.lt_of_lt_of_le (Heap.lt_size e) I.ok.above))).trans e1⟩
    · obtain ⟨o', e1⟩ := I.base.there b o e hx
      exact ⟨o', (hs.2 b (Nat.ne_of_lt (Nat.lt_of_lt_of_le (Heap.lt_size e) I.ok.above))).trans e1⟩
    · by_cases hj : j = i
      · subst hj
        rw [hi] at e1; cases e1
        rw [List.getElem?_set_self hiσ] at e2
        cases e2
        exact ⟨u, r, .inl ⟨hk, by simp⟩⟩
      · rw [List.getElem?_set_ne (Ne.symm hj)] at e2
        obtain ⟨u', r', q⟩ := hl j y v' e1 e2 e3
        refine ⟨u', r', ?_⟩
        rcases q with ⟨k, e⟩ | ⟨k, c, e, z⟩
        · refine .inl ⟨k, ?_⟩
          have : y ≠ x := fun e => hj (nodup_ix hN e1 (e ▸ hi))
          simp [this, e]
        · exact .inr ⟨k, c, e, z.sameBut hs (cne y c e)⟩
    · obtain ⟨w', z⟩ := I.cell y c e
      exact ⟨w', z.sameBut hs (cne y c e)⟩
    · obtain ⟨e, n, ne, nf, d⟩ := I.pin p hp
      exact ⟨(hs.2 p.1 ne).trans e, n, ne, nf, d⟩
  · have hfn : X.fn x = true := by
      rcases hf with z | z
      · exact z
      · rw [z] at hk; cases hk
    obtain ⟨c, hc⟩ := I.ok.has x (.inl hk)
    obtain ⟨w', z⟩ := I.cell x c hc
    refine wpAny_storeName_cell I.ok.kind hk hc z (fun h' hc' hs => ?_)
    obtain ⟨oc, hoc, hocd⟩ := id z
    refine h { s with heap := h' } ⟨I.ok, I.os, I.bare, ⟨fun b o e n hb hx => ?_, fun b o e n hb hx => ?_, I.base.free, fun b o e hx => ?_, I.base.tups, I.base.frzs, I.base.tbls⟩, ⟨m, hn.sameBut hs (Ne.symm (cne x c hc)), fun j y v' e1 e2 e3 => ?_⟩, fun y c' e => ?_, I.free, I.freeC, fun p hp => ?_, tracked ⟨oc, hoc, I.freeC x c hc⟩ hs, by simpa using I.len⟩ ⟨c, hs, .inr hc⟩
    · exact (hs.2 b (Nat.ne_of_lt (Nat.lt_of_lt_of_le (Heap.lt_size e) (I.ok.cab x c hfn hc)))).trans (I.base.keep b o e n hb hx)
    · obtain ⟨sl, e1⟩ := I.base.slot b o e n hb hx
      exact ⟨sl, (hs.2 b (Nat.ne_of_lt (Nat.lt_of_lt_of_le (Heap.lt_size e) (I.ok.cab x c hfn hc)))).trans e1⟩
    · obtain ⟨o', e1⟩ := I.base.there b o e hx
      exact ⟨o', (hs.2 b (Nat.ne_of_lt (Nat.lt_of_lt_of_le (Heap.lt_size e) (I.ok.cab x c hfn hc)))).trans e1⟩
    · by_cases hj : j = i
      · subst hj
        rw [hi] at e1; cases e1
        rw [List.getElem?_set_self hiσ] at e2
        cases e2
        exact ⟨u, r, .inr ⟨.inl hk, c, hc, hc'⟩⟩
      · rw [List.getElem?_set_ne (Ne.symm hj)] at e2
        obtain ⟨u', r', q⟩ := hl j y v' e1 e2 e3
        refine ⟨u', r', ?_⟩
        rcases q with q | ⟨k, c', e, z'⟩
        · exact .inl q
        · refine .inr ⟨k, c', e, z'.sameBut hs ?_⟩
          rintro rfl
          exact hj (nodup_ix hN e1 (I.ok.inj _ _ _ e hc ▸ hi))
    · by_cases hcc : c' = c
      · subst hcc; exact ⟨_, hc'⟩
      · obtain ⟨w2, z2⟩ := I.cell y c' e
        exact ⟨w2, z2.sameBut hs hcc⟩
    · obtain ⟨e, n, ne, nf, d⟩ := I.pin p hp
      refine ⟨(hs.2 p.1 ?_).trans e, n, ne, nf, d⟩
      intro q
      rw [q, hoc] at e
      have q' : oc = p.2 := Option.some.inj e
      exact d w' (by rw [← q']; exact hocd)
theorem store_ok {M : Model} {A : Around} {E : Value → Shared → Prop} {i : Nat} {x : Str} {v : V} {u : Value} {Q : Unit → Shared → Prop} (I : Inv X pins σ H s) (hN : X.N.Nodup) (hi : X.N[i]? = some x) (hx : Loc X.env.scope x) (r : RelV v u)
    (h : ∀ s', Inv X pins (σ.set i (some v)) H s' → Q () s') (hf : X.fn x = true ∨ X.env.scope.names.lookup x = some .local := by first | exact .inl rfl | exact .inr rfl | assumption) : wpAny M A (storeName X.env x u) Q E s :=
  store_ok2 I hN hi hx r (fun s' I' _ => h s' I') hf
/-- behind a call or a block, the state as it is -/
theorem Inv.call' {s' : Shared} {ch : List Addr} (I : Inv X pins σ H s) (ho : s'.os = s.os) (u : Un (frs X.stack) ch H H' s.heap s'.heap) (hok : HOk X.prog X.w H' s'.heap) (hg : AllBare s'.gens)
    (hch : ∀ b ∈ ch, (b ∈ X.ex ∨ X.s_0.heap.objs.size ≤ b) ∧ b ≠ X.env.locals ∧ (∀ x c, X.env.cells.lookup x = some c → c ≠ b) ∧ ∀ p ∈ X.pn ++ pins, p.1 ≠ b) : Inv X pins σ H' s' := by
  obtain ⟨h', g', d', t', o'⟩ := s'
  have e : o' = s.os := ho
  subst e
  exact I.call (g' := g') (t' := t') (d' := d') u hok hg hch
end

/-! ### the judgements -/
/-- an exception: its class, its own dict's address (where it has one), the abstract heap behind it -/
abbrev XK := Value → Option Addr → Hp → Prop
abbrev St := List (Option V)
abbrev VK := V → Hp → Prop
/-- an expression's reading; a test's; an argument list's -/
abbrev TE := St → Hp → VK → Prop
abbrev TT := St → Hp → (Bool → Hp → Prop) → Prop
abbrev TA := St → Hp → (List V → Hp → Prop) → Prop
/-- what is wanted behind a statement -/
structure Ends where
  nx : St → Hp → Prop
  rt : VK
  bk : St → Hp → Prop := fun _ _ => False
  ct : St → Hp → Prop := fun _ _ => False
abbrev TS := Ends → St → Hp → Prop

inductive EP (X : Cx) (pins : List (Addr × Obj)) (σ : St) (Q : VK) (u : Value) (s' : Shared) : Prop
  | mk (v : V) (H' : Hp) (i : Inv X pins σ H' s') (r : RelV v u) (q : Q v H') : EP X pins σ Q u s'
inductive TP (X : Cx) (pins : List (Addr × Obj)) (σ : St) (Q : Bool → Hp → Prop) (b : Bool) (s' : Shared) : Prop
  | mk (H' : Hp) (i : Inv X pins σ H' s') (q : Q b H') : TP X pins σ Q b s'
inductive AP (X : Cx) (pins : List (Addr × Obj)) (σ : St) (Q : List V → Hp → Prop) (us : List Value) (s' : Shared) : Prop
  | mk (vs : List V) (H' : Hp) (i : Inv X pins σ H' s') (r : Vals vs us) (q : Q vs H') : AP X pins σ Q us s'
inductive NP (X : Cx) (pins : List (Addr × Obj)) (Q : St → Hp → Prop) (s' : Shared) : Prop
  | mk (σ' : St) (H' : Hp) (i : Inv X pins σ' H' s') (q : Q σ' H') : NP X pins Q s'
inductive RP (X : Cx) (pins : List (Addr × Obj)) (Q : VK) (u : Value) (s' : Shared) : Prop
  | mk (v : V) (σ' : St) (H' : Hp) (i : Inv X pins σ' H' s') (r : RelV v u) (q : Q v H') : RP X pins Q u s'
def SP (X : Cx) (pins : List (Addr × Obj)) (D : Ends) (f : Flow) (s' : Shared) : Prop :=
  match f with
  | .next => NP X pins D.nx s'
  | .brk => NP X pins D.bk s'
  | .cont => NP X pins D.ct s'
  | .ret u => RP X pins D.rt u s'

def PE (X : Cx) (e : Expr) (t : TE) : Prop :=
  ∀ (pins : List (Addr × Obj)) (s : Shared) (σ : St) (H : Hp) (Q : VK), Inv X pins σ H s → t σ H Q → wpAny (model X.prog X.w) X.A (eval e X.env) (EP X pins σ Q) X.xe s
def PT (X : Cx) (e : Expr) (t : TT) : Prop :=
  ∀ (pins : List (Addr × Obj)) (s : Shared) (σ : St) (H : Hp) (Q : Bool → Hp → Prop), Inv X pins σ H s → t σ H Q → wpAny (model X.prog X.w) X.A (isTrue e X.env (eval e X.env)) (TP X pins σ Q) X.xe s
/-- a test whatever its 'whole' is (and, or) -/
def PW (X : Cx) (e : Expr) (t : TT) : Prop :=
  ∀ (whole : Sem Value) (pins : List (Addr × Obj)) (s : Shared) (σ : St) (H : Hp) (Q : Bool → Hp → Prop), Inv X pins σ H s → t σ H Q → wpAny (model X.prog X.w) X.A (isTrue e X.env whole) (TP X pins σ Q) X.xe s
theorem PW.pt {X : Cx} {e : Expr} {t : TT} (h : PW X e t) : PT X e t := h _
/-- an argument list (no star), from the left -/
def PA (X : Cx) (es : List Expr) (t : TA) : Prop :=
  ∀ (pos : Pos) (pins : List (Addr × Obj)) (s : Shared) (σ : St) (H : Hp) (Q : List V → Hp → Prop), Inv X pins σ H s → t σ H Q → wpAny (model X.prog X.w) X.A (spliced (backTo pos (starEach es X.env))) (AP X pins σ Q) X.xe s
def PS (X : Cx) (st : Stmt) (t : TS) : Prop :=
  ∀ (pins : List (Addr × Obj)) (s : Shared) (σ : St) (H : Hp) (D : Ends), Inv X pins σ H s → t D σ H → wpAny (model X.prog X.w) X.A (exec st X.env) (SP X pins D) X.xe s
def PSs (X : Cx) (st : List Stmt) (t : TS) : Prop :=
  ∀ (pins : List (Addr × Obj)) (s : Shared) (σ : St) (H : Hp) (D : Ends), Inv X pins σ H s → t D σ H → wpAny (model X.prog X.w) X.A (execs st X.env) (SP X pins D) X.xe s
/-- weaken the end -/
theorem thn {α : Type} {t : Sem α} {Q Q' : α → Shared → Prop} {M : Model} {A : Around} {E : Value → Shared → Prop} {s : Shared} (h : wpAny M A t Q E s) (hQ : ∀ a s, Q a s → Q' a s) : wpAny M A t Q' E s := wpAny_mono h hQ fun _ _ x => x
end L2

namespace L2
open PySem PySem.Spec PyProof.Rows
section
variable {X : Cx}

/-! ### names and constants -/
inductive VarAt (i : Nat) (σ : St) (H : Hp) (Q : VK) : Prop
  | mk (v : V) (e : σ[i]? = some (some v)) (q : Q v H) : VarAt i σ H Q
def tVar (i : Nat) : TE := fun σ H Q => VarAt i σ H Q
@[reducible] def tC (v : V) : TE := fun _ H Q => Q v H
theorem pe_var {i : Nat} {x : Str} {pos : Pos} (hN : X.N[i]? = some x) (hv : Vis X.env.scope x) (hd : (x == ("__debug__" : Str)) = false := by decide) (hcd : (x == ("__classdict__" : Str)) = false := by decide) : PE X (.Name x pos) (tVar i) := by
  intro pins s σ H Q I h
  obtain ⟨v, e, h⟩ := h
  obtain ⟨m, hn, hl⟩ := I.loc
  obtain ⟨u, r, l⟩ := hl i x v hN e hv
  have fin : EP X pins σ Q u s := ⟨v, H, I, r, h⟩
  rcases l with ⟨hk, hm⟩ | ⟨hk, c, hc, hcell⟩
  · exact wpAny_Name (wpAny_loadName_local I.ok.kind hk hn hm fin) hd
  · rcases hk with hk | hk
    · exact wpAny_Name (wpAny_loadName_cell I.ok.kind hk hc hcell fin) hd
    · exact wpAny_Name (wpAny_loadName_free I.ok.kind hk hc hcell fin hcd) hd
theorem pe_int {i j pos} : PE X (.Constant (.int i) j pos) (tC (.int i)) := fun _ _ _ H _ I h => wpAny_Constant_int ⟨.int i, H, I.tok _, ⟨_, rfl⟩, h⟩
theorem pe_non {j pos} : PE X (.Constant .none j pos) (tC .non) := fun _ _ _ H _ I h => Constant_none ⟨.non, H, I, rfl, h⟩

/-- a global name of the def -/
def Gl (X : Cx) (x : Str) : Prop := X.env.kindOf x = some .globalImplicit
theorem ld_glob {E : Value → Shared → Prop} {pins : List (Addr × Obj)} {s : Shared} {σ : St} {H : Hp} {x : Str} {u : Value} {pos : Pos} {Q : Value → Shared → Prop} (I : Inv X pins σ H s) (hg : Gl X x) (hm : X.mg x = some u) (h : Q u s)
    (hd : (x == ("__debug__" : Str)) = false := by decide) : wpAny (model X.prog X.w) X.A (eval (.Name x pos) X.env) Q E s :=
  Calls.Name_function_global I.ok.kind hg (Calls.loadGlobal_global (by rw [I.ok.glob]; exact I.mod.glob.keeps I.bk) hm h) hd
theorem ld_blt {E : Value → Shared → Prop} {pins : List (Addr × Obj)} {s : Shared} {σ : St} {H : Hp} {x : Str} {u : Value} {pos : Pos} {Q : Value → Shared → Prop} (I : Inv X pins σ H s) (hg : Gl X x) (hm : X.mg x = none) (hv : bootBuiltins x = some u) (h : Q u s)
    (hn : x ≠ "__name__" := by decide) (hd : (x == ("__debug__" : Str)) = false := by decide) : wpAny (model X.prog X.w) X.A (eval (.Name x pos) X.env) Q E s := by
  obtain ⟨mb, h1, h2⟩ := I.mod.blt
  exact Calls.Name_function_global I.ok.kind hg (Calls.loadGlobal_builtin (by rw [I.ok.glob]; exact I.mod.glob.keeps I.bk) hm (by rw [I.ok.blt]; exact h1.keeps I.bk) ((h2 x hn).trans hv) h) hd
/-- a module's constant, a class, a function, as a value -/
theorem pe_glob {x : Str} {v : V} {u : Value} {pos : Pos} (hg : Gl X x) (hm : X.mg x = some u) (r : RelV v u) (hd : (x == ("__debug__" : Str)) = false := by decide) : PE X (.Name x pos) (tC v) :=
  fun _ _ _ H _ I h => ld_glob I hg hm ⟨v, H, I, r, h⟩ hd

/-! ### arithmetic -/
variable {a b : Expr} {ta tb : TE} {pos : Pos}

/-! ### comparisons -/
/-- a comparison as a value, as a test -/
inductive BlAt (Q : Bool → Hp → Prop) (x : V) (H : Hp) : Prop
  | mk (c : Bool) (e : x = .bl c) (q : Q c H) : BlAt Q x H
@[reducible] def tB (t : TE) : TT := fun σ H Q => t σ H fun x H1 => BlAt Q x H1
/-- an expression whose value is a bool, as a test -/
theorem pt_val {e : Expr} {t : TE} (h : PE X e t) (he : ∀ whole, isTrue e X.env whole = (do let v ← whole; standAt e.pos; holding [v] (truthy v)) := by intro _; rfl) : PT X e (tB t) := by
  intro pins s σ H Q I hw
  refine isTrue_plain (thn (h pins s σ H _ I hw) fun v s1 ⟨x, H1, I1, r1, q1⟩ => ?_) (he _)
  obtain ⟨d, rfl, q⟩ := q1
  cases r1
  exact wpAny_truthy_bool ⟨H1, I1, q⟩

/-! ### and, or, not -/
variable {tA tB' : TT} {rest : List Expr}
@[reducible] def tAnd (t u : TT) : TT := fun σ H Q => t σ H fun c H1 => if c = true then u σ H1 Q else Q false H1
@[reducible] def tOr (t u : TT) : TT := fun σ H Q => t σ H fun c H1 => if c = true then Q true H1 else u σ H1 Q
@[reducible] def tNot (t : TT) : TT := fun σ H Q => t σ H fun c H1 => Q (!c) H1
theorem pw_and1 (ha : PT X a tA) : PW X (.BoolOp .And [a] pos) tA := by
  intro wh pins s σ H Q I h
  refine isTrue_and (thn (ha pins s σ H Q I h) fun c s1 e => ?_)
  cases c with
  | true => exact isTrue_and_nil e
  | false => exact e
theorem pw_or1 (ha : PT X a tA) : PW X (.BoolOp .Or [a] pos) tA := by
  intro wh pins s σ H Q I h
  refine isTrue_or (thn (ha pins s σ H Q I h) fun c s1 e => ?_)
  cases c with
  | false => exact isTrue_or_nil e
  | true => exact e
theorem pw_and (ha : PT X a tA) (hb : PW X (.BoolOp .And (b :: rest) pos) tB') : PW X (.BoolOp .And (a :: b :: rest) pos) (tAnd tA tB') := by
  intro wh pins s σ H Q I h
  refine isTrue_and (thn (ha pins s σ H _ I h) fun c s1 ⟨H1, I1, q1⟩ => ?_)
  cases c with
  | true => exact hb wh pins s1 σ H1 Q I1 q1
  | false => exact ⟨H1, I1, q1⟩
theorem pw_or (ha : PT X a tA) (hb : PW X (.BoolOp .Or (b :: rest) pos) tB') : PW X (.BoolOp .Or (a :: b :: rest) pos) (tOr tA tB') := by
  intro wh pins s σ H Q I h
  refine isTrue_or (thn (ha pins s σ H _ I h) fun c s1 ⟨H1, I1, q1⟩ => ?_)
  cases c with
  | true => exact ⟨H1, I1, q1⟩
  | false => exact hb wh pins s1 σ H1 Q I1 q1
theorem pt_not (ha : PT X a tA) : PT X (.UnaryOp .Not a pos) (tNot tA) := by
  intro pins s σ H Q I h
  exact isTrue_not (thn (ha pins s σ H (fun c H1 => Q (!c) H1) I h) fun c s1 ⟨H1, I1, q1⟩ => ⟨H1, I1, q1⟩)
/-- .. as values (bools) -/
@[reducible] def tAndV (ta tb : TE) : TE := fun σ H Q => ta σ H fun x H1 => ∃ c, x = .bl c ∧ if c = true then tb σ H1 Q else Q (.bl false) H1
theorem pe_one {op} {t : TE} (h : PE X a t) : PE X (.BoolOp op [a] pos) t := fun pins s σ H Q I hw => BoolOp_one (h pins s σ H Q I hw)
theorem pe_and (ha : PE X a ta) (hb : PE X (.BoolOp .And (b :: rest) pos) tb) : PE X (.BoolOp .And (a :: b :: rest) pos) (tAndV ta tb) := by
  intro pins s σ H Q I h
  refine BoolOp_and (thn (ha pins s σ H _ I h) fun v s1 ⟨x, H1, I1, r1, q1⟩ => ?_)
  obtain ⟨c, rfl, q1⟩ := q1
  cases r1
  refine wpAny_truthy_bool ?_
  cases c with
  | true => exact hb pins s1 σ H1 Q I1 q1
  | false => exact ⟨.bl false, H1, I1, rfl, q1⟩
end
end L2

namespace L2
open PySem PySem.Spec PyProof.Rows

/-! ### a list, a tuple that is read: tracked, frozen, or an object of the module -/
def SqL (K : PySem.W.Frag) (H : Hp) (a : Addr) (xs : List V) : Prop :=
  Rd H a (.lst xs) ∨
    ∃ (o : Obj) (its : Array Value) (n : Nat), K.lookup a = some o ∧ o.cls = .type "list" ∧ o.dict = none ∧ o.data = .seq its n ∧ its.size ≤ sizeLine ∧ Vals xs its.toList
def SqT (K : PySem.W.Frag) (H : Hp) (a : Addr) (xs : List V) : Prop :=
  Rd H a (.tup xs) ∨
    ∃ (o : Obj) (its : Array Value) (n : Nat), K.lookup a = some o ∧ o.cls = .type "tuple" ∧ o.data = .seq its n ∧ its.size ≤ sizeLine ∧ Vals xs its.toList
def absV : Value → Option V
  | .none => some .non
  | .bool b => some (.bl b)
  | .int i _ => some (.int i)
  | .str x _ => some (.str x)
  | .bytes b _ => some (.byt b)
  | .float b _ => some (.flt b)
  | .ref a => some (.ref a)
  | .type n => some (.ty n)
  | _ => none
theorem RelV.abs {x : V} {u : Value} (r : RelV x u) : absV u = some x := by
  cases x with
  | non => cases r; rfl
  | bl _ => cases r; rfl
  | int _ => obtain ⟨t, rfl⟩ := r; rfl
  | str _ => obtain ⟨t, rfl⟩ := r; rfl
  | byt _ => obtain ⟨t, rfl⟩ := r; rfl
  | flt _ => obtain ⟨t, rfl⟩ := r; rfl
  | ref _ => cases r; rfl
  | ty _ => cases r; rfl
theorem RelV.inj {x y : V} {u : Value} (r : RelV x u) (q : RelV y u) : x = y := Option.some.inj (r.abs.symm.trans q.abs)
theorem Vals.inj : ∀ {xs ys : List V} {us : List Value}, Vals xs us → Vals ys us → xs = ys
  | _, _, _, .nil, .nil => rfl
  | _, _, _, .cons r t, .cons r' t' => by rw [r.inj r', Vals.inj t t']
section
variable {X : Cx} {pins : List (Addr × Obj)} {σ : St} {H : Hp} {s : Shared} {a : Addr} {xs ys : List V}
theorem SqL.of {K : PySem.W.Frag} (h : H a = some (.lst xs)) : SqL K H a xs := .inl (.inl h)
theorem SqT.of {K : PySem.W.Frag} (h : H a = some (.tup xs)) : SqT K H a xs := .inl (.inl h)
theorem Inv.list (I : Inv X pins σ H s) (h : SqL X.K H a xs) : ∃ its : List Value, Vals xs its ∧ PlainL s.heap a its.toArray ∧ xs.length ≤ sizeLine := by
  rcases h with h | ⟨o, its, n, hk, hc, hd, hs, hz, r⟩
  · obtain ⟨z, its, n, r, e⟩ := h.ok I.hok
    exact ⟨its, r, ⟨_, n, e, rfl, rfl, rfl⟩, z⟩
  · refine ⟨its.toList, r, ⟨o, n, I.kIn a o hk, hc, hd, by simpa using hs⟩, ?_⟩
    have e := r.length
    simp only [Array.length_toList] at e
    omega
theorem Inv.tuple (I : Inv X pins σ H s) (h : SqT X.K H a xs) : ∃ its : List Value, Vals xs its ∧ IsTup s.heap a its.toArray ∧ xs.length ≤ sizeLine := by
  rcases h with h | ⟨o, its, n, hk, hc, hs, hz, r⟩
  · obtain ⟨z, its, r, p⟩ := h.ok I.hok
    exact ⟨its, r, p, z⟩
  · refine ⟨its.toList, r, ⟨o, I.kIn a o hk, hc, n, by simpa using hs⟩, ?_⟩
    have e := r.length
    simp only [Array.length_toList] at e
    omega
theorem Inv.list_inj (I : Inv X pins σ H s) (h : SqL X.K H a xs) (h' : SqL X.K H a ys) : xs = ys := by
  obtain ⟨its, r, ⟨o, n, e, _, _, d⟩, _⟩ := I.list h
  obtain ⟨its', r', ⟨o', n', e', _, _, d'⟩, _⟩ := I.list h'
  rw [e] at e'; cases e'
  rw [d] at d'
  injection d' with d1 _
  have : its = its' := by simpa using congrArg Array.toList d1
  subst this
  exact r.inj r'
end

/-! ### another wish about exceptions -/
abbrev Cx.wish (X : Cx) (E : Value → Shared → Prop) : Cx := { X with xe := E }
/-- no exception leaves -/
abbrev Cx.nox (X : Cx) : Cx := X.wish fun _ _ => False
theorem Cx.Ok.wish {X : Cx} (ok : X.Ok) (E : Value → Shared → Prop) : (X.wish E).Ok :=
  ⟨ok.mod, ok.kind, ok.glob, ok.blt, ok.above, ok.inj, ok.has, ok.cab, ok.hd, ok.frames, ok.stk, ok.exf, ok.bs, ok.bsz, ok.noex, ok.exfs, ok.funs, ok.frf⟩
theorem Cx.Ok.unwish {X : Cx} {E : Value → Shared → Prop} (ok : (X.wish E).Ok) : X.Ok :=
  ⟨ok.mod, ok.kind, ok.glob, ok.blt, ok.above, ok.inj, ok.has, ok.cab, ok.hd, ok.frames, ok.stk, ok.exf, ok.bs, ok.bsz, ok.noex, ok.exfs, ok.funs, ok.frf⟩
section
variable {X : Cx} {pins : List (Addr × Obj)} {σ : St} {H : Hp} {s : Shared} {E : Value → Shared → Prop}
theorem Inv.wish (I : Inv X pins σ H s) (E : Value → Shared → Prop) : Inv (X.wish E) pins σ H s := ⟨I.ok.wish E, I.os, I.bare, I.base, I.loc, I.cell, I.free, I.freeC, I.pin, I.hok, I.len⟩
theorem Inv.unwish (I : Inv (X.wish E) pins σ H s) : Inv X pins σ H s := ⟨I.ok.unwish, I.os, I.bare, I.base, I.loc, I.cell, I.free, I.freeC, I.pin, I.hok, I.len⟩
theorem SP.unwish {D : Ends} {f : Flow} {s' : Shared} (h : SP (X.wish E) pins D f s') : SP X pins D f s' := by
  cases f with
  | next => obtain ⟨σ', H', I, q⟩ := h; exact ⟨σ', H', I.unwish, q⟩
  | brk => obtain ⟨σ', H', I, q⟩ := h; exact ⟨σ', H', I.unwish, q⟩
  | cont => obtain ⟨σ', H', I, q⟩ := h; exact ⟨σ', H', I.unwish, q⟩
  | ret u => obtain ⟨v, σ', H', I, r, q⟩ := h; exact ⟨v, σ', H', I.unwish, r, q⟩
theorem PSs.nox {st : List Stmt} {t : TS} (h : PSs X.nox st t) : PSs X st t := fun pins s σ H D I hw =>
  wpAny_mono (h pins s σ H D (I.wish _) hw) (fun _ _ q => q.unwish) fun _ _ z => False.elim z
end

/-! ### blocks and small statements -/
section
variable {X : Cx} {st : Stmt} {rest : List Stmt} {t u : TS} {e : Expr} {te : TE} {pos : Pos}
@[reducible] def tNext : TS := fun D σ H => D.nx σ H
@[reducible] def tSeq (t u : TS) : TS := fun D σ H => t { D with nx := u D } σ H
theorem pss_nil : PSs X [] tNext := fun _ _ σ H _ I h => wpAny_execs_nil ⟨σ, H, I, h⟩
theorem pss_cons (h1 : PS X st t) (h2 : PSs X rest u) : PSs X (st :: rest) (tSeq t u) := by
  intro pins s σ H D I h
  refine wpAny_execs_cons (thn (h1 pins s σ H { D with nx := u D } I h) fun f s1 q => ?_)
  cases f with
  | next =>
    obtain ⟨σ', H', I', q⟩ := q
    exact h2 pins s1 σ' H' D I' q
  | ret v => exact q
  | brk => exact q
  | cont => exact q
theorem pss_one (h1 : PS X st t) : PSs X [st] t := by
  intro pins s σ H D I h
  refine wpAny_execs_cons (thn (h1 pins s σ H D I h) fun f s1 q => ?_)
  cases f with
  | next => exact wpAny_execs_nil q
  | ret v => exact q
  | brk => exact q
  | cont => exact q
@[reducible] def tBreak : TS := fun D σ H => D.bk σ H
@[reducible] def tCont : TS := fun D σ H => D.ct σ H
theorem ps_break : PS X (.Break pos) tBreak := fun _ _ σ H _ I h => wpAny_Break ⟨σ, H, I, h⟩
theorem ps_continue : PS X (.Continue pos) tCont := fun _ _ σ H _ I h => wpAny_Continue ⟨σ, H, I, h⟩
/-- in a def's body nothing is shown -/
theorem Inv.quiet {pins : List (Addr × Obj)} {σ : St} {H : Hp} {s : Shared} (I : Inv X pins σ H s) : interactive X.env = false := by simp [interactive, I.ok.kind]
/-- an expression whose value is dropped -/
@[reducible] def tDrop (te : TE) : TS := fun D σ H => te σ H fun _ H1 => D.nx σ H1
theorem ps_expr (he : PE X e te) (hs : swapsWith e none pos.line X.env = pure false := by rfl) : PS X (.Expr e pos) (tDrop te) := by
  intro pins s σ H D I h
  exact wpAny_Expr_any (thn (he pins s σ H _ I h) fun v s1 ⟨x, H1, I1, r1, q1⟩ => ⟨σ, H1, I1, q1⟩) I.quiet hs
@[reducible] def tRet (te : TE) : TS := fun D σ H => te σ H D.rt
theorem ps_ret (he : PE X e te) : PS X (.Return (some e) pos) (tRet te) := by
  intro pins s σ H D I h
  exact wpAny_Return_some (thn (he pins s σ H _ I h) fun v s1 ⟨x, H1, I1, r1, q1⟩ => ⟨x, σ, H1, I1, r1, q1⟩)
@[reducible] def tIfS (c : TT) (t u : TS) : TS := fun D σ H => c σ H fun b H1 => if b = true then t D σ H1 else u D σ H1
theorem ps_if {c : Expr} {a b : List Stmt} {tc : TT} (hc : PT X c tc) (ha : PSs X a t) (hb : PSs X b u) : PS X (.If c a b pos) (tIfS tc t u) := by
  intro pins s σ H D I h
  refine wpAny_If (thn (hc pins s σ H _ I h) fun d s1 ⟨H1, I1, q1⟩ => ?_)
  cases d with
  | true => exact ha pins s1 σ H1 D I1 q1
  | false => exact hb pins s1 σ H1 D I1 q1
end

/-! ### targets -/
abbrev TG := V → St → Hp → (St → Hp → Prop) → Prop
abbrev TGs := List V → St → Hp → (St → Hp → Prop) → Prop
def PG (X : Cx) (target : Expr) (t : TG) : Prop :=
  ∀ (pins : List (Addr × Obj)) (s : Shared) (σ : St) (H : Hp) (v : V) (u : Value) (Q : St → Hp → Prop), Inv X pins σ H s → RelV v u → t v σ H Q →
    wpAny (model X.prog X.w) X.A (assign target X.env u) (fun _ s' => NP X pins Q s') X.xe s
/-- several targets, one after another -/
def PGs (X : Cx) (ts : List Expr) (t : TGs) : Prop :=
  ∀ (pins : List (Addr × Obj)) (s : Shared) (σ : St) (H : Hp) (vs : List V) (us : List Value) (Q : St → Hp → Prop), Inv X pins σ H s → Vals vs us → t vs σ H Q →
    wpAny (model X.prog X.w) X.A (assignInOrder ((assignEach ts X.env).map (·.2)) us) (fun _ s' => NP X pins Q s') X.xe s
/-- o[i] = v, by values -/
abbrev TSet := V → V → V → Hp → (Hp → Prop) → Prop
def PSet (X : Cx) (t : TSet) : Prop :=
  ∀ (pins : List (Addr × Obj)) (s : Shared) (σ : St) (H : Hp) (o i v : V) (ov iv u : Value) (Q : Hp → Prop), Inv X pins σ H s → RelV o ov → RelV i iv → RelV v u → t o i v H Q →
    wpAny (model X.prog X.w) X.A (setItem ov iv u) (fun _ s' => ∃ H', Inv X pins σ H' s' ∧ Q H') X.xe s
/-- a op= b, by values -/
abbrev TIp := V → V → Hp → VK → Prop
def PIp (X : Cx) (op : Operator) (t : TIp) : Prop :=
  ∀ (pins : List (Addr × Obj)) (s : Shared) (σ : St) (H : Hp) (x y : V) (v u : Value) (Q : VK), Inv X pins σ H s → RelV x v → RelV y u → t x y H Q →
    wpAny (model X.prog X.w) X.A (inplaceOp op v u) (EP X pins σ Q) X.xe s
section
variable {X : Cx} {pos : Pos}
@[reducible] def gName (i : Nat) : TG := fun v σ H Q => Q (σ.set i (some v)) H
theorem pg_name {i : Nat} {x : Str} (hN : X.N.Nodup) (hi : X.N[i]? = some x) (hx : Loc X.env.scope x) (hf : X.fn x = true ∨ X.env.scope.names.lookup x = some .local := by first | exact .inl rfl | exact .inr rfl | assumption) : PG X (.Name x pos) (gName i) := by
  intro pins s σ H v u Q I r h
  exact wpAny_assign_Name (store_ok I hN hi hx r (fun s' I' => ⟨_, H, I', h⟩) hf)
def gNil : TGs := fun vs σ H Q => vs = [] ∧ Q σ H
def gCons (t : TG) (u : TGs) : TGs := fun vs σ H Q => ∃ v r, vs = v :: r ∧ t v σ H fun σ' H' => u r σ' H' Q
theorem pgs_nil : PGs X [] gNil := by
  intro pins s σ H vs us Q I r h
  obtain ⟨e, h⟩ := h
  subst e
  cases r
  exact assignInOrder_nil ⟨σ, H, I, h⟩
theorem pgs_cons {e : Expr} {es : List Expr} {t : TG} {u : TGs} (h1 : PG X e t) (h2 : PGs X es u)
    (hs : (assignEach (e :: es) X.env).map (·.2) = assign e X.env :: (assignEach es X.env).map (·.2) := by rfl) : PGs X (e :: es) (gCons t u) := by
  intro pins s σ H vs us Q I r h
  obtain ⟨v, vr, e1, h⟩ := h
  subst e1
  cases r with
  | cons r rr =>
    rw [hs]
    refine assignInOrder_cons (thn (h1 pins s σ H _ _ _ I r h) fun _ s1 ⟨σ1, H1, I1, q1⟩ => ?_)
    exact h2 pins s1 σ1 H1 _ _ Q I1 rr q1
/-- (a, b, ..) = a tuple of that length -/
def gTup (K : PySem.W.Frag) (n : Nat) (t : TGs) : TG := fun v σ H Q => ∃ a xs, v = .ref a ∧ SqT K H a xs ∧ xs.length = n ∧ t xs σ H Q
theorem pg_tup {es : List Expr} {k : Nat} {t : TGs} {n : Nat} (hc : X.calm = true) (h : PGs X es t)
    (hn : (assignEach es X.env).length = n := by rfl) (hst : (assignEach es X.env).findIdx? (·.1) = none := by rfl) : PG X (.Tuple es k pos) (gTup X.K n t) := by
  intro pins s σ H v u Q I r hw
  obtain ⟨a, xs, e1, hq, hl, hw⟩ := hw
  subst e1
  cases r
  obtain ⟨its, rv, ht, hz⟩ := I.tuple hq
  refine assign_Tuple_tuple (I.ok.hd hc) ht (by simp [hn, ← hl, rv.length]) hst fun h' hx => ?_
  have I1 : Inv X pins σ H { s with heap := h' } := I.kept (t' := s.toks) fun b o e => hx b o (Nat.ne_of_lt (Heap.lt_size e)) e
  exact h pins _ σ H xs _ Q I1 (by simpa using rv) hw
/-- o[i] = .. -/
@[reducible] def gSub (to ti : TE) (t : TSet) : TG := fun v σ H Q => to σ H fun o H1 => ti σ H1 fun i H2 => t o i v H2 fun H3 => Q σ H3
theorem pg_sub {o i : Expr} {to ti : TE} {t : TSet} (ho : PE X o to) (hi : PE X i ti) (hs : PSet X t)
    (ha : ∀ v, assign (.Subscript o i pos) X.env v = (do
      let ov ← holding [v] (eval o X.env)
      let iv ← holding [v, ov] (eval i X.env)
      standAt pos
      holding [v, ov, iv] (setItem ov iv v)
      release [v, ov, iv] []) := by intro _; rfl) : PG X (.Subscript o i pos) (gSub to ti t) := by
  intro pins s σ H v u Q I r h
  rw [ha]
  refine wpAny_bind (wpAny_holding (thn (ho pins s σ H _ I h) fun ov s1 ⟨x, H1, I1, r1, q1⟩ => ?_))
  refine wpAny_bind (wpAny_holding (thn (hi pins s1 σ H1 _ I1 q1) fun iv s2 ⟨y, H2, I2, r2, q2⟩ => ?_))
  refine wpAny_bind (wpAny_standAt (wpAny_bind (wpAny_holding (thn (hs pins s2 σ H2 x y v ov iv u _ I2 r1 r2 r q2) fun _ s3 ⟨H3, I3, q3⟩ => ?_))))
  exact wpAny_release ⟨σ, H3, I3, q3⟩
/-- target = value -/
@[reducible] def tAsg (te : TE) (g : TG) : TS := fun D σ H => te σ H fun x H1 => g x σ H1 D.nx
theorem ps_asg {tg e : Expr} {te : TE} {g : TG} (he : PE X e te) (hg : PG X tg g) (hs : swapsWithSole [tg] e pos.line X.env = pure false := by rfl) (hw : swappedStores [tg] e X.env = pure none := by rfl)
    (h1 : (assignEach [tg] X.env).map (·.2) = [assign tg X.env] := by rfl) : PS X (.Assign [tg] e pos) (tAsg te g) := by
  intro pins s σ H D I h
  refine wpAny_Assign_stores (thn (he pins s σ H _ I h) fun v s1 ⟨x, H1, I1, r1, q1⟩ => ?_) hs hw
  rw [h1]
  exact thn (hg pins s1 σ H1 x v _ I1 r1 q1) fun _ s2 q => q
/-- name = value -/
theorem ps_set {i : Nat} {x : Str} {e : Expr} {te : TE} {pos' : Pos} (hN : X.N.Nodup) (hi : X.N[i]? = some x) (hx : Loc X.env.scope x) (he : PE X e te) (hs : swapsWith e (some (.Name x pos')) pos.line X.env = pure false := by rfl) (hf : X.fn x = true ∨ X.env.scope.names.lookup x = some .local := by first | exact .inl rfl | exact .inr rfl | assumption) :
    PS X (.Assign [.Name x pos'] e pos) (tAsg te (gName i)) := by
  intro pins s σ H D I h
  refine wpAny_Assign_Name (thn (he pins s σ H _ I h) fun v s1 ⟨y, H1, I1, r1, q1⟩ => ?_) hs
  exact store_ok I1 hN hi hx r1 (fun s2 I2 => ⟨_, H1, I2, q1⟩) hf
/-- name op= e -/
def tAug (i : Nat) (te : TE) (ti : TIp) : TS := fun D σ H => ∃ x, σ[i]? = some (some x) ∧ te σ H fun y H1 => ti x y H1 fun z H2 => D.nx (σ.set i (some z)) H2
theorem ps_aug {i : Nat} {x : Str} {e : Expr} {te : TE} {op : Operator} {ti : TIp} {pos' : Pos} (hN : X.N.Nodup) (hi : X.N[i]? = some x) (hx : Loc X.env.scope x) (he : PE X e te) (ho : PIp X op ti) (hf : X.fn x = true ∨ X.env.scope.names.lookup x = some .local := by first | exact .inl rfl | exact .inr rfl | assumption) :
    PS X (.AugAssign (.Name x pos') op e pos) (tAug i te ti) := by
  intro pins s σ H D I h
  obtain ⟨v, e1, h⟩ := h
  obtain ⟨m, hn, hl⟩ := I.loc
  have vis : Vis X.env.scope x := by rcases hx with k | k; exact .inl k; exact .inr (.inl k)
  obtain ⟨u, r, l⟩ := hl i x v hi e1 vis
  refine wpAny_AugAssign_Name ?_
  have go : wpAny (model X.prog X.w) X.A (eval e X.env) (fun w s₂ => wpAny (model X.prog X.w) X.A (inplaceOp op u w) (fun r s₃ => wpAny (model X.prog X.w) X.A (storeName X.env x r) (fun _ => SP X pins D .next) X.xe s₃) X.xe s₂) X.xe s := by
    refine thn (he pins s σ H _ I h) fun w s1 ⟨y, H1, I1, r1, q1⟩ => ?_
    refine thn (ho pins s1 σ H1 v y u w _ I1 r r1 q1) fun z s2 ⟨zv, H2, I2, r2, q2⟩ => ?_
    exact store_ok I2 hN hi hx r2 (fun s3 I3 => ⟨_, H2, I3, q2⟩) hf
  rcases l with ⟨hk, hm⟩ | ⟨hk, c, hc, hcell⟩
  · exact wpAny_loadName_local I.ok.kind hk hn hm go
  · rcases hk with hk | hk
    · exact wpAny_loadName_cell I.ok.kind hk hc hcell go
    · rcases hx with k | k
      · have : X.env.scope.names.lookup x = some .free := hk
        rw [k] at this; cases this
      · have : X.env.scope.names.lookup x = some .free := hk
        rw [k] at this; cases this
/-- ints -/
def ipI (f : Int → Int → Int) : TIp := fun x y H Q => ∃ i j, x = .int i ∧ y = .int j ∧ Q (.int (f i j)) H
theorem ip_add : PIp X .Add (ipI fun i j => i + j) := by
  intro pins s σ H x y v u Q I r1 r2 h
  obtain ⟨i, j, e1, e2, q⟩ := h
  subst e1; subst e2
  obtain ⟨t, rfl⟩ := r1
  obtain ⟨t', rfl⟩ := r2
  exact iadd_int ⟨.int _, H, I.tok _, ⟨_, rfl⟩, q⟩
end

/-! ### while -/
section
variable {X : Cx} {pos : Pos}
/-- the invariant W with its measure -/
def tWhile (c : TT) (tb : TS) : TS := fun D σ H => ∃ W : Nat → St → Hp → Prop, (∃ m, W m σ H) ∧ ∀ m σ H, W m σ H →
  c σ H fun b H1 => if b = true then ∃ N : St → Hp → Prop, (∀ σ' H', N σ' H' → ∃ m', m' < m ∧ W m' σ' H') ∧ tb { D with nx := N, ct := N, bk := D.nx } σ H1 else D.nx σ H1
theorem ps_while {c : Expr} {body : List Stmt} {tc : TT} {tb : TS} (hp : PassesOwn (model X.prog X.w) X.A X.env X.xe) (hc : PT X c tc) (hb : PSs X body tb) : PS X (.While c body [] pos) (tWhile tc tb) := by
  intro pins s σ H D I h
  obtain ⟨W, ⟨m0, w0⟩, turn⟩ := h
  refine wpAny_While (codeAny_whileLoop (fun n s' => NP X pins (W n) s') ?_ m0 ⟨σ, H, I, w0⟩)
  rintro n s1 ⟨σ1, H1, I1, w1⟩
  refine wpAny_passesOwn hp (thn (hc pins s1 σ1 H1 _ I1 (turn n σ1 H1 w1)) fun b s2 ⟨H2, I2, q2⟩ => ?_)
  cases b with
  | true =>
    obtain ⟨N, hN, q2⟩ := q2
    rw [if_pos rfl]
    refine wpAny_passesOwn hp (thn (hb pins s2 σ1 H2 _ I2 q2) fun f s3 q3 => ?_)
    cases f with
    | next =>
      obtain ⟨σ3, H3, I3, n3⟩ := q3
      obtain ⟨m', hm, w3⟩ := hN σ3 H3 n3
      exact ⟨m', hm, σ3, H3, I3, w3⟩
    | cont =>
      obtain ⟨σ3, H3, I3, n3⟩ := q3
      obtain ⟨m', hm, w3⟩ := hN σ3 H3 n3
      exact ⟨m', hm, σ3, H3, I3, w3⟩
    | brk => exact q3
    | ret v => exact q3
  | false =>
    rw [if_neg Bool.false_ne_true]
    exact wpAny_execs_nil ⟨σ1, H2, I2, q2⟩
end

/-! ### what a loop or a comprehension walks -/
/-- at turn i: it yields x (the heap may grow), or it stops -/
structure It where
  go : Nat → Hp → Prop
  yld : Nat → Hp → V → Hp → Prop
  stop : Nat → Hp → Prop
/-- the iterator's own objects may turn: they are not the frame's, not pinned, younger than the entry (or a comprehension's own) -/
def FpOk (X : Cx) (pins : List (Addr × Obj)) (H : Hp) (b : Addr) : Prop :=
  H b = none ∧ b ≠ X.env.locals ∧ b ∉ X.fs ∧ (b ∈ X.ex ∨ X.s_0.heap.objs.size ≤ b) ∧ (∀ x c, X.env.cells.lookup x = some c → c ≠ b) ∧ ∀ p ∈ X.pn ++ pins, p.1 ≠ b
theorem Inv.fpOk {X : Cx} {pins : List (Addr × Obj)} {σ : St} {H H' : Hp} {s : Shared} {b : Addr} (I : Inv X pins σ H s) (hb : s.heap.objs.size ≤ b) (hn : H' b = none) : FpOk X pins H' b := by
  refine ⟨hn, Nat.ne_of_gt (Nat.lt_of_lt_of_le I.lt hb), I.nofs hb, .inr (Nat.le_trans I.sz hb), fun x c e z => ?_, fun p hp z => ?_⟩
  · obtain ⟨v, q⟩ := I.cell x c e
    exact absurd (Nat.lt_of_lt_of_le q.lt (by rw [z]; exact hb)) (Nat.lt_irrefl _)
  · exact absurd (Nat.lt_of_lt_of_le (Heap.lt_size (I.pin p hp).1) (by rw [z]; exact hb)) (Nat.lt_irrefl _)
structure Turn (P : Program) (w : World) (K : PySem.W.Frag) (tg : Expr) (J : It) (fp : List Addr) (it : Addr) (tn : Nat → Heap → Prop) : Prop where
  mem : it ∈ fp
  obj : ∀ i h, tn i h → ∀ b ∈ fp, ∃ o, h.get? b = some o ∧ ∀ v, o.data ≠ .cell v
  keep : ∀ i h h', tn i h → (∀ b ∈ fp, ∀ o, h.get? b = some o → h'.get? b = some o) → tn i h'
  item : ∀ (X : Cx), X.prog = P → X.w = w → X.K = K → X.calm = true → ∀ (i : Nat) (pins : List (Addr × Obj)) (s : Shared) (σ : St) (H : Hp) (E : Value → Shared → Prop), Inv X pins σ H s → (∀ b ∈ fp, FpOk X pins H b) → tn i s.heap → J.go i H →
    wpAny (model P w) X.A (pyNext (.ref it)) (fun r s1 => ∃ u, r = some u ∧
      wpAny (model P w) X.A (letOwnedTupleGo tg (.ref it) u) (fun _ s2 => ∃ x H', Inv X pins σ H' s2 ∧ RelV x u ∧ J.yld i H x H' ∧ tn (i + 1) s2.heap ∧ ∀ b ∈ fp, H' b = none) E s1) E s
  done : ∀ (X : Cx), X.prog = P → X.w = w → X.K = K → X.calm = true → ∀ (i : Nat) (pins : List (Addr × Obj)) (s : Shared) (σ : St) (H : Hp) (E : Value → Shared → Prop), Inv X pins σ H s → (∀ b ∈ fp, FpOk X pins H b) → tn i s.heap → J.stop i H →
    wpAny (model P w) X.A (pyNext (.ref it)) (fun r s1 => r = none ∧ Inv X pins σ H s1) E s
  self : ∀ (A : Around) (i : Nat) (s : Shared) (Q : Value → Shared → Prop) (E : Value → Shared → Prop), tn i s.heap → Q (.ref it) s → wpAny (model P w) A (pyIter (.ref it)) Q E s
abbrev TI := St → Hp → (It → Hp → Prop) → Prop
/-- an iterator has come -/
inductive PIE (X : Cx) (pins : List (Addr × Obj)) (σ : St) (tg : Expr) (R : It → Hp → Prop) (itv : Value) (s2 : Shared) : Prop
  | mk (it : Addr) (fp : List Addr) (tn : Nat → Heap → Prop) (J : It) (H' : Hp) (e : itv = .ref it) (i : Inv X pins σ H' s2) (t : Turn X.prog X.w X.K tg J fp it tn) (t0 : tn 0 s2.heap) (f : ∀ b ∈ fp, FpOk X pins H' b) (r : R J H') : PIE X pins σ tg R itv s2
def PI (X : Cx) (tg iter : Expr) (wi : TI) : Prop :=
  ∀ (pins : List (Addr × Obj)) (s : Shared) (σ : St) (H : Hp) (R : It → Hp → Prop), Inv X pins σ H s → wi σ H R →
    wpAny (model X.prog X.w) X.A (eval iter X.env) (fun v s1 => wpAny (model X.prog X.w) X.A (pyIter v) (PIE X pins σ tg R) X.xe s1) X.xe s

/-- the step ahead of the store is nothing for an iterator that keeps no tuple -/
theorem go_of {M : Model} {A : Around} {E : Value → Shared → Prop} {s : Shared} {tg : Expr} {it : Addr} {u : Value} {o : Obj} {n : String} {vs : Array Value} {Q : Unit → Shared → Prop} (ho : s.heap.get? it = some o) (hc : o.cls = .type n) (hd : o.data = .fields vs)
    (hn : ["enumerate", "zip", "dict_itemiterator", "dict_reverseitemiterator", "odict_iterator", "itertools.zip_longest", "itertools.pairwise"].contains n = false) (hQ : Q () s) : wpAny M A (letOwnedTupleGo tg (.ref it) u) Q E s := by
  unfold letOwnedTupleGo
  cases tg <;> first
    | exact wpAny_pure hQ
    | (cases u <;> first
        | exact wpAny_pure hQ
        | (refine wpAny_bind (wpAny_load ho ?_)
           rw [hc, hd]
           show wpAny M A (if (["enumerate", "zip", "dict_itemiterator", "dict_reverseitemiterator", "odict_iterator", "itertools.zip_longest", "itertools.pairwise"].contains n && vs[0]? == some (rawInt _)) = true then _ else _) Q E s
           rw [if_neg (by intro h; rw [hn, Bool.false_and] at h; cases h)]
           exact wpAny_pure hQ))

/-- the list at a, as it stands at each turn (a loop may append to it) -/
def Itl (K : PySem.W.Frag) (a : Addr) : It :=
  ⟨fun i H => ∃ xs x, SqL K H a xs ∧ xs[i]? = some x, fun i H x H' => H' = H ∧ ∀ xs, SqL K H a xs → xs[i]? = some x, fun i H => ∃ xs, SqL K H a xs ∧ xs.length ≤ i⟩
/-- lo, lo + 1, .. (n of them) -/
def Itr (lo : Int) (n : Nat) : It := ⟨fun i _ => i < n, fun i H x H' => H' = H ∧ x = .int (lo + i), fun i _ => n ≤ i⟩
theorem turn_list {P : Program} {w : World} {K : PySem.W.Frag} {tg : Expr} (a it : Addr) : Turn P w K tg (Itl K a) [it] it (fun i h => h.IsListIter it a i) where
  mem := by simp
  obj := fun i h st b hb => by
    have e : b = it := by simpa using hb
    subst e
    obtain ⟨o, e, c, d⟩ := st
    exact ⟨o, e, fun v z => by rw [d] at z; cases z⟩
  keep := fun i h h' st k => st.at fun o e => k it (by simp) o e
  item := by
    intro X hP hw hK hc i pins s σ H E I hf st hg
    subst hP hw hK
    obtain ⟨xs, x, hq, hx⟩ := hg
    obtain ⟨its, rv, p, hz⟩ := I.list hq
    obtain ⟨u, hu, ru⟩ := rv.get hx
    obtain ⟨f0, f1, f2, f3, f4, f5⟩ := hf it (by simp)
    refine wpAny_pyNext_list_item st p.isList (x := u) (by simpa using hu) fun h' st' sb => ?_
    have I1 : Inv X pins σ H { s with heap := h' } := I.turned (t' := s.toks) (fun b o hb e => (sb.2 b hb).trans e) f0 f1 f3 f4 f5
    obtain ⟨o, e, c, d⟩ := id st'
    exact ⟨u, rfl, go_of (s := { s with heap := h' }) e c d (by decide) ⟨x, H, I1, ru, ⟨rfl, fun ys hy => by rw [I.list_inj hy hq]; exact hx⟩, st', fun b hb => (hf b hb).1⟩⟩
  done := by
    intro X hP hw hK hc i pins s σ H E I hf st hg
    subst hP hw hK
    obtain ⟨xs, hq, hx⟩ := hg
    obtain ⟨its, rv, p, hz⟩ := I.list hq
    obtain ⟨f0, f1, f2, f3, f4, f5⟩ := hf it (by simp)
    have hl := rv.length
    exact wpAny_pyNext_list_end (I.ok.hd hc) st p.isList (by simp; omega) fun h' eb => ⟨rfl, I.turned (t' := s.toks) (fun b o hb e => eb b o hb e) f0 f1 f3 f4 f5⟩
  self := fun _ _ _ _ _ st h => wpAny_pyIter_listiter st h
theorem turn_range {P : Program} {w : World} {K : PySem.W.Frag} {tg : Expr} (it : Addr) (lo : Int) (n : Nat) : Turn P w K tg (Itr lo n) [it] it (fun i h => IsRangeIter h it (lo + (i : Nat) * 1) ((n : Int) - (i : Nat)) 1) where
  mem := by simp
  obj := fun i h st b hb => by
    have e : b = it := by simpa using hb
    subst e
    exact ⟨_, st, fun v z => by
      have z' : Data.fields _ = Data.cell v := z
      cases z'⟩
  keep := fun i h h' st k => k it (by simp) _ st
  item := by
    intro X hP hw hK hc i pins s σ H E I hf st hg
    subst hP hw hK
    obtain ⟨f0, f1, f2, f3, f4, f5⟩ := hf it (by simp)
    have W := Walks.range (prog := X.prog) (w := X.w) (I.ok.hd hc) it lo 1 n
    refine W.item i s _ _ hg st fun v h' tk hv st' kk => ?_
    obtain ⟨t, rfl⟩ := hv
    have I1 : Inv X pins σ H { s with heap := h', toks := tk } := I.turned (fun b o hb e => kk b o (by simpa using hb) e) f0 f1 f3 f4 f5
    refine ⟨_, rfl, go_of (s := { s with heap := h', toks := tk }) (n := "range_iterator") st' rfl rfl (by decide) ⟨.int (lo + i), H, I1, ⟨t, ?_⟩, ⟨rfl, rfl⟩, st', fun b hb => (hf b hb).1⟩⟩
    rw [Int.mul_one]
  done := by
    intro X hP hw hK hc i pins s σ H E I hf st hg
    subst hP hw hK
    obtain ⟨f0, f1, f2, f3, f4, f5⟩ := hf it (by simp)
    exact wpAny_pyNext_range_end (I.ok.hd hc) st (by have : n ≤ i := hg; omega) fun h' eb => ⟨rfl, I.turned (t' := s.toks) (fun b o hb e => eb b o hb e) f0 f1 f3 f4 f5⟩
  self := fun _ _ _ _ _ st h => wpAny_pyIter_rangeiter st h
end L2

namespace L2
open PySem PySem.Spec PyProof.Rows
section
variable {X : Cx} {tg : Expr}
def iList (K : PySem.W.Frag) (tl : TE) : TI := fun σ H R => tl σ H fun x H1 => ∃ a, x = .ref a ∧ (∃ xs, SqL K H1 a xs) ∧ R (Itl K a) H1
theorem pi_list {l : Expr} {tl : TE} (hl : PE X l tl) : PI X tg l (iList X.K tl) := by
  intro pins s σ H R I h
  refine thn (hl pins s σ H _ I h) fun v s1 ⟨x, H1, I1, r1, q1⟩ => ?_
  obtain ⟨a, e, ⟨xs, hq⟩, q⟩ := q1
  subst e
  cases r1
  obtain ⟨its, rv, p, hz⟩ := I1.list hq
  refine wpAny_pyIter_list p.isList ?_
  refine ⟨s1.heap.objs.size, [s1.heap.objs.size], _, _, H1, rfl, I1.kept (t' := s1.toks) fun b o e => Heap.get?_push_of_some _ e, turn_list a _, ⟨_, Heap.get?_push_size _ rfl, rfl, rfl⟩, fun b hb => ?_, q⟩
  have e : b = s1.heap.objs.size := by simpa using hb
  subst e
  exact I1.fpOk (Nat.le_refl _) (I1.hok.fresh (Nat.le_refl _))
/-- a range object just made, walked -/
theorem range_it {pins : List (Addr × Obj)} {σ : St} {H : Hp} {s : Shared} {R : It → Hp → Prop} {E : Value → Shared → Prop} {lo hi : Int} {t u v : Tok} {tk : Nat} (I : Inv X pins σ H s) (h1 : -(2 ^ 62) ≤ lo) (h2 : lo < 2 ^ 62) (h3 : -(2 ^ 62) ≤ hi) (h4 : hi < 2 ^ 62)
    (q : R (Itr lo (hi - lo).toNat) H) : wpAny (model X.prog X.w) X.A (pyIter (.ref s.heap.objs.size)) (PIE X pins σ tg R) E { s with heap := s.heap.push { cls := .type "range", data := .fields #[.int lo t, .int hi u, .int 1 v] }, toks := tk } := by
  refine wpAny_pyIter_range (IsRange.new ..) (small_one h1 h2 h3 h4) ?_
  have I1 : Inv X pins σ H { s with heap := s.heap.push { cls := .type "range", data := .fields #[.int lo t, .int hi u, .int 1 v] }, toks := tk } := I.kept fun b o e => Heap.get?_push_of_some _ e
  refine ⟨(s.heap.push { cls := .type "range", data := .fields #[.int lo t, .int hi u, .int 1 v] }).objs.size, [(s.heap.push { cls := .type "range", data := .fields #[.int lo t, .int hi u, .int 1 v] }).objs.size], _, _, H, rfl,
    I1.kept (t' := tk) fun b o e => Heap.get?_push_of_some _ e, turn_range _ lo (hi - lo).toNat, ?_, fun b hb => ?_, q⟩
  · have e1 : lo + ((0 : Nat) : Int) * 1 = lo := by simp
    have e2 : (((hi - lo).toNat : Nat) : Int) - ((0 : Nat) : Int) = Builtin.Range.rangeSize lo hi 1 := by rw [rangeSize_one]; split <;> omega
    show IsRangeIter _ _ (lo + ((0 : Nat) : Int) * 1) ((((hi - lo).toNat : Nat) : Int) - ((0 : Nat) : Int)) 1
    rw [e1, e2]
    exact Heap.get?_push_size _ rfl
  · have e : b = (s.heap.push { cls := .type "range", data := .fields #[.int lo t, .int hi u, .int 1 v] }).objs.size := by simpa using hb
    subst e
    exact I1.fpOk (Nat.le_refl _) (I1.hok.fresh (Nat.le_refl _))
def iRng1 (ta : TA) : TI := fun σ H R => ta σ H fun vs H1 => ∃ j : Int, vs = [.int j] ∧ -(2 ^ 62) ≤ j ∧ j < 2 ^ 62 ∧ R (Itr 0 j.toNat) H1
theorem pi_range1 {a : Expr} {ta : TA} {p pos : Pos} (hg : Gl X "range") (hm : X.mg "range" = none) (ha : PA X [a] ta) (hs : starEach [a] X.env = [(false, eval a X.env)] := by rfl) : PI X tg (.Call (.Name "range" p) [a] [] pos) (iRng1 ta) := by
  intro pins s σ H R I h
  refine Call_ (ld_blt I hg hm boot_range (PyProof.Rows.callWith_type1 (thn (ha pos pins s σ H _ I h) fun us s1 ⟨vs, H1, I1, r1, q1⟩ => ?_) hs rfl))
  obtain ⟨j, e, q1, q2, q⟩ := q1
  subst e
  cases r1 with
  | cons r rr =>
    cases rr
    obtain ⟨t, rfl⟩ := r
    exact call_range_1 (range_it I1 (by omega) (by omega) q1 q2 (by simpa using q))

/-! ### for -/
/-- W: the invariant by the turn and a measure; N: what the body is to reach -/
def tFor (wi : TI) (g : TG) (tb : TS) : TS := fun D σ H => wi σ H fun J H1 => ∃ W : Nat → Nat → St → Hp → Prop, (∃ m, W 0 m σ H1) ∧ ∀ i m σ H, W i m σ H →
  (J.stop i H ∧ D.nx σ H) ∨ (J.go i H ∧ ∃ N : St → Hp → Prop, (∀ σ' H', N σ' H' → ∃ m', m' < m ∧ W (i + 1) m' σ' H') ∧ ∀ x H', J.yld i H x H' → g x σ H' fun σ2 H2 => tb { D with nx := N, ct := N, bk := D.nx } σ2 H2)
/-- the records at fp as they stand -/
def pinsAt (fp : List Addr) (h : Heap) : List (Addr × Obj) := fp.filterMap fun b => (h.get? b).map fun o => (b, o)
theorem mem_pinsAt {fp : List Addr} {h : Heap} {b : Addr} {o : Obj} (hb : b ∈ fp) (e : h.get? b = some o) : (b, o) ∈ pinsAt fp h := List.mem_filterMap.mpr ⟨b, hb, by rw [e]; rfl⟩
theorem of_pinsAt {fp : List Addr} {h : Heap} {p : Addr × Obj} (hp : p ∈ pinsAt fp h) : p.1 ∈ fp ∧ h.get? p.1 = some p.2 := by
  obtain ⟨b, hb, e⟩ := List.mem_filterMap.mp hp
  cases q : h.get? b with
  | none => rw [q] at e; cases e
  | some o =>
    rw [q] at e
    have e' : (b, o) = p := Option.some.inj e
    subst e'
    exact ⟨hb, q⟩
theorem Inv.pinned {pins : List (Addr × Obj)} {σ : St} {H : Hp} {s : Shared} {fp : List Addr} (I : Inv X pins σ H s) (hf : ∀ b ∈ fp, FpOk X pins H b) (ho : ∀ b ∈ fp, ∃ o, s.heap.get? b = some o ∧ ∀ v, o.data ≠ .cell v) : Inv X (pins ++ pinsAt fp s.heap) σ H s :=
  I.pins_of fun p hp => (List.mem_append.mp hp).elim (fun z => I.pin p (List.mem_append_right _ z)) fun z => by
    obtain ⟨hb, e⟩ := of_pinsAt z
    obtain ⟨f0, f1, f2, _⟩ := hf p.1 hb
    obtain ⟨o, e', d⟩ := ho p.1 hb
    rw [e] at e'; cases e'
    exact ⟨e, f0, f1, f2, d⟩
theorem Inv.unpinned {pins pl : List (Addr × Obj)} {σ : St} {H : Hp} {s : Shared} (I : Inv X (pins ++ pl) σ H s) : Inv X pins σ H s := I.pins_of fun p hp => I.pin p (List.mem_append_right _ (List.mem_append_left _ hp))
theorem ps_for {iter : Expr} {body : List Stmt} {wi : TI} {g : TG} {tb : TS} {pos : Pos} (hp : PassesOwn (model X.prog X.w) X.A X.env X.xe) (hc : X.calm = true) (hi : PI X tg iter wi) (hg : PG X tg g) (hb : PSs X body tb)
    (hs : ∀ x, foldedSetIterable iter X.env x = pure x := by intro _; rfl) : PS X (.For tg iter body [] pos) (tFor wi g tb) := by
  intro pins s σ H D I h
  refine wpAny_For (thn (hi pins s σ H _ I h) fun v s1 h1 => thn h1 fun itv s2 h2 => ?_) hs
  obtain ⟨it, fp, tn, J, H2, e, I2, T, st2, f2, W, ⟨m0, w0⟩, turn⟩ := h2
  subst e
  -- what stays true of the iterator's objects through the loop
  have stat : ∀ {H' : Hp}, (∀ b ∈ fp, H' b = none) → ∀ b ∈ fp, FpOk X pins H' b := fun hn b hb => ⟨hn b hb, (f2 b hb).2⟩
  refine codeAny_forLoop_any (fun n s' => ∃ i σ' H', Inv X pins σ' H' s' ∧ tn i s'.heap ∧ (∀ b ∈ fp, H' b = none) ∧ W i n σ' H') ?_ m0 ⟨0, σ, H2, I2, st2, fun b hb => (f2 b hb).1, w0⟩
  rintro n s3 ⟨i, σ3, H3, I3, st3, fr3, w3⟩
  rcases turn i n σ3 H3 w3 with ⟨stop, qn⟩ | ⟨go, N, hN, step⟩
  · refine wpAny_passesOwn hp (thn (T.done X rfl rfl rfl hc i pins s3 σ3 H3 X.xe I3 (stat fr3) st3 stop) fun r s4 ⟨hr, I4⟩ => ?_)
    subst hr
    exact wpAny_execs_nil ⟨σ3, H3, I4, qn⟩
  · refine wpAny_passesOwn hp (thn (T.item X rfl rfl rfl hc i pins s3 σ3 H3 X.xe I3 (stat fr3) st3 go) fun r s4 ⟨u, hr, h4⟩ => ?_)
    subst hr
    refine wpAny_passesOwn hp (thn h4 fun _ s5 ⟨x, H5, I5, r5, y5, st5, fr5⟩ => ?_)
    have I5' := I5.pinned (stat fr5) (T.obj _ _ st5)
    refine wpAny_passesOwn hp (thn (hg _ s5 σ3 H5 x u _ I5' r5 (step x H5 y5)) fun _ s6 ⟨σ6, H6, I6, q6⟩ => ?_)
    refine wpAny_passesOwn hp (thn (hb _ s6 σ6 H6 _ I6 q6) fun f s7 q7 => ?_)
    have again : ∀ {σ7 : St} {H7 : Hp}, Inv X (pins ++ pinsAt fp s5.heap) σ7 H7 s7 → N σ7 H7 → ∃ m, m < n ∧ ∃ i σ' H', Inv X pins σ' H' s7 ∧ tn i s7.heap ∧ (∀ b ∈ fp, H' b = none) ∧ W i m σ' H' := fun {σ7 H7} I7 n7 => by
      obtain ⟨m', hm, w7⟩ := hN σ7 H7 n7
      refine ⟨m', hm, i + 1, σ7, H7, I7.unpinned, T.keep _ _ _ st5 fun b hb o e => (I7.pin (b, o) (List.mem_append_right _ (List.mem_append_right _ (mem_pinsAt hb e)))).1, fun b hb => ?_, w7⟩
      obtain ⟨o, e, d⟩ := T.obj _ _ st5 b hb
      exact (I7.pin (b, o) (List.mem_append_right _ (List.mem_append_right _ (mem_pinsAt hb e)))).2.1
    cases f with
    | next => obtain ⟨σ7, H7, I7, n7⟩ := q7; exact again I7 n7
    | cont => obtain ⟨σ7, H7, I7, n7⟩ := q7; exact again I7 n7
    | brk => obtain ⟨σ7, H7, I7, q7⟩ := q7; exact ⟨σ7, H7, I7.unpinned, q7⟩
    | ret v => obtain ⟨x7, σ7, H7, I7, r7, q7⟩ := q7; exact ⟨x7, σ7, H7, I7.unpinned, r7, q7⟩
end

/-! ### the forms one uses -/
/-- over a list that the body leaves as it is -/
theorem for_list {K : PySem.W.Frag} {a : Addr} {xs : List V} {g : TG} {tb : TS} {D : Ends} {σ : St} {H : Hp} (Pv : Nat → St → Hp → Prop) (h0 : Pv 0 σ H) (hl : ∀ i σ H, i ≤ xs.length → Pv i σ H → SqL K H a xs)
    (hs : ∀ i x σ H, xs[i]? = some x → Pv i σ H → g x σ H fun σ2 H2 => tb { D with nx := Pv (i + 1), ct := Pv (i + 1), bk := D.nx } σ2 H2) (hd : ∀ σ H, Pv xs.length σ H → D.nx σ H) :
    ∃ W : Nat → Nat → St → Hp → Prop, (∃ m, W 0 m σ H) ∧ ∀ i m σ H, W i m σ H →
      ((Itl K a).stop i H ∧ D.nx σ H) ∨ ((Itl K a).go i H ∧ ∃ N : St → Hp → Prop, (∀ σ' H', N σ' H' → ∃ m', m' < m ∧ W (i + 1) m' σ' H') ∧ ∀ x H', (Itl K a).yld i H x H' → g x σ H' fun σ2 H2 => tb { D with nx := N, ct := N, bk := D.nx } σ2 H2) := by
  refine ⟨fun i m σ H => m = xs.length - i ∧ i ≤ xs.length ∧ Pv i σ H, ⟨xs.length, by simp, Nat.zero_le _, h0⟩, ?_⟩
  rintro i m σ H ⟨rfl, hi, p⟩
  have q := hl i σ H hi p
  by_cases hlt : i < xs.length
  · refine .inr ⟨⟨xs, xs[i], q, by simp [hlt]⟩, Pv (i + 1), fun σ' H' p' => ⟨xs.length - (i + 1), by omega, rfl, hlt, p'⟩, fun x H' y => ?_⟩
    obtain ⟨e, y⟩ := y
    subst e
    exact hs i x σ _ (y xs q) p
  · have e : i = xs.length := by omega
    subst e
    exact .inl ⟨⟨xs, q, Nat.le_refl _⟩, hd σ H p⟩
theorem for_range {lo : Int} {n : Nat} {g : TG} {tb : TS} {D : Ends} {σ : St} {H : Hp} (Pv : Nat → St → Hp → Prop) (h0 : Pv 0 σ H)
    (hs : ∀ i σ H, i < n → Pv i σ H → g (.int (lo + i)) σ H fun σ2 H2 => tb { D with nx := Pv (i + 1), ct := Pv (i + 1), bk := D.nx } σ2 H2) (hd : ∀ σ H, Pv n σ H → D.nx σ H) :
    ∃ W : Nat → Nat → St → Hp → Prop, (∃ m, W 0 m σ H) ∧ ∀ i m σ H, W i m σ H →
      ((Itr lo n).stop i H ∧ D.nx σ H) ∨ ((Itr lo n).go i H ∧ ∃ N : St → Hp → Prop, (∀ σ' H', N σ' H' → ∃ m', m' < m ∧ W (i + 1) m' σ' H') ∧ ∀ x H', (Itr lo n).yld i H x H' → g x σ H' fun σ2 H2 => tb { D with nx := N, ct := N, bk := D.nx } σ2 H2) := by
  refine ⟨fun i m σ H => m = n - i ∧ i ≤ n ∧ Pv i σ H, ⟨n, by simp, Nat.zero_le _, h0⟩, ?_⟩
  rintro i m σ H ⟨rfl, hi, p⟩
  by_cases hlt : i < n
  · refine .inr ⟨hlt, Pv (i + 1), fun σ' H' p' => ⟨n - (i + 1), by omega, rfl, hlt, p'⟩, fun x H' y => ?_⟩
    obtain ⟨e, y⟩ := y
    subst e y
    exact hs i σ _ hlt p
  · have e : i = n := by omega
    subst e
    exact .inl ⟨Nat.le_refl _, hd σ H p⟩
/-- while, by a word and a measure of the state -/
theorem while_by {c : TT} {tb : TS} {D : Ends} {σ : St} {H : Hp} (Pv : St → Hp → Prop) (μ : St → Hp → Nat) (h0 : Pv σ H)
    (hs : ∀ σ H, Pv σ H → c σ H fun b H1 => if b = true then tb { D with nx := fun σ' H' => Pv σ' H' ∧ μ σ' H' < μ σ H, ct := fun σ' H' => Pv σ' H' ∧ μ σ' H' < μ σ H, bk := D.nx } σ H1 else D.nx σ H1)
    (mono : ∀ σ H Q Q', (∀ b H1, Q b H1 → Q' b H1) → c σ H Q → c σ H Q') : tWhile c tb D σ H := by
  refine ⟨fun m σ H => m = μ σ H ∧ Pv σ H, ⟨_, rfl, h0⟩, ?_⟩
  rintro m σ H ⟨rfl, p⟩
  refine mono σ H _ _ (fun b H1 q => ?_) (hs σ H p)
  cases b with
  | true => exact ⟨_, fun σ' H' ⟨p', l⟩ => ⟨_, l, rfl, p'⟩, q⟩
  | false => exact q
end L2

namespace L2
open PySem PySem.Spec PyProof.Rows

abbrev R2 := V → V → Hp → VK → Prop
/-- a two-place operation on values: f is binaryOp op, inplaceOp op or compareOp op -/
def OpR (X : Cx) (f : Value → Value → Sem Value) (r : R2) : Prop :=
  ∀ (pins : List (Addr × Obj)) (s : Shared) (σ : St) (H : Hp) (x y : V) (v u : Value) (Q : VK), Inv X pins σ H s → RelV x v → RelV y u → r x y H Q →
    wpAny (model X.prog X.w) X.A (f v u) (EP X pins σ Q) X.xe s
/-- a one-place operation -/
def UnR (X : Cx) (f : Value → Sem Value) (r : V → Hp → VK → Prop) : Prop :=
  ∀ (pins : List (Addr × Obj)) (s : Shared) (σ : St) (H : Hp) (x : V) (v : Value) (Q : VK), Inv X pins σ H s → RelV x v → r x H Q →
    wpAny (model X.prog X.w) X.A (f v) (EP X pins σ Q) X.xe s
/-- a call of a value that is known (a builtin, a type) with values -/
def CallR (X : Cx) (f : Value) (r : List V → Hp → VK → Prop) : Prop :=
  ∀ (pins : List (Addr × Obj)) (s : Shared) (σ : St) (H : Hp) (xs : List V) (us : List Value) (Q : VK), Inv X pins σ H s → Vals xs us → r xs H Q →
    wpAny (model X.prog X.w) X.A (call f us) (EP X pins σ Q) X.xe s

@[reducible] def tOp (r : R2) (ta tb : TE) : TE := fun σ H Q => ta σ H fun x H1 => tb σ H1 fun y H2 => r x y H2 Q
@[reducible] def tUn (r : V → Hp → VK → Prop) (ta : TE) : TE := fun σ H Q => ta σ H fun x H1 => r x H1 Q
inductive I0At (g : Int → Int → V) (x y : V) (H : Hp) (Q : VK) : Prop
  | mk (i j : Int) (a : x = .int i) (b : y = .int j) (q : Q (g i j) H) : I0At g x y H Q
def rI0 (g : Int → Int → V) : R2 := fun x y H Q => I0At g x y H Q
def rU (g : Int → V) : V → Hp → VK → Prop := fun x H Q => ∃ i, x = .int i ∧ Q (g i) H

section
variable {X : Cx} {a b c : Expr} {ta tb tc : TE} {pos : Pos}

theorem binT (ha : PE X a ta) (hb : PE X b tb) {pins : List (Addr × Obj)} {s : Shared} {σ : St} {H : Hp} {R : V → V → Hp → Prop} (I : Inv X pins σ H s)
    (h : ta σ H fun x H1 => tb σ H1 fun y H2 => R x y H2) {Q : Value → Shared → Prop} {f : Value → Value → Sem Value}
    (hf : ∀ v u s2 x y H2, Inv X pins σ H2 s2 → RelV x v → RelV y u → R x y H2 → wpAny (model X.prog X.w) X.A (f v u) Q X.xe s2) :
    wpAny (model X.prog X.w) X.A (eval a X.env) (fun v s₁ => wpAny (model X.prog X.w) X.A (eval b X.env) (fun u s₂ => wpAny (model X.prog X.w) X.A (f v u) Q X.xe s₂) X.xe s₁) X.xe s := by
  refine thn (ha pins s σ H _ I h) fun v s1 ⟨x, H1, I1, r1, q1⟩ => ?_
  refine thn (hb pins s1 σ H1 _ I1 q1) fun u s2 ⟨y, H2, I2, r2, q2⟩ => ?_
  exact hf v u s2 x y H2 I2 r1 r2 q2

theorem pe_op {op : Operator} {r : R2} (ho : OpR X (binaryOp op) r) (ha : PE X a ta) (hb : PE X b tb) : PE X (.BinOp a op b pos) (tOp r ta tb) := by
  intro pins s σ H Q I h
  exact wpAny_BinOp (binT ha hb I h fun v u s2 x y H2 I2 rx ry q => ho pins s2 σ H2 x y v u Q I2 rx ry q)
theorem pe_un {op : UnaryOp} {r : V → Hp → VK → Prop} (ho : UnR X (unaryOp op) r) (ha : PE X a ta) : PE X (.UnaryOp op a pos) (tUn r ta) := by
  intro pins s σ H Q I h
  exact UnaryOp_ (thn (ha pins s σ H _ I h) fun v s1 ⟨x, H1, I1, r1, q1⟩ => ho pins s1 σ H1 x v Q I1 r1 q1)

/-! ### ints -/
theorem opI0 {f : Value → Value → Sem Value} {g : Int → Int → Int}
    (rule : ∀ (i j : Int) (t u : Tok) (s : Shared) (Q : Value → Shared → Prop) (E : Value → Shared → Prop), Q (.int (g i j) s.toks) { s with toks := s.toks + 1 } → wpAny (model X.prog X.w) X.A (f (.int i t) (.int j u)) Q E s) :
    OpR X f (rI0 fun i j => .int (g i j)) := by
  intro pins s σ H x y v u Q I rx ry h
  obtain ⟨i, j, rfl, rfl, q⟩ := h
  obtain ⟨t, rfl⟩ := rx
  obtain ⟨t', rfl⟩ := ry
  exact rule i j t t' s _ _ ⟨.int (g i j), H, I.tok _, ⟨_, rfl⟩, q⟩
theorem opB0 {f : Value → Value → Sem Value} {g : Int → Int → Bool}
    (rule : ∀ (i j : Int) (t u : Tok) (s : Shared) (Q : Value → Shared → Prop) (E : Value → Shared → Prop), Q (.bool (g i j)) s → wpAny (model X.prog X.w) X.A (f (.int i t) (.int j u)) Q E s) :
    OpR X f (rI0 fun i j => .bl (g i j)) := by
  intro pins s σ H x y v u Q I rx ry h
  obtain ⟨i, j, rfl, rfl, q⟩ := h
  obtain ⟨t, rfl⟩ := rx
  obtain ⟨t', rfl⟩ := ry
  exact rule i j t t' s _ _ ⟨.bl (g i j), H, I, rfl, q⟩

theorem op_add : OpR X (binaryOp .Add) (rI0 fun i j => .int (i + j)) := opI0 fun _ _ _ _ _ _ _ q => add_int q
theorem op_sub : OpR X (binaryOp .Sub) (rI0 fun i j => .int (i - j)) := opI0 fun _ _ _ _ _ _ _ q => sub_int q

theorem unI {f : Value → Sem Value} {g : Int → Int}
    (rule : ∀ (i : Int) (t : Tok) (s : Shared) (Q : Value → Shared → Prop) (E : Value → Shared → Prop), Q (.int (g i) s.toks) { s with toks := s.toks + 1 } → wpAny (model X.prog X.w) X.A (f (.int i t)) Q E s) :
    UnR X f (rU fun i => .int (g i)) := by
  intro pins s σ H x v Q I rx h
  obtain ⟨i, rfl, q⟩ := h
  obtain ⟨t, rfl⟩ := rx
  exact rule i t s _ _ ⟨.int (g i), H, I.tok _, ⟨_, rfl⟩, q⟩
theorem un_neg : UnR X (unaryOp .USub) (rU fun i => .int (-i)) := unI fun _ _ _ _ _ q => neg_int q

/-! ### bools among ints: n += (a < b) -/
end

/-! ### comparisons -/
/-- the scalars that == tells apart as data does -/
def scal : V → V → Bool
  | .non, .non => true | .non, .int _ => true | .int _, .non => true | .non, .bl _ => true | .bl _, .non => true | .non, .str _ => true | .str _, .non => true
  | .int _, .int _ => true | .bl _, .bl _ => true | .str _, .str _ => true | .byt _, .byt _ => true
  | .int _, .str _ => true | .str _, .int _ => true | .bl _, .str _ => true | .str _, .bl _ => true
  | _, _ => false
def rEq : R2 := fun x y H Q => scal x y = true ∧ Q (.bl (decide (x = y))) H

theorem dec_int {i j : Int} : decide (V.int i = V.int j) = (i == j) := by
  rw [Bool.eq_iff_iff]
  simp
theorem dec_bl {i j : Bool} : decide (V.bl i = V.bl j) = (i == j) := by
  rw [Bool.eq_iff_iff]
  simp
theorem dec_str {i j : Str} : decide (V.str i = V.str j) = (i == j) := by
  rw [Bool.eq_iff_iff]
  simp
theorem dec_byt {i j : Array UInt8} : decide (V.byt i = V.byt j) = (i.toList == j.toList) := by
  rw [Bool.eq_iff_iff]
  cases i
  cases j
  simp

section
variable {X : Cx} {a b c : Expr} {ta tb tc : TE} {pos : Pos}
theorem fin_bl {pins : List (Addr × Obj)} {σ : St} {H : Hp} {s : Shared} {Q : VK} {k k' : Bool} (I : Inv X pins σ H s) (q : Q (.bl k) H) (e : k = k') : EP X pins σ Q (.bool k') s := by
  subst e
  exact ⟨.bl k, H, I, rfl, q⟩
def isI : V → Bool
  | .int _ => true
  | _ => false
def rEqI : R2 := fun x y H Q => (isI x && isI y) = true ∧ Q (.bl (decide (x = y))) H
theorem op_eqI : OpR X (compareOp .Eq) rEqI := by
  intro pins s σ H x y v u Q I rx ry h
  obtain ⟨hs, q⟩ := h
  rw [Bool.and_eq_true] at hs
  cases x with
  | int i =>
    obtain ⟨t, rfl⟩ := rx
    cases y with
    | int j =>
      obtain ⟨t', rfl⟩ := ry
      exact eq_int (fin_bl I q dec_int)
    | _ => exact absurd hs.2 Bool.false_ne_true
  | _ => exact absurd hs.1 Bool.false_ne_true
theorem op_lt : OpR X (compareOp .Lt) (rI0 fun i j => .bl (decide (i < j))) := opB0 fun _ _ _ _ _ _ _ q => lt_int q
theorem op_le : OpR X (compareOp .LtE) (rI0 fun i j => .bl (decide (i ≤ j))) := opB0 fun _ _ _ _ _ _ _ q => le_int q
theorem op_gt : OpR X (compareOp .Gt) (rI0 fun i j => .bl (decide (j < i))) := opB0 fun _ _ _ _ _ _ _ q => gt_int q
theorem op_ge : OpR X (compareOp .GtE) (rI0 fun i j => .bl (decide (j ≤ i))) := opB0 fun _ _ _ _ _ _ _ q => ge_int q

/-- is None, is not None: the right side a value none -/
theorem op_isN : OpR X (compareOp .Is) (fun x y H Q => y = .non ∧ Q (.bl (decide (x = .non))) H) := by
  intro pins s σ H x y v u Q I rx ry h
  obtain ⟨rfl, q⟩ := h
  cases ry
  refine is_none_gen (fin_bl I q ?_)
  cases x <;> first
    | (cases rx; rfl)
    | (obtain ⟨t, rfl⟩ := rx; rfl)
theorem op_notN : OpR X (compareOp .IsNot) (fun x y H Q => y = .non ∧ Q (.bl (!decide (x = .non))) H) := by
  intro pins s σ H x y v u Q I rx ry h
  obtain ⟨rfl, q⟩ := h
  cases ry
  refine isnot_none_gen (fin_bl I q ?_)
  cases x <;> first
    | (cases rx; rfl)
    | (obtain ⟨t, rfl⟩ := rx; rfl)

theorem nomark (b : Expr) {op : CmpOp} (h : op ≠ .In := by decide) (h2 : op ≠ .NotIn := by decide) : behindInMarks op b = false := by
  have e1 : (op == CmpOp.In) = false := by cases op <;> first | rfl | exact absurd rfl h
  have e2 : (op == CmpOp.NotIn) = false := by cases op <;> first | rfl | exact absurd rfl h2
  cases b <;> simp [behindInMarks, e1, e2]
/-- a comparison as a value; hm: nomark b, or (for in, not in) by with_unfolding_all rfl -/
theorem pe_cmpR {op : CmpOp} {r : R2} (ho : OpR X (compareOp op) r) (ha : PE X a ta) (hb : PE X b tb) (hm : behindInMarks op b = false) : PE X (.Compare a [op] [b] pos) (tOp r ta tb) := by
  intro pins s σ H Q I h
  exact wpAny_Compare1 (binT ha hb I h fun v u s2 x y H2 I2 rx ry q => ho pins s2 σ H2 x y v u Q I2 rx ry q) hm
/-- a reading of a value as a test -/
@[reducible] def tTest (t : TE) : TT := fun σ H Q => t σ H fun x H' => BlAt Q x H'
theorem pt_cmpR {op : CmpOp} {r : R2} (ho : OpR X (compareOp op) r) (ha : PE X a ta) (hb : PE X b tb) (hm : behindInMarks op b = false) : PT X (.Compare a [op] [b] pos) (tTest (tOp r ta tb)) := by
  intro pins s σ H Q I h
  refine wpAny_isTrue_Compare1 (thn (ha pins s σ H _ I h) fun v s1 ⟨x, H1, I1, r1, q1⟩ => thn (hb pins s1 σ H1 _ I1 q1) fun u s2 ⟨y, H2, I2, r2, q2⟩ =>
    thn (ho pins s2 σ H2 x y v u _ I2 r1 r2 q2) fun c s3 ⟨z, H3, I3, r3, k, e, q3⟩ => ?_) hm
  subst e
  cases r3
  exact wpAny_truthy_bool ⟨H3, I3, q3⟩
/-- a op1 b op2 c -/
def tChain (r r' : R2) (ta tb tc : TE) : TE := fun σ H Q => ta σ H fun x H1 => tb σ H1 fun y H2 => r x y H2 fun z H3 => ∃ k, z = .bl k ∧
  (if k = true then tc σ H3 fun w' H4 => r' y w' H4 Q else Q (.bl false) H3)
theorem pt_chain {op op' : CmpOp} {r r' : R2} (ho : OpR X (compareOp op) r) (ho' : OpR X (compareOp op') r') (ha : PE X a ta) (hb : PE X b tb) (hc : PE X c tc)
    (hm : lastMarks [op, op'] [b, c] = false := by with_unfolding_all rfl) : PT X (.Compare a [op, op'] [b, c] pos) (tTest (tChain r r' ta tb tc)) := by
  intro pins s σ H Q I h
  refine isTrue_chain (thn (ha pins s σ H _ I h) fun v s1 ⟨x, H1, I1, r1, q1⟩ => test_link (thn (hb pins s1 σ H1 _ I1 q1) fun u s2 ⟨y, H2, I2, r2, q2⟩ =>
    thn (ho pins s2 σ H2 x y v u _ I2 r1 r2 q2) fun d s3 ⟨z, H3, I3, r3, k, e, q3⟩ => ?_)) hm
  subst e
  cases r3
  refine wpAny_truthy_bool ?_
  cases k with
  | false =>
    obtain ⟨k', e', q'⟩ := q3
    cases e'
    exact ite_ff ⟨H3, I3, q'⟩
  | true =>
    refine ite_tt (test_last (thn (hc pins s3 σ H3 _ I3 q3) fun w' s4 ⟨z', H4, I4, r4, q4⟩ => thn (ho' pins s4 σ H4 y z' u w' _ I4 r2 r4 q4) fun d' s5 ⟨z2, H5, I5, r5, k2, e2, q5⟩ => ?_))
    subst e2
    cases r5
    exact wpAny_truthy_bool ⟨H5, I5, q5⟩

/-! ### truth -/
theorem line63 : (sizeLine : Nat) < 2 ^ 63 := by rw [sizeLine_eq]; decide

/-! ### strs and bytes -/

/-! ### scalar builtins, by CallR -/
theorem vals1 {x : V} {us : List Value} (r : Vals [x] us) : ∃ u, us = [u] ∧ RelV x u := by
  cases r with
  | cons r1 r2 => cases r2; exact ⟨_, rfl, r1⟩
theorem vals2 {x y : V} {us : List Value} (r : Vals [x, y] us) : ∃ u w', us = [u, w'] ∧ RelV x u ∧ RelV y w' := by
  cases r with
  | cons r1 r2 =>
    cases r2 with
    | cons r3 r4 => cases r4; exact ⟨_, _, rfl, r1, r3⟩
theorem call_min2 (hc : X.calm = true) : CallR X (.builtin "min") (fun xs H Q => ∃ i j, xs = [.int i, .int j] ∧ Q (.int (if j < i then j else i)) H) := by
  intro pins s σ H xs us Q I r h
  obtain ⟨i, j, rfl, q⟩ := h
  obtain ⟨u, w', rfl, ⟨t, rfl⟩, ⟨t', rfl⟩⟩ := vals2 r
  refine min_two_ints (I.ok.hd hc) fun h' tk k => ⟨_, H, I.kept k, ?_, q⟩
  by_cases hj : j < i
  · rw [if_pos hj, if_pos hj]; exact ⟨_, rfl⟩
  · rw [if_neg hj, if_neg hj]; exact ⟨_, rfl⟩
end
end L2

namespace L2
open PySem PySem.Spec PyProof.Rows

/-! ### an instance, its attributes a map -/
structure ObjM (h : Heap) (x dx C : Addr) (mA : Str → Option Value) : Prop where
  obj : h.get? x = some (PySem.W.instObj C dx)
  ns : h.Ns1 dx mA
  ne : dx ≠ x

theorem lookIn_ns {h : Heap} {dx : Addr} {mA : Str → Option Value} (n : h.Ns1 dx mA) : ∃ od, h.get? dx = some od ∧ ∀ name, PySem.W.lookIn name od = some (mA name) := by
  obtain ⟨o, es, ep, ho, hd, hk, _, hm⟩ := n
  refine ⟨o, ho, fun name => ?_⟩
  have e := hm name
  unfold nsFind findBy at e
  rw [← Array.find?_toList] at e
  unfold PySem.W.lookIn
  rw [hd]
  dsimp only
  split
  · rename_i y q
    rw [q] at e
    exact congrArg some e
  · rename_i q
    rw [q] at e
    have a : es.toList.any (·.refKey) = false := by
      rw [List.any_eq_false]
      intro y hy
      obtain ⟨z, t, hkey⟩ := hk y (Array.mem_toList_iff.mp hy)
      simp [DictEntry.refKey, hkey]
    have a' : ¬ es.toList.any (·.refKey) = true := by rw [a]; exact Bool.false_ne_true
    rw [if_neg a']
    exact congrArg some e

theorem ObjM.look {h : Heap} {x dx C : Addr} {mA : Str → Option Value} (I : ObjM h x dx C mA) : ∃ od, PySem.W.InstAt h x (PySem.W.instObj C dx) C (some od) ∧ ∀ name, PySem.W.lookIn name od = some (mA name) :=
  let ⟨od, ho, hl⟩ := lookIn_ns I.ns
  ⟨od, ⟨I.obj, rfl, rfl, ho⟩, hl⟩

section
variable {prog : Program} {w : World} {A : Around} {E : Value → Shared → Prop} {s : Shared} {K : PySem.W.Frag} {x dx C f : Addr} {mA : Str → Option Value} {name : Str} {v : Value}

theorem get_map {expr : Bool} {Q : Value → Shared → Prop} (X : K.In s.heap) (I : ObjM s.heap x dx C mA) (hg : PySem.W.plainGet K C name = true) (hh : PySem.W.hasDictIn K C = true)
    (ha : PySem.W.findIn K (.ref C) name = some none) (hv : mA name = some v) (hv' : PySem.W.handedIn v = true) (h : Q v { s with toks := s.toks + 1 }) :
    wpAny (model prog w) A (getAttr (.ref x) name expr) Q E s := by
  obtain ⟨od, J, hl⟩ := I.look
  exact PySem.W.get_value X J (PySem.W.plainGet_of hg).1 (PySem.W.findObj_own hh ha rfl (by rw [hl, hv])) hv' h

theorem set_map {ns : List Str} {Q : Unit → Shared → Prop} (X : K.In s.heap) (I : ObjM s.heap x dx C mA)
    (hs : PySem.W.findIn K (.ref C) "__setattr__" = some (some (.builtin "object.__setattr__"))) (hp : PySem.W.plainOver K C = true) (ht : PySem.W.takerIn K C name = some none) (hh : PySem.W.hasDictIn K C = true)
    (hw : PySem.Within mA ns) (hsz : ns.length ≤ sizeLine)
    (h : ∀ h', ObjM h' x dx C (fun y => if y = name then some v else mA y) → Heap.SameBut dx s.heap h' → Q () { s with heap := h', toks := s.toks + 2 }) :
    wpAny (model prog w) A (setAttr (.ref x) name v) Q E s := by
  obtain ⟨od, J, hl⟩ := I.look
  refine PySem.W.set_plain X J hs (PySem.W.osa_open (s := { s with toks := s.toks + 1 }) (r := none) X J hp ht fun b => ?_)
  obtain ⟨cd, hc, hd'⟩ := PySem.W.any_some hh
  have hx : s.heap.get? x = some ⟨.ref C, some dx, .plain, #[]⟩ := I.obj
  refine wpAny_bind (wpAny_pure (wpAny_bind (wpAny_bind (wpAny_loadPart hx (wpAny_bind (PySem.W.Looks.here (s := { s with toks := s.toks + 1 }) (PySem.W.looks_clsIn X hc) ?_))))))
  rw [hd']
  refine wpAny_pure (a := some dx) (wpAny_bind (wpAny_pure (wpAny_bind ?_)))
  refine wpAny_nsSet1 (s := { s with toks := s.toks + 1 }) I.ns fun h' hn2 hs2 => ?_
  obtain ⟨oD, esD, epD, hoD, hdD, hcD⟩ := hn2.count (PySem.Within.cons name v hw)
  refine wpAny_bind (wpAny_lookBehind hoD (by rw [hdD]; exact pastItsLine_dict (Nat.le_trans hcD (by rw [List.length_cons]; omega))) ?_)
  exact wpAny_pure (h _ ⟨(hs2.2 _ (Ne.symm I.ne)).trans I.obj, hn2, I.ne⟩ hs2)

/-- C(..): the dict at the heap's end, the instance behind it; then its __init__ -/
theorem make_map {R : Result → Shared → Prop} {vs : List Value} {kw : List (Str × Value)} (X : K.In s.heap) (hm : PySem.W.makesIn K C = true)
    (hi : PySem.W.findIn K (.ref C) "__init__" = some (some (.ref f))) (hf : PySem.W.typeIn K (.ref f) = some (.type "function"))
    (h : codeAny (model prog w) (A.under (.builtin "type.__call__" ⟨.ref C :: vs, kw⟩)) (.call (.ref f) ⟨.ref (s.heap.objs.size + 1) :: vs, kw⟩) (PySem.W.InitBack (s.heap.objs.size + 1) R)
      { s with heap := (s.heap.push PySem.W.emptyDict).push (PySem.W.instObj C s.heap.objs.size) }) :
    codeAny (model prog w) A (.call (.ref C) ⟨vs, kw⟩) R s := by
  obtain ⟨hh, g, d, t, os⟩ := s
  exact PySem.W.make_core (PySem.W.makes_of X hm) (PySem.W.looks_findIn X hi) (fun self => PySem.W.bind_fn X self hf) (.inl rfl) h
end

/-! ### the attributes as a list of pairs -/
def putF (f : Str) (v : V) : List (Str × V) → List (Str × V)
  | [] => [(f, v)]
  | (g, x) :: r => if g = f then (g, v) :: r else (g, x) :: putF f v r
theorem lookup_putF (f g : Str) (v : V) : ∀ fs : List (Str × V), (putF f v fs).lookup g = if g = f then some v else fs.lookup g
  | [] => by
    show List.lookup g [(f, v)] = _
    by_cases h : g = f
    · have hb : (g == f) = true := beq_iff_eq.mpr h
      simp only [List.lookup, hb, if_pos h]
    · have hb : (g == f) = false := beq_eq_false_iff_ne.mpr h
      simp only [List.lookup, hb, if_neg h]
  | (k, x) :: r => by
    have ih := lookup_putF f g v r
    rw [show putF f v ((k, x) :: r) = (if k = f then (k, v) :: r else (k, x) :: putF f v r) from rfl]
    by_cases hk : k = f
    · rw [if_pos hk]
      by_cases h : g = k
      · have hb : (g == k) = true := beq_iff_eq.mpr h
        simp only [List.lookup, hb, if_pos (h.trans hk)]
      · have hb : (g == k) = false := beq_eq_false_iff_ne.mpr h
        simp only [List.lookup, hb, if_neg (fun e : g = f => h (e.trans hk.symm))]
    · rw [if_neg hk]
      by_cases h : g = k
      · have hb : (g == k) = true := beq_iff_eq.mpr h
        simp only [List.lookup, hb, if_neg (fun e : g = f => hk (h.symm.trans e))]
      · have hb : (g == k) = false := beq_eq_false_iff_ne.mpr h
        simp only [List.lookup, hb]
        exact ih
theorem keys_putF (f : Str) (v : V) : ∀ fs : List (Str × V), f ∈ (putF f v fs).map (·.1) ∧ ∀ g, g ∈ fs.map (·.1) → g ∈ (putF f v fs).map (·.1)
  | [] => ⟨by simp [putF], fun g h => by simp at h⟩
  | (k, x) :: r => by
    obtain ⟨i1, i2⟩ := keys_putF f v r
    rw [show putF f v ((k, x) :: r) = (if k = f then (k, v) :: r else (k, x) :: putF f v r) from rfl]
    by_cases hk : k = f
    · rw [if_pos hk]
      subst hk
      exact ⟨by simp, fun g h => by simpa using h⟩
    · rw [if_neg hk]
      refine ⟨?_, fun g h => ?_⟩
      · rw [List.map_cons]
        exact List.mem_cons_of_mem _ i1
      · rw [List.map_cons] at h ⊢
        rcases List.mem_cons.mp h with e | e
        · exact List.mem_cons.mpr (.inl e)
        · exact List.mem_cons_of_mem _ (i2 g e)
theorem length_putF (f : Str) (v : V) : ∀ fs : List (Str × V), (putF f v fs).length ≤ fs.length + 1
  | [] => by simp [putF]
  | (k, x) :: r => by
    have ih := length_putF f v r
    rw [show putF f v ((k, x) :: r) = (if k = f then (k, v) :: r else (k, x) :: putF f v r) from rfl]
    by_cases hk : k = f
    · rw [if_pos hk, List.length_cons, List.length_cons]; omega
    · rw [if_neg hk, List.length_cons, List.length_cons]; omega

theorem RelO.some_of {v : V} {o : Option Value} (r : RelO (some v) o) : ∃ u, o = some u ∧ RelV v u := by
  cases o with
  | none => exact (show False from r).elim
  | some u => exact ⟨u, rfl, r⟩
theorem handed_of {v : V} {u : Value} (r : RelV v u) : PySem.W.handedIn u = true := by
  cases v with
  | non => cases (show u = Value.none from r); rfl
  | bl b => cases (show u = Value.bool b from r); rfl
  | int i => obtain ⟨t, e⟩ := (show ∃ t, u = Value.int i t from r); cases e; rfl
  | str x => obtain ⟨t, e⟩ := (show ∃ t, u = Value.str x t from r); cases e; rfl
  | byt b => obtain ⟨t, e⟩ := (show ∃ t, u = Value.bytes b t from r); cases e; rfl
  | flt b => obtain ⟨t, e⟩ := (show ∃ t, u = Value.float b t from r); cases e; rfl
  | ref a => cases (show u = Value.ref a from r); rfl
  | ty n => cases (show u = Value.type n from r); rfl

section
variable {P : Program} {w : World} {H H' : Hp} {h h' : Heap} {a C dx : Addr} {fs fs' : List (Str × V)}
theorem ins_get (hok : HOk P w H h) (e : H a = some (.ins C dx fs)) : ∃ mA, ObjM h a dx C mA ∧ (∀ f, RelO (fs.lookup f) (mA f)) ∧ PySem.Within mA (fs.map (·.1)) ∧ fs.length ≤ 1000 ∧ H dx = some (.own a) := by
  obtain ⟨d, z, ne, ob, mA, n, r, q⟩ := (show ObjOk P w H h a (.ins C dx fs) from hok a _ e)
  exact ⟨mA, ⟨ob, n, ne⟩, r, q, z, d⟩
end

/-! ### what of the text a class must have -/
structure Cls (K : PySem.W.Frag) (C : Addr) : Prop where
  pg : PySem.W.plainGet K C Str.empty = true
  hd : PySem.W.hasDictIn K C = true
  po : PySem.W.plainOver K C = true
  sa : PySem.W.findIn K (.ref C) "__setattr__" = some (some (.builtin "object.__setattr__"))
theorem Cls.get {K : PySem.W.Frag} {C : Addr} (c : Cls K C) (f : Str) : PySem.W.plainGet K C f = true := c.pg
/-- no class of it has the name -/
def NoAttr (K : PySem.W.Frag) (C : Addr) (f : Str) : Prop := PySem.W.findIn K (.ref C) f = some none
theorem NoAttr.taker {K : PySem.W.Frag} {C : Addr} {f : Str} (n : NoAttr K C f) : PySem.W.takerIn K C f = some none := by
  unfold PySem.W.takerIn
  rw [show PySem.W.findIn K (.ref C) f = some none from n]
  rfl

section
variable {X : Cx} {pins : List (Addr × Obj)} {σ : St} {H : Hp} {s : Shared} {a C dx : Addr} {fs : List (Str × V)} {f : Str} {v : V} {A : Around} {E : Value → Shared → Prop}

theorem getattr_ok {b : Bool} {Q : Value → Shared → Prop} (I : Inv X pins σ H s) (e : H a = some (.ins C dx fs)) (c : Cls X.K C) (n : NoAttr X.K C f) (l : fs.lookup f = some v)
    (h : ∀ u s', Inv X pins σ H s' → RelV v u → Q u s') : wpAny (model X.prog X.w) A (getAttr (.ref a) f b) Q E s := by
  obtain ⟨mA, O, r, _, _, _⟩ := ins_get I.hok e
  obtain ⟨u, hu, ru⟩ := RelO.some_of (v := v) (o := mA f) (by rw [← l]; exact r f)
  exact get_map I.kIn O (c.get f) c.hd n hu (handed_of ru) (h u _ (I.tok _) ru)

theorem setattr_ok {y : V} {u : Value} {Q : Unit → Shared → Prop} (I : Inv X pins σ H s) (e : H a = some (.ins C dx fs)) (c : Cls X.K C) (n : NoAttr X.K C f) (hl : fs.length < 1000) (ry : RelV y u)
    (h : ∀ s', Inv X pins σ (upd H a (.ins C dx (putF f y fs))) s' → Q () s') : wpAny (model X.prog X.w) A (setAttr (.ref a) f u) Q E s := by
  obtain ⟨mA, O, r, wi, _, ho⟩ := ins_get I.hok e
  have hz : (fs.map (·.1)).length ≤ sizeLine := by rw [List.length_map, sizeLine_eq]; omega
  refine set_map I.kIn O c.sa c.po n.taker c.hd wi hz fun h' O' sb => h _ ?_
  have hd : ∃ o, h'.get? dx = some o := let ⟨o, _, _, e', _⟩ := O'.ns; ⟨o, e'⟩
  refine I.write (x := a) (e := dx) (by rw [e]; exact True.intro) (.inr ho) (fun b q hb z => (sb.2 b hb).trans z) hd ?_
  refine ⟨by rw [upd_ne O.ne]; exact ho, ?_, O.ne, O'.obj, _, O'.ns, fun g => ?_, fun g hg => ?_⟩
  · have := length_putF f y fs; omega
  · show RelO ((putF f y fs).lookup g) (if g = f then some u else mA g)
    rw [lookup_putF]
    by_cases q : g = f
    · rw [if_pos q, if_pos q]; exact ry
    · rw [if_neg q, if_neg q]; exact r g
  · by_cases q : g = f
    · rw [q]; exact (keys_putF f y fs).1
    · refine (keys_putF f y fs).2 g (wi g fun z => hg ?_)
      show (if g = f then some u else mA g) = none
      rw [if_neg q]; exact z

/-- a new instance, tracked, without attributes -/
theorem Inv.made (I : Inv X pins σ H s) : Inv X pins σ (upd (upd H s.heap.objs.size (.own (s.heap.objs.size + 1))) (s.heap.objs.size + 1) (.ins C s.heap.objs.size []))
    { s with heap := (s.heap.push PySem.W.emptyDict).push (PySem.W.instObj C s.heap.objs.size) } := by
  have e1 : (s.heap.push PySem.W.emptyDict).get? s.heap.objs.size = some PySem.W.emptyDict := Heap.get?_push_size s.heap rfl
  have e2 : ((s.heap.push PySem.W.emptyDict).push (PySem.W.instObj C s.heap.objs.size)).get? (s.heap.objs.size + 1) = some (PySem.W.instObj C s.heap.objs.size) := by
    have := Heap.get?_push_size (s.heap.push PySem.W.emptyDict) (o := PySem.W.instObj C s.heap.objs.size) rfl
    rwa [Heap.size_push] at this
  have e3 : (s.heap.push PySem.W.emptyDict).Ns s.heap.objs.size (fun _ => none) := ⟨PySem.W.emptyDict, #[], _, e1, rfl, (fun e he => absurd he (by simp)), fun _ => rfl⟩
  have I1 := I.laid (a := s.heap.objs.size) (o := .own (s.heap.objs.size + 1)) (h' := s.heap.push PySem.W.emptyDict) (t' := s.toks) (fun b u q => Heap.get?_push_of_some _ q) (Nat.le_refl _) ⟨_, e1⟩
  refine I1.laid (a := s.heap.objs.size + 1) (o := .ins C s.heap.objs.size []) (t' := s.toks) (fun b u q => Heap.get?_push_of_some _ q) (Nat.le_of_eq (Heap.size_push _ _)) ?_
  have ne : s.heap.objs.size ≠ s.heap.objs.size + 1 := Nat.ne_of_lt (Nat.lt_succ_self _)
  refine ⟨by rw [upd_ne ne, upd_same], Nat.zero_le _, ne, e2, fun _ => none, (Heap.Ns1.of_empty e3).at fun o q => Heap.get?_push_of_some _ q, fun _ => True.intro, fun y hy => absurd rfl hy⟩

/-- e.f where nothing but the object is asked: through attributeBase (super) and the last hold -/
theorem attr_of {prog : Program} {w : World} {env : Env} {e : Expr} {f : Str} {pos : Pos} {s : Shared} {Q : Value → Shared → Prop} (hb : attributeBase e f env (eval e env) = eval e env)
    (h : wpAny (model prog w) A (eval e env) (fun o s₁ => wpAny (model prog w) A (getAttr o f true) Q E s₁) E s) : wpAny (model prog w) A (eval (.Attribute e f pos) env) Q E s :=
  Attribute_any_ h (by rw [arm_eval_Attribute, hb])
end

/-! ### readings and rules -/
/-- e.f, an attribute of the instance -/
inductive FldAt (K : PySem.W.Frag) (f : Str) (x : V) (H1 : Hp) (Q : VK) : Prop
  | mk (a C dx : Addr) (fs : List (Str × V)) (v : V) (e : x = .ref a) (h : H1 a = some (.ins C dx fs)) (c : Cls K C) (n : NoAttr K C f) (l : fs.lookup f = some v) (q : Q v H1) : FldAt K f x H1 Q
def tFld (K : PySem.W.Frag) (ta : TE) (f : Str) : TE := fun σ H Q => ta σ H fun x H1 => FldAt K f x H1 Q
/-- e.f = value -/
def sFld (K : PySem.W.Frag) (ta tv : TE) (f : Str) : TS := fun D σ H => tv σ H fun y H1 => ta σ H1 fun x H2 => ∃ a C dx fs, x = .ref a ∧ H2 a = some (.ins C dx fs) ∧ Cls K C ∧ NoAttr K C f ∧ fs.length < 1000 ∧
  D.nx σ (upd H2 a (.ins C dx (putF f y fs)))

section
variable {X : Cx} {o e value : Expr} {f : Str} {pos pos' tpos : Pos} {ta tv : TE}
theorem pe_fld (he : PE X e ta) (hb : attributeBase e f X.env (eval e X.env) = eval e X.env) : PE X (.Attribute e f pos) (tFld X.K ta f) := by
  intro pins s σ H Q I h
  refine attr_of hb (thn (he pins s σ H _ I h) fun u s1 ⟨x, H1, I1, rx, a, C, dx, fs, v, ex, ea, c, n, l, q⟩ => ?_)
  subst ex
  obtain rfl : u = Value.ref a := rx
  exact getattr_ok I1 ea c n l fun u' s2 I2 ru => ⟨v, H1, I2, ru, q⟩
theorem ps_fld (ha : PE X o ta) (hv : PE X value tv) (hs : swapsWith value (some (.Attribute o f pos')) pos.line X.env = pure false) : PS X (.Assign [.Attribute o f pos'] value pos) (sFld X.K ta tv f) := by
  intro pins s σ H D I h
  refine plainObj_wpAny_Assign_Attribute (thn (hv pins s σ H _ I h) fun u s1 ⟨y, H1, I1, ry, q⟩ => thn (ha pins s1 σ H1 _ I1 q) fun ov s2 ⟨x, H2, I2, rx, a, C, dx, fs, ex, ea, c, n, l, q2⟩ => ?_) hs
  subst ex
  obtain rfl : ov = Value.ref a := rx
  exact setattr_ok I2 ea c n l ry fun s3 I3 => ⟨σ, _, I3, q2⟩

end

/-! ### isinstance -/
section
variable {X : Cx} {pins : List (Addr × Obj)} {σ : St} {H : Hp} {s : Shared} {A : Around} {E : Value → Shared → Prop} {Q : Value → Shared → Prop} {c : Value} {b : Bool}
end
end L2

namespace L2
open PySem PySem.Spec PyProof.Rows

/-! ### room -/
structure Room (k : Nat) (A : Around) : Prop where
  hd : A.handled = none
  dp : A.depth + 3 * k + 5 < recursionLimit
  un : A.units + 16 * k + 200 < cLine
theorem Room.mono {j k : Nat} {A : Around} (r : Room k A) (h : j ≤ k) : Room j A := ⟨r.hd, by have := r.dp; omega, by have := r.un; omega⟩
theorem Room.deeper {k : Nat} {A : Around} (r : Room (k + 1) A) (env : Env) : Room k (A.deeper env) :=
  ⟨r.hd, by have := r.dp; show A.depth + 1 + 3 * k + 5 < _; omega, by have := r.un; show A.units + 3 + 16 * k + 200 < _; omega⟩
theorem make_depth {A : Around} {C : Addr} {us : List Value} {kw : List (Str × Value)} : (A.under (.builtin "type.__call__" ⟨.ref C :: us, kw⟩)).depth = A.depth + 1 := by
  first | rfl | simp [Around.under, Code.weight, Code.isCreation, Code.isGuard, Code.isCaller, Code.frames, Code.isFrame, guardIds]
theorem make_units {A : Around} {C : Addr} {us : List Value} {kw : List (Str × Value)} : (A.under (.builtin "type.__call__" ⟨.ref C :: us, kw⟩)).units = A.units + 1 := by
  first | rfl | simp [Around.under, Code.cUnits, Code.frames, Code.isFrame]
theorem Room.make {k : Nat} {A : Around} (r : Room (k + 1) A) (C : Addr) (us : List Value) (kw : List (Str × Value)) : Room k (A.under (.builtin "type.__call__" ⟨.ref C :: us, kw⟩)) :=
  ⟨r.hd, by have := r.dp; rw [make_depth]; omega, by have := r.un; rw [make_units]; omega⟩
theorem Room.depth {k : Nat} {A : Around} (r : Room k A) : A.depth < recursionLimit := by have := r.dp; omega
theorem Room.units {k : Nat} {A : Around} (r : Room k A) : A.units + 64 < cLine := by have := r.un; omega

/-! ### argument lists and displays -/
@[reducible] def tNil : TA := fun _ H Q => Q [] H
@[reducible] def tCons (ta : TE) (tr : TA) : TA := fun σ H Q => ta σ H fun x H1 => tr σ H1 fun xs H2 => Q (x :: xs) H2
section
variable {X : Cx} {e : Expr} {es : List Expr} {te : TE} {t : TA} {pos : Pos}
theorem pa_nil : PA X [] tNil := fun _ _ _ _ H Q I h => Calls.spliced_nil ⟨[], H, I, .nil, h⟩
theorem pa_cons (ha : PE X e te) (hr : PA X es t) (hs : starEach (e :: es) X.env = (false, eval e X.env) :: starEach es X.env := by rfl) : PA X (e :: es) (tCons te t) := by
  intro pos pins s σ H Q I h
  rw [hs]
  show wpAny _ _ (spliced ((false, eval e X.env) :: backTo pos (starEach es X.env))) _ _ s
  refine Calls.spliced_cons (thn (ha pins s σ H _ I h) fun u s1 ⟨x, H1, I1, r1, q1⟩ => ?_)
  exact thn (hr pos pins s1 σ H1 _ I1 q1) fun us s2 ⟨xs, H2, I2, r2, q2⟩ => ⟨x :: xs, H2, I2, .cons r1 r2, q2⟩

/-- a tuple, a list of written items -/
@[reducible] def tTup (t : TA) : TE := fun σ H Q => t σ H fun xs H1 => xs.length ≤ sizeLine ∧ ∀ p, H1 p = none → Q (.ref p) (upd H1 p (.tup xs))
@[reducible] def tLst (t : TA) : TE := fun σ H Q => t σ H fun xs H1 => xs.length ≤ sizeLine ∧ ∀ p, H1 p = none → Q (.ref p) (upd H1 p (.lst xs))
theorem pe_tup {x1} (h : PA X es t) : PE X (.Tuple es x1 pos) (tTup t) := by
  intro pins s σ H Q I hq
  refine wpAny_Tuple_spliced (thn (h pos pins s σ H _ I hq) fun us s1 ⟨xs, H1, I1, r, z, q⟩ => ⟨by rw [← r.length]; exact z, ?_⟩)
  have hf : H1 s1.heap.objs.size = none := I1.hok.fresh (Nat.le_refl _)
  refine ⟨.ref s1.heap.objs.size, upd H1 s1.heap.objs.size (.tup xs), I1.laid (t' := s1.toks) (fun b u e => Heap.get?_push_of_some _ e) (Nat.le_refl _) ?_, rfl, q _ hf⟩
  exact ⟨z, us, r, ⟨_, Heap.get?_push_size _ rfl, rfl, _, rfl⟩⟩
theorem pe_lst (h : PA X es t) : PE X (.List es pos) (tLst t) := by
  intro pins s σ H Q I hq
  refine wpAny_List_spliced (thn (h pos pins s σ H _ I hq) fun us s1 ⟨xs, H1, I1, r, z, q⟩ => ⟨by rw [← r.length]; exact z, ?_⟩)
  have hf : H1 s1.heap.objs.size = none := I1.hok.fresh (Nat.le_refl _)
  refine ⟨.ref s1.heap.objs.size, upd H1 s1.heap.objs.size (.lst xs), I1.laid (t' := s1.toks) (fun b u e => Heap.get?_push_of_some _ e) (Nat.le_refl _) ?_, rfl, q _ hf⟩
  exact ⟨z, us, 0, r, Heap.get?_push_size _ rfl⟩
end

/-! ### what a def promises -/
/-- a def's promise: the bound arguments in the parameters' order, the heap, the wanted end, the wanted exception -/
abbrev Sp := List V → Hp → VK → XK → Prop
/-- how an exception lies behind a call (file 08 gives it): the callers' frames, abstract heap and state ahead of the call, the wish, the exception, the state -/
abbrev CXT := List Env → Hp → Shared → XK → Value → Shared → Prop

/-- the state at a call -/
structure Env0 (P : Program) (w : World) (K : PySem.W.Frag) (mg : Str → Option Value) (base : Heap) (A : Around) (outer : List Env) (s : Shared) (H : Hp) : Prop where
  frames : A.frames = some outer
  mod : Mod K mg base
  bs : ∀ b o, base.get? b = some o → s.heap.get? b = some o ∧ H b = none
  bsz : base.objs.size ≤ s.heap.objs.size
  funs : s.heap.FunFrames base outer
  frf : ∀ b ∈ frs outer, H b = none
  hok : HOk P w H s.heap
  bare : AllBare s.gens
/-- a call's end -/
def CE (outer : List Env) (P : Program) (w : World) (H : Hp) (s : Shared) (Q : VK) (u : Value) (s' : Shared) : Prop :=
  ∃ v H', s'.os = s.os ∧ AllBare s'.gens ∧ Un (frs outer) [] H H' s.heap s'.heap ∧ HOk P w H' s'.heap ∧ RelV v u ∧ Q v H'
def CR (CX : CXT) (outer : List Env) (P : Program) (w : World) (H : Hp) (s : Shared) (Q : VK) (E : XK) (r : Result) (s' : Shared) : Prop :=
  match r with
  | .ok (.ret u) => CE outer P w H s Q u s'
  | .ok _ => False
  | .error e => CX outer H s E e s'
structure FnOk (P : Program) (w : World) (K : PySem.W.Frag) (mg : Str → Option Value) (base : Heap) (CX : CXT) (k : Nat) (f : Addr) (fd : FuncData) (ps : List Str) (sp : Sp) : Prop where
  len : ∀ vs H Q E, sp vs H Q E → vs.length = ps.length
  run : ∀ (A : Around) (outer : List Env) (s : Shared) (H : Hp) (args : Args) (us : List Value) (vs : List V) (Q : VK) (E : XK), Room k A → Env0 P w K mg base A outer s H → BindsTo s fd args (ps.zip us) → Vals vs us → sp vs H Q E →
    codeAny (model P w) A (.call (.ref f) args) (CR CX outer P w H s Q E) s

theorem Env0.make {P : Program} {w : World} {K : PySem.W.Frag} {mg : Str → Option Value} {base : Heap} {A : Around} {outer : List Env} {s : Shared} {H : Hp} (e : Env0 P w K mg base A outer s H) (C : Addr) (us : List Value) (kw : List (Str × Value)) :
    Env0 P w K mg base (A.under (.builtin "type.__call__" ⟨.ref C :: us, kw⟩)) outer s H := ⟨by first | exact e.frames | (simpa [Around.under, Code.envs, Code.isFrame, pushEnvs] using e.frames), e.mod, e.bs, e.bsz, e.funs, e.frf, e.hok, e.bare⟩

section
variable {X : Cx} {pins : List (Addr × Obj)} {σ : St} {H : Hp} {s s' : Shared}
/-- from a body: what a callee wants -/
theorem Inv.env0 (I : Inv X pins σ H s) : Env0 X.prog X.w X.K X.mg X.base X.A X.stack s H :=
  ⟨I.ok.frames, I.ok.mod, I.bs, Nat.le_trans I.ok.bsz I.sz, I.stack, I.stkFree, I.hok, I.bare⟩
/-- behind a call -/
theorem Inv.after {Q : VK} {u : Value} (I : Inv X pins σ H s) (h : CE X.stack X.prog X.w H s Q u s') : EP X pins σ Q u s' := by
  obtain ⟨v, H', os, bare, un, hok, r, q⟩ := h
  obtain ⟨hh, g, d, t, os'⟩ := s'
  obtain rfl : os' = s.os := os
  exact ⟨v, H', I.call (h' := hh) (g' := g) (d' := d) (t' := t) (ch := []) un hok bare (fun b z => absurd z (by simp)), r, q⟩
end

/-! ### calls -/
/-- f(..): the written arguments, then the defaults dvs; E: what is wanted of an exception -/
@[reducible] def tCall (sp : Sp) (dvs : List V) (E : XK) (t : TA) : TE := fun σ H Q => t σ H fun vs H1 => sp (vs ++ dvs) H1 Q E
/-- C(..): a new instance and its dict, then __init__ -/
@[reducible] def tMake (C : Addr) (sp : Sp) (dvs : List V) (E : XK) (t : TA) : TE := fun σ H Q => t σ H fun vs H1 => ∀ x dx, H1 x = none → H1 dx = none → dx ≠ x →
  sp (.ref x :: (vs ++ dvs)) (upd (upd H1 dx (.own x)) x (.ins C dx [])) (fun v H2 => v = .non ∧ Q (.ref x) H2) E

/-- how the parameters are bound: us the positional arguments, kw the keywords' values by name, ds the defaults that fill up -/
def Binds (K : PySem.W.Frag) (fd : FuncData) (ps : List Str) (ds : List Value) : Prop :=
  ∀ (s : Shared) (us : List Value), K.In s.heap → (us ++ ds).length = ps.length → BindsTo s fd ⟨us, []⟩ (ps.zip (us ++ ds))
/-- every parameter is given -/
theorem Binds.all {K : PySem.W.Frag} {fd : FuncData} {ps : List Str} (h : ∀ us : List Value, us.length = ps.length → bindArgs fd ⟨us, []⟩ = pure (ps.zip us)) : Binds K fd ps [] := fun s us _ hl => by
  rw [List.append_nil] at hl ⊢
  exact .of_eq (h us hl)

/-- an exception of a callee reaches what this body wants of exceptions -/
def Passes (CX : CXT) (X : Cx) (E : XK) : Prop := ∀ (pins : List (Addr × Obj)) (σ : St) (H : Hp) (s : Shared) (e : Value) (s' : Shared), Inv X pins σ H s → CX X.stack H s E e s' → X.xe e s'

section
variable {X : Cx} {CX : CXT} {k : Nat} {f C : Addr} {fd : FuncData} {ps : List Str} {sp : Sp} {dvs : List V} {ds : List Value} {E : XK} {x m : Str} {p pos apos : Pos} {e o : Expr} {es : List Expr} {ta : TE} {t : TA}

/-- the callee runs -/
theorem run_fn {pins : List (Addr × Obj)} {σ : St} {H : Hp} {s : Shared} {Q : VK} {us : List Value} {vs : List V} (F : FnOk X.prog X.w X.K X.mg X.base CX k f fd ps sp) (hr : Room k X.A) (hb : Binds X.K fd ps ds) (hd : Vals dvs ds) (hx : Passes CX X E)
    (I : Inv X pins σ H s) (r : Vals vs us) (h : sp (vs ++ dvs) H Q E) : wpAny (model X.prog X.w) X.A (call (.ref f) us) (EP X pins σ Q) X.xe s := by
  have r2 : Vals (vs ++ dvs) (us ++ ds) := r.append hd
  have hl : (us ++ ds).length = ps.length := by rw [← r2.length]; exact F.len _ _ _ _ h
  refine wpAny_call (codeAny_mono (F.run X.A X.stack s H ⟨us, []⟩ (us ++ ds) (vs ++ dvs) Q E hr I.env0 (hb s us I.kIn hl) r2 h) fun r s' hq => ?_)
  cases r with
  | error e => exact hx pins σ H s e s' I hq
  | ok fl =>
    cases fl with
    | ret u => exact I.after hq
    | next => exact False.elim hq
    | brk => exact False.elim hq
    | cont => exact False.elim hq

theorem pe_call (F : FnOk X.prog X.w X.K X.mg X.base CX k f fd ps sp) (hr : Room k X.A) (hg : Gl X x) (hm : X.mg x = some (.ref f)) (hk : PySem.W.keepIn X.K (.ref f) = true) (hb : Binds X.K fd ps ds) (hd : Vals dvs ds) (hx : Passes CX X E)
    (ha : PA X (e :: es) t) (hdb : (x == ("__debug__" : Str)) = false := by decide) (he : starEach (e :: es) X.env = (false, eval e X.env) :: starEach es X.env := by rfl) (hpl : (backTo pos (starEach es X.env)).any (·.1) = false := by rfl) :
    PE X (.Call (.Name x p) (e :: es) [] pos) (tCall sp dvs E t) := by
  intro pins s σ H Q I h
  refine wpAny_Call_Name_kw (ld_glob I hg hm ?_ hdb)
  refine PySem.W.callWith_K (h₀ := X.base) I.ok.mod.kin hk (thn (ha pos pins s σ H _ I h) fun us s1 ⟨vs, H1, I1, r, q⟩ => ⟨I1.kIn, ?_⟩) he hpl
  exact run_fn F hr hb hd hx I1 r q

/-- what a class must have to be made -/
structure Mk (K : PySem.W.Frag) (C f : Addr) : Prop where
  makes : PySem.W.makesIn K C = true
  init : PySem.W.findIn K (.ref C) "__init__" = some (some (.ref f))
  fn : PySem.W.isFn K (.ref f) = true
  kp : PySem.W.keepIn K (.ref C) = true

theorem run_make {pins : List (Addr × Obj)} {σ : St} {H : Hp} {s : Shared} {Q : VK} {us : List Value} {vs : List V} (M : Mk X.K C f) (F : FnOk X.prog X.w X.K X.mg X.base CX k f fd ps sp) (hr : Room (k + 1) X.A) (hb : Binds X.K fd ps ds) (hd : Vals dvs ds)
    (hx : Passes CX X E) (I : Inv X pins σ H s) (r : Vals vs us)
    (h : ∀ x dx, H x = none → H dx = none → dx ≠ x → sp (.ref x :: (vs ++ dvs)) (upd (upd H dx (.own x)) x (.ins C dx [])) (fun v H2 => v = .non ∧ Q (.ref x) H2) E) :
    wpAny (model X.prog X.w) X.A (call (.ref C) us) (EP X pins σ Q) X.xe s := by
  have hq := h (s.heap.objs.size + 1) s.heap.objs.size (I.hok.fresh (Nat.le_succ _)) (I.hok.fresh (Nat.le_refl _)) (Nat.ne_of_lt (Nat.lt_succ_self _))
  have I2 := Inv.made (C := C) I
  have r2 : Vals (V.ref (s.heap.objs.size + 1) :: (vs ++ dvs)) (Value.ref (s.heap.objs.size + 1) :: (us ++ ds)) := .cons rfl (r.append hd)
  have hl : (Value.ref (s.heap.objs.size + 1) :: us ++ ds).length = ps.length := by
    have e := r2.length
    rw [F.len _ _ _ _ hq] at e
    exact e.symm
  refine wpAny_call (make_map (f := f) I.kIn M.makes M.init (beq_iff_eq.mp M.fn) (codeAny_mono (F.run _ X.stack _ _ ⟨Value.ref (s.heap.objs.size + 1) :: us, []⟩ (Value.ref (s.heap.objs.size + 1) :: (us ++ ds)) _ _ E (hr.make C us [])
    (I2.env0.make C us []) (hb _ (Value.ref (s.heap.objs.size + 1) :: us) I2.kIn hl) r2 hq) fun r s' hq' => ?_))
  cases r with
  | error e => exact hx pins σ _ _ e s' I2 hq'
  | ok fl =>
    cases fl with
    | ret u =>
      obtain ⟨v, H', I3, rv, ev, q3⟩ := I2.after hq'
      subst ev
      exact ⟨rv, ⟨V.ref (s.heap.objs.size + 1), H', I3, rfl, q3⟩⟩
    | next => exact False.elim hq'
    | brk => exact False.elim hq'
    | cont => exact False.elim hq'
theorem pe_make (M : Mk X.K C f) (F : FnOk X.prog X.w X.K X.mg X.base CX k f fd ps sp) (hr : Room (k + 1) X.A) (hg : Gl X x) (hm : X.mg x = some (.ref C)) (hb : Binds X.K fd ps ds) (hd : Vals dvs ds) (hx : Passes CX X E)
    (ha : PA X (e :: es) t) (hdb : (x == ("__debug__" : Str)) = false := by decide) (he : starEach (e :: es) X.env = (false, eval e X.env) :: starEach es X.env := by rfl) (hpl : (backTo pos (starEach es X.env)).any (·.1) = false := by rfl) :
    PE X (.Call (.Name x p) (e :: es) [] pos) (tMake C sp dvs E t) := by
  intro pins s σ H Q I h
  refine wpAny_Call_Name_kw (ld_glob I hg hm ?_ hdb)
  refine PySem.W.callWith_K (h₀ := X.base) I.ok.mod.kin M.kp (thn (ha pos pins s σ H _ I h) fun us s1 ⟨vs, H1, I1, r, q⟩ => ⟨I1.kIn, ?_⟩) he hpl
  exact run_make M F hr hb hd hx I1 r q
theorem pe_make0 (M : Mk X.K C f) (F : FnOk X.prog X.w X.K X.mg X.base CX k f fd ps sp) (hr : Room (k + 1) X.A) (hg : Gl X x) (hm : X.mg x = some (.ref C)) (hb : Binds X.K fd ps ds) (hd : Vals dvs ds) (hx : Passes CX X E)
    (hdb : (x == ("__debug__" : Str)) = false := by decide) : PE X (.Call (.Name x p) [] [] pos) (tMake C sp dvs E tNil) := by
  intro pins s σ H Q I h
  refine wpAny_Call_Name_kw (ld_glob I hg hm ?_ hdb)
  exact PySem.W.callWith_K0 I.kIn M.kp (run_make (us := []) M F hr hb hd hx I .nil h)
end

/-! ### keywords -/
section
variable {X : Cx} {CX : CXT} {k : Nat} {f C : Addr} {fd : FuncData} {ps ks : List Str} {sp : Sp} {E : XK} {x m : Str} {p pos apos kpos : Pos} {e o : Expr} {es : List Expr} {kws : List Keyword} {te ta : TE} {t tk : TA} {nm : Option Str}

variable {g : List Value → List Value → List Value} {gV : List V → List V → List V}
end

/-! ### a def's body keeps its promise -/
/-- names: the parameters first -/
structure FnScope (N P : List Str) (sc : Scope) : Prop where
  kind : sc.kind = .function
  co : sc.isCoroutine = false
  gen : sc.isGenerator = false
  nd : N.Nodup
  pre : N.take P.length = P
  par : ∀ x ∈ P, sc.names.lookup x = some .local ∨ sc.names.lookup x = some .cell
  nofree : ∀ y ∈ sc.names, y.2 ≠ .free

theorem bindL_out {kindOf : Str → Option NameKind} {x : Str} : ∀ {binds : List (Str × Value)} {m : Str → Option Value}, (∀ v, (x, v) ∉ binds) → bindL kindOf binds m x = m x
  | [], _, _ => rfl
  | (n, v) :: r, m, h => by
    unfold bindL
    rw [bindL_out fun w hw => h w (List.mem_cons_of_mem _ hw)]
    split
    · have : x ≠ n := by rintro rfl; exact h v List.mem_cons_self
      simp [this]
    · rfl
theorem bindC_out {kindOf : Str → Option NameKind} {x : Str} : ∀ {binds : List (Str × Value)} {m : Str → Option Value}, (∀ v, (x, v) ∉ binds) → bindC kindOf binds m x = m x
  | [], _, _ => rfl
  | (n, v) :: r, m, h => by
    unfold bindC
    rw [bindC_out fun w hw => h w (List.mem_cons_of_mem _ hw)]
    split
    · rfl
    · have : x ≠ n := by rintro rfl; exact h v List.mem_cons_self
      simp [this]
theorem bindL_get {kindOf : Str → Option NameKind} {x : Str} {v : Value} : ∀ {P : List Str} {vs : List Value} {i : Nat} {m : Str → Option Value}, P.Nodup → P[i]? = some x → vs[i]? = some v → kindOf x = some .local →
    bindL kindOf (P.zip vs) m x = some v
  | [], _, _, _, _, h, _, _ => by simp at h
  | _ :: _, [], _, _, _, _, h, _ => by simp at h
  | p :: P, w :: vs, 0, m, nd, h1, h2, hk => by
    simp at h1 h2; subst h1; subst h2
    show bindL kindOf ((p, w) :: P.zip vs) m p = _
    unfold bindL
    rw [bindL_out fun v hv => (List.nodup_cons.mp nd).1 (List.of_mem_zip hv).1, if_pos hk]
    simp
  | p :: P, w :: vs, i + 1, m, nd, h1, h2, hk => by
    show bindL kindOf ((p, w) :: P.zip vs) m x = _
    unfold bindL
    exact bindL_get (i := i) (List.nodup_cons.mp nd).2 (by simpa using h1) (by simpa using h2) hk
theorem bindC_get {kindOf : Str → Option NameKind} {x : Str} {v : Value} : ∀ {P : List Str} {vs : List Value} {i : Nat} {m : Str → Option Value}, P.Nodup → P[i]? = some x → vs[i]? = some v → kindOf x ≠ some .local →
    bindC kindOf (P.zip vs) m x = some v
  | [], _, _, _, _, h, _, _ => by simp at h
  | _ :: _, [], _, _, _, _, h, _ => by simp at h
  | p :: P, w :: vs, 0, m, nd, h1, h2, hk => by
    simp at h1 h2; subst h1; subst h2
    show bindC kindOf ((p, w) :: P.zip vs) m p = _
    unfold bindC
    rw [bindC_out fun v hv => (List.nodup_cons.mp nd).1 (List.of_mem_zip hv).1, if_neg hk]
    simp
  | p :: P, w :: vs, i + 1, m, nd, h1, h2, hk => by
    show bindC kindOf ((p, w) :: P.zip vs) m x = _
    unfold bindC
    exact bindC_get (i := i) (List.nodup_cons.mp nd).2 (by simpa using h1) (by simpa using h2) hk

/-- the names' values at the entry -/
def start (N : List Str) (vs : List V) : St := vs.map some ++ List.replicate (N.length - vs.length) none

/-- the context of a def's body, at its entry; an exception leaves the frame, then lies as CX says -/
def cxOf (CX : CXT) (P : Program) (w : World) (K : PySem.W.Frag) (mg : Str → Option Value) (base : Heap) (N : List Str) (qual : Str) (scope : Scope) (f : Addr) (cd : Value) (A : Around) (outer : List Env) (s : Shared) (H : Hp) (E : XK) : Cx where
  prog := P
  w := w
  K := K
  mg := mg
  base := base
  A := A.deeper (envOfC qual scope s.heap.objs.size f cd)
  N := N
  s_0 := s
  H_0 := H
  env := envOfC qual scope s.heap.objs.size f cd
  outer := outer
  stack := envOfC qual scope s.heap.objs.size f cd :: outer
  ex := []
  calm := true
  fn := fun _ => true
  pn := []
  xe := fun e s' => wpAny (model P w) (A.deeper (envOfC qual scope s.heap.objs.size f cd)) (leaving (envOfC qual scope s.heap.objs.size f cd) e) (fun _ s'' => CX outer H s E e s'') (fun e' s'' => CX outer H s E e' s'') s'

theorem cell_has {sc : Scope} {n : Nat} {x : Str} (h : sc.names.lookup x = some .cell) : ∃ c, (cellsFrom n sc.names []).lookup x = some c := by
  have q := PySem.W.cellsFrom_some sc.names n [] (.inl h)
  exact Option.isSome_iff_exists.mp q

theorem inv_start {CX : CXT} {P : Program} {w : World} {K : PySem.W.Frag} {mg : Str → Option Value} {base : Heap} {N ps : List Str} {qual : Str} {scope : Scope} {f : Addr} {cd : Value} {A : Around} {outer : List Env} {s s1 : Shared} {H : Hp} {E : XK} {us : List Value} {vs : List V}
    (S : FnScope N ps scope) (hd : A.handled = none) (e0 : Env0 P w K mg base A outer s H) (hl : vs.length = ps.length) (r : Vals vs us)
    (x : InCallC s s.heap.objs.size (bindL (envOfC qual scope s.heap.objs.size f cd).kindOf (ps.zip us) fun _ => none) (cellsFrom (s.heap.objs.size + 1) scope.names []) (bindC (envOfC qual scope s.heap.objs.size f cd).kindOf (ps.zip us) fun _ => none) s1) :
    Inv (cxOf CX P w K mg base N qual scope f cd A outer s H E) [] (start N vs) H s1 := by
  have hpl : ps.length ≤ N.length := by have := congrArg List.length S.pre; rw [List.length_take] at this; omega
  obtain ⟨h1, tk, rfl, hk⟩ := x.done
  have noA : ∀ b : Addr, b ∉ (cxOf CX P w K mg base N qual scope f cd A outer s H E).ex := fun b z => absurd (show b ∈ ([] : List Addr) from z) (by simp)
  refine ⟨⟨e0.mod, S.kind, rfl, rfl, Nat.le_refl _, fun y z c h1 h2 => ?_, fun y hy => ?_, fun y c _ h => ?_, fun _ => hd, Around.frames_deeper e0.frames, .inr ⟨rfl, rfl⟩, fun b z => absurd z (noA b), e0.bs, e0.bsz, fun b _ _ => noA b, fun b z => absurd z (noA b), e0.funs, e0.frf⟩,
    rfl, e0.bare, Un.kept hk, ⟨_, x.toInCall.ns, fun i y v h1 h2 h3 => ?_⟩, fun y c h => ⟨_, x.cell y c h⟩, e0.hok.fresh (Nat.le_refl _), fun y c h => ?_, fun p hp => absurd (show p ∈ ([] : List (Addr × Obj)) from hp) (by simp), e0.hok.kept hk, ?_⟩
  · exact name_of_addr x.apart (PySem.mem_of_lookup h1) (PySem.mem_of_lookup h2)
  · have hy : scope.names.lookup y = some .cell ∨ scope.names.lookup y = some .free := hy
    rcases hy with hy | hy
    · exact cell_has hy
    · exact absurd rfl (S.nofree _ (PySem.mem_of_lookup hy))
  · exact Nat.le_of_lt (x.above y c (PySem.mem_of_lookup h))
  · have hi : i < vs.length := by
      unfold start at h2
      by_cases hi : i < vs.length
      · exact hi
      · rw [List.getElem?_append_right (by simpa using hi)] at h2
        rw [List.getElem?_replicate] at h2
        split at h2 <;> cases h2
    have ha : vs[i]? = some v := by
      unfold start at h2
      rw [List.getElem?_append_left (by simpa using hi), List.getElem?_map] at h2
      cases e : vs[i]? with
      | none => rw [e] at h2; cases h2
      | some a => rw [e] at h2; cases h2; rfl
    obtain ⟨u, hu, rv⟩ := r.get ha
    have hp : ps[i]? = some y := by
      rw [← S.pre, List.getElem?_take_of_lt (by omega)]; exact h1
    have ndP : ps.Nodup := by rw [← S.pre]; exact S.nd.sublist (List.take_sublist _ _)
    refine ⟨u, rv, ?_⟩
    rcases S.par y (List.mem_of_getElem? hp) with k | k
    · exact .inl ⟨k, bindL_get ndP hp hu k⟩
    · obtain ⟨c, e⟩ := cell_has (n := s.heap.objs.size + 1) k
      refine .inr ⟨.inl k, c, e, ?_⟩
      have q := x.cell y c e
      rw [bindC_get ndP hp hu (by show scope.names.lookup y ≠ _; rw [k]; decide)] at q
      exact q
  · exact e0.hok.fresh (Nat.le_of_lt (x.above y c (PySem.mem_of_lookup h)))
  · unfold start
    show _ = N.length
    rw [List.length_append, List.length_map, List.length_replicate]
    omega

/-- THE RULE: a def (or a method) of the text, by its body. The body's reading t is chosen for each entry; it is run at the parameters' values -/
theorem fn_of {CX : CXT} {P : Program} {w : World} {K : PySem.W.Frag} {mg : Str → Option Value} {base : Heap} {k : Nat} {f : Addr} {name qual : Str} {params : Arguments} {body : List Stmt} {scope : Scope} {dV kV doc pm cdv ct oc : Value} {an od : Option Addr}
    {osl : Array (Option Value)} {N ps : List Str} {sp : Sp} (lk : K.lookup f = some ⟨oc, od, .func (PySem.W.fnOf name qual params body scope dV kV doc pm an cdv ct), osl⟩) (hcd : PySem.W.codeIn K cdv qual = true) (S : FnScope N ps scope)
    (len : ∀ vs H Q E, sp vs H Q E → vs.length = ps.length)
    (hbody : ∀ (A : Around) (outer : List Env) (s : Shared) (H : Hp) (vs : List V) (Q : VK) (E : XK), Room k (A.deeper (envOfC qual scope s.heap.objs.size f cdv)) → sp vs H Q E →
      ∃ t, PSs (cxOf CX P w K mg base N qual scope f cdv A outer s H E) body t ∧ t { nx := fun _ H' => Q .non H', rt := Q } (start N vs) H) :
    FnOk P w K mg base CX (k + 1) f (PySem.W.fnOf name qual params body scope dV kV doc pm an cdv ct) ps sp := by
  refine ⟨len, fun A outer s H args us vs Q E hr e0 hb r hsp => ?_⟩
  have hl := len _ _ _ _ hsp
  have KX : K.In s.heap := e0.mod.kin.keeps fun b o e => (e0.bs b o e).1
  have lim : s.heap.NoLimit := e0.mod.nolimit.keeps fun b o e => (e0.bs b o e).1
  have hkind : ∀ y ∈ ps.zip us, scope.names.lookup y.1 = some .local ∨ (scope.names.lookup y.1 = some .cell ∧ ((cellsFrom (s.heap.objs.size + 1) scope.names []).lookup y.1).isSome = true) := fun ⟨n, v⟩ hy => by
    rcases S.par n (List.of_mem_zip hy).1 with q | q
    · exact .inl q
    · exact .inr ⟨q, PySem.W.cellsFrom_some _ _ _ (.inl q)⟩
  refine codeAny_call_function hr.depth (KX _ _ lk) rfl S.co S.gen rfl (PySem.W.codeRec_of KX hcd) (hb _ _ _ _ ?_)
  refine wpAny_newFunctionEnv_cells S.kind hkind fun env he s1 x => ?_
  subst he
  refine ⟨lim.keeps x.toInCall.keep, codeAny_func ?_⟩
  obtain ⟨t, ht, hq⟩ := hbody A outer s H vs Q E (hr.deeper _) hsp
  have I : Inv (cxOf CX P w K mg base N qual scope f cdv A outer s H E) [] (start N vs) H s1 := inv_start S hr.hd e0 hl r x
  refine wpAny_mono (ht [] s1 (start N vs) H _ I hq) (fun fl s' hs => ?_) fun e s' hs => hs
  have fin : ∀ {σ' : St} {H' : Hp} {v : V} {u : Value}, Inv (cxOf CX P w K mg base N qual scope f cdv A outer s H E) [] σ' H' s' → RelV v u → Q v H' → CE outer P w H s Q u s' :=
    fun {σ' H' v u} J rv q => ⟨v, H', J.os, J.bare, J.base, J.hok, rv, q⟩
  cases fl with
  | ret u =>
    obtain ⟨v, σ', H', J, rv, q⟩ := hs
    exact fin J rv q
  | next =>
    obtain ⟨σ', H', J, q⟩ := hs
    exact fin (v := V.non) (u := Value.none) J rfl q
  | brk =>
    obtain ⟨_, _, _, q⟩ := hs
    exact False.elim q
  | cont =>
    obtain ⟨_, _, _, q⟩ := hs
    exact False.elim q
end L2

namespace L2
open PySem PySem.Spec PyProof.Rows
section
variable {X : Cx} {x : Str} {p pos : Pos} {e : Expr} {es : List Expr} {t : TA} {id T : String} {r : List V → Hp → VK → Prop}

@[reducible] def tCB (r : List V → Hp → VK → Prop) (t : TA) : TE := fun σ H Q => t σ H fun vs H1 => r vs H1 Q
/-- f(e, ..), f a built-in function -/
theorem pe_callB (hc : CallR X (.builtin id) r) (hg : Gl X x) (hm : X.mg x = none) (hv : bootBuiltins x = some (.builtin id)) (ha : PA X (e :: es) t) (hn : x ≠ "__name__" := by decide) (hdb : (x == ("__debug__" : Str)) = false := by decide)
    (he : starEach (e :: es) X.env = (false, eval e X.env) :: starEach es X.env := by rfl) (hpl : (backTo pos (starEach es X.env)).any (·.1) = false := by rfl) : PE X (.Call (.Name x p) (e :: es) [] pos) (tCB r t) := by
  intro pins s σ H Q I h
  refine wpAny_Call_Name_kw (ld_blt I hg hm hv ?_ hn hdb)
  exact PyProof.Rows.callWith_builtin1 (thn (ha pos pins s σ H _ I h) fun us s1 ⟨vs, H1, I1, r1, q1⟩ => hc pins s1 σ H1 vs us Q I1 r1 q1) he hpl
/-- T(e, ..), T a built-in type -/
theorem pe_callTy (hc : CallR X (.type T) r) (hg : Gl X x) (hm : X.mg x = none) (hv : bootBuiltins x = some (.type T)) (ha : PA X (e :: es) t) (hn : x ≠ "__name__" := by decide) (hdb : (x == ("__debug__" : Str)) = false := by decide)
    (he : starEach (e :: es) X.env = (false, eval e X.env) :: starEach es X.env := by rfl) (hpl : (backTo pos (starEach es X.env)).any (·.1) = false := by rfl) : PE X (.Call (.Name x p) (e :: es) [] pos) (tCB r t) := by
  intro pins s σ H Q I h
  refine wpAny_Call_Name_kw (ld_blt I hg hm hv ?_ hn hdb)
  exact PyProof.Rows.callWith_type1 (thn (ha pos pins s σ H _ I h) fun us s1 ⟨vs, H1, I1, r1, q1⟩ => hc pins s1 σ H1 vs us Q I1 r1 q1) he hpl
end
end L2

namespace HT
open PySem PyProof.Rows

section
open PySem.SeqAt
open PySem.AutoSeq1 (wpAny_loadPart')
open PySem.MeetsSeq PySem.MeetsSeq2 PySem.MeetsSeq3

end

section
variable {prog : Program} {w : World} {A : Around} {E : Value → Shared → Prop} {s : Shared}

/-! ### t[a:b], not the whole -/
/-- a slice's bound as a place among n (d where it is left out) -/
def sIx (n d : Nat) : Option Int → Nat
  | none => d
  | some v => if v < 0 then (v + (n : Int)).toNat else min v.toNat n
theorem sIx_none (n d : Nat) : sIx n d none = d := rfl
theorem sIx_nat (n d k : Nat) : sIx n d (some (k : Int)) = min k n := by
  show (if (k : Int) < 0 then ((k : Int) + (n : Int)).toNat else min (k : Int).toNat n) = min k n
  rw [if_neg (by omega), Int.toNat_natCast]

end
end HT

namespace L2
open PySem PySem.Spec PyProof.Rows

/-! ### the parts of a slice -/
abbrev TO := St → Hp → (Option Int → Hp → Prop) → Prop
/-- a slice's part (left out, or an int) -/
def PO (X : Cx) (e : Option Expr) (t : TO) : Prop :=
  ∀ (pins : List (Addr × Obj)) (s : Shared) (σ : St) (H : Hp) (Q : Option Int → Hp → Prop), Inv X pins σ H s → t σ H Q →
    wpAny (model X.prog X.w) X.A (evalPart e X.env) (fun u s' => ∃ o H', Inv X pins σ H' s' ∧ IsPart u o ∧ Q o H') X.xe s
@[reducible] def tNoPart : TO := fun _ H Q => Q none H
@[reducible] def tPart (t : TE) : TO := fun σ H Q => t σ H fun x H1 => ∃ i, x = .int i ∧ Q (some i) H1

section
variable {X : Cx} {e : Expr} {te : TE} {lo hi : Option Expr} {tl th : TO} {pos p2 : Pos}

theorem po_none : PO X none tNoPart := by
  intro pins s σ H Q I h
  rw [evalPart_none]
  exact wpAny_pure ⟨none, H, I, .none, h⟩
theorem po_some (h : PE X e te) : PO X (some e) (tPart te) := by
  intro pins s σ H Q I hw
  rw [evalPart_some]
  refine thn (h pins s σ H _ I hw) fun u s1 ⟨x, H1, I1, r1, q1⟩ => ?_
  obtain ⟨i, rfl, q⟩ := q1
  obtain ⟨t, rfl⟩ := r1
  exact ⟨some i, H1, I1, .int i t, q⟩

/-- what a slice of a value is, by values: the slice object stands at sl -/
def SlR (X : Cx) (r : V → Option Int → Option Int → Hp → VK → Prop) : Prop :=
  ∀ (pins : List (Addr × Obj)) (s : Shared) (σ : St) (H : Hp) (x : V) (v vl vu : Value) (lo hi : Option Int) (sl : Addr) (Q : VK), Inv X pins σ H s → RelV x v → s.heap.IsSliceOf sl vl vu .none → IsPart vl lo → IsPart vu hi → r x lo hi H Q →
    ∃ T id, typeLookup (.type T) "__getitem__" = pure (some (.builtin id)) ∧ s.TypeIs v T ∧ wpAny (model X.prog X.w) X.A (getItem v (.ref sl)) (EP X pins σ Q) X.xe s
@[reducible] def tSl (r : V → Option Int → Option Int → Hp → VK → Prop) (te : TE) (tl th : TO) : TE := fun σ H Q => te σ H fun x H1 => tl σ H1 fun l H2 => th σ H2 fun u H3 => r x l u H3 Q
/-- a[lo:hi], any a -/
theorem pe_slice {r : V → Option Int → Option Int → Hp → VK → Prop} (hr : SlR X r) (he : PE X e te) (hl : PO X lo tl) (hu : PO X hi th) : PE X (.Subscript e (.Slice lo hi none p2) pos) (tSl r te tl th) := by
  intro pins s σ H Q I h
  refine Subscript_ (thn (he pins s σ H _ I h) fun v s1 ⟨x, H1, I1, r1, q1⟩ => ?_)
  refine wpAny_Slice (thn (hl pins s1 σ H1 _ I1 q1) fun vl s2 ⟨l, H2, I2, pl, q2⟩ => thn (hu pins s2 σ H2 _ I2 q2) fun vu s3 ⟨u, H3, I3, pu, q3⟩ => ?_)
  rw [evalPart_none]
  refine wpAny_pure ?_
  have I4 : Inv X pins σ H3 { s3 with heap := s3.heap.push { cls := .type "slice", data := .fields #[vl, vu, .none] } } := I3.kept (t' := s3.toks) fun b ob q => Heap.get?_push_of_some _ q
  obtain ⟨T, id, hT, ht, hg⟩ := hr pins { s3 with heap := s3.heap.push { cls := .type "slice", data := .fields #[vl, vu, .none] } } σ H3 x v vl vu l u s3.heap.objs.size Q I4 r1 (Heap.IsSliceOf.new ..) pl pu q3
  show wpAny (model X.prog X.w) X.A (subscriptTail e (.Slice lo hi none p2) v (.ref s3.heap.objs.size)) (EP X pins σ Q) X.xe { s3 with heap := s3.heap.push { cls := .type "slice", data := .fields #[vl, vu, .none] } }
  exact tail_any (ops := [.ref s3.heap.objs.size, v]) ht hT hg (by with_unfolding_all rfl)

/-- the items of xs[lo:hi] -/
def cutV (xs : List V) (lo hi : Option Int) : List V := (xs.drop (HT.sIx xs.length 0 lo)).take (HT.sIx xs.length xs.length hi - HT.sIx xs.length 0 lo)
theorem cutV_length (xs : List V) (lo hi : Option Int) : (cutV xs lo hi).length ≤ xs.length := by
  unfold cutV
  rw [List.length_take, List.length_drop]
  omega

/-! ### t < u, t + u -/
end
end L2

namespace L2
open PySem PySem.Spec PyProof.Rows

/-! ### places -/
/-- the place that an index of any sign means -/
def ixN (n : Nat) (i : Int) : Option Nat := if 0 ≤ i then (if i < n then some i.toNat else none) else if -(n : Int) ≤ i then some (i + n).toNat else none
def atI {α : Type} (xs : List α) (i : Int) : Option α := (ixN xs.length i).bind fun j => xs[j]?
theorem ixN_seq {n : Nat} {i : Int} {j : Nat} (h : ixN n i = some j) : seqIndex? i n = some j ∧ j < n ∧ -(n : Int) ≤ i ∧ i < n := by
  unfold ixN at h
  by_cases h0 : 0 ≤ i
  · rw [if_pos h0] at h
    by_cases h1 : i < n
    · rw [if_pos h1] at h
      have e : i.toNat = j := Option.some.inj h
      exact ⟨by rw [seqIndex_of h0 h1, e], by omega, by omega, h1⟩
    · rw [if_neg h1] at h; cases h
  · rw [if_neg h0] at h
    by_cases h1 : -(n : Int) ≤ i
    · rw [if_pos h1] at h
      have e : (i + n).toNat = j := Option.some.inj h
      exact ⟨by rw [seqIndex_neg (by omega) h1, e], by omega, h1, by omega⟩
    · rw [if_neg h1] at h; cases h
theorem atI_get {α : Type} {xs : List α} {i : Int} {v : α} (h : atI xs i = some v) : ∃ j, seqIndex? i xs.length = some j ∧ xs[j]? = some v ∧ j < xs.length ∧ -(xs.length : Int) ≤ i ∧ i < xs.length := by
  unfold atI at h
  cases e : ixN xs.length i with
  | none => rw [e] at h; cases h
  | some j =>
    rw [e] at h
    obtain ⟨h1, h2, h3, h4⟩ := ixN_seq e
    exact ⟨j, h1, h, h2, h3, h4⟩
theorem atI_nat {α : Type} {xs : List α} {j : Nat} {v : α} (h : xs[j]? = some v) : atI xs (j : Int) = some v := by
  have hj : j < xs.length := (List.getElem?_eq_some_iff.mp h).1
  have e : ixN xs.length (j : Int) = some j := by
    unfold ixN
    rw [if_pos (by omega), if_pos (by omega)]; simp
  unfold atI; rw [e]; exact h

/-! ### what may be subscripted -/
/-- what stands as an index of a plain subscript -/
def PlainIx (b : Expr) : Prop := ∀ o i, subscripted b false o i = operate [o, i] (getItem o i)
/-- a subscript by values -/
def IxR (X : Cx) (r : R2) : Prop :=
  ∀ (value slice : Expr) (pins : List (Addr × Obj)) (s : Shared) (σ : St) (H : Hp) (x y : V) (v u : Value) (Q : VK), Inv X pins σ H s → RelV x v → RelV y u → r x y H Q →
    subscripted slice false v u = operate [v, u] (getItem v u) → wpAny (model X.prog X.w) X.A (subscriptTail value slice v u) (EP X pins σ Q) X.xe s
/-- a call of a builtin's method by values: the receiver, the arguments -/
def MtR (X : Cx) (id : String) (r : V → List V → Hp → VK → Prop) : Prop :=
  ∀ (pins : List (Addr × Obj)) (s : Shared) (σ : St) (H : Hp) (x : V) (xs : List V) (v : Value) (us : List Value) (Q : VK), Inv X pins σ H s → RelV x v → Vals xs us → r x xs H Q →
    wpAny (model X.prog X.w) X.A (call (.builtin id) (v :: us)) (EP X pins σ Q) X.xe s
section
variable {X : Cx} {a b : Expr} {ta tb : TE} {pos : Pos}
/-- a[b] -/
theorem pe_ix {r : R2} (hr : IxR X r) (ha : PE X a ta) (hb : PE X b tb) (hs : PlainIx b) : PE X (.Subscript a b pos) (tOp r ta tb) := by
  intro pins s σ H Q I h
  exact Subscript_ (binT ha hb I h fun v u s2 x y H2 I2 rx ry q => hr a b pins s2 σ H2 x y v u Q I2 rx ry q (hs _ _))

inductive IxLAt (K : PySem.W.Frag) (x y : V) (H : Hp) (Q : VK) : Prop
  | mk (p : Addr) (xs : List V) (i : Int) (v : V) (a : x = .ref p) (b : y = .int i) (s : SqL K H p xs) (e : atI xs i = some v) (q : Q v H) : IxLAt K x y H Q
def rIxL (K : PySem.W.Frag) : R2 := fun x y H Q => IxLAt K x y H Q
inductive IxTAt (K : PySem.W.Frag) (x y : V) (H : Hp) (Q : VK) : Prop
  | mk (p : Addr) (xs : List V) (i : Int) (v : V) (a : x = .ref p) (b : y = .int i) (s : SqT K H p xs) (e : atI xs i = some v) (q : Q v H) : IxTAt K x y H Q
def rIxT (K : PySem.W.Frag) : R2 := fun x y H Q => IxTAt K x y H Q
theorem ix_list : IxR X (rIxL X.K) := by
  intro value slice pins s σ H x y v u Q I rx ry h hs
  obtain ⟨p, xs, i, z, rfl, rfl, hq, he, q⟩ := h
  cases rx
  obtain ⟨t, rfl⟩ := ry
  obtain ⟨its, r, pl, hz⟩ := I.list hq
  obtain ⟨j, h1, h2, h3, h4, h5⟩ := atI_get he
  obtain ⟨w, ew, rw'⟩ := r.get h2
  have hl := r.length
  have hn := line63
  have fin : EP X pins σ Q w s := ⟨z, H, I, rw', q⟩
  by_cases h0 : 0 ≤ i
  · have hj : i.toNat = j := by
      rw [seqIndex_of h0 h5] at h1
      exact Option.some.inj h1
    exact item_listR pl.isList h0 (by omega) (by rw [hj]; simpa using ew) fin hs
  · have hj : (i + (its.toArray.size : Int)).toNat = j := by
      rw [seqIndex_neg (by omega) h4] at h1
      rw [List.size_toArray, ← hl]
      exact Option.some.inj h1
    exact subscriptTail_builtinR (x := w) pl.isList.typeIs slot_list_getitem.lookup
      (wpAny_getItem_list_neg (Q := fun r s' => r = w ∧ EP X pins σ Q r s') pl.isList (by omega) (by rw [List.size_toArray] <;> omega) (by omega) (by rw [hj]; simpa using ew) ⟨rfl, fin⟩) hs
theorem ix_tup : IxR X (rIxT X.K) := by
  intro value slice pins s σ H x y v u Q I rx ry h hs
  obtain ⟨p, xs, i, z, rfl, rfl, hq, he, q⟩ := h
  cases rx
  obtain ⟨t, rfl⟩ := ry
  obtain ⟨its, r, pl, hz⟩ := I.tuple hq
  obtain ⟨j, h1, h2, h3, h4, h5⟩ := atI_get he
  obtain ⟨w, ew, rw'⟩ := r.get h2
  have hl := r.length
  have hn := line63
  have fin : EP X pins σ Q w s := ⟨z, H, I, rw', q⟩
  exact subscriptTail_builtinR (x := w) pl.typeIs slot_tuple_getitem.lookup
    (getItem_tuple (j := j) (Q := fun r s' => r = w ∧ EP X pins σ Q r s') pl (by omega) (by omega) (by rw [List.size_toArray, ← hl]; exact h1) (by simpa using ew) ⟨rfl, fin⟩) hs

/-! ### xs[i] = v, any sign -/
/-- the list's object behind a store -/
theorem mapSeq_set (its : List Value) (n j : Nat) (u : Value) : Obj.mapSeq (·.setIfInBounds j u) { cls := .type "list", data := .seq its.toArray n } = { cls := .type "list", data := .seq (its.set j u).toArray n } := by
  simp [Obj.mapSeq]
theorem Inv.lst {pins : List (Addr × Obj)} {σ : St} {H : Hp} {s : Shared} {p : Addr} {xs : List V} (I : Inv X pins σ H s) (h : H p = some (.lst xs)) :
    ∃ (its : List Value) (n : Nat), Vals xs its ∧ s.heap.get? p = some { cls := .type "list", data := .seq its.toArray n } ∧ xs.length ≤ sizeLine := by
  obtain ⟨z, its, n, r, e⟩ := I.hok p _ h
  exact ⟨its, n, r, e, z⟩
/-- the list at p is written by an update of its object -/
theorem Inv.lstUpd {pins : List (Addr × Obj)} {σ : St} {H : Hp} {s : Shared} {p : Addr} {xs ys : List V} {its its' : List Value} {n n' : Nat} {f : Obj → Obj} (I : Inv X pins σ H s) (h : H p = some (.lst xs))
    (ho : s.heap.get? p = some { cls := .type "list", data := .seq its.toArray n }) (hf : f { cls := .type "list", data := .seq its.toArray n } = { cls := .type "list", data := .seq its'.toArray n' }) (r : Vals ys its') (hz : ys.length ≤ sizeLine) (t : Nat) :
    Inv X pins σ (upd H p (.lst ys)) { s with heap := s.heap.update p f, toks := t } := by
  have e : (s.heap.update p f).get? p = some { cls := .type "list", data := .seq its'.toArray n' } := by
    rw [Heap.get?_update_self f ho (by rw [hf] <;> rfl), hf]
  refine I.write (x := p) (e := p) (by rw [h]; trivial) (.inl rfl) (fun b u hb q => (Heap.get?_update_other _ _ (Ne.symm hb)).trans q) ⟨_, e⟩ ?_
  exact ⟨hz, its', n', r, e⟩
def rSetL : V → V → V → Hp → (Hp → Prop) → Prop := fun o i v H Q => ∃ p xs k j, o = .ref p ∧ i = .int k ∧ H p = some (.lst xs) ∧ ixN xs.length k = some j ∧ Q (upd H p (.lst (xs.set j v)))
theorem set_list : PSet X rSetL := by
  intro pins s σ H o i v ov iv u Q I ro ri rv h
  obtain ⟨p, xs, k, j, rfl, rfl, hp, hj, q⟩ := h
  cases ro
  obtain ⟨t, rfl⟩ := ri
  obtain ⟨its, n, r, ho, hz⟩ := I.lst hp
  obtain ⟨h1, h2, h3, h4⟩ := ixN_seq hj
  have hl := r.length
  have hn := line63
  have I' : Inv X pins σ (upd H p (.lst (xs.set j v))) { s with heap := s.heap.update p (Obj.mapSeq (·.setIfInBounds j u)) } :=
    I.lstUpd hp ho (mapSeq_set its n j u) (r.set rv j) (by rw [List.length_set]; exact hz) s.toks
  by_cases h0 : 0 ≤ k
  · have hk : k.toNat = j := by
      rw [seqIndex_of h0 h4] at h1
      exact Option.some.inj h1
    exact PySem.W.ki_setAt ho h0 (by omega) (by rw [List.size_toArray, ← hl]; exact h4) (by rw [hk]; exact ⟨_, I', q⟩)
  · have hk : (k + (its.toArray.size : Int)).toNat = j := by
      rw [seqIndex_neg (by omega) h3] at h1
      rw [List.size_toArray, ← hl]
      exact Option.some.inj h1
    exact PySem.W.ki_setBack ho (by omega) (by rw [List.size_toArray, ← hl]; exact h3) (by omega) (by rw [hk]; exact ⟨_, I', q⟩)

/-! ### slices -/
theorem slice_bounds (lo hi : Option Int) (n : Nat) : (sliceBounds lo hi none n).1 = ((HT.sIx n 0 lo : Nat) : Int) ∧ (sliceBounds lo hi none n).2.1 = ((HT.sIx n n hi : Nat) : Int) ∧ (sliceBounds lo hi none n).2.2 = 1 := by
  refine ⟨?_, ?_, rfl⟩
  · cases lo with
    | none => simp [sliceBounds, HT.sIx]
    | some i =>
      simp only [sliceBounds, HT.sIx, Option.getD_none, show (1 : Int) > 0 by decide, if_true]
      by_cases h : i < 0
      · simp only [h, if_true] <;> omega
      · simp only [h, if_false] <;> omega
  · cases hi with
    | none => simp [sliceBounds, HT.sIx]
    | some i =>
      simp only [sliceBounds, HT.sIx, Option.getD_none, show (1 : Int) > 0 by decide, if_true]
      by_cases h : i < 0
      · simp only [h, if_true] <;> omega
      · simp only [h, if_false] <;> omega
theorem slicePick_cut (its : List Value) (lo hi : Option Int) : slicePick its.toArray lo hi none = ((its.drop (HT.sIx its.length 0 lo)).take (HT.sIx its.length its.length hi - HT.sIx its.length 0 lo)).toArray := by
  obtain ⟨h1, h2, h3⟩ := slice_bounds lo hi its.toArray.size
  unfold slicePick
  rw [h1, h2, h3]
  simp only [sliceRange_one, pick_run, List.size_toArray] <;> rfl
/-- xs[lo:hi] of a list: a new list -/
def rSlL (K : PySem.W.Frag) : V → Option Int → Option Int → Hp → VK → Prop := fun x lo hi H Q => ∃ a xs, x = .ref a ∧ SqL K H a xs ∧ ∀ p, H p = none → Q (.ref p) (upd H p (.lst (cutV xs lo hi)))
theorem sl_list : SlR X (rSlL X.K) := by
  intro pins s σ H x v vl vu lo hi sl Q I rx hs pl pu h
  obtain ⟨a, xs, rfl, hx, q⟩ := h
  cases rx
  obtain ⟨its, r, ht, hz⟩ := I.list hx
  have hlen := r.length
  refine ⟨"list", _, slot_list_getitem.lookup, ht.isList.typeIs, ?_⟩
  refine wpAny_getItem_list_slice ht.isList hs pl pu .none (by simp) ?_ (by rw [List.size_toArray] <;> omega)
  rw [slicePick_cut, ← hlen]
  refine ⟨.ref s.heap.objs.size, _, I.laid (t' := s.toks) (o := .lst (cutV xs lo hi)) (fun b ob q => Heap.get?_push_of_some _ q) (Nat.le_refl _) ?_, rfl, q _ (I.hok.fresh (Nat.le_refl _))⟩
  exact ⟨Nat.le_trans (cutV_length xs lo hi) hz, _, 0, (r.drop (HT.sIx xs.length 0 lo)).take (HT.sIx xs.length xs.length hi - HT.sIx xs.length 0 lo), Heap.get?_push_size _ rfl⟩

/-! ### in, not in: flat items -/
def flatV : V → Bool
  | .non => true
  | .bl _ => true
  | .int _ => true
  | .str _ => true
  | _ => false
/-- == of flat values -/
def eqV : V → V → Bool
  | .non, .non => true
  | .bl a, .bl b => a == b
  | .bl a, .int b => (if a then 1 else 0) == b
  | .int a, .bl b => a == (if b then 1 else 0)
  | .int a, .int b => a == b
  | .str a, .str b => a == b
  | _, _ => false
theorem eqAt_V {A : Around} {s : Shared} {y x : V} {u v : Value} (ry : RelV y u) (rx : RelV x v) (fy : flatV y = true) (fx : flatV x = true) : SeqAt.EqAt A s u v (eqV y x) := by
  cases y with
  | non =>
    cases ry
    cases x with
    | non => cases rx; exact SeqAt.EqAt.same _
    | bl b => cases rx; exact SeqAt.EqAt.none_bool b
    | int b => obtain ⟨t, rfl⟩ := rx; exact SeqAt.EqAt.none_int b t
    | str b => obtain ⟨t, rfl⟩ := rx; exact SeqAt.EqAt.none_str b t
    | _ => exact absurd (show false = true from fx) Bool.false_ne_true
  | bl a =>
    cases ry
    cases x with
    | non => cases rx; exact SeqAt.EqAt.bool_none a
    | bl b => cases rx; exact SeqAt.EqAt.bool_bool a b
    | int b => obtain ⟨t, rfl⟩ := rx; exact SeqAt.EqAt.bool_int a b t
    | str b => obtain ⟨t, rfl⟩ := rx; exact SeqAt.EqAt.bool_str a b t
    | _ => exact absurd (show false = true from fx) Bool.false_ne_true
  | int a =>
    obtain ⟨t', rfl⟩ := ry
    cases x with
    | non => cases rx; exact SeqAt.EqAt.int_none a t'
    | bl b => cases rx; exact SeqAt.EqAt.int_bool a t' b
    | int b => obtain ⟨t, rfl⟩ := rx; exact SeqAt.EqAt.int_int a t' b t
    | str b => obtain ⟨t, rfl⟩ := rx; exact SeqAt.EqAt.int_str a t' b t
    | _ => exact absurd (show false = true from fx) Bool.false_ne_true
  | str a =>
    obtain ⟨t', rfl⟩ := ry
    cases x with
    | non => cases rx; exact SeqAt.EqAt.str_none a t'
    | bl b => cases rx; exact SeqAt.EqAt.str_bool a t' b
    | int b => obtain ⟨t, rfl⟩ := rx; exact SeqAt.EqAt.str_int a t' b t
    | str b => obtain ⟨t, rfl⟩ := rx; exact SeqAt.EqAt.str_str a t' b t
    | _ => exact absurd (show false = true from fx) Bool.false_ne_true
  | _ => exact absurd (show false = true from fy) Bool.false_ne_true
/-- the items' answers, read off the values (a value's own answer does not lean on its token) -/
def eqU (x : V) (u : Value) : Bool := match u with
  | .none => eqV .non x
  | .bool b => eqV (.bl b) x
  | .int i _ => eqV (.int i) x
  | .str z _ => eqV (.str z) x
  | _ => false
theorem eqU_of {x y : V} {u : Value} (r : RelV y u) (f : flatV y = true) : eqU x u = eqV y x := by
  cases y with
  | non => cases r; rfl
  | bl b => cases r; rfl
  | int i => obtain ⟨t, rfl⟩ := r; rfl
  | str z => obtain ⟨t, rfl⟩ := r; rfl
  | _ => exact absurd (show false = true from f) Bool.false_ne_true
theorem any_eqU {x : V} : ∀ {xs : List V} {us : List Value}, Vals xs us → xs.all flatV = true → us.any (eqU x) = xs.any fun y => eqV y x
  | _, _, .nil, _ => rfl
  | y :: xs, u :: us, .cons r t, f => by
    rw [List.all_cons, Bool.and_eq_true] at f
    rw [List.any_cons, List.any_cons, eqU_of r f.1, any_eqU t f.2]
theorem mem_eqAt {A : Around} {s : Shared} {x : V} {v : Value} (rx : RelV x v) (fx : flatV x = true) : ∀ {xs : List V} {us : List Value}, Vals xs us → xs.all flatV = true → ∀ u ∈ us, SeqAt.EqAt A s u v (eqU x u)
  | _, _, .nil, _ => fun u hu => by cases hu
  | y :: xs, u :: us, .cons r t, f => fun u' hu => by
    rw [List.all_cons, Bool.and_eq_true] at f
    rcases List.mem_cons.mp hu with rfl | hu
    · rw [eqU_of r f.1]; exact eqAt_V r rx f.1 fx
    · exact mem_eqAt rx fx t f.2 u' hu
def inV (x : V) (xs : List V) : Bool := xs.any fun y => eqV y x
/-- x in a list or tuple of flat items -/
def rIn (K : PySem.W.Frag) (neg : Bool) : R2 := fun x y H Q => ∃ p xs, y = .ref p ∧ (SqL K H p xs ∨ SqT K H p xs) ∧ flatV x = true ∧ xs.all flatV = true ∧ Q (.bl (if neg then !inV x xs else inV x xs)) H
theorem op_in_seq : OpR X (compareOp .In) (rIn X.K false) := by
  intro pins s σ H x y v u Q I rx ry h
  obtain ⟨p, xs, rfl, hq, fx, fs, q⟩ := h
  cases ry
  rcases hq with hq | hq
  · obtain ⟨its, r, pl, hz⟩ := I.list hq
    refine SeqAt.in_listAt (eqU x) pl.isList (fun w hw => mem_eqAt rx fx r fs w (by simpa using hw)) ⟨.bl _, H, I, rfl, ?_⟩
    rw [show its.toArray.any (eqU x) = its.any (eqU x) by simp, any_eqU r fs]
    exact q
  · obtain ⟨its, r, pl, hz⟩ := I.tuple hq
    refine SeqAt.in_tupleAt (eqU x) pl (fun w hw => mem_eqAt rx fx r fs w (by simpa using hw)) ⟨.bl _, H, I, rfl, ?_⟩
    rw [show its.toArray.any (eqU x) = its.any (eqU x) by simp, any_eqU r fs]
    exact q
theorem op_notIn_seq : OpR X (compareOp .NotIn) (rIn X.K true) := by
  intro pins s σ H x y v u Q I rx ry h
  obtain ⟨p, xs, rfl, hq, fx, fs, q⟩ := h
  cases ry
  rcases hq with hq | hq
  · obtain ⟨its, r, pl, hz⟩ := I.list hq
    refine SeqAt.notIn_listAt (eqU x) pl.isList (fun w hw => mem_eqAt rx fx r fs w (by simpa using hw)) ⟨.bl _, H, I, rfl, ?_⟩
    rw [show its.toArray.any (eqU x) = its.any (eqU x) by simp, any_eqU r fs]
    exact q
  · obtain ⟨its, r, pl, hz⟩ := I.tuple hq
    refine SeqAt.notIn_tupleAt (eqU x) pl (fun w hw => mem_eqAt rx fx r fs w (by simpa using hw)) ⟨.bl _, H, I, rfl, ?_⟩
    rw [show its.toArray.any (eqU x) = its.any (eqU x) by simp, any_eqU r fs]
    exact q

/-! ### len, list(x), tuple(x) of any list or tuple that is read -/
theorem call_len_seq : CallR X (.builtin "len") (fun xs H Q => ∃ p ys, xs = [.ref p] ∧ (SqL X.K H p ys ∨ SqT X.K H p ys) ∧ Q (.int ys.length) H) := by
  intro pins s σ H xs us Q I r h
  obtain ⟨p, ys, rfl, hq, q⟩ := h
  obtain ⟨u, rfl, rx⟩ := vals1 r
  cases rx
  have hn := line63
  rcases hq with hq | hq
  · obtain ⟨its, r', pl, hz⟩ := I.list hq
    have hlen := r'.length
    exact Calls.call_len_list pl.isList (by simp only [List.size_toArray] <;> omega) ⟨.int ys.length, H, I.tok _, ⟨s.toks + 1, by rw [List.size_toArray, hlen]⟩, q⟩
  · obtain ⟨its, r', pl, hz⟩ := I.tuple hq
    have hlen := r'.length
    exact len_tuple pl (by simp only [List.size_toArray] <;> omega) ⟨.int ys.length, H, I.tok _, ⟨s.toks + 1, by rw [List.size_toArray, hlen]⟩, q⟩
theorem call_list_of : CallR X (.type "list") (fun xs H Q => ∃ p ys, xs = [.ref p] ∧ (SqL X.K H p ys ∨ SqT X.K H p ys) ∧ ∀ l, H l = none → Q (.ref l) (upd H l (.lst ys))) := by
  intro pins s σ H xs us Q I r h
  obtain ⟨p, ys, rfl, hq, q⟩ := h
  obtain ⟨u, rfl, rx⟩ := vals1 r
  cases rx
  have fin : ∀ (its : List Value), Vals ys its → ys.length ≤ sizeLine → ∀ (h' : Heap) (c' : Nat), (∀ b o', s.heap.get? b = some o' → h'.get? b = some o') →
      h'.get? s.heap.objs.size = some { cls := .type "list", dict := none, data := .seq its.toArray c', slots := #[] } → EP X pins σ Q (.ref s.heap.objs.size) { s with heap := h' } := fun its r' hz h' c' kp e =>
    ⟨.ref s.heap.objs.size, _, I.laid (t' := s.toks) kp (Nat.le_refl _) (show ObjOk X.prog X.w _ h' _ (.lst ys) from ⟨hz, its, c', r', e⟩), rfl, q _ (I.hok.fresh (Nat.le_refl _))⟩
  rcases hq with hq | hq
  · obtain ⟨its, r', pl, hz⟩ := I.list hq
    have hlen := r'.length
    obtain ⟨o, ho, hc, n, hd⟩ := pl.isList
    exact call_list_seq p (.inl rfl) ho hc hd (fun h' c' kp e => fin its r' hz h' c' kp e) (by simp only [List.size_toArray] <;> omega)
  · obtain ⟨its, r', pl, hz⟩ := I.tuple hq
    have hlen := r'.length
    obtain ⟨o, ho, hc, n, hd⟩ := pl
    exact call_list_seq p (.inr rfl) ho hc hd (fun h' c' kp e => fin its r' hz h' c' kp e) (by simp only [List.size_toArray] <;> omega)

/-! ### the call of a builtin's method: o.m(..) -/
/-- the value is of that builtin type -/
def tyV (K : PySem.W.Frag) (T : String) (x : V) (H : Hp) : Prop := match x with
  | .str _ => T = "str"
  | .int _ => T = "int"
  | .ref p => (T = "list" ∧ ∃ xs, SqL K H p xs) ∨ (T = "tuple" ∧ ∃ o, K.lookup p = some o ∧ o.cls = .type "tuple" ∧ o.dict = none) ∨
      (T = "dict" ∧ ((∃ kvs, H p = some (.dK kvs)) ∨ ∃ kvs, H p = some (.dT kvs))) ∨ (T = "set" ∧ ∃ S n, H p = some (.set S n))
  | _ => False
theorem tyV_is {pins : List (Addr × Obj)} {σ : St} {H : Hp} {s : Shared} {T : String} {x : V} {v : Value} (I : Inv X pins σ H s) (r : RelV x v) (ty : tyV X.K T x H) :
    s.TypeIs v T ∧ ∀ a, v = .ref a → ∃ ob, s.heap.get? a = some ob ∧ ob.dict = none := by
  cases x with
  | str z =>
    obtain ⟨t, rfl⟩ := r
    cases (show T = "str" from ty)
    exact ⟨typeIs_str s z t, fun _ e => nomatch e⟩
  | int i =>
    obtain ⟨t, rfl⟩ := r
    cases (show T = "int" from ty)
    exact ⟨typeIs_int s i t, fun _ e => nomatch e⟩
  | ref p =>
    cases r
    rcases ty with ⟨rfl, xs, hq⟩ | ⟨rfl, o, hk, hc, hd⟩ | ⟨rfl, hk⟩ | ⟨rfl, S, n, hk⟩
    · obtain ⟨its, _, pl, _⟩ := I.list hq
      refine ⟨pl.isList.typeIs, fun a e => ?_⟩
      cases e
      obtain ⟨o, n, e, c, hd, _⟩ := pl
      exact ⟨o, e, hd⟩
    · refine ⟨⟨o, I.kIn p o hk, hc⟩, fun a e => ?_⟩
      cases e
      exact ⟨o, I.kIn _ o hk, hd⟩
    · have z : ∃ o, s.heap.get? p = some o ∧ o.ExactDict := by
        rcases hk with ⟨kvs, hk⟩ | ⟨kvs, hk⟩
        · obtain ⟨_, _, _, _, o, _, _, e, ex, _⟩ := I.hok p _ hk
          exact ⟨o, e, ex⟩
        · obtain ⟨_, _, _, _, o, _, _, e, ex, _⟩ := I.hok p _ hk
          exact ⟨o, e, ex⟩
      obtain ⟨o, e, ex⟩ := z
      refine ⟨⟨o, e, ex.1⟩, fun a e2 => ?_⟩
      cases e2
      exact ⟨o, e, ex.2.1⟩
    · obtain ⟨o, _, _, _, e, ex, _⟩ := I.hok p _ hk
      refine ⟨⟨o, e, ex.1⟩, fun a e2 => ?_⟩
      cases e2
      exact ⟨o, e, ex.2.1⟩
  | _ => exact False.elim ty
@[reducible] def tBM (K : PySem.W.Frag) (T : String) (r : V → List V → Hp → VK → Prop) (to : TE) (t : TA) : TE := fun σ H Q => to σ H fun x H1 => tyV K T x H1 ∧ t σ H1 fun xs H2 => r x xs H2 Q
variable {o e : Expr} {es : List Expr} {to : TE} {t : TA} {name : Str} {apos cpos : Pos} {T id : String} {r : V → List V → Hp → VK → Prop}
theorem pe_bm (pa : PlainAttrs T) (slot : Slot T name id) (hty : typeOf (.builtin id) = pure (.type "method_descriptor")) (hm : MtR X id r) (ho : PE X o to) (ha : PA X (e :: es) t)
    (hbase : attributeBase o name X.env (eval o X.env) = eval o X.env := by rfl)
    (hfew : ((backTo cpos (starEach (e :: es) X.env)).all (fun x => !x.1) && (backToKw cpos (keywordEach [] X.env)).all (fun x => x.1.isSome)
      && decide ((e :: es).length + ([] : List Keyword).length + (if ([] : List Keyword).isEmpty then 0 else 1) < 30)) = true := by rfl)
    (hline : (apos.endLine == cpos.line) = true := by rfl) (hs : starEach (e :: es) X.env = (false, eval e X.env) :: starEach es X.env := by rfl) (hplain : (backTo cpos (starEach es X.env)).any (·.1) = false := by rfl) :
    PE X (.Call (.Attribute o name apos) (e :: es) [] cpos) (tBM X.K T r to t) := by
  intro pins s σ H Q I h
  refine wpAny_Call_method_late hbase hfew hline rfl (thn (ho pins s σ H _ I h) fun v s1 ⟨x, H1, I1, r1, ty, q1⟩ => ?_)
  obtain ⟨h1, h2⟩ := tyV_is I1 r1 ty
  refine ⟨T, id, pa, slot, hty, h1, h2, ?_⟩
  have hA := ha cpos pins s1 σ H1 _ I1 q1
  rw [hs] at hA ⊢
  refine Calls.callWith_builtin (by show (false || (backTo cpos (starEach es X.env)).any (·.1)) = false; rw [hplain] <;> rfl) (Calls.evalArgs_plain ?_)
  exact thn hA fun us s2 ⟨vs, H2, I2, r2, q2⟩ => hm pins s2 σ H2 x vs v us Q I2 r1 r2 q2
/- xs.append(e), list.index on a module's tuple .. are MtR facts of 06m -/
end
end L2

namespace L2
open PySem PySem.Spec PyProof.Rows

def MtM (X : Cx) (id : String) (r : V → List V → Hp → VK → Prop) : Prop :=
  ∀ (pins : List (Addr × Obj)) (s : Shared) (σ : St) (H : Hp) (x : V) (xs : List V) (v : Value) (us : List Value) (Q : VK), Inv X pins σ H s → RelV x v → Vals xs us → r x xs H Q →
    wpAny (model X.prog X.w) X.A (call (.builtin id) (v :: us)) (EP X pins σ Q) X.xe s

/-! ### lists of values -/
theorem Vals.one : ∀ {x : V} {us : List Value}, Vals [x] us → ∃ u, us = [u] ∧ RelV x u
  | _, _, .cons r .nil => ⟨_, rfl, r⟩
theorem Vals.rep {xs : List V} {us : List Value} (h : Vals xs us) : ∀ k : Nat, Vals (List.replicate k xs).flatten (List.replicate k us).flatten
  | 0 => .nil
  | k + 1 => by
    rw [List.replicate_succ, List.replicate_succ, List.flatten_cons, List.flatten_cons]
    exact Vals.append h (Vals.rep h k)
theorem foldl_rep (its : List Value) : ∀ (k : Nat) (acc : List Value),
    List.foldl (fun x1 x2 => x1 ++ x2) acc.toArray (List.replicate k its.toArray) = (acc ++ (List.replicate k its).flatten).toArray
  | 0, acc => by simp
  | k + 1, acc => by
    have e : acc.toArray ++ its.toArray = (acc ++ its).toArray := by simp
    have e2 : (acc ++ its) ++ (List.replicate k its).flatten = acc ++ (List.replicate (k + 1) its).flatten := by
      rw [List.replicate_succ, List.flatten_cons, List.append_assoc]
    rw [← e2, ← foldl_rep its k (acc ++ its), ← e, List.replicate_succ, List.foldl_cons]

section
variable {X : Cx} {pins : List (Addr × Obj)} {σ : St} {H : Hp} {s : Shared} {l b : Addr} {xs ys zs : List V}

/-! ### the two steps: a tracked list is rewritten, a new list is laid -/
theorem Inv.lset {its its' : List Value} {n : Nat} {f : Array Value → Array Value} {t' : Nat} (I : Inv X pins σ H s) (hH : H l = some (.lst xs))
    (e : s.heap.get? l = some { cls := .type "list", data := .seq its.toArray n }) (hf : f its.toArray = its'.toArray) (hv : Vals ys its') (hz : ys.length ≤ sizeLine) :
    Inv X pins σ (upd H l (.lst ys)) { s with heap := s.heap.update l (Obj.mapSeq f), toks := t' } := by
  have q := PySem.IsL.update e f
  rw [hf] at q
  refine I.write (x := l) (e := l) (by rw [hH]; exact trivial) (.inl rfl) (fun b' u hb hu => (Heap.get?_update_other s.heap (Obj.mapSeq f) (Ne.symm hb)).trans hu) ⟨_, q⟩ ?_
  exact ⟨hz, its', _, hv, q⟩
theorem Inv.lnew {its : List Value} {t' : Nat} (I : Inv X pins σ H s) (hv : Vals ys its) (hz : ys.length ≤ sizeLine) :
    Inv X pins σ (upd H s.heap.objs.size (.lst ys)) { s with heap := s.heap.push { cls := .type "list", data := .seq its.toArray }, toks := t' } :=
  I.laid (fun _ _ q => Heap.get?_push_of_some _ q) (Nat.le_refl _) ⟨hz, its, 0, hv, Heap.get?_push_size _ rfl⟩
theorem Inv.fresh (I : Inv X pins σ H s) : H s.heap.objs.size = none := I.hok.fresh (Nat.le_refl _)
theorem Inv.lstM (I : Inv X pins σ H s) (hH : H l = some (.lst xs)) : xs.length ≤ sizeLine ∧ ∃ (its : List Value) (n : Nat), Vals xs its ∧ xs.length = its.length ∧ s.heap.get? l = some { cls := .type "list", data := .seq its.toArray n } := by
  obtain ⟨z, its, n, r, e⟩ := I.hok l _ hH
  exact ⟨z, its, n, r, r.length, e⟩

theorem notLongL {n : Nat} (h : n ≤ sizeLine) : Builtin.List.listTooLong n = false := by
  unfold Builtin.List.listTooLong
  exact decide_eq_false (by omega)
end

section
variable {X : Cx}

/-! ### methods -/
def rAppend : V → List V → Hp → VK → Prop := fun x vs H Q => ∃ l xs y, x = .ref l ∧ vs = [y] ∧ H l = some (.lst xs) ∧ xs.length < sizeLine ∧ Q .non (upd H l (.lst (xs ++ [y])))
theorem mt_append : MtM X "list.append" rAppend := by
  intro pins s σ H x vs v us Q I rx rv h
  obtain ⟨l, xs, y, rfl, rfl, hH, hz, q⟩ := h
  cases rx
  obtain ⟨u, rfl, ru⟩ := rv.one
  obtain ⟨z, its, n, r, hl, e⟩ := I.lstM hH
  refine call_meets F.slot_list_append ⟨_, e, rfl⟩ F.entry_list_append (F.args_list_append_2 _ _) (PySem.list_append l its.toArray n u (by rw [List.size_toArray]; omega)) ⟨e, ?_⟩
  refine ⟨.non, _, I.lset (its' := its ++ [u]) hH e (by simp) (r.append (.cons ru .nil)) ?_, rfl, q⟩
  rw [List.length_append, List.length_singleton]
  omega

def rExtend : V → List V → Hp → VK → Prop := fun x vs H Q => ∃ l b xs zs, x = .ref l ∧ vs = [.ref b] ∧ H l = some (.lst xs) ∧ H b = some (.lst zs) ∧ xs.length + zs.length ≤ sizeLine ∧ Q .non (upd H l (.lst (xs ++ zs)))
theorem mt_extend : MtM X "list.extend" rExtend := by
  intro pins s σ H x vs v us Q I rx rv h
  obtain ⟨l, b, xs, zs, rfl, rfl, hH, hB, hz, q⟩ := h
  cases rx
  obtain ⟨u, rfl, ru⟩ := rv.one
  cases ru
  obtain ⟨z, its, n, r, hl, e⟩ := I.lstM hH
  obtain ⟨z2, its2, n2, r2, hl2, e2⟩ := I.lstM hB
  have hsz : its.toArray.size + its2.toArray.size ≤ sizeLine := by rw [List.size_toArray, List.size_toArray]; omega
  have hlong : ¬ (!its.toArray.isEmpty && Builtin.List.listTooLong (its.toArray.size + its2.toArray.size)) = true := by
    rw [notLongL hsz, Bool.and_false]
    exact Bool.false_ne_true
  refine call_meets F.slot_list_extend ⟨_, e, rfl⟩ F.entry_list_extend (F.args_list_extend_2 _ _)
    (AutoSeq1.list_extend_list_list_0 l its.toArray n b its2.toArray n2 hlong (by rw [List.size_toArray]; omega) (by omega)) ⟨e, e2, ?_⟩
  refine ⟨.non, _, I.lset (its' := its ++ its2) hH e (by simp) (r.append r2) ?_, rfl, q⟩
  rw [List.length_append]
  omega

/-! ### list + list, list += list, list * int -/
def rCat : R2 := fun x y H Q => ∃ l b xs zs, x = .ref l ∧ y = .ref b ∧ H l = some (.lst xs) ∧ H b = some (.lst zs) ∧ xs.length + zs.length ≤ sizeLine ∧ ∀ p, H p = none → Q (.ref p) (upd H p (.lst (xs ++ zs)))
theorem op_cat : OpR X (binaryOp .Add) rCat := by
  intro pins s σ H x y v u Q I rx ry h
  obtain ⟨l, b, xs, zs, rfl, rfl, hH, hB, hz, q⟩ := h
  cases rx
  cases ry
  obtain ⟨z, its, n, r, hl, e⟩ := I.lstM hH
  obtain ⟨z2, its2, n2, r2, hl2, e2⟩ := I.lstM hB
  refine PySem.P.add_list e e2 ?_ (by rw [List.size_toArray, List.size_toArray]; omega)
  have ea : its.toArray ++ its2.toArray = (its ++ its2).toArray := by simp
  rw [ea]
  exact ⟨.ref _, _, I.lnew (t' := s.toks) (r.append r2) (by rw [List.length_append]; omega), rfl, q _ I.fresh⟩
/-- a list times an int (a negative one is nothing) -/
def rRep : R2 := fun x y H Q => ∃ l k xs, x = .ref l ∧ y = .int k ∧ H l = some (.lst xs) ∧ -(2 ^ 63) ≤ k ∧ k < 2 ^ 63 ∧ xs.length * k.toNat ≤ sizeLine ∧
  ∀ p, H p = none → Q (.ref p) (upd H p (.lst (List.replicate k.toNat xs).flatten))
theorem len_rep {α : Type} (xs : List α) (k : Nat) : (List.replicate k xs).flatten.length = k * xs.length := by
  induction k with
  | zero => simp
  | succ k ih => rw [List.replicate_succ, List.flatten_cons, List.length_append, ih, Nat.succ_mul, Nat.add_comm]
theorem op_rep : OpR X (binaryOp .Mult) rRep := by
  intro pins s σ H x y v u Q I rx ry h
  obtain ⟨l, k, xs, rfl, rfl, hH, h1, h2, hz, q⟩ := h
  cases rx
  obtain ⟨t, rfl⟩ := ry
  obtain ⟨z, its, n, r, hl, e⟩ := I.lstM hH
  have hlen : its.toArray.size * k.toNat ≤ sizeLine := by rw [List.size_toArray, ← hl]; exact hz
  have hcap : ¬ its.toArray.size * k.toNat > (2 ^ 63 - 1) / 8 := by
    have : (sizeLine : Nat) ≤ (2 ^ 63 - 1) / 8 := by decide
    omega
  have hfit : ¬ (!Builtin.List.listFitsIndex k) = true := by
    rw [fitsIndex_both h1 h2]
    exact Bool.false_ne_true
  have hlong : ¬ Builtin.List.listTooLong (its.toArray.size * k.toNat) = true := by
    rw [notLongL hlen]
    exact Bool.false_ne_true
  have hnew : List.foldl (fun x1 x2 => x1 ++ x2) #[] (List.replicate (if its.toArray.isEmpty = true then 0 else k.toNat) its.toArray) = (List.replicate k.toNat its).flatten.toArray := by
    have f0 : ∀ m : Nat, List.foldl (fun x1 x2 => x1 ++ x2) #[] (List.replicate m its.toArray) = (List.replicate m its).flatten.toArray := fun m => by
      have := foldl_rep its m []
      rw [List.nil_append] at this
      exact this
    rw [f0]
    cases its with
    | nil => simp
    | cons a r' => rw [if_neg (by simp)]
  refine wpAny_binaryOp_repeat_ref (T := "list") (U := "int") (by decide) ⟨_, e, rfl⟩ (fun s' => typeIs_int s' k t) noFill_list_mul F.fills_int_mul F.slot_int_rmul repeat_list F.slot_int_index.lookup
    (call_meets F.slot_int_rmul (typeIs_int s k t) F.entry_int_rmul (F.args_int_rmul_2 _ _) (int___rmul___int_list k t l its.toArray n)
      ⟨e, rfl, ⟨_, e, rfl⟩, call_meets F.slot_list_mul ⟨_, e, rfl⟩ F.entry_list_mul (F.args_list_mul_2 _ _) (AutoListH.list___mul___list_int_3 l its.toArray n k t hfit hcap hlong) ⟨e, ?_⟩⟩)
  rw [hnew]
  exact ⟨.ref _, _, I.lnew (t' := s.toks) (r.rep k.toNat) (by rw [len_rep, Nat.mul_comm]; exact hz), rfl, q _ I.fresh⟩

/-! ### del xs[i] -/
end

/-! ### xs[a:b] = ys -/
section
variable {prog : Program} {w : World} {A : Around} {E : Value → Shared → Prop} {s : Shared}
set_option maxRecDepth 100000 in
end

section
variable {X : Cx}
end
end L2

namespace L2
open PySem PySem.Spec PyProof.Rows

theorem Vals.ints : ∀ {ns : List Int} {us : List Value}, Vals (ns.map V.int) us → IntsAre us ns
  | [], us, h => by
    rw [List.map_nil] at h
    cases h
    exact IntsAre.nil
  | n :: ns, us, h => by
    rw [List.map_cons] at h
    cases h with
    | cons r t =>
      obtain ⟨k, rfl⟩ := r
      exact IntsAre.cons n k (Vals.ints t)
theorem Vals.ref1 {a : Addr} {us : List Value} (r : Vals [V.ref a] us) : us = [Value.ref a] := by
  cases r with
  | cons r t =>
    cases t
    cases r
    rfl
theorem Vals.int2 {i j : Int} {us : List Value} (r : Vals [V.int i, V.int j] us) : ∃ t u, us = [Value.int i t, Value.int j u] := by
  cases r with
  | cons r t =>
    cases t with
    | cons r2 t2 =>
      cases t2
      obtain ⟨t, rfl⟩ := r
      obtain ⟨u, rfl⟩ := r2
      exact ⟨t, u, rfl⟩

/-! ### the library's walks over a list of ints, kept objects alone -/
section
variable {prog : Program} {w : World} {A : Around} {E : Value → Shared → Prop} {s : Shared} {l : Addr} {its : List Value} {ns : List Int} {Q : Value → Shared → Prop}
theorem sum_raw (hh : A.handled = none) (hl : s.heap.IsList l its.toArray) (hi : IntsAre its ns)
    (h : ∀ h' tk t', (∀ b o, s.heap.get? b = some o → h'.get? b = some o) → Q (.int ns.sum t') { s with heap := h', toks := tk }) : wpAny (model prog w) A (call (.builtin "sum") [.ref l]) Q E s := by
  obtain ⟨xs, e⟩ := hi.allInts.items
  have hn : numsOf (intItems xs).toList = ns := by rw [← e]; exact hi.numsOf
  rw [nums_intItems] at hn
  rw [e] at hl
  refine PySem.sum_intListG hh hl fun h' tk t' hk => ?_
  have := h h' tk t' hk
  rw [preSum_eq, List.take_of_length_le (by simp), hn]; exact this
end

/-! ### the calls, by values (CallR of 03t; MtR of 06l) -/
section
variable {X : Cx}
/-- sum(xs) of a list of ints -/
def rSum (K : PySem.W.Frag) : List V → Hp → VK → Prop := fun vs H Q => ∃ (a : Addr) (ns : List Int), vs = [V.ref a] ∧ SqL K H a (ns.map V.int) ∧ Q (.int ns.sum) H
theorem cr_sum (hc : X.calm = true) : CallR X (.builtin "sum") (rSum X.K) := by
  intro pins s σ H vs us Q I r h
  obtain ⟨a, ns, rfl, hs, q⟩ := h
  obtain ⟨its, rv, hl, _⟩ := I.list hs
  rw [Vals.ref1 r]
  exact sum_raw (I.ok.hd hc) hl.isList rv.ints fun h' tk t' hk => ⟨.int _, H, I.kept hk, ⟨_, rfl⟩, q⟩

/-! sorted, sort (fewer than 64 items: the library's own bound) -/
end

/-! ### list.index, flat items -/
section
variable {X : Cx}
theorem flat_at {ys : List V} (f : ys.all flatV = true) {j : Nat} {z : V} (h : ys[j]? = some z) : flatV z = true := List.all_eq_true.mp f z (List.mem_of_getElem? h)
end

/-! ### type(x) of an own instance; is, is not of a module's class -/
section
variable {X : Cx}
end

/-! ### any(xs), all(xs) of a list of bools -/
section
variable {X : Cx}
end

/-! ### == and != of data at any depth: none, bools, ints, texts, lists, tuples -/
mutual
inductive Dp (K : PySem.W.Frag) (H : Hp) : V → PyData → Prop
  | non : Dp K H .non .none
  | bl (b : Bool) : Dp K H (.bl b) (.bool b)
  | int (i : Int) : Dp K H (.int i) (.int i)
  | str (x : Str) : Dp K H (.str x) (.str x)
  | lst {a : Addr} {xs : List V} {ds : List PyData} : SqL K H a xs → DpAll K H xs ds → Dp K H (.ref a) (.list ds)
  | tup {a : Addr} {xs : List V} {ds : List PyData} : SqT K H a xs → DpAll K H xs ds → Dp K H (.ref a) (.tuple ds)
inductive DpAll (K : PySem.W.Frag) (H : Hp) : List V → List PyData → Prop
  | nil : DpAll K H [] []
  | cons {v : V} {vs : List V} {d : PyData} {ds : List PyData} : Dp K H v d → DpAll K H vs ds → DpAll K H (v :: vs) (d :: ds)
end
section
variable {X : Cx} {pins : List (Addr × Obj)} {σ : St} {H : Hp} {s : Shared}
mutual
theorem Dp.reads (I : Inv X pins σ H s) : ∀ (d : PyData) (v : V) (u : Value), Dp X.K H v d → RelV v u → ∃ as, Reads s.heap u d as
  | .none, _, _, h, r => by
    cases h
    cases r
    exact ⟨_, Reads.none⟩
  | .bool b, _, _, h, r => by
    cases h
    cases r
    exact ⟨_, Reads.bool b⟩
  | .int i, _, _, h, r => by
    cases h
    obtain ⟨t, rfl⟩ := r
    exact ⟨_, Reads.int i t⟩
  | .str x, _, _, h, r => by
    cases h
    obtain ⟨t, rfl⟩ := r
    exact ⟨_, Reads.str x t⟩
  | .list ds, _, _, h, r => by
    cases h with
    | lst hs ha =>
      cases r
      obtain ⟨its, rv, ⟨o, n, ho, hc, _, hd⟩, _⟩ := I.list hs
      obtain ⟨as, hr⟩ := Dp.readsAll I ds _ its ha rv
      exact ⟨_, Reads.list ho hc hd hr⟩
  | .tuple ds, _, _, h, r => by
    cases h with
    | tup hs ha =>
      cases r
      obtain ⟨its, rv, ⟨o, ho, hc, n, hd⟩, _⟩ := I.tuple hs
      obtain ⟨as, hr⟩ := Dp.readsAll I ds _ its ha rv
      exact ⟨_, Reads.tuple ho hc hd hr⟩
  | .dict _, _, _, h, _ => by cases h
theorem Dp.readsAll (I : Inv X pins σ H s) : ∀ (ds : List PyData) (vs : List V) (us : List Value), DpAll X.K H vs ds → Vals vs us → ∃ as, ReadsAll s.heap us ds as
  | [], _, _, h, r => by
    cases h
    cases r
    exact ⟨_, ReadsAll.nil⟩
  | d :: ds, _, _, h, r => by
    cases h with
    | cons h1 h2 =>
      cases r with
      | cons r1 r2 =>
        obtain ⟨as, q1⟩ := Dp.reads I d _ _ h1 r1
        obtain ⟨bs, q2⟩ := Dp.readsAll I ds _ _ h2 r2
        exact ⟨_, ReadsAll.cons q1 q2⟩
end
end
section
variable {X : Cx}
def rEqD (K : PySem.W.Frag) : R2 := fun x y H Q => ∃ d e, Dp K H x d ∧ Dp K H y e ∧ SeqAt.shaped d = true ∧ SeqAt.shaped e = true ∧ Q (.bl (PyData.eqv d e)) H
theorem op_eqD (hu : X.A.units + 64 < cLine) : OpR X (compareOp .Eq) (rEqD X.K) := by
  intro pins s σ H x y v u Q I rx ry h
  obtain ⟨d, e, hd, he, sd, se, q⟩ := h
  obtain ⟨as, r1⟩ := Dp.reads I d x v hd rx
  obtain ⟨bs, r2⟩ := Dp.reads I e y u he ry
  exact SeqAt.compareEq_shaped r1 r2 sd se hu ⟨.bl _, H, I, rfl, q⟩
end
end L2

namespace L2
open PySem PySem.Spec PyProof.Rows
abbrev CellAt (h : Heap) (c : Addr) (v : Option Value) : Prop := h.IsCell c v
def relS (scope sc : Scope) : Scope :=
  { scope with names := scope.names.map fun (n, k) => if (k == .free && sc.kind == .function && sc.names.lookup n == some .cell) then (n, .cell) else (n, k) }

def cloFrom (cells : List (Str × Addr)) : List (Str × NameKind) → List (Str × Addr) → List (Str × Addr)
  | [], acc => acc
  | (n, k) :: r, acc => if k == .free then cloFrom cells r ((n, (cells.lookup n).getD 0) :: acc) else cloFrom cells r acc

theorem closure_loop (env : Env) (f : Str × NameKind → List (Str × Addr) → Sem (ForInStep (List (Str × Addr))))
    (hf : ∀ n k c, f (n, k) c = if k == .free then (do let a ← cellOf env n; pure (.yield ((n, a) :: c))) else pure (.yield c)) :
    ∀ (names : List (Str × NameKind)) (acc : List (Str × Addr)), (∀ y ∈ names, y.2 = .free → ∃ c, env.cells.lookup y.1 = some c) → forIn names acc f = pure (cloFrom env.cells names acc)
  | [], acc, _ => by rw [List.forIn_nil]; rfl
  | (n, k) :: r, acc, h => by
    rw [List.forIn_cons, hf]
    have ih := fun acc => closure_loop env f hf r acc fun y hy => h y (List.mem_cons_of_mem _ hy)
    unfold cloFrom
    by_cases hk : (k == NameKind.free) = true
    · rw [if_pos hk, if_pos hk]
      obtain ⟨c, hc⟩ := h (n, k) List.mem_cons_self (by simpa using hk)
      have e : cellOf env n = pure c := by unfold cellOf; rw [hc]
      rw [e]
      have e2 : (env.cells.lookup n).getD 0 = c := by rw [hc]; rfl
      rw [e2]
      exact ih _
    · rw [if_neg hk, if_neg hk]
      exact ih _
theorem closure_ok {scope : Scope} {env : Env} (h : ∀ y ∈ scope.names, y.2 = .free → ∃ c, env.cells.lookup y.1 = some c) : closureFor scope env = pure (cloFrom env.cells scope.names []) := by
  simp only [closureFor]
  rw [closure_loop env _ (fun n k c => rfl) scope.names [] h]
  rfl

theorem mem_lookup {α : Type} : ∀ {l : List (Str × α)} {n : Str} {c : α}, (n, c) ∈ l → ∃ c', l.lookup n = some c'
  | (k, v) :: r, n, c, h => by
    rw [List.lookup_cons]
    cases hb : n == k with
    | true => exact ⟨_, rfl⟩
    | false =>
      rcases List.mem_cons.mp h with e | h
      · cases e; simp at hb
      · exact mem_lookup h

theorem cloFrom_mem {cells : List (Str × Addr)} : ∀ {names : List (Str × NameKind)} {acc : List (Str × Addr)} {n : Str} {c : Addr}, (n, c) ∈ cloFrom cells names acc → (n, c) ∈ acc ∨ ((n, .free) ∈ names ∧ c = (cells.lookup n).getD 0)
  | [], _, _, _, h => .inl h
  | (m, k) :: r, acc, n, c, h => by
    unfold cloFrom at h
    split at h
    · rename_i hk
      have hk : k = .free := by simpa using hk
      rcases cloFrom_mem h with h | ⟨h1, h2⟩
      · rcases List.mem_cons.mp h with e | h
        · cases e; exact .inr ⟨hk ▸ List.mem_cons_self, rfl⟩
        · exact .inl h
      · exact .inr ⟨List.mem_cons_of_mem _ h1, h2⟩
    · rcases cloFrom_mem h with h | ⟨h1, h2⟩
      · exact .inl h
      · exact .inr ⟨List.mem_cons_of_mem _ h1, h2⟩
theorem cloFrom_acc {cells : List (Str × Addr)} : ∀ {names : List (Str × NameKind)} {acc : List (Str × Addr)} {p : Str × Addr}, p ∈ acc → p ∈ cloFrom cells names acc
  | [], _, _, h => h
  | (m, k) :: r, acc, p, h => by
    unfold cloFrom
    split
    · exact cloFrom_acc (List.mem_cons_of_mem _ h)
    · exact cloFrom_acc h
theorem cloFrom_has {cells : List (Str × Addr)} : ∀ {names : List (Str × NameKind)} {acc : List (Str × Addr)} {n : Str}, (n, .free) ∈ names → (n, (cells.lookup n).getD 0) ∈ cloFrom cells names acc
  | (m, k) :: r, acc, n, h => by
    unfold cloFrom
    rcases List.mem_cons.mp h with e | h
    · cases e
      exact cloFrom_acc List.mem_cons_self
    · split
      · exact cloFrom_has h
      · exact cloFrom_has h

theorem cells_mem : ∀ {names : List (Str × NameKind)} {h : Heap} {acc : List (Str × Addr)} {x : Str} {c : Addr}, (x, c) ∈ cellsFrom h.objs.size names acc →
    (x, c) ∈ acc ∨ ((x, .cell) ∈ names ∧ h.objs.size ≤ c ∧ CellAt (pushCells h names) c none)
  | [], _, _, _, _, h => .inl h
  | (n, k) :: r, h, acc, x, c, hm => by
    unfold cellsFrom at hm
    unfold pushCells
    split at hm
    · rename_i hk
      rw [if_pos hk]
      have hk : k = .cell := by simpa using hk
      rw [← Heap.size_push h { cls := .type "cell", data := .cell none }] at hm
      rcases cells_mem hm with hm | ⟨h1, h2, h3⟩
      · rcases List.mem_cons.mp hm with e | hm
        · cases e
          exact .inr ⟨hk ▸ List.mem_cons_self, Nat.le_refl _, _, pushCells_keeps r _ _ _ (Heap.get?_push_size _ rfl), rfl⟩
        · exact .inl hm
      · rw [Heap.size_push] at h2
        exact .inr ⟨List.mem_cons_of_mem _ h1, Nat.le_of_succ_le h2, h3⟩
    · rename_i hk
      rw [if_neg hk]
      rcases cells_mem hm with hm | ⟨h1, h2, h3⟩
      · exact .inl hm
      · exact .inr ⟨List.mem_cons_of_mem _ h1, h2, h3⟩
theorem cells_acc : ∀ {names : List (Str × NameKind)} {n : Nat} {acc : List (Str × Addr)} {p : Str × Addr}, p ∈ acc → p ∈ cellsFrom n names acc
  | [], _, _, _, h => h
  | (m, k) :: r, n, acc, p, h => by
    unfold cellsFrom
    split
    · exact cells_acc (List.mem_cons_of_mem _ h)
    · exact cells_acc h
theorem cells_has : ∀ {names : List (Str × NameKind)} {n : Nat} {acc : List (Str × Addr)} {x : Str}, (x, .cell) ∈ names → ∃ c, (x, c) ∈ cellsFrom n names acc
  | (m, k) :: r, n, acc, x, h => by
    unfold cellsFrom
    rcases List.mem_cons.mp h with e | h
    · cases e
      exact ⟨n, cells_acc List.mem_cons_self⟩
    · split
      · exact cells_has h
      · exact cells_has h
theorem cells_inj : ∀ {names : List (Str × NameKind)} {h : Heap} {acc : List (Str × Addr)} {x y : Str} {c : Addr}, (∀ p ∈ acc, p.2 < h.objs.size) → (∀ x y c, (x, c) ∈ acc → (y, c) ∈ acc → x = y) →
    (x, c) ∈ cellsFrom h.objs.size names acc → (y, c) ∈ cellsFrom h.objs.size names acc → x = y
  | [], _, _, _, _, _, _, hi, h1, h2 => hi _ _ _ h1 h2
  | (n, k) :: r, h, acc, x, y, c, hl, hi, h1, h2 => by
    unfold cellsFrom at h1 h2
    split at h1
    · rename_i hk
      rw [if_pos hk] at h2
      rw [← Heap.size_push h { cls := .type "cell", data := .cell none }] at h1 h2
      refine cells_inj (h := h.push _) (fun p hp => ?_) (fun x y c a b => ?_) h1 h2
      · rw [Heap.size_push]
        rcases List.mem_cons.mp hp with rfl | hp
        · exact Nat.lt_succ_self _
        · exact Nat.lt_succ_of_lt (hl p hp)
      · rcases List.mem_cons.mp a with e | a <;> rcases List.mem_cons.mp b with e' | b
        · cases e; cases e'; rfl
        · cases e; exact absurd (hl _ b) (Nat.lt_irrefl _)
        · cases e'; exact absurd (hl _ a) (Nat.lt_irrefl _)
        · exact hi _ _ _ a b
    · rename_i hk
      rw [if_neg hk] at h2
      exact cells_inj hl hi h1 h2

theorem newEnv_comp {M : Model} {A : Around} {E : Value → Shared → Prop} {s : Shared} {scope : Scope} {globals : Addr} {closure : List (Str × Addr)} {qual : Str} {func : Option Addr} {code : Value} {around : Env} {builtins : Addr} {Q : Env → Shared → Prop}
    (h : Q (newEnv scope s.heap.objs.size globals (cellsFrom (s.heap.objs.size + 1) scope.names closure) qual func code (some around) builtins)
      { s with heap := pushCells (s.heap.push { cls := .type "dict", data := .dict #[] }) scope.names }) :
    wpAny M A (newFunctionEnv scope globals closure [] qual func code (some around) builtins) Q E s := by
  simp only [newFunctionEnv, Option.isSome_some, if_true]
  refine wpAny_bind (wpAny_alloc ?_)
  refine wpAny_bind (wpAny_layCells _ (fun n k c => rfl) scope.names closure _ _ ?_)
  rw [show ({ s with heap := s.heap.push { cls := .type "dict", data := .dict #[] } } : Shared).heap.objs.size = s.heap.objs.size + 1 from Heap.size_push ..]
  rw [List.forIn_nil]
  exact wpAny_bind (wpAny_pure (wpAny_pure h))

/-- every name of the written scope, in the scope that runs -/
theorem lookup_relS {sc : Scope} : ∀ {names : List (Str × NameKind)} {x : Str} {k : NameKind},
    (names.map fun (n, k) => if (k == NameKind.free && sc.kind == .function && sc.names.lookup n == some .cell) then (n, NameKind.cell) else (n, k)).lookup x = some k →
    ∃ k', names.lookup x = some k' ∧ (k = k' ∨ (k' = .free ∧ k = .cell))
  | [], _, _, h => by simp at h
  | (n, k₀) :: r, x, k, h => by
    have ih := @lookup_relS sc r x k
    have h' : List.lookup x ((if (k₀ == NameKind.free && sc.kind == .function && sc.names.lookup n == some .cell) = true then (n, NameKind.cell) else (n, k₀)) :: (r.map _)) = some k := h
    cases hx : x == n with
    | true =>
      simp only [List.lookup_cons, hx]
      by_cases hc : (k₀ == NameKind.free && sc.kind == .function && sc.names.lookup n == some .cell) = true
      · rw [if_pos hc] at h'
        simp only [List.lookup_cons, hx] at h'
        cases h'
        simp only [Bool.and_eq_true, beq_iff_eq] at hc
        exact ⟨k₀, rfl, .inr ⟨hc.1.1, rfl⟩⟩
      · rw [if_neg hc] at h'
        simp only [List.lookup_cons, hx] at h'
        cases h'
        exact ⟨_, rfl, .inl rfl⟩
    | false =>
      simp only [List.lookup_cons, hx]
      by_cases hc : (k₀ == NameKind.free && sc.kind == .function && sc.names.lookup n == some .cell) = true
      · rw [if_pos hc] at h'
        simp only [List.lookup_cons, hx] at h'
        exact ih h'
      · rw [if_neg hc] at h'
        simp only [List.lookup_cons, hx] at h'
        exact ih h'

/-- the names of a comprehension's block: its own (with their places in N), or captured -/
structure BlkOk (N : List Str) (sc scope : Scope) (own : List (Str × Nat)) : Prop where
  kind : scope.kind = .function
  uniq : ∀ y ∈ scope.names, scope.names.lookup y.1 = some y.2
  ix : ∀ p ∈ own, N[p.2]? = some p.1
  free : ∀ y ∈ scope.names, y.2 = .free → sc.names.lookup y.1 = some .cell ∨ sc.names.lookup y.1 = some .free
  own : ∀ y ∈ scope.names, y.2 = .local ∨ y.2 = .cell → y.1 ∈ own.map (·.1) ∨ y.1 ∉ N
/-- the slots of the block's own names forgotten -/
def wipe (σ : St) : List Nat → St
  | [] => σ
  | v :: vs => (wipe σ vs).set v none
theorem wipe_length (σ : St) : ∀ vs : List Nat, (wipe σ vs).length = σ.length
  | [] => rfl
  | v :: vs => by unfold wipe; rw [List.length_set, wipe_length σ vs]
theorem wipe_some {σ : St} {i : Nat} {x : V} : ∀ {vs : List Nat}, (wipe σ vs)[i]? = some (some x) → σ[i]? = some (some x) ∧ i ∉ vs
  | [], h => ⟨h, by simp⟩
  | v :: vs, h => by
    unfold wipe at h
    by_cases hi : v = i
    · subst hi
      by_cases hv : v < (wipe σ vs).length
      · rw [List.getElem?_set_self hv] at h; cases h
      · rw [List.getElem?_eq_none (by simpa using hv)] at h; cases h
    · rw [List.getElem?_set_ne hi] at h
      obtain ⟨h1, h2⟩ := wipe_some h
      exact ⟨h1, by simp only [List.mem_cons, not_or]; exact ⟨fun e => hi e.symm, h2⟩⟩

/-- the context of a block that starts at s, its iterator's objects at fp -/
abbrev Cx.blk (X : Cx) (s : Shared) (H : Hp) (scope : Scope) (cenv : Env) (fp : List Addr) : Cx := { X with s_0 := s, H_0 := H, env := cenv, outer := X.stack, ex := fp, fn := fun x => scope.names.lookup x == some .cell, pn := [], xe := fun _ _ => False }
section
variable {X : Cx} {pins : List (Addr × Obj)} {σ : St} {H : Hp} {s : Shared}
theorem block_start {scope : Scope} {own : List (Str × Nat)} {fp : List Addr} (I : Inv X pins σ H s) (ok : BlkOk X.N X.env.scope scope own) (hN : X.N.Nodup) (hfp : ∀ b ∈ fp, FpOk X pins H b ∧ b < s.heap.objs.size) :
    Inv (X.blk s H scope (compEnvC scope (cellsFrom (s.heap.objs.size + 1) scope.names (cloFrom X.env.cells scope.names [])) s.heap.objs.size X.env) fp) [] (wipe σ (own.map (·.2))) H { s with heap := pushCells (s.heap.push { cls := .type "dict", data := .dict #[] }) scope.names } := by
  have hfree : ∀ y ∈ scope.names, y.2 = .free → ∃ c, X.env.cells.lookup y.1 = some c := fun y hy e => by
    rcases ok.free y hy e with k | k
    · exact I.ok.has _ (.inl k)
    · exact I.ok.has _ (.inr k)
  generalize hcenv : compEnvC scope (cellsFrom (s.heap.objs.size + 1) scope.names (cloFrom X.env.cells scope.names [])) s.heap.objs.size X.env = cenv
  have kp : ∀ b o, s.heap.get? b = some o → (pushCells (s.heap.push { cls := .type "dict", data := .dict #[] }) scope.names).get? b = some o := fun b o e => pushCells_keeps _ _ _ _ (Heap.get?_push_of_some _ e)
  have hL : cenv.locals = s.heap.objs.size := by rw [← hcenv]; rfl
  have hcl : cenv.cells = cellsFrom (s.heap.objs.size + 1) scope.names (cloFrom X.env.cells scope.names []) := by rw [← hcenv]; rfl
  have hsc : cenv.scope = relS scope X.env.scope := by rw [← hcenv]; rfl
  rw [← Heap.size_push s.heap { cls := .type "dict", data := .dict #[] }] at hcl
  have cm : ∀ {y c}, (y, c) ∈ cloFrom X.env.cells scope.names [] → X.env.cells.lookup y = some c ∧ c < s.heap.objs.size := fun {y c} hm => by
    rcases cloFrom_mem hm with hm | ⟨h1, rfl⟩
    · cases hm
    · obtain ⟨c, hc⟩ := hfree _ h1 rfl
      rw [hc]
      obtain ⟨w, z⟩ := I.cell _ _ hc
      exact ⟨rfl, z.lt⟩
  have mem : ∀ {y c}, cenv.cells.lookup y = some c → (X.env.cells.lookup y = some c ∧ c < s.heap.objs.size) ∨ (s.heap.objs.size + 1 ≤ c ∧ CellAt (pushCells (s.heap.push { cls := .type "dict", data := .dict #[] }) scope.names) c none) := fun {y c} e => by
    rw [hcl] at e
    rcases cells_mem (PySem.mem_of_lookup e) with hm | ⟨_, h2, h3⟩
    · exact .inl (cm hm)
    · rw [Heap.size_push] at h2; exact .inr ⟨h2, h3⟩
  have look : ∀ {y}, scope.names.lookup y = some .free → ∃ c, cenv.cells.lookup y = some c ∧ X.env.cells.lookup y = some c := fun {y} hl => by
    have hy : (y, NameKind.free) ∈ scope.names := PySem.mem_of_lookup hl
    obtain ⟨c', e'⟩ := mem_lookup (cells_acc (names := scope.names) (n := (s.heap.push { cls := .type "dict", data := .dict #[] }).objs.size) (cloFrom_has (cells := X.env.cells) (acc := []) hy))
    rw [← hcl] at e'
    refine ⟨c', e', ?_⟩
    rw [hcl] at e'
    rcases cells_mem (PySem.mem_of_lookup e') with hm | ⟨h1, _, _⟩
    · exact (cm hm).1
    · have := ok.uniq _ h1
      rw [hl] at this; cases this
  have okB : (X.blk s H scope cenv fp).Ok := by
    refine ⟨I.ok.mod, by show cenv.scope.kind = _; rw [hsc]; exact ok.kind, by show cenv.globals = _; rw [← hcenv]; exact I.ok.glob, by show cenv.builtins = _; rw [← hcenv]; exact I.ok.blt, by show s.heap.objs.size ≤ cenv.locals; rw [hL]; exact Nat.le_refl _,
      fun y z c e1 e2 => ?_, fun y hy => ?_, fun y c z e => ?_, I.ok.hd, I.ok.frames, .inl rfl, fun b hb => ⟨?_, fun y c e z => ?_⟩, I.bs, Nat.le_trans I.ok.bsz I.sz, fun b o e hb => ?_, fun b hb z => ?_, I.stack, I.stkFree⟩
    · have e1 : cenv.cells.lookup y = some c := e1
      have e2 : cenv.cells.lookup z = some c := e2
      rw [hcl] at e1 e2
      refine cells_inj (fun p hp => ?_) (fun y z c a b => I.ok.inj y z c (cm a).1 (cm b).1) (PySem.mem_of_lookup e1) (PySem.mem_of_lookup e2)
      rw [Heap.size_push]
      exact Nat.lt_succ_of_lt (cm (y := p.1) (c := p.2) hp).2
    · show ∃ c, cenv.cells.lookup y = some c
      have key : ∀ k, cenv.kindOf y = some k → (k = .cell ∨ k = .free) → ∃ c, cenv.cells.lookup y = some c := fun k hk hk' => by
        unfold Env.kindOf at hk
        rw [hsc] at hk
        obtain ⟨k', e, r⟩ := lookup_relS hk
        have : k' = .cell ∨ k' = .free := by
          rcases r with rfl | ⟨rfl, _⟩
          · exact hk'
          · exact .inr rfl
        rcases this with rfl | rfl
        · obtain ⟨c, hm⟩ := cells_has (n := (s.heap.push { cls := .type "dict", data := .dict #[] }).objs.size) (acc := cloFrom X.env.cells scope.names []) (PySem.mem_of_lookup e)
          obtain ⟨c', e'⟩ := mem_lookup hm
          exact ⟨c', by rw [hcl]; exact e'⟩
        · obtain ⟨c, h1, _⟩ := look e
          exact ⟨c, h1⟩
      rcases hy with hy | hy
      · exact key _ hy (.inl rfl)
      · exact key _ hy (.inr rfl)
    · have z : (scope.names.lookup y == some NameKind.cell) = true := z
      have z : scope.names.lookup y = some .cell := by simpa using z
      have e : cenv.cells.lookup y = some c := e
      rw [hcl] at e
      rcases cells_mem (PySem.mem_of_lookup e) with hm | ⟨_, h2, _⟩
      · rcases cloFrom_mem hm with hm | ⟨h1, _⟩
        · cases hm
        · have q := ok.uniq _ h1
          rw [z] at q; cases q
      · rw [Heap.size_push] at h2
        exact Nat.le_of_succ_le h2
    · show b ≠ cenv.locals
      rw [hL]; exact Nat.ne_of_lt (hfp b hb).2
    · have e : cenv.cells.lookup y = some c := e
      rcases mem e with ⟨h1, _⟩ | ⟨h1, _⟩
      · exact (hfp b hb).1.2.2.2.2.1 y c h1 z
      · have h2 : s.heap.objs.size + 1 ≤ b := by rw [← z]; exact h1
        exact absurd (Nat.lt_of_lt_of_le (hfp b hb).2 (Nat.le_of_succ_le h2)) (Nat.lt_irrefl _)
    · rcases (hfp b hb).1.2.2.2.1 with z | z
      · exact I.ok.noex b o e z
      · exact absurd (Nat.lt_of_lt_of_le (Heap.lt_size e) (Nat.le_trans I.ok.bsz z)) (Nat.lt_irrefl _)
    · rcases List.mem_cons.mp (I.stkSub b z) with z | z
      · exact (hfp b hb).1.2.1 z
      · exact (hfp b hb).1.2.2.1 z
  refine ⟨okB, rfl, I.bare, Un.kept kp, ⟨fun _ => none, ?_, fun i y av e1 e2 e3 => ?_⟩, fun y c e => ?_, ?_, fun y c e => ?_, fun p hp => ?_, I.hok.kept kp, by rw [wipe_length]; exact I.len⟩
  · show Heap.Ns _ cenv.locals _
    rw [hL]
    exact Heap.Ns.keeps (Heap.Ns.new ..) fun b o e => pushCells_keeps _ _ _ _ e
  · obtain ⟨e2, hne⟩ := wipe_some e2
    have hfr : scope.names.lookup y = some .free ∧ (cenv.kindOf y = some .cell ∨ cenv.kindOf y = some .free) := by
      have key : ∀ k, cenv.scope.names.lookup y = some k → k = .local ∨ k = .cell ∨ k = .free → scope.names.lookup y = some .free ∧ (cenv.kindOf y = some .cell ∨ cenv.kindOf y = some .free) := fun k hk hk' => by
        have hk0 := hk
        rw [hsc] at hk
        obtain ⟨k', e, r⟩ := lookup_relS hk
        have no : ¬ (k' = .local ∨ k' = .cell) := fun hh => by
          rcases ok.own _ (PySem.mem_of_lookup e) hh with e' | e'
          · obtain ⟨p, hp, hpy⟩ := List.mem_map.mp e'
            have e3 := ok.ix p hp
            have : p.1 = y := hpy
            rw [this] at e3
            exact hne (List.mem_map.mpr ⟨p, hp, nodup_ix hN e3 e1⟩)
          · exact e' (List.mem_of_getElem? e1)
        rcases r with rfl | ⟨rfl, rfl⟩
        · rcases hk' with rfl | rfl | rfl
          · exact absurd (.inl rfl) no
          · exact absurd (.inr rfl) no
          · exact ⟨e, .inr hk0⟩
        · exact ⟨e, .inl hk0⟩
      have e3 : Vis cenv.scope y := e3
      rcases e3 with e3 | e3 | e3
      · exact key _ e3 (.inl rfl)
      · exact key _ e3 (.inr (.inl rfl))
      · exact key _ e3 (.inr (.inr rfl))
    obtain ⟨m, hn, hl⟩ := I.loc
    have hvis : Vis X.env.scope y := (ok.free _ (PySem.mem_of_lookup hfr.1) rfl).elim (fun k => .inr (.inl k)) (fun k => .inr (.inr k))
    obtain ⟨w, r, q⟩ := hl i y av e1 e2 hvis
    refine ⟨w, r, .inr ⟨hfr.2, ?_⟩⟩
    obtain ⟨c, h1, h2⟩ := look hfr.1
    rcases q with ⟨k, _⟩ | ⟨_, c', e', z⟩
    · have k : X.env.scope.names.lookup y = some .local := k
      rcases ok.free _ (PySem.mem_of_lookup hfr.1) rfl with k' | k' <;> rw [show X.env.scope.names.lookup y = _ from k'] at k <;> cases k
    · rw [h2] at e'; cases e'
      exact ⟨c, h1, z.keeps kp⟩
  · have e : cenv.cells.lookup y = some c := e
    rcases mem e with ⟨h1, _⟩ | ⟨_, z⟩
    · obtain ⟨w, z⟩ := I.cell y c h1
      exact ⟨w, z.keeps kp⟩
    · exact ⟨_, z⟩
  · show H cenv.locals = none
    rw [hL]; exact I.hok.fresh (Nat.le_refl _)
  · have e : cenv.cells.lookup y = some c := e
    rcases mem e with ⟨h1, _⟩ | ⟨h1, _⟩
    · exact I.freeC y c h1
    · exact I.hok.fresh (Nat.le_of_succ_le h1)
  · exact absurd (show p ∈ ([] : List (Addr × Obj)) ++ [] from hp) (by simp)

/-- an item appended to a tracked list -/
theorem app_ok {E : Value → Shared → Prop} {D : Addr} {xs : List V} {y : V} {v : Value} {Q : Value → Shared → Prop} (I : Inv X pins σ H s) (hD : H D = some (.lst xs)) (hz : xs.length < sizeLine) (r : RelV y v)
    (h : ∀ s', Inv X pins σ (upd H D (.lst (xs ++ [y]))) s' → Q .none s') : wpAny (model X.prog X.w) X.A (call (.builtin "list.append") [.ref D, v]) Q E s := by
  obtain ⟨hz', its, n, ri, e⟩ := I.hok D _ hD
  have hl := ri.length
  refine append_at (hsz := by rw [List.size_toArray]; omega) e fun h' sb ho' => ?_
  refine h { s with heap := h' } (I.write (t' := s.toks) (by rw [hD]; trivial) (.inl rfl) (fun b u hb q => (sb.2 b hb).trans q) ⟨_, ho'⟩ ⟨by rw [List.length_append]; exact hz, its ++ [v], n + 1, ri.append (.cons r .nil), ?_⟩)
  rw [ho']
  simp

/-- a clause's tests -/
def PTs (X : Cx) (ifs : List Expr) (t : TT) : Prop :=
  ∀ (pins : List (Addr × Obj)) (s : Shared) (σ : St) (H : Hp) (Q : Bool → Hp → Prop), Inv X pins σ H s → t σ H Q →
    wpAny (model X.prog X.w) X.A (forIn ifs true fun c r => if r = true then do let ok ← isTrue c X.env (eval c X.env); pure (ForInStep.yield ok) else pure (ForInStep.yield r)) (TP X pins σ Q) X.xe s
@[reducible] def tYes : TT := fun _ H Q => Q true H
theorem pts_nil : PTs X [] tYes := fun _ _ _ H _ I h => wpAny_tests_nil ⟨H, I, h⟩
theorem pts_one {c : Expr} {t : TT} (h : PT X c t) : PTs X [c] t := fun pins s σ H Q I hw => wpAny_tests_one (h pins s σ H Q I hw)
end

theorem thnF {α : Type} {t : Sem α} {Q Q' : α → Shared → Prop} {M : Model} {A : Around} {E : Value → Shared → Prop} {s : Shared} (h : wpAny M A t Q (fun _ _ => False) s) (hQ : ∀ a s, Q a s → Q' a s) : wpAny M A t Q' E s := wpAny_mono h hQ fun _ _ z => False.elim z

/-- the loop of a list comprehension's block, the target of any form (codeAny_compLoop_tests asks a target that no tuple goes to; statement and proof follow it, PyProof/CompMap.lean:41-61, with the step letOwnedTupleGo kept) -/
theorem compLoop_any {prog : Program} {w : World} {A : Around} {R : Result → Shared → Prop} {s : Shared} {elt target iter : Expr} {ifs : List Expr} {scope : Scope} {pos : Pos} {it acc : Value} {env : Env} (I : Nat → Shared → Prop)
    (turn : ∀ n s, I n s → wpAny (model prog w) A (pyNext it) (fun r s₁ => match r with
      | none => R (.ok .next) s₁
      | some v => wpAny (model prog w) A (letOwnedTupleGo target it v) (fun _ s₁' => wpAny (model prog w) A (assign target env v) (fun _ s₂ =>
          wpAny (model prog w) A (forIn ifs true fun c r => if r = true then do let ok ← isTrue c env (eval c env); pure (ForInStep.yield ok) else pure (ForInStep.yield r)) (fun ok s₃ =>
            if ok = true then wpAny (model prog w) A (eval elt env) (fun x s₄ =>
              wpAny (model prog w) A (call (.builtin "list.append") [acc, x]) (fun _ s₅ => ∃ m, m < n ∧ I m s₅) (notedBy (model prog w) A env fun e s' => R (.error e) s') s₄) (notedBy (model prog w) A env fun e s' => R (.error e) s') s₃
            else ∃ m, m < n ∧ I m s₃) (notedBy (model prog w) A env fun e s' => R (.error e) s') s₂) (notedBy (model prog w) A env fun e s' => R (.error e) s') s₁') (notedBy (model prog w) A env fun e s' => R (.error e) s') s₁) (notedBy (model prog w) A env fun e s' => R (.error e) s') s)
    (n : Nat) (h : I n s) :
    codeAny (model prog w) A (.compLoop (.ListComp elt [⟨target, iter, ifs, 0⟩] scope pos) 0 it acc env) R s := by
  refine codeAny_loop rfl I (fun n s hI => ?_) n h
  show wpAny _ A ((compTurn (.ListComp elt [⟨target, iter, ifs, 0⟩] scope pos) 0 it acc env).onRaise (fun x => do noteFrame x env; theTreesLotGoes x)) _ _ s
  refine wpAny_noted ?_
  rw [compTurn_list]
  refine wpAny_bind (wpAny_standAt (wpAny_bind (wpAny_mono (turn n s hI) (fun r s₁ h₁ => ?_) fun _ _ h' => h')))
  cases r with
  | none => exact wpAny_pure h₁
  | some v =>
    refine wpAny_bind (wpAny_mono h₁ (fun _ s₁' h₁' => ?_) fun _ _ h' => h')
    refine wpAny_bind (wpAny_mono h₁' (fun _ s₂ h₂ => wpAny_bind (wpAny_mono h₂ (fun ok s₃ h₃ => ?_) fun _ _ h' => h')) fun _ _ h' => h')
    cases ok with
    | false => exact wpAny_pure ⟨rfl, h₃⟩
    | true =>
      exact wpAny_bind (wpAny_bind (wpAny_mono h₃ (fun x s₄ h₄ => wpAny_bind (wpAny_mono h₄ (fun _ s₅ h₅ => wpAny_pure (wpAny_pure ⟨rfl, h₅⟩)) fun _ _ h' => h')) fun _ _ h' => h'))

section
variable {X : Cx}
/-- [elt for target in iter if ..]: D the new list; W by the turn and a measure, Nx what a turn is to reach -/
def tLc (wi : TI) (g : TG) (tt : TT) (te : TE) (vs : List Nat) : TE := fun σ H Q => wi σ H fun J H1 => ∀ D, H1 D = none → ∃ W : Nat → Nat → Hp → Prop, (∃ m, W 0 m (upd H1 D (.lst []))) ∧ ∀ i m H, W i m H →
  (J.stop i H ∧ Q (.ref D) H) ∨ (J.go i H ∧ ∃ Nx : Hp → Prop, (∀ H', Nx H' → ∃ m', m' < m ∧ W (i + 1) m' H') ∧ ∀ x H', J.yld i H x H' → g x (wipe σ vs) H' fun σ2 H2 => wipe σ2 vs = wipe σ vs ∧ tt σ2 H2 fun b H3 =>
    if b = true then te σ2 H3 fun y H4 => ∃ acc, H4 D = some (.lst acc) ∧ acc.length < sizeLine ∧ Nx (upd H4 D (.lst (acc ++ [y]))) else Nx H3)
theorem lc_core {pins : List (Addr × Obj)} {s : Shared} {σ : St} {H : Hp} {Q : VK} {elt tg iter : Expr} {ifs : List Expr} {scope : Scope} {own : List (Str × Nat)} {pos pos' : Pos} {wi : TI} {g : TG} {tt : TT} {te : TE} {use : Option (Value → Sem Unit)} {Qf : Value → Shared → Prop}
    (hc : X.calm = true) (hN : X.N.Nodup) (I : Inv X pins σ H s) (hi : PI X tg iter wi) (ok : BlkOk X.N X.env.scope scope own)
    (hg : ∀ (s : Shared) (H : Hp) (C : Addr) (cl : List (Str × Addr)) (fp : List Addr), PG (X.blk s H scope (compEnvC scope cl C X.env) fp) tg g) (ht : ∀ (s : Shared) (H : Hp) (C : Addr) (cl : List (Str × Addr)) (fp : List Addr), PTs (X.blk s H scope (compEnvC scope cl C X.env) fp) ifs tt)
    (he : ∀ (s : Shared) (H : Hp) (C : Addr) (cl : List (Str × Addr)) (fp : List Addr), PE (X.blk s H scope (compEnvC scope cl C X.env) fp) elt te) (hs : ∀ x, foldedSetIterable iter X.env x = pure x)
    (h : tLc wi g tt te (own.map (·.2)) σ H Q)
    (hRR : ∀ D C s' m H', Inv X pins σ H' s' → Q (.ref D) H' → s'.heap.Ns C m → FpOk X pins H' C → compPost (model X.prog X.w) X.A X.xe use Qf (.ref D) C (.ok .next) s') :
    wpAny (model X.prog X.w) X.A (comprehension (.ListComp elt [⟨tg, iter, ifs, 0⟩] scope pos) scope X.env pos' (newList []) false (eval iter X.env) use) Qf X.xe s := by
  have hfree : ∀ y ∈ scope.names, y.2 = .free → ∃ c, X.env.cells.lookup y.1 = some c := fun y hy e => by
    rcases ok.free y hy e with k | k
    · exact I.ok.has _ (.inl k)
    · exact I.ok.has _ (.inr k)
  refine wpAny_comprehension_free (use := use) rfl hs (closure_ok hfree) ok.kind (fun y hy e => by rw [ok.uniq y hy, e])
    (thn (hi pins s σ H _ I h) fun xv s1 hx => thn hx fun itv s2 h2 => ?_)
  obtain ⟨it, fp, tn, J, H2, e, I2, T, st2, f2, q⟩ := h2
  subst e
  refine wpAny_newObj_type (newEnv_comp ?_) (by show 0 ≤ sizeLine; decide)
  generalize hD : s2.heap.objs.size = D
  have hDn : H2 D = none := I2.hok.fresh (Nat.le_of_eq hD)
  obtain ⟨W, ⟨m0, w0⟩, turn⟩ := q D hDn
  -- the new list
  generalize hs3 : ({ s2 with heap := s2.heap.push { cls := .type "list", data := .seq ([] : List Value).toArray } } : Shared) = s3
  have I3 : Inv X pins σ (upd H2 D (.lst [])) s3 := by
    rw [← hs3]
    refine I2.laid (t' := s2.toks) (fun b o e => Heap.get?_push_of_some _ e) (Nat.le_of_eq hD) ⟨Nat.zero_le _, [], 0, .nil, ?_⟩
    rw [← hD]
    exact Heap.get?_push_size _ rfl
  have h3 : s3.heap = s2.heap.push { cls := .type "list", data := .seq ([] : List Value).toArray } := by rw [← hs3]
  have sz : ∀ b ∈ fp, b < s2.heap.objs.size := fun b hb => by
    obtain ⟨o, e, _⟩ := T.obj _ _ st2 b hb
    exact Heap.lt_size e
  have f3 : ∀ b ∈ fp, FpOk X pins (upd H2 D (.lst [])) b ∧ b < s3.heap.objs.size := fun b hb => by
    have hlt := sz b hb
    refine ⟨⟨?_, (f2 b hb).2⟩, by rw [h3, Heap.size_push]; exact Nat.lt_succ_of_lt hlt⟩
    rw [upd_ne (by rw [← hD]; exact Nat.ne_of_lt hlt)]
    exact (f2 b hb).1
  have st3 : tn 0 s3.heap := T.keep _ _ _ st2 fun b _ o e => by rw [h3]; exact Heap.get?_push_of_some _ e
  have I4 := block_start I3 ok hN f3
  have pg := hg s3 (upd H2 D (.lst [])) s3.heap.objs.size (cellsFrom (s3.heap.objs.size + 1) scope.names (cloFrom X.env.cells scope.names [])) fp
  have pt := ht s3 (upd H2 D (.lst [])) s3.heap.objs.size (cellsFrom (s3.heap.objs.size + 1) scope.names (cloFrom X.env.cells scope.names [])) fp
  have pe := he s3 (upd H2 D (.lst [])) s3.heap.objs.size (cellsFrom (s3.heap.objs.size + 1) scope.names (cloFrom X.env.cells scope.names [])) fp
  show codeAny _ _ (.compStart (.ListComp elt [⟨tg, iter, ifs, 0⟩] scope pos) 0 (.ref it) (.ref D) (compEnvC scope (cellsFrom (s3.heap.objs.size + 1) scope.names (cloFrom X.env.cells scope.names [])) s3.heap.objs.size X.env)) (compPost (model X.prog X.w) X.A X.xe use Qf (.ref D) s3.heap.objs.size) { s3 with heap := pushCells (s3.heap.push { cls := .type "dict", data := .dict #[] }) scope.names }
  have nfp : ∀ b ∈ fp, (upd H2 D (.lst [])) b = none := fun b hb => (f3 b hb).1.1
  generalize hce : compEnvC scope (cellsFrom (s3.heap.objs.size + 1) scope.names (cloFrom X.env.cells scope.names [])) s3.heap.objs.size X.env = ce at I4 pg pt pe ⊢
  have cL : ce.locals = s3.heap.objs.size := by subst hce; rfl
  generalize hH3 : upd H2 D (.lst []) = H3 at I3 I4 pg pt pe w0 nfp f3
  generalize hs4 : ({ s3 with heap := pushCells (s3.heap.push { cls := .type "dict", data := .dict #[] }) scope.names } : Shared) = s4 at I4 ⊢
  have st4 : tn 0 s4.heap := T.keep _ _ _ st3 fun b _ o e => by rw [← hs4]; exact pushCells_keeps _ _ _ _ (Heap.get?_push_of_some _ e)
  have stat : ∀ {σ' : St} {H' : Hp} {s' : Shared}, Inv (X.blk s3 H3 scope ce fp) [] σ' H' s' → (∀ b ∈ fp, H' b = none) → ∀ b ∈ fp, FpOk (X.blk s3 H3 scope ce fp) [] H' b := fun {σ' H' s'} I' hn b hb =>
    ⟨hn b hb, (I'.ok.exf b hb).1, I'.ok.exfs b hb, .inl hb, fun x c e => (I'.ok.exf b hb).2 x c e, fun p hp => absurd (show p ∈ ([] : List (Addr × Obj)) ++ [] from hp) (by simp)⟩
  have loop : codeAny (model X.prog X.w) X.A (.compLoop (.ListComp elt [⟨tg, iter, ifs, 0⟩] scope pos) 0 (.ref it) (.ref D) ce) (compPost (model X.prog X.w) X.A X.xe use Qf (.ref D) s3.heap.objs.size) s4 := by
    refine compLoop_any (fun n s' => ∃ i H', Inv (X.blk s3 H3 scope ce fp) [] (wipe σ (own.map (·.2))) H' s' ∧ tn i s'.heap ∧ (∀ b ∈ fp, H' b = none) ∧ W i n H') ?_ m0 ⟨0, H3, I4, st4, nfp, w0⟩
    rintro n s5 ⟨i, H5, I5, st5, n5, w5⟩
    rcases turn i n H5 w5 with ⟨stop, qq⟩ | ⟨go, Nx, hNx, step⟩
    · have td := T.done (X.blk s3 H3 scope ce fp) rfl rfl rfl hc i [] s5 _ H5 (fun _ _ => False) I5 (stat I5 n5) st5 stop
      refine thnF td fun r s6 ⟨hr, I6⟩ => ?_
      subst hr
      -- back in the def's context
      have I7 : Inv X pins σ H5 s6 := I3.call' (ch := fp) I6.os I6.base I6.hok I6.bare fun b hb => ⟨(f3 b hb).1.2.2.2.1, (f3 b hb).1.2.1, (f3 b hb).1.2.2.2.2.1, (f3 b hb).1.2.2.2.2.2⟩
      have nC : H5 s3.heap.objs.size = none := by
        have z : H5 ce.locals = none := I6.free
        rw [cL] at z
        exact z
      obtain ⟨m, hn, _⟩ := I6.loc
      have hn : s6.heap.Ns ce.locals m := hn
      rw [cL] at hn
      exact hRR D s3.heap.objs.size s6 m H5 I7 qq hn (I3.fpOk (Nat.le_refl _) nC)
    · have ti := T.item (X.blk s3 H3 scope ce fp) rfl rfl rfl hc i [] s5 _ H5 (fun _ _ => False) I5 (stat I5 n5) st5 go
      refine thnF ti fun r s6 ⟨u, hr, h6⟩ => ?_
      subst hr
      refine thnF h6 fun _ s7 ⟨x, H7, I7, r7, y7, st7, n7⟩ => ?_
      have I7' := I7.pinned (stat I7 n7) (T.obj _ _ st7)
      refine thnF (pg _ s7 _ H7 x u _ I7' r7 (step x H7 y7)) fun _ s8 ⟨σ8, H8, I8, hw8, q8⟩ => ?_
      refine thnF (pt _ s8 σ8 H8 _ I8 q8) fun b s9 ⟨H9, I9, q9⟩ => ?_
      -- the turn's end
      have fin : ∀ {s' : Shared} {H' : Hp}, Inv (X.blk s3 H3 scope ce fp) ([] ++ pinsAt fp s7.heap) σ8 H' s' → Nx H' → ∃ m, m < n ∧ ∃ i H', Inv (X.blk s3 H3 scope ce fp) [] (wipe σ (own.map (·.2))) H' s' ∧ tn i s'.heap ∧ (∀ b ∈ fp, H' b = none) ∧ W i m H' := fun {s' H'} I' nx => by
        obtain ⟨m', hm, w'⟩ := hNx H' nx
        have pin' : ∀ b ∈ fp, ∀ o, s7.heap.get? b = some o → s'.heap.get? b = some o ∧ H' b = none := fun b hb o e =>
          let z := I'.pin (b, o) (List.mem_append_right _ (List.mem_append_right _ (mem_pinsAt hb e)))
          ⟨z.1, z.2.1⟩
        have hl : (wipe σ (own.map (·.2))).length = σ8.length := by rw [← hw8, wipe_length]
        refine ⟨m', hm, i + 1, H', (I'.unpinned (pins := [])).weak hl (fun j v e => ?_), T.keep _ _ _ st7 fun b hb o e => (pin' b hb o e).1, fun b hb => ?_, w'⟩
        · rw [← hw8] at e
          exact (wipe_some e).1
        · obtain ⟨o, e, _⟩ := T.obj _ _ st7 b hb
          exact (pin' b hb o e).2
      cases b with
      | false =>
        simp only [Bool.false_eq_true, if_false] at q9 ⊢
        exact fin I9 q9
      | true =>
        simp only [if_true] at q9 ⊢
        refine thnF (pe _ s9 σ8 H9 _ I9 q9) fun z s10 ⟨yv, H10, I10, r10, acc, hD10, hz10, nx⟩ => ?_
        exact app_ok (X := X.blk s3 H3 scope ce fp) I10 hD10 hz10 r10 fun s11 I11 => fin I11 nx
  exact codeAny_compStart_list loop (T.self X.A 0 _ _ _ st4 loop)
/-- as a value -/
theorem pe_lc {elt tg iter : Expr} {ifs : List Expr} {scope : Scope} {own : List (Str × Nat)} {pos : Pos} {wi : TI} {g : TG} {tt : TT} {te : TE} (hc : X.calm = true) (hN : X.N.Nodup) (hi : PI X tg iter wi) (ok : BlkOk X.N X.env.scope scope own)
    (hg : ∀ (s : Shared) (H : Hp) (C : Addr) (cl : List (Str × Addr)) (fp : List Addr), PG (X.blk s H scope (compEnvC scope cl C X.env) fp) tg g) (ht : ∀ (s : Shared) (H : Hp) (C : Addr) (cl : List (Str × Addr)) (fp : List Addr), PTs (X.blk s H scope (compEnvC scope cl C X.env) fp) ifs tt)
    (he : ∀ (s : Shared) (H : Hp) (C : Addr) (cl : List (Str × Addr)) (fp : List Addr), PE (X.blk s H scope (compEnvC scope cl C X.env) fp) elt te) (hs : ∀ x, foldedSetIterable iter X.env x = pure x := by intro _; rfl) :
    PE X (.ListComp elt [⟨tg, iter, ifs, 0⟩] scope pos) (tLc wi g tt te (own.map (·.2))) := by
  intro pins s σ H Q I h
  rw [eval_ListComp]
  refine lc_core hc hN I hi ok hg ht he hs h fun D C s' m H' I' q hn f => ⟨m, hn, fun h'' sb => ?_⟩
  obtain ⟨f0, f1, f2, f3, f4, f5⟩ := f
  exact ⟨.ref D, H', I'.turned (t' := s'.toks) (fun b o hb e => (sb.2 b hb).trans e) f0 f1 f3 f4 f5, rfl, q⟩
/-- name = [..] on one line, the name a local -/
theorem ps_setLc {i : Nat} {y : Str} {py : Pos} {elt tg iter : Expr} {ifs : List Expr} {scope : Scope} {own : List (Str × Nat)} {pos spos : Pos} {wi : TI} {g : TG} {tt : TT} {te : TE} (hc : X.calm = true) (hN : X.N.Nodup) (hy : X.N[i]? = some y) (hyl : X.env.scope.names.lookup y = some .local)
    (hsw : swapsWith (.ListComp elt [⟨tg, iter, ifs, 0⟩] scope pos) (some (.Name y py)) spos.line X.env = pure true) (hi : PI X tg iter wi) (ok : BlkOk X.N X.env.scope scope own)
    (hg : ∀ (s : Shared) (H : Hp) (C : Addr) (cl : List (Str × Addr)) (fp : List Addr), PG (X.blk s H scope (compEnvC scope cl C X.env) fp) tg g) (ht : ∀ (s : Shared) (H : Hp) (C : Addr) (cl : List (Str × Addr)) (fp : List Addr), PTs (X.blk s H scope (compEnvC scope cl C X.env) fp) ifs tt)
    (he : ∀ (s : Shared) (H : Hp) (C : Addr) (cl : List (Str × Addr)) (fp : List Addr), PE (X.blk s H scope (compEnvC scope cl C X.env) fp) elt te) (hs : ∀ x, foldedSetIterable iter X.env x = pure x := by intro _; rfl) :
    PS X (.Assign [.Name y py] (.ListComp elt [⟨tg, iter, ifs, 0⟩] scope pos) spos) (tAsg (tLc wi g tt te (own.map (·.2))) (gName i)) := by
  intro pins s σ H D I h
  rw [exec_Assign_Name_used _ _ _ _ hsw]
  refine wpAny_bind (wpAny_standAt (wpAny_bind ?_))
  show wpAny _ X.A (do let _ ← comprehension (.ListComp elt [⟨tg, iter, ifs, 0⟩] scope pos) scope X.env (firstIterPos [⟨tg, iter, ifs, 0⟩] pos) (newList []) false (eval iter X.env) (some (assign (.Name y py) X.env))) _ _ s
  have h : tLc wi g tt te (own.map (·.2)) σ H (fun x H1 => gName i x σ H1 D.nx) := h
  refine wpAny_bind (thn (lc_core (Qf := fun _ s' => SP X pins D .next s') hc hN I hi ok hg ht he hs h fun L C s' m H' I' q hn f => ?_) fun _ s' hq => wpAny_pure (wpAny_pure hq))
  show wpAny _ _ (assign (.Name y py) X.env (.ref L)) _ _ _
  refine wpAny_assign_Name (store_ok2 (v := V.ref L) I' hN hy (.inl hyl) rfl (fun s2 I2 ⟨a, sb, ha⟩ => ?_) (.inr hyl))
  obtain ⟨f0, f1, f2, f3, f4, f5⟩ := f
  have haC : C ≠ a := by
    rcases ha with z | z
    · rw [z]; exact f1
    · exact fun e => f4 y a z e.symm
  refine ⟨m, hn.sameBut sb haC, fun h3 sb3 => ?_⟩
  exact ⟨_, H', I2.turned (t' := s2.toks) (fun b o hb e => (sb3.2 b hb).trans e) f0 f1 f3 f4 f5, q⟩
theorem sw_true {elt : Expr} {gs : List Comprehension} {scope : Scope} {pos py : Pos} {y : Str} {l : Nat} {env : Env} (hk : env.scope.kind = .function) (hy : env.scope.names.lookup y = some .local) (hl : (py.line == pos.line) = true)
    (ha : (scope.names.any fun (n, k) => n == y && (k == .local || k == .cell)) = false) : swapsWith (.ListComp elt gs scope pos) (some (.Name y py)) l env = pure true := by
  have ky : env.kindOf y = some .local := hy
  have hb : env.blockKind = .function := by unfold Env.blockKind; rw [hk]; rfl
  unfold swapsWith
  have e1 : (Expr.ListComp elt gs scope pos).pos = pos := rfl
  have e2 : (Expr.Name y py).pos = py := rfl
  simp only [hb, ky, ha, e1, e2, hl]
  rfl
end

/-! ### the forms one uses -/
/-- over a range: Pv by the turn and the heap (the new list at D within) -/
theorem lc_range {lo : Int} {n : Nat} {g : TG} {tt : TT} {te : TE} {vs : List Nat} {σ : St} {H1 : Hp} {D : Addr} {Qd : Hp → Prop} (Pv : Nat → Hp → Prop) (h0 : Pv 0 (upd H1 D (.lst [])))
    (hs : ∀ i H, i < n → Pv i H → g (.int (lo + i)) (wipe σ vs) H fun σ2 H2 => wipe σ2 vs = wipe σ vs ∧ tt σ2 H2 fun b H3 =>
      if b = true then te σ2 H3 fun y H4 => ∃ acc, H4 D = some (.lst acc) ∧ acc.length < sizeLine ∧ Pv (i + 1) (upd H4 D (.lst (acc ++ [y]))) else Pv (i + 1) H3) (hd : ∀ H, Pv n H → Qd H) :
    ∃ W : Nat → Nat → Hp → Prop, (∃ m, W 0 m (upd H1 D (.lst []))) ∧ ∀ i m H, W i m H →
      ((Itr lo n).stop i H ∧ Qd H) ∨ ((Itr lo n).go i H ∧ ∃ Nx : Hp → Prop, (∀ H', Nx H' → ∃ m', m' < m ∧ W (i + 1) m' H') ∧ ∀ x H', (Itr lo n).yld i H x H' → g x (wipe σ vs) H' fun σ2 H2 => wipe σ2 vs = wipe σ vs ∧ tt σ2 H2 fun b H3 =>
        if b = true then te σ2 H3 fun y H4 => ∃ acc, H4 D = some (.lst acc) ∧ acc.length < sizeLine ∧ Nx (upd H4 D (.lst (acc ++ [y]))) else Nx H3) := by
  refine ⟨fun i m H => m = n - i ∧ i ≤ n ∧ Pv i H, ⟨n, by simp, Nat.zero_le _, h0⟩, ?_⟩
  rintro i m H ⟨rfl, hi, p⟩
  by_cases hlt : i < n
  · refine .inr ⟨hlt, Pv (i + 1), fun H' p' => ⟨n - (i + 1), by omega, rfl, hlt, p'⟩, fun x H' y => ?_⟩
    obtain ⟨e, y⟩ := y
    subst e y
    exact hs i _ hlt p
  · have e : i = n := by omega
    subst e
    exact .inl ⟨Nat.le_refl _, hd H p⟩
/-- over a list that the block leaves as it is -/
theorem lc_list {K : PySem.W.Frag} {a : Addr} {xs : List V} {g : TG} {tt : TT} {te : TE} {vs : List Nat} {σ : St} {H1 : Hp} {D : Addr} {Qd : Hp → Prop} (Pv : Nat → Hp → Prop) (h0 : Pv 0 (upd H1 D (.lst []))) (hl : ∀ i H, i ≤ xs.length → Pv i H → SqL K H a xs)
    (hs : ∀ i x H, xs[i]? = some x → Pv i H → g x (wipe σ vs) H fun σ2 H2 => wipe σ2 vs = wipe σ vs ∧ tt σ2 H2 fun b H3 =>
      if b = true then te σ2 H3 fun y H4 => ∃ acc, H4 D = some (.lst acc) ∧ acc.length < sizeLine ∧ Pv (i + 1) (upd H4 D (.lst (acc ++ [y]))) else Pv (i + 1) H3) (hd : ∀ H, Pv xs.length H → Qd H) :
    ∃ W : Nat → Nat → Hp → Prop, (∃ m, W 0 m (upd H1 D (.lst []))) ∧ ∀ i m H, W i m H →
      ((Itl K a).stop i H ∧ Qd H) ∨ ((Itl K a).go i H ∧ ∃ Nx : Hp → Prop, (∀ H', Nx H' → ∃ m', m' < m ∧ W (i + 1) m' H') ∧ ∀ x H', (Itl K a).yld i H x H' → g x (wipe σ vs) H' fun σ2 H2 => wipe σ2 vs = wipe σ vs ∧ tt σ2 H2 fun b H3 =>
        if b = true then te σ2 H3 fun y H4 => ∃ acc, H4 D = some (.lst acc) ∧ acc.length < sizeLine ∧ Nx (upd H4 D (.lst (acc ++ [y]))) else Nx H3) := by
  refine ⟨fun i m H => m = xs.length - i ∧ i ≤ xs.length ∧ Pv i H, ⟨xs.length, by simp, Nat.zero_le _, h0⟩, ?_⟩
  rintro i m H ⟨rfl, hi, p⟩
  have q := hl i H hi p
  by_cases hlt : i < xs.length
  · refine .inr ⟨⟨xs, xs[i], q, by simp [hlt]⟩, Pv (i + 1), fun H' p' => ⟨xs.length - (i + 1), by omega, rfl, hlt, p'⟩, fun x H' y => ?_⟩
    obtain ⟨e, y⟩ := y
    subst e
    exact hs i x _ (y xs q) p
  · have e : i = xs.length := by omega
    subst e
    exact .inl ⟨⟨xs, q, Nat.le_refl _⟩, hd H p⟩
end L2

namespace L2
open PySem PySem.Spec PyProof.Rows

section
variable {prog : Program} {w : World} {A : Around} {R : Result → Shared → Prop} {s : Shared} {elt t0 i0 t1 i1 : Expr} {ifs0 ifs1 : List Expr} {scope : Scope} {pos : Pos} {it acc : Value} {env : Env}
end

section
variable {X : Cx}
end
end L2

namespace L2
open PySem PySem.Spec PyProof.Rows

/-! ### lists of pairs as tables -/
section
variable {κ : Type} [DecidableEq κ]

end

/-! ### a tracked dict, its keys ints and texts or tuples of these -/

section
variable {P : Program} {w : World} {H : Hp} {h : Heap} {a : Addr}
end

section
variable {X : Cx} {pins : List (Addr × Obj)} {σ : St} {H : Hp} {s : Shared} {a : Addr} {y v : V} {u r : Value} {o : Option V} {A : Around} {E : Value → Shared → Prop}

end

section
variable {X : Cx} {pins : List (Addr × Obj)} {σ : St} {H : Hp} {s : Shared} {a : Addr} {kvs : List (Key × V)} {k : Key} {u : Value} {A : Around} {E : Value → Shared → Prop}
end

/-! ### readings and rules -/

section
variable {X : Cx} {o i e value : Expr} {pos pos' tpos : Pos} {td ty tv : TE}
end

/-! ### displays -/
section
variable {X : Cx} {pos : Pos}
end

/-! ### methods -/

section
variable {X : Cx} {pins : List (Addr × Obj)} {σ : St} {H : Hp} {s : Shared} {a : Addr} {y d : V} {u r : Value} {o : Option V} {A : Around} {E : Value → Shared → Prop}
end

section
variable {X : Cx} {o e f : Expr} {apos cpos : Pos} {td ty tx : TE}
end

/-! ### dict(d): a copy -/
section
variable {X : Cx} {pins : List (Addr × Obj)} {σ : St} {H : Hp} {s : Shared} {a : Addr} {kvs : List (Key × V)} {A : Around} {E : Value → Shared → Prop}
end

section
variable {X : Cx} {pins : List (Addr × Obj)} {σ : St} {H : Hp} {s : Shared} {a : Addr} {y : V} {u : Value} {A : Around} {E : Value → Shared → Prop}
end
end L2

namespace L2
open PySem PySem.Spec PyProof.Rows

section
variable {prog : Program} {w : World} {A : Around} {E : Value → Shared → Prop}

end

section
variable {X : Cx}
end
end L2

namespace L2
open PySem PySem.Spec PyProof.Rows

section
variable {X : Cx} {pins : List (Addr × Obj)} {σ : St} {H : Hp} {s : Shared} {h' : Heap}
/-- .. and one new object is laid -/
theorem Inv.turnedNew {t' : Nat} {ch : List Addr} {T : Addr} {ob : HO} (I : Inv X pins σ H s) (k : ∀ b o, b ∉ ch → s.heap.get? b = some o → h'.get? b = some o) (hf : ∀ b ∈ ch, FpOk X pins H b) (hT : s.heap.objs.size ≤ T)
    (new : ObjOk X.prog X.w (upd H T ob) h' T ob) : Inv X pins σ (upd H T ob) { s with heap := h', toks := t' } := by
  have hn : H T = none := I.hok.fresh hT
  have nit : ∀ b u, H b = some u → b ∉ ch := fun b u e z => by
    have q := (hf b z).1
    rw [q] at e; cases e
  refine I.step (g' := s.gens) (d' := s.drawn) (ch := ch) (fun b hb => ⟨(hf b hb).2.2.2.1, (hf b hb).2.1, (hf b hb).2.2.2.2.1, (hf b hb).2.2.2.2.2⟩) (fun b o _ _ hc e _ => k b o hc e) (fun b o _ _ hc e _ => ⟨o.slots, k b o hc e⟩)
    (fun b o _ e n => ?_) (fun b o hc e => ⟨o, k b o hc e⟩) (fun b xs e => ?_) (fun b o u e => ?_) (fun b ps e => ⟨#[], ?_⟩) (fun m hm => ?_) (fun b u e => ?_) I.bare
  · rw [upd_ne (Nat.ne_of_lt (Nat.lt_of_lt_of_le (Heap.lt_size e) hT))]; exact n
  · rw [upd_ne (ne_of_none e hn)]; exact e
  · rw [upd_ne (ne_of_none e hn)]; exact e
  · rw [upd_ne (ne_of_none e hn), e]; simp
  · obtain ⟨o, es, ep, ho, r⟩ := hm
    exact ⟨o, es, ep, k _ o (fun z => (hf _ z).2.1 rfl) ho, r⟩
  · by_cases hb : b = T
    · subst hb
      rw [upd_same] at e
      cases e
      exact new
    · rw [upd_ne hb] at e
      refine (I.hok b u e).stay (fun c v hc q => k c v ?_ q) (fun c q => by rw [upd_ne (ne_of_none q hn)]; exact q) fun c xs q => by rw [upd_ne (ne_of_none q hn)]; exact q
      rcases hc with z | z
      · rw [z]; exact nit b u e
      · exact nit c _ z

/-! ### locking a thing while a statement runs -/
end
section
variable {X : Cx}

/-! ### one iterator just laid -/
end

/-! ### range with a step -/
section
variable {X : Cx} {tg : Expr}
end

/-! ### reversed(list) -/
section
variable {X : Cx} {tg : Expr}
end

/-! ### a str -/

/-! ### a dict's keys: any dict's entries -/
section
variable {prog : Program} {w : World} {A : Around} {E : Value → Shared → Prop} {s : Shared}
end

/-! ### a locked dict -/
section
variable {X : Cx} {pins : List (Addr × Obj)} {σ : St} {H : Hp} {s : Shared} {d : Addr} {o : Obj}
end

section
variable {P : Program} {w : World} {K : PySem.W.Frag} {tg : Expr} {d : Addr} {o : Obj} {es : Array DictEntry} {ep : Nat}
end

/-! ### for k in d, d.keys(), d.values(), d.items() -/
section
variable {X : Cx} {tg e : Expr} {td : TE} {apos cpos : Pos}
end

/-! ### enumerate(list) -/
/-- the list at a as it stands at each turn, each item in a new pair -/
def Ite (K : PySem.W.Frag) (a : Addr) : It :=
  ⟨fun i H => ∃ (xs : List V) (x : V), SqL K H a xs ∧ xs[i]? = some x, fun i H v H' => ∃ T x, v = .ref T ∧ H T = none ∧ H' = upd H T (.tup [.int (i : Nat), x]) ∧ ∀ xs, SqL K H a xs → xs[i]? = some x, fun i H => ∃ xs : List V, SqL K H a xs ∧ xs.length ≤ i⟩
theorem turn_enum {P : Program} {w : World} {K : PySem.W.Frag} {elts : List Expr} {kk : Nat} {tpos : Pos} (a e it : Addr) :
    Turn P w K (.Tuple elts kk tpos) (Ite K a) [e, it] e (fun i h => (∃ old, IsEnum h e it ((i : Nat) : Int) old) ∧ h.IsListIter it a i ∧ e ≠ it) where
  mem := by simp
  obj := fun i h st b hb => by
    obtain ⟨⟨old, he⟩, ⟨o, ho, hc, hd⟩, _⟩ := st
    have e' : b = e ∨ b = it := by simpa using hb
    rcases e' with z | z
    · rw [z]; exact ⟨_, he, fun v q => nomatch q⟩
    · rw [z]; exact ⟨o, ho, fun v q => by rw [hd] at q; cases q⟩
  keep := fun i h h' st k => let ⟨⟨old, he⟩, hi, hne⟩ := st; ⟨⟨old, k e (by simp) _ he⟩, hi.at fun o q => k it (by simp) o q, hne⟩
  item := by
    intro X hP hw hK hc i pins s σ H E I hf st hg
    subst hP hw hK
    obtain ⟨⟨old, he⟩, hit, hne⟩ := st
    obtain ⟨xs, x, hq, hx⟩ := hg
    obtain ⟨its, rv, p, hz⟩ := I.list hq
    obtain ⟨u, hu, ru⟩ := rv.get hx
    have hel : e < s.heap.objs.size := Heap.lt_size he
    have hil : it < s.heap.objs.size := by obtain ⟨_, q, _⟩ := hit; exact Heap.lt_size q
    refine wpAny_pyNext_enum_item he hit p.isList (x := u) (by simpa using hu) hne fun h' ho hit' hT hsz hk => ?_
    refine ⟨_, rfl, wpAny_letOwnedTupleGo_enum (s := { s with heap := h', toks := s.toks + 1 }) ho fun h'' he' sb => ?_⟩
    have hT2 : h''.get? s.heap.objs.size = some { cls := .type "tuple", data := .seq #[.int i s.toks, u] } := (sb.2 _ (Nat.ne_of_gt hel)).trans hT
    have new : ObjOk X.prog X.w (upd H s.heap.objs.size (.tup [.int (i : Nat), x])) h'' s.heap.objs.size (.tup [.int (i : Nat), x]) :=
      ⟨by show 2 ≤ sizeLine; decide, [.int i s.toks, u], .cons ⟨_, rfl⟩ (.cons ru .nil), ⟨_, hT2, rfl, _, rfl⟩⟩
    have I1 : Inv X pins σ (upd H s.heap.objs.size (.tup [.int (i : Nat), x])) { s with heap := h'', toks := s.toks + 1 } :=
      I.turnedNew (ch := [e, it]) (fun b ob hb q => (sb.2 b (fun z => hb (by simp [z]))).trans (hk b ob (fun z => hb (by simp [z])) (fun z => hb (by simp [z])) q)) hf (Nat.le_refl _) new
    refine ⟨.ref s.heap.objs.size, _, I1, rfl, ⟨_, x, rfl, I.hok.fresh (Nat.le_refl _), rfl, fun ys hy => by rw [I.list_inj hy hq]; exact hx⟩, ⟨⟨u, ?_⟩, hit'.at fun o q => (sb.2 it (Ne.symm hne)).trans q, hne⟩, fun b hb => ?_⟩
    · have e1 : ((i + 1 : Nat) : Int) = (i : Int) + 1 := by omega
      rw [e1]; exact he'
    · have hb' : b < s.heap.objs.size := by
        have e' : b = e ∨ b = it := by simpa using hb
        rcases e' with z | z
        · rw [z]; exact hel
        · rw [z]; exact hil
      rw [upd_ne (Nat.ne_of_lt hb')]
      exact (hf b hb).1
  done := by
    intro X hP hw hK hc i pins s σ H E I hf st hg
    subst hP hw hK
    obtain ⟨⟨old, he⟩, hit, hne⟩ := st
    obtain ⟨xs, hq, hx⟩ := hg
    obtain ⟨its, rv, p, hz⟩ := I.list hq
    obtain ⟨f0, f1, f2, f3, f4, f5⟩ := hf it (by simp)
    have hl := rv.length
    exact wpAny_pyNext_enum_end (I.ok.hd hc) he hit p.isList (by simp; omega) fun h' eb => ⟨rfl, I.turned (t' := s.toks) (fun b o hb q => eb b o hb q) f0 f1 f3 f4 f5⟩
  self := fun A i s Q E st h => let ⟨⟨_, he⟩, _⟩ := st; wpAny_pyIter_enum he h
def iEnum (K : PySem.W.Frag) (ta : TA) : TI := fun σ H R => ta σ H fun vs H1 => ∃ a xs, vs = [.ref a] ∧ SqL K H1 a xs ∧ R (Ite K a) H1
theorem pi_enum {X : Cx} {e : Expr} {ta : TA} {p pos tpos : Pos} {elts : List Expr} {kk : Nat} (hg : Gl X "enumerate") (hm : X.mg "enumerate" = none) (ha : PA X [e] ta) (hs : starEach [e] X.env = [(false, eval e X.env)] := by rfl) :
    PI X (.Tuple elts kk tpos) (.Call (.Name "enumerate" p) [e] [] pos) (iEnum X.K ta) := by
  intro pins s σ H R I h
  refine Call_ (ld_blt I hg hm boot_enumerate (PyProof.Rows.callWith_type1 (thn (ha pos pins s σ H _ I h) fun us s1 ⟨vs, H1, I1, r1, q1⟩ => ?_) hs rfl))
  obtain ⟨a, xs, ex, hq, q⟩ := q1
  subst ex
  cases r1 with
  | cons r rr =>
    cases rr
    cases r
    obtain ⟨its, rv, p', hz⟩ := I1.list hq
    refine call_enumerate_list p'.isList fun h' he hit hsz hk => wpAny_pyIter_enum he ?_
    have I2 : Inv X pins σ H1 { s1 with heap := h' } := I1.kept (t' := s1.toks) hk
    refine ⟨s1.heap.objs.size + 1, [s1.heap.objs.size + 1, s1.heap.objs.size], _, _, H1, rfl, I2, turn_enum a (s1.heap.objs.size + 1) s1.heap.objs.size, ⟨⟨.none, he⟩, hit, Nat.succ_ne_self _⟩, fun b hb => ?_, q⟩
    have e' : b = s1.heap.objs.size + 1 ∨ b = s1.heap.objs.size := by simpa using hb
    have hle : s1.heap.objs.size ≤ b := by
      rcases e' with z | z
      · rw [z]; exact Nat.le_add_right _ _
      · rw [z]; exact Nat.le_refl _
    exact I1.fpOk hle (I1.hok.fresh hle)
/-! ### zip(list, list) -/
end L2

/-! SHORT WORDS over the layer: a def of the text, its body, what a loop and a test want. -/
namespace L2
open PySem PySem.Spec PyProof.Rows

/-! ### the text by places -/
/-- the j-th statement of a class's body -/
def inClass (s : Stmt) (j : Nat) : Stmt := match s with
  | .ClassDef _ _ _ body _ _ _ _ _ _ _ => body.getD j (.Pass ⟨0, 0, 0, 0⟩)
  | _ => .Pass ⟨0, 0, 0, 0⟩
def defArgs (s : Stmt) : Arguments := match s with
  | .FunctionDef _ a _ _ _ _ _ _ _ _ => a
  | _ => { posonlyargs := [], args := [], vararg := none, kwonlyargs := [], kw_defaults := [], kwarg := none, defaults := [] }
def defBody (s : Stmt) : List Stmt := match s with
  | .FunctionDef _ _ b _ _ _ _ _ _ _ => b
  | _ => []
def defScope (s : Stmt) : Scope := match s with
  | .FunctionDef _ _ _ _ _ _ sc _ _ _ => sc
  | _ => { kind := .function, names := [], isGenerator := false, isCoroutine := false }

/-! ### no exception leaves a def -/
abbrev CX0 : CXT := fun _ _ _ _ _ _ => False
abbrev E0 : XK := fun _ _ _ => False
theorem pass0 {X : Cx} : Passes CX0 X E0 := fun _ _ _ _ _ _ _ h => h.elim

/-! ### a def (or method) of the text as it stands behind the top -/
structure Fun (K : PySem.W.Frag) (x qual : Str) (st : Stmt) (f : Addr) (fd : FuncData) : Prop where
  ex : ∃ (oc : Value) (od : Option Addr) (kV doc pm : Value) (an : Option Addr) (cdv ct : Value) (osl : Array (Option Value)),
    fd = PySem.W.fnOf x qual (defArgs st) (defBody st) (defScope st) .none kV doc pm an cdv ct ∧ K.lookup f = some ⟨oc, od, .func fd, osl⟩ ∧ PySem.W.codeIn K cdv qual = true
  kp : PySem.W.keepIn K (.ref f) = true
section
variable {P : Program} {w : World} {K : PySem.W.Frag} {mg : Str → Option Value} {base : Heap}
/-- THE RULE for a def: its body as a term of rules, and the reading of that term -/
theorem Fun.ok {x qual : Str} {st : Stmt} {f : Addr} {fd : FuncData} {N ps : List Str} {k : Nat} {sp : Sp} (F : Fun K x qual st f fd) (S : FnScope N ps (defScope st)) (len : ∀ vs H Q E, sp vs H Q E → vs.length = ps.length)
    (hbody : ∀ (cdv : Value) (A : Around) (outer : List Env) (s : Shared) (H : Hp) (vs : List V) (Q : VK) (E : XK), Room k (A.deeper (envOfC qual (defScope st) s.heap.objs.size f cdv)) → sp vs H Q E →
      ∃ t, PSs (cxOf CX0 P w K mg base N qual (defScope st) f cdv A outer s H E).nox (defBody st) t ∧ t { nx := fun _ H' => Q .non H', rt := Q } (start N vs) H) : FnOk P w K mg base CX0 (k + 1) f fd ps sp := by
  obtain ⟨oc, od, kV, doc, pm, an, cdv, ct, osl, rfl, lk, hcd⟩ := F.ex
  refine fn_of lk hcd S len fun A outer s H vs Q E hr hsp => ?_
  obtain ⟨t, h, q⟩ := hbody cdv A outer s H vs Q E hr hsp
  exact ⟨t, h.nox, q⟩
/-- how its arguments bind (no defaults): h is «fun _ _ _ _ _ _ us hl => match us, hl with | [_, _], _ => rfl», one _ a parameter -/
theorem Fun.binds {x qual : Str} {st : Stmt} {f : Addr} {fd : FuncData} {ps : List Str} (F : Fun K x qual st f fd)
    (h : ∀ (kV doc pm : Value) (an : Option Addr) (cdv ct : Value) (us : List Value), us.length = ps.length → bindArgs (PySem.W.fnOf x qual (defArgs st) (defBody st) (defScope st) .none kV doc pm an cdv ct) ⟨us, []⟩ = pure (ps.zip us)) : Binds K fd ps [] := by
  obtain ⟨oc, od, kV, doc, pm, an, cdv, ct, osl, rfl, lk, hcd⟩ := F.ex
  exact .all (h kV doc pm an cdv ct)
theorem fun_mk {x qual : Str} {st : Stmt} {f : Addr} {oc : Value} {od an : Option Addr} {osl : Array (Option Value)} {kV doc pm cdv ct : Value} (l : K.lookup f = some ⟨oc, od, .func (PySem.W.fnOf x qual (defArgs st) (defBody st) (defScope st) .none kV doc pm an cdv ct), osl⟩)
    (c : PySem.W.codeIn K cdv qual = true) (k : PySem.W.keepIn K (.ref f) = true) : Fun K x qual st f (PySem.W.fnOf x qual (defArgs st) (defBody st) (defScope st) .none kV doc pm an cdv ct) := ⟨⟨oc, od, kV, doc, pm, an, cdv, ct, osl, rfl, l, c⟩, k⟩
end

/-! ### expressions in short: the name that stands in the i-th slot -/
section
variable {X : Cx}
theorem pv (i : Nat) {x : Str} {pos : Pos} (hN : X.N[i]? = some x := by rfl) (hv : Vis X.env.scope x := by first | exact Or.inl rfl | exact Or.inr (Or.inl rfl) | exact Or.inr (Or.inr rfl)) (hd : (x == ("__debug__" : Str)) = false := by decide)
    (hcd : (x == ("__classdict__" : Str)) = false := by decide) : PE X (.Name x pos) (tVar i) := pe_var hN hv hd hcd
end

/-! ### tests -/
theorem ite2 {c A B : Prop} [Decidable c] (h1 : c → A) (h2 : ¬ c → B) : if c then A else B := by
  by_cases h : c
  · rw [if_pos h]
    exact h1 h
  · rw [if_neg h]
    exact h2 h

/-! ### heaps -/
/-- all that was tracked is as it was -/
def Same (H H' : Hp) : Prop := ∀ b o, H b = some o → H' b = some o
theorem Same.trans {H H1 H2 : Hp} (a : Same H H1) (b : Same H1 H2) : Same H H2 := fun c o h => b c o (a c o h)
theorem Same.free {H H' : Hp} (e : Same H H') {l : Addr} (h : H' l = Option.none) : H l = Option.none := by
  cases q : H l with
  | none => rfl
  | some o =>
    rw [e l o q] at h
    cases h

/-! ### a dict's pairs: keys that differ -/
section
variable {κ : Type} [DecidableEq κ]
end
/-! ### lists -/
theorem at_of {xs : List V} {z : Int} {j : Nat} {v : V} (e : z = (j : Int)) (h : xs[j]? = some v) : atI xs z = some v := by
  rw [e]
  exact atI_nat h
/-- a new instance and its __init__ leave all that was tracked as it was -/
theorem Same.made {H H1 : Hp} {x dx C : Addr} (nx : H x = Option.none) (nd : H dx = Option.none) (k : ∀ b o, (upd (upd H dx (.own x)) x (.ins C dx [])) b = some o → b ≠ x → H1 b = some o) : Same H H1 := fun b o e =>
  k b o (by rw [upd_ne (ne_of_none e nx), upd_ne (ne_of_none e nd)]; exact e) (ne_of_none e nx)
end L2

section
set_option Elab.async false
set_option linter.all false
set_option maxRecDepth 100000
set_option maxHeartbeats 2000000
namespace L2
open PySem PySem.Spec PyProof.Rows
open PySem.W (WData Codec OpenSpec Well WellAll ReadsW ReadsAllW)
/-! ### an answer as data -/
mutual
/-- x stands for the datum d, lists and tuples all the way -/
inductive Dw (K : PySem.W.Frag) (H : Hp) : V → WData → Prop
  | non : Dw K H .non .none
  | bl (b : Bool) : Dw K H (.bl b) (.bool b)
  | int (i : Int) : Dw K H (.int i) (.int i)
  | str (x : Str) : Dw K H (.str x) (.str x)
  | byt (b : Array UInt8) : Dw K H (.byt b) (.bytes b.toList)
  | lst {a : Addr} {xs : List V} {ds : List WData} : SqL K H a xs → DwAll K H xs ds → Dw K H (.ref a) (.list ds)
  | tup {a : Addr} {xs : List V} {ds : List WData} : SqT K H a xs → DwAll K H xs ds → Dw K H (.ref a) (.tuple ds)
inductive DwAll (K : PySem.W.Frag) (H : Hp) : List V → List WData → Prop
  | nil : DwAll K H [] []
  | cons {v : V} {vs : List V} {d : WData} {ds : List WData} : Dw K H v d → DwAll K H vs ds → DwAll K H (v :: vs) (d :: ds)
end
theorem dw_ints {K : PySem.W.Frag} {H : Hp} : ∀ ns : List Int, DwAll K H (ns.map V.int) (ns.map WData.int)
  | [] => .nil
  | n :: r => .cons (.int n) (dw_ints r)
theorem ints_dw {K : PySem.W.Frag} {H : Hp} : ∀ (ns : List Int) (xs : List V), DwAll K H xs (ns.map WData.int) → xs = ns.map V.int
  | [], xs, h => by
    cases h
    rfl
  | n :: r, xs, h => by
    cases h with
    | cons h1 h2 =>
      cases h1
      rw [ints_dw r _ h2] <;> rfl
section
variable {P : Program} {w : World} {K : PySem.W.Frag} {H : Hp} {h : Heap} {R : PySem.W.WRecords} {cl : Str → Option Addr}
theorem sqL_at {a : Addr} {xs : List V} (hok : HOk P w H h) (KX : K.In h) (q : SqL K H a xs) : ∃ (its : List Value) (o : Obj) (n : Nat), Vals xs its ∧ h.get? a = some o ∧ o.cls = .type "list" ∧ o.data = .seq its.toArray n := by
  rcases q with q | ⟨o, its, n, e, hc, _, hd, _, hv⟩
  · obtain ⟨_, its, n, hv, e⟩ := (show ObjOk P w H h a (.lst xs) from q.ok hok)
    exact ⟨its, _, n, hv, e, rfl, rfl⟩
  · exact ⟨its.toList, o, n, hv, KX _ _ e, hc, by simp [hd]⟩
theorem sqT_at {a : Addr} {xs : List V} (hok : HOk P w H h) (KX : K.In h) (q : SqT K H a xs) : ∃ (its : List Value) (o : Obj) (n : Nat), Vals xs its ∧ h.get? a = some o ∧ o.cls = .type "tuple" ∧ o.data = .seq its.toArray n := by
  rcases q with q | ⟨o, its, n, e, hc, hd, _, hv⟩
  · obtain ⟨_, its, hv, o, e, hc, n, hd⟩ := (show ObjOk P w H h a (.tup xs) from q.ok hok)
    exact ⟨its, o, n, hv, e, hc, hd⟩
  · exact ⟨its.toList, o, n, hv, KX _ _ e, hc, by simp [hd]⟩
mutual
theorem Dw.reads (hok : HOk P w H h) (KX : K.In h) : ∀ (d : WData) (v : V) (u : Value), Dw K H v d → RelV v u → ∃ as, ReadsW R cl h u d as
  | .none, _, _, x, r => by
    cases x
    cases r
    exact ⟨_, ReadsW.none⟩
  | .bool b, _, _, x, r => by
    cases x
    cases r
    exact ⟨_, ReadsW.bool b⟩
  | .int i, _, _, x, r => by
    cases x
    obtain ⟨t, rfl⟩ := r
    exact ⟨_, ReadsW.int i t⟩
  | .str s, _, _, x, r => by
    cases x
    obtain ⟨t, rfl⟩ := r
    exact ⟨_, ReadsW.str s t⟩
  | .bytes b, _, _, x, r => by
    cases x
    obtain ⟨t, rfl⟩ := r
    exact ⟨_, ReadsW.bytes _ t⟩
  | .list ds, _, _, x, r => by
    cases x with
    | lst hs ha =>
      cases r
      obtain ⟨its, o, n, rv, ho, hc, hd⟩ := sqL_at hok KX hs
      obtain ⟨as, hr⟩ := Dw.readsAll hok KX ds _ its ha rv
      exact ⟨_, ReadsW.list ho hc hd hr⟩
  | .tuple ds, _, _, x, r => by
    cases x with
    | tup hs ha =>
      cases r
      obtain ⟨its, o, n, rv, ho, hc, hd⟩ := sqT_at hok KX hs
      obtain ⟨as, hr⟩ := Dw.readsAll hok KX ds _ its ha rv
      exact ⟨_, ReadsW.tuple ho hc hd hr⟩
  | .float _, _, _, x, _ => by cases x
  | .dict _, _, _, x, _ => by cases x
  | .bytearray _, _, _, x, _ => by cases x
  | .set _, _, _, x, _ => by cases x
  | .frozenset _, _, _, x, _ => by cases x
  | .obj _ _, _, _, x, _ => by cases x
theorem Dw.readsAll (hok : HOk P w H h) (KX : K.In h) : ∀ (ds : List WData) (vs : List V) (us : List Value), DwAll K H vs ds → Vals vs us → ∃ as, ReadsAllW R cl h us ds as
  | [], _, _, x, r => by
    cases x
    cases r
    exact ⟨_, ReadsAllW.nil⟩
  | d :: ds, _, _, x, r => by
    cases x with
    | cons h1 h2 =>
      cases r with
      | cons r1 r2 =>
        obtain ⟨as, q1⟩ := Dw.reads hok KX d _ _ h1 r1
        obtain ⟨bs, q2⟩ := Dw.readsAll hok KX ds _ _ h2 r2
        exact ⟨_, ReadsAllW.cons q1 q2⟩
end
end
/-! ### the arguments -/
mutual
/-- data that a codec tells -/
def plW : WData → Bool
  | .none => true
  | .bool _ => true
  | .int _ => true
  | .str _ => true
  | .bytes _ => true
  | .list xs => plWs xs
  | .tuple xs => plWs xs
  | _ => false
def plWs : List WData → Bool
  | [] => true
  | x :: r => plW x && plWs r
end
theorem plWs_map {α : Type} {f : α → WData} (h : ∀ a, plW (f a) = true) : ∀ l : List α, plWs (l.map f) = true
  | [] => rfl
  | x :: r => by
    show (plW (f x) && plWs (r.map f)) = true
    rw [h x, plWs_map h r] <;> rfl
theorem pl_enc : ∀ (c : Codec) (a : c.denote), plW (c.enc a) = true
  | .unit, _ => rfl
  | .bool, _ => rfl
  | .int _ _, _ => rfl
  | .nat _ _, _ => rfl
  | .u8, _ => rfl
  | .bytes _ _, _ => rfl
  | .text _ _ _ _, _ => rfl
  | .list _ _ c, a => plWs_map (fun x => pl_enc c x) a
  | .pair c d, a => by
    show (plW (c.enc a.1) && (plW (d.enc a.2) && true)) = true
    rw [pl_enc c a.1, pl_enc d a.2] <;> rfl
  | .triple c d e, a => by
    show (plW (c.enc a.1) && (plW (d.enc a.2.1) && (plW (e.enc a.2.2) && true))) = true
    rw [pl_enc c a.1, pl_enc d a.2.1, pl_enc e a.2.2] <;> rfl
  | .option c, none => rfl
  | .option c, some x => pl_enc c x
theorem pl_encAll : ∀ (cs : List Codec) (a : Codec.denoteAll cs), plWs (Codec.encAll cs a) = true
  | [], _ => rfl
  | c :: cs, a => by
    show (plW (c.enc a.1) && plWs (Codec.encAll cs a.2)) = true
    rw [pl_enc c a.1, pl_encAll cs a.2] <;> rfl
theorem weight_mem : ∀ {xs : List WData} {d : WData}, d ∈ xs → d.weight ≤ WData.weightAll xs
  | [], d, h => absurd h (by simp)
  | x :: r, d, h => by
    show d.weight ≤ x.weight + 1 + WData.weightAll r
    rcases List.mem_cons.mp h with e | m
    · rw [e]
      omega
    · have z := weight_mem m
      omega
def toV : Value → V
  | .none => .non
  | .bool b => .bl b
  | .int i _ => .int i
  | .str x _ => .str x
  | .bytes b _ => .byt b
  | .ref a => .ref a
  | _ => .non
/-- a value of the arguments, its objects among A -/
def OkU (A : List Addr) : Value → Prop
  | .none => True
  | .bool _ => True
  | .int _ _ => True
  | .str _ _ => True
  | .bytes _ _ => True
  | .ref a => a ∈ A
  | _ => False
theorem OkU.mono {A B : List Addr} (h : ∀ a ∈ A, a ∈ B) : ∀ {u : Value}, OkU A u → OkU B u := fun {u} x => by
  cases u with
  | ref a => exact h a x
  | none => trivial
  | bool b => trivial
  | int i t => trivial
  | str s t => trivial
  | bytes b t => trivial
  | _ => exact False.elim x
theorem relV_toV {A : List Addr} {u : Value} (x : OkU A u) : RelV (toV u) u := by
  cases u with
  | ref a => rfl
  | none => rfl
  | bool b => rfl
  | int i t => exact ⟨t, rfl⟩
  | str s t => exact ⟨t, rfl⟩
  | bytes b t => exact ⟨t, rfl⟩
  | _ => exact False.elim x
theorem vals_toV {A : List Addr} : ∀ {vs : List Value}, (∀ u ∈ vs, OkU A u) → Vals (vs.map toV) vs
  | [], _ => .nil
  | u :: r, h => .cons (relV_toV (h u (List.mem_cons_self ..))) (vals_toV fun x hx => h x (List.mem_cons_of_mem _ hx))
/-- an object of the arguments -/
def ArgOb (h : Heap) (A : List Addr) (a : Addr) : Prop := ∃ vs : List Value, vs.length ≤ sizeLine ∧ (∀ u ∈ vs, OkU A u) ∧
  (h.get? a = some { cls := .type "list", data := .seq vs.toArray } ∨ h.get? a = some { cls := .type "tuple", data := .seq vs.toArray })
theorem ArgOb.mono {h : Heap} {A B : List Addr} {a : Addr} (k : ∀ a ∈ A, a ∈ B) (x : ArgOb h A a) : ArgOb h B a := by
  obtain ⟨vs, h1, h2, h3⟩ := x
  exact ⟨vs, h1, fun u hu => (h2 u hu).mono k, h3⟩
theorem wellAll_len {P : Params} {h : Heap} : ∀ {vs : List Value} {ds : List WData}, WellAll P h vs ds → vs.length = ds.length
  | _, _, .nil => rfl
  | _, _, .cons _ b => by
    show _ + 1 = _ + 1
    rw [wellAll_len b]
theorem well_list {P : Params} {h : Heap} {v : Value} {ds : List WData} (x : Well P h v (.list ds)) : ∃ (a : Addr) (vs : List Value), v = .ref a ∧ h.get? a = some { cls := .type "list", data := .seq vs.toArray } ∧ WellAll P h vs ds := by
  cases x with
  | list ho hall => exact ⟨_, _, rfl, ho, hall⟩
theorem well_tuple {P : Params} {h : Heap} {v : Value} {ds : List WData} (x : Well P h v (.tuple ds)) : ∃ (a : Addr) (vs : List Value), v = .ref a ∧ h.get? a = some { cls := .type "tuple", data := .seq vs.toArray } ∧ WellAll P h vs ds := by
  cases x with
  | tuple ho hall => exact ⟨_, _, rfl, ho, hall⟩
theorem well_cons {P : Params} {h : Heap} {us : List Value} {d : WData} {ds : List WData} (x : WellAll P h us (d :: ds)) : ∃ (v : Value) (vs : List Value), us = v :: vs ∧ Well P h v d ∧ WellAll P h vs ds := by
  cases x with
  | cons a b => exact ⟨_, _, rfl, a, b⟩
theorem line_of {n : Nat} (h : n ≤ 1048576) : n ≤ sizeLine := Nat.le_trans h (by decide)
section
variable {P : Params} {h : Heap}
mutual
theorem area_one : ∀ (d : WData) (v : Value), Well P h v d → plW d = true → d.weight ≤ 1048576 → ∃ A : List Addr, OkU A v ∧ ∀ a ∈ A, ArgOb h A a
  | .none, _, x, _, _ => by
    cases x
    exact ⟨[], trivial, fun a m => absurd m (by simp)⟩
  | .bool b, _, x, _, _ => by
    cases x
    exact ⟨[], trivial, fun a m => absurd m (by simp)⟩
  | .int i, _, x, _, _ => by
    cases x
    exact ⟨[], trivial, fun a m => absurd m (by simp)⟩
  | .str s, _, x, _, _ => by
    cases x
    exact ⟨[], trivial, fun a m => absurd m (by simp)⟩
  | .bytes b, _, x, _, _ => by
    cases x
    exact ⟨[], trivial, fun a m => absurd m (by simp)⟩
  | .list ds, _, x, p, z => by
    obtain ⟨a, vs, rfl, ho, hall⟩ := well_list x
    have z2 : WData.weightAll ds ≤ 1048576 := z
    obtain ⟨A, h1, h2⟩ := area_all ds _ hall p fun d hd => Nat.le_trans (weight_mem hd) z2
    have k : ∀ b ∈ A, b ∈ a :: A := fun b hb => List.mem_cons_of_mem _ hb
    refine ⟨a :: A, List.mem_cons_self .., fun b hb => ?_⟩
    rcases List.mem_cons.mp hb with e | m
    · rw [e]
      exact ⟨vs, line_of (by rw [wellAll_len hall]; exact Nat.le_trans (PySem.W.length_le_weightAllW ds) z2), fun u hu => (h1 u hu).mono k, .inl ho⟩
    · exact (h2 b m).mono k
  | .tuple ds, _, x, p, z => by
    obtain ⟨a, vs, rfl, ho, hall⟩ := well_tuple x
    have z2 : WData.weightAll ds ≤ 1048576 := z
    obtain ⟨A, h1, h2⟩ := area_all ds _ hall p fun d hd => Nat.le_trans (weight_mem hd) z2
    have k : ∀ b ∈ A, b ∈ a :: A := fun b hb => List.mem_cons_of_mem _ hb
    refine ⟨a :: A, List.mem_cons_self .., fun b hb => ?_⟩
    rcases List.mem_cons.mp hb with e | m
    · rw [e]
      exact ⟨vs, line_of (by rw [wellAll_len hall]; exact Nat.le_trans (PySem.W.length_le_weightAllW ds) z2), fun u hu => (h1 u hu).mono k, .inr ho⟩
    · exact (h2 b m).mono k
  | .float _, _, _, p, _ => Bool.noConfusion (show false = true from p)
  | .dict _, _, _, p, _ => Bool.noConfusion (show false = true from p)
  | .bytearray _, _, _, p, _ => Bool.noConfusion (show false = true from p)
  | .set _, _, _, p, _ => Bool.noConfusion (show false = true from p)
  | .frozenset _, _, _, p, _ => Bool.noConfusion (show false = true from p)
  | .obj _ _, _, _, p, _ => Bool.noConfusion (show false = true from p)
theorem area_all : ∀ (ds : List WData) (vs : List Value), WellAll P h vs ds → plWs ds = true → (∀ d ∈ ds, d.weight ≤ 1048576) → ∃ A : List Addr, (∀ u ∈ vs, OkU A u) ∧ ∀ a ∈ A, ArgOb h A a
  | [], _, x, _, _ => by
    cases x
    exact ⟨[], fun u m => absurd m (by simp), fun a m => absurd m (by simp)⟩
  | d :: ds, _, x, p, z => by
    obtain ⟨v, vs, rfl, x1, x2⟩ := well_cons x
    have q : plW d = true ∧ plWs ds = true := Bool.and_eq_true_iff.mp p
    obtain ⟨A, a1, a2⟩ := area_one d v x1 q.1 (z d (List.mem_cons_self ..))
    obtain ⟨B, b1, b2⟩ := area_all ds vs x2 q.2 fun e he => z e (List.mem_cons_of_mem _ he)
    have kA : ∀ b ∈ A, b ∈ A ++ B := fun b hb => List.mem_append.mpr (.inl hb)
    have kB : ∀ b ∈ B, b ∈ A ++ B := fun b hb => List.mem_append.mpr (.inr hb)
    refine ⟨A ++ B, fun u hu => ?_, fun b hb => ?_⟩
    · rcases List.mem_cons.mp hu with e | m
      · rw [e]
        exact a1.mono kA
      · exact (b1 u m).mono kB
    · rcases List.mem_append.mp hb with m | m
      · exact (a2 b m).mono kA
      · exact (b2 b m).mono kB
end
end
/-- what is tracked of an argument's object -/
def hoOf (o : Obj) : Option HO := match o.data with
  | .seq vs _ => if (o.cls == Value.type "list") = true then some (.frz o (.lst (vs.toList.map toV))) else some (.frz o (.tup (vs.toList.map toV)))
  | _ => none
def argH (K : PySem.W.Frag) (h : Heap) (A : List Addr) : Hp := fun b => if b ∈ A then (if (K.lookup b).isNone = true then (h.get? b).bind hoOf else none) else none
/-- nothing is tracked but what is known to the object -/
def OnlyF (H : Hp) : Prop := ∀ b, H b = none ∨ ∃ o u, H b = some (.frz o u)
theorem hoOf_lst (vs : List Value) : hoOf { cls := .type "list", data := .seq vs.toArray } = some (.frz { cls := .type "list", data := .seq vs.toArray } (.lst (vs.map toV))) := by
  show (if (Value.type "list" == Value.type "list") = true then some (HO.frz { cls := .type "list", data := .seq vs.toArray } (.lst (vs.toArray.toList.map toV))) else some (HO.frz { cls := .type "list", data := .seq vs.toArray } (.tup (vs.toArray.toList.map toV)))) = _
  rw [if_pos (beq_self_eq_true _)]
theorem hoOf_tup (vs : List Value) : hoOf { cls := .type "tuple", data := .seq vs.toArray } = some (.frz { cls := .type "tuple", data := .seq vs.toArray } (.tup (vs.map toV))) := by
  show (if (Value.type "tuple" == Value.type "list") = true then some (HO.frz { cls := .type "tuple", data := .seq vs.toArray } (.lst (vs.toArray.toList.map toV))) else some (HO.frz { cls := .type "tuple", data := .seq vs.toArray } (.tup (vs.toArray.toList.map toV)))) = _
  rw [if_neg (by decide)]
section
variable {P : Program} {w : World} {K : PySem.W.Frag} {h : Heap} {A : List Addr}
theorem argH_at {b : Addr} {o : Obj} (hb : b ∈ A) (hk : K.lookup b = none) (e : h.get? b = some o) : argH K h A b = hoOf o := by
  unfold argH
  rw [if_pos hb, hk, if_pos (show (none : Option Obj).isNone = true from rfl), e] <;> rfl
theorem of_argH {b : Addr} {u : HO} (q : argH K h A b = some u) : b ∈ A ∧ K.lookup b = none := by
  unfold argH at q
  by_cases hb : b ∈ A
  · rw [if_pos hb] at q
    cases hk : K.lookup b with
    | none => exact ⟨hb, rfl⟩
    | some o =>
      rw [hk, if_neg (by simp)] at q
      cases q
  · rw [if_neg hb] at q
    cases q
/-- what stands tracked -/
theorem argH_is (ar : ∀ a ∈ A, ArgOb h A a) {b : Addr} {u : HO} (q : argH K h A b = some u) : K.lookup b = none ∧ ∃ vs : List Value, vs.length ≤ sizeLine ∧ (∀ u ∈ vs, OkU A u) ∧
    ((h.get? b = some { cls := .type "list", data := .seq vs.toArray } ∧ u = .frz { cls := .type "list", data := .seq vs.toArray } (.lst (vs.map toV))) ∨
     (h.get? b = some { cls := .type "tuple", data := .seq vs.toArray } ∧ u = .frz { cls := .type "tuple", data := .seq vs.toArray } (.tup (vs.map toV)))) := by
  obtain ⟨hb, hk⟩ := of_argH q
  obtain ⟨vs, h1, h2, h3⟩ := ar b hb
  refine ⟨hk, vs, h1, h2, ?_⟩
  rcases h3 with e | e
  · rw [argH_at hb hk e, hoOf_lst] at q
    exact .inl ⟨e, (Option.some.inj q).symm⟩
  · rw [argH_at hb hk e, hoOf_tup] at q
    exact .inr ⟨e, (Option.some.inj q).symm⟩
theorem argH_only (ar : ∀ a ∈ A, ArgOb h A a) : OnlyF (argH K h A) := fun b => by
  cases q : argH K h A b with
  | none => exact .inl rfl
  | some u =>
    obtain ⟨_, vs, _, _, ⟨_, e⟩ | ⟨_, e⟩⟩ := argH_is ar q
    · exact .inr ⟨_, _, by rw [e]⟩
    · exact .inr ⟨_, _, by rw [e]⟩
theorem argH_ok (ar : ∀ a ∈ A, ArgOb h A a) : HOk P w (argH K h A) h := fun b u q => by
  obtain ⟨_, vs, h1, h2, ⟨e, rfl⟩ | ⟨e, rfl⟩⟩ := argH_is ar q
  · exact ⟨e, by rw [List.length_map]; exact h1, vs, _, vals_toV h2, e⟩
  · exact ⟨e, by rw [List.length_map]; exact h1, vs, vals_toV h2, _, e, rfl, _, rfl⟩
theorem seq_inj {c c' : Value} {vs us : List Value} (e : (some { cls := c, data := .seq vs.toArray } : Option Obj) = some { cls := c', data := .seq us.toArray }) : c = c' ∧ vs = us := by
  have e1 := Option.some.inj e
  have e2 : c = c' := congrArg Obj.cls e1
  have e3 : Data.seq vs.toArray = Data.seq us.toArray := congrArg Obj.data e1
  injection e3 with e4
  refine ⟨e2, ?_⟩
  have e5 := congrArg Array.toList e4
  simpa using e5
/-- a list argument -/
theorem argL (KX : K.In h) (ar : ∀ a ∈ A, ArgOb h A a) {a : Addr} {vs : List Value} (ha : a ∈ A) (e : h.get? a = some { cls := .type "list", data := .seq vs.toArray }) : (∀ u ∈ vs, OkU A u) ∧ SqL K (argH K h A) a (vs.map toV) := by
  obtain ⟨us, h1, h2, h3⟩ := ar a ha
  have hu : us = vs := by
    rcases h3 with q | q
    · rw [e] at q
      exact (seq_inj q).2.symm
    · rw [e] at q
      exact absurd (Value.type.inj (seq_inj q).1) (by decide)
  subst hu
  refine ⟨h2, ?_⟩
  cases hk : K.lookup a with
  | none => exact .inl (.inr ⟨_, by rw [argH_at ha hk e, hoOf_lst]⟩)
  | some o =>
    have e2 := KX a o hk
    rw [e] at e2
    obtain rfl := Option.some.inj e2
    exact .inr ⟨_, us.toArray, _, hk, rfl, rfl, rfl, by rw [List.size_toArray]; exact h1, by simpa using vals_toV h2⟩
theorem argT (KX : K.In h) (ar : ∀ a ∈ A, ArgOb h A a) {a : Addr} {vs : List Value} (ha : a ∈ A) (e : h.get? a = some { cls := .type "tuple", data := .seq vs.toArray }) : (∀ u ∈ vs, OkU A u) ∧ SqT K (argH K h A) a (vs.map toV) := by
  obtain ⟨us, h1, h2, h3⟩ := ar a ha
  have hu : us = vs := by
    rcases h3 with q | q
    · rw [e] at q
      exact absurd (Value.type.inj (seq_inj q).1) (by decide)
    · rw [e] at q
      exact (seq_inj q).2.symm
  subst hu
  refine ⟨h2, ?_⟩
  cases hk : K.lookup a with
  | none => exact .inl (.inr ⟨_, by rw [argH_at ha hk e, hoOf_tup]⟩)
  | some o =>
    have e2 := KX a o hk
    rw [e] at e2
    obtain rfl := Option.some.inj e2
    exact .inr ⟨_, us.toArray, _, hk, rfl, rfl, by rw [List.size_toArray]; exact h1, by simpa using vals_toV h2⟩
mutual
theorem dw_one {Pm : Params} (KX : K.In h) (ar : ∀ a ∈ A, ArgOb h A a) : ∀ (d : WData) (v : Value), Well Pm h v d → plW d = true → OkU A v → Dw K (argH K h A) (toV v) d
  | .none, _, x, _, _ => by
    cases x
    exact .non
  | .bool b, _, x, _, _ => by
    cases x
    exact .bl b
  | .int i, _, x, _, _ => by
    cases x
    exact .int i
  | .str s, _, x, _, _ => by
    cases x
    exact .str s
  | .bytes b, _, x, _, _ => by
    cases x
    have z := Dw.byt (K := K) (H := argH K h A) b.toArray
    exact z
  | .list ds, _, x, p, hu => by
    obtain ⟨a, vs, rfl, ho, hall⟩ := well_list x
    obtain ⟨h2, hs⟩ := argL KX ar hu ho
    exact .lst hs (dw_all KX ar ds _ hall p h2)
  | .tuple ds, _, x, p, hu => by
    obtain ⟨a, vs, rfl, ho, hall⟩ := well_tuple x
    obtain ⟨h2, hs⟩ := argT KX ar hu ho
    exact .tup hs (dw_all KX ar ds _ hall p h2)
  | .float _, _, _, p, _ => Bool.noConfusion (show false = true from p)
  | .dict _, _, _, p, _ => Bool.noConfusion (show false = true from p)
  | .bytearray _, _, _, p, _ => Bool.noConfusion (show false = true from p)
  | .set _, _, _, p, _ => Bool.noConfusion (show false = true from p)
  | .frozenset _, _, _, p, _ => Bool.noConfusion (show false = true from p)
  | .obj _ _, _, _, p, _ => Bool.noConfusion (show false = true from p)
theorem dw_all {Pm : Params} (KX : K.In h) (ar : ∀ a ∈ A, ArgOb h A a) : ∀ (ds : List WData) (vs : List Value), WellAll Pm h vs ds → plWs ds = true → (∀ u ∈ vs, OkU A u) → DwAll K (argH K h A) (vs.map toV) ds
  | [], _, x, _, _ => by
    cases x
    exact .nil
  | d :: ds, _, x, p, hu => by
    obtain ⟨v, vs, rfl, x1, x2⟩ := well_cons x
    have q : plW d = true ∧ plWs ds = true := Bool.and_eq_true_iff.mp p
    exact .cons (dw_one KX ar d v x1 q.1 (hu _ (List.mem_cons_self ..))) (dw_all KX ar ds vs x2 q.2 fun u m => hu u (List.mem_cons_of_mem _ m))
end
end
/-! ### the call -/
theorem spec_call {P : Program} {w : World} {K : PySem.W.Frag} {mg mb : Str → Option Value} {CX : CXT} {k : Nat} {fa : Addr} {fd : FuncData} {ps : List Str} {sp : Sp} {s₁ : Shared} {vals : List Value} {ds : List WData} {R : PySem.W.WRecords} {cl : Str → Option Addr} {d0 : WData}
    (KX : K.In s₁.heap) (hns : s₁.heap.Ns mainGlobals mg) (hb : s₁.heap.Ns builtinsNs mb) (hbb : ∀ x : Str, x ≠ "__name__" → mb x = bootBuiltins x) (hlim : s₁.heap.NoLimit) (hg : s₁.gens = #[])
    (hwl : WellAll w.params s₁.heap vals ds) (hpl : plWs ds = true) (hwt : ∀ d ∈ ds, d.weight ≤ 1048576) (hr : Room k callerA)
    (F : ∀ base : Heap, K.In base → base.Ns mainGlobals mg → FnOk P w K mg base CX k fa fd ps sp) (hbind : ∀ (s : Shared) (us : List Value), us.length = ps.length → BindsTo s fd ⟨us, []⟩ (ps.zip us)) (hlen : ds.length = ps.length)
    (hsp : ∀ (H : Hp) (xs : List V), OnlyF H → DwAll K H xs ds → sp xs H (fun v H' => Dw K H' v d0) fun _ _ _ => False)
    (hCX : ∀ H e s', CX [] H s₁ (fun _ _ _ => False) e s' → False) :
    codeAny (model P w) callerA (.call (.ref fa) ⟨vals, []⟩) (fun r s' => ∃ u as, r = .ok (.ret u) ∧ ReadsW R cl s'.heap u d0 as ∧ OldK s₁.heap s'.heap ∧ s'.os = s₁.os ∧ AllBare s'.gens) s₁ := by
  obtain ⟨A, ho, ar⟩ := area_all ds vals hwl hpl hwt
  have hO : OnlyF (argH K s₁.heap A) := argH_only ar
  have hok : HOk P w (argH K s₁.heap A) s₁.heap := argH_ok ar
  have hS := dw_all KX ar ds vals hwl hpl ho
  have hV := vals_toV ho
  have hK : ∀ b u, argH K s₁.heap A b = some u → K.lookup b = none := fun b u q => (argH_is ar q).1
  have noA : ∀ {b : Addr} {o : Obj} {es : Array DictEntry} {ep : Nat}, s₁.heap.get? b = some o → o.data = .dict es ep → argH K s₁.heap A b = none := fun {b o es ep} e d => by
    cases q : argH K s₁.heap A b with
    | none => rfl
    | some u =>
      obtain ⟨_, vs, _, _, ⟨e2, _⟩ | ⟨e2, _⟩⟩ := argH_is ar q
      · rw [e2] at e
        cases e
        have d' : Data.seq vs.toArray _ = Data.dict es ep := d
        cases d'
      · rw [e2] at e
        cases e
        have d' : Data.seq vs.toArray _ = Data.dict es ep := d
        cases d'
  generalize argH K s₁.heap A = H at hO hok hS hK noA
  have base_of : ∀ {b : Addr} {o : Obj}, s₁.heap.get? b = some o → H b = none → (hidT s₁.heap H).get? b = some o := fun e n => hidT_get e n
  have nsK : ∀ {b : Addr} {m : Str → Option Value}, s₁.heap.Ns b m → (hidT s₁.heap H).Ns b m := fun {b m} ⟨o, es, ep, e, d, r⟩ => ⟨o, es, ep, base_of e (noA e d), d, r⟩
  have nK : ∀ b o, K.lookup b = some o → H b = none := fun b o e => by
    cases q : H b with
    | none => rfl
    | some u =>
      rw [hK b u q] at e
      cases e
  have hKb : K.In (hidT s₁.heap H) := fun b o e => base_of (KX b o e) (nK b o e)
  have hM : Mod K mg (hidT s₁.heap H) := ⟨hKb, nsK hns, ⟨mb, nsK hb, hbb⟩, let ⟨mc, h1, h2⟩ := hlim; ⟨mc, nsK h1, h2⟩⟩
  have e0 : Env0 P w K mg (hidT s₁.heap H) callerA [] s₁ H := ⟨rfl, hM, fun b o e => of_hidT e, Nat.le_of_eq (hidT_size _ _), trivial, fun b hb => absurd (show b ∈ ([] : List Addr) from hb) (by simp), hok, .of_eq hg⟩
  have hl : vals.length = ps.length := by rw [wellAll_len hwl]; exact hlen
  refine codeAny_mono ((F _ hKb (nsK hns)).run callerA [] s₁ H ⟨vals, []⟩ vals (vals.map toV) _ _ hr e0 (hbind s₁ vals hl) hV (hsp H _ hO hS)) fun r s' x => ?_
  cases r with
  | error e => exact (hCX H e s' x).elim
  | ok fl =>
    cases fl with
    | next => exact False.elim x
    | brk => exact False.elim x
    | cont => exact False.elim x
    | ret u =>
      obtain ⟨v, H', os, bare, un, hok', r', q⟩ := x
      have kept : ∀ b o, s₁.heap.get? b = some o → s'.heap.get? b = some o := fun b o e => by
        cases q2 : H b with
        | none => exact un.keep b o e q2 (by intro z; exact absurd (show b ∈ ([] : List Addr) from z) (by simp)) (by simp)
        | some u2 =>
          rcases hO b with z | ⟨ob, u3, z⟩
          · rw [q2] at z
            cases z
          · have z2 := un.frzs b ob _ z
            obtain ⟨e1, _⟩ := hok b _ z
            obtain ⟨e2, _⟩ := hok' b _ z2
            rw [e] at e1
            cases e1
            exact e2
      have KX' : K.In s'.heap := fun b o e => kept b o (KX b o e)
      obtain ⟨as, hrd⟩ := Dw.reads (R := R) (cl := cl) hok' KX' d0 v u q r'
      exact ⟨u, as, rfl, hrd, OldK.of_keep kept, os, bare⟩
/-! ### the row -/
theorem layable_weight {ds : List WData} (h : WData.layableAll ds = true) : ∀ d ∈ ds, d.weight ≤ 1048576 := fun d hd =>
  (PySem.W.layableW_iff.mp (List.all_eq_true.mp h d hd)).2.2
theorem encAll_len : ∀ (cs : List Codec) (a : Codec.denoteAll cs), (Codec.encAll cs a).length = cs.length
  | [], _ => rfl
  | c :: cs, a => by
    show (Codec.encAll cs a.2).length + 1 = cs.length + 1
    rw [encAll_len cs a.2]
/-- the goal that k_headS leaves (case hc), from the promise of the row's def: whatever the arguments that the codecs let and the row asks for, the def gives what stands for enc (f ..) -/
theorem walk_spec {r : OpenSpec} {k : Nat} {q : Program} {loose : List Str} {XP : (Str → Option Value) → Heap → Prop} {YP : World → Heap → Prop} {d : DefRec} {K : Params → PySem.W.Frag} {CX : World → CXT} {ps : List Str} {sp : World → Sp}
    (hwell : r.wellSaid = true) (hdf : d.params.defaults = []) (hlen : r.args.length = ps.length) (hr : Room k callerA)
    (hY : ∀ (w : World) (h : Heap), YP w h → (K w.params).In h)
    (F : ∀ (w : World) (mg : Str → Option Value) (fa : Addr) (h : Heap), YP w h → (K w.params).In h → h.Ns mainGlobals mg → mg d.name = some (.ref fa) →
      ∃ fd : FuncData, (∀ (s : Shared) (us : List Value), us.length = ps.length → BindsTo s fd ⟨us, []⟩ (ps.zip us)) ∧
        ∀ base : Heap, (K w.params).In base → base.Ns mainGlobals mg → FnOk r.prog w (K w.params) mg base (CX w) k fa fd ps (sp w))
    (hsp : ∀ (w : World) (H : Hp) (xs : List V) (a : Codec.denoteAll r.args), OnlyF H → Codec.withinAll r.args a = true → Codec.app r.args r.asked a = true → DwAll (K w.params) H xs (Codec.encAll r.args a) →
      sp w xs H (fun v H' => Dw (K w.params) H' v (r.ret.enc (Codec.app r.args r.f a))) fun _ _ _ => False)
    (hCX : ∀ (w : World) (H : Hp) (s : Shared) (e : Value) (s' : Shared), CX w [] H s (fun _ _ _ => False) e s' → False) :
    PySem.W.WalkOS q loose XP YP r d [] (fun f vs => PySem.call f vs) := by
  intro w s_0 s₁ mg mb G Y fa o pm cd doc dV kV ho hd hcd hD hmg hg args vals as hpre hlay hrd hwl hlo
  obtain ⟨a, e1, e2⟩ := PySem.W.os_pre_some hpre
  obtain ⟨e3, hwi⟩ := Codec.encAll_of_decAll r.args args a e1
  subst e3
  have KX := hY w _ Y
  obtain ⟨fd, hb, hF⟩ := F w mg fa _ Y KX G.T.g hmg
  refine PySem.W.enter_call (codeAny_mono (spec_call (R := []) (cl := classAt s_0.heap) (d0 := r.ret.enc (Codec.app r.args r.f a)) KX G.T.g G.T.b G.T.builtins G.T.nolimit hg hwl (pl_encAll _ _) (layable_weight hlay) hr hF hb (by rw [encAll_len]; exact hlen)
    (fun H xs hO hS => hsp w H xs a hO hwi e2 hS) fun H e s' => hCX w H s₁ e s') fun r' s' hq => ?_)
  obtain ⟨u, as', rfl, h1, h2, h3, h4⟩ := hq
  exact ⟨.inl ⟨u, _, as', rfl, fun _ => rfl, h1, (OpenSpec.post_iff hwell hwi _ _).mpr rfl, fun z => Bool.noConfusion (show false = true from z)⟩, h2, h3, h4⟩
/-- the same where the promise hangs on the written part alone -/
theorem walk_specK {r : OpenSpec} {k : Nat} {q : Program} {loose : List Str} {XP : (Str → Option Value) → Heap → Prop} {YP : World → Heap → Prop} {d : DefRec} {K : Params → PySem.W.Frag} {CX : CXT} {ps : List Str} {sp : PySem.W.Frag → Sp}
    (hwell : r.wellSaid = true) (hdf : d.params.defaults = []) (hlen : r.args.length = ps.length) (hr : Room k callerA)
    (hY : ∀ (w : World) (h : Heap), YP w h → (K w.params).In h)
    (F : ∀ (w : World) (mg : Str → Option Value) (fa : Addr) (h : Heap), YP w h → (K w.params).In h → h.Ns mainGlobals mg → mg d.name = some (.ref fa) →
      ∃ fd : FuncData, (∀ (s : Shared) (us : List Value), us.length = ps.length → BindsTo s fd ⟨us, []⟩ (ps.zip us)) ∧
        ∀ base : Heap, (K w.params).In base → base.Ns mainGlobals mg → FnOk r.prog w (K w.params) mg base CX k fa fd ps (sp (K w.params)))
    (hsp : ∀ (K : PySem.W.Frag) (H : Hp) (xs : List V) (a : Codec.denoteAll r.args), OnlyF H → Codec.withinAll r.args a = true → Codec.app r.args r.asked a = true → DwAll K H xs (Codec.encAll r.args a) →
      sp K xs H (fun v H' => Dw K H' v (r.ret.enc (Codec.app r.args r.f a))) fun _ _ _ => False)
    (hCX : ∀ (H : Hp) (s : Shared) (e : Value) (s' : Shared), CX [] H s (fun _ _ _ => False) e s' → False) :
    PySem.W.WalkOS q loose XP YP r d [] (fun f vs => PySem.call f vs) :=
  walk_spec (K := K) (CX := fun _ => CX) (sp := fun w => sp (K w.params)) hwell hdf hlen hr hY F (fun w H xs a h1 h2 h3 h4 => hsp (K w.params) H xs a h1 h2 h3 h4) fun _ H s e s' => hCX H s e s'
end L2
-- rests on (row put in by the clerk, for the bench that shows a file only what it spells): KE.SpHead KE.OsShapes
end

-- RdMath1
/-! The most that offers earn: it can be had, and nothing that can be had is more. -/
namespace Rd
open Ho

def sm {α : Type} (f : α → Int) : List α → Int
  | [] => 0
  | x :: l => f x + sm f l

theorem sm_congr {α : Type} {f g : α → Int} : ∀ {l : List α}, (∀ x, x ∈ l → f x = g x) → sm f l = sm g l
  | [], _ => rfl
  | x :: l, h => by
    show f x + sm f l = g x + sm g l
    rw [h x (List.mem_cons_self), sm_congr (fun y hy => h y (List.mem_cons_of_mem _ hy))]
theorem sm_add {α : Type} {f g : α → Int} : ∀ {l : List α}, sm (fun x => f x + g x) l = sm f l + sm g l
  | [] => rfl
  | x :: l => by
    show (f x + g x) + sm (fun x => f x + g x) l = (f x + sm f l) + (g x + sm g l)
    rw [sm_add]
    omega
theorem sm_le {α : Type} {f g : α → Int} : ∀ {l : List α}, (∀ x, x ∈ l → f x ≤ g x) → sm f l ≤ sm g l
  | [], _ => Int.le_refl _
  | x :: l, h => by
    have a := h x (List.mem_cons_self)
    have b := sm_le (fun y hy => h y (List.mem_cons_of_mem x hy))
    show f x + sm f l ≤ g x + sm g l
    omega
theorem sm_nonneg {α : Type} {f : α → Int} : ∀ {l : List α}, (∀ x, x ∈ l → 0 ≤ f x) → 0 ≤ sm f l
  | [], _ => Int.le_refl _
  | x :: l, h => by
    have a := h x (List.mem_cons_self)
    have b := sm_nonneg (fun y hy => h y (List.mem_cons_of_mem x hy))
    show 0 ≤ f x + sm f l
    omega
theorem sm_zero {α : Type} {f : α → Int} {l : List α} (h : ∀ x, x ∈ l → f x = 0) : sm f l = 0 := by
  induction l with
  | nil => rfl
  | cons x l ih =>
    show f x + sm f l = 0
    rw [h x (List.mem_cons_self), ih (fun y hy => h y (List.mem_cons_of_mem _ hy))]
    rfl
theorem sm_append {α : Type} {f : α → Int} : ∀ {l m : List α}, sm f (l ++ m) = sm f l + sm f m
  | [], m => by
    show sm f m = 0 + sm f m
    omega
  | x :: l, m => by
    show f x + sm f (l ++ m) = (f x + sm f l) + sm f m
    rw [sm_append]
    omega
theorem sm_perm {α : Type} {f : α → Int} {l m : List α} (h : l.Perm m) : sm f l = sm f m := by
  induction h with
  | nil => rfl
  | cons x _ ih =>
    show f x + _ = f x + _
    rw [ih]
  | swap x y l =>
    show f y + (f x + _) = f x + (f y + _)
    omega
  | trans _ _ a b => exact a.trans b
theorem sm_filter {α : Type} {f : α → Int} {p : α → Bool} : ∀ {l : List α}, sm f (l.filter p) = sm (fun x => if p x = true then f x else 0) l
  | [] => rfl
  | x :: l => by
    show _ = (if p x = true then f x else 0) + sm (fun x => if p x = true then f x else 0) l
    rw [List.filter_cons, ← sm_filter]
    by_cases h : p x = true
    · rw [if_pos h, if_pos h]
      rfl
    · rw [if_neg h, if_neg h]
      omega
theorem sm_filter_one {α : Type} {p : α → Bool} : ∀ {l : List α}, ((l.filter p).length : Int) = sm (fun x => if p x = true then 1 else 0) l
  | [] => rfl
  | x :: l => by
    show _ = (if p x = true then (1 : Int) else 0) + sm (fun x => if p x = true then 1 else 0) l
    rw [List.filter_cons, ← sm_filter_one]
    by_cases h : p x = true
    · rw [if_pos h, if_pos h, List.length_cons]
      omega
    · rw [if_neg h, if_neg h]
      omega

/-- how many of those that b takes have night n; what they earn -/
def ld (b : Nat → Bool) (l : List (Nat × Stay)) (n : Nat) : Int := sm (fun x => if (b x.1 && covers x.2 n) = true then 1 else 0) l
def en (b : Nat → Bool) (l : List (Nat × Stay)) : Int := sm (fun x => if b x.1 = true then (x.2.price : Int) else 0) l

theorem ld_nonneg {b l n} : 0 ≤ ld b l n := sm_nonneg (fun x _ => by split <;> omega)
theorem en_nonneg {b l} : 0 ≤ en b l := sm_nonneg (fun x _ => by split <;> omega)

theorem taken_length {caps : List Nat} {s : Stay} : (taken caps s).length = caps.length := by
  unfold taken
  rw [List.length_map, List.length_zipIdx]
theorem taken_getD {caps : List Nat} {s : Stay} {n : Nat} (h : n < caps.length) : (taken caps s).getD n 0 = if covers s n = true then caps.getD n 0 - 1 else caps.getD n 0 := by
  unfold taken
  rw [List.getD_eq_getElem?_getD, List.getD_eq_getElem?_getD, List.getElem?_map, List.getElem?_zipIdx, List.getElem?_eq_getElem h]
  simp
theorem fits_iff {caps : List Nat} {s : Stay} : fits caps s = true ↔ ∀ n, n < caps.length → covers s n = true → 0 < caps.getD n 0 := by
  unfold fits
  rw [List.all_eq_true]
  constructor
  · intro h n hn hc
    have a := h n (List.mem_range.mpr hn)
    rw [hc] at a
    simpa using a
  · intro h n hn
    cases hc : covers s n with
    | false => rfl
    | true =>
      have a := h n (List.mem_range.mp hn) hc
      simpa using a

theorem most_opt : ∀ (l : List (Nat × Stay)) (caps : List Nat) (b : Nat → Bool), (∀ n, n < caps.length → ld b l n ≤ (caps.getD n 0 : Nat)) → en b l ≤ (most l caps).1
  | [], caps, b, _ => by
    show (0 : Int) ≤ ((0 : Nat) : Int)
    omega
  | x :: l, caps, b, h => by
    have out : b x.1 = false → en b (x :: l) ≤ (most l caps).1 := by
      intro hb
      have e1 : en b (x :: l) = en b l := by
        show (if b x.1 = true then (x.2.price : Int) else 0) + en b l = en b l
        rw [hb]
        simp
      rw [e1]
      refine most_opt l caps b (fun n hn => ?_)
      have a := h n hn
      have e2 : ld b (x :: l) n = ld b l n := by
        show (if (b x.1 && covers x.2 n) = true then (1 : Int) else 0) + ld b l n = ld b l n
        rw [hb]
        simp
      rw [e2] at a
      exact a
    have inn : b x.1 = true → fits caps x.2 = true ∧ en b (x :: l) ≤ (most l (taken caps x.2)).1 + x.2.price := by
      intro hb
      have key : ∀ n, ld b (x :: l) n = (if covers x.2 n = true then 1 else 0) + ld b l n := by
        intro n
        show (if (b x.1 && covers x.2 n) = true then (1 : Int) else 0) + ld b l n = _
        rw [hb, Bool.true_and]
      have hf : fits caps x.2 = true := by
        refine fits_iff.mpr (fun n hn hc => ?_)
        have a := h n hn
        rw [key, if_pos hc] at a
        have := ld_nonneg (b := b) (l := l) (n := n)
        omega
      refine ⟨hf, ?_⟩
      have e1 : en b (x :: l) = x.2.price + en b l := by
        show (if b x.1 = true then (x.2.price : Int) else 0) + en b l = _
        rw [if_pos hb]
      rw [e1]
      have ih := most_opt l (taken caps x.2) b (fun n hn => by
        rw [taken_length] at hn
        have a := h n hn
        rw [key] at a
        rw [taken_getD hn]
        by_cases hc : covers x.2 n = true
        · rw [if_pos hc] at a ⊢
          have := fits_iff.mp hf n hn hc
          omega
        · rw [if_neg hc] at a ⊢
          omega)
      omega
    show en b (x :: l) ≤ ((if fits caps x.2 = true then (if (most l caps).1 ≤ (most l (taken caps x.2)).1 + x.2.price then ((most l (taken caps x.2)).1 + x.2.price, x.1 :: (most l (taken caps x.2)).2) else most l caps) else most l caps).1 : Int)
    cases hb : b x.1 with
    | false =>
      have a := out hb
      split
      · split
        · show _ ≤ (((most l (taken caps x.2)).1 + x.2.price : Nat) : Int)
          omega
        · exact a
      · exact a
    | true =>
      obtain ⟨hf, a⟩ := inn hb
      rw [if_pos hf]
      split
      · show _ ≤ (((most l (taken caps x.2)).1 + x.2.price : Nat) : Int)
        omega
      · omega

theorem most_sub : ∀ (l : List (Nat × Stay)) (caps : List Nat), (most l caps).2.Sublist (l.map (·.1))
  | [], caps => List.Sublist.slnil
  | x :: l, caps => by
    show List.Sublist ((if fits caps x.2 = true then (if (most l caps).1 ≤ (most l (taken caps x.2)).1 + x.2.price then ((most l (taken caps x.2)).1 + x.2.price, x.1 :: (most l (taken caps x.2)).2) else most l caps) else most l caps).2) (x.1 :: l.map (·.1))
    split
    · split
      · exact (most_sub l _).cons_cons _
      · exact (most_sub l _).cons _
    · exact (most_sub l _).cons _

theorem con_congr {l : List (Nat × Stay)} {b c : Nat → Bool} (h : ∀ x, x ∈ l → b x.1 = c x.1) : en b l = en c l ∧ ∀ n, ld b l n = ld c l n := by
  refine ⟨sm_congr (fun x hx => by rw [h x hx]), fun n => sm_congr (fun x hx => by rw [h x hx])⟩

theorem most_ok : ∀ (l : List (Nat × Stay)) (caps : List Nat), (l.map (·.1)).Nodup →
    en (most l caps).2.contains l = (most l caps).1 ∧ ∀ n, n < caps.length → ld (most l caps).2.contains l n ≤ (caps.getD n 0 : Nat)
  | [], caps, _ => ⟨rfl, fun n _ => by
      show (0 : Int) ≤ _
      omega⟩
  | x :: l, caps, nd => by
    rw [List.map_cons, List.nodup_cons] at nd
    have ihO := most_ok l caps nd.2
    have ihI := most_ok l (taken caps x.2) nd.2
    have hno : ∀ c, (most l c).2.contains x.1 = false := by
      intro c
      cases e : (most l c).2.contains x.1 with
      | false => rfl
      | true => exact absurd ((most_sub l c).subset (List.contains_iff_mem.mp e)) nd.1
    have out : en (most l caps).2.contains (x :: l) = (most l caps).1 ∧ ∀ n, n < caps.length → ld (most l caps).2.contains (x :: l) n ≤ (caps.getD n 0 : Nat) := by
      refine ⟨?_, fun n hn => ?_⟩
      · show (if (most l caps).2.contains x.1 = true then (x.2.price : Int) else 0) + en (most l caps).2.contains l = _
        rw [hno, ihO.1]
        simp
      · show (if ((most l caps).2.contains x.1 && covers x.2 n) = true then (1 : Int) else 0) + ld (most l caps).2.contains l n ≤ _
        have := ihO.2 n hn
        rw [hno]
        simpa using this
    show en ((if fits caps x.2 = true then (if (most l caps).1 ≤ (most l (taken caps x.2)).1 + x.2.price then ((most l (taken caps x.2)).1 + x.2.price, x.1 :: (most l (taken caps x.2)).2) else most l caps) else most l caps).2).contains (x :: l)
      = ((if fits caps x.2 = true then (if (most l caps).1 ≤ (most l (taken caps x.2)).1 + x.2.price then ((most l (taken caps x.2)).1 + x.2.price, x.1 :: (most l (taken caps x.2)).2) else most l caps) else most l caps).1 : Int) ∧
      ∀ n, n < caps.length → ld ((if fits caps x.2 = true then (if (most l caps).1 ≤ (most l (taken caps x.2)).1 + x.2.price then ((most l (taken caps x.2)).1 + x.2.price, x.1 :: (most l (taken caps x.2)).2) else most l caps) else most l caps).2).contains (x :: l) n ≤ (caps.getD n 0 : Nat)
    split
    · rename_i hf
      split
      · show en (x.1 :: (most l (taken caps x.2)).2).contains (x :: l) = (((most l (taken caps x.2)).1 + x.2.price : Nat) : Int) ∧ ∀ n, n < caps.length → ld (x.1 :: (most l (taken caps x.2)).2).contains (x :: l) n ≤ (caps.getD n 0 : Nat)
        have hx : (x.1 :: (most l (taken caps x.2)).2).contains x.1 = true := by simp
        have cg := con_congr (l := l) (b := (x.1 :: (most l (taken caps x.2)).2).contains) (c := (most l (taken caps x.2)).2.contains) (fun y hy => by
          have hne : y.1 ≠ x.1 := fun e => nd.1 (by rw [← e]; exact List.mem_map_of_mem hy)
          rw [List.contains_cons]
          have : (y.1 == x.1) = false := by simpa using hne
          rw [this, Bool.false_or])
        refine ⟨?_, fun n hn => ?_⟩
        · show (if (x.1 :: (most l (taken caps x.2)).2).contains x.1 = true then (x.2.price : Int) else 0) + en (x.1 :: (most l (taken caps x.2)).2).contains l = _
          rw [if_pos hx, cg.1, ihI.1]
          omega
        · show (if ((x.1 :: (most l (taken caps x.2)).2).contains x.1 && covers x.2 n) = true then (1 : Int) else 0) + ld (x.1 :: (most l (taken caps x.2)).2).contains l n ≤ _
          have a := ihI.2 n (by rw [taken_length]; exact hn)
          rw [hx, Bool.true_and, cg.2]
          rw [taken_getD hn] at a
          by_cases hc : covers x.2 n = true
          · rw [if_pos hc] at a ⊢
            have := fits_iff.mp hf n hn hc
            omega
          · rw [if_neg hc] at a ⊢
            omega
      · exact out
    · exact out
end Rd

-- RdMath2
/-! Cheapest ways: rounds over all steps, whatever their order, come to the same costs, if no simple way round is below 0. -/
namespace Rd
open Ho

abbrev Edge := Nat × (Nat × Int)

/-- a way: steps one behind another -/
def Ch : Nat → List Edge → Nat → Prop
  | u, [], v => u = v
  | u, e :: es, v => e.1 = u ∧ Ch e.2.1 es v
def cost (es : List Edge) : Int := sm (fun e => e.2.2) es

theorem ch_append : ∀ {a b : List Edge} {u v : Nat}, Ch u (a ++ b) v ↔ ∃ m, Ch u a m ∧ Ch m b v
  | [], b, u, v => by
    show Ch u b v ↔ ∃ m, u = m ∧ Ch m b v
    exact ⟨fun h => ⟨u, rfl, h⟩, fun ⟨m, e, h⟩ => e ▸ h⟩
  | e :: a, b, u, v => by
    show (e.1 = u ∧ Ch e.2.1 (a ++ b) v) ↔ ∃ m, (e.1 = u ∧ Ch e.2.1 a m) ∧ Ch m b v
    rw [ch_append]
    exact ⟨fun ⟨h, m, x, y⟩ => ⟨m, ⟨h, x⟩, y⟩, fun ⟨m, ⟨h, x⟩, y⟩ => ⟨h, m, x, y⟩⟩

/-- no simple way round costs less than nothing -/
def NoNeg (E : List Edge) : Prop := ∀ (es : List Edge) (u : Nat), (∀ e, e ∈ es → e ∈ E) → Ch u es u → (es.map (·.1)).Nodup → 0 ≤ cost es

theorem shorten {E : List Edge} (hN : NoNeg E) : ∀ (es : List Edge) (u v : Nat), (∀ e, e ∈ es → e ∈ E) → Ch u es v →
    ∃ es' : List Edge, (∀ e, e ∈ es' → e ∈ E) ∧ Ch u es' v ∧ (es'.map (·.1)).Nodup ∧ cost es' ≤ cost es
  | [], u, v, _, h => ⟨[], fun _ h => (nomatch h), h, List.nodup_nil, Int.le_refl _⟩
  | e :: es, u, v, hE, h => by
    obtain ⟨h1, h2⟩ := h
    obtain ⟨r, rE, rC, rN, rc⟩ := shorten hN es e.2.1 v (fun x hx => hE x (List.mem_cons_of_mem _ hx)) h2
    have eE : e ∈ E := hE e (List.mem_cons_self)
    by_cases hm : e.1 ∈ r.map (·.1)
    · obtain ⟨f, hf, ef⟩ := List.mem_map.mp hm
      obtain ⟨b, c, rfl⟩ := List.append_of_mem hf
      obtain ⟨m, Cb, Cf⟩ := ch_append.mp rC
      have em : f.1 = m := Cf.1
      rw [List.map_append, List.map_cons, List.nodup_append] at rN
      obtain ⟨nb, nc, nbc⟩ := rN
      have cyc : 0 ≤ cost (e :: b) := by
        refine hN (e :: b) e.1 (fun x hx => ?_) ⟨rfl, ?_⟩ ?_
        · rcases List.mem_cons.mp hx with rfl | hx
          · exact eE
          · exact rE x (List.mem_append_left _ hx)
        · rw [← ef, em]
          exact Cb
        · rw [List.map_cons, List.nodup_cons]
          exact ⟨fun hx => nbc _ hx f.1 (List.mem_cons_self) ef.symm, nb⟩
      refine ⟨f :: c, fun x hx => rE x (List.mem_append_right _ hx), ?_, nc, ?_⟩
      · rw [← h1, ← ef]
        exact ⟨rfl, Cf.2⟩
      · have e1 : cost (b ++ f :: c) = cost b + cost (f :: c) := sm_append
        have e2 : cost (e :: b) = e.2.2 + cost b := rfl
        have e3 : cost (e :: es) = e.2.2 + cost es := rfl
        omega
    · refine ⟨e :: r, fun x hx => ?_, ⟨h1, rC⟩, ?_, ?_⟩
      · rcases List.mem_cons.mp hx with rfl | hx
        · exact eE
        · exact rE x hx
      · rw [List.map_cons, List.nodup_cons]
        exact ⟨hm, rN⟩
      · have e2 : cost (e :: r) = e.2.2 + cost r := rfl
        have e3 : cost (e :: es) = e.2.2 + cost es := rfl
        omega

theorem nodup_short : ∀ (N : Nat) (l : List Nat), l.Nodup → (∀ x, x ∈ l → x < N) → l.length ≤ N := by
  intro N
  induction N with
  | zero =>
    intro l _ h
    cases l with
    | nil => exact Nat.le_refl _
    | cons x l => exact absurd (h x (List.mem_cons_self)) (Nat.not_lt_zero _)
  | succ N ih =>
    intro l nd h
    have a := ih (l.erase N) (nd.erase N) (fun x hx => by
      have h1 := h x (List.mem_of_mem_erase hx)
      have h2 : x ≠ N := fun e => by
        subst e
        exact absurd hx (List.Nodup.not_mem_erase nd)
      omega)
    by_cases hm : N ∈ l
    · rw [List.length_erase_of_mem hm] at a
      omega
    · rw [List.erase_of_not_mem hm] at a
      omega

/-! ### one step looked at; a round -/
def rel1 (l : List Int) (s : Edge) : List Int := if l.getD s.1 0 + s.2.2 < l.getD s.2.1 0 then l.set s.2.1 (l.getD s.1 0 + s.2.2) else l
theorem relaxed_eq (E : List Edge) (l : List Int) : relaxed E l = E.foldl rel1 l := rfl

theorem getD_set {l : List Int} {i j : Nat} {z : Int} (h : i < l.length) : (l.set i z).getD j 0 = if i = j then z else l.getD j 0 := by
  rw [List.getD_eq_getElem?_getD, List.getElem?_set, List.getD_eq_getElem?_getD]
  by_cases e : i = j
  · rw [if_pos e, if_pos e, if_pos h]
    rfl
  · rw [if_neg e, if_neg e]

theorem rel1_length {l : List Int} {s : Edge} : (rel1 l s).length = l.length := by
  unfold rel1
  split
  · rw [List.length_set]
  · rfl
theorem rel1_le {l : List Int} {s : Edge} {v : Nat} : (rel1 l s).getD v 0 ≤ l.getD v 0 := by
  unfold rel1
  split
  · rename_i h
    by_cases hl : s.2.1 < l.length
    · rw [getD_set hl]
      by_cases e : s.2.1 = v
      · rw [if_pos e, ← e]
        omega
      · rw [if_neg e]
        exact Int.le_refl _
    · rw [List.set_eq_of_length_le (by omega)]
      exact Int.le_refl _
  · exact Int.le_refl _
theorem rel1_edge {l : List Int} {s : Edge} (h : s.2.1 < l.length) : (rel1 l s).getD s.2.1 0 ≤ l.getD s.1 0 + s.2.2 := by
  unfold rel1
  split
  · rw [getD_set h, if_pos rfl]
    exact Int.le_refl _
  · omega

theorem rd_length : ∀ {E : List Edge} {l : List Int}, (E.foldl rel1 l).length = l.length
  | [], l => rfl
  | s :: E, l => by
    show (E.foldl rel1 (rel1 l s)).length = _
    rw [rd_length, rel1_length]
theorem rd_le : ∀ {E : List Edge} {l : List Int} {v : Nat}, (E.foldl rel1 l).getD v 0 ≤ l.getD v 0
  | [], l, v => Int.le_refl _
  | s :: E, l, v => Int.le_trans (rd_le (E := E) (l := rel1 l s)) rel1_le
theorem rd_edge : ∀ {E : List Edge} {l : List Int} {s : Edge}, s ∈ E → s.2.1 < l.length → (E.foldl rel1 l).getD s.2.1 0 ≤ l.getD s.1 0 + s.2.2
  | t :: E, l, s, h, hl => by
    show (E.foldl rel1 (rel1 l t)).getD s.2.1 0 ≤ _
    rcases (List.mem_cons.mp h) with rfl | h
    · exact Int.le_trans rd_le (rel1_edge hl)
    · have a := rd_edge (E := E) (l := rel1 l t) h (by rw [rel1_length]; exact hl)
      have b := rel1_le (l := l) (s := t) (v := s.1)
      omega

/-- so many rounds -/
def rounds (E : List Edge) : Nat → List Int → List Int
  | 0, l => l
  | f + 1, l => rounds E f (E.foldl rel1 l)
theorem settledBy_eq (E : List Edge) : ∀ (f : Nat) (l : List Int), settledBy E f l = rounds E f l
  | 0, l => rfl
  | f + 1, l => settledBy_eq E f _
theorem rounds_length {E : List Edge} : ∀ {f : Nat} {l : List Int}, (rounds E f l).length = l.length
  | 0, l => rfl
  | f + 1, l => by
    show (rounds E f (E.foldl rel1 l)).length = _
    rw [rounds_length, rd_length]
theorem rounds_le {E : List Edge} : ∀ {f : Nat} {l : List Int} {v : Nat}, (rounds E f l).getD v 0 ≤ l.getD v 0
  | 0, l, v => Int.le_refl _
  | f + 1, l, v => Int.le_trans (rounds_le (f := f)) rd_le
theorem rounds_way {E : List Edge} : ∀ {es : List Edge} {f : Nat} {l : List Int} {u v : Nat}, (∀ e, e ∈ E → e.2.1 < l.length) → (∀ e, e ∈ es → e ∈ E) → Ch u es v → es.length ≤ f → (rounds E f l).getD v 0 ≤ l.getD u 0 + cost es
  | [], f, l, u, v, _, _, h, _ => by
    have e : u = v := h
    subst e
    have := rounds_le (E := E) (f := f) (l := l) (v := u)
    show _ ≤ _ + (0 : Int)
    omega
  | e :: es, 0, l, u, v, _, _, _, hl => absurd hl (by rw [List.length_cons]; omega)
  | e :: es, f + 1, l, u, v, hE, hs, h, hl => by
    obtain ⟨h1, h2⟩ := h
    have eE := hs e (List.mem_cons_self)
    have a := rounds_way (E := E) (es := es) (f := f) (l := E.foldl rel1 l) (u := e.2.1) (v := v) (fun x hx => by rw [rd_length]; exact hE x hx) (fun x hx => hs x (List.mem_cons_of_mem _ hx)) h2 (by rw [List.length_cons] at hl; omega)
    have b := rd_edge (l := l) eE (hE e eE)
    show (rounds E f (E.foldl rel1 l)).getD v 0 ≤ l.getD u 0 + (e.2.2 + cost es)
    rw [h1] at b
    omega

/-- each cost is that of a way from evening 0 -/
def Sound (E : List Edge) (l : List Int) : Prop := ∀ v, v < l.length → ∃ es : List Edge, (∀ e, e ∈ es → e ∈ E) ∧ Ch 0 es v ∧ cost es = l.getD v 0
theorem sound_rel1 {E : List Edge} {l : List Int} {s : Edge} (hs : s ∈ E) (h1 : s.1 < l.length) (h : Sound E l) : Sound E (rel1 l s) := by
  unfold rel1
  split
  · intro v hv
    rw [List.length_set] at hv
    by_cases hl : s.2.1 < l.length
    · rw [getD_set hl]
      by_cases e : s.2.1 = v
      · rw [if_pos e]
        obtain ⟨es, a, b, c⟩ := h s.1 h1
        refine ⟨es ++ [s], fun x hx => ?_, ch_append.mpr ⟨s.1, b, rfl, e⟩, ?_⟩
        · rcases List.mem_append.mp hx with hx | hx
          · exact a x hx
          · rw [List.mem_singleton.mp hx]
            exact hs
        · show sm _ (es ++ [s]) = _
          rw [sm_append, ← c]
          show cost es + (s.2.2 + 0) = _
          omega
      · rw [if_neg e]
        exact h v hv
    · rw [List.set_eq_of_length_le (by omega)]
      exact h v hv
  · exact h
theorem sound_rd {E : List Edge} : ∀ {F : List Edge} {l : List Int}, (∀ e, e ∈ F → e ∈ E) → (∀ e, e ∈ F → e.1 < l.length) → Sound E l → Sound E (F.foldl rel1 l)
  | [], l, _, _, h => h
  | s :: F, l, hF, hl, h => sound_rd (F := F) (fun e he => hF e (List.mem_cons_of_mem _ he)) (fun e he => by rw [rel1_length]; exact hl e (List.mem_cons_of_mem _ he)) (sound_rel1 (hF s (List.mem_cons_self)) (hl s (List.mem_cons_self)) h)
theorem sound_rounds {E : List Edge} : ∀ {f : Nat} {l : List Int}, (∀ e, e ∈ E → e.1 < l.length) → Sound E l → Sound E (rounds E f l)
  | 0, l, _, h => h
  | f + 1, l, hl, h => sound_rounds (f := f) (fun e he => by rw [rd_length]; exact hl e he) (sound_rd (fun _ h => h) hl h)

/-- where on by one night costs nothing, all begin sound at 0 -/
theorem sound_start {E : List Edge} {N : Nat} (h : ∀ n, n + 1 < N → (n, (n + 1, (0 : Int))) ∈ E) : Sound E (List.replicate N 0) := by
  intro v hv
  rw [List.length_replicate] at hv
  have key : ∀ v, v < N → ∃ es : List Edge, (∀ e, e ∈ es → e ∈ E) ∧ Ch 0 es v ∧ cost es = 0 := by
    intro v
    induction v with
    | zero => exact fun _ => ⟨[], fun _ h => (nomatch h), rfl, rfl⟩
    | succ n ih =>
      intro hn
      obtain ⟨es, a, b, c⟩ := ih (by omega)
      refine ⟨es ++ [(n, (n + 1, 0))], fun x hx => ?_, ch_append.mpr ⟨n, b, rfl, rfl⟩, ?_⟩
      · rcases List.mem_append.mp hx with hx | hx
        · exact a x hx
        · rw [List.mem_singleton.mp hx]
          exact h n hn
      · show sm _ (es ++ _) = _
        rw [sm_append]
        show cost es + (0 + 0) = 0
        omega
  obtain ⟨es, a, b, c⟩ := key v hv
  refine ⟨es, a, b, ?_⟩
  rw [c, List.getD_eq_getElem?_getD, List.getElem?_replicate, if_pos hv]
  rfl

/-- after as many rounds as there are evenings nothing sound is lower -/
theorem rounds_least {E : List Edge} {N f : Nat} {l m : List Int} (hN : NoNeg E) (hl : l.length = N) (hm : m.length = N) (h1 : ∀ e, e ∈ E → e.1 < N) (h2 : ∀ e, e ∈ E → e.2.1 < N) (h0 : l.getD 0 0 ≤ 0) (hf : N ≤ f) (hs : Sound E m) {v : Nat} (hv : v < N) :
    (rounds E f l).getD v 0 ≤ m.getD v 0 := by
  obtain ⟨es, a, b, c⟩ := hs v (by rw [hm]; exact hv)
  obtain ⟨es', a', b', n', c'⟩ := shorten hN es 0 v a b
  have hlen : es'.length ≤ N := by
    have := nodup_short N (es'.map (·.1)) n' (fun x hx => by
      obtain ⟨e, he, rfl⟩ := List.mem_map.mp hx
      exact h1 e (a' e he))
    rw [List.length_map] at this
    exact this
  have := rounds_way (E := E) (es := es') (f := f) (l := l) (u := 0) (v := v) (fun e he => by rw [hl]; exact h2 e he) a' b' (by omega)
  omega

theorem noNeg_mem {E F : List Edge} (h : ∀ e, e ∈ F → e ∈ E) (hN : NoNeg E) : NoNeg F := fun es u a b c => hN es u (fun e he => h e (a e he)) b c
theorem sound_mem {E F : List Edge} (h : ∀ e, e ∈ E → e ∈ F) {l : List Int} (hS : Sound E l) : Sound F l := fun v hv => by
  obtain ⟨es, a, b, c⟩ := hS v hv
  exact ⟨es, fun e he => h e (a e he), b, c⟩

/-- the steps in another order, other rounds: the same costs -/
theorem rounds_same {E F : List Edge} {N f g : Nat} {l : List Int} (hN : NoNeg E) (hEF : ∀ e, e ∈ E ↔ e ∈ F) (hl : l.length = N) (h1 : ∀ e, e ∈ E → e.1 < N) (h2 : ∀ e, e ∈ E → e.2.1 < N) (h0 : l.getD 0 0 ≤ 0) (hs : Sound E l) (hf : N ≤ f) (hg : N ≤ g) :
    rounds E f l = rounds F g l := by
  have hNF : NoNeg F := noNeg_mem (fun e => (hEF e).mpr) hN
  have h1F : ∀ e, e ∈ F → e.1 < N := fun e he => h1 e ((hEF e).mpr he)
  have h2F : ∀ e, e ∈ F → e.2.1 < N := fun e he => h2 e ((hEF e).mpr he)
  have sE : Sound E (rounds E f l) := sound_rounds (fun e he => by rw [hl]; exact h1 e he) hs
  have sF : Sound F (rounds F g l) := sound_rounds (fun e he => by rw [hl]; exact h1F e he) (sound_mem (fun e => (hEF e).mp) hs)
  have lE : (rounds E f l).length = N := rounds_length.trans hl
  have lF : (rounds F g l).length = N := rounds_length.trans hl
  refine List.ext_getElem (lE.trans lF.symm) (fun i a b => ?_)
  have hi : i < N := by omega
  have x := rounds_least hN hl lF h1 h2 h0 hf (sound_mem (fun e => (hEF e).mpr) sF) hi
  have y := rounds_least hNF hl lE h1F h2F h0 hg (sound_mem (fun e => (hEF e).mp) sE) hi
  rw [List.getD_eq_getElem?_getD, List.getD_eq_getElem?_getD, List.getElem?_eq_getElem a, List.getElem?_eq_getElem b] at x y
  exact Int.le_antisymm x y

/-- a round that changes nothing: none after it does -/
theorem rounds_fix {E : List Edge} {l : List Int} (h : E.foldl rel1 l = l) : ∀ f, rounds E f l = l
  | 0 => rfl
  | f + 1 => by
    show rounds E f (E.foldl rel1 l) = l
    rw [h]
    exact rounds_fix h f
theorem rounds_add {E : List Edge} : ∀ {f g : Nat} {l : List Int}, rounds E (f + g) l = rounds E g (rounds E f l)
  | 0, g, l => by
    rw [Nat.zero_add]
    rfl
  | f + 1, g, l => by
    rw [Nat.succ_add]
    exact rounds_add (f := f)
theorem rounds_succ {E : List Edge} {f : Nat} {l : List Int} : rounds E (f + 1) l = E.foldl rel1 (rounds E f l) := by
  rw [rounds_add]
  rfl
/-- on by one night costs nothing: so costs fall from evening to evening -/
theorem rounds_falls {E : List Edge} {N f : Nat} {l : List Int} (hN : NoNeg E) (hl : l.length = N) (h1 : ∀ e, e ∈ E → e.1 < N) (h2 : ∀ e, e ∈ E → e.2.1 < N) (h0 : l.getD 0 0 ≤ 0) (hs : Sound E l) (hf : N ≤ f) {n : Nat} (hn : n + 1 < N) (hE : (n, (n + 1, (0 : Int))) ∈ E) :
    (rounds E f l).getD (n + 1) 0 ≤ (rounds E f l).getD n 0 := by
  have e : rounds E (f + 1) l = rounds E f l := rounds_same hN (fun _ => Iff.rfl) hl h1 h2 h0 hs (by omega) hf
  have a := rd_edge (l := rounds E f l) hE (by rw [rounds_length, hl]; exact hn)
  rw [← rounds_succ, e] at a
  show (rounds E f l).getD (n + 1) 0 ≤ _
  have b : (rounds E f l).getD (n + 1) 0 ≤ (rounds E f l).getD n 0 + 0 := a
  omega
end Rd

-- RdMath3
/-! The offers chosen earn the most: so no simple way round costs less than nothing. -/
namespace Rd
open Ho

inductive Wy where
  | on (n : Nat)
  | back (n : Nat)
  | off (k : Nat) (s : Stay)
def Wy.edge (ch : Nat → Bool) : Wy → Edge
  | .on n => (n, (n + 1, 0))
  | .back n => (n + 1, (n, 0))
  | .off k s => if ch k = true then (s.to_, (s.from_, (s.price : Int))) else (s.from_, (s.to_, -(s.price : Int)))
/-- a step that there is -/
def Wy.ok (O : List (Nat × Stay)) (idle : Nat → Nat) : Wy → Prop
  | .on _ => True
  | .back n => 0 < idle n
  | .off k s => (k, s) ∈ O
def Wy.offer? : Wy → Option (Nat × Stay)
  | .off k s => some (k, s)
  | _ => none
def isBack (n : Nat) : Wy → Bool
  | .back m => m == n
  | _ => false

theorem lift {O : List (Nat × Stay)} {idle : Nat → Nat} {ch : Nat → Bool} : ∀ (es : List Edge), (∀ e, e ∈ es → ∃ s : Wy, s.ok O idle ∧ s.edge ch = e) → ∃ ss : List Wy, (∀ s, s ∈ ss → s.ok O idle) ∧ ss.map (Wy.edge ch) = es
  | [], _ => ⟨[], fun _ h => (nomatch h), rfl⟩
  | e :: es, h => by
    obtain ⟨s, hs, es1⟩ := h e (List.mem_cons_self)
    obtain ⟨ss, a, b⟩ := lift es (fun x hx => h x (List.mem_cons_of_mem _ hx))
    refine ⟨s :: ss, fun x hx => ?_, by rw [List.map_cons, es1, b]⟩
    rcases (List.mem_cons.mp hx) with rfl | hx
    · exact hs
    · exact a x hx

theorem sm_map {α β : Type} {f : β → Int} {g : α → β} : ∀ {l : List α}, sm f (l.map g) = sm (fun x => f (g x)) l
  | [] => rfl
  | x :: l => by
    show f (g x) + sm f (l.map g) = f (g x) + _
    rw [sm_map]
theorem sm_offers {f : Nat × Stay → Int} : ∀ {ss : List Wy}, sm f (ss.filterMap Wy.offer?) = sm (fun s => match s with | .off k t => f (k, t) | _ => 0) ss
  | [] => rfl
  | .on n :: ss => by
    show sm f (ss.filterMap Wy.offer?) = 0 + _
    rw [sm_offers]
    omega
  | .back n :: ss => by
    show sm f (ss.filterMap Wy.offer?) = 0 + _
    rw [sm_offers]
    omega
  | .off k t :: ss => by
    show f (k, t) + sm f (ss.filterMap Wy.offer?) = f (k, t) + _
    rw [sm_offers]

/-- 1 ahead of an evening, else 0: what a way crosses is a difference -/
def ind (n v : Nat) : Int := if n < v then 1 else 0
theorem telescope {n : Nat} : ∀ {es : List Edge} {u v : Nat}, Ch u es v → sm (fun e => ind n e.2.1 - ind n e.1) es = ind n v - ind n u
  | [], u, v, h => by
    have e : u = v := h
    subst e
    show (0 : Int) = _
    omega
  | e :: es, u, v, h => by
    obtain ⟨h1, h2⟩ := h
    show (ind n e.2.1 - ind n e.1) + sm _ es = _
    rw [telescope h2, h1]
    omega

theorem uniq {O : List (Nat × Stay)} (nd : (O.map (·.1)).Nodup) {k : Nat} {s t : Stay} (a : (k, s) ∈ O) (b : (k, t) ∈ O) : s = t := by
  induction O with
  | nil => cases a
  | cons x O ih =>
    rw [List.map_cons, List.nodup_cons] at nd
    rcases List.mem_cons.mp a with ea | ha
    · rcases List.mem_cons.mp b with eb | hb
      · rw [← ea] at eb
        exact (Prod.mk.inj eb).2.symm
      · exact absurd (List.mem_map.mpr ⟨_, hb, by rw [← ea]⟩) nd.1
    · rcases List.mem_cons.mp b with eb | hb
      · exact absurd (List.mem_map.mpr ⟨_, ha, by rw [← eb]⟩) nd.1
      · exact ih nd.2 ha hb

theorem backs {ch : Nat → Bool} {O : List (Nat × Stay)} {idle : Nat → Nat} {n : Nat} : ∀ {ss : List Wy}, (∀ s, s ∈ ss → s.ok O idle) → (ss.map (fun s => (s.edge ch).1)).Nodup → sm (fun s => if isBack n s = true then 1 else 0) ss ≤ idle n ∧ (sm (fun s => if isBack n s = true then (1 : Int) else 0) ss ≤ 1) ∧ ((n + 1) ∉ ss.map (fun s => (s.edge ch).1) → sm (fun s => if isBack n s = true then (1 : Int) else 0) ss = 0)
  | [], _, _ => by
    refine ⟨?_, ?_, fun _ => rfl⟩
    · show (0 : Int) ≤ _
      omega
    · show (0 : Int) ≤ 1
      omega
  | s :: ss, hs, nd => by
    rw [List.map_cons, List.nodup_cons] at nd
    obtain ⟨i1, i2, i3⟩ := backs (n := n) (fun x hx => hs x (List.mem_cons_of_mem _ hx)) nd.2
    have h0 := hs s (List.mem_cons_self)
    show (if isBack n s = true then (1 : Int) else 0) + sm (fun s => if isBack n s = true then 1 else 0) ss ≤ _ ∧ ((if isBack n s = true then (1 : Int) else 0) + sm (fun s => if isBack n s = true then 1 else 0) ss ≤ 1) ∧ (_ → (if isBack n s = true then (1 : Int) else 0) + sm (fun s => if isBack n s = true then 1 else 0) ss = 0)
    cases s with
    | on m =>
      have e : isBack n (.on m) = false := rfl
      rw [e]
      simp only [Bool.false_eq_true, if_false, Int.zero_add]
      exact ⟨i1, i2, fun h => i3 (fun q => h (List.mem_cons_of_mem _ q))⟩
    | off k t =>
      have e : isBack n (.off k t) = false := rfl
      rw [e]
      simp only [Bool.false_eq_true, if_false, Int.zero_add]
      exact ⟨i1, i2, fun h => i3 (fun q => h (List.mem_cons_of_mem _ q))⟩
    | back m =>
      by_cases e : m = n
      · subst e
        have q : isBack m (.back m) = true := by
          show (m == m) = true
          simp
        have z := i3 nd.1
        rw [z, q]
        simp only [if_true]
        have : 0 < idle m := h0
        refine ⟨by omega, by omega, fun h => absurd (List.mem_cons_self) h⟩
      · have q : isBack n (.back m) = false := by
          show (m == n) = false
          simpa using e
        rw [q]
        simp only [Bool.false_eq_true, if_false, Int.zero_add]
        exact ⟨i1, i2, fun h => i3 (fun q => h (List.mem_cons_of_mem _ q))⟩

theorem mem_offers {ss : List Wy} {x : Nat × Stay} : x ∈ ss.filterMap Wy.offer? ↔ Wy.off x.1 x.2 ∈ ss := by
  rw [List.mem_filterMap]
  constructor
  · rintro ⟨s, h, e⟩
    cases s with
    | on m => cases e
    | back m => cases e
    | off k t =>
      cases e
      exact h
  · intro h
    exact ⟨_, h, rfl⟩

theorem offers_nodup {ch : Nat → Bool} {O : List (Nat × Stay)} {idle : Nat → Nat} (nO : (O.map (·.1)).Nodup) : ∀ {ss : List Wy}, (∀ s, s ∈ ss → s.ok O idle) → (ss.map (fun s => (s.edge ch).1)).Nodup → ((ss.filterMap Wy.offer?).map (·.1)).Nodup
  | [], _, _ => List.nodup_nil
  | s :: ss, hs, nd => by
    rw [List.map_cons, List.nodup_cons] at nd
    have ih := offers_nodup nO (fun x hx => hs x (List.mem_cons_of_mem _ hx)) nd.2
    have h0 := hs s (List.mem_cons_self)
    cases s with
    | on m => exact ih
    | back m => exact ih
    | off k t =>
      show (k :: (ss.filterMap Wy.offer?).map (·.1)).Nodup
      rw [List.nodup_cons]
      refine ⟨fun h => ?_, ih⟩
      obtain ⟨x, hx, e⟩ := List.mem_map.mp h
      have hx' := mem_offers.mp hx
      have hO : (x.1, x.2) ∈ O := hs _ (List.mem_cons_of_mem _ hx')
      have et : t = x.2 := uniq nO (k := k) h0 (by rw [← e]; exact hO)
      refine nd.1 (List.mem_map.mpr ⟨_, hx', ?_⟩)
      have e' : x.1 = k := e
      rw [et, e']

theorem nodup_of_map {α β : Type} {f : α → β} : ∀ {l : List α}, (l.map f).Nodup → l.Nodup
  | [], _ => List.nodup_nil
  | x :: l, h => by
    rw [List.map_cons, List.nodup_cons] at h
    rw [List.nodup_cons]
    exact ⟨fun q => h.1 (List.mem_map_of_mem q), nodup_of_map h.2⟩

theorem part_perm {O T : List (Nat × Stay)} (nO : (O.map (·.1)).Nodup) (nT : (T.map (·.1)).Nodup) (hT : ∀ x, x ∈ T → x ∈ O) : (O.filter (fun x => (T.map (·.1)).contains x.1)).Perm T := by
  refine (List.perm_ext_iff_of_nodup ((nodup_of_map nO).sublist List.filter_sublist) (nodup_of_map nT)).mpr (fun x => ?_)
  rw [List.mem_filter, List.contains_iff_mem]
  constructor
  · rintro ⟨h1, h2⟩
    obtain ⟨y, hy, e⟩ := List.mem_map.mp h2
    have e' : y.1 = x.1 := e
    have : x.2 = y.2 := uniq nO (k := x.1) h1 (by rw [← e']; exact hT y hy)
    have exy : x = y := Prod.ext e'.symm this
    rw [exy]
    exact hy
  · intro h
    exact ⟨hT x h, List.mem_map_of_mem h⟩

theorem if_and01 (p q : Bool) : (if (p && q) = true then (1 : Int) else 0) = if p = true then (if q = true then 1 else 0) else 0 := by
  cases p <;> cases q <;> rfl
/-- those taken are turned round along T: what is earned and had then -/
theorem turned {O T : List (Nat × Stay)} {ch : Nat → Bool} {g : Nat × Stay → Int} (nO : (O.map (·.1)).Nodup) (nT : (T.map (·.1)).Nodup) (hT : ∀ x, x ∈ T → x ∈ O) :
    sm (fun x => if (ch x.1 != (T.map (·.1)).contains x.1) = true then g x else 0) O = sm (fun x => if ch x.1 = true then g x else 0) O + sm (fun x => if ch x.1 = true then - g x else g x) T := by
  rw [← sm_perm (part_perm nO nT hT), sm_filter, ← sm_add]
  refine sm_congr (fun x _ => ?_)
  cases ch x.1 <;> cases (T.map (·.1)).contains x.1 <;> simp <;> omega

theorem noNeg {O : List (Nat × Stay)} {caps : List Nat} {E : List Edge} {idle : Nat → Nat} (nO : (O.map (·.1)).Nodup) (hO : ∀ x, x ∈ O → x.2.from_ ≤ x.2.to_)
    (hi : ∀ n, n < caps.length → (idle n : Int) + ld (most O caps).2.contains O n ≤ (caps.getD n 0 : Nat))
    (hE : ∀ e, e ∈ E → ∃ s : Wy, s.ok O idle ∧ s.edge (most O caps).2.contains = e) : NoNeg E := by
  intro es u hes hch hnd
  obtain ⟨ss, hss, rfl⟩ := lift es (fun e he => hE e (hes e he))
  have ok := most_ok O caps nO
  generalize hc : (most O caps).2.contains = ch at *
  rw [List.map_map] at hnd
  have hnd' : (ss.map (fun s => (s.edge ch).1)).Nodup := hnd
  have nT := offers_nodup nO hss hnd'
  have hT : ∀ x, x ∈ ss.filterMap Wy.offer? → x ∈ O := fun x hx => hss _ (mem_offers.mp hx)
  -- what the way costs
  have e1 : cost (ss.map (Wy.edge ch)) = - sm (fun x => if ch x.1 = true then - (x.2.price : Int) else x.2.price) (ss.filterMap Wy.offer?) := by
    have : cost (ss.map (Wy.edge ch)) = sm (fun x => if ch x.1 = true then (x.2.price : Int) else - (x.2.price : Int)) (ss.filterMap Wy.offer?) := by
      unfold cost
      rw [sm_map, sm_offers]
      refine sm_congr (fun s _ => ?_)
      cases s with
      | on m => rfl
      | back m => rfl
      | off k t =>
        show (if ch k = true then (t.to_, (t.from_, (t.price : Int))) else (t.from_, (t.to_, -(t.price : Int)))).2.2 = (if ch k = true then (t.price : Int) else - (t.price : Int))
        split <;> rfl
    rw [this]
    have z : sm (fun x => if ch x.1 = true then (x.2.price : Int) else - (x.2.price : Int)) (ss.filterMap Wy.offer?) + sm (fun x => if ch x.1 = true then - (x.2.price : Int) else x.2.price) (ss.filterMap Wy.offer?) = 0 := by
      rw [← sm_add]
      refine sm_zero (fun x _ => ?_)
      cases ch x.1 <;> simp <;> omega
    omega
  -- those had then
  have h2 := most_opt O caps (fun k => ch k != ((ss.filterMap Wy.offer?).map (·.1)).contains k) (fun n hn => by
    have t := telescope (n := n) hch
    rw [sm_map] at t
    have bk := (backs (n := n) hss hnd').1
    have cr : sm (fun x => if ch x.1 = true then - (if covers x.2 n = true then (1 : Int) else 0) else (if covers x.2 n = true then 1 else 0)) (ss.filterMap Wy.offer?) ≤ sm (fun s => if isBack n s = true then (1 : Int) else 0) ss := by
      have le : sm (fun x => if ch x.1 = true then - (if covers x.2 n = true then (1 : Int) else 0) else (if covers x.2 n = true then 1 else 0)) (ss.filterMap Wy.offer?) ≤ sm (fun s => (if isBack n s = true then (1 : Int) else 0) + (ind n (Wy.edge ch s).2.1 - ind n (Wy.edge ch s).1)) ss := by
        rw [sm_offers]
        refine sm_le (fun s hs => ?_)
        cases s with
        | on m =>
          show (0 : Int) ≤ (if isBack n (.on m) = true then (1 : Int) else 0) + (ind n (m + 1) - ind n m)
          have e : isBack n (.on m) = false := rfl
          rw [e]
          unfold ind
          (simp only [Bool.false_eq_true, if_false])
          split <;> split <;> omega
        | back m =>
          show (0 : Int) ≤ (if (m == n) = true then (1 : Int) else 0) + (ind n m - ind n (m + 1))
          unfold ind
          by_cases e : m = n
          · subst e
            simp
          · have q : (m == n) = false := by simpa using e
            rw [q]
            (simp only [Bool.false_eq_true, if_false])
            split <;> split <;> omega
        | off k t =>
          have e : isBack n (.off k t) = false := rfl
          have hft : t.from_ ≤ t.to_ := hO _ (hss _ hs)
          show (if ch k = true then - (if covers t n = true then (1 : Int) else 0) else (if covers t n = true then 1 else 0)) ≤ (if isBack n (.off k t) = true then (1 : Int) else 0) + (ind n (Wy.edge ch (.off k t)).2.1 - ind n (Wy.edge ch (.off k t)).1)
          rw [e]
          have cv : (if covers t n = true then (1 : Int) else 0) = ind n t.to_ - ind n t.from_ := by
            unfold covers ind
            by_cases a : t.from_ ≤ n <;> by_cases b : n < t.to_ <;> simp [a, b] <;> omega
          rw [cv]
          unfold Wy.edge
          by_cases q : ch k = true
          · simp only [q, if_true, Bool.false_eq_true, if_false]
            omega
          · simp only [q, Bool.false_eq_true, if_false]
            omega
      rw [sm_add] at le
      have : sm (fun s => ind n (Wy.edge ch s).2.1 - ind n (Wy.edge ch s).1) ss = 0 := by
        rw [t]
        omega
      omega
    have tn := turned (ch := ch) (g := fun x => if covers x.2 n = true then (1 : Int) else 0) nO nT hT
    have l1 : ld (fun k => ch k != ((ss.filterMap Wy.offer?).map (·.1)).contains k) O n = sm (fun x => if (ch x.1 != ((ss.filterMap Wy.offer?).map (·.1)).contains x.1) = true then (if covers x.2 n = true then (1 : Int) else 0) else 0) O := by
      unfold ld
      refine sm_congr (fun x _ => ?_)
      exact if_and01 _ _
    have l2 : ld ch O n = sm (fun x => if ch x.1 = true then (if covers x.2 n = true then (1 : Int) else 0) else 0) O := by
      unfold ld
      refine sm_congr (fun x _ => ?_)
      cases covers x.2 n <;> cases ch x.1 <;> simp
    have := hi n hn
    rw [l1, tn, ← l2]
    omega)
  have tn := turned (ch := ch) (g := fun x => (x.2.price : Int)) nO nT hT
  have m1 : en (fun k => ch k != ((ss.filterMap Wy.offer?).map (·.1)).contains k) O = sm (fun x => if (ch x.1 != ((ss.filterMap Wy.offer?).map (·.1)).contains x.1) = true then (x.2.price : Int) else 0) O := rfl
  have m2 : en ch O = sm (fun x => if ch x.1 = true then (x.2.price : Int) else 0) O := rfl
  have m3 := ok.1
  rw [m1, tn, ← m2, m3] at h2
  rw [e1]
  omega
end Rd

-- RdMath4
/-! A desk as it always is; how many have a night; the nights' prices whatever the order of the steps. -/
namespace Rd
open Ho

/-- those that there are, numbered from k on -/
def th : Nat → List (Option Stay) → List (Nat × Stay)
  | _, [] => []
  | k, none :: l => th (k + 1) l
  | k, some s :: l => (k, s) :: th (k + 1) l
theorem th_eq : ∀ (l : List (Option Stay)) (k : Nat), ((l.zipIdx k).filterMap fun (x : Option Stay × Nat) => x.1.map fun (s : Stay) => (x.2, s)) = th k l
  | [], k => rfl
  | none :: l, k => by
    rw [List.zipIdx_cons, List.filterMap_cons]
    exact th_eq l (k + 1)
  | some s :: l, k => by
    rw [List.zipIdx_cons, List.filterMap_cons]
    show (k, s) :: _ = _
    rw [th_eq l (k + 1)]
    rfl
theorem there_eq (l : List (Option Stay)) : there l = th 0 l := th_eq l 0
theorem mem_th : ∀ {l : List (Option Stay)} {k : Nat} {x : Nat × Stay}, x ∈ th k l ↔ k ≤ x.1 ∧ l[x.1 - k]? = some (some x.2)
  | [], k, x => by
    constructor
    · intro h
      cases h
    · rintro ⟨_, h⟩
      simp at h
  | o :: l, k, x => by
    have step : x ∈ th (k + 1) l ↔ k + 1 ≤ x.1 ∧ l[x.1 - (k + 1)]? = some (some x.2) := mem_th
    have tl : k + 1 ≤ x.1 → (o :: l)[x.1 - k]? = l[x.1 - (k + 1)]? := by
      intro h
      rw [show x.1 - k = (x.1 - (k + 1)) + 1 by omega, List.getElem?_cons_succ]
    cases o with
    | none =>
      show x ∈ th (k + 1) l ↔ _
      rw [step]
      constructor
      · rintro ⟨a, b⟩
        exact ⟨by omega, by rw [tl a]; exact b⟩
      · rintro ⟨a, b⟩
        by_cases e : k + 1 ≤ x.1
        · exact ⟨e, by rw [← tl e]; exact b⟩
        · rw [show x.1 - k = 0 by omega] at b
          simp at b
    | some s =>
      show x ∈ (k, s) :: th (k + 1) l ↔ _
      rw [List.mem_cons, step]
      constructor
      · rintro (rfl | ⟨a, b⟩)
        · exact ⟨Nat.le_refl _, by simp⟩
        · exact ⟨by omega, by rw [tl a]; exact b⟩
      · rintro ⟨a, b⟩
        by_cases e : k + 1 ≤ x.1
        · exact .inr ⟨e, by rw [← tl e]; exact b⟩
        · have e' : x.1 = k := by omega
          rw [e', Nat.sub_self] at b
          simp at b
          exact .inl (Prod.ext e' b.symm)
theorem mem_there {l : List (Option Stay)} {x : Nat × Stay} : x ∈ there l ↔ l[x.1]? = some (some x.2) := by
  rw [there_eq, mem_th]
  exact ⟨fun h => h.2, fun h => ⟨Nat.zero_le _, h⟩⟩
theorem th_nodup : ∀ {l : List (Option Stay)} {k : Nat}, ((th k l).map (·.1)).Nodup
  | [], k => List.nodup_nil
  | none :: l, k => th_nodup (l := l)
  | some s :: l, k => by
    show (k :: (th (k + 1) l).map (·.1)).Nodup
    rw [List.nodup_cons]
    refine ⟨fun h => ?_, th_nodup⟩
    obtain ⟨x, hx, e⟩ := List.mem_map.mp h
    have := (mem_th.mp hx).1
    have e' : x.1 = k := e
    omega
theorem there_nodup {l : List (Option Stay)} : ((there l).map (·.1)).Nodup := by
  rw [there_eq]
  exact th_nodup
theorem th_append : ∀ {l m : List (Option Stay)} {k : Nat}, th k (l ++ m) = th k l ++ th (k + l.length) m
  | [], m, k => rfl
  | none :: l, m, k => by
    show th (k + 1) (l ++ m) = th (k + 1) l ++ _
    rw [th_append, List.length_cons, Nat.add_assoc, Nat.add_comm 1]
  | some s :: l, m, k => by
    show (k, s) :: th (k + 1) (l ++ m) = (k, s) :: th (k + 1) l ++ _
    rw [th_append, List.length_cons, Nat.add_assoc, Nat.add_comm 1]
    rfl

/-- how many have a night -/
def cnt : List (Option Stay) → Nat → Nat
  | [], _ => 0
  | none :: l, n => cnt l n
  | some s :: l, n => (if covers s n = true then 1 else 0) + cnt l n
theorem count_th : ∀ {l : List (Option Stay)} {k n : Nat}, count (th k l) n = cnt l n
  | [], k, n => rfl
  | none :: l, k, n => count_th (l := l)
  | some s :: l, k, n => by
    have ih : count (th (k + 1) l) n = cnt l n := count_th
    show _ = (if covers s n = true then 1 else 0) + cnt l n
    rw [← ih]
    unfold count
    show (((k, s) :: th (k + 1) l).filter _).length = _
    rw [List.filter_cons]
    show (if covers s n = true then _ else _ : List (Nat × Stay)).length = _
    split
    · rw [List.length_cons, Nat.add_comm]
    · rw [Nat.zero_add]
theorem count_there {l : List (Option Stay)} {n : Nat} : count (there l) n = cnt l n := by
  rw [there_eq]
  exact count_th
theorem cnt_append : ∀ {l m : List (Option Stay)} {n : Nat}, cnt (l ++ m) n = cnt l n + cnt m n
  | [], m, n => by
    show cnt m n = 0 + cnt m n
    omega
  | none :: l, m, n => cnt_append (l := l)
  | some s :: l, m, n => by
    show _ + cnt (l ++ m) n = (_ + cnt l n) + cnt m n
    rw [cnt_append]
    omega
def cov1 : Option Stay → Nat → Nat
  | none, _ => 0
  | some s, n => if covers s n = true then 1 else 0
theorem cnt_cons {o : Option Stay} {l : List (Option Stay)} {n : Nat} : cnt (o :: l) n = cov1 o n + cnt l n := by
  cases o with
  | none =>
    show cnt l n = 0 + cnt l n
    omega
  | some s => rfl
theorem cnt_set : ∀ {l : List (Option Stay)} {k n : Nat} {o p : Option Stay}, l[k]? = some o → cnt (l.set k p) n + cov1 o n = cnt l n + cov1 p n
  | [], k, n, o, p, h => by simp at h
  | a :: l, 0, n, o, p, h => by
    have e : a = o := by simpa using h
    subst e
    rw [List.set_cons_zero, cnt_cons, cnt_cons]
    omega
  | a :: l, k + 1, n, o, p, h => by
    have ih := cnt_set (l := l) (k := k) (n := n) (o := o) (p := p) (by simpa using h)
    rw [List.set_cons_succ, cnt_cons, cnt_cons]
    omega

def StayOk (N : Nat) (s : Stay) : Prop := s.from_ < s.to_ ∧ s.to_ ≤ N ∧ s.price ≤ 1000000
/-- a desk as it always is -/
structure Good (d : Desk) : Prop where
  r1 : 1 ≤ d.rooms
  r8 : d.rooms ≤ 8
  n1 : 1 ≤ d.nights
  n60 : d.nights ≤ 60
  st : ∀ s, some s ∈ d.stays → StayOk d.nights s
  off : ∀ s, some s ∈ d.offers → StayOk d.nights s ∧ 1 ≤ s.price
  sl : d.stays.length ≤ 40
  ol : d.offers.length ≤ 10
  cn : ∀ n, cnt d.stays n ≤ d.rooms

theorem free_eq (d : Desk) (n : Nat) : d.free n = d.rooms - cnt d.stays n := by
  unfold Desk.free
  rw [count_there]
theorem caps_length (d : Desk) : d.caps.length = d.nights := by
  unfold Desk.caps
  rw [List.length_map, List.length_range]
theorem caps_getD (d : Desk) {n : Nat} (h : n < d.nights) : d.caps.getD n 0 = d.free n := by
  unfold Desk.caps
  (rw [List.getD_eq_getElem?_getD, List.getElem?_map, List.getElem?_range h])
  rfl
theorem mem_offers' {d : Desk} (g : Good d) {x : Nat × Stay} (h : x ∈ there d.offers) : StayOk d.nights x.2 ∧ 1 ≤ x.2.price :=
  g.off x.2 (List.mem_of_getElem? (mem_there.mp h))

theorem idle_ld (d : Desk) {n : Nat} (h : n < d.nights) : (d.idle d.chosen.2 n : Int) + ld d.chosen.2.contains (there d.offers) n = d.free n := by
  have a := (most_ok (there d.offers) d.caps there_nodup).2 n (by rw [caps_length]; exact h)
  rw [caps_getD d h] at a
  have b : (((there d.offers).filter fun (x : Nat × Stay) => d.chosen.2.contains x.1 && covers x.2 n).length : Int) = ld d.chosen.2.contains (there d.offers) n := sm_filter_one
  unfold Desk.idle
  have a' : ld d.chosen.2.contains (there d.offers) n ≤ d.free n := a
  omega

theorem steps_wy (d : Desk) : ∀ e, e ∈ d.steps d.chosen.2 → ∃ s : Wy, s.ok (there d.offers) (fun n => if n < d.nights then d.idle d.chosen.2 n else 0) ∧ s.edge d.chosen.2.contains = e := by
  intro e he
  unfold Desk.steps at he
  rcases (List.mem_append.mp he) with he | he
  · rcases (List.mem_append.mp he) with he | he
    · obtain ⟨n, _, rfl⟩ := List.mem_map.mp he
      exact ⟨.on n, trivial, rfl⟩
    · obtain ⟨n, hn, rfl⟩ := List.mem_map.mp he
      obtain ⟨h1, h2⟩ := List.mem_filter.mp hn
      refine ⟨.back n, ?_, rfl⟩
      show 0 < if n < d.nights then d.idle d.chosen.2 n else 0
      rw [if_pos (List.mem_range.mp h1)]
      exact of_decide_eq_true h2
  · obtain ⟨x, hx, rfl⟩ := List.mem_map.mp he
    exact ⟨.off x.1 x.2, hx, rfl⟩

theorem steps_noNeg {d : Desk} (g : Good d) : NoNeg (d.steps d.chosen.2) := by
  refine noNeg (O := there d.offers) (caps := d.caps) there_nodup (fun x hx => Nat.le_of_lt (mem_offers' g hx).1.1) (fun n hn => ?_) (steps_wy d)
  rw [caps_length] at hn
  have a := idle_ld d hn
  rw [caps_getD d hn]
  have a' : (d.idle d.chosen.2 n : Int) + ld (most (there d.offers) d.caps).2.contains (there d.offers) n = d.free n := a
  simp only [hn, if_true]
  omega

theorem steps_bound {d : Desk} (g : Good d) : ∀ e, e ∈ d.steps d.chosen.2 → e.1 < d.nights + 1 ∧ e.2.1 < d.nights + 1 := by
  intro e he
  unfold Desk.steps at he
  rcases (List.mem_append.mp he) with he | he
  · rcases (List.mem_append.mp he) with he | he
    · obtain ⟨n, hn, rfl⟩ := List.mem_map.mp he
      have := List.mem_range.mp hn
      exact ⟨by show n < _; omega, by show n + 1 < _; omega⟩
    · obtain ⟨n, hn, rfl⟩ := List.mem_map.mp he
      have := List.mem_range.mp (List.mem_filter.mp hn).1
      exact ⟨by show n + 1 < _; omega, by show n < _; omega⟩
  · obtain ⟨x, hx, rfl⟩ := List.mem_map.mp he
    obtain ⟨⟨a, b, _⟩, _⟩ := mem_offers' g hx
    split
    · exact ⟨by show x.2.to_ < _; omega, by show x.2.from_ < _; omega⟩
    · exact ⟨by show x.2.from_ < _; omega, by show x.2.to_ < _; omega⟩
theorem steps_on (d : Desk) {n : Nat} (h : n < d.nights) (c : List Nat) : (n, (n + 1, (0 : Int))) ∈ d.steps c := by
  unfold Desk.steps
  exact List.mem_append_left _ (List.mem_append_left _ (List.mem_map.mpr ⟨n, List.mem_range.mpr h, rfl⟩))

theorem zero0 (N : Nat) : (List.replicate N (0 : Int)).getD 0 0 ≤ 0 := by
  cases N with
  | zero => exact Int.le_refl _
  | succ n => exact Int.le_refl _

/-- **the costs**, in whatever order the steps are looked at -/
theorem costs_same {d : Desk} (g : Good d) {F : List Edge} (hF : ∀ e, e ∈ d.steps d.chosen.2 ↔ e ∈ F) {f : Nat} (hf : d.nights + 1 ≤ f) : rounds F f (List.replicate (d.nights + 1) 0) = d.costs d.chosen.2 := by
  unfold Desk.costs
  rw [settledBy_eq]
  exact (rounds_same (N := d.nights + 1) (steps_noNeg g) hF (List.length_replicate) (fun e he => (steps_bound g e he).1) (fun e he => (steps_bound g e he).2) (zero0 _) (sound_start (fun n hn => steps_on d (by omega) _)) (by omega) hf).symm
theorem costs_falls {d : Desk} (g : Good d) {n : Nat} (hn : n < d.nights) : (d.costs d.chosen.2).getD (n + 1) 0 ≤ (d.costs d.chosen.2).getD n 0 := by
  unfold Desk.costs
  rw [settledBy_eq]
  exact rounds_falls (N := d.nights + 1) (steps_noNeg g) (List.length_replicate) (fun e he => (steps_bound g e he).1) (fun e he => (steps_bound g e he).2) (zero0 _) (sound_start (fun n hn => steps_on d (by omega) _)) (by omega) (by omega) (steps_on d hn _)
theorem prices_int {d : Desk} (g : Good d) : d.prices.map (fun (n : Nat) => (n : Int)) = (List.range d.nights).map fun n => (d.costs d.chosen.2).getD n 0 - (d.costs d.chosen.2).getD (n + 1) 0 := by
  unfold Desk.prices
  dsimp only
  rw [List.map_map]
  refine List.map_congr_left (fun n hn => ?_)
  have := costs_falls g (List.mem_range.mp hn)
  show (((d.costs d.chosen.2).getD n 0 - (d.costs d.chosen.2).getD (n + 1) 0).toNat : Int) = _
  omega
end Rd

-- RdMath5
/-! The choices one behind another, and the first of those that earn the most: it is the specification's. -/
namespace Rd
open Ho

structure Cho where
  numbers : List Nat
  earned : Nat
  free : List Nat

def wide (c : Cho) (x : Nat × Stay) : Cho := ⟨c.numbers ++ [x.1], c.earned + x.2.price, taken c.free x.2⟩
def one (x : Nat × Stay) (c : Cho) : List Cho := if fits c.free x.2 = true then [wide c x, c] else [c]
def wwo (cs : List Cho) (x : Nat × Stay) : List Cho := cs.flatMap (one x)
/-- all that comes of one -/
def ex : List (Nat × Stay) → Cho → List Cho
  | [], c => [c]
  | x :: O, c => (one x c).flatMap (ex O)
theorem wwo_all : ∀ (O : List (Nat × Stay)) (cs : List Cho), O.foldl wwo cs = cs.flatMap (ex O)
  | [], cs => by
    show cs = cs.flatMap (fun c => [c])
    induction cs with
    | nil => rfl
    | cons c cs ih =>
      rw [List.flatMap_cons, ← ih]
      rfl
  | x :: O, cs => by
    show O.foldl wwo (wwo cs x) = _
    rw [wwo_all O]
    unfold wwo
    rw [List.flatMap_assoc]
    rfl

/-- the first of those that earn the most -/
def better (b c : Cho) : Cho := if b.earned < c.earned then c else b
def bst (c : Cho) (l : List Cho) : Cho := l.foldl better c
theorem bst_append {c : Cho} {l m : List Cho} : bst c (l ++ m) = bst (bst c l) m := List.foldl_append
theorem better_le {b c : Cho} : b.earned ≤ (better b c).earned := by
  unfold better
  split
  · omega
  · exact Nat.le_refl _
theorem bst_le : ∀ {l : List Cho} {b : Cho}, b.earned ≤ (bst b l).earned
  | [], b => Nat.le_refl _
  | c :: l, b => Nat.le_trans better_le (bst_le (l := l) (b := better b c))
/-- of a list that isn't empty, beside one ahead of it -/
theorem bst_cons : ∀ {l : List Cho} {b c : Cho}, bst b (c :: l) = better b (bst c l)
  | [], b, c => rfl
  | e :: l, b, c => by
    show bst (better b c) (e :: l) = better b (bst c (e :: l))
    rw [bst_cons (l := l), bst_cons (l := l) (b := c)]
    generalize bst e l = m
    unfold better
    by_cases h1 : b.earned < c.earned
    · rw [if_pos h1]
      by_cases h2 : c.earned < m.earned
      · rw [if_pos h2, if_pos (Nat.lt_trans h1 h2)]
      · rw [if_neg h2, if_pos h1]
    · rw [if_neg h1]
      by_cases h2 : c.earned < m.earned
      · rw [if_pos h2]
      · rw [if_neg h2, if_neg h1, if_neg (by omega)]

/-- the most that offers earn, and what is left free then: the specification's recursion with the rooms besides -/
def mostF : List (Nat × Stay) → List Nat → List Nat
  | [], caps => caps
  | x :: l, caps => if fits caps x.2 = true then (if (most l caps).1 ≤ (most l (taken caps x.2)).1 + x.2.price then mostF l (taken caps x.2) else mostF l caps) else mostF l caps
def fin (O : List (Nat × Stay)) (c : Cho) : Cho := ⟨c.numbers ++ (most O c.free).2, c.earned + (most O c.free).1, mostF O c.free⟩

theorem most_cons (x : Nat × Stay) (l : List (Nat × Stay)) (caps : List Nat) : most (x :: l) caps = (if fits caps x.2 = true then (if (most l caps).1 ≤ (most l (taken caps x.2)).1 + x.2.price then ((most l (taken caps x.2)).1 + x.2.price, x.1 :: (most l (taken caps x.2)).2) else most l caps) else most l caps) := rfl
theorem mostF_cons (x : Nat × Stay) (l : List (Nat × Stay)) (caps : List Nat) : mostF (x :: l) caps = (if fits caps x.2 = true then (if (most l caps).1 ≤ (most l (taken caps x.2)).1 + x.2.price then mostF l (taken caps x.2) else mostF l caps) else mostF l caps) := rfl

theorem ex_ne : ∀ (O : List (Nat × Stay)) (c : Cho), ∃ e l, ex O c = e :: l ∧ bst e l = fin O c
  | [], c => ⟨c, [], rfl, by
      show c = ⟨c.numbers ++ [], c.earned + 0, c.free⟩
      rw [List.append_nil, Nat.add_zero]⟩
  | x :: O, c => by
    obtain ⟨e, l, h1, h2⟩ := ex_ne O c
    unfold ex one
    by_cases hf : fits c.free x.2 = true
    · rw [if_pos hf, List.flatMap_cons, List.flatMap_cons, List.flatMap_nil, List.append_nil]
      obtain ⟨e', l', h1', h2'⟩ := ex_ne O (wide c x)
      rw [h1, h1']
      refine ⟨e', l' ++ e :: l, rfl, ?_⟩
      rw [bst_append, bst_cons, h2, h2']
      unfold fin better wide
      rw [most_cons, mostF_cons, if_pos hf, if_pos hf]
      dsimp only
      by_cases hl : (most O c.free).1 ≤ (most O (taken c.free x.2)).1 + x.2.price
      · rw [if_pos hl, if_pos hl, if_neg (by omega)]
        dsimp only
        rw [List.append_assoc, Nat.add_assoc, Nat.add_comm x.2.price]
        rfl
      · rw [if_neg hl, if_neg hl, if_pos (by omega)]
    · rw [if_neg hf, List.flatMap_cons, List.flatMap_nil, List.append_nil]
      refine ⟨e, l, h1, ?_⟩
      rw [h2]
      unfold fin
      rw [most_cons, mostF_cons, if_neg hf, if_neg hf]

/-- **the choice** -/
theorem choice_eq (O : List (Nat × Stay)) (caps : List Nat) : ∃ e l, O.foldl wwo [⟨[], 0, caps⟩] = e :: l ∧ bst e (e :: l) = ⟨(most O caps).2, (most O caps).1, mostF O caps⟩ := by
  obtain ⟨e, l, h1, h2⟩ := ex_ne O ⟨[], 0, caps⟩
  refine ⟨e, l, ?_, ?_⟩
  · rw [wwo_all, List.flatMap_cons, List.flatMap_nil, List.append_nil]
    exact h1
  · show bst (better e e) l = _
    have : better e e = e := by
      unfold better
      split <;> rfl
    rw [this, h2]
    unfold fin
    rw [List.nil_append, Nat.zero_add]

theorem mostF_length : ∀ (O : List (Nat × Stay)) (caps : List Nat), (mostF O caps).length = caps.length
  | [], caps => rfl
  | x :: O, caps => by
    rw [mostF_cons]
    split
    · split
      · rw [mostF_length, taken_length]
      · rw [mostF_length]
    · rw [mostF_length]
theorem mostF_ld : ∀ (O : List (Nat × Stay)) (caps : List Nat), (O.map (·.1)).Nodup → ∀ n, n < caps.length → ((mostF O caps).getD n 0 : Int) + ld (most O caps).2.contains O n = (caps.getD n 0 : Nat)
  | [], caps, _, n, _ => by
    show (caps.getD n 0 : Int) + 0 = _
    omega
  | x :: l, caps, nd, n, hn => by
    rw [List.map_cons, List.nodup_cons] at nd
    have hno : ∀ c, (most l c).2.contains x.1 = false := by
      intro c
      cases e : (most l c).2.contains x.1 with
      | false => rfl
      | true => exact absurd ((most_sub l c).subset (List.contains_iff_mem.mp e)) nd.1
    have out : ((mostF l caps).getD n 0 : Int) + ld (most l caps).2.contains (x :: l) n = (caps.getD n 0 : Nat) := by
      have := mostF_ld l caps nd.2 n hn
      show _ + ((if ((most l caps).2.contains x.1 && covers x.2 n) = true then (1 : Int) else 0) + ld (most l caps).2.contains l n) = _
      rw [hno]
      simpa using this
    rw [most_cons, mostF_cons]
    by_cases hf : fits caps x.2 = true
    · rw [if_pos hf, if_pos hf]
      by_cases hl : (most l caps).1 ≤ (most l (taken caps x.2)).1 + x.2.price
      · rw [if_pos hl, if_pos hl]
        show ((mostF l (taken caps x.2)).getD n 0 : Int) + ((if ((x.1 :: (most l (taken caps x.2)).2).contains x.1 && covers x.2 n) = true then (1 : Int) else 0) + ld (x.1 :: (most l (taken caps x.2)).2).contains l n) = _
        have hx : (x.1 :: (most l (taken caps x.2)).2).contains x.1 = true := by simp
        have cg := con_congr (l := l) (b := (x.1 :: (most l (taken caps x.2)).2).contains) (c := (most l (taken caps x.2)).2.contains) (fun y hy => by
          have hne : y.1 ≠ x.1 := fun e => nd.1 (by rw [← e]; exact List.mem_map_of_mem hy)
          rw [List.contains_cons]
          have : (y.1 == x.1) = false := by simpa using hne
          rw [this, Bool.false_or])
        have a := mostF_ld l (taken caps x.2) nd.2 n (by rw [taken_length]; exact hn)
        rw [hx, Bool.true_and, cg.2]
        rw [taken_getD hn] at a
        by_cases hc : covers x.2 n = true
        · rw [if_pos hc] at a ⊢
          have := fits_iff.mp hf n hn hc
          omega
        · rw [if_neg hc] at a ⊢
          omega
      · rw [if_neg hl, if_neg hl]
        exact out
    · rw [if_neg hf, if_neg hf]
      exact out

/-- what is left free, as the specification tells it -/
theorem mostF_idle (d : Desk) {n : Nat} (h : n < d.nights) : (mostF (there d.offers) d.caps).getD n 0 = d.idle d.chosen.2 n := by
  have a := mostF_ld (there d.offers) d.caps there_nodup n (by rw [caps_length]; exact h)
  have b := idle_ld d h
  rw [caps_getD d h] at a
  have a' : ((mostF (there d.offers) d.caps).getD n 0 : Int) + ld d.chosen.2.contains (there d.offers) n = d.free n := a
  omega

/-! ### the rooms free on each night, as a list of whole numbers -/
def zs (l : List Nat) : List Int := l.map fun (n : Nat) => (n : Int)
/-- one stay more: l[:a] + [x - 1 for x in l[a:b]] + l[b:] -/
def wst (l : List Int) (a b : Nat) : List Int := l.take a ++ ((l.take b).drop a).map (· - 1) ++ l.drop b
theorem wst_get {l : List Int} {a b n : Nat} (h1 : a ≤ b) (h2 : b ≤ l.length) : (wst l a b)[n]? = l[n]?.map fun z => if a ≤ n ∧ n < b then z - 1 else z := by
  unfold wst
  have e1 : (l.take a).length = a := by
    rw [List.length_take]
    omega
  have e2 : (((l.take b).drop a).map (· - 1)).length = b - a := by
    rw [List.length_map, List.length_drop, List.length_take]
    omega
  by_cases c1 : n < a
  · rw [List.append_assoc, List.getElem?_append_left (by omega), List.getElem?_take, if_pos c1]
    cases l[n]? with
    | none => rfl
    | some z =>
      show some z = some (if a ≤ n ∧ n < b then z - 1 else z)
      rw [if_neg (by omega)]
  · by_cases c2 : n < b
    · rw [List.getElem?_append_left (by rw [List.length_append]; omega), List.getElem?_append_right (by omega), e1, List.getElem?_map, List.getElem?_drop, List.getElem?_take, show a + (n - a) = n by omega, if_pos c2]
      cases l[n]? with
      | none => rfl
      | some z =>
        show some (z - 1) = some (if a ≤ n ∧ n < b then z - 1 else z)
        rw [if_pos (by omega)]
    · rw [List.getElem?_append_right (by rw [List.length_append]; omega), List.length_append, e1, e2, List.getElem?_drop, show b + (n - (a + (b - a))) = n by omega]
      cases l[n]? with
      | none => rfl
      | some z =>
        show some z = some (if a ≤ n ∧ n < b then z - 1 else z)
        rw [if_neg (by omega)]
theorem covers_iff {s : Stay} {n : Nat} : covers s n = true ↔ s.from_ ≤ n ∧ n < s.to_ := by
  unfold covers
  rw [Bool.and_eq_true, decide_eq_true_iff, decide_eq_true_iff]
theorem wst_taken {caps : List Nat} {s : Stay} (h1 : s.from_ ≤ s.to_) (h2 : s.to_ ≤ caps.length) (hf : fits caps s = true) : wst (zs caps) s.from_ s.to_ = zs (taken caps s) := by
  refine List.ext_getElem? (fun n => ?_)
  have hl : (zs caps).length = caps.length := List.length_map _
  rw [wst_get h1 (by rw [hl]; exact h2)]
  unfold zs taken
  rw [List.getElem?_map, List.getElem?_map, List.getElem?_map, List.getElem?_zipIdx]
  cases e : caps[n]? with
  | none => rfl
  | some z =>
    simp only [Option.map_some, Nat.zero_add]
    have hn : n < caps.length := (List.getElem?_eq_some_iff.mp e).1
    by_cases c : covers s n = true
    · have p := fits_iff.mp hf n hn c
      rw [List.getD_eq_getElem?_getD, e] at p
      have p' : 0 < z := p
      rw [if_pos (covers_iff.mp c), if_pos c]
      congr 1
      omega
    · rw [if_neg (fun q => c (covers_iff.mpr q)), if_neg c]
theorem fits_zs {caps : List Nat} {s : Stay} (h2 : s.to_ ≤ caps.length) : (0 : Int) ∉ ((zs caps).take s.to_).drop s.from_ ↔ fits caps s = true := by
  rw [fits_iff]
  constructor
  · intro h n hn hc
    obtain ⟨a, b⟩ := covers_iff.mp hc
    rw [List.getD_eq_getElem?_getD, List.getElem?_eq_getElem hn]
    show 0 < caps[n]
    refine Nat.pos_of_ne_zero (fun q => h ?_)
    refine List.mem_iff_getElem?.mpr ⟨n - s.from_, ?_⟩
    rw [List.getElem?_drop, List.getElem?_take, show s.from_ + (n - s.from_) = n by omega, if_pos b]
    unfold zs
    rw [List.getElem?_map, List.getElem?_eq_getElem hn, q]
    rfl
  · intro h q
    obtain ⟨i, e⟩ := List.mem_iff_getElem?.mp q
    rw [List.getElem?_drop, List.getElem?_take] at e
    by_cases c : s.from_ + i < s.to_
    · rw [if_pos c] at e
      unfold zs at e
      rw [List.getElem?_map] at e
      have hn : s.from_ + i < caps.length := by omega
      have p := h (s.from_ + i) hn (covers_iff.mpr ⟨by omega, c⟩)
      rw [List.getD_eq_getElem?_getD] at p
      rw [List.getElem?_eq_getElem hn] at e p
      have e' : ((caps[s.from_ + i] : Nat) : Int) = 0 := by simpa using e
      have p' : 0 < caps[s.from_ + i] := p
      omega
    · rw [if_neg c] at e
      cases e

/-- the rooms free, stay by stay -/
def frees (r n : Nat) (l : List (Option Stay)) : List Nat := (List.range n).map fun k => r - cnt l k
theorem caps_frees (d : Desk) : d.caps = frees d.rooms d.nights d.stays := by
  unfold Desk.caps frees
  refine List.map_congr_left (fun n _ => free_eq d n)
theorem frees_length {r n : Nat} {l : List (Option Stay)} : (frees r n l).length = n := by
  unfold frees
  rw [List.length_map, List.length_range]
theorem frees_get {r n k : Nat} {l : List (Option Stay)} (h : k < n) : (frees r n l)[k]? = some (r - cnt l k) := by
  unfold frees
  rw [List.getElem?_map, List.getElem?_range h]
  rfl
theorem frees_nil {r n : Nat} : frees r n [] = List.replicate n r := by
  unfold frees
  refine List.ext_getElem? (fun k => ?_)
  rw [List.getElem?_map, List.getElem?_replicate]
  by_cases h : k < n
  · rw [List.getElem?_range h, if_pos h]
    rfl
  · rw [List.getElem?_eq_none (by rw [List.length_range]; omega), if_neg h]
    rfl
theorem frees_none {r n : Nat} {l : List (Option Stay)} : frees r n (l ++ [none]) = frees r n l := by
  unfold frees
  refine List.map_congr_left (fun k _ => ?_)
  rw [cnt_append]
  rfl
theorem frees_fits {r n : Nat} {l : List (Option Stay)} {s : Stay} (h : ∀ k, cnt (l ++ [some s]) k ≤ r) : fits (frees r n l) s = true := by
  refine fits_iff.mpr (fun k hk hc => ?_)
  rw [frees_length] at hk
  rw [List.getD_eq_getElem?_getD, frees_get hk]
  have a := h k
  rw [cnt_append, cnt_cons] at a
  have e : cov1 (some s) k = 1 := by
    show (if covers s k = true then 1 else 0) = 1
    rw [if_pos hc]
  show 0 < r - cnt l k
  omega
theorem frees_some {r n : Nat} {l : List (Option Stay)} {s : Stay} : frees r n (l ++ [some s]) = taken (frees r n l) s := by
  unfold taken
  refine List.ext_getElem? (fun k => ?_)
  rw [List.getElem?_map, List.getElem?_zipIdx]
  by_cases h : k < n
  · rw [frees_get h, frees_get h, cnt_append, cnt_cons]
    show some (r - (cnt l k + ((if covers s k = true then 1 else 0) + 0))) = some (if covers s (0 + k) = true then r - cnt l k - 1 else r - cnt l k)
    rw [Nat.zero_add]
    split
    · congr 1
    · rfl
  · rw [List.getElem?_eq_none (by rw [frees_length]; omega), List.getElem?_eq_none (by rw [frees_length]; omega)]
    rfl
/-- the first of the nights of a stay without a room -/
theorem full_none {d : Desk} {s : Stay} : d.full s = none ↔ ∀ n, n < d.nights → covers s n = true → 0 < d.free n := by
  unfold Desk.full
  rw [List.find?_eq_none]
  constructor
  · intro h n hn hc
    have a := h n (List.mem_range.mpr hn)
    rw [hc, Bool.true_and] at a
    have : d.free n ≠ 0 := fun q => a (by rw [q]; rfl)
    omega
  · intro h n hn q
    rw [Bool.and_eq_true] at q
    have a := h n (List.mem_range.mp hn) q.1
    have := eq_of_beq q.2
    omega
theorem full_fits {d : Desk} {s : Stay} : d.full s = none ↔ fits d.caps s = true := by
  rw [full_none, fits_iff, caps_length]
  constructor
  · intro h n hn hc
    rw [caps_getD d hn]
    exact h n hn hc
  · intro h n hn hc
    have := h n hn hc
    rw [caps_getD d hn] at this
    exact this
end Rd

-- RdMath6
/-! The list of calls taken apart call by call; what is due, call by call. -/
namespace Rd
open Ho

theorem peel {p j : Int} {r r' : Nat × Nat} {x : Option (Nat × Nat)} (h : (if p = j then some r else x) = some r') : (p = j ∧ r = r') ∨ x = some r' := by
  by_cases e : p = j
  · rw [if_pos e] at h
    exact .inl ⟨e, Option.some.inj h⟩
  · rw [if_neg e] at h
    exact .inr h
theorem row_ok {p j : Int} {n k m : Nat} (h : p = j ∧ (m, 0) = (n, k)) (b : 1 ≤ j ∧ j ≤ 16 ∧ m ≤ 3) : k = 0 ∧ 1 ≤ p ∧ p ≤ 16 ∧ n ≤ 3 := by
  obtain ⟨rfl, e⟩ := h
  cases e
  exact ⟨rfl, b⟩
theorem shape_rows {p : Int} {n k : Nat} (h : PyWrhotl.shape p = some (n, k)) : k = 0 ∧ 1 ≤ p ∧ p ≤ 16 ∧ n ≤ 3 :=
  (peel h).elim (fun q => row_ok q (by decide)) fun h =>
  (peel h).elim (fun q => row_ok q (by decide)) fun h =>
  (peel h).elim (fun q => row_ok q (by decide)) fun h =>
  (peel h).elim (fun q => row_ok q (by decide)) fun h =>
  (peel h).elim (fun q => row_ok q (by decide)) fun h =>
  (peel h).elim (fun q => row_ok q (by decide)) fun h =>
  (peel h).elim (fun q => row_ok q (by decide)) fun h =>
  (peel h).elim (fun q => row_ok q (by decide)) fun h =>
  (peel h).elim (fun q => row_ok q (by decide)) fun h =>
  (peel h).elim (fun q => row_ok q (by decide)) fun h =>
  (peel h).elim (fun q => row_ok q (by decide)) fun h =>
  (peel h).elim (fun q => row_ok q (by decide)) fun h =>
  (peel h).elim (fun q => row_ok q (by decide)) fun h =>
  (peel h).elim (fun q => row_ok q (by decide)) fun h =>
  (peel h).elim (fun q => row_ok q (by decide)) fun h =>
  (peel h).elim (fun q => row_ok q (by decide)) fun h =>
  nomatch h
theorem upto16 {p : Int} (h1 : 1 ≤ p) (h2 : p ≤ 16) : p = 1 ∨ p = 2 ∨ p = 3 ∨ p = 4 ∨ p = 5 ∨ p = 6 ∨ p = 7 ∨ p = 8 ∨ p = 9 ∨ p = 10 ∨ p = 11 ∨ p = 12 ∨ p = 13 ∨ p = 14 ∨ p = 15 ∨ p = 16 := by
  have T : ∀ q : Fin 17, 1 ≤ q.val → (fun p : Int => p = 1 ∨ p = 2 ∨ p = 3 ∨ p = 4 ∨ p = 5 ∨ p = 6 ∨ p = 7 ∨ p = 8 ∨ p = 9 ∨ p = 10 ∨ p = 11 ∨ p = 12 ∨ p = 13 ∨ p = 14 ∨ p = 15 ∨ p = 16) (q.val : Int) := by decide +kernel
  have e : ((p.toNat : Nat) : Int) = p := by omega
  have q := T ⟨p.toNat, by omega⟩ (by show 1 ≤ p.toNat; omega)
  dsimp only at q
  rw [e] at q
  exact q
theorem len0 {xs : List Int} (h : xs.length = 0) : xs = [] := List.eq_nil_of_length_eq_zero h
theorem len1 {xs : List Int} (h : xs.length = 1) : ∃ x, xs = [x] := by
  obtain ⟨x, t, rfl⟩ := List.exists_cons_of_length_eq_add_one h
  rw [len0 (Nat.succ.inj h)]
  exact ⟨x, rfl⟩
theorem len2 {xs : List Int} (h : xs.length = 2) : ∃ x y, xs = [x, y] := by
  obtain ⟨x, t, rfl⟩ := List.exists_cons_of_length_eq_add_one h
  obtain ⟨y, rfl⟩ := len1 (Nat.succ.inj h)
  exact ⟨x, y, rfl⟩
theorem len3 {xs : List Int} (h : xs.length = 3) : ∃ x y z, xs = [x, y, z] := by
  obtain ⟨x, t, rfl⟩ := List.exists_cons_of_length_eq_add_one h
  obtain ⟨y, z, rfl⟩ := len2 (Nat.succ.inj h)
  exact ⟨x, y, z, rfl⟩

theorem calls_nil {f : Nat} {cs : List (List (List Int))} (h : PyFlat.calls PyWrhotl.shape f [] = some cs) : cs = [] := by
  cases f with
  | zero =>
    unfold PyFlat.calls at h
    cases h
    rfl
  | succ f =>
    unfold PyFlat.calls at h
    cases h
    rfl
theorem calls_cons {p : Int} {r : List Int} {f : Nat} {cs : List (List (List Int))} (h : PyFlat.calls PyWrhotl.shape f (p :: r) = some cs) :
    ∃ n cs' f', f = f' + 1 ∧ PyWrhotl.shape p = some (n, 0) ∧ n ≤ r.length ∧ cs = [p :: r.take n] :: cs' ∧ PyFlat.calls PyWrhotl.shape f' (r.drop n) = some cs' := by
  cases f with
  | zero =>
    unfold PyFlat.calls at h
    cases h
  | succ f =>
    unfold PyFlat.calls at h
    cases e : PyFlat.call PyWrhotl.shape (p :: r) with
    | none =>
      rw [e] at h
      cases h
    | some x =>
      obtain ⟨c, t⟩ := x
      rw [e] at h
      have h' : (match PyFlat.calls PyWrhotl.shape f t with | none => none | some cs => some (c :: cs)) = some cs := h
      cases e2 : PyFlat.calls PyWrhotl.shape f t with
      | none =>
        rw [e2] at h'
        cases h'
      | some cs' =>
        rw [e2] at h'
        cases h'
        unfold PyFlat.call at e
        dsimp only at e
        cases e3 : PyWrhotl.shape p with
        | none =>
          rw [e3] at e
          cases e
        | some nk =>
          obtain ⟨n, k⟩ := nk
          obtain ⟨rfl, _⟩ := shape_rows e3
          rw [e3] at e
          have e' : (if r.length < n then none else (match PyFlat.rows 0 (r.drop n) with | none => none | some (xs, t) => some ((p :: r.take n) :: xs, t))) = some (c, t) := e
          by_cases hn : r.length < n
          · rw [if_pos hn] at e'
            cases e'
          · rw [if_neg hn] at e'
            cases e'
            exact ⟨n, cs', f, rfl, rfl, by omega, rfl, e2⟩

/-- what is due for calls from a state on -/
def flat (s : Ho.State) (cs : List (List (List Int))) : List Int := PyFlat.told (PyFlat.played RoomNeutral.step s (cs.map PyWrhotl.whole))
theorem flat_nil (s : Ho.State) : flat s [] = [] := rfl
theorem flat_cons (s : Ho.State) (c : List (List Int)) (cs : List (List (List Int))) : flat s (c :: cs) = ((((RoomNeutral.step s (PyWrhotl.whole c)).2.length : Nat) : Int) :: (RoomNeutral.step s (PyWrhotl.whole c)).2) ++ flat (RoomNeutral.step s (PyWrhotl.whole c)).1 cs := rfl
theorem answers_flat {l : List Int} {cs : List (List (List Int))} (h : PyFlat.calls PyWrhotl.shape l.length l = some cs) : PyWrhotl.answers l = flat none cs := by
  unfold PyWrhotl.answers PyWrhotl.calls
  rw [h]
  rfl
theorem asked_calls {l : List Int} (h : PyWrhotl.answers_asked l = true) : ∃ cs, PyFlat.calls PyWrhotl.shape l.length l = some cs ∧ cs.length ≤ 300 ∧ ∀ c, c ∈ cs → RoomNeutral.asked1 (PyWrhotl.whole c) = true := by
  unfold PyWrhotl.answers_asked PyWrhotl.calls at h
  cases e : PyFlat.calls PyWrhotl.shape l.length l with
  | none =>
    rw [e] at h
    cases h
  | some cs =>
    rw [e] at h
    have h' : (PyFlat.atMost 300 (cs.map PyWrhotl.whole) && RoomNeutral.asked (cs.map PyWrhotl.whole)) = true := h
    rw [Bool.and_eq_true] at h'
    obtain ⟨h1, h2⟩ := h'
    unfold PyFlat.atMost at h1
    have h1' := of_decide_eq_true h1
    rw [List.length_map] at h1'
    unfold RoomNeutral.asked at h2
    rw [Bool.and_eq_true] at h2
    exact ⟨cs, rfl, h1', fun c hc => List.all_eq_true.mp h2.1 _ (List.mem_map_of_mem hc)⟩
end Rd

-- RdMath7
/-! A desk stays as it always is, whatever the call. -/
namespace Rd
open Ho

theorem mem_set {l : List (Option Stay)} {k : Nat} {o : Option Stay} {s : Stay} (h : some s ∈ l.set k o) : some s ∈ l ∨ o = some s := by
  rcases List.mem_or_eq_of_mem_set h with h | h
  · exact .inl h
  · exact .inr h.symm
theorem cnt_far : ∀ {l : List (Option Stay)} {N n : Nat}, (∀ s, some s ∈ l → s.to_ ≤ N) → N ≤ n → cnt l n = 0
  | [], N, n, _, _ => rfl
  | none :: l, N, n, h, hn => cnt_far (l := l) (fun s hs => h s (List.mem_cons_of_mem _ hs)) hn
  | some t :: l, N, n, h, hn => by
    have a := h t (List.mem_cons_self)
    have b := cnt_far (l := l) (fun s hs => h s (List.mem_cons_of_mem _ hs)) hn
    show (if covers t n = true then 1 else 0) + cnt l n = 0
    rw [b, if_neg (fun q => by have := (covers_iff.mp q).2; omega)]
theorem cov1_le (o : Option Stay) (n : Nat) : cov1 o n ≤ 1 := by
  cases o with
  | none => exact Nat.zero_le _
  | some s =>
    show (if covers s n = true then 1 else 0) ≤ 1
    split
    · exact Nat.le_refl _
    · exact Nat.zero_le _
theorem cov1_pos {s : Stay} {n : Nat} (h : 0 < cov1 (some s) n) : covers s n = true := by
  have h' : 0 < (if covers s n = true then 1 else 0) := h
  by_cases q : covers s n = true
  · exact q
  · rw [if_neg q] at h'
    omega
theorem free_cov {d : Desk} {s : Stay} {n : Nat} (hto : s.to_ ≤ d.nights) (hf : d.full s = none) (hc : cnt d.stays n ≤ d.rooms) : cnt d.stays n + cov1 (some s) n ≤ d.rooms := by
  have hl := cov1_le (some s) n
  by_cases q : 0 < cov1 (some s) n
  · have c := cov1_pos q
    have hn : n < d.nights := by
      have := (covers_iff.mp c).2
      omega
    have a := full_none.mp hf n hn c
    rw [free_eq] at a
    omega
  · omega
theorem isStay_iff {d : Desk} {a b p : Nat} : isStay d a b p = true ↔ a < b ∧ b ≤ d.nights ∧ p ≤ 1000000 := by
  unfold isStay
  rw [Bool.and_eq_true, Bool.and_eq_true, decide_eq_true_iff, decide_eq_true_iff, decide_eq_true_iff]
  exact Iff.rfl
theorem not_false' {b : Bool} (h : ¬ b = false) : b = true := by
  cases b with
  | true => rfl
  | false => exact absurd rfl h
theorem stayOf_get {l : List (Option Stay)} {k : Nat} {s : Stay} (h : stayOf l k = some s) : l[k]? = some (some s) := by
  unfold stayOf at h
  cases e : l[k]? with
  | none =>
    rw [e] at h
    cases h
  | some o =>
    rw [e] at h
    have h' : o = some s := h
    rw [h']
theorem cnt_some_map : ∀ {L : List (Nat × Stay)} {p : Nat × Stay → Bool} {n : Nat}, (cnt ((L.filter p).map fun x => some x.2) n : Int) = sm (fun x => if (p x && covers x.2 n) = true then 1 else 0) L
  | [], p, n => rfl
  | x :: L, p, n => by
    have ih := cnt_some_map (L := L) (p := p) (n := n)
    show _ = (if (p x && covers x.2 n) = true then (1 : Int) else 0) + sm (fun x => if (p x && covers x.2 n) = true then 1 else 0) L
    rw [← ih, List.filter_cons]
    cases hp : p x with
    | false =>
      rw [if_neg (by decide), Bool.false_and, if_neg (by decide)]
      omega
    | true =>
      rw [if_pos rfl, Bool.true_and, List.map_cons]
      show (((if covers x.2 n = true then 1 else 0) + cnt _ n : Nat) : Int) = _
      by_cases q : covers x.2 n = true
      · rw [if_pos q, if_pos q]
        omega
      · rw [if_neg q, if_neg q]
        omega

theorem good_begin {r n : Nat} (h1 : ¬ (r < 1 ∨ ROOMS < r ∨ n < 1 ∨ NIGHTS < n)) : Good ⟨r, n, [], []⟩ := by
  have e8 : ROOMS = 8 := rfl
  have e60 : NIGHTS = 60 := rfl
  exact ⟨by show 1 ≤ r; omega, by show r ≤ 8; omega, by show 1 ≤ n; omega, by show n ≤ 60; omega, fun s h => (nomatch h), fun s h => (nomatch h), Nat.zero_le _, Nat.zero_le _, fun n => Nat.zero_le _⟩
theorem good_stays_set {d : Desk} (g : Good d) {k : Nat} {o p : Option Stay} (hk : d.stays[k]? = some o) (hp : ∀ s, p = some s → StayOk d.nights s) (hc : ∀ n, cnt (d.stays.set k none) n + cov1 p n ≤ d.rooms) : Good { d with stays := d.stays.set k p } := by
  refine ⟨g.r1, g.r8, g.n1, g.n60, fun s hs => ?_, g.off, ?_, g.ol, fun n => ?_⟩
  · rcases mem_set hs with hs | hs
    · exact g.st s hs
    · exact hp s hs
  · show (d.stays.set k p).length ≤ 40
    rw [List.length_set]
    exact g.sl
  · have a := cnt_set (l := d.stays) (p := p) (n := n) hk
    have b := cnt_set (l := d.stays) (p := none) (n := n) hk
    have c := hc n
    have z : cov1 none n = 0 := rfl
    show cnt (d.stays.set k p) n ≤ d.rooms
    omega
theorem good_step {d : Desk} (g : Good d) (c : Call) : Good (stepOn d c).1 := by
  cases c with
  | begin_ r n => exact g
  | choose => exact g
  | prices => exact g
  | rooms => exact g
  | night n => exact g
  | free n => exact g
  | first l a => exact g
  | until_ n => exact g
  | told k => exact g
  | income => exact g
  | book a b p =>
    show Good (if isStay d a b p = false then (d, BAD) else ifFree d ⟨a, b, p⟩ (if STAYS ≤ d.stays.length then (d, says (-9)) else ({ d with stays := d.stays ++ [some ⟨a, b, p⟩] }, says (d.stays.length : Nat)))).1
    by_cases h1 : isStay d a b p = false
    · rw [if_pos h1]
      exact g
    rw [if_neg h1]
    obtain ⟨c1, c2, c3⟩ := isStay_iff.mp (not_false' h1)
    unfold ifFree
    cases e : d.full ⟨a, b, p⟩ with
    | some n => exact g
    | none =>
      dsimp only
      by_cases h2 : STAYS ≤ d.stays.length
      · rw [if_pos h2]
        exact g
      rw [if_neg h2]
      have e40 : STAYS = 40 := rfl
      refine ⟨g.r1, g.r8, g.n1, g.n60, fun s hs => ?_, g.off, ?_, g.ol, fun n => ?_⟩
      · rcases List.mem_append.mp hs with hs | hs
        · exact g.st s hs
        · have es : s = ⟨a, b, p⟩ := by
            have := List.mem_singleton.mp hs
            injection this
          rw [es]
          exact ⟨c1, c2, c3⟩
      · show (d.stays ++ [some _]).length ≤ 40
        rw [List.length_append]
        show d.stays.length + 1 ≤ 40
        omega
      · show cnt (d.stays ++ [some ⟨a, b, p⟩]) n ≤ d.rooms
        rw [cnt_append, cnt_cons]
        have := free_cov (d := d) (s := ⟨a, b, p⟩) (n := n) c2 e (g.cn n)
        have z : cnt [] n = 0 := rfl
        omega
  | cancel k =>
    show Good (match stayOf d.stays k with | none => (d, NONE) | some _ => ({ d with stays := d.stays.set k none }, says 0)).1
    cases e : stayOf d.stays k with
    | none => exact g
    | some s =>
      have hk := stayOf_get e
      refine good_stays_set g hk (fun s h => (nomatch h)) fun n => ?_
      have b := cnt_set (l := d.stays) (p := none) (n := n) hk
      have c := g.cn n
      have z : cov1 none n = 0 := rfl
      omega
  | change k a b =>
    show Good (match stayOf d.stays k with
      | none => (d, NONE)
      | some s => if isStay d a b 0 = false then (d, BAD) else match ({ d with stays := d.stays.set k none } : Desk).full ⟨a, b, s.price⟩ with
        | some n => (d, tells (-4) [n])
        | none => ({ d with stays := d.stays.set k (some ⟨a, b, s.price⟩) }, says 0)).1
    cases e : stayOf d.stays k with
    | none => exact g
    | some s =>
      dsimp only
      by_cases h1 : isStay d a b 0 = false
      · rw [if_pos h1]
        exact g
      rw [if_neg h1]
      obtain ⟨c1, c2, c3⟩ := isStay_iff.mp (not_false' h1)
      have hk := stayOf_get e
      cases e2 : ({ d with stays := d.stays.set k none } : Desk).full ⟨a, b, s.price⟩ with
      | some n => exact g
      | none =>
        refine good_stays_set g hk (fun s' h => ?_) fun n => ?_
        · have es : s' = ⟨a, b, s.price⟩ := by
            injection h with h
            exact h.symm
          rw [es]
          exact ⟨c1, c2, (g.st s (List.mem_of_getElem? hk)).2.2⟩
        · refine free_cov (d := { d with stays := d.stays.set k none }) (s := ⟨a, b, s.price⟩) (n := n) c2 e2 ?_
          have b := cnt_set (l := d.stays) (p := none) (n := n) hk
          have c := g.cn n
          have z : cov1 none n = 0 := rfl
          show cnt (d.stays.set k none) n ≤ d.rooms
          omega
  | offer a b p =>
    show Good (if isStay d a b p = false ∨ p = 0 then (d, BAD) else if OFFERS ≤ d.offers.length then (d, says (-9)) else ({ d with offers := d.offers ++ [some ⟨a, b, p⟩] }, says (d.offers.length : Nat))).1
    by_cases h1 : isStay d a b p = false ∨ p = 0
    · rw [if_pos h1]
      exact g
    rw [if_neg h1]
    by_cases h2 : OFFERS ≤ d.offers.length
    · rw [if_pos h2]
      exact g
    rw [if_neg h2]
    obtain ⟨c1, c2, c3⟩ := isStay_iff.mp (not_false' fun q => h1 (.inl q))
    have e10 : OFFERS = 10 := rfl
    refine ⟨g.r1, g.r8, g.n1, g.n60, g.st, fun s hs => ?_, g.sl, ?_, g.cn⟩
    · rcases List.mem_append.mp hs with hs | hs
      · exact g.off s hs
      · have es : s = ⟨a, b, p⟩ := by
          have := List.mem_singleton.mp hs
          injection this
        rw [es]
        exact ⟨⟨c1, c2, c3⟩, by show 1 ≤ p; omega⟩
    · show (d.offers ++ [some _]).length ≤ 10
      rw [List.length_append]
      show d.offers.length + 1 ≤ 10
      omega
  | withdraw k =>
    show Good (match stayOf d.offers k with | none => (d, NONE) | some _ => ({ d with offers := d.offers.set k none }, says 0)).1
    cases e : stayOf d.offers k with
    | none => exact g
    | some s =>
      refine ⟨g.r1, g.r8, g.n1, g.n60, g.st, fun s hs => ?_, g.sl, ?_, g.cn⟩
      · rcases mem_set hs with hs | hs
        · exact g.off s hs
        · cases hs
      · show (d.offers.set k none).length ≤ 10
        rw [List.length_set]
        exact g.ol
  | settle =>
    show Good (if STAYS < d.stays.length + ((there d.offers).filter fun (x : Nat × Stay) => d.chosen.2.contains x.1).length then (d, says (-9)) else ({ d with stays := d.stays ++ ((there d.offers).filter fun (x : Nat × Stay) => d.chosen.2.contains x.1).map (fun (x : Nat × Stay) => some x.2), offers := [] }, says (((there d.offers).filter fun (x : Nat × Stay) => d.chosen.2.contains x.1).length : Nat))).1
    by_cases h1 : STAYS < d.stays.length + ((there d.offers).filter fun (x : Nat × Stay) => d.chosen.2.contains x.1).length
    · rw [if_pos h1]
      exact g
    rw [if_neg h1]
    have e40 : STAYS = 40 := rfl
    have new : ∀ s, some s ∈ ((there d.offers).filter fun (x : Nat × Stay) => d.chosen.2.contains x.1).map (fun (x : Nat × Stay) => some x.2) → StayOk d.nights s := fun s hs => by
      obtain ⟨x, hx, e⟩ := List.mem_map.mp hs
      injection e with e
      rw [← e]
      exact (mem_offers' g (List.mem_filter.mp hx).1).1
    refine ⟨g.r1, g.r8, g.n1, g.n60, fun s hs => ?_, fun s h => (nomatch h), ?_, Nat.zero_le _, fun n => ?_⟩
    · rcases List.mem_append.mp hs with hs | hs
      · exact g.st s hs
      · exact new s hs
    · show (d.stays ++ List.map _ _).length ≤ 40
      rw [List.length_append, List.length_map]
      omega
    · show cnt (d.stays ++ List.map _ _) n ≤ d.rooms
      rw [cnt_append]
      by_cases hn : n < d.nights
      · have a := (most_ok (there d.offers) d.caps there_nodup).2 n (by rw [caps_length]; exact hn)
        rw [caps_getD d hn, free_eq] at a
        have b : (cnt (((there d.offers).filter fun (x : Nat × Stay) => d.chosen.2.contains x.1).map fun (x : Nat × Stay) => some x.2) n : Int) = ld d.chosen.2.contains (there d.offers) n := cnt_some_map
        have a' : ld d.chosen.2.contains (there d.offers) n ≤ ((d.rooms - cnt d.stays n : Nat) : Int) := a
        have c := g.cn n
        omega
      · have a := cnt_far (l := d.stays) (N := d.nights) (n := n) (fun s hs => (g.st s hs).2.1) (by omega)
        have b := cnt_far (N := d.nights) (n := n) (fun s hs => (new s hs).2.1) (by omega)
        rw [a, b]
        exact Nat.zero_le _
end Rd

-- RdMath8
/-! Who has which room: the order in which stays come, and that a room is always found. -/
namespace Rd
open Ho

theorem sooner_iff {a b : Nat × Stay} : sooner a b = true ↔ a.2.from_ < b.2.from_ ∨ (a.2.from_ = b.2.from_ ∧ a.1 < b.1) := by
  unfold sooner
  rw [Bool.or_eq_true, Bool.and_eq_true, decide_eq_true_iff, decide_eq_true_iff, beq_iff_eq]
theorem putIn_perm (x : Nat × Stay) : ∀ l : List (Nat × Stay), (putIn x l).Perm (x :: l)
  | [] => List.Perm.refl _
  | y :: l => by
    unfold putIn
    split
    · exact List.Perm.refl _
    · exact ((putIn_perm x l).cons y).trans (List.Perm.swap x y l)
theorem inOrder_perm : ∀ l : List (Nat × Stay), (inOrder l).Perm l
  | [] => List.Perm.refl _
  | x :: l => (putIn_perm x (inOrder l)).trans ((inOrder_perm l).cons x)
/-- in order: each is sooner than all behind it -/
def Srt (l : List (Nat × Stay)) : Prop := l.Pairwise fun a b => sooner a b = true
theorem sooner_trans {a b c : Nat × Stay} (h1 : sooner a b = true) (h2 : sooner b c = true) : sooner a c = true := by
  rw [sooner_iff] at h1 h2 ⊢
  omega
theorem sooner_total {a b : Nat × Stay} (h : a.1 ≠ b.1) (h1 : ¬ sooner a b = true) : sooner b a = true := by
  rw [sooner_iff] at h1 ⊢
  omega
theorem putIn_srt {x : Nat × Stay} : ∀ {l : List (Nat × Stay)}, Srt l → (∀ y, y ∈ l → x.1 ≠ y.1) → Srt (putIn x l)
  | [], _, _ => List.pairwise_singleton _ _
  | y :: l, h, hx => by
    obtain ⟨h1, h2⟩ := (List.pairwise_cons.mp h)
    unfold putIn
    by_cases q : sooner x y = true
    · rw [if_pos q]
      refine List.pairwise_cons.mpr ⟨fun z hz => ?_, h⟩
      rcases (List.mem_cons.mp hz) with rfl | hz
      · exact q
      · exact sooner_trans q (h1 z hz)
    · rw [if_neg q]
      refine List.pairwise_cons.mpr ⟨fun z hz => ?_, putIn_srt h2 fun z hz => hx z (List.mem_cons_of_mem _ hz)⟩
      rcases List.mem_cons.mp ((putIn_perm x l).mem_iff.mp hz) with rfl | hz
      · exact sooner_total (hx y List.mem_cons_self) q
      · exact h1 z hz
theorem inOrder_srt : ∀ {l : List (Nat × Stay)}, (l.map (·.1)).Nodup → Srt (inOrder l)
  | [], _ => List.Pairwise.nil
  | x :: l, h => by
    rw [List.map_cons, List.nodup_cons] at h
    refine putIn_srt (inOrder_srt h.2) fun y hy e => h.1 ?_
    rw [e]
    exact List.mem_map_of_mem ((inOrder_perm l).mem_iff.mp hy)

/-- the room for one that comes -/
def rm (R : Nat) (had : List (Nat × (Stay × Nat))) (x : Stay) : Nat := ((List.range R).find? fun (r : Nat) => !had.any fun (y : Nat × (Stay × Nat)) => y.2.2 == r && meets y.2.1 x).getD R
def lodge (R : Nat) (had : List (Nat × (Stay × Nat))) (x : Nat × Stay) : List (Nat × (Stay × Nat)) := had ++ [(x.1, (x.2, rm R had x.2))]
theorem lodged_eq (d : Desk) : d.lodged = (inOrder (there d.stays)).foldl (lodge d.rooms) [] := rfl
theorem lodge_who {R : Nat} : ∀ {L : List (Nat × Stay)} {had : List (Nat × (Stay × Nat))}, (L.foldl (lodge R) had).map (fun y => (y.1, y.2.1)) = had.map (fun y => (y.1, y.2.1)) ++ L
  | [], had => by rw [List.append_nil]; rfl
  | x :: L, had => by
    show (L.foldl (lodge R) (lodge R had x)).map _ = _
    rw [lodge_who]
    unfold lodge
    rw [List.map_append, List.append_assoc]
    rfl

theorem sub_len : ∀ {l m : List Nat}, l.Nodup → (∀ x, x ∈ l → x ∈ m) → l.length ≤ m.length
  | [], m, _, _ => Nat.zero_le _
  | x :: l, m, h, hs => by
    rw [List.nodup_cons] at h
    have hx := hs x List.mem_cons_self
    have a := sub_len (l := l) (m := m.erase x) h.2 fun y hy => by
      have hne : y ≠ x := fun e => h.1 (e ▸ hy)
      exact (List.mem_erase_of_ne hne).mpr (hs y (List.mem_cons_of_mem _ hy))
    rw [List.length_erase_of_mem hx] at a
    have b : 0 < m.length := List.length_pos_of_mem hx
    rw [List.length_cons]
    omega
theorem meets_iff {s t : Stay} : meets s t = true ↔ s.from_ < t.to_ ∧ t.from_ < s.to_ := by
  unfold meets
  rw [Bool.and_eq_true, decide_eq_true_iff, decide_eq_true_iff]
theorem filter_count {L M : List (Nat × Stay)} (p : L.Perm M) (n : Nat) : count L n = count M n := by
  unfold count
  exact (p.filter _).length_eq
/-- where those that came before and meet it are fewer than rooms, one is found: the least -/
theorem rm_found {R : Nat} {had : List (Nat × (Stay × Nat))} {x : Stay} (h : (had.filter fun y => meets y.2.1 x).length < R) :
    rm R had x < R ∧ (∀ y, y ∈ had → meets y.2.1 x = true → y.2.2 ≠ rm R had x) ∧ ∀ r, r < rm R had x → ∃ y, y ∈ had ∧ meets y.2.1 x = true ∧ y.2.2 = r := by
  unfold rm
  cases e : (List.range R).find? fun (r : Nat) => !had.any fun (y : Nat × (Stay × Nat)) => y.2.2 == r && meets y.2.1 x with
  | none =>
    exfalso
    rw [List.find?_eq_none] at e
    have a := sub_len (l := List.range R) (m := (had.filter fun y => meets y.2.1 x).map (·.2.2)) List.nodup_range fun r hr => by
      have q := e r hr
      have q' : (had.any fun (y : Nat × (Stay × Nat)) => y.2.2 == r && meets y.2.1 x) = true := by
        cases z : had.any fun (y : Nat × (Stay × Nat)) => y.2.2 == r && meets y.2.1 x with
        | true => rfl
        | false =>
          rw [z] at q
          exact absurd rfl q
      obtain ⟨y, hy, hq⟩ := List.any_eq_true.mp q'
      rw [Bool.and_eq_true, beq_iff_eq] at hq
      exact List.mem_map.mpr ⟨y, List.mem_filter.mpr ⟨hy, hq.2⟩, hq.1⟩
    rw [List.length_range, List.length_map] at a
    omega
  | some r =>
    rw [List.find?_range_eq_some] at e
    obtain ⟨h1, h2, h3⟩ := e
    refine ⟨List.mem_range.mp h2, fun y hy hm er => ?_, fun r' hr' => ?_⟩
    · have h1' : (!had.any fun (y : Nat × (Stay × Nat)) => y.2.2 == r && meets y.2.1 x) = true := h1
      have er' : y.2.2 = r := er
      have q : (had.any fun (y : Nat × (Stay × Nat)) => y.2.2 == r && meets y.2.1 x) = true := List.any_eq_true.mpr ⟨y, hy, by rw [er', hm, beq_self_eq_true]; rfl⟩
      rw [q] at h1'
      cases h1'
    · have q := h3 r' hr'
      rw [Bool.not_not] at q
      obtain ⟨y, hy, hq⟩ := List.any_eq_true.mp q
      rw [Bool.and_eq_true, beq_iff_eq] at hq
      exact ⟨y, hy, hq.2, hq.1⟩
/-- a room is always found -/
theorem few_before {d : Desk} (g : Good d) {pre post : List (Nat × Stay)} {x : Nat × Stay} (h : inOrder (there d.stays) = pre ++ x :: post) : ((pre.foldl (lodge d.rooms) []).filter fun y => meets y.2.1 x.2).length < d.rooms := by
  have hs := inOrder_srt (l := there d.stays) there_nodup
  have hp := inOrder_perm (there d.stays)
  rw [h] at hs hp
  have hx : StayOk d.nights x.2 := g.st x.2 (List.mem_of_getElem? (mem_there.mp (hp.mem_iff.mp (List.mem_append_right _ List.mem_cons_self))))
  have hpre : ∀ y, y ∈ pre → y.2.from_ ≤ x.2.from_ := fun y hy => by
    have := (List.pairwise_append.mp hs).2.2 y hy x List.mem_cons_self
    rw [sooner_iff] at this
    omega
  have e1 : ((pre.foldl (lodge d.rooms) []).filter fun y => meets y.2.1 x.2).length = (pre.filter fun y => meets y.2 x.2).length := by
    have e : (pre.foldl (lodge d.rooms) []).map (fun y => (y.1, y.2.1)) = pre := by
      rw [lodge_who]
      rfl
    conv => rhs; rw [← e]
    rw [List.filter_map, List.length_map]
    rfl
  have e2 : (pre.filter fun y => meets y.2 x.2).length ≤ count pre x.2.from_ := by
    unfold count
    have sub : (pre.filter fun y => meets y.2 x.2).length ≤ (pre.filter fun (y : Nat × Stay) => covers y.2 x.2.from_).length := by
      have a : ((pre.filter fun y => meets y.2 x.2).length : Int) ≤ (pre.filter fun (y : Nat × Stay) => covers y.2 x.2.from_).length := by
        rw [sm_filter_one, sm_filter_one]
        refine sm_le fun y hy => ?_
        by_cases q : meets y.2 x.2 = true
        · have c : covers y.2 x.2.from_ = true := covers_iff.mpr ⟨hpre y hy, (meets_iff.mp q).2⟩
          rw [if_pos q, if_pos c]
          exact Int.le_refl _
        · rw [if_neg q]
          split <;> omega
      omega
    exact sub
  have e3 : count (pre ++ x :: post) x.2.from_ = count (there d.stays) x.2.from_ := filter_count hp _
  rw [count_there] at e3
  have e4 : count pre x.2.from_ + 1 ≤ count (pre ++ x :: post) x.2.from_ := by
    unfold count
    rw [List.filter_append, List.length_append, List.filter_cons, if_pos (covers_iff.mpr ⟨Nat.le_refl _, hx.1⟩), List.length_cons]
    omega
  have := g.cn x.2.from_
  omega
end Rd

-- RdMath9
/-! A call done: the state then; how long an answer is. -/
namespace Rd
open Ho

/-- the state s is the desk d -/
def StOk : Ho.State → Desk → Prop
  | none, d => d = ⟨0, 0, [], []⟩
  | some e, d => d = e ∧ Good e
theorem th_length : ∀ (l : List (Option Stay)) (k : Nat), (th k l).length ≤ l.length
  | [], _ => Nat.le_refl _
  | none :: l, k => Nat.le_succ_of_le (th_length l (k + 1))
  | some _ :: l, k => Nat.succ_le_succ (th_length l (k + 1))
theorem nums_len {d : Desk} (g : Good d) (c : Call) : (stepOn d c).2.nums.length ≤ 60 := by
  have h0 : ∀ z, (says z).nums.length ≤ 60 := fun z => Nat.zero_le _
  have h1 : ∀ z n, (tells z [n]).nums.length ≤ 60 := fun z n => by show 1 ≤ 60; omega
  cases c with
  | begin_ r n => exact h0 _
  | choose =>
    show d.chosen.2.length ≤ 60
    have a := (most_sub (there d.offers) d.caps).length_le
    have b := th_length d.offers 0
    rw [List.length_map, there_eq] at a
    have := g.ol
    have a' : d.chosen.2.length ≤ (th 0 d.offers).length := by
      rw [← there_eq] at a ⊢
      exact a
    omega
  | prices =>
    show d.prices.length ≤ 60
    unfold Desk.prices
    dsimp only
    rw [List.length_map, List.length_range]
    exact g.n60
  | rooms =>
    show (List.map _ (List.range d.stays.length)).length ≤ 60
    rw [List.length_map, List.length_range]
    have := g.sl
    omega
  | night n =>
    show (if d.nights ≤ n then BAD else tells 0 ((List.range d.rooms).map _)).nums.length ≤ 60
    split
    · exact h0 _
    · show (List.map _ (List.range d.rooms)).length ≤ 60
      rw [List.length_map, List.length_range]
      have := g.r8
      omega
  | free n =>
    show (if d.nights ≤ n then BAD else says (d.free n : Nat)).nums.length ≤ 60
    split
    · exact h0 _
    · exact h0 _
  | first l a =>
    show (if l = 0 then BAD else _).nums.length ≤ 60
    split
    · exact h0 _
    · split
      · exact h0 _
      · exact h0 _
  | until_ n =>
    show (if d.nights ≤ n then BAD else _).nums.length ≤ 60
    split
    · exact h0 _
    · exact h0 _
  | told k =>
    show (match stayOf d.stays k with | none => NONE | some s => tells 0 [s.from_, s.to_, s.price]).nums.length ≤ 60
    cases stayOf d.stays k with
    | none => exact h0 _
    | some s =>
      show 3 ≤ 60
      omega
  | income => exact h1 _ _
  | book a b p =>
    show (if isStay d a b p = false then (d, BAD) else ifFree d ⟨a, b, p⟩ (if STAYS ≤ d.stays.length then (d, says (-9)) else ({ d with stays := d.stays ++ [some ⟨a, b, p⟩] }, says (d.stays.length : Nat)))).2.nums.length ≤ 60
    split
    · exact h0 _
    · unfold ifFree
      cases d.full ⟨a, b, p⟩ with
      | some n => exact h1 _ _
      | none =>
        dsimp only
        split
        · exact h0 _
        · exact h0 _
  | cancel k =>
    show (match stayOf d.stays k with | none => (d, NONE) | some _ => ({ d with stays := d.stays.set k none }, says 0)).2.nums.length ≤ 60
    cases stayOf d.stays k with
    | none => exact h0 _
    | some s => exact h0 _
  | change k a b =>
    show (match stayOf d.stays k with
      | none => (d, NONE)
      | some s => if isStay d a b 0 = false then (d, BAD) else match ({ d with stays := d.stays.set k none } : Desk).full ⟨a, b, s.price⟩ with
        | some n => (d, tells (-4) [n])
        | none => ({ d with stays := d.stays.set k (some ⟨a, b, s.price⟩) }, says 0)).2.nums.length ≤ 60
    cases stayOf d.stays k with
    | none => exact h0 _
    | some s =>
      dsimp only
      split
      · exact h0 _
      · cases ({ d with stays := d.stays.set k none } : Desk).full ⟨a, b, s.price⟩ with
        | some n => exact h1 _ _
        | none => exact h0 _
  | offer a b p =>
    show (if isStay d a b p = false ∨ p = 0 then (d, BAD) else if OFFERS ≤ d.offers.length then (d, says (-9)) else ({ d with offers := d.offers ++ [some ⟨a, b, p⟩] }, says (d.offers.length : Nat))).2.nums.length ≤ 60
    split
    · exact h0 _
    · split
      · exact h0 _
      · exact h0 _
  | withdraw k =>
    show (match stayOf d.offers k with | none => (d, NONE) | some _ => ({ d with offers := d.offers.set k none }, says 0)).2.nums.length ≤ 60
    cases stayOf d.offers k with
    | none => exact h0 _
    | some s => exact h0 _
  | settle =>
    show (if STAYS < d.stays.length + ((there d.offers).filter fun (x : Nat × Stay) => d.chosen.2.contains x.1).length then (d, says (-9)) else (_, says (((there d.offers).filter fun (x : Nat × Stay) => d.chosen.2.contains x.1).length : Nat))).2.nums.length ≤ 60
    split
    · exact h0 _
    · exact h0 _

/-- a call on a state, by the desk -/
theorem step_on (d : Desk) (c : Call) (h : ∀ r n, c ≠ .begin_ r n) : Ho.step (some d) c = (some (stepOn d c).1, (stepOn d c).2) := by
  cases c with
  | begin_ r n => exact absurd rfl (h r n)
  | _ => rfl
theorem step_none (c : Call) (h : ∀ r n, c ≠ .begin_ r n) : Ho.step none c = (none, says (-2)) := by
  cases c with
  | begin_ r n => exact absurd rfl (h r n)
  | _ => rfl
theorem step_begin (s : Ho.State) (r n : Nat) : Ho.step s (.begin_ r n) = if r < 1 ∨ ROOMS < r ∨ n < 1 ∨ NIGHTS < n then (s, BAD) else (some ⟨r, n, [], []⟩, says 0) := rfl
theorem step_good {s : Ho.State} {d : Desk} (h : StOk s d) (c : Call) : (∃ d', StOk (Ho.step s c).1 d') ∧ (Ho.step s c).2.nums.length ≤ 60 := by
  by_cases hb : ∃ r n, c = .begin_ r n
  · obtain ⟨r, n, rfl⟩ := hb
    rw [step_begin]
    by_cases q : r < 1 ∨ ROOMS < r ∨ n < 1 ∨ NIGHTS < n
    · rw [if_pos q]
      exact ⟨⟨d, h⟩, Nat.zero_le _⟩
    · rw [if_neg q]
      exact ⟨⟨_, rfl, good_begin q⟩, Nat.zero_le _⟩
  · have hb' : ∀ r n, c ≠ .begin_ r n := fun r n e => hb ⟨r, n, e⟩
    cases s with
    | none =>
      rw [step_none c hb']
      exact ⟨⟨d, h⟩, Nat.zero_le _⟩
    | some e =>
      rw [step_on e c hb']
      exact ⟨⟨_, rfl, good_step h.2 c⟩, nums_len h.2 c⟩
/-- a call in form is a call -/
theorem ans_len {s : Ho.State} {d : Desk} (h : StOk s d) (c : List (List Int)) : (RoomNeutral.step s c).2.length ≤ 62 := by
  unfold RoomNeutral.step
  cases e : RoomNeutral.callOf c with
  | none => exact Nat.zero_le _
  | some x =>
    dsimp only
    have := (step_good h x).2
    unfold RoomNeutral.told
    rw [List.length_cons, List.length_cons, List.length_map]
    omega
end Rd

-- RdMath10
/-! Nights in a row; the first such night. -/
namespace Rd
open Ho
/-- how many in a row, from n on, are above 0 -/
def inrow (l : List Nat) (n : Nat) : Nat := ((l.drop n).takeWhile fun x => decide (0 < x)).length
theorem tw_pos {a : Nat} {l : List Nat} (h : 0 < a) : (a :: l).takeWhile (fun x => decide (0 < x)) = a :: l.takeWhile (fun x => decide (0 < x)) := List.takeWhile_cons_of_pos (p := fun x => decide (0 < x)) (decide_eq_true h)
theorem tw_neg {a : Nat} {l : List Nat} (h : ¬ 0 < a) : (a :: l).takeWhile (fun x => decide (0 < x)) = [] := List.takeWhile_cons_of_neg (p := fun x => decide (0 < x)) (by simpa using h)
theorem tw_lt : ∀ {l : List Nat} {i : Nat}, i < (l.takeWhile fun x => decide (0 < x)).length → ∃ x, l[i]? = some x ∧ 0 < x
  | [], i, h => absurd h (Nat.not_lt_zero _)
  | a :: l, i, h => by
    by_cases q : 0 < a
    · rw [tw_pos q, List.length_cons] at h
      cases i with
      | zero => exact ⟨a, rfl, q⟩
      | succ i =>
        obtain ⟨x, e, hx⟩ := tw_lt (l := l) (i := i) (by omega)
        exact ⟨x, e, hx⟩
    · rw [tw_neg q] at h
      exact absurd h (Nat.not_lt_zero _)
theorem tw_at : ∀ (l : List Nat), l[(l.takeWhile fun x => decide (0 < x)).length]? = none ∨ l[(l.takeWhile fun x => decide (0 < x)).length]? = some 0
  | [] => .inl rfl
  | a :: l => by
    by_cases q : 0 < a
    · rw [tw_pos q, List.length_cons, List.getElem?_cons_succ]
      exact tw_at l
    · rw [tw_neg q]
      refine .inr ?_
      have e : a = 0 := by omega
      rw [e]
      rfl
theorem inrow_lt {l : List Nat} {n i : Nat} (h : i < inrow l n) : ∃ x, l[n + i]? = some x ∧ 0 < x := by
  obtain ⟨x, e, hx⟩ := tw_lt h
  rw [List.getElem?_drop] at e
  exact ⟨x, e, hx⟩
theorem inrow_at (l : List Nat) (n : Nat) : l[n + inrow l n]? = none ∨ l[n + inrow l n]? = some 0 := by
  have h := tw_at (l.drop n)
  rw [List.getElem?_drop] at h
  exact h
theorem caps_get (d : Desk) {n : Nat} (h : n < d.nights) : d.caps[n]? = some (d.free n) := by
  unfold Ho.Desk.caps
  rw [List.getElem?_map, List.getElem?_range h]
  rfl
theorem inrow_run (d : Desk) : ∀ (f n : Nat), d.nights ≤ n + f → d.run f n = inrow d.caps n
  | 0, n, h => by
    unfold Ho.Desk.run inrow
    rw [List.drop_eq_nil_of_le (by rw [caps_length]; omega)]
    rfl
  | f + 1, n, h => by
    unfold Ho.Desk.run
    by_cases q : n < d.nights
    · have hl : n < d.caps.length := by rw [caps_length]; exact q
      have e : d.caps[n] = d.free n := by
        have e1 := caps_get d q
        rw [List.getElem?_eq_getElem hl] at e1
        exact Option.some.inj e1
      unfold inrow
      rw [List.drop_eq_getElem_cons hl, e]
      by_cases p : 0 < d.free n
      · rw [if_pos ⟨q, p⟩, tw_pos p, List.length_cons, inrow_run d f (n + 1) (by omega)]
        rfl
      · rw [if_neg (fun z => p z.2), tw_neg p]
        rfl
    · rw [if_neg (fun z => q z.1)]
      unfold inrow
      rw [List.drop_eq_nil_of_le (by rw [caps_length]; omega)]
      rfl
theorem run_row (d : Desk) (n : Nat) : d.run d.nights n = inrow d.caps n := inrow_run d _ n (by omega)
/-- the first night, by the rows -/
def firstN (d : Desk) (len a : Nat) : Option Nat := (List.range d.nights).find? fun (n : Nat) => decide (a ≤ n) && decide (len ≤ d.run d.nights n)
theorem first_some {d : Desk} {len a n : Nat} (h : n < d.nights) (ha : a ≤ n) (hl : len ≤ inrow d.caps n) (hb : ∀ m, a ≤ m → m < n → ¬ len ≤ inrow d.caps m) : firstN d len a = some n := by
  unfold firstN
  rw [List.find?_range_eq_some]
  refine ⟨?_, List.mem_range.mpr h, fun m hm => ?_⟩
  · rw [run_row, decide_eq_true ha, decide_eq_true hl]
    rfl
  · rw [run_row]
    by_cases q : a ≤ m
    · rw [decide_eq_false (hb m q hm), Bool.and_false]
      rfl
    · rw [decide_eq_false q]
      rfl
theorem first_none {d : Desk} {len a : Nat} (hb : ∀ m, a ≤ m → m < d.nights → ¬ len ≤ inrow d.caps m) : firstN d len a = none := by
  unfold firstN
  rw [List.find?_eq_none]
  intro m hm
  rw [run_row]
  by_cases q : a ≤ m
  · rw [decide_eq_false (hb m q (List.mem_range.mp hm)), Bool.and_false]
    decide
  · rw [decide_eq_false q, Bool.false_and]
    decide
end Rd

-- RdMath11
/-! Rooms: the order by (first night, number); who has which room; the night's row. -/
namespace Rd
open Ho
/-- pairs by their first, then their second -/
def lexLe (a b : Int × Int) : Prop := a.1 < b.1 ∨ (a.1 = b.1 ∧ a.2 ≤ b.2)
theorem lex_uniq : ∀ {l m : List (Int × Int)}, l.Pairwise lexLe → m.Pairwise lexLe → l.Perm m → l = m
  | [], m, _, _, p => List.Perm.nil_eq p
  | a :: l, [], _, _, p => absurd p.length_eq (by simp)
  | a :: l, b :: m, h, h', p => by
    obtain ⟨h1, h2⟩ := (List.pairwise_cons.mp h)
    obtain ⟨h1', h2'⟩ := List.pairwise_cons.mp h'
    have e : a = b := by
      have ma : a ∈ b :: m := p.mem_iff.mp List.mem_cons_self
      have mb : b ∈ a :: l := p.mem_iff.mpr List.mem_cons_self
      rcases List.mem_cons.mp ma with e | ma
      · exact e
      · rcases List.mem_cons.mp mb with e | mb
        · exact e.symm
        · have q1 := h1 b mb
          have q2 := h1' a ma
          unfold lexLe at q1 q2
          exact Prod.ext (by omega) (by omega)
    subst e
    rw [lex_uniq h2 h2' (List.Perm.cons_inv p)]
/-- the stays that are there, in their order -/
def ordr (d : Desk) : List (Nat × Stay) := inOrder (there d.stays)
def pairOf (x : Nat × Stay) : Int × Int := ((x.2.from_ : Int), (x.1 : Int))
theorem sorted_pairs {d : Desk} {ps : List (Int × Int)} (hp : ps.Perm ((there d.stays).map pairOf)) (hs : ps.Pairwise lexLe) : ps = (ordr d).map pairOf := by
  refine lex_uniq hs ?_ (hp.trans ((inOrder_perm (there d.stays)).map pairOf).symm)
  rw [List.pairwise_map]
  refine (inOrder_srt (l := there d.stays) there_nodup).imp fun {a b} h => ?_
  rw [sooner_iff] at h
  unfold lexLe pairOf
  dsimp only
  omega
theorem ordr_mem {d : Desk} {x : Nat × Stay} : x ∈ ordr d ↔ d.stays[x.1]? = some (some x.2) := by
  unfold ordr
  rw [(inOrder_perm _).mem_iff]
  exact mem_there
theorem ordr_nodup (d : Desk) : ((ordr d).map (·.1)).Nodup := ((inOrder_perm (there d.stays)).map (·.1)).nodup_iff.mpr there_nodup
theorem ordr_len (d : Desk) : (ordr d).length ≤ d.stays.length := by
  unfold ordr
  rw [(inOrder_perm _).length_eq, there_eq]
  exact th_length _ _

/-- the room of each, as it stands in the program's list -/
def roomsOf (n R : Nat) (had : List (Nat × (Stay × Nat))) : List Nat := (List.range n).map fun (k : Nat) => ((had.find? fun (x : Nat × (Stay × Nat)) => x.1 == k).map fun (x : Nat × (Stay × Nat)) => x.2.2).getD R
theorem roomsOf_length (n R : Nat) (had : List (Nat × (Stay × Nat))) : (roomsOf n R had).length = n := by
  unfold roomsOf
  rw [List.length_map, List.length_range]
theorem roomsOf_get {n R k : Nat} {had : List (Nat × (Stay × Nat))} (h : k < n) : (roomsOf n R had)[k]? = some (((had.find? fun (x : Nat × (Stay × Nat)) => x.1 == k).map fun (x : Nat × (Stay × Nat)) => x.2.2).getD R) := by
  unfold roomsOf
  rw [List.getElem?_map, List.getElem?_range h]
  rfl
theorem roomsOf_nil (n R : Nat) : roomsOf n R [] = List.replicate n R := by
  refine List.ext_getElem? fun i => ?_
  by_cases h : i < n
  · rw [roomsOf_get h, List.getElem?_replicate, if_pos h]
    rfl
  · rw [List.getElem?_eq_none (by rw [roomsOf_length]; omega), List.getElem?_eq_none (by rw [List.length_replicate]; omega)]
theorem find_key {had : List (Nat × (Stay × Nat))} {y : Nat × (Stay × Nat)} (hn : (had.map (·.1)).Nodup) (hy : y ∈ had) : (had.find? fun (x : Nat × (Stay × Nat)) => x.1 == y.1) = some y := by
  induction had with
  | nil => cases hy
  | cons a l ih =>
    (rw [List.map_cons, List.nodup_cons] at hn)
    rcases (List.mem_cons.mp hy) with rfl | hy
    · rw [List.find?_cons_of_pos (by simp)]
    · have ne : a.1 ≠ y.1 := fun e => hn.1 (by rw [e]; exact List.mem_map_of_mem hy)
      rw [List.find?_cons_of_neg (by simpa using ne)]
      exact ih hn.2 hy
theorem roomsOf_at {n R : Nat} {had : List (Nat × (Stay × Nat))} {y : Nat × (Stay × Nat)} (hn : (had.map (·.1)).Nodup) (hy : y ∈ had) (h : y.1 < n) : (roomsOf n R had)[y.1]? = some y.2.2 := by
  rw [roomsOf_get h, find_key hn hy]
  rfl
theorem roomsOf_lodge {n R : Nat} {had : List (Nat × (Stay × Nat))} {x : Nat × Stay} (hx : x.1 ∉ had.map (·.1)) (h : x.1 < n) : roomsOf n R (lodge R had x) = (roomsOf n R had).set x.1 (rm R had x.2) := by
  refine List.ext_getElem? fun k => ?_
  by_cases hk : k < n
  · rw [roomsOf_get hk, List.getElem?_set, roomsOf_length]
    unfold lodge
    rw [List.find?_append]
    by_cases e : x.1 = k
    · subst e
      rw [if_pos rfl, if_pos h]
      have e1 : (had.find? fun (y : Nat × (Stay × Nat)) => y.1 == x.1) = none := by
        rw [List.find?_eq_none]
        intro y hy q
        exact hx (List.mem_map.mpr ⟨y, hy, by simpa using q⟩)
      rw [e1, List.find?_cons_of_pos (by simp)]
      rfl
    · rw [if_neg e, roomsOf_get hk, List.find?_cons_of_neg (by simpa using e), List.find?_nil, Option.or_none]
  · rw [List.getElem?_eq_none (by rw [roomsOf_length]; omega), List.getElem?_eq_none (by rw [List.length_set, roomsOf_length]; omega)]

/-- who had come before the i-th -/
def hadN (d : Desk) (i : Nat) : List (Nat × (Stay × Nat)) := ((ordr d).take i).foldl (lodge d.rooms) []
theorem hadN_zero (d : Desk) : hadN d 0 = [] := rfl
theorem hadN_all (d : Desk) : hadN d (ordr d).length = d.lodged := by
  unfold hadN
  rw [List.take_length]
  rfl
theorem hadN_succ {d : Desk} {i : Nat} {x : Nat × Stay} (h : (ordr d)[i]? = some x) : hadN d (i + 1) = lodge d.rooms (hadN d i) x := by
  unfold hadN
  rw [List.take_add_one, h]
  show List.foldl _ _ (_ ++ [x]) = _
  rw [List.foldl_append]
  rfl
theorem hadN_who (d : Desk) (i : Nat) : (hadN d i).map (fun y => (y.1, y.2.1)) = (ordr d).take i := by
  unfold hadN
  rw [lodge_who]
  rfl
theorem hadN_nums (d : Desk) (i : Nat) : (hadN d i).map (·.1) = ((ordr d).take i).map (·.1) := by
  rw [← hadN_who, List.map_map]
  rfl
theorem hadN_nodup (d : Desk) (i : Nat) : ((hadN d i).map (·.1)).Nodup := by
  rw [hadN_nums]
  exact ((List.take_sublist i (ordr d)).map (·.1)).nodup (ordr_nodup d)
theorem hadN_stay {d : Desk} {i : Nat} {y : Nat × (Stay × Nat)} (h : y ∈ hadN d i) : d.stays[y.1]? = some (some y.2.1) := by
  have m : (y.1, y.2.1) ∈ (ordr d).take i := by
    rw [← hadN_who]
    exact List.mem_map.mpr ⟨y, h, rfl⟩
  exact ordr_mem.mp (List.mem_of_mem_take m)
theorem split_at {α : Type} {l : List α} {i : Nat} {x : α} (h : l[i]? = some x) : l = l.take i ++ x :: l.drop (i + 1) := by
  obtain ⟨hi, e⟩ := (List.getElem?_eq_some_iff.mp h)
  have := (List.take_append_drop i l).symm
  rw [List.drop_eq_getElem_cons hi, e] at this
  exact this
theorem new_num {d : Desk} {i : Nat} {x : Nat × Stay} (h : (ordr d)[i]? = some x) : x.1 ∉ (hadN d i).map (·.1) := by
  rw [hadN_nums]
  have n := ordr_nodup d
  rw [split_at h, List.map_append, List.map_cons] at n
  intro m
  exact (List.nodup_append.mp n).2.2 _ m _ List.mem_cons_self rfl
theorem room_found {d : Desk} (g : Good d) {i : Nat} {x : Nat × Stay} (h : (ordr d)[i]? = some x) :
    rm d.rooms (hadN d i) x.2 < d.rooms ∧ (∀ y, y ∈ hadN d i → meets y.2.1 x.2 = true → y.2.2 ≠ rm d.rooms (hadN d i) x.2) ∧ ∀ r, r < rm d.rooms (hadN d i) x.2 → ∃ y, y ∈ hadN d i ∧ meets y.2.1 x.2 = true ∧ y.2.2 = r :=
  rm_found (few_before g (split_at h))
/-- those that meet it, their rooms -/
def takenN (d : Desk) (i : Nat) (x : Stay) : List Nat := ((hadN d i).filter fun y => meets y.2.1 x).map (·.2.2)
theorem taken_least {d : Desk} (g : Good d) {i : Nat} {x : Nat × Stay} (h : (ordr d)[i]? = some x) : rm d.rooms (hadN d i) x.2 ∉ takenN d i x.2 ∧ ∀ r, r < rm d.rooms (hadN d i) x.2 → r ∈ takenN d i x.2 := by
  obtain ⟨_, h2, h3⟩ := room_found g h
  refine ⟨fun m => ?_, fun r hr => ?_⟩
  · obtain ⟨y, hy, e⟩ := List.mem_map.mp m
    obtain ⟨hy, hm⟩ := List.mem_filter.mp hy
    exact h2 y hy hm e
  · obtain ⟨y, hy, hm, e⟩ := h3 r hr
    exact List.mem_map.mpr ⟨y, List.mem_filter.mpr ⟨hy, hm⟩, e⟩
theorem hadN_ok {d : Desk} (g : Good d) : ∀ i, i ≤ (ordr d).length → (∀ y, y ∈ hadN d i → y.2.2 < d.rooms) ∧ ∀ y z, y ∈ hadN d i → z ∈ hadN d i → y.1 ≠ z.1 → meets y.2.1 z.2.1 = true → y.2.2 ≠ z.2.2
  | 0, _ => ⟨fun y hy => (by cases hy), fun y z hy => (by cases hy)⟩
  | i + 1, hi => by
    obtain ⟨h1, h2⟩ := hadN_ok g i (by omega)
    have e : (ordr d)[i]? = some (ordr d)[i] := List.getElem?_eq_getElem (by omega)
    generalize (ordr d)[i] = x at e
    obtain ⟨r1, r2, r3⟩ := room_found g e
    rw [hadN_succ e]
    unfold lodge
    have meets_symm : ∀ s t : Stay, meets s t = true → meets t s = true := fun s t q => meets_iff.mpr ⟨(meets_iff.mp q).2, (meets_iff.mp q).1⟩
    refine ⟨fun y hy => ?_, fun y z hy hz hn hm => ?_⟩
    · rcases List.mem_append.mp hy with hy | hy
      · exact h1 y hy
      · rw [List.mem_singleton.mp hy]
        exact r1
    · rcases List.mem_append.mp hy with hy | hy
      · rcases List.mem_append.mp hz with hz | hz
        · exact h2 y z hy hz hn hm
        · rw [List.mem_singleton.mp hz] at hm ⊢
          exact r2 y hy hm
      · rcases List.mem_append.mp hz with hz | hz
        · rw [List.mem_singleton.mp hy] at hm ⊢
          exact Ne.symm (r2 z hz (meets_symm _ _ hm))
        · rw [List.mem_singleton.mp hy, List.mem_singleton.mp hz] at hn
          exact absurd rfl hn
theorem lodged_room {d : Desk} (g : Good d) {y : Nat × (Stay × Nat)} (h : y ∈ d.lodged) : y.2.2 < d.rooms := by
  rw [← hadN_all] at h
  exact (hadN_ok g _ (Nat.le_refl _)).1 y h
theorem lodged_apart {d : Desk} (g : Good d) {y z : Nat × (Stay × Nat)} (hy : y ∈ d.lodged) (hz : z ∈ d.lodged) (hn : y.1 ≠ z.1) {n : Nat} (cy : covers y.2.1 n = true) (cz : covers z.2.1 n = true) : y.2.2 ≠ z.2.2 := by
  rw [← hadN_all] at hy hz
  refine (hadN_ok g _ (Nat.le_refl _)).2 y z hy hz hn (meets_iff.mpr ?_)
  have a := covers_iff.mp cy
  have b := covers_iff.mp cz
  omega
theorem lodged_stay {d : Desk} {y : Nat × (Stay × Nat)} (h : y ∈ d.lodged) : d.stays[y.1]? = some (some y.2.1) := by
  rw [← hadN_all] at h
  exact hadN_stay h
theorem lodged_has {d : Desk} {k : Nat} {s : Stay} (h : d.stays[k]? = some (some s)) : ∃ r, (k, (s, r)) ∈ d.lodged := by
  have m : (k, s) ∈ (ordr d).take (ordr d).length := by
    rw [List.take_length]
    exact ordr_mem.mpr h
  rw [← hadN_who, hadN_all] at m
  obtain ⟨y, hy, e⟩ := List.mem_map.mp m
  have e1 : y.1 = k := congrArg (·.1) e
  have e2 : y.2.1 = s := congrArg (·.2) e
  refine ⟨y.2.2, ?_⟩
  rw [← e1, ← e2]
  exact hy
theorem lodged_nodup (d : Desk) : (d.lodged.map (·.1)).Nodup := by
  rw [← hadN_all]
  exact hadN_nodup d _

/-- the night's row -/
def nightRow (d : Desk) (n : Nat) : List Nat := (List.range d.rooms).map fun (r : Nat) => match d.lodged.find? fun (x : Nat × (Stay × Nat)) => x.2.2 == r && covers x.2.1 n with
    | some x => x.1 + 1
    | none => 0
/-- the row, those numbered below i in -/
structure RowTo (d : Desk) (n i : Nat) (l : List Nat) : Prop where
  len : l.length = d.rooms
  has : ∀ x, x ∈ d.lodged → x.1 < i → covers x.2.1 n = true → l[x.2.2]? = some (x.1 + 1)
  no : ∀ r, r < d.rooms → (∀ x, x ∈ d.lodged → x.1 < i → covers x.2.1 n = true → x.2.2 ≠ r) → l[r]? = some 0
theorem RowTo.zero (d : Desk) (n : Nat) : RowTo d n 0 (List.replicate d.rooms 0) := ⟨List.length_replicate, fun x _ h => absurd h (Nat.not_lt_zero _), fun r hr _ => by
  rw [List.getElem?_replicate, if_pos hr]⟩
theorem RowTo.skip {d : Desk} {n i : Nat} {l : List Nat} (h : RowTo d n i l) (hs : ∀ s, d.stays[i]? = some (some s) → covers s n = false) : RowTo d n (i + 1) l := by
  have key : ∀ x, x ∈ d.lodged → x.1 < i + 1 → covers x.2.1 n = true → x.1 < i := fun x hx hi hc => by
    by_cases e : x.1 = i
    · have a := lodged_stay hx
      rw [e] at a
      rw [hs _ a] at hc
      cases hc
    · omega
  exact ⟨h.len, fun x hx hi hc => h.has x hx (key x hx hi hc) hc, fun r hr k => h.no r hr fun x hx hi hc => k x hx (by omega) hc⟩
theorem RowTo.put {d : Desk} (g : Good d) {n i : Nat} {l : List Nat} (h : RowTo d n i l) {s : Stay} {r : Nat} (hm : (i, (s, r)) ∈ d.lodged) (hc : covers s n = true) : RowTo d n (i + 1) (l.set r (i + 1)) := by
  have hr : r < d.rooms := lodged_room g hm
  refine ⟨by rw [List.length_set]; exact h.len, fun x hx hi cx => ?_, fun r' hr' k => ?_⟩
  · rw [List.getElem?_set]
    by_cases e : x.1 = i
    · have a := lodged_stay hx
      have b := lodged_stay hm
      have e3 : x.2.2 = r := by
        have f1 := find_key (lodged_nodup d) hx
        have f2 := find_key (lodged_nodup d) hm
        dsimp only at f2
        rw [e, f2] at f1
        exact (congrArg (·.2.2) (Option.some.inj f1)).symm
      rw [e3, if_pos rfl, if_pos (by rw [h.len]; exact hr), e]
    · have ne : x.2.2 ≠ r := lodged_apart g hx hm e cx hc
      rw [if_neg (Ne.symm ne)]
      exact h.has x hx (by omega) cx
  · rw [List.getElem?_set]
    have ne : r ≠ r' := k _ hm (Nat.lt_succ_self _) hc
    rw [if_neg ne]
    exact h.no r' hr' fun x hx hi cx => k x hx (by omega) cx
theorem RowTo.done {d : Desk} {n i : Nat} {l : List Nat} (g : Good d) (h : RowTo d n i l) (hi : d.stays.length ≤ i) : l = nightRow d n := by
  have hl : (nightRow d n).length = d.rooms := by
    unfold nightRow
    rw [List.length_map, List.length_range]
  refine List.ext_getElem? fun r => ?_
  by_cases hr : r < d.rooms
  · unfold nightRow
    rw [List.getElem?_map, List.getElem?_range hr]
    show _ = some _
    cases e : d.lodged.find? fun (x : Nat × (Stay × Nat)) => x.2.2 == r && covers x.2.1 n with
    | some x =>
      have hx := List.mem_of_find?_eq_some e
      have hq := List.find?_some e
      rw [Bool.and_eq_true, beq_iff_eq] at hq
      have lt : x.1 < i := by
        have := (List.getElem?_eq_some_iff.mp (lodged_stay hx)).1
        omega
      have a := h.has x hx lt hq.2
      rw [hq.1] at a
      rw [a]
      dsimp only
      rw [e]
    | none =>
      rw [List.find?_eq_none] at e
      have e' := e
      rw [← List.find?_eq_none] at e'
      dsimp only
      rw [e']
      refine h.no r hr fun x hx _ cx er => e x hx ?_
      rw [er, cx, beq_self_eq_true]
      rfl
  · rw [List.getElem?_eq_none (by rw [h.len]; omega), List.getElem?_eq_none (by rw [hl]; omega)]
end Rd

-- RdMath12
/-! Settling: the chosen numbers and those offers; the sum of prices. -/
namespace Rd
open Ho
theorem sub_filter : ∀ {O : List (Nat × Stay)} {S : List Nat}, S.Sublist (O.map (·.1)) → (O.map (·.1)).Nodup → (O.filter fun (x : Nat × Stay) => S.contains x.1).map (·.1) = S
  | [], S, h, _ => by
    have e : S = [] := List.sublist_nil.mp h
    rw [e]
    rfl
  | x :: O, S, h, hn => by
    rw [List.map_cons] at h
    (rw [List.map_cons, List.nodup_cons] at hn)
    have ih := fun {S : List Nat} (h : S.Sublist (O.map (·.1))) => sub_filter (O := O) (S := S) h hn.2
    cases h with
    | cons _ h =>
      have nx : ¬ x.1 ∈ S := fun m => hn.1 (h.subset m)
      rw [List.filter_cons_of_neg (by simpa using nx)]
      exact ih h
    | cons_cons _ h =>
      rename_i S'
      rw [List.filter_cons_of_pos (by simp), List.map_cons]
      have e : (O.filter fun (y : Nat × Stay) => (x.1 :: S').contains y.1) = O.filter fun (y : Nat × Stay) => S'.contains y.1 := by
        refine List.filter_congr fun y hy => ?_
        have ne : y.1 ≠ x.1 := fun e => hn.1 (by rw [← e]; exact List.mem_map_of_mem hy)
        rw [List.contains_cons, beq_eq_false_iff_ne.mpr ne, Bool.false_or]
      rw [e, ih h]
/-- the offers that are settled -/
def sett (d : Desk) : List (Nat × Stay) := (there d.offers).filter fun (x : Nat × Stay) => d.chosen.2.contains x.1
theorem sett_nums (d : Desk) : (sett d).map (·.1) = d.chosen.2 := sub_filter (most_sub (there d.offers) d.caps) there_nodup
theorem sett_len (d : Desk) : (sett d).length = d.chosen.2.length := by
  rw [← sett_nums d, List.length_map]
theorem sett_get {d : Desk} {i k : Nat} (h : d.chosen.2[i]? = some k) : ∃ s, (sett d)[i]? = some (k, s) ∧ d.offers[k]? = some (some s) := by
  rw [← sett_nums d, List.getElem?_map] at h
  cases e : (sett d)[i]? with
  | none =>
    rw [e] at h
    cases h
  | some x =>
    rw [e] at h
    have ek : x.1 = k := Option.some.inj h
    have m : x ∈ there d.offers := (List.mem_filter.mp (List.mem_of_getElem? e)).1
    refine ⟨x.2, by rw [← ek], ?_⟩
    rw [← ek]
    exact mem_there.mp m
theorem step_settle (d : Desk) : stepOn d .settle = if STAYS < d.stays.length + (sett d).length then (d, says (-9)) else ({ d with stays := d.stays ++ (sett d).map (fun (x : Nat × Stay) => some x.2), offers := [] }, says ((sett d).length : Nat)) := rfl
theorem sum_foldl : ∀ (l : List Nat) (a : Nat), l.foldl (fun (a b : Nat) => a + b) a = a + l.sum
  | [], a => by simp
  | x :: l, a => by
    rw [List.foldl_cons, sum_foldl l, List.sum_cons]
    omega
theorem sum_zs : ∀ l : List Nat, (zs l).sum = (Ho.sum l : Nat) := by
  have h : ∀ l : List Nat, (zs l).sum = ((l.sum : Nat) : Int) := by
    intro l
    induction l with
    | nil => rfl
    | cons a l ih =>
      show ((a : Int) :: zs l).sum = _
      rw [List.sum_cons, List.sum_cons, ih]
      omega
  intro l
  rw [h]
  unfold Ho.sum
  rw [sum_foldl]
  omega
end Rd

set_option maxHeartbeats 5000000
-- RdBase
/-! What all defs of the program share: the text by places, data, heaps. -/
namespace Rk
open PySem PySem.Spec PyProof.Rows L2
open Ho (Stay)

def top (i : Nat) : Stmt := PySem.Challenge.pw_roomdesk_s01_answers.main.body.getD i (.Pass ⟨0, 0, 0, 0⟩)

/-! ### a def of the text, as a caller wants it -/
structure FnAt (K : PySem.W.Frag) (mg : Str → Option Value) (x : Str) (st : Stmt) (ps : List Str) (f : Addr) (fd : FuncData) : Prop where
  F : Fun K x x st f fd
  b : Binds K fd ps []
  m : mg x = some (.ref f)
/-- a class of the text whose __init__ is ini -/
structure ClAt (K : PySem.W.Frag) (mg : Str → Option Value) (x q : Str) (ini : Stmt) (fs ps : List Str) (C f : Addr) (fd : FuncData) : Prop where
  cl : Cls K C
  no : ∀ n, n ∈ fs → NoAttr K C n
  m : mg x = some (.ref C)
  mkd : Mk K C f
  F : Fun K "__init__" q ini f fd
  b : Binds K fd ps []

/-! ### several things that are there, several that hold, each in one -/
inductive X1 {a : Type} (p : a → Prop) : Prop
  | mk (x : a) (h : p x) : X1 p
inductive X2 {a b : Type} (p : a → b → Prop) : Prop
  | mk (x : a) (y : b) (h : p x y) : X2 p
inductive X3 {a b c : Type} (p : a → b → c → Prop) : Prop
  | mk (x : a) (y : b) (z : c) (h : p x y z) : X3 p
inductive X4 {a b c d : Type} (p : a → b → c → d → Prop) : Prop
  | mk (x : a) (y : b) (z : c) (u : d) (h : p x y z u) : X4 p
inductive A3 (a b c : Prop) : Prop
  | mk (x : a) (y : b) (z : c) : A3 a b c
inductive A4 (a b c d : Prop) : Prop
  | mk (x : a) (y : b) (z : c) (u : d) : A4 a b c d
/-! ### tests -/
theorem iteP {c A B : Prop} [Decidable c] (h : c) (a : A) : if c then A else B := by
  rw [if_pos h]
  exact a
theorem iteN {c A B : Prop} [Decidable c] (h : ¬ c) (b : B) : if c then A else B := by
  rw [if_neg h]
  exact b

/-! ### heaps -/
theorem same_upd {H : Hp} {p : Addr} {o : HO} (h : H p = none) : Same H (upd H p o) := fun b u e => by
  rw [upd_ne (ne_of_none e h)]
  exact e
theorem Same.upd1 {H H' : Hp} {p : Addr} {o : HO} (s : Same H H') (h : H' p = none) : Same H (upd H' p o) := s.trans (same_upd h)

theorem upd_none {H : Hp} {a q : Addr} {o : HO} (h : upd H a o q = none) : H q = none ∧ q ≠ a := by
  by_cases e : q = a
  · rw [e, upd_same] at h
    cases h
  · rw [upd_ne e] at h
    exact ⟨h, e⟩

/-! ### lists beside lists -/
/-- the values vs stand for the things l, one by one -/
structure Al {α : Type} (R : V → α → Prop) (vs : List V) (l : List α) : Prop where
  len : vs.length = l.length
  at_ : ∀ (i : Nat) (v : V) (x : α), vs[i]? = some v → l[i]? = some x → R v x
namespace Al
variable {α : Type} {R S : V → α → Prop} {vs us : List V} {l m : List α}
theorem nil : Al R [] ([] : List α) := ⟨rfl, fun i v x h => by simp at h⟩
theorem mono (h : Al R vs l) (f : ∀ v x, R v x → S v x) : Al S vs l := ⟨h.len, fun i v x a b => f v x (h.at_ i v x a b)⟩
theorem get (h : Al R vs l) {i : Nat} {x : α} (e : l[i]? = some x) : ∃ v, vs[i]? = some v ∧ R v x := by
  have hi : i < vs.length := by
    rw [h.len]
    exact (List.getElem?_eq_some_iff.mp e).1
  exact ⟨vs[i], List.getElem?_eq_getElem hi, h.at_ i _ x (List.getElem?_eq_getElem hi) e⟩
theorem getV (h : Al R vs l) {i : Nat} {v : V} (e : vs[i]? = some v) : ∃ x, l[i]? = some x ∧ R v x := by
  have hi : i < l.length := by
    rw [← h.len]
    exact (List.getElem?_eq_some_iff.mp e).1
  exact ⟨l[i], List.getElem?_eq_getElem hi, h.at_ i v _ e (List.getElem?_eq_getElem hi)⟩
theorem append (h : Al R vs l) (k : Al R us m) : Al R (vs ++ us) (l ++ m) := by
  refine ⟨by rw [List.length_append, List.length_append, h.len, k.len], fun i v x a b => ?_⟩
  by_cases hi : i < vs.length
  · rw [List.getElem?_append_left hi] at a
    rw [List.getElem?_append_left (by rw [← h.len]; exact hi)] at b
    exact h.at_ i v x a b
  · rw [List.getElem?_append_right (by omega)] at a
    rw [List.getElem?_append_right (by rw [← h.len]; omega), ← h.len] at b
    exact k.at_ _ v x a b
theorem one {v : V} {x : α} (r : R v x) : Al R [v] [x] := ⟨rfl, fun i u y a b => by
  cases i with
  | zero =>
    simp at a b
    subst a b
    exact r
  | succ n => simp at a⟩
theorem snoc {v : V} {x : α} (h : Al R vs l) (r : R v x) : Al R (vs ++ [v]) (l ++ [x]) := h.append (one r)
theorem set {v : V} {x : α} {k : Nat} (h : Al R vs l) (r : R v x) : Al R (vs.set k v) (l.set k x) := by
  refine ⟨by rw [List.length_set, List.length_set, h.len], fun i u y a b => ?_⟩
  rw [List.getElem?_set] at a b
  by_cases e : k = i
  · subst e
    by_cases hk : k < vs.length
    · rw [if_pos rfl, if_pos hk] at a
      rw [if_pos rfl, if_pos (by rw [← h.len]; exact hk)] at b
      cases a
      cases b
      exact r
    · rw [if_pos rfl, if_neg hk] at a
      cases a
  · rw [if_neg e] at a b
    exact h.at_ i u y a b
theorem take (h : Al R vs l) (n : Nat) : Al R (vs.take n) (l.take n) := by
  refine ⟨by rw [List.length_take, List.length_take, h.len], fun i v x a b => ?_⟩
  rw [List.getElem?_take] at a b
  by_cases e : i < n
  · rw [if_pos e] at a b
    exact h.at_ i v x a b
  · rw [if_neg e] at a
    cases a
theorem drop (h : Al R vs l) (n : Nat) : Al R (vs.drop n) (l.drop n) := by
  refine ⟨by rw [List.length_drop, List.length_drop, h.len], fun i v x a b => ?_⟩
  rw [List.getElem?_drop] at a b
  exact h.at_ _ v x a b
end Al

/-! ### ints -/
abbrev iv (l : List Int) : List V := l.map V.int
abbrev nv (l : List Nat) : List V := iv (Rd.zs l)
theorem iv_len (l : List Int) : (iv l).length = l.length := List.length_map _
theorem nv_len (l : List Nat) : (nv l).length = l.length := by
  show ((l.map _).map _).length = _
  rw [List.length_map, List.length_map]
theorem iv_get {l : List Int} {i : Nat} {v : V} (h : (iv l)[i]? = some v) : ∃ z, l[i]? = some z ∧ v = .int z := by
  rw [List.getElem?_map] at h
  cases e : l[i]? with
  | none =>
    rw [e] at h
    cases h
  | some z =>
    rw [e] at h
    exact ⟨z, rfl, (Option.some.inj h).symm⟩
theorem cut_iv (l : List Int) (a b : Nat) (h1 : a ≤ b) (h2 : b ≤ l.length) : cutV (iv l) (some (a : Int)) (some (b : Int)) = iv ((l.take b).drop a) := by
  unfold cutV
  rw [HT.sIx_nat, HT.sIx_nat, iv_len, Nat.min_eq_left h2, Nat.min_eq_left (Nat.le_trans h1 h2)]
  rw [List.drop_take]
  show ((l.map V.int).drop a).take (b - a) = ((l.drop a).take (b - a)).map V.int
  (rw [List.map_take, List.map_drop])
theorem cut_to (l : List Int) (b : Nat) (h2 : b ≤ l.length) : cutV (iv l) none (some (b : Int)) = iv (l.take b) := by
  unfold cutV
  rw [HT.sIx_nat, HT.sIx_none, iv_len, Nat.min_eq_left h2]
  show ((l.map V.int).drop 0).take (b - 0) = (l.take b).map V.int
  rw [List.drop_zero, Nat.sub_zero, List.map_take]
theorem cut_from (l : List Int) (a : Nat) (h2 : a ≤ l.length) : cutV (iv l) (some (a : Int)) none = iv (l.drop a) := by
  unfold cutV
  rw [HT.sIx_nat, HT.sIx_none, iv_len, Nat.min_eq_left h2]
  show ((l.map V.int).drop a).take (l.length - a) = (l.drop a).map V.int
  rw [List.map_drop, List.take_of_length_le]
  rw [List.length_drop, List.length_map]
  exact Nat.le_refl _
theorem sz {n : Nat} (h : n ≤ 1000000) : n ≤ sizeLine := Nat.le_trans h (by decide)
theorem szl {n : Nat} (h : n < 1000000) : n < sizeLine := Nat.lt_of_lt_of_le h (by decide)

/-! ### a Stay; none or a Stay -/
def stF (a b c : V) : List (Str × V) := putF "price" c (putF "end" b (putF "start" a []))
theorem stF_start (a b c : V) : (stF a b c).lookup ("start" : Str) = some a := by
  unfold stF
  rw [lookup_putF, if_neg (by decide +kernel), lookup_putF, if_neg (by decide +kernel), lookup_putF, if_pos rfl]
theorem stF_end (a b c : V) : (stF a b c).lookup ("end" : Str) = some b := by
  unfold stF
  rw [lookup_putF, if_neg (by decide +kernel), lookup_putF, if_pos rfl]
theorem stF_price (a b c : V) : (stF a b c).lookup ("price" : Str) = some c := by
  unfold stF
  rw [lookup_putF, if_pos rfl]
/-- a Stay of these nights and this price stands at a -/
def StAt (C : Addr) (H : Hp) (a : Addr) (s : Stay) : Prop := ∃ dx, H a = some (.ins C dx (stF (.int s.from_) (.int s.to_) (.int s.price)))
theorem StAt.same {C : Addr} {H H' : Hp} {a : Addr} {s : Stay} (h : StAt C H a s) (k : Same H H') : StAt C H' a s := let ⟨dx, e⟩ := h; ⟨dx, k _ _ e⟩
def OpAt (C : Addr) (H : Hp) (v : V) : Option Stay → Prop
  | none => v = .non
  | some s => ∃ a, v = .ref a ∧ StAt C H a s
theorem OpAt.same {C : Addr} {H H' : Hp} {v : V} {o : Option Stay} (h : OpAt C H v o) (k : Same H H') : OpAt C H' v o := by
  cases o with
  | none => exact h
  | some s =>
    obtain ⟨a, e, q⟩ := h
    exact ⟨a, e, q.same k⟩
/-- the list at p holds them -/
inductive LsAt (C : Addr) (H : Hp) (p : Addr) (l : List (Option Stay)) : Prop
  | mk (vs : List V) (e : H p = some (.lst vs)) (q : Al (OpAt C H) vs l) : LsAt C H p l
theorem LsAt.same {C : Addr} {H H' : Hp} {p : Addr} {l : List (Option Stay)} (h : LsAt C H p l) (k : Same H H') : LsAt C H' p l := by
  obtain ⟨vs, e, q⟩ := h
  exact ⟨vs, k _ _ e, q.mono fun v o r => r.same k⟩

/-! ### enumerate, as one uses it -/
theorem for_enum {K : PySem.W.Frag} {a : Addr} {xs : List V} {g : TG} {tb : TS} {D : Ends} {σ : L2.St} {H : Hp} (Pv : Nat → L2.St → Hp → Prop) (h0 : Pv 0 σ H) (hl : ∀ i σ H, i ≤ xs.length → Pv i σ H → SqL K H a xs)
    (hs : ∀ i x σ H T, xs[i]? = some x → Pv i σ H → H T = none → g (.ref T) σ (upd H T (.tup [.int (i : Nat), x])) fun σ2 H2 => tb { D with nx := Pv (i + 1), ct := Pv (i + 1), bk := D.nx } σ2 H2) (hd : ∀ σ H, Pv xs.length σ H → D.nx σ H) :
    ∃ W : Nat → Nat → L2.St → Hp → Prop, (∃ m, W 0 m σ H) ∧ ∀ i m σ H, W i m σ H →
      ((Ite K a).stop i H ∧ D.nx σ H) ∨ ((Ite K a).go i H ∧ ∃ N : L2.St → Hp → Prop, (∀ σ' H', N σ' H' → ∃ m', m' < m ∧ W (i + 1) m' σ' H') ∧ ∀ x H', (Ite K a).yld i H x H' → g x σ H' fun σ2 H2 => tb { D with nx := N, ct := N, bk := D.nx } σ2 H2) := by
  refine ⟨fun i m σ H => m = xs.length - i ∧ i ≤ xs.length ∧ Pv i σ H, ⟨xs.length, by simp, Nat.zero_le _, h0⟩, ?_⟩
  rintro i m σ H ⟨rfl, hi, p⟩
  have q := hl i σ H hi p
  by_cases hlt : i < xs.length
  · refine .inr ⟨⟨xs, xs[i], q, by simp [hlt]⟩, Pv (i + 1), fun σ' H' p' => ⟨xs.length - (i + 1), by omega, rfl, hlt, p'⟩, fun x H' y => ?_⟩
    obtain ⟨T, x', rfl, hT, rfl, y⟩ := y
    exact hs i x' σ _ T (y xs q) p hT
  · have e : i = xs.length := by omega
    subst e
    exact .inl ⟨⟨xs, q, Nat.le_refl _⟩, hd σ H p⟩
/-! ### what speaks of K, K named -/
theorem pg_tupK {X : Cx} {K : PySem.W.Frag} {es : List Expr} {k : Nat} {t : TGs} {n : Nat} {pos : Pos} (hK : X.K = K) (hc : X.calm = true) (h : PGs X es t)
    (hn : (assignEach es X.env).length = n := by rfl) (hst : (assignEach es X.env).findIdx? (·.1) = none := by rfl) : PG X (.Tuple es k pos) (gTup K n t) := by
  subst hK
  exact pg_tup hc h hn hst
theorem pe_fldK {X : Cx} {K : PySem.W.Frag} {e : Expr} {f : Str} {pos : Pos} {ta : TE} (hK : X.K = K) (he : PE X e ta) (hb : attributeBase e f X.env (eval e X.env) = eval e X.env) : PE X (.Attribute e f pos) (tFld K ta f) := by
  subst hK
  exact pe_fld he hb
theorem ps_fldK {X : Cx} {K : PySem.W.Frag} {o value : Expr} {f : Str} {pos pos' : Pos} {ta tv : TE} (hK : X.K = K) (ha : PE X o ta) (hv : PE X value tv) (hs : swapsWith value (some (.Attribute o f pos')) pos.line X.env = pure false) : PS X (.Assign [.Attribute o f pos'] value pos) (sFld K ta tv f) := by
  subst hK
  exact ps_fld ha hv hs
theorem pi_listK {X : Cx} {K : PySem.W.Frag} {tg l : Expr} {tl : TE} (hK : X.K = K) (hl : PE X l tl) : PI X tg l (iList K tl) := by
  subst hK
  exact pi_list hl
theorem pi_enumK {X : Cx} {K : PySem.W.Frag} {e : Expr} {ta : TA} {p pos tpos : Pos} {elts : List Expr} {kk : Nat} (hK : X.K = K) (hg : Gl X "enumerate") (hm : X.mg "enumerate" = none) (ha : PA X [e] ta) (hs : starEach [e] X.env = [(false, eval e X.env)] := by rfl) :
    PI X (.Tuple elts kk tpos) (.Call (.Name "enumerate" p) [e] [] pos) (iEnum K ta) := by
  subst hK
  exact pi_enum hg hm ha hs
theorem pe_bmK {X : Cx} {K : PySem.W.Frag} {o e : Expr} {es : List Expr} {to : TE} {t : TA} {name : Str} {apos cpos : Pos} {T id : String} {r : V → List V → Hp → VK → Prop} (hK : X.K = K) (pa : PlainAttrs T) (slot : Slot T name id) (hty : typeOf (.builtin id) = pure (.type "method_descriptor")) (hm : MtR X id r) (ho : PE X o to) (ha : PA X (e :: es) t)
    (hbase : attributeBase o name X.env (eval o X.env) = eval o X.env := by rfl)
    (hfew : ((backTo cpos (starEach (e :: es) X.env)).all (fun x => !x.1) && (backToKw cpos (keywordEach [] X.env)).all (fun x => x.1.isSome)
      && decide ((e :: es).length + ([] : List Keyword).length + (if ([] : List Keyword).isEmpty then 0 else 1) < 30)) = true := by rfl)
    (hline : (apos.endLine == cpos.line) = true := by rfl) (hs : starEach (e :: es) X.env = (false, eval e X.env) :: starEach es X.env := by rfl) (hplain : (backTo cpos (starEach es X.env)).any (·.1) = false := by rfl) :
    PE X (.Call (.Attribute o name apos) (e :: es) [] cpos) (tBM K T r to t) := by
  subst hK
  exact pe_bm pa slot hty hm ho ha hbase hfew hline hs hplain
def rLenK (K : PySem.W.Frag) : List V → Hp → VK → Prop := fun xs H Q => ∃ p ys, xs = [V.ref p] ∧ (SqL K H p ys ∨ SqT K H p ys) ∧ Q (.int ys.length) H
theorem call_lenK {X : Cx} {K : PySem.W.Frag} (hK : X.K = K) : CallR X (.builtin "len") (rLenK K) := by
  subst hK
  exact call_len_seq

/-! ### the steps of a walk, each in one -/
theorem wVar {i : Nat} {σ : L2.St} {H : Hp} {Q : VK} {v : V} (h : σ[i]? = some (some v)) (k : Q v H) : tVar i σ H Q := ⟨v, h, k⟩
theorem wFld {K : PySem.W.Frag} {i : Nat} {f : Str} {σ : L2.St} {H : Hp} {Q : VK} {a C dx : Addr} {fs : List (Str × V)} {v : V} (h : σ[i]? = some (some (.ref a))) (ha : H a = some (.ins C dx fs)) (c : Cls K C) (n : NoAttr K C f) (l : fs.lookup f = some v) (k : Q v H) : tFld K (tVar i) f σ H Q := ⟨_, h, a, C, dx, fs, v, rfl, ha, c, n, l, k⟩
theorem wRix {K : PySem.W.Frag} {H : Hp} {Q : VK} {p : Addr} {xs : List V} {i : Int} {v : V} (h : SqL K H p xs) (e : atI xs i = some v) (k : Q v H) : rIxL K (.ref p) (.int i) H Q := ⟨p, xs, i, v, rfl, rfl, h, e, k⟩
theorem wRixT {K : PySem.W.Frag} {H : Hp} {Q : VK} {p : Addr} {xs : List V} {i : Int} {v : V} (h : SqT K H p xs) (e : atI xs i = some v) (k : Q v H) : rIxT K (.ref p) (.int i) H Q := ⟨p, xs, i, v, rfl, rfl, h, e, k⟩
theorem wIx {K : PySem.W.Frag} {i j : Nat} {σ : L2.St} {H : Hp} {Q : VK} {p : Addr} {xs : List V} {z : Int} {v : V} (h1 : σ[i]? = some (some (.ref p))) (h2 : σ[j]? = some (some (.int z))) (h : SqL K H p xs) (e : atI xs z = some v) (k : Q v H) : tOp (rIxL K) (tVar i) (tVar j) σ H Q := ⟨_, h1, _, h2, p, xs, z, v, rfl, rfl, h, e, k⟩
theorem wIxC {K : PySem.W.Frag} {i : Nat} {σ : L2.St} {H : Hp} {Q : VK} {p : Addr} {xs : List V} {z : Int} {v : V} (h1 : σ[i]? = some (some (.ref p))) (h : SqL K H p xs) (e : atI xs z = some v) (k : Q v H) : tOp (rIxL K) (tVar i) (tC (.int z)) σ H Q := ⟨_, h1, p, xs, z, v, rfl, rfl, h, e, k⟩
theorem wOp {g : Int → Int → V} {H : Hp} {Q : VK} {i j : Int} (k : Q (g i j) H) : rI0 g (.int i) (.int j) H Q := ⟨i, j, rfl, rfl, k⟩
end Rk

-- RdStays
namespace Rk
open PySem PySem.Spec PyProof.Rows L2
open Ho (Stay)
abbrev sStay : Stmt := inClass (top 1) 0
abbrev sWith : Stmt := top 2
abbrev sFree : Stmt := top 3
abbrev sFits : Stmt := top 4
abbrev sFull : Stmt := top 5
abbrev sRow : Stmt := top 6
abbrev sFrow : Stmt := top 7

/-! ### Stay.__init__ -/
inductive PStay (C : Addr) (vs : List V) (H : Hp) (Q : VK) : Prop
 | mk (p dx : Addr) (a b c : V) (h0 : vs = [.ref p, a, b, c]) (h1 : H p = some (.ins C dx [])) (h2 : ∀ H' : Hp, H' p = some (.ins C dx (stF a b c)) → (∀ b o, H b = some o → b ≠ p → H' b = some o) → Q .non H') : PStay C vs H Q
def spStay (C : Addr) : Sp := fun vs H Q _ => PStay C vs H Q
section
variable {P : Program} {w : World} {K : PySem.W.Frag} {mg : Str → Option Value} {base : Heap}
theorem scStay : FnScope ["self", "start", "end", "price"] ["self", "start", "end", "price"] (defScope sStay) := ⟨rfl, rfl, rfl, by decide +kernel, rfl, by decide +kernel, by decide +kernel⟩
abbrev StayCl (K : PySem.W.Frag) (mg : Str → Option Value) (C f : Addr) (fd : FuncData) : Prop := ClAt K mg "Stay" "Stay.__init__" sStay ["start", "end", "price"] ["self", "start", "end", "price"] C f fd
theorem ok_stay {f C : Addr} {fd : FuncData} (T : StayCl K mg C f fd) : FnOk P w K mg base CX0 1 f fd ["self", "start", "end", "price"] (spStay C) := by
  refine T.F.ok scStay (fun vs H Q E h => ?_) (fun cdv A outer s H vs Q E hr h => ?_)
  · obtain ⟨p, dx, a, b, c, rfl, _⟩ := h
    rfl
  · obtain ⟨p, dx, a, b, c, rfl, hp, k⟩ := h
    have n1 := T.no "start" (by decide +kernel)
    have n2 := T.no "end" (by decide +kernel)
    have n3 := T.no "price" (by decide +kernel)
    refine ⟨_, pss_cons (ps_fldK (K := K) rfl (pv 0) (pv 1) rfl) (pss_cons (ps_fldK (K := K) rfl (pv 0) (pv 2) rfl) (pss_one (ps_fldK (K := K) rfl (pv 0) (pv 3) rfl))), ?_⟩
    refine wVar rfl (wVar rfl ⟨p, C, dx, _, rfl, hp, T.cl, n1, (by show 0 < 1000; decide), ?_⟩)
    refine ⟨_, rfl, _, rfl, p, C, dx, _, rfl, upd_same, T.cl, n2, (by show 1 < 1000; decide), ?_⟩
    refine ⟨_, rfl, _, rfl, p, C, dx, _, rfl, upd_same, T.cl, n3, (by show 2 < 1000; decide), ?_⟩
    refine k _ upd_same fun b o e hb => ?_
    rw [upd_ne hb, upd_ne hb, upd_ne hb]
    exact e

/-! ### with_stay -/
inductive PWith (C : Addr) (vs : List V) (H : Hp) (Q : VK) : Prop
 | mk (f a : Addr) (l : List Int) (s : Stay) (h0 : vs = [.ref f, .ref a]) (h1 : H f = some (.lst (iv l))) (h2 : StAt C H a s) (h3 : s.from_ ≤ s.to_) (h4 : s.to_ ≤ l.length) (h5 : l.length ≤ 1000) (h6 : ∀ (H' : Hp) (p : Addr), Same H H' → H p = none → H' p = some (.lst (iv (Rd.wst l s.from_ s.to_))) → Q (.ref p) H') : PWith C vs H Q
def spWith (C : Addr) : Sp := fun vs H Q _ => PWith C vs H Q
theorem scWith : FnScope ["free", "stay", "fewer", "rooms"] ["free", "stay"] (defScope sWith) := ⟨rfl, rfl, rfl, by decide +kernel, rfl, by decide +kernel, by decide +kernel⟩
theorem blkWith : BlkOk ["free", "stay", "fewer", "rooms"] (defScope sWith) { kind := .function, names := [(".0", .local), ("rooms", .local)], isGenerator := false, isCoroutine := false } [("rooms", 3)] :=
  ⟨rfl, by decide +kernel, by decide +kernel, by decide +kernel, by decide +kernel⟩
theorem ok_with {f C fS : Addr} {fd fdS : FuncData} (F : Fun K "with_stay" "with_stay" sWith f fd) (T : StayCl K mg C fS fdS) : FnOk P w K mg base CX0 1 f fd ["free", "stay"] (spWith C) := by
  refine F.ok scWith (fun vs H Q E h => ?_) (fun cdv A outer s H vs Q E hr h => ?_)
  · obtain ⟨p, a, l, s, rfl, _⟩ := h
    rfl
  · obtain ⟨p, a, l, st, rfl, hf, ⟨dx, ha⟩, h1, h2, h3, k⟩ := h
    have n1 := T.no "start" (by decide +kernel)
    have n2 := T.no "end" (by decide +kernel)
    refine ⟨_, pss_cons (ps_setLc (i := 2) (own := [("rooms", 3)]) rfl scWith.nd rfl rfl (sw_true rfl rfl rfl rfl) (pi_listK (K := K) rfl (pe_slice (r := rSlL K) sl_list (pv 0) (po_some (pe_fldK (K := K) rfl (pv 1) rfl)) (po_some (pe_fldK (K := K) rfl (pv 1) rfl)))) blkWith
        (fun _ _ _ _ _ => pg_name (i := 3) scWith.nd rfl (Or.inl rfl)) (fun _ _ _ _ _ => pts_nil) (fun _ _ _ _ _ => pe_op op_sub (pv 3) pe_int))
      (pss_one (ps_ret (pe_op op_cat (pe_op op_cat (pe_slice (r := rSlL K) sl_list (pv 0) po_none (po_some (pe_fldK (K := K) rfl (pv 1) rfl))) (pv 2)) (pe_slice (r := rSlL K) sl_list (pv 0) (po_some (pe_fldK (K := K) rfl (pv 1) rfl)) po_none)))), ?_⟩
    refine ⟨_, rfl, wFld rfl ha T.cl n1 (stF_start _ _ _) ⟨_, rfl, wFld rfl ha T.cl n2 (stF_end _ _ _) ⟨_, rfl, p, _, rfl, SqL.of hf, fun q hq => ?_⟩⟩⟩
    rw [cut_iv l _ _ h1 h2]
    have s1 : Same H (upd H q (.lst (iv ((l.take st.to_).drop st.from_)))) := same_upd hq
    generalize hH1 : upd H q (.lst (iv ((l.take st.to_).drop st.from_))) = H1 at s1
    have hq1 : H1 q = some (.lst (iv ((l.take st.to_).drop st.from_))) := by rw [← hH1]; exact upd_same
    refine ⟨q, rfl, ⟨_, SqL.of hq1⟩, fun D hD => lc_list (K := K) (a := q) (xs := iv ((l.take st.to_).drop st.from_))
      (fun i H' => Same H1 H' ∧ H' D = some (.lst (iv ((((l.take st.to_).drop st.from_).map (· - 1)).take i)))) ⟨same_upd hD, upd_same⟩ (fun i H' _ h => SqL.of (h.1 _ _ hq1)) ?_ ?_⟩
    · rintro i x H' hx ⟨s2, hD2⟩
      obtain ⟨z, hz, rfl⟩ := iv_get hx
      refine ⟨rfl, ?_⟩
      unfold tYes
      dsimp only
      rw [if_pos rfl]
      refine wVar rfl ⟨_, _, rfl, rfl, _, hD2, ?_, ?_⟩
      · rw [iv_len, List.length_take]
        refine szl (Nat.lt_of_le_of_lt (Nat.min_le_right _ _) ?_)
        rw [List.length_map, List.length_drop, List.length_take]
        omega
      · refine ⟨fun b o e => ?_, ?_⟩
        · rw [upd_ne (ne_of_none e hD)]
          exact s2 b o e
        · rw [upd_same]
          have e1 : (((l.take st.to_).drop st.from_).map (· - 1))[i]? = some (z - 1) := by
            rw [List.getElem?_map, hz]
            rfl
          rw [List.take_add_one, e1]
          show _ = some (HO.lst (List.map V.int (_ ++ [z - 1])))
          rw [List.map_append]
          rfl
    · rintro H2 ⟨s2, hD2⟩
      have e0 : (iv ((l.take st.to_).drop st.from_)).length = (((l.take st.to_).drop st.from_).map (· - 1)).length := by rw [iv_len, List.length_map]
      rw [e0, List.take_length] at hD2
      have s3 : Same H H2 := s1.trans s2
      -- the sum of three
      refine ⟨_, rfl, wFld rfl (s3 _ _ ha) T.cl n1 (stF_start _ _ _) ⟨_, rfl, p, _, rfl, SqL.of (s3 _ _ hf), fun u hu => ?_⟩⟩
      rw [cut_to l _ (by omega)]
      have s4 : Same H2 (upd H2 u (.lst (iv (l.take st.from_)))) := same_upd hu
      have hu4 : (upd H2 u (.lst (iv (l.take st.from_)))) u = some (.lst (iv (l.take st.from_))) := upd_same
      generalize upd H2 u (.lst (iv (l.take st.from_))) = H4 at s4 hu4
      refine wVar rfl ⟨u, D, _, _, rfl, rfl, hu4, s4 _ _ hD2, ?_, fun v hv => ?_⟩
      · rw [iv_len, iv_len, List.length_take, List.length_map, List.length_drop, List.length_take]
        exact sz (by omega)
      rw [← List.map_append]
      have s5 : Same H4 (upd H4 v (.lst (iv (l.take st.from_ ++ ((l.take st.to_).drop st.from_).map (· - 1))))) := same_upd hv
      have hv5 : (upd H4 v (.lst (iv (l.take st.from_ ++ ((l.take st.to_).drop st.from_).map (· - 1))))) v = some (.lst (iv (l.take st.from_ ++ ((l.take st.to_).drop st.from_).map (· - 1)))) := upd_same
      generalize upd H4 v (.lst (iv (l.take st.from_ ++ ((l.take st.to_).drop st.from_).map (· - 1)))) = H5 at s5 hv5
      have s6 : Same H H5 := (s3.trans s4).trans s5
      refine wVar rfl (wFld rfl (s6 _ _ ha) T.cl n2 (stF_end _ _ _) ⟨_, rfl, p, _, rfl, SqL.of (s6 _ _ hf), fun x hx => ?_⟩)
      rw [cut_from l _ h2]
      have s7 : Same H5 (upd H5 x (.lst (iv (l.drop st.to_)))) := same_upd hx
      have hx7 : (upd H5 x (.lst (iv (l.drop st.to_)))) x = some (.lst (iv (l.drop st.to_))) := upd_same
      generalize upd H5 x (.lst (iv (l.drop st.to_))) = H7 at s7 hx7
      refine ⟨v, x, _, _, rfl, rfl, s7 _ _ hv5, hx7, ?_, fun y hy => ?_⟩
      · rw [iv_len, iv_len, List.length_append, List.length_take, List.length_map, List.length_drop, List.length_take, List.length_drop]
        exact sz (by omega)
      rw [← List.map_append]
      exact k _ y ((s6.trans s7).trans (same_upd hy)) ((s6.trans s7).free hy) upd_same

/-! ### free_rooms -/
abbrev fnWith (K : PySem.W.Frag) (mg : Str → Option Value) (f : Addr) (fd : FuncData) : Prop := FnAt K mg "with_stay" sWith ["free", "stay"] f fd
inductive PFree (C : Addr) (vs : List V) (H : Hp) (Q : VK) : Prop
 | mk (r n : Nat) (p : Addr) (l : List (Option Stay)) (h0 : vs = [.int r, .int n, .ref p]) (h1 : LsAt C H p l) (h2 : n ≤ 60) (h3 : (∀ s, some s ∈ l → s.from_ ≤ s.to_ ∧ s.to_ ≤ n)) (h4 : (∀ k, Rd.cnt l k ≤ r)) (h5 : ∀ (H' : Hp) (q : Addr), Same H H' → H' q = some (.lst (nv (Rd.frees r n l))) → Q (.ref q) H') : PFree C vs H Q
def spFree (C : Addr) : Sp := fun vs H Q _ => PFree C vs H Q
theorem scFree : FnScope ["rooms", "nights", "stays", "free", "stay"] ["rooms", "nights", "stays"] (defScope sFree) := ⟨rfl, rfl, rfl, by decide +kernel, rfl, by decide +kernel, by decide +kernel⟩
theorem take_snoc {α : Type} {l : List α} {i : Nat} {x : α} (h : l[i]? = some x) : l.take (i + 1) = l.take i ++ [x] := by
  rw [List.take_add_one, h]
  rfl
theorem cnt_take {l : List (Option Stay)} {i n : Nat} : Rd.cnt (l.take i) n ≤ Rd.cnt l n := by
  have e : Rd.cnt (l.take i ++ l.drop i) n = Rd.cnt l n := by rw [List.take_append_drop]
  rw [Rd.cnt_append] at e
  omega
theorem ok_free {f C fS fW : Addr} {fd fdS fdW : FuncData} (F : Fun K "free_rooms" "free_rooms" sFree f fd) (T : StayCl K mg C fS fdS) (W : fnWith K mg fW fdW) : FnOk P w K mg base CX0 2 f fd ["rooms", "nights", "stays"] (spFree C) := by
  have GW : FnOk P w K mg base CX0 1 fW fdW ["free", "stay"] (spWith C) := ok_with W.F T
  refine F.ok scFree (fun vs H Q E h => ?_) (fun cdv A outer s H vs Q E hr h => ?_)
  · obtain ⟨r, n, p, l, rfl, _⟩ := h
    rfl
  · obtain ⟨r, n, p, l, rfl, ⟨vs, hp, hA⟩, hn, hst, hcn, k⟩ := h
    refine ⟨_, pss_cons (ps_set (i := 3) scFree.nd rfl (Or.inl rfl) (pe_op op_rep (pe_lst (pa_cons (pv 0) pa_nil)) (pv 1)))
      (pss_cons (ps_for PassesOwn.never rfl (pi_listK (K := K) rfl (pv 2)) (pg_name (i := 4) scFree.nd rfl (Or.inl rfl))
        (pss_one (ps_if (pt_cmpR op_notN (pv 4) pe_non (nomark _)) (pss_one (ps_set (i := 3) scFree.nd rfl (Or.inl rfl) (pe_call GW hr rfl W.m W.F.kp W.b .nil pass0 (pa_cons (pv 3) (pa_cons (pv 4) pa_nil))))) pss_nil)))
      (pss_one (ps_ret (pv 3)))), ?_⟩
    refine wVar rfl ⟨(by show 1 ≤ sizeLine; decide), fun q hq => ⟨_, rfl, q, _, _, rfl, rfl, upd_same, by omega, by omega, ?_, fun u hu => ?_⟩⟩
    · show 1 * ((n : Int)).toNat ≤ sizeLine
      exact sz (by omega)
    have e0 : (List.replicate ((n : Nat) : Int).toNat [V.int (r : Int)]).flatten = nv (Rd.frees r n []) := by
      rw [Rd.frees_nil, Int.toNat_natCast, List.flatten_replicate_singleton]
      show _ = ((List.replicate n r).map _).map _
      rw [List.map_replicate, List.map_replicate]
    rw [e0]
    have s1 : Same H (upd (upd H q (.lst [.int r])) u (.lst (nv (Rd.frees r n [])))) := Same.upd1 (same_upd hq) hu
    have hu1 : (upd (upd H q (.lst [.int r])) u (.lst (nv (Rd.frees r n [])))) u = some (.lst (nv (Rd.frees r n []))) := upd_same
    generalize upd (upd H q (.lst [.int r])) u (.lst (nv (Rd.frees r n []))) = H1 at s1 hu1
    refine ⟨_, rfl, p, rfl, ⟨_, SqL.of (s1 _ _ hp)⟩, for_list (K := K) (a := p) (xs := vs) (fun i σ H' => X2 fun (v : Option V) (q : Addr) => A3 (σ = [some (.int r), some (.int n), some (.ref p), some (.ref q), v]) (Same H H') (H' q = some (.lst (nv (Rd.frees r n (l.take i))))))
      ⟨none, u, rfl, s1, hu1⟩ (fun i σ H' _ hh => (by obtain ⟨_, _, _, s2, _⟩ := hh; exact SqL.of (s2 _ _ hp))) ?_ ?_⟩
    · rintro i y σ H' hi ⟨v, q', rfl, s2, hq'⟩
      obtain ⟨o, ho, ro⟩ := hA.getV hi
      have et := take_snoc ho
      cases o with
      | none =>
        have ey : y = .non := ro
        subst ey
        refine ⟨_, rfl, rfl, _, rfl, ?_⟩
        dsimp only
        rw [if_neg (by simp)]
        refine ⟨_, q', rfl, s2, ?_⟩
        rw [et, Rd.frees_none]
        exact hq'
      | some st =>
        obtain ⟨a, rfl, hst'⟩ := ro
        refine ⟨_, rfl, rfl, _, rfl, ?_⟩
        dsimp only
        rw [if_pos (by simp)]
        obtain ⟨b1, b2⟩ := hst st (List.mem_of_getElem? ho)
        have hfit : Ho.fits (Rd.frees r n (l.take i)) st = true := Rd.frees_fits fun k => by
          rw [← et]
          exact Nat.le_trans cnt_take (hcn k)
        refine wVar rfl (wVar rfl ⟨q', a, Rd.zs (Rd.frees r n (l.take i)), st, rfl, hq', hst'.same s2, b1, ?_, ?_, fun H3 q3 s3 _ h3 => ?_⟩)
        · show _ ≤ (List.map _ _).length
          rw [List.length_map, Rd.frees_length]
          exact b2
        · show (List.map _ _).length ≤ 1000
          rw [List.length_map, Rd.frees_length]
          omega
        · rw [Rd.wst_taken b1 (by rw [Rd.frees_length]; exact b2) hfit, ← Rd.frees_some, ← et] at h3
          exact ⟨_, q3, rfl, s2.trans s3, h3⟩
    · rintro σ H' ⟨v, q', rfl, s2, hq'⟩
      rw [hA.len, List.take_length] at hq'
      exact wVar rfl (k H' q' s2 hq')

/-! ### fits -/
inductive PFits (C : Addr) (vs : List V) (H : Hp) (Q : VK) : Prop
 | mk (p a : Addr) (l : List Nat) (s : Stay) (h0 : vs = [.ref p, .ref a]) (h1 : H p = some (.lst (nv l))) (h2 : StAt C H a s) (h3 : s.from_ ≤ s.to_) (h4 : s.to_ ≤ l.length) (h5 : ∀ H' : Hp, Same H H' → Q (.bl (Ho.fits l s)) H') : PFits C vs H Q
def spFits (C : Addr) : Sp := fun vs H Q _ => PFits C vs H Q
theorem scFits : FnScope ["free", "stay"] ["free", "stay"] (defScope sFits) := ⟨rfl, rfl, rfl, by decide +kernel, rfl, by decide +kernel, by decide +kernel⟩
theorem inV_iv (z : Int) : ∀ l : List Int, inV (.int z) (iv l) = decide (z ∈ l)
  | [] => rfl
  | a :: l => by
    show ((eqV (.int a) (.int z)) || inV (.int z) (iv l)) = _
    rw [inV_iv z l]
    have e : eqV (.int a) (.int z) = decide (z = a) := by
      show (a == z) = decide (z = a)
      rw [Bool.beq_eq_decide_eq]
      exact decide_eq_decide.mpr ⟨Eq.symm, Eq.symm⟩
    rw [e, ← Bool.decide_or]
    exact decide_eq_decide.mpr List.mem_cons.symm
theorem flat_iv (l : List Int) : (iv l).all flatV = true := by
  rw [List.all_eq_true]
  intro v hv
  obtain ⟨z, _, rfl⟩ := List.mem_map.mp hv
  rfl
theorem ok_fits {f C fS : Addr} {fd fdS : FuncData} (F : Fun K "fits" "fits" sFits f fd) (T : StayCl K mg C fS fdS) : FnOk P w K mg base CX0 1 f fd ["free", "stay"] (spFits C) := by
  refine F.ok scFits (fun vs H Q E h => ?_) (fun cdv A outer s H vs Q E hr h => ?_)
  · obtain ⟨p, a, l, s, rfl, _⟩ := h
    rfl
  · obtain ⟨p, a, l, st, rfl, hp, ⟨dx, ha⟩, h1, h2, k⟩ := h
    have n1 := T.no "start" (by decide +kernel)
    have n2 := T.no "end" (by decide +kernel)
    have hl : (Rd.zs l).length = l.length := List.length_map _
    refine ⟨_, pss_one (ps_ret (pe_cmpR (r := rIn K true) op_notIn_seq pe_int (pe_slice (r := rSlL K) sl_list (pv 0) (po_some (pe_fldK (K := K) rfl (pv 1) rfl)) (po_some (pe_fldK (K := K) rfl (pv 1) rfl))) rfl)), ?_⟩
    refine wVar rfl (wFld rfl ha T.cl n1 (stF_start _ _ _) ⟨_, rfl, wFld rfl ha T.cl n2 (stF_end _ _ _) ⟨_, rfl, p, _, rfl, SqL.of hp, fun q hq => ?_⟩⟩)
    rw [cut_iv _ _ _ h1 (by rw [hl]; exact h2)]
    refine ⟨q, _, rfl, .inl (SqL.of upd_same), rfl, flat_iv _, ?_⟩
    have e : (!inV (.int 0) (iv (((Rd.zs l).take st.to_).drop st.from_))) = Ho.fits l st := by
      rw [inV_iv]
      have z := Rd.fits_zs (caps := l) (s := st) h2
      cases q : Ho.fits l st with
      | true =>
        rw [decide_eq_false (z.mpr q)]
        rfl
      | false =>
        have m : (0 : Int) ∈ ((Rd.zs l).take st.to_).drop st.from_ := Classical.byContradiction fun n => by
          rw [z.mp n] at q
          cases q
        rw [decide_eq_true m]
        rfl
    show Q (.bl (if true = true then !inV (.int 0) (iv (((Rd.zs l).take st.to_).drop st.from_)) else _)) _
    rw [if_pos rfl, e]
    exact k _ (same_upd hq)
end
end Rk

-- RdChoice
namespace Rk
open PySem PySem.Spec PyProof.Rows L2
open Ho (Stay)
open Rd (Cho)
abbrev sCho : Stmt := inClass (top 9) 0
abbrev sWide : Stmt := top 10
abbrev sWwo : Stmt := top 11
abbrev sAll : Stmt := top 12
abbrev sBest : Stmt := top 13

/-! ### the heap without one thing -/
def hid (H : Hp) (q : Addr) : Hp := fun b => if b = q then none else H b
theorem hid_upd {H : Hp} {q : Addr} {o : HO} : hid (upd H q o) q = hid H q := by
  funext b
  unfold hid
  by_cases e : b = q
  · rw [if_pos e, if_pos e]
  · rw [if_neg e, if_neg e, upd_ne e]
theorem hid_at {H : Hp} {q b : Addr} (h : b ≠ q) : hid H q b = H b := by
  unfold hid
  rw [if_neg h]
theorem hid_same {H : Hp} {q : Addr} : Same (hid H q) H := fun b o e => by
  unfold hid at e
  by_cases h : b = q
  · rw [if_pos h] at e
    cases e
  · rw [if_neg h] at e
    exact e
theorem Same.hid {H H' : Hp} {q : Addr} (s : Same H H') : Same (hid H q) (hid H' q) := fun b o e => by
  have h : b ≠ q := fun z => by
    unfold Rk.hid at e
    rw [if_pos z] at e
    cases e
  rw [hid_at h] at e ⊢
  exact s b o e
theorem Same.hidN {H H' : Hp} {q : Addr} (s : Same H H') (hq : H q = none) : Same H (Rk.hid H' q) := fun b o e => by
  rw [hid_at (ne_of_none e hq)]
  exact s b o e

/-! ### a Choice -/
def chF (a b c : V) : List (Str × V) := putF "free" c (putF "earned" b (putF "numbers" a []))
theorem chF_numbers (a b c : V) : (chF a b c).lookup ("numbers" : Str) = some a := by
  unfold chF
  rw [lookup_putF, if_neg (by decide +kernel), lookup_putF, if_neg (by decide +kernel), lookup_putF, if_pos rfl]
theorem chF_earned (a b c : V) : (chF a b c).lookup ("earned" : Str) = some b := by
  unfold chF
  rw [lookup_putF, if_neg (by decide +kernel), lookup_putF, if_pos rfl]
theorem chF_free (a b c : V) : (chF a b c).lookup ("free" : Str) = some c := by
  unfold chF
  rw [lookup_putF, if_pos rfl]
structure ChAt (C : Addr) (H : Hp) (x : Addr) (c : Cho) (dx pn pf : Addr) : Prop where
  ins : H x = some (.ins C dx (chF (.ref pn) (.int c.earned) (.ref pf)))
  num : H pn = some (.lst (nv c.numbers))
  fre : H pf = some (.lst (nv c.free))
theorem ChAt.same {C : Addr} {H H' : Hp} {x dx pn pf : Addr} {c : Cho} (h : ChAt C H x c dx pn pf) (k : Same H H') : ChAt C H' x c dx pn pf := ⟨k _ _ h.ins, k _ _ h.num, k _ _ h.fre⟩
inductive CrAt (C : Addr) (H : Hp) (v : V) (c : Cho) : Prop
  | mk (x dx pn pf : Addr) (e : v = .ref x) (h : ChAt C H x c dx pn pf) : CrAt C H v c
theorem CrAt.same {C : Addr} {H H' : Hp} {v : V} {c : Cho} (h : CrAt C H v c) (k : Same H H') : CrAt C H' v c := by
  obtain ⟨x, dx, pn, pf, e, q⟩ := h
  exact ⟨x, dx, pn, pf, e, q.same k⟩

/-! ### Choice.__init__ -/
inductive PCho (C : Addr) (vs : List V) (H : Hp) (Q : VK) : Prop
 | mk (p dx : Addr) (a b c : V) (h0 : vs = [.ref p, a, b, c]) (h1 : H p = some (.ins C dx [])) (h2 : ∀ H' : Hp, H' p = some (.ins C dx (chF a b c)) → (∀ b o, H b = some o → b ≠ p → H' b = some o) → Q .non H') : PCho C vs H Q
def spCho (C : Addr) : Sp := fun vs H Q _ => PCho C vs H Q
section
variable {P : Program} {w : World} {K : PySem.W.Frag} {mg : Str → Option Value} {base : Heap}
theorem scCho : FnScope ["self", "numbers", "earned", "free"] ["self", "numbers", "earned", "free"] (defScope sCho) := ⟨rfl, rfl, rfl, by decide +kernel, rfl, by decide +kernel, by decide +kernel⟩
abbrev ChoCl (K : PySem.W.Frag) (mg : Str → Option Value) (C f : Addr) (fd : FuncData) : Prop := ClAt K mg "Choice" "Choice.__init__" sCho ["numbers", "earned", "free"] ["self", "numbers", "earned", "free"] C f fd
theorem ok_cho {f C : Addr} {fd : FuncData} (T : ChoCl K mg C f fd) : FnOk P w K mg base CX0 1 f fd ["self", "numbers", "earned", "free"] (spCho C) := by
  refine T.F.ok scCho (fun vs H Q E h => ?_) (fun cdv A outer s H vs Q E hr h => ?_)
  · obtain ⟨p, dx, a, b, c, rfl, _⟩ := h
    rfl
  · obtain ⟨p, dx, a, b, c, rfl, hp, k⟩ := h
    have n1 := T.no "numbers" (by decide +kernel)
    have n2 := T.no "earned" (by decide +kernel)
    have n3 := T.no "free" (by decide +kernel)
    refine ⟨_, pss_cons (ps_fldK (K := K) rfl (pv 0) (pv 1) rfl) (pss_cons (ps_fldK (K := K) rfl (pv 0) (pv 2) rfl) (pss_one (ps_fldK (K := K) rfl (pv 0) (pv 3) rfl))), ?_⟩
    refine wVar rfl (wVar rfl ⟨p, C, dx, _, rfl, hp, T.cl, n1, (by show 0 < 1000; decide), ?_⟩)
    refine ⟨_, rfl, _, rfl, p, C, dx, _, rfl, upd_same, T.cl, n2, (by show 1 < 1000; decide), ?_⟩
    refine ⟨_, rfl, _, rfl, p, C, dx, _, rfl, upd_same, T.cl, n3, (by show 2 < 1000; decide), ?_⟩
    refine k _ upd_same fun b o e hb => ?_
    rw [upd_ne hb, upd_ne hb, upd_ne hb]
    exact e

/-! ### widened -/
inductive PWide (CS CC : Addr) (vs : List V) (H : Hp) (Q : VK) : Prop
 | mk (x dx pn pf : Addr) (c : Cho) (k : Nat) (a : Addr) (s : Stay) (h0 : vs = [.ref x, .int k, .ref a]) (h1 : ChAt CC H x c dx pn pf) (h2 : StAt CS H a s) (h3 : Ho.fits c.free s = true) (h4 : s.from_ ≤ s.to_) (h5 : s.to_ ≤ c.free.length) (h6 : c.free.length ≤ 60) (h7 : c.numbers.length ≤ 1000) (h8 : ∀ (H' : Hp) (y dy qn qf : Addr), Same H H' → H y = none → H qn = none → H qf = none → ChAt CC H' y (Rd.wide c (k, s)) dy qn qf → Q (.ref y) H') : PWide CS CC vs H Q
def spWide (CS CC : Addr) : Sp := fun vs H Q _ => PWide CS CC vs H Q
theorem scWide : FnScope ["choice", "number", "offer"] ["choice", "number", "offer"] (defScope sWide) := ⟨rfl, rfl, rfl, by decide +kernel, rfl, by decide +kernel, by decide +kernel⟩
theorem zs_snoc (l : List Nat) (k : Nat) : Rd.zs (l ++ [k]) = Rd.zs l ++ [(k : Int)] := by
  show (l ++ [k]).map _ = l.map _ ++ _
  rw [List.map_append]
  rfl
theorem ok_wide {f CS fS CC fC fW : Addr} {fd fdS fdC fdW : FuncData} (F : Fun K "widened" "widened" sWide f fd) (T : StayCl K mg CS fS fdS) (TC : ChoCl K mg CC fC fdC) (W : fnWith K mg fW fdW) :
    FnOk P w K mg base CX0 3 f fd ["choice", "number", "offer"] (spWide CS CC) := by
  have GW : FnOk P w K mg base CX0 1 fW fdW ["free", "stay"] (spWith CS) := ok_with W.F T
  have GC : FnOk P w K mg base CX0 1 fC fdC ["self", "numbers", "earned", "free"] (spCho CC) := ok_cho TC
  refine F.ok scWide (fun vs H Q E h => ?_) (fun cdv A outer s H vs Q E hr h => ?_)
  · obtain ⟨x, dx, pn, pf, c, k, a, s, rfl, _⟩ := h
    rfl
  · obtain ⟨x, dx, pn, pf, c, n, a, st, rfl, hc, ⟨da, ha⟩, hfit, h1, h2, h3, h4, k⟩ := h
    have m1 := TC.no "numbers" (by decide +kernel)
    have m2 := TC.no "earned" (by decide +kernel)
    have m3 := TC.no "free" (by decide +kernel)
    have n3 := T.no "price" (by decide +kernel)
    have hr1 : Room 1 _ := hr.mono (by decide)
    refine ⟨_, pss_one (ps_ret (pe_make TC.mkd GC hr rfl TC.m TC.b .nil pass0 (pa_cons (pe_op op_cat (pe_fldK (K := K) rfl (pv 0) rfl) (pe_lst (pa_cons (pv 1) pa_nil))) (pa_cons (pe_op op_add (pe_fldK (K := K) rfl (pv 0) rfl) (pe_fldK (K := K) rfl (pv 2) rfl))
      (pa_cons (pe_call GW hr1 rfl W.m W.F.kp W.b .nil pass0 (pa_cons (pe_fldK (K := K) rfl (pv 0) rfl) (pa_cons (pv 2) pa_nil))) pa_nil))))), ?_⟩
    -- choice.numbers + [number]
    refine (wFld rfl hc.ins TC.cl m1 (chF_numbers _ _ _) ⟨_, rfl, (by show 1 ≤ sizeLine; decide), fun q hq => ?_⟩)
    have s1 : Same H (upd H q (.lst [.int n])) := same_upd hq
    refine ⟨pn, q, _, _, rfl, rfl, s1 _ _ hc.num, upd_same, ?_, fun u hu => ?_⟩
    · rw [nv_len]
      exact sz (by show _ + 1 ≤ _; omega)
    have e1 : nv c.numbers ++ [V.int n] = nv (c.numbers ++ [n]) := by
      show _ = iv (Rd.zs (c.numbers ++ [n]))
      rw [zs_snoc]
      show _ = List.map _ _
      rw [List.map_append]
      rfl
    rw [e1]
    have s2 : Same H (upd (upd H q (.lst [.int n])) u (.lst (nv (c.numbers ++ [n])))) := Same.upd1 s1 hu
    have hu2 : (upd (upd H q (.lst [.int n])) u (.lst (nv (c.numbers ++ [n])))) u = some (.lst (nv (c.numbers ++ [n]))) := upd_same
    have nu : H u = none := s1.free hu
    generalize upd (upd H q (.lst [.int n])) u (.lst (nv (c.numbers ++ [n]))) = H2 at s2 hu2
    -- choice.earned + offer.price
    refine (wFld rfl (s2 _ _ hc.ins) TC.cl m2 (chF_earned _ _ _) (wFld rfl (s2 _ _ ha) T.cl n3 (stF_price _ _ _) ⟨_, _, rfl, rfl, ?_⟩))
    -- with_stay(choice.free, offer)
    refine (wFld rfl (s2 _ _ hc.ins) TC.cl m3 (chF_free _ _ _) ⟨_, rfl, pf, a, Rd.zs c.free, st, rfl, s2 _ _ hc.fre, ⟨da, s2 _ _ ha⟩, h1, ?_, ?_, fun H3 p3 s3 n3' h3' => ?_⟩)
    · show _ ≤ (List.map _ _).length
      rw [List.length_map]
      exact h2
    · show (List.map _ _).length ≤ 1000
      rw [List.length_map]
      omega
    rw [Rd.wst_taken h1 h2 hfit] at h3'
    -- Choice(..)
    refine fun y dy ny ndy ney => ⟨y, dy, _, _, _, rfl, upd_same, fun H4 h4' k4 => ⟨rfl, ?_⟩⟩
    have s4 : Same H3 H4 := Same.made ny ndy k4
    refine k H4 y dy u p3 ((s2.trans s3).trans s4) ((s2.trans s3).free ny) nu (s2.free n3') ⟨?_, s4 _ _ (s3 _ _ hu2), s4 _ _ h3'⟩
    rw [h4']
    rfl

/-! ### with_and_without -/
abbrev fnWide (K : PySem.W.Frag) (mg : Str → Option Value) (f : Addr) (fd : FuncData) : Prop := FnAt K mg "widened" sWide ["choice", "number", "offer"] f fd
abbrev fnFits (K : PySem.W.Frag) (mg : Str → Option Value) (f : Addr) (fd : FuncData) : Prop := FnAt K mg "fits" sFits ["free", "stay"] f fd
inductive PWwo (CS CC : Addr) (vs : List V) (H : Hp) (Q : VK) : Prop
 | mk (p : Addr) (us : List V) (cs : List Cho) (k : Nat) (a : Addr) (s : Stay) (h0 : vs = [.ref p, .int k, .ref a]) (h1 : H p = some (.lst us)) (h2 : Al (CrAt CC H) us cs) (h3 : StAt CS H a s) (h4 : s.from_ ≤ s.to_) (h5 : cs.length ≤ 1024) (h6 : (∀ c, c ∈ cs → s.to_ ≤ c.free.length ∧ c.free.length ≤ 60 ∧ c.numbers.length ≤ 1000)) (h7 : ∀ (H' : Hp) (q : Addr) (us' : List V), Same H H' → H' q = some (.lst us') → Al (CrAt CC H') us' (Rd.wwo cs (k, s)) → Q (.ref q) H') : PWwo CS CC vs H Q
def spWwo (CS CC : Addr) : Sp := fun vs H Q _ => PWwo CS CC vs H Q
theorem scWwo : FnScope ["choices", "number", "offer", "both", "choice"] ["choices", "number", "offer"] (defScope sWwo) := ⟨rfl, rfl, rfl, by decide +kernel, rfl, by decide +kernel, by decide +kernel⟩
theorem wwo_snoc (cs : List Cho) (c : Cho) (x : Nat × Stay) : Rd.wwo (cs ++ [c]) x = Rd.wwo cs x ++ Rd.one x c := by
  unfold Rd.wwo
  rw [List.flatMap_append, List.flatMap_cons, List.flatMap_nil, List.append_nil]
theorem one_len (x : Nat × Stay) (c : Cho) : (Rd.one x c).length ≤ 2 := by
  unfold Rd.one
  split
  · exact Nat.le_refl _
  · exact Nat.le_succ _
theorem wwo_len (x : Nat × Stay) : ∀ cs : List Cho, (Rd.wwo cs x).length ≤ 2 * cs.length
  | [] => Nat.le_refl _
  | c :: cs => by
    show ((c :: cs).flatMap _).length ≤ _
    rw [List.flatMap_cons, List.length_append, List.length_cons]
    have a := one_len x c
    have b : (cs.flatMap (Rd.one x)).length ≤ 2 * cs.length := wwo_len x cs
    omega
theorem ok_wwo {f CS fS CC fC fW fI fD : Addr} {fd fdS fdC fdW fdI fdD : FuncData} (F : Fun K "with_and_without" "with_and_without" sWwo f fd) (T : StayCl K mg CS fS fdS) (TC : ChoCl K mg CC fC fdC) (W : fnWith K mg fW fdW) (I : fnFits K mg fI fdI) (D : fnWide K mg fD fdD) :
    FnOk P w K mg base CX0 4 f fd ["choices", "number", "offer"] (spWwo CS CC) := by
  have GI : FnOk P w K mg base CX0 1 fI fdI ["free", "stay"] (spFits CS) := ok_fits I.F T
  have GD : FnOk P w K mg base CX0 3 fD fdD ["choice", "number", "offer"] (spWide CS CC) := ok_wide D.F T TC W
  refine F.ok scWwo (fun vs H Q E h => ?_) (fun cdv A outer s H vs Q E hr h => ?_)
  · obtain ⟨p, us, cs, k, a, s, rfl, _⟩ := h
    rfl
  · obtain ⟨p, us, cs, n, a, st, rfl, hp, hA, ⟨da, ha⟩, h1, h2, h3, k⟩ := h
    have m3 := TC.no "free" (by decide +kernel)
    have hr1 : Room 1 _ := hr.mono (by decide)
    refine ⟨_, pss_cons (ps_set (i := 3) scWwo.nd rfl (Or.inl rfl) (pe_lst pa_nil))
      (pss_cons (ps_for PassesOwn.never rfl (pi_listK (K := K) rfl (pv 0)) (pg_name (i := 4) scWwo.nd rfl (Or.inl rfl))
        (pss_cons (ps_if (pt_val (pe_call GI hr1 rfl I.m I.F.kp I.b .nil pass0 (pa_cons (pe_fldK (K := K) rfl (pv 4) rfl) (pa_cons (pv 2) pa_nil))))
          (pss_one (ps_expr (pe_bmK (K := K) rfl PySem.F.plainAttrs_list PySem.F.slot_list_append PySem.F.type_list_append mt_append (pv 3) (pa_cons (pe_call GD hr rfl D.m D.F.kp D.b .nil pass0 (pa_cons (pv 4) (pa_cons (pv 1) (pa_cons (pv 2) pa_nil)))) pa_nil)))) pss_nil)
        (pss_one (ps_expr (pe_bmK (K := K) rfl PySem.F.plainAttrs_list PySem.F.slot_list_append PySem.F.type_list_append mt_append (pv 3) (pa_cons (pv 4) pa_nil))))))
      (pss_one (ps_ret (pv 3)))), ?_⟩
    refine ⟨Nat.zero_le _, fun q hq => ?_⟩
    have s1 : Same H (upd H q (.lst [])) := same_upd hq
    refine ⟨_, rfl, p, rfl, ⟨_, SqL.of (s1 _ _ hp)⟩, for_list (K := K) (a := p) (xs := us) (fun i σ H' => ∃ (v : Option V) (ws : List V), σ = [some (.ref p), some (.int n), some (.ref a), some (.ref q), v] ∧ Same H H' ∧ H' q = some (.lst ws) ∧ Al (CrAt CC (hid H' q)) ws (Rd.wwo (cs.take i) (n, st)))
      ⟨none, [], rfl, s1, upd_same, Al.nil⟩ (fun i σ H' _ hh => (by obtain ⟨_, _, _, s2, _⟩ := hh; exact SqL.of (s2 _ _ hp))) ?_ ?_⟩
    · rintro i y σ H' hi ⟨v, ws, rfl, s2, hq', hW⟩
      obtain ⟨c, ho, x, dx, pn, pf, rfl, hc⟩ := hA.getV hi
      have et := take_snoc ho
      obtain ⟨b1, b2, b3⟩ := h3 c (List.mem_of_getElem? ho)
      have hc' : ChAt CC (hid H' q) x c dx pn pf := hc.same (Same.hidN s2 hq)
      have len1 : ws.length < 3000 := by
        have e := hW.len
        have l1 := wwo_len (n, st) (cs.take i)
        rw [List.length_take] at l1
        omega
      -- fits(choice.free, offer)
      refine (wFld rfl (s2 _ _ hc.ins) TC.cl m3 (chF_free _ _ _) ⟨_, rfl, pf, a, c.free, st, rfl, s2 _ _ hc.fre, ⟨da, s2 _ _ ha⟩, h1, b1, fun H3 s3 => ?_⟩)
      have hq3 : H3 q = some (.lst ws) := s3 _ _ hq'
      have hW3 : Al (CrAt CC (hid H3 q)) ws (Rd.wwo (cs.take i) (n, st)) := hW.mono fun v c r => r.same (Same.hid s3)
      have hc3 : ChAt CC (hid H3 q) x c dx pn pf := hc'.same (Same.hid s3)
      have s23 : Same H H3 := s2.trans s3
      refine ⟨_, rfl, ?_⟩
      have nq : ∀ {H4 : Hp} {b : Addr} {o : HO}, H b = some o → ∀ u, (upd H4 q u) b = H4 b := fun e u => upd_ne (ne_of_none e hq)
      by_cases hfit : Ho.fits c.free st = true
      · refine iteP hfit ?_
        refine wVar rfl ⟨.inl ⟨rfl, _, SqL.of hq3⟩, _, rfl, _, rfl, _, rfl, x, dx, pn, pf, c, n, a, st, rfl, hc3.same hid_same, ⟨da, s23 _ _ ha⟩, hfit, h1, b1, b2, b3, fun H4 y dy qn qf s4 ny nqn nqf hy => ?_⟩
        refine ⟨q, _, _, rfl, rfl, s4 _ _ hq3, szl (by omega), ?_⟩
        refine ⟨_, rfl, .inl ⟨rfl, _, SqL.of upd_same⟩, _, rfl, q, _, _, rfl, rfl, upd_same, ?_, ?_⟩
        · rw [List.length_append]
          exact szl (by show _ + 1 < _; omega)
        refine ⟨_, _, rfl, fun b o e => ?_, upd_same, ?_⟩
        · rw [nq e, nq e]
          exact s4 _ _ (s23 _ _ e)
        · rw [hid_upd, hid_upd, et, wwo_snoc]
          have e2 : Rd.one (n, st) c = [Rd.wide c (n, st)] ++ [c] := by
            unfold Rd.one
            rw [if_pos hfit]
            rfl
          rw [e2, ← List.append_assoc]
          refine ((hW3.mono fun v c r => r.same (Same.hid s4)).snoc ⟨y, dy, qn, qf, rfl, ⟨?_, ?_, ?_⟩⟩).snoc ⟨x, dx, pn, pf, rfl, hc3.same (Same.hid s4)⟩
          · rw [hid_at (Ne.symm (ne_of_none hq3 ny))]
            exact hy.ins
          · rw [hid_at (Ne.symm (ne_of_none hq3 nqn))]
            exact hy.num
          · rw [hid_at (Ne.symm (ne_of_none hq3 nqf))]
            exact hy.fre
      · refine iteN hfit ?_
        refine ⟨_, rfl, .inl ⟨rfl, _, SqL.of hq3⟩, _, rfl, q, _, _, rfl, rfl, hq3, szl (by omega), ?_⟩
        refine ⟨_, _, rfl, fun b o e => ?_, upd_same, ?_⟩
        · rw [nq e]
          exact s23 _ _ e
        · rw [hid_upd, et, wwo_snoc]
          have e2 : Rd.one (n, st) c = [c] := by
            unfold Rd.one
            rw [if_neg hfit]
          rw [e2]
          exact hW3.snoc ⟨x, dx, pn, pf, rfl, hc3⟩
    · rintro σ H' ⟨v, ws, rfl, s2, hq', hW⟩
      rw [hA.len, List.take_length] at hW
      exact wVar rfl (k H' q ws s2 hq' (hW.mono fun v c r => r.same hid_same))

/-! ### all_choices -/
abbrev fnWwo (K : PySem.W.Frag) (mg : Str → Option Value) (f : Addr) (fd : FuncData) : Prop := FnAt K mg "with_and_without" sWwo ["choices", "number", "offer"] f fd
inductive PAll (CS CC : Addr) (vs : List V) (H : Hp) (Q : VK) : Prop
 | mk (p pf : Addr) (l : List (Option Stay)) (caps : List Nat) (h0 : vs = [.ref p, .ref pf]) (h1 : LsAt CS H p l) (h2 : H pf = some (.lst (nv caps))) (h3 : l.length ≤ 10) (h4 : caps.length ≤ 60) (h5 : (∀ s, some s ∈ l → s.from_ ≤ s.to_ ∧ s.to_ ≤ caps.length)) (h6 : ∀ (H' : Hp) (q : Addr) (us' : List V), Same H H' → H' q = some (.lst us') → Al (CrAt CC H') us' ((Ho.there l).foldl Rd.wwo [⟨[], 0, caps⟩]) → Q (.ref q) H') : PAll CS CC vs H Q
def spAll (CS CC : Addr) : Sp := fun vs H Q _ => PAll CS CC vs H Q
theorem scAll : FnScope ["offers", "free", "choices", "number", "offer"] ["offers", "free"] (defScope sAll) := ⟨rfl, rfl, rfl, by decide +kernel, rfl, by decide +kernel, by decide +kernel⟩
/-- what holds of all choices so far -/
def ChOk (caps : List Nat) (i : Nat) (cs : List Cho) : Prop := cs.length ≤ 2 ^ i ∧ ∀ c, c ∈ cs → c.free.length = caps.length ∧ c.numbers.length ≤ i
theorem ChOk.step {caps : List Nat} {i : Nat} {cs : List Cho} (h : ChOk caps i cs) (x : Nat × Stay) : ChOk caps (i + 1) (Rd.wwo cs x) := by
  refine ⟨?_, fun c hc => ?_⟩
  · have a := wwo_len x cs
    have b := h.1
    rw [Nat.pow_succ]
    omega
  · obtain ⟨d, hd, hm⟩ := List.mem_flatMap.mp hc
    obtain ⟨e1, e2⟩ := h.2 d hd
    unfold Rd.one at hm
    split at hm
    · rcases List.mem_cons.mp hm with rfl | hm
      · refine ⟨?_, ?_⟩
        · show (Ho.taken d.free x.2).length = _
          rw [Rd.taken_length]
          exact e1
        · show (d.numbers ++ [x.1]).length ≤ _
          rw [List.length_append]
          show _ + 1 ≤ _
          omega
      · (rw [List.mem_singleton.mp hm])
        exact ⟨e1, by omega⟩
    · (rw [List.mem_singleton.mp hm])
      exact ⟨e1, by omega⟩
theorem ChOk.mono {caps : List Nat} {i : Nat} {cs : List Cho} (h : ChOk caps i cs) : ChOk caps (i + 1) cs := by
  refine ⟨?_, fun c hc => ⟨(h.2 c hc).1, Nat.le_succ_of_le (h.2 c hc).2⟩⟩
  rw [Nat.pow_succ]
  have := h.1
  omega
theorem ok_all {f CS fS CC fC fW fI fD fO : Addr} {fd fdS fdC fdW fdI fdD fdO : FuncData} (F : Fun K "all_choices" "all_choices" sAll f fd) (T : StayCl K mg CS fS fdS) (TC : ChoCl K mg CC fC fdC) (W : fnWith K mg fW fdW) (I : fnFits K mg fI fdI) (D : fnWide K mg fD fdD) (O : fnWwo K mg fO fdO)
    (hen : mg "enumerate" = none) : FnOk P w K mg base CX0 5 f fd ["offers", "free"] (spAll CS CC) := by
  have GC : FnOk P w K mg base CX0 1 fC fdC ["self", "numbers", "earned", "free"] (spCho CC) := ok_cho TC
  have GO : FnOk P w K mg base CX0 4 fO fdO ["choices", "number", "offer"] (spWwo CS CC) := ok_wwo O.F T TC W I D
  refine F.ok scAll (fun vs H Q E h => ?_) (fun cdv A outer s H vs Q E hr h => ?_)
  · obtain ⟨p, pf, l, caps, rfl, _⟩ := h
    rfl
  · obtain ⟨p, pf, l, caps, rfl, ⟨vs, hp, hA⟩, hf, h1, h2, h3, k⟩ := h
    have hr2 : Room 2 _ := hr.mono (by decide)
    refine ⟨_, pss_cons (ps_set (i := 2) scAll.nd rfl (Or.inl rfl) (pe_lst (pa_cons (pe_make TC.mkd GC hr2 rfl TC.m TC.b .nil pass0 (pa_cons (pe_lst pa_nil) (pa_cons pe_int (pa_cons (pv 1) pa_nil)))) pa_nil)))
      (pss_cons (ps_for PassesOwn.never rfl (pi_enumK (K := K) rfl rfl hen (pa_cons (pv 0) pa_nil)) (pg_tupK (K := K) (n := 2) rfl rfl (pgs_cons (pg_name (i := 3) scAll.nd rfl (Or.inl rfl)) (pgs_cons (pg_name (i := 4) scAll.nd rfl (Or.inl rfl)) pgs_nil)))
        (pss_one (ps_if (pt_cmpR op_notN (pv 4) pe_non (nomark _)) (pss_one (ps_set (i := 2) scAll.nd rfl (Or.inl rfl) (pe_call GO hr rfl O.m O.F.kp O.b .nil pass0 (pa_cons (pv 2) (pa_cons (pv 3) (pa_cons (pv 4) pa_nil)))))) pss_nil)))
      (pss_one (ps_ret (pv 2)))), ?_⟩
    refine ⟨Nat.zero_le _, fun q0 hq0 => ⟨_, rfl, fun y dy ny ndy ney => ⟨y, dy, _, _, _, rfl, upd_same, fun H1 g1 k1 => ⟨rfl, (by show 1 ≤ sizeLine; decide), fun q hq => ?_⟩⟩⟩⟩
    have s0 : Same H (upd H q0 (.lst [])) := same_upd hq0
    have s1 : Same (upd H q0 (.lst [])) H1 := Same.made ny ndy k1
    have s2 : Same H1 (upd H1 q (.lst [.ref y])) := same_upd hq
    have hc0 : ChAt CC (upd H1 q (.lst [.ref y])) y ⟨[], 0, caps⟩ dy q0 pf := ⟨s2 _ _ g1, s2 _ _ (s1 _ _ upd_same), s2 _ _ (s1 _ _ (s0 _ _ hf))⟩
    have s3 : Same H (upd H1 q (.lst [.ref y])) := (s0.trans s1).trans s2
    have hq3 : (upd H1 q (.lst [.ref y])) q = some (.lst [.ref y]) := upd_same
    generalize upd H1 q (.lst [.ref y]) = H3 at hc0 s3 hq3
    refine ⟨_, rfl, p, vs, rfl, SqL.of (s3 _ _ hp), for_enum (K := K) (a := p) (xs := vs) (fun i σ H' => ∃ (v w : Option V) (q : Addr) (us : List V), σ = [some (.ref p), some (.ref pf), some (.ref q), v, w] ∧ Same H H' ∧ H' q = some (.lst us) ∧ Al (CrAt CC H') us ((Rd.th 0 (l.take i)).foldl Rd.wwo [⟨[], 0, caps⟩]) ∧ ChOk caps i ((Rd.th 0 (l.take i)).foldl Rd.wwo [⟨[], 0, caps⟩]))
      ⟨none, none, q, _, rfl, s3, hq3, Al.one ⟨y, dy, q0, pf, rfl, hc0⟩, ⟨Nat.le_refl _, fun c hc => by rw [List.mem_singleton.mp hc]; exact ⟨rfl, Nat.le_refl _⟩⟩⟩ (fun i σ H' _ hh => (by obtain ⟨_, _, _, _, _, s4, _⟩ := hh; exact SqL.of (s4 _ _ hp))) ?_ ?_⟩
    · rintro i o σ H' Tt hi ⟨v, w', q', us, rfl, s4, hq', hU, hok⟩ hT
      have s5 : Same H' (upd H' Tt (.tup [.int (i : Nat), o])) := same_upd hT
      have hT5 : (upd H' Tt (.tup [.int (i : Nat), o])) Tt = some (.tup [.int (i : Nat), o]) := upd_same
      generalize upd H' Tt (.tup [.int (i : Nat), o]) = H5 at s5 hT5
      obtain ⟨x, ho, rx⟩ := hA.getV hi
      have et := take_snoc ho
      have hil : i < l.length := (List.getElem?_eq_some_iff.mp ho).1
      have eth : Rd.th 0 (l.take (i + 1)) = Rd.th 0 (l.take i) ++ Rd.th i [x] := by
        rw [et, Rd.th_append, Nat.zero_add, List.length_take, Nat.min_eq_left (by omega)]
      refine ⟨Tt, _, rfl, SqT.of hT5, rfl, _, _, rfl, _, _, rfl, rfl, ?_⟩
      cases x with
      | none =>
        have eo : o = .non := rx
        subst eo
        refine ⟨_, rfl, rfl, _, rfl, ?_⟩
        dsimp only
        rw [if_neg (by simp)]
        refine ⟨_, _, q', us, rfl, s4.trans s5, s5 _ _ hq', ?_⟩
        rw [eth]
        show Al _ _ ((_ ++ []).foldl _ _) ∧ ChOk _ _ ((_ ++ []).foldl _ _)
        rw [List.append_nil]
        exact ⟨hU.mono fun v c r => r.same s5, hok.mono⟩
      | some st =>
        obtain ⟨a, rfl, ha⟩ := rx
        obtain ⟨c1, c2⟩ := h3 st (List.mem_of_getElem? ho)
        refine ⟨_, rfl, rfl, _, rfl, ?_⟩
        dsimp only
        rw [if_pos (by simp)]
        refine wVar rfl (wVar rfl (wVar rfl ⟨q', us, (Rd.th 0 (l.take i)).foldl Rd.wwo [⟨[], 0, caps⟩], i, a, st, rfl, s5 _ _ hq', hU.mono fun v c r => r.same s5, ha.same (s4.trans s5), c1, ?_, fun c hc => ?_, fun H6 q6 us6 s6 h6 hA6 => ?_⟩))
        · refine Nat.le_trans hok.1 ?_
          have z : 2 ^ i ≤ 2 ^ 10 := Nat.pow_le_pow_right (by decide) (by omega)
          exact z
        · obtain ⟨d1, d2⟩ := hok.2 c hc
          exact ⟨by omega, by omega, by omega⟩
        · refine ⟨_, _, q6, us6, rfl, (s4.trans s5).trans s6, h6, ?_⟩
          rw [eth]
          show Al _ _ ((_ ++ [(i, st)]).foldl _ _) ∧ ChOk _ _ ((_ ++ [(i, st)]).foldl _ _)
          rw [List.foldl_append]
          exact ⟨hA6, hok.step (i, st)⟩
    · rintro σ H' ⟨v, w', q', us, rfl, s4, hq', hU, hok⟩
      rw [hA.len, List.take_length] at hU
      refine wVar rfl (k H' q' us s4 hq' ?_)
      rw [Rd.there_eq]
      exact hU

/-! ### best_choice -/
abbrev fnAll (K : PySem.W.Frag) (mg : Str → Option Value) (f : Addr) (fd : FuncData) : Prop := FnAt K mg "all_choices" sAll ["offers", "free"] f fd
inductive PBest (CS CC : Addr) (vs : List V) (H : Hp) (Q : VK) : Prop
 | mk (p pf : Addr) (l : List (Option Stay)) (caps : List Nat) (h0 : vs = [.ref p, .ref pf]) (h1 : LsAt CS H p l) (h2 : H pf = some (.lst (nv caps))) (h3 : l.length ≤ 10) (h4 : caps.length ≤ 60) (h5 : (∀ s, some s ∈ l → s.from_ ≤ s.to_ ∧ s.to_ ≤ caps.length)) (h6 : ∀ (H' : Hp) (v : V), Same H H' → CrAt CC H' v ⟨(Ho.most (Ho.there l) caps).2, (Ho.most (Ho.there l) caps).1, Rd.mostF (Ho.there l) caps⟩ → Q v H') : PBest CS CC vs H Q
def spBest (CS CC : Addr) : Sp := fun vs H Q _ => PBest CS CC vs H Q
theorem scBest : FnScope ["offers", "free", "choices", "best", "choice"] ["offers", "free"] (defScope sBest) := ⟨rfl, rfl, rfl, by decide +kernel, rfl, by decide +kernel, by decide +kernel⟩
theorem ok_best {f CS fS CC fC fW fI fD fO fA : Addr} {fd fdS fdC fdW fdI fdD fdO fdA : FuncData} (F : Fun K "best_choice" "best_choice" sBest f fd) (T : StayCl K mg CS fS fdS) (TC : ChoCl K mg CC fC fdC) (W : fnWith K mg fW fdW) (I : fnFits K mg fI fdI) (D : fnWide K mg fD fdD) (O : fnWwo K mg fO fdO)
    (Al' : fnAll K mg fA fdA) (hen : mg "enumerate" = none) : FnOk P w K mg base CX0 6 f fd ["offers", "free"] (spBest CS CC) := by
  have GA : FnOk P w K mg base CX0 5 fA fdA ["offers", "free"] (spAll CS CC) := ok_all Al'.F T TC W I D O hen
  refine F.ok scBest (fun vs H Q E h => ?_) (fun cdv A outer s H vs Q E hr h => ?_)
  · obtain ⟨p, pf, l, caps, rfl, _⟩ := h
    rfl
  · obtain ⟨p, pf, l, caps, rfl, hl, hf, h1, h2, h3, k⟩ := h
    have m2 := TC.no "earned" (by decide +kernel)
    refine ⟨_, pss_cons (ps_set (i := 2) scBest.nd rfl (Or.inl rfl) (pe_call GA hr rfl Al'.m Al'.F.kp Al'.b .nil pass0 (pa_cons (pv 0) (pa_cons (pv 1) pa_nil))))
      (pss_cons (ps_set (i := 3) scBest.nd rfl (Or.inl rfl) (pe_ix (r := rIxL K) ix_list (pv 2) pe_int (fun _ _ => rfl)))
      (pss_cons (ps_for PassesOwn.never rfl (pi_listK (K := K) rfl (pv 2)) (pg_name (i := 4) scBest.nd rfl (Or.inl rfl))
        (pss_one (ps_if (pt_cmpR op_gt (pe_fldK (K := K) rfl (pv 4) rfl) (pe_fldK (K := K) rfl (pv 3) rfl) (nomark _)) (pss_one (ps_set (i := 3) scBest.nd rfl (Or.inl rfl) (pv 4))) pss_nil)))
      (pss_one (ps_ret (pv 3))))), ?_⟩
    obtain ⟨e, r, ee, eb⟩ := Rd.choice_eq (Ho.there l) caps
    refine wVar rfl (wVar rfl ⟨p, pf, l, caps, rfl, hl, hf, h1, h2, h3, fun H1 q us s1 hq hU => ?_⟩)
    rw [ee] at hU
    obtain ⟨v0, hv0, r0⟩ := hU.get (i := 0) (x := e) rfl
    refine ⟨_, rfl, wRix (SqL.of hq) (at_of (j := 0) rfl hv0) ?_⟩
    refine ⟨_, rfl, q, rfl, ⟨_, SqL.of hq⟩, for_list (K := K) (a := q) (xs := us) (fun i σ H' => H' = H1 ∧ ∃ (v : Option V) (b : V), σ = [some (.ref p), some (.ref pf), some (.ref q), some b, v] ∧ CrAt CC H1 b (Rd.bst e ((e :: r).take i)))
      ⟨rfl, none, v0, rfl, r0⟩ (fun i σ H' _ hh => (by obtain ⟨eH, _⟩ := hh; exact by rw [eH]; exact SqL.of hq)) ?_ ?_⟩
    · rintro i y σ H' hi ⟨rfl, v, b, rfl, x, dx, pn, pf', rfl, hb⟩
      obtain ⟨c, hc, x2, dx2, pn2, pf2, rfl, hc2⟩ := hU.getV hi
      have et := take_snoc hc
      have eb' : Rd.bst e ((e :: r).take (i + 1)) = Rd.better (Rd.bst e ((e :: r).take i)) c := by
        rw [et, Rd.bst_append]
        rfl
      refine (wFld rfl hc2.ins TC.cl m2 (chF_earned _ _ _) (wFld rfl hb.ins TC.cl m2 (chF_earned _ _ _) ⟨_, _, rfl, rfl, _, rfl, ?_⟩))
      refine ite2 (fun g => ?_) (fun g => ?_)
      · have g' := of_decide_eq_true g
        refine ⟨_, rfl, rfl, _, _, rfl, ?_⟩
        rw [eb']
        unfold Rd.better
        rw [if_pos (by omega)]
        exact ⟨x2, dx2, pn2, pf2, rfl, hc2⟩
      · have g' : ¬ ((Rd.bst e ((e :: r).take i)).earned : Int) < c.earned := fun z => g (decide_eq_true z)
        refine ⟨rfl, _, _, rfl, ?_⟩
        rw [eb']
        unfold Rd.better
        rw [if_neg (by omega)]
        exact ⟨x, dx, pn, pf', rfl, hb⟩
    · rintro σ H' ⟨rfl, v, b, rfl, hb⟩
      rw [hU.len, List.take_length, eb] at hb
      exact wVar rfl (k H' b s1 hb)
end
end Rk

-- RdPrices
namespace Rk
open PySem PySem.Spec PyProof.Rows L2
open Ho (Stay)
open Rd (Cho Edge)
abbrev sNw : Stmt := top 15
abbrev sOw : Stmt := top 16
abbrev sEc : Stmt := top 17
abbrev sNp : Stmt := top 18

/-! ### a way: a tuple of three -/
def EdAt (H : Hp) (v : V) (e : Edge) : Prop := ∃ t, v = .ref t ∧ H t = some (.tup [.int (e.1 : Nat), .int (e.2.1 : Nat), .int e.2.2])
theorem EdAt.same {H H' : Hp} {v : V} {e : Edge} (h : EdAt H v e) (k : Same H H') : EdAt H' v e := by
  obtain ⟨t, a, b⟩ := h
  exact ⟨t, a, k _ _ b⟩
/-- a list is written: tuples stay -/
theorem EdAt.upd {H : Hp} {v : V} {e : Edge} {q : Addr} {xs ys : List V} (h : EdAt H v e) (hq : H q = some (.lst xs)) : EdAt (upd H q (.lst ys)) v e := by
  obtain ⟨t, a, b⟩ := h
  refine ⟨t, a, ?_⟩
  rw [upd_ne (ne_of b hq (by intro z; cases z))]
  exact b

/-- the ways by one night -/
def nwAt (l : List Nat) (n : Nat) : List Edge := (n, (n + 1, 0)) :: (if 0 < l.getD n 0 then [(n + 1, (n, 0))] else [])
def nw (l : List Nat) (i : Nat) : List Edge := (List.range i).flatMap (nwAt l)
theorem nw_succ (l : List Nat) (i : Nat) : nw l (i + 1) = nw l i ++ nwAt l i := by
  unfold nw
  rw [List.range_succ, List.flatMap_append, List.flatMap_cons, List.flatMap_nil, List.append_nil]
theorem nw_len (l : List Nat) : ∀ i, (nw l i).length ≤ 2 * i
  | 0 => Nat.le_refl _
  | i + 1 => by
    have a := nw_len l i
    rw [nw_succ, List.length_append]
    have b : (nwAt l i).length ≤ 2 := by
      unfold nwAt
      split
      · exact Nat.le_refl _
      · exact Nat.le_succ _
    omega
/-- the ways by the offers -/
def owAt (ch : List Nat) (x : Nat × Stay) : Edge := if ch.contains x.1 = true then (x.2.to_, (x.2.from_, (x.2.price : Int))) else (x.2.from_, (x.2.to_, -(x.2.price : Int)))
def ow (l : List (Option Stay)) (ch : List Nat) : List Edge := (Rd.th 0 l).map (owAt ch)
theorem ow_len (l : List (Option Stay)) (ch : List Nat) : (ow l ch).length ≤ l.length := by
  unfold ow
  rw [List.length_map]
  have : ∀ (l : List (Option Stay)) (k : Nat), (Rd.th k l).length ≤ l.length := by
    intro l
    induction l with
    | nil => exact fun _ => Nat.le_refl _
    | cons o l ih =>
      intro k
      cases o with
      | none => exact Nat.le_succ_of_le (ih (k + 1))
      | some s => exact Nat.succ_le_succ (ih (k + 1))
  exact this l 0

section
variable {P : Program} {w : World} {K : PySem.W.Frag} {mg : Str → Option Value} {base : Heap}
/-! ### night_ways -/
inductive PNw (vs : List V) (H : Hp) (Q : VK) : Prop
 | mk (p : Addr) (l : List Nat) (h0 : vs = [.ref p]) (h1 : H p = some (.lst (nv l))) (h2 : l.length ≤ 60) (h3 : ∀ (H' : Hp) (q : Addr) (us : List V), Same H H' → H' q = some (.lst us) → Al (EdAt H') us (nw l l.length) → Q (.ref q) H') : PNw vs H Q
def spNw : Sp := fun vs H Q _ => PNw vs H Q
theorem scNw : FnScope ["left", "ways", "night", "rooms"] ["left"] (defScope sNw) := ⟨rfl, rfl, rfl, by decide +kernel, rfl, by decide +kernel, by decide +kernel⟩
theorem ok_nw {f : Addr} {fd : FuncData} (F : Fun K "night_ways" "night_ways" sNw f fd) (hen : mg "enumerate" = none) : FnOk P w K mg base CX0 1 f fd ["left"] spNw := by
  refine F.ok scNw (fun vs H Q E h => ?_) (fun cdv A outer s H vs Q E hr h => ?_)
  · obtain ⟨p, l, rfl, _⟩ := h
    rfl
  · obtain ⟨p, l, rfl, hp, hl, k⟩ := h
    refine ⟨_, pss_cons (ps_set (i := 1) scNw.nd rfl (Or.inl rfl) (pe_lst pa_nil))
      (pss_cons (ps_for PassesOwn.never rfl (pi_enumK (K := K) rfl rfl hen (pa_cons (pv 0) pa_nil)) (pg_tupK (K := K) (n := 2) rfl rfl (pgs_cons (pg_name (i := 2) scNw.nd rfl (Or.inl rfl)) (pgs_cons (pg_name (i := 3) scNw.nd rfl (Or.inl rfl)) pgs_nil)))
        (pss_cons (ps_expr (pe_bmK (K := K) rfl PySem.F.plainAttrs_list PySem.F.slot_list_append PySem.F.type_list_append mt_append (pv 1) (pa_cons (pe_tup (pa_cons (pv 2) (pa_cons (pe_op op_add (pv 2) pe_int) (pa_cons pe_int pa_nil)))) pa_nil)))
        (pss_one (ps_if (pt_cmpR op_gt (pv 3) pe_int (nomark _)) (pss_one (ps_expr (pe_bmK (K := K) rfl PySem.F.plainAttrs_list PySem.F.slot_list_append PySem.F.type_list_append mt_append (pv 1) (pa_cons (pe_tup (pa_cons (pe_op op_add (pv 2) pe_int) (pa_cons (pv 2) (pa_cons pe_int pa_nil)))) pa_nil)))) pss_nil))))
      (pss_one (ps_ret (pv 1)))), ?_⟩
    refine ⟨Nat.zero_le _, fun q hq => ?_⟩
    have s1 : Same H (upd H q (.lst [])) := same_upd hq
    refine ⟨_, rfl, p, _, rfl, SqL.of (s1 _ _ hp), for_enum (K := K) (a := p) (xs := nv l) (fun i σ H' => X3 fun (v w : Option V) (us : List V) => A4 (σ = [some (.ref p), some (.ref q), v, w]) (Same H H') (H' q = some (.lst us)) (Al (EdAt H') us (nw l i)))
      ⟨none, none, [], rfl, s1, upd_same, Al.nil⟩ (fun i σ H' _ hh => (by obtain ⟨_, _, _, _, s2, _, _⟩ := hh; exact SqL.of (s2 _ _ hp))) ?_ ?_⟩
    · rintro i y σ H' Tt hi ⟨v, w', us, rfl, s2, hq', hU⟩ hT
      obtain ⟨z, hz, rfl⟩ := iv_get hi
      have hz' : l[i]? = some (l.getD i 0) ∧ z = ((l.getD i 0 : Nat) : Int) := by
        unfold Rd.zs at hz
        rw [List.getElem?_map] at hz
        cases e : l[i]? with
        | none =>
          rw [e] at hz
          cases hz
        | some n =>
          rw [e] at hz
          (rw [List.getD_eq_getElem?_getD, e])
          exact ⟨rfl, (Option.some.inj hz).symm⟩
      obtain ⟨hli, rfl⟩ := hz'
      have hil : i < l.length := (List.getElem?_eq_some_iff.mp hli).1
      have s3 : Same H' (upd H' Tt (.tup [.int (i : Nat), .int (l.getD i 0 : Nat)])) := same_upd hT
      have hT3 : (upd H' Tt (.tup [.int (i : Nat), .int (l.getD i 0 : Nat)])) Tt = some (.tup [.int (i : Nat), .int (l.getD i 0 : Nat)]) := upd_same
      generalize upd H' Tt (.tup [.int (i : Nat), .int (l.getD i 0 : Nat)]) = H3 at s3 hT3
      have lenU : us.length ≤ 120 := by
        have a := hU.len
        have b := nw_len l i
        omega
      have hq3 := s3 _ _ hq'
      refine ⟨Tt, _, rfl, SqT.of hT3, rfl, _, _, rfl, _, _, rfl, rfl, ?_⟩
      refine ⟨_, rfl, .inl ⟨rfl, _, SqL.of hq3⟩, _, rfl, _, rfl, _, _, rfl, rfl, (by show 3 ≤ sizeLine; decide), fun t ht => ?_⟩
      have s4 : Same H3 (upd H3 t (.tup [.int (i : Nat), .int ((i : Nat) + 1), .int 0])) := same_upd ht
      refine ⟨q, us, _, rfl, rfl, s4 _ _ hq3, szl (by omega), ?_⟩
      have s5 : Same H (upd (upd H3 t (.tup [.int (i : Nat), .int ((i : Nat) + 1), .int 0])) q (.lst (us ++ [.ref t]))) := fun b o e => by
        rw [upd_ne (ne_of_none e hq)]
        exact s4 _ _ (s3 _ _ (s2 _ _ e))
      have hU5 : Al (EdAt (upd (upd H3 t (.tup [.int (i : Nat), .int ((i : Nat) + 1), .int 0])) q (.lst (us ++ [.ref t])))) (us ++ [.ref t]) (nw l i ++ [(i, (i + 1, 0))]) := by
        refine Al.snoc (hU.mono fun v e r => (r.same (s3.trans s4)).upd (s4 _ _ hq3)) (EdAt.upd ⟨t, rfl, ?_⟩ (s4 _ _ hq3))
        exact upd_same
      have hq5 : (upd (upd H3 t (.tup [.int (i : Nat), .int ((i : Nat) + 1), .int 0])) q (.lst (us ++ [.ref t]))) q = some (.lst (us ++ [.ref t])) := upd_same
      generalize upd (upd H3 t (.tup [.int (i : Nat), .int ((i : Nat) + 1), .int 0])) q (.lst (us ++ [.ref t])) = H5 at s5 hU5 hq5
      refine ⟨_, rfl, wOp ⟨_, rfl, ?_⟩⟩
      refine ite2 (fun g => ?_) (fun g => ?_)
      · have g' : (0 : Int) < (l.getD i 0 : Nat) := of_decide_eq_true g
        refine ⟨_, rfl, .inl ⟨rfl, _, SqL.of hq5⟩, _, rfl, wOp ⟨_, rfl, (by show 3 ≤ sizeLine; decide), fun t2 ht2 => ?_⟩⟩
        have s6 : Same H5 (upd H5 t2 (.tup [.int ((i : Nat) + 1), .int (i : Nat), .int 0])) := same_upd ht2
        refine ⟨q, _, _, rfl, rfl, s6 _ _ hq5, ?_, ?_⟩
        · rw [List.length_append]
          exact szl (by show _ + 1 < _; omega)
        refine ⟨_, _, _, rfl, fun b o e => ?_, upd_same, ?_⟩
        · rw [upd_ne (ne_of_none e hq)]
          exact s6 _ _ (s5 _ _ e)
        · have e1 : nw l (i + 1) = (nw l i ++ [(i, (i + 1, 0))]) ++ [(i + 1, (i, 0))] := by
            rw [nw_succ, List.append_assoc]
            unfold nwAt
            rw [if_pos (by omega)]
            rfl
          rw [e1]
          exact Al.snoc (hU5.mono fun v e r => (r.same s6).upd (s6 _ _ hq5)) (EdAt.upd ⟨t2, rfl, upd_same⟩ (s6 _ _ hq5))
      · have g' : ¬ (0 : Int) < (l.getD i 0 : Nat) := fun z => g (decide_eq_true z)
        refine ⟨_, _, _, rfl, s5, hq5, ?_⟩
        have e1 : nw l (i + 1) = nw l i ++ [(i, (i + 1, 0))] := by
          rw [nw_succ]
          unfold nwAt
          rw [if_neg (by omega)]
        rw [e1]
        exact hU5
    · rintro σ H' ⟨v, w', us, rfl, s2, hq', hU⟩
      rw [nv_len] at hU
      exact ⟨_, rfl, k H' q us s2 hq' hU⟩

/-! ### offer_ways -/
inductive POw (CS : Addr) (vs : List V) (H : Hp) (Q : VK) : Prop
 | mk (p pn : Addr) (l : List (Option Stay)) (ch : List Nat) (h0 : vs = [.ref p, .ref pn]) (h1 : LsAt CS H p l) (h2 : H pn = some (.lst (nv ch))) (h3 : l.length ≤ 10) (h4 : ∀ (H' : Hp) (q : Addr) (us : List V), Same H H' → H' q = some (.lst us) → Al (EdAt H') us (ow l ch) → Q (.ref q) H') : POw CS vs H Q
def spOw (CS : Addr) : Sp := fun vs H Q _ => POw CS vs H Q
theorem scOw : FnScope ["offers", "chosen", "ways", "number", "offer"] ["offers", "chosen"] (defScope sOw) := ⟨rfl, rfl, rfl, by decide +kernel, rfl, by decide +kernel, by decide +kernel⟩
theorem inV_nv (k : Nat) (l : List Nat) : inV (.int (k : Nat)) (nv l) = l.contains k := by
  rw [inV_iv]
  cases e : l.contains k with
  | true => exact decide_eq_true (List.mem_map.mpr ⟨k, List.contains_iff_mem.mp e, rfl⟩)
  | false =>
    refine decide_eq_false fun z => ?_
    obtain ⟨m, hm, q⟩ := List.mem_map.mp z
    have q' : m = k := by
      have : (m : Int) = (k : Int) := q
      omega
    rw [← q', List.contains_iff_mem.mpr hm] at e
    cases e
theorem ok_ow {f CS fS : Addr} {fd fdS : FuncData} (F : Fun K "offer_ways" "offer_ways" sOw f fd) (T : StayCl K mg CS fS fdS) (hen : mg "enumerate" = none) : FnOk P w K mg base CX0 1 f fd ["offers", "chosen"] (spOw CS) := by
  refine F.ok scOw (fun vs H Q E h => ?_) (fun cdv A outer s H vs Q E hr h => ?_)
  · obtain ⟨p, pn, l, ch, rfl, _⟩ := h
    rfl
  · obtain ⟨p, pn, l, ch, rfl, ⟨vs, hp, hA⟩, hn, hl, k⟩ := h
    have n1 := T.no "start" (by decide +kernel)
    have n2 := T.no "end" (by decide +kernel)
    have n3 := T.no "price" (by decide +kernel)
    refine ⟨_, pss_cons (ps_set (i := 2) scOw.nd rfl (Or.inl rfl) (pe_lst pa_nil))
      (pss_cons (ps_for PassesOwn.never rfl (pi_enumK (K := K) rfl rfl hen (pa_cons (pv 0) pa_nil)) (pg_tupK (K := K) (n := 2) rfl rfl (pgs_cons (pg_name (i := 3) scOw.nd rfl (Or.inl rfl)) (pgs_cons (pg_name (i := 4) scOw.nd rfl (Or.inl rfl)) pgs_nil)))
        (pss_cons (ps_if (pt_cmpR op_isN (pv 4) pe_non (nomark _)) (pss_one ps_continue) pss_nil)
        (pss_one (ps_if (pt_cmpR (r := rIn K false) op_in_seq (pv 3) (pv 1) rfl)
          (pss_one (ps_expr (pe_bmK (K := K) rfl PySem.F.plainAttrs_list PySem.F.slot_list_append PySem.F.type_list_append mt_append (pv 2) (pa_cons (pe_tup (pa_cons (pe_fldK (K := K) rfl (pv 4) rfl) (pa_cons (pe_fldK (K := K) rfl (pv 4) rfl) (pa_cons (pe_fldK (K := K) rfl (pv 4) rfl) pa_nil)))) pa_nil))))
          (pss_one (ps_expr (pe_bmK (K := K) rfl PySem.F.plainAttrs_list PySem.F.slot_list_append PySem.F.type_list_append mt_append (pv 2) (pa_cons (pe_tup (pa_cons (pe_fldK (K := K) rfl (pv 4) rfl) (pa_cons (pe_fldK (K := K) rfl (pv 4) rfl) (pa_cons (pe_un un_neg (pe_fldK (K := K) rfl (pv 4) rfl)) pa_nil)))) pa_nil))))))))
      (pss_one (ps_ret (pv 2)))), ?_⟩
    refine ⟨Nat.zero_le _, fun q hq => ?_⟩
    have s1 : Same H (upd H q (.lst [])) := same_upd hq
    refine ⟨_, rfl, p, _, rfl, SqL.of (s1 _ _ hp), for_enum (K := K) (a := p) (xs := vs) (fun i σ H' => X3 fun (v w : Option V) (us : List V) => A4 (σ = [some (.ref p), some (.ref pn), some (.ref q), v, w]) (Same H H') (H' q = some (.lst us)) (Al (EdAt H') us (ow (l.take i) ch)))
      ⟨none, none, [], rfl, s1, upd_same, Al.nil⟩ (fun i σ H' _ hh => (by obtain ⟨_, _, _, _, s2, _, _⟩ := hh; exact SqL.of (s2 _ _ hp))) ?_ ?_⟩
    · rintro i y σ H' Tt hi ⟨v, w', us, rfl, s2, hq', hU⟩ hT
      obtain ⟨o, ho, ro⟩ := hA.getV hi
      have hil : i < l.length := (List.getElem?_eq_some_iff.mp ho).1
      have s3 : Same H' (upd H' Tt (.tup [.int (i : Nat), y])) := same_upd hT
      have hT3 : (upd H' Tt (.tup [.int (i : Nat), y])) Tt = some (.tup [.int (i : Nat), y]) := upd_same
      generalize upd H' Tt (.tup [.int (i : Nat), y]) = H3 at s3 hT3
      have et := take_snoc ho
      have eth : Rd.th 0 (l.take (i + 1)) = Rd.th 0 (l.take i) ++ Rd.th i [o] := by
        rw [et, Rd.th_append, Nat.zero_add, List.length_take, Nat.min_eq_left (by omega)]
      have lenU : us.length ≤ 10 := by
        have a := hU.len
        have b := ow_len (l.take i) ch
        rw [List.length_take] at b
        omega
      have hq3 := s3 _ _ hq'
      refine ⟨Tt, _, rfl, SqT.of hT3, rfl, _, _, rfl, _, _, rfl, rfl, ?_⟩
      cases o with
      | none =>
        have ey : y = .non := ro
        subst ey
        refine ⟨_, rfl, rfl, _, rfl, ?_⟩
        dsimp only
        rw [if_pos (by simp)]
        refine ⟨_, _, us, rfl, s2.trans s3, hq3, ?_⟩
        have e1 : ow (l.take (i + 1)) ch = ow (l.take i) ch := by
          unfold ow
          rw [eth]
          show (_ ++ []).map _ = _
          rw [List.append_nil]
        rw [e1]
        exact hU.mono fun v e r => r.same s3
      | some st =>
        obtain ⟨a, rfl, ha⟩ := ro
        obtain ⟨da, ha3⟩ := ha.same (s2.trans s3)
        refine ⟨_, rfl, rfl, _, rfl, ?_⟩
        dsimp only
        rw [if_neg (by simp)]
        have e1 : ow (l.take (i + 1)) ch = ow (l.take i) ch ++ [owAt ch (i, st)] := by
          unfold ow
          rw [eth, List.map_append]
          rfl
        refine ⟨_, rfl, _, rfl, pn, _, rfl, .inl (SqL.of (s3 _ _ (s2 _ _ hn))), rfl, flat_iv _, _, rfl, ?_⟩
        show if (if false = true then _ else inV (.int (i : Nat)) (nv ch)) = true then _ else _
        rw [if_neg (by decide : ¬ false = true), inV_nv]
        refine ite2 (fun g => ?_) (fun g => ?_)
        · refine ⟨_, rfl, .inl ⟨rfl, _, SqL.of hq3⟩, wFld rfl ha3 T.cl n2 (stF_end _ _ _) (wFld rfl ha3 T.cl n1 (stF_start _ _ _) (wFld rfl ha3 T.cl n3 (stF_price _ _ _) ⟨(by show 3 ≤ sizeLine; decide), fun t ht => ?_⟩))⟩
          have s4 : Same H3 (upd H3 t (.tup [.int st.to_, .int st.from_, .int st.price])) := same_upd ht
          refine ⟨q, us, _, rfl, rfl, s4 _ _ hq3, szl (by omega), ?_⟩
          refine ⟨_, _, _, rfl, fun b o e => ?_, upd_same, ?_⟩
          · rw [upd_ne (ne_of_none e hq)]
            exact s4 _ _ (s3 _ _ (s2 _ _ e))
          · rw [e1]
            refine Al.snoc (hU.mono fun v e r => (r.same (s3.trans s4)).upd (s4 _ _ hq3)) (EdAt.upd ⟨t, rfl, ?_⟩ (s4 _ _ hq3))
            unfold owAt
            rw [if_pos g]
            exact upd_same
        · refine ⟨_, rfl, .inl ⟨rfl, _, SqL.of hq3⟩, wFld rfl ha3 T.cl n1 (stF_start _ _ _) (wFld rfl ha3 T.cl n2 (stF_end _ _ _) (wFld rfl ha3 T.cl n3 (stF_price _ _ _) ⟨_, rfl, (by show 3 ≤ sizeLine; decide), fun t ht => ?_⟩))⟩
          have s4 : Same H3 (upd H3 t (.tup [.int st.from_, .int st.to_, .int (-(st.price : Int))])) := same_upd ht
          refine ⟨q, us, _, rfl, rfl, s4 _ _ hq3, szl (by omega), ?_⟩
          refine ⟨_, _, _, rfl, fun b o e => ?_, upd_same, ?_⟩
          · rw [upd_ne (ne_of_none e hq)]
            exact s4 _ _ (s3 _ _ (s2 _ _ e))
          · rw [e1]
            refine Al.snoc (hU.mono fun v e r => (r.same (s3.trans s4)).upd (s4 _ _ hq3)) (EdAt.upd ⟨t, rfl, ?_⟩ (s4 _ _ hq3))
            unfold owAt
            rw [if_neg g]
            exact upd_same
    · rintro σ H' ⟨v, w', us, rfl, s2, hq', hU⟩
      rw [hA.len, List.take_length] at hU
      exact ⟨_, rfl, k H' q us s2 hq' hU⟩
end
end Rk

-- RdCosts
namespace Rk
open PySem PySem.Spec PyProof.Rows L2
open Ho (Stay)
open Rd (Cho Edge)

theorem ixN_nat {n k : Nat} (h : k < n) : ixN n ((k : Nat) : Int) = some k := by
  unfold ixN
  rw [if_pos (by omega), if_pos (by omega), Int.toNat_natCast]
/-- a list of ints as data -/
def dl (l : List Int) : PyData := .list (l.map PyData.int)
theorem dp_ints {K : PySem.W.Frag} {H : Hp} : ∀ l : List Int, DpAll K H (iv l) (l.map PyData.int)
  | [] => .nil
  | z :: l => .cons (.int z) (dp_ints l)
theorem dp_list {K : PySem.W.Frag} {H : Hp} {p : Addr} {l : List Int} (h : H p = some (.lst (iv l))) : Dp K H (.ref p) (dl l) := .lst (SqL.of h) (dp_ints l)
theorem lay_ints : ∀ l : List Int, PyData.canLayAll0 (l.map PyData.int) = true
  | [] => by
    rw [List.map_nil]
    unfold PyData.canLayAll0
    rfl
  | z :: l => by
    rw [List.map_cons]
    unfold PyData.canLayAll0
    rw [lay_ints l]
    unfold PyData.canLay0
    rfl
theorem depth_ints : ∀ l : List Int, PyData.depthAll (l.map PyData.int) = 0
  | [] => by
    rw [List.map_nil]
    unfold PyData.depthAll
    rfl
  | z :: l => by
    rw [List.map_cons]
    unfold PyData.depthAll
    rw [depth_ints l]
    unfold PyData.depth
    rfl
theorem shaped_ints (l : List Int) : SeqAt.shaped (dl l) = true := by
  unfold SeqAt.shaped dl
  have e1 : PyData.canLay0 (.list (l.map PyData.int)) = true := by
    unfold PyData.canLay0
    exact lay_ints l
  have e2 : PyData.depth (.list (l.map PyData.int)) = 1 := by
    unfold PyData.depth
    rw [depth_ints]
  rw [e1, e2]
  rfl
theorem eqv_ints : ∀ l m : List Int, PyData.eqvAll (l.map PyData.int) (m.map PyData.int) = decide (l = m)
  | [], [] => by
    rw [List.map_nil]
    unfold PyData.eqvAll
    rfl
  | [], b :: m => by
    rw [List.map_nil, List.map_cons]
    unfold PyData.eqvAll
    rw [decide_eq_false (by intro h; cases h)]
  | a :: l, [] => by
    rw [List.map_nil, List.map_cons]
    unfold PyData.eqvAll
    rw [decide_eq_false (by intro h; cases h)]
  | a :: l, b :: m => by
    rw [List.map_cons, List.map_cons]
    unfold PyData.eqvAll
    rw [eqv_ints l m]
    have e : PyData.eqv (.int a) (.int b) = decide (a = b) := by
      unfold PyData.eqv
      exact Bool.beq_eq_decide_eq a b
    rw [e, ← Bool.decide_and]
    exact decide_eq_decide.mpr ⟨fun ⟨h1, h2⟩ => by rw [h1, h2], fun h => ⟨(List.cons.inj h).1, (List.cons.inj h).2⟩⟩
theorem eqv_dl (l m : List Int) : PyData.eqv (dl l) (dl m) = decide (l = m) := by
  unfold dl
  have e : PyData.eqv (.list (l.map PyData.int)) (.list (m.map PyData.int)) = PyData.eqvAll (l.map PyData.int) (m.map PyData.int) := by
    conv => lhs; unfold PyData.eqv
  rw [e, eqv_ints]

theorem iv_set (l : List Int) (k : Nat) (z : Int) : (iv l).set k (.int z) = iv (l.set k z) := by
  show (l.map V.int).set k (V.int z) = (l.set k z).map V.int
  rw [List.map_set]
theorem iv_at {l : List Int} {k : Nat} (h : k < l.length) : (iv l)[k]? = some (.int (l.getD k 0)) := by
  rw [List.getElem?_map, List.getD_eq_getElem?_getD, List.getElem?_eq_getElem h]
  rfl
theorem set_getD (l : List Int) (k : Nat) : l.set k (l.getD k 0) = l := by
  refine List.ext_getElem? fun i => ?_
  rw [List.getElem?_set]
  by_cases e : k = i
  · subst e
    by_cases h : k < l.length
    · rw [if_pos rfl, if_pos h, List.getD_eq_getElem?_getD, List.getElem?_eq_getElem h]
      rfl
    · rw [if_pos rfl, if_neg h, List.getElem?_eq_none (by omega)]
  · rw [if_neg e]
theorem rel1_min (l : List Int) (s : Edge) : l.set s.2.1 (if l.getD s.1 0 + s.2.2 < l.getD s.2.1 0 then l.getD s.1 0 + s.2.2 else l.getD s.2.1 0) = Rd.rel1 l s := by
  unfold Rd.rel1
  split
  · rfl
  · exact set_getD _ _

section
variable {P : Program} {w : World} {K : PySem.W.Frag} {mg : Str → Option Value} {base : Heap}
/-! ### evening_costs -/
inductive PEc (vs : List V) (H : Hp) (Q : VK) : Prop
 | mk (p : Addr) (N : Nat) (us : List V) (E : List Edge) (h0 : vs = [.ref p, .int N]) (h1 : H p = some (.lst us)) (h2 : Al (EdAt H) us E) (h3 : (∀ e, e ∈ E → e.1 < N ∧ e.2.1 < N)) (h4 : N ≤ 61) (h5 : ∀ (H' : Hp) (q : Addr), Same H H' → H' q = some (.lst (iv (Rd.rounds E N (List.replicate N 0)))) → Q (.ref q) H') : PEc vs H Q
def spEc : Sp := fun vs H Q _ => PEc vs H Q
theorem scEc : FnScope ["ways", "evenings", "costs", "turn", "before", "way"] ["ways", "evenings"] (defScope sEc) := ⟨rfl, rfl, rfl, by decide +kernel, rfl, by decide +kernel, by decide +kernel⟩
theorem ok_ec {f : Addr} {fd : FuncData} (F : Fun K "evening_costs" "evening_costs" sEc f fd) (hra : mg "range" = none) (hli : mg "list" = none) (hmi : mg "min" = none) : FnOk P w K mg base CX0 1 f fd ["ways", "evenings"] spEc := by
  refine F.ok scEc (fun vs H Q E h => ?_) (fun cdv A outer s H vs Q E hr h => ?_)
  · obtain ⟨p, N, us, E', rfl, _⟩ := h
    rfl
  · obtain ⟨p, N, us, E, rfl, hp, hU, hE, hN, k⟩ := h
    refine ⟨_, pss_cons (ps_set (i := 2) scEc.nd rfl (Or.inl rfl) (pe_op op_rep (pe_lst (pa_cons pe_int pa_nil)) (pv 1)))
      (pss_cons (ps_for PassesOwn.never rfl (pi_range1 rfl hra (pa_cons (pv 1) pa_nil)) (pg_name (i := 3) scEc.nd rfl (Or.inl rfl))
        (pss_cons (ps_set (i := 4) scEc.nd rfl (Or.inl rfl) (pe_callTy call_list_of rfl hli PyProof.Rows.boot_list (pa_cons (pv 2) pa_nil)))
        (pss_cons (ps_for PassesOwn.never rfl (pi_listK (K := K) rfl (pv 0)) (pg_name (i := 5) scEc.nd rfl (Or.inl rfl))
          (pss_one (ps_asg (pe_callB (call_min2 rfl) rfl hmi PyProof.Rows.boot_min (pa_cons (pe_ix (r := rIxL K) ix_list (pv 2) (pe_ix (r := rIxT K) ix_tup (pv 5) pe_int (fun _ _ => rfl)) (fun _ _ => rfl)) (pa_cons (pe_op op_add (pe_ix (r := rIxL K) ix_list (pv 2) (pe_ix (r := rIxT K) ix_tup (pv 5) pe_int (fun _ _ => rfl)) (fun _ _ => rfl)) (pe_ix (r := rIxT K) ix_tup (pv 5) pe_int (fun _ _ => rfl))) pa_nil)))
            (pg_sub (pv 2) (pe_ix (r := rIxT K) ix_tup (pv 5) pe_int (fun _ _ => rfl)) set_list))))
        (pss_one (ps_if (pt_cmpR (op_eqD hr.units) (pv 2) (pv 4) (nomark _)) (pss_one ps_break) pss_nil)))))
      (pss_one (ps_ret (pv 2)))), ?_⟩
    refine ⟨(by show 1 ≤ sizeLine; decide), fun q0 hq0 => ⟨_, rfl, q0, _, _, rfl, rfl, upd_same, by omega, by omega, ?_, fun q hq => ?_⟩⟩
    · show 1 * ((N : Int)).toNat ≤ sizeLine
      exact sz (by omega)
    have e0 : (List.replicate ((N : Nat) : Int).toNat [V.int 0]).flatten = iv (List.replicate N 0) := by
      rw [Int.toNat_natCast, List.flatten_replicate_singleton]
      show _ = (List.replicate N (0 : Int)).map _
      rw [List.map_replicate]
    rw [e0]
    have s1 : Same H (upd (upd H q0 (.lst [.int 0])) q (.lst (iv (List.replicate N 0)))) := Same.upd1 (same_upd hq0) hq
    have nq : H q = none := (same_upd hq0).free hq
    have hq1 : (upd (upd H q0 (.lst [.int 0])) q (.lst (iv (List.replicate N 0)))) q = some (.lst (iv (List.replicate N 0))) := upd_same
    generalize upd (upd H q0 (.lst [.int 0])) q (.lst (iv (List.replicate N 0))) = H1 at s1 hq1
    have lenR : ∀ i, (Rd.rounds E i (List.replicate N 0)).length = N := fun i => Rd.rounds_length.trans List.length_replicate
    refine ⟨_, rfl, (N : Int), rfl, by omega, by omega, for_range (lo := 0) (n := ((N : Nat) : Int).toNat) (fun i σ H' => X3 fun (v3 v4 v5 : Option V) => A3 (σ = [some (.ref p), some (.int N), some (.ref q), v3, v4, v5]) (Same H H') (H' q = some (.lst (iv (Rd.rounds E i (List.replicate N 0))))))
      ⟨none, none, none, rfl, s1, hq1⟩ ?_ ?_⟩
    · rintro i σ H' hi ⟨v3, v4, v5, rfl, s2, hq2⟩
      rw [Int.toNat_natCast] at hi
      -- before = list(costs)
      refine ⟨_, rfl, q, _, rfl, .inl (SqL.of hq2), fun b hb => ?_⟩
      have nbq : b ≠ q := Ne.symm (ne_of_none hq2 hb)
      have s3 : Same H (upd H' b (.lst (iv (Rd.rounds E i (List.replicate N 0))))) := Same.upd1 s2 hb
      have hq3 : (upd H' b (.lst (iv (Rd.rounds E i (List.replicate N 0))))) q = some (.lst (iv (Rd.rounds E i (List.replicate N 0)))) := same_upd hb _ _ hq2
      have hb3 : (upd H' b (.lst (iv (Rd.rounds E i (List.replicate N 0))))) b = some (.lst (iv (Rd.rounds E i (List.replicate N 0)))) := upd_same
      generalize upd H' b (.lst (iv (Rd.rounds E i (List.replicate N 0)))) = H3 at s3 hq3 hb3
      have lenL := lenR i
      generalize hL : Rd.rounds E i (List.replicate N 0) = L at hq3 hb3 lenL
      have lenF : ∀ j, ((E.take j).foldl Rd.rel1 L).length = N := fun j => Rd.rd_length.trans lenL
      refine ⟨_, rfl, p, rfl, ⟨_, SqL.of (s3 _ _ hp)⟩, for_list (K := K) (a := p) (xs := us) (fun j σ H' => ∃ (v5 : Option V), σ = [some (.ref p), some (.int N), some (.ref q), some (.int (0 + (i : Nat))), some (.ref b), v5] ∧ Same H H' ∧ H' b = some (.lst (iv L)) ∧ H' q = some (.lst (iv ((E.take j).foldl Rd.rel1 L))))
        ⟨v5, rfl, s3, hb3, hq3⟩ (fun j σ H' _ ⟨_, _, s4, _⟩ => SqL.of (s4 _ _ hp)) ?_ ?_⟩
      · rintro j y σ H4 hj ⟨v5', rfl, s4, hb4, hq4⟩
        obtain ⟨e, he, t, rfl, ht⟩ := hU.getV hj
        obtain ⟨c1, c2⟩ := hE e (List.mem_of_getElem? he)
        have et := take_snoc he
        have ht4 := s4 _ _ ht
        have l4 := lenF j
        generalize hM : (E.take j).foldl Rd.rel1 L = M at hq4 l4
        have a1 : atI (iv M) ((e.2.1 : Nat) : Int) = some (.int (M.getD e.2.1 0)) := at_of (j := e.2.1) rfl (iv_at (by omega))
        have a0 : atI (iv M) ((e.1 : Nat) : Int) = some (.int (M.getD e.1 0)) := at_of (j := e.1) rfl (iv_at (by omega))
        refine ⟨_, rfl, _, rfl, wRixT (SqT.of ht4) (at_of (j := 1) rfl rfl) (wRix (SqL.of hq4) a1 ?_)⟩
        refine ⟨_, rfl, _, rfl, wRixT (SqT.of ht4) (at_of (j := 0) rfl rfl) (wRix (SqL.of hq4) a0 ?_)⟩
        refine ⟨_, rfl, wRixT (SqT.of ht4) (at_of (j := 2) rfl rfl) ⟨_, _, rfl, rfl, _, _, rfl, ?_⟩⟩
        refine ⟨_, rfl, _, rfl, wRixT (SqT.of ht4) (at_of (j := 1) rfl rfl) ⟨q, _, _, e.2.1, rfl, rfl, hq4, ?_, ?_⟩⟩
        · rw [iv_len, l4]
          exact ixN_nat c2
        · rw [iv_set, rel1_min]
          refine ⟨_, rfl, fun b' o e' => ?_, ?_, ?_⟩
          · rw [upd_ne (ne_of_none e' nq)]
            exact s4 _ _ e'
          · rw [upd_ne nbq]
            exact hb4
          · rw [upd_same, et, List.foldl_append, hM]
            rfl
      · rintro σ H4 ⟨v5', rfl, s4, hb4, hq4⟩
        rw [hU.len, List.take_length] at hq4
        have eS : Rd.rounds E (i + 1) (List.replicate N 0) = E.foldl Rd.rel1 L := by rw [Rd.rounds_succ, hL]
        refine ⟨_, rfl, _, rfl, dl (E.foldl Rd.rel1 L), dl L, dp_list hq4, dp_list hb4, shaped_ints _, shaped_ints _, _, rfl, ?_⟩
        rw [eqv_dl]
        refine ite2 (fun g => ?_) (fun g => ?_)
        · have g' := of_decide_eq_true g
          have eN : Rd.rounds E N (List.replicate N 0) = E.foldl Rd.rel1 L := by
            rw [g', show N = i + (N - i) by omega, Rd.rounds_add, ← show N = i + (N - i) by omega, hL]
            exact Rd.rounds_fix g' _
          refine ⟨_, rfl, k H4 q s4 ?_⟩
          rw [eN]
          exact hq4
        · refine ⟨_, _, _, rfl, s4, ?_⟩
          rw [eS]
          exact hq4
    · rintro σ H' ⟨v3, v4, v5, rfl, s2, hq2⟩
      rw [Int.toNat_natCast] at hq2
      exact ⟨_, rfl, k H' q s2 hq2⟩
end
end Rk

-- RdNights
namespace Rk
open PySem PySem.Spec PyProof.Rows L2
open Ho (Stay)
open Rd (Cho Edge)
/-- what night_prices gives -/
def costsOf (l : List (Option Stay)) (c : Cho) : List Int := Rd.rounds (nw c.free c.free.length ++ ow l c.numbers) (c.free.length + 1) (List.replicate (c.free.length + 1) 0)
def pricesOf (l : List (Option Stay)) (c : Cho) : List Int := (List.range c.free.length).map fun k => (costsOf l c).getD k 0 - (costsOf l c).getD (k + 1) 0
theorem costsOf_len (l : List (Option Stay)) (c : Cho) : (costsOf l c).length = c.free.length + 1 := Rd.rounds_length.trans List.length_replicate
theorem mem_nw {l : List Nat} {i : Nat} {e : Edge} : e ∈ nw l i ↔ (∃ n, n < i ∧ e = (n, (n + 1, 0))) ∨ ∃ n, n < i ∧ 0 < l.getD n 0 ∧ e = (n + 1, (n, 0)) := by
  unfold nw nwAt
  rw [List.mem_flatMap]
  constructor
  · rintro ⟨n, hn, h⟩
    have hn' := List.mem_range.mp hn
    rcases List.mem_cons.mp h with h | h
    · exact .inl ⟨n, hn', h⟩
    · split at h
      · rename_i g
        exact .inr ⟨n, hn', g, List.mem_singleton.mp h⟩
      · cases h
  · rintro (⟨n, hn, h⟩ | ⟨n, hn, g, h⟩)
    · exact ⟨n, List.mem_range.mpr hn, by rw [h]; exact List.mem_cons_self⟩
    · refine ⟨n, List.mem_range.mpr hn, List.mem_cons_of_mem _ ?_⟩
      rw [if_pos g, h]
      exact List.mem_singleton.mpr rfl
theorem mem_th_some {l : List (Option Stay)} {x : Nat × Stay} (h : x ∈ Rd.th 0 l) : some x.2 ∈ l := List.mem_of_getElem? (Rd.mem_th.mp h).2
theorem edges_bound {l : List (Option Stay)} {c : Cho} (h : ∀ s, some s ∈ l → s.from_ ≤ s.to_ ∧ s.to_ ≤ c.free.length) : ∀ e, e ∈ nw c.free c.free.length ++ ow l c.numbers → e.1 < c.free.length + 1 ∧ e.2.1 < c.free.length + 1 := by
  intro e he
  rcases (List.mem_append.mp he) with he | he
  · rcases mem_nw.mp he with ⟨n, hn, rfl⟩ | ⟨n, hn, _, rfl⟩
    · exact ⟨by show n < _; omega, by show n + 1 < _; omega⟩
    · exact ⟨by show n + 1 < _; omega, by show n < _; omega⟩
  · obtain ⟨x, hx, rfl⟩ := List.mem_map.mp he
    obtain ⟨a, b⟩ := h x.2 (mem_th_some hx)
    unfold owAt
    split
    · exact ⟨by show x.2.to_ < _; omega, by show x.2.from_ < _; omega⟩
    · exact ⟨by show x.2.from_ < _; omega, by show x.2.to_ < _; omega⟩

section
variable {P : Program} {w : World} {K : PySem.W.Frag} {mg : Str → Option Value} {base : Heap}
abbrev fnNw (K : PySem.W.Frag) (mg : Str → Option Value) (f : Addr) (fd : FuncData) : Prop := FnAt K mg "night_ways" sNw ["left"] f fd
abbrev fnOw (K : PySem.W.Frag) (mg : Str → Option Value) (f : Addr) (fd : FuncData) : Prop := FnAt K mg "offer_ways" sOw ["offers", "chosen"] f fd
abbrev fnEc (K : PySem.W.Frag) (mg : Str → Option Value) (f : Addr) (fd : FuncData) : Prop := FnAt K mg "evening_costs" sEc ["ways", "evenings"] f fd
/-- the names of Python's own that the program uses are Python's own -/
structure Own (mg : Str → Option Value) : Prop where
  enum : mg "enumerate" = none
  range : mg "range" = none
  list : mg "list" = none
  min : mg "min" = none
  len : mg "len" = none
  srt : mg "sorted" = none
  sum : mg "sum" = none
inductive PNp (CS CC : Addr) (vs : List V) (H : Hp) (Q : VK) : Prop
 | mk (p x dx pn pf : Addr) (l : List (Option Stay)) (c : Cho) (h0 : vs = [.ref p, .ref x]) (h1 : LsAt CS H p l) (h2 : ChAt CC H x c dx pn pf) (h3 : l.length ≤ 10) (h4 : c.free.length ≤ 60) (h5 : (∀ s, some s ∈ l → s.from_ ≤ s.to_ ∧ s.to_ ≤ c.free.length)) (h6 : ∀ (H' : Hp) (q : Addr), Same H H' → H' q = some (.lst (iv (pricesOf l c))) → Q (.ref q) H') : PNp CS CC vs H Q
def spNp (CS CC : Addr) : Sp := fun vs H Q _ => PNp CS CC vs H Q
theorem scNp : FnScope ["offers", "choice", "nights", "costs", "night"] ["offers", "choice"] (defScope sNp) := ⟨rfl, rfl, rfl, by decide +kernel, rfl, by decide +kernel, by decide +kernel⟩
theorem blkNp : BlkOk ["offers", "choice", "nights", "costs", "night"] (defScope sNp) { kind := .function, names := [(".0", .local), ("night", .local), ("costs", .free)], isGenerator := false, isCoroutine := false } [("night", 4)] :=
  ⟨rfl, by decide +kernel, by decide +kernel, by decide +kernel, by decide +kernel⟩
theorem ok_np {f CS fS CC fC fN fO fE : Addr} {fd fdS fdC fdN fdO fdE : FuncData} (F : Fun K "night_prices" "night_prices" sNp f fd) (T : StayCl K mg CS fS fdS) (TC : ChoCl K mg CC fC fdC) (Nw : fnNw K mg fN fdN) (Ow : fnOw K mg fO fdO) (Ec : fnEc K mg fE fdE) (O : Own mg) :
    FnOk P w K mg base CX0 2 f fd ["offers", "choice"] (spNp CS CC) := by
  have GN : FnOk P w K mg base CX0 1 fN fdN ["left"] spNw := ok_nw Nw.F O.enum
  have GO : FnOk P w K mg base CX0 1 fO fdO ["offers", "chosen"] (spOw CS) := ok_ow Ow.F T O.enum
  have GE : FnOk P w K mg base CX0 1 fE fdE ["ways", "evenings"] spEc := ok_ec Ec.F O.range O.list O.min
  refine F.ok scNp (fun vs H Q E h => ?_) (fun cdv A outer s H vs Q E hr h => ?_)
  · obtain ⟨p, x, dx, pn, pf, l, c, rfl, _⟩ := h
    rfl
  · obtain ⟨p, x, dx, pn, pf, l, c, rfl, hl, hc, h1, h2, h3, k⟩ := h
    have m1 := TC.no "numbers" (by decide +kernel)
    have m3 := TC.no "free" (by decide +kernel)
    refine ⟨_, pss_cons (ps_set (i := 2) scNp.nd rfl (Or.inl rfl) (pe_callB (call_lenK (K := K) rfl) (by rfl) O.len PySem.boot_len (pa_cons (pe_fldK (K := K) rfl (pv 1) rfl) pa_nil)))
      (pss_cons (ps_set (i := 3) scNp.nd rfl (Or.inr rfl) (pe_call GE hr rfl Ec.m Ec.F.kp Ec.b .nil pass0 (pa_cons (pe_op op_cat (pe_call GN hr rfl Nw.m Nw.F.kp Nw.b .nil pass0 (pa_cons (pe_fldK (K := K) rfl (pv 1) rfl) pa_nil)) (pe_call GO hr rfl Ow.m Ow.F.kp Ow.b .nil pass0 (pa_cons (pv 0) (pa_cons (pe_fldK (K := K) rfl (pv 1) rfl) pa_nil)))) (pa_cons (pe_op op_add (pv 2) pe_int) pa_nil))))
      (pss_one (ps_ret (pe_lc (own := [("night", 4)]) rfl scNp.nd (pi_range1 rfl O.range (pa_cons (pv 2) pa_nil)) blkNp (fun _ _ _ _ _ => pg_name (i := 4) scNp.nd rfl (Or.inl rfl)) (fun _ _ _ _ _ => pts_nil)
        (fun _ _ _ _ _ => pe_op op_sub (pe_ix (r := rIxL K) ix_list (pv 3) (pv 4) (fun _ _ => rfl)) (pe_ix (r := rIxL K) ix_list (pv 3) (pe_op op_add (pv 4) pe_int) (fun _ _ => rfl))))))), ?_⟩
    refine (wFld rfl hc.ins TC.cl m3 (chF_free _ _ _) ⟨pf, _, rfl, .inl (SqL.of hc.fre), ?_⟩)
    rw [nv_len]
    refine (wFld rfl hc.ins TC.cl m3 (chF_free _ _ _) ⟨pf, c.free, rfl, hc.fre, h2, fun H1 q1 us1 s1 g1 A1 => ?_⟩)
    refine ⟨_, rfl, wFld rfl (s1 _ _ hc.ins) TC.cl m1 (chF_numbers _ _ _) ⟨p, pn, l, c.numbers, rfl, hl.same s1, s1 _ _ hc.num, h1, fun H2 q2 us2 s2 g2 A2 => ?_⟩⟩
    have b1 := nw_len c.free c.free.length
    have b2 := ow_len l c.numbers
    have b3 := A1.len
    have b4 := A2.len
    refine ⟨q1, q2, _, _, rfl, rfl, s2 _ _ g1, g2, sz (by omega), fun q3 hq3 => ?_⟩
    have s3 : Same H2 (upd H2 q3 (.lst (us1 ++ us2))) := same_upd hq3
    refine ⟨_, rfl, wOp ⟨q3, c.free.length + 1, us1 ++ us2, nw c.free c.free.length ++ ow l c.numbers, rfl, upd_same, ((A1.mono fun v e r => r.same (s2.trans s3)).append (A2.mono fun v e r => r.same s3)), edges_bound h3, by omega, fun H4 q4 s4 g4 => ?_⟩⟩
    have g4' : H4 q4 = some (.lst (iv (costsOf l c))) := g4
    have s5 : Same H H4 := ((s1.trans s2).trans s3).trans s4
    refine ⟨_, rfl, (c.free.length : Int), rfl, by omega, by omega, fun D hD => lc_range (lo := 0) (n := ((c.free.length : Nat) : Int).toNat)
      (fun i H' => Same H4 H' ∧ H' D = some (.lst (iv ((List.range i).map fun k => (costsOf l c).getD k 0 - (costsOf l c).getD (k + 1) 0)))) ⟨same_upd hD, upd_same⟩ ?_ ?_⟩
    · rintro i H' hi ⟨s6, hD6⟩
      rw [Int.toNat_natCast] at hi
      have lc := costsOf_len l c
      have a0 : atI (iv (costsOf l c)) ((0 : Int) + (i : Nat)) = some (.int ((costsOf l c).getD i 0)) := at_of (j := i) (by omega) (iv_at (by omega))
      have a1 : atI (iv (costsOf l c)) ((0 : Int) + (i : Nat) + 1) = some (.int ((costsOf l c).getD (i + 1) 0)) := at_of (j := i + 1) (by omega) (iv_at (by omega))
      refine ⟨rfl, ?_⟩
      unfold tYes
      dsimp only
      rw [if_pos rfl]
      refine (wIx rfl rfl (SqL.of (s6 _ _ g4')) a0 ?_)
      refine ⟨_, rfl, _, rfl, wOp (wRix (SqL.of (s6 _ _ g4')) a1 ⟨_, _, rfl, rfl, _, hD6, ?_, ?_⟩)⟩
      · rw [iv_len, List.length_map, List.length_range]
        exact szl (by omega)
      · refine ⟨fun b o e => ?_, ?_⟩
        · rw [upd_ne (ne_of_none e hD)]
          exact s6 b o e
        · rw [upd_same, List.range_succ, List.map_append]
          show _ = some (HO.lst (List.map V.int (_ ++ _)))
          rw [List.map_append]
          rfl
    · rintro H' ⟨s6, hD6⟩
      rw [Int.toNat_natCast] at hD6
      exact k H' D (s5.trans s6) hD6
end

/-! ### it is the specification's -/
theorem steps_ways {d : Ho.Desk} {e : Edge} : e ∈ d.steps d.chosen.2 ↔ e ∈ nw (Rd.mostF (Ho.there d.offers) d.caps) d.nights ++ ow d.offers d.chosen.2 := by
  unfold Ho.Desk.steps
  rw [List.mem_append, List.mem_append, List.mem_append, mem_nw]
  have e3 : e ∈ ow d.offers d.chosen.2 ↔ e ∈ (Ho.there d.offers).map fun (x : Nat × Stay) => if d.chosen.2.contains x.1 = true then (x.2.to_, (x.2.from_, (x.2.price : Int))) else (x.2.from_, (x.2.to_, -(x.2.price : Int))) := by
    unfold ow
    rw [Rd.there_eq]
    exact Iff.rfl
  rw [← e3]
  refine or_congr (or_congr ?_ ?_) Iff.rfl
  · rw [List.mem_map]
    constructor
    · rintro ⟨n, hn, rfl⟩
      exact ⟨n, List.mem_range.mp hn, rfl⟩
    · rintro ⟨n, hn, rfl⟩
      exact ⟨n, List.mem_range.mpr hn, rfl⟩
  · rw [List.mem_map]
    constructor
    · rintro ⟨n, hn, rfl⟩
      obtain ⟨h1, h2⟩ := List.mem_filter.mp hn
      have h1' := List.mem_range.mp h1
      refine ⟨n, h1', ?_, rfl⟩
      rw [Rd.mostF_idle d h1']
      exact of_decide_eq_true h2
    · rintro ⟨n, hn, g, rfl⟩
      rw [Rd.mostF_idle d hn] at g
      exact ⟨n, List.mem_filter.mpr ⟨List.mem_range.mpr hn, decide_eq_true g⟩, rfl⟩
/-- the choice of a desk -/
def choOf (d : Ho.Desk) : Cho := ⟨d.chosen.2, d.chosen.1, Rd.mostF (Ho.there d.offers) d.caps⟩
theorem choOf_len (d : Ho.Desk) : (choOf d).free.length = d.nights := by
  show (Rd.mostF _ _).length = _
  rw [Rd.mostF_length, Rd.caps_length]
theorem prices_eq {d : Ho.Desk} (g : Rd.Good d) : pricesOf d.offers (choOf d) = Rd.zs d.prices := by
  unfold Rd.zs
  rw [Rd.prices_int g]
  have e : costsOf d.offers (choOf d) = d.costs d.chosen.2 := by
    unfold costsOf
    rw [choOf_len]
    exact Rd.costs_same g (fun e => steps_ways) (Nat.le_refl _)
  unfold pricesOf
  rw [e, choOf_len]
end Rk

-- RdIndex
/-! xs.index(x, k): the first place from k on -/
namespace PySem.SeqAt
open SeqRoads2 MeetsSeq3 MeetsSeq2 MeetsSeq
theorem rk_index3At (b : Addr) (zs : Array Value) (ep : Nat) (od : Option Addr) (ss : Array (Option Value)) (y : Value) (q : Value → Bool) (k : Nat) (t : Tok) (j : Nat) (hkj : k ≤ j) (hj : j < zs.size) (hsmall : (j : Int) < 2 ^ 63 - 1)
    (hit : q zs[j] = true) (hno : ∀ m (hm : m < zs.size), k ≤ m → m < j → q zs[m] = false) :
    Meets (Builtin.«list.index» ⟨[.ref b, y, .int (k : Nat) t], []⟩)
      (fun Ar Re st => st.heap.get? b = some { cls := .type "list", dict := od, data := .seq zs ep, slots := ss } ∧ (∀ z, z ∈ zs → EqAt Ar.in1 st z y (q z)) ∧ Re (.ok (.ret (.int j st.toks))) { st with toks := st.toks + 1 }) := by
  intro pr wo Ar Re st hh
  obtain ⟨hp, g, d, tk, os⟩ := st
  obtain ⟨hb, hz, hR⟩ := hh
  wp_walk using AutoSeq1.wpAny_loadPart' hb
  have from_ : ((fun i : Int => if i < 0 then max 0 (i + (zs.size : Int)) else i) ((some ((k : Nat) : Int)).getD 0)) = ((k : Nat) : Int) := by
    show (if ((k : Nat) : Int) < 0 then max 0 (((k : Nat) : Int) + (zs.size : Int)) else ((k : Nat) : Int)) = _
    rw [if_neg (by omega)]
  have to_ : ((fun i : Int => if i < 0 then max 0 (i + (zs.size : Int)) else i) ((none : Option Int).getD (2 ^ 63 - 1))) = 2 ^ 63 - 1 := by simp
  rw [from_, to_]
  refine ⟨plainId_quiet plain_index_loop _, codeAny_builtin entry_index_loop ?_⟩
  rw [(Around.under_plainId plain_index_loop _)]
  exact index_loopAt b zs ep od ss y q (2 ^ 63 - 1) j hj hsmall hit _ k rfl hkj (fun m hm h1 h2 => hno m hm h1 h2) pr wo Ar Re _ ⟨hb, hz, hR⟩
end PySem.SeqAt
namespace Rk
open PySem PySem.Spec PyProof.Rows L2
open Ho (Stay)
section
variable {X : Cx}
def rIndex3 (K : PySem.W.Frag) : V → List V → Hp → VK → Prop := fun x xs H Q => ∃ (a : Addr) (ys : List V) (y : V) (k j : Nat) (z : V), x = V.ref a ∧ xs = [y, .int (k : Nat)] ∧ SqL K H a ys ∧ flatV y = true ∧ ys.all flatV = true ∧ k ≤ j ∧ ys[j]? = some z ∧ eqV z y = true ∧
  (∀ (m : Nat) (z' : V), k ≤ m → m < j → ys[m]? = some z' → eqV z' y = false) ∧ Q (.int (j : Nat)) H
theorem mt_index3 : MtR X "list.index" (rIndex3 X.K) := by
  intro pins s σ H x xs v us Q I rx rxs h
  obtain ⟨a, ys, y, k, j, z, rfl, rfl, hs, fy, fys, hkj, hz, hzj, hno, q⟩ := h
  cases rx
  cases rxs with
  | cons ry rt =>
    rename_i uy ut
    cases rt with
    | cons rk rt =>
      cases rt
      obtain ⟨tk, rfl⟩ := rk
      obtain ⟨its, rv, ⟨⟨cls, dd, data, sl⟩, n, ho, hc, hdn, hd⟩, hlen⟩ := I.list hs
      simp only at hc hd
      subst hc hd
      obtain ⟨u, hu, ru⟩ := rv.get hz
      obtain ⟨hjl, hje⟩ := List.getElem?_eq_some_iff.mp hu
      have hvl := rv.length
      have hj : j < its.toArray.size := by simpa using hjl
      have hsl := sizeLine_eq
      refine call_meets PySem.F.slot_list_index ⟨_, ho, rfl⟩ PySem.F.entry_list_index (PySem.F.args_list_index_3 _ _ _)
        (SeqAt.rk_index3At a its.toArray n dd sl uy (eqU y) k tk j hkj hj (by omega) ?_ ?_) ⟨ho, fun u' hu' => mem_eqAt ry fy rv fys u' (by simpa using hu'), ?_⟩
      · have e1 : its.toArray[j] = u := by simpa using hje
        rw [e1, eqU_of ru (flat_at fys hz)]
        exact hzj
      · intro m hm hkm hmj
        have hml : m < its.length := by simpa using hm
        have hmy : m < ys.length := by omega
        have hy' : ys[m]? = some ys[m] := List.getElem?_eq_getElem hmy
        obtain ⟨u2, hu2, ru2⟩ := rv.get hy'
        obtain ⟨_, hme⟩ := List.getElem?_eq_some_iff.mp hu2
        have e1 : its.toArray[m] = u2 := by simpa using hme
        rw [e1, eqU_of ru2 (flat_at fys hy')]
        exact hno m _ hkm hmj hy'
      · exact ⟨.int (j : Nat), H, I.tok _, ⟨_, rfl⟩, q⟩
end

/-! ### first_full -/
section
variable {P : Program} {w : World} {K : PySem.W.Frag} {mg : Str → Option Value} {base : Heap}
inductive PFull (C : Addr) (vs : List V) (H : Hp) (Q : VK) : Prop
 | mk (p a : Addr) (l : List Nat) (s : Stay) (j : Nat) (h0 : vs = [.ref p, .ref a]) (h1 : H p = some (.lst (nv l))) (h2 : StAt C H a s) (h3 : s.from_ ≤ j) (h4 : l[j]? = some 0) (h5 : (∀ m, s.from_ ≤ m → m < j → l[m]? ≠ some 0)) (h6 : Q (.int (j : Nat)) H) : PFull C vs H Q
def spFull (C : Addr) : Sp := fun vs H Q _ => PFull C vs H Q
theorem scFull : FnScope ["free", "stay"] ["free", "stay"] (defScope sFull) := ⟨rfl, rfl, rfl, by decide +kernel, rfl, by decide +kernel, by decide +kernel⟩
theorem ok_full {f C fS : Addr} {fd fdS : FuncData} (F : Fun K "first_full" "first_full" sFull f fd) (T : StayCl K mg C fS fdS) : FnOk P w K mg base CX0 1 f fd ["free", "stay"] (spFull C) := by
  refine F.ok scFull (fun vs H Q E h => ?_) (fun cdv A outer s H vs Q E hr h => ?_)
  · obtain ⟨p, a, l, s, j, rfl, _⟩ := h
    rfl
  · obtain ⟨p, a, l, st, j, rfl, hp, ⟨dx, ha⟩, h1, h2, h3, k⟩ := h
    have n1 := T.no "start" (by decide +kernel)
    refine ⟨_, pss_one (ps_ret (pe_bmK (K := K) rfl PySem.F.plainAttrs_list PySem.F.slot_list_index PySem.F.type_list_index mt_index3 (pv 0) (pa_cons pe_int (pa_cons (pe_fldK (K := K) rfl (pv 1) rfl) pa_nil)))), ?_⟩
    refine ⟨_, rfl, .inl ⟨rfl, _, SqL.of hp⟩, wFld rfl ha T.cl n1 (stF_start _ _ _) ⟨p, _, _, st.from_, j, .int 0, rfl, rfl, SqL.of hp, rfl, flat_iv _, h1, ?_, rfl, ?_, k⟩⟩
    · rw [List.getElem?_map]
      unfold Rd.zs
      rw [List.getElem?_map, h2]
      rfl
    · intro m z' hm hmj hz'
      obtain ⟨z, hz, rfl⟩ := iv_get hz'
      unfold Rd.zs at hz
      rw [List.getElem?_map] at hz
      cases e : l[m]? with
      | none =>
        rw [e] at hz
        cases hz
      | some y =>
        rw [e] at hz
        have ez : (y : Int) = z := Option.some.inj hz
        have hy : y ≠ 0 := fun q => h3 m hm hmj (by rw [e, q])
        show (z == (0 : Int)) = false
        rw [beq_eq_false_iff_ne]
        omega
end
end Rk

-- RdRows
/-! nights in a row -/
namespace Rk
open PySem PySem.Spec PyProof.Rows L2
open Ho (Stay)
/-! range(a, b): any a that is a small int's -/
theorem small_wide {a b : Int} (h1 : 0 ≤ a) (h2 : a < 2 ^ 63) (h3 : 0 ≤ b) (h4 : b ≤ 1000) : Builtin.Range.small a b 1 = true := by
  unfold Builtin.Range.small
  rw [rangeSize_one]
  simp only [Builtin.Range.rangeFitsLong, Bool.and_eq_true, Bool.or_eq_true, decide_eq_true_eq, beq_iff_eq, show ((1 : Int) > 0) by decide, if_true]
  split <;> omega
section
variable {X : Cx} {tg : Expr}
theorem range_itW {pins : List (Addr × Obj)} {σ : L2.St} {H : Hp} {s : Shared} {R : It → Hp → Prop} {E : Value → Shared → Prop} {lo hi : Int} {t u v : Tok} {tk : Nat} (I : Inv X pins σ H s) (hsm : Builtin.Range.small lo hi 1 = true)
    (q : R (Itr lo (hi - lo).toNat) H) : wpAny (model X.prog X.w) X.A (pyIter (.ref s.heap.objs.size)) (PIE X pins σ tg R) E { s with heap := s.heap.push { cls := .type "range", data := .fields #[.int lo t, .int hi u, .int 1 v] }, toks := tk } := by
  refine wpAny_pyIter_range (IsRange.new ..) hsm ?_
  have I1 : Inv X pins σ H { s with heap := s.heap.push { cls := .type "range", data := .fields #[.int lo t, .int hi u, .int 1 v] }, toks := tk } := I.kept fun b o e => Heap.get?_push_of_some _ e
  refine ⟨(s.heap.push { cls := .type "range", data := .fields #[.int lo t, .int hi u, .int 1 v] }).objs.size, [(s.heap.push { cls := .type "range", data := .fields #[.int lo t, .int hi u, .int 1 v] }).objs.size], _, _, H, rfl,
    I1.kept (t' := tk) fun b o e => Heap.get?_push_of_some _ e, turn_range _ lo (hi - lo).toNat, ?_, fun b hb => ?_, q⟩
  · have e1 : lo + ((0 : Nat) : Int) * 1 = lo := by simp
    have e2 : (((hi - lo).toNat : Nat) : Int) - ((0 : Nat) : Int) = Builtin.Range.rangeSize lo hi 1 := by rw [rangeSize_one]; split <;> omega
    show IsRangeIter _ _ (lo + ((0 : Nat) : Int) * 1) ((((hi - lo).toNat : Nat) : Int) - ((0 : Nat) : Int)) 1
    rw [e1, e2]
    exact Heap.get?_push_size _ rfl
  · have e : b = (s.heap.push { cls := .type "range", data := .fields #[.int lo t, .int hi u, .int 1 v] }).objs.size := by simpa using hb
    subst e
    exact I1.fpOk (Nat.le_refl _) (I1.hok.fresh (Nat.le_refl _))
def iRng2W (ta : TA) : TI := fun σ H R => ta σ H fun vs H1 => ∃ i j : Int, vs = [.int i, .int j] ∧ Builtin.Range.small i j 1 = true ∧ R (Itr i (j - i).toNat) H1
theorem pi_range2W {a b : Expr} {ta : TA} {p pos : Pos} (hg : Gl X "range") (hm : X.mg "range" = none) (ha : PA X [a, b] ta) (hs : starEach [a, b] X.env = [(false, eval a X.env), (false, eval b X.env)] := by rfl) (hs2 : starEach [b] X.env = [(false, eval b X.env)] := by rfl) :
    PI X tg (.Call (.Name "range" p) [a, b] [] pos) (iRng2W ta) := by
  intro pins s σ H R I h
  refine Call_ (ld_blt I hg hm boot_range (PyProof.Rows.callWith_type1 (thn (ha pos pins s σ H _ I h) fun us s1 ⟨vs, H1, I1, r1, q1⟩ => ?_) (by rw [hs, hs2]) (by rw [hs2]; rfl)))
  obtain ⟨i, j, e, hsm, q⟩ := q1
  subst e
  cases r1 with
  | cons r rr =>
    cases rr with
    | cons r' rr =>
      cases rr
      obtain ⟨t, rfl⟩ := r
      obtain ⟨t', rfl⟩ := r'
      exact call_range_2 (range_itW I1 hsm q)
end
def leftAt (k m : Nat) (σ : List (Option V)) : Nat := match σ[k]? with
  | some (some (V.int z)) => m - z.toNat
  | _ => 0
theorem dec_natlt (a b : Nat) : decide ((a : Int) < (b : Int)) = decide (a < b) := decide_eq_decide.mpr (by omega)
theorem dec_natle (a b : Nat) : decide ((a : Int) ≤ (b : Int)) = decide (a ≤ b) := decide_eq_decide.mpr (by omega)
theorem nv_at {l : List Nat} {i x : Nat} (h : l[i]? = some x) : (nv l)[i]? = some (.int (x : Nat)) := by
  rw [List.getElem?_map]
  unfold Rd.zs
  rw [List.getElem?_map, h]
  rfl
section
variable {P : Program} {w : World} {K : PySem.W.Frag} {mg : Str → Option Value} {base : Heap}
/-! ### free_in_a_row -/
inductive PRow (vs : List V) (H : Hp) (Q : VK) : Prop
 | mk (p : Addr) (l : List Nat) (n : Nat) (h0 : vs = [.ref p, .int (n : Nat)]) (h1 : H p = some (.lst (nv l))) (h2 : Q (.int (Rd.inrow l n : Nat)) H) : PRow vs H Q
def spRow : Sp := fun vs H Q _ => PRow vs H Q
theorem scRow : FnScope ["free", "night", "end"] ["free", "night"] (defScope sRow) := ⟨rfl, rfl, rfl, by decide +kernel, rfl, by decide +kernel, by decide +kernel⟩
theorem ok_row {f : Addr} {fd : FuncData} (F : Fun K "free_in_a_row" "free_in_a_row" sRow f fd) (O : Own mg) : FnOk P w K mg base CX0 1 f fd ["free", "night"] spRow := by
  refine F.ok scRow (fun vs H Q E h => ?_) (fun cdv A outer s H vs Q E hr h => ?_)
  · obtain ⟨p, l, n, rfl, _⟩ := h
    rfl
  · obtain ⟨p, l, n, rfl, hp, k⟩ := h
    refine ⟨_, pss_cons (ps_set (i := 2) scRow.nd rfl (Or.inl rfl) (pv 1))
      (pss_cons (ps_while PassesOwn.never (PW.pt (pw_and (pt_cmpR op_lt (pv 2) (pe_callB (call_lenK (K := K) rfl) (by rfl) O.len PySem.boot_len (pa_cons (pv 0) pa_nil)) (nomark _)) (pw_and1 (pt_cmpR op_gt (pe_ix (r := rIxL K) ix_list (pv 0) (pv 2) (fun _ _ => rfl)) pe_int (nomark _)))))
        (pss_one (ps_aug (i := 2) scRow.nd rfl (Or.inl rfl) pe_int ip_add)))
      (pss_one (ps_ret (pe_op op_sub (pv 2) (pv 1))))), ?_⟩
    refine ⟨_, rfl, ?_⟩
    refine while_by (fun σ H' => X1 fun (i : Nat) => A3 (i ≤ Rd.inrow l n) (σ = [some (.ref p), some (.int (n : Nat)), some (.int ((n + i : Nat) : Int))]) (H' = H)) (fun σ _ => leftAt 2 (n + Rd.inrow l n) σ) ⟨0, Nat.zero_le _, rfl, rfl⟩ ?_ ?_
    · rintro σ H' ⟨i, hi, rfl, rfl⟩
      have done : i = Rd.inrow l n → Q (.int (((n + i : Nat) : Int) - (n : Nat))) H' := fun e => by
        have e2 : ((n + i : Nat) : Int) - (n : Nat) = ((Rd.inrow l n : Nat) : Int) := by omega
        rw [e2]
        exact k
      have ret : i = Rd.inrow l n → tRet (tOp (rI0 fun i j => .int (i - j)) (tVar 2) (tVar 1)) { nx := fun _ H' => Q .non H', rt := Q } [some (.ref p), some (.int (n : Nat)), some (.int ((n + i : Nat) : Int))] H' := fun e => ⟨_, rfl, _, rfl, _, _, rfl, rfl, done e⟩
      refine ⟨_, rfl, _, rfl, p, _, rfl, .inl (SqL.of hp), _, _, rfl, rfl, _, rfl, ?_⟩
      rw [nv_len, dec_natlt]
      refine ite2 (fun q => ?_) (fun q => ?_)
      · have hlt := of_decide_eq_true q
        have ex : l[n + i]? = some l[n + i] := List.getElem?_eq_getElem hlt
        refine (wIx rfl rfl (SqL.of hp) (at_of (j := n + i) rfl (nv_at ex)) ⟨_, _, rfl, rfl, _, rfl, ?_⟩)
        refine ite2 (fun q2 => ?_) (fun q2 => ?_)
        · have hpos : (0 : Int) < (l[n + i] : Nat) := of_decide_eq_true q2
          have lt : i < Rd.inrow l n := by
            rcases Nat.lt_or_ge i (Rd.inrow l n) with z | z
            · exact z
            · have e : i = Rd.inrow l n := Nat.le_antisymm hi z
              have a := Rd.inrow_at l n
              rw [← e, ex] at a
              rcases a with a | a
              · cases a
              · have := Option.some.inj a
                omega
          refine ⟨_, rfl, _, _, rfl, rfl, ⟨i + 1, lt, ?_, rfl⟩, ?_⟩
          · exact congrArg (fun t => [some (V.ref p), some (.int (n : Nat)), some (.int t)]) (show ((n + i : Nat) : Int) + 1 = ((n + (i + 1) : Nat) : Int) by omega)
          · show n + Rd.inrow l n - (((n + i : Nat) : Int) + 1).toNat < n + Rd.inrow l n - ((n + i : Nat) : Int).toNat
            omega
        · have hz : ¬ (0 : Int) < (l[n + i] : Nat) := fun z => q2 (decide_eq_true z)
          refine ret (Nat.le_antisymm hi (Nat.le_of_not_lt fun lt => ?_))
          obtain ⟨x, hx, px⟩ := Rd.inrow_lt lt
          rw [ex] at hx
          have := Option.some.inj hx
          omega
      · have hge : ¬ n + i < l.length := fun z => q (decide_eq_true z)
        refine ret (Nat.le_antisymm hi (Nat.le_of_not_lt fun lt => ?_))
        obtain ⟨x, hx, px⟩ := Rd.inrow_lt lt
        exact hge (List.getElem?_eq_some_iff.mp hx).1
    · rintro σ H' Q1 Q2 hQ ⟨v, e, v2, e2, p, ys, e3, hs3, i, j, e4, e5, b, e6, q⟩
      refine ⟨v, e, v2, e2, p, ys, e3, hs3, i, j, e4, e5, b, e6, ?_⟩
      by_cases hb : b = true
      · rw [if_pos hb] at q ⊢
        obtain ⟨v, e, v2, e2, a, ys, i, z, e3, e4, h1, h2, i', j', e5, e6, b', e7, q⟩ := q
        exact ⟨v, e, v2, e2, a, ys, i, z, e3, e4, h1, h2, i', j', e5, e6, b', e7, hQ _ _ q⟩
      · rw [if_neg hb] at q ⊢
        exact hQ _ _ q
abbrev fnRow (K : PySem.W.Frag) (mg : Str → Option Value) (f : Addr) (fd : FuncData) : Prop := FnAt K mg "free_in_a_row" sRow ["free", "night"] f fd

/-! ### first_in_a_row -/
inductive PFrow (vs : List V) (H : Hp) (Q : VK) : Prop
 | mk (p : Addr) (l : List Nat) (len a : Nat) (h0 : vs = [.ref p, .int (len : Nat), .int (a : Nat)]) (h1 : H p = some (.lst (nv l))) (h2 : l.length ≤ 60) (h3 : (a : Int) < 2 ^ 63) (h4 : (∀ n, n < l.length → a ≤ n → len ≤ Rd.inrow l n → (∀ m, a ≤ m → m < n → ¬ len ≤ Rd.inrow l m) → Q (.int (n : Nat)) H)) (h5 : ((∀ m, a ≤ m → m < l.length → ¬ len ≤ Rd.inrow l m) → Q .non H)) : PFrow vs H Q
def spFrow : Sp := fun vs H Q _ => PFrow vs H Q
theorem scFrow : FnScope ["free", "how_many", "start", "night"] ["free", "how_many", "start"] (defScope sFrow) := ⟨rfl, rfl, rfl, by decide +kernel, rfl, by decide +kernel, by decide +kernel⟩
theorem ok_frow {f fR : Addr} {fd fdR : FuncData} (F : Fun K "first_in_a_row" "first_in_a_row" sFrow f fd) (R : fnRow K mg fR fdR) (O : Own mg) : FnOk P w K mg base CX0 2 f fd ["free", "how_many", "start"] spFrow := by
  have GR : FnOk P w K mg base CX0 1 fR fdR ["free", "night"] spRow := ok_row R.F O
  refine F.ok scFrow (fun vs H Q E h => ?_) (fun cdv A outer s H vs Q E hr h => ?_)
  · obtain ⟨p, l, len, a, rfl, _⟩ := h
    rfl
  · obtain ⟨p, l, len, a, rfl, hp, hl, ha, k1, k2⟩ := h
    refine ⟨_, pss_cons (ps_for PassesOwn.never rfl (pi_range2W rfl O.range (pa_cons (pv 2) (pa_cons (pe_callB (call_lenK (K := K) rfl) (by rfl) O.len PySem.boot_len (pa_cons (pv 0) pa_nil)) pa_nil))) (pg_name (i := 3) scFrow.nd rfl (Or.inl rfl))
        (pss_one (ps_if (pt_cmpR op_ge (pe_call GR hr rfl R.m R.F.kp R.b .nil pass0 (pa_cons (pv 0) (pa_cons (pv 3) pa_nil))) (pv 1) (nomark _)) (pss_one (ps_ret (pv 3))) pss_nil)))
      (pss_one (ps_ret pe_non)), ?_⟩
    refine ⟨_, rfl, _, rfl, p, _, rfl, .inl (SqL.of hp), _, _, rfl, ?_, for_range (lo := (a : Nat)) (fun i σ H' => ∃ v, σ = [some (.ref p), some (.int (len : Nat)), some (.int (a : Nat)), v] ∧ H' = H ∧ ∀ m, a ≤ m → m < a + i → ¬ len ≤ Rd.inrow l m) ⟨none, rfl, rfl, fun m h1 h2 => by omega⟩ ?_ ?_⟩
    · rw [nv_len]
      exact small_wide (by omega) ha (by omega) (by omega)
    · rintro i σ H' hi ⟨v, rfl, rfl, hno⟩
      rw [nv_len] at hi
      refine ⟨_, rfl, _, rfl, p, l, a + i, rfl, hp, ?_⟩
      refine ⟨_, rfl, wOp ⟨_, rfl, ?_⟩⟩
      refine ite2 (fun q => ?_) (fun q => ?_)
      · have q' : (len : Int) ≤ (Rd.inrow l (a + i) : Nat) := of_decide_eq_true q
        exact ⟨_, rfl, k1 (a + i) (by omega) (by omega) (by omega) fun m h1 h2 => hno m h1 h2⟩
      · have q' : ¬ (len : Int) ≤ (Rd.inrow l (a + i) : Nat) := fun z => q (decide_eq_true z)
        refine ⟨_, rfl, rfl, fun m h1 h2 => ?_⟩
        by_cases e : m = a + i
        · rw [e]
          omega
        · exact hno m h1 (by omega)
    · rintro σ H' ⟨v, rfl, rfl, hno⟩
      rw [nv_len] at hno
      exact k2 fun m h1 h2 => hno m h1 (by omega)
abbrev fnFrow (K : PySem.W.Frag) (mg : Str → Option Value) (f : Addr) (fd : FuncData) : Prop := FnAt K mg "first_in_a_row" sFrow ["free", "how_many", "start"] f fd
end
end Rk

-- RdSort
/-! sorted(xs) of a list of pairs of ints -/
namespace Rk
open PySem PySem.Spec PyProof.Rows PyProof.Rows.G L2
def PrAt (H : Hp) (v : V) (p : Int × Int) : Prop := ∃ t, v = .ref t ∧ H t = some (.tup [.int p.1, .int p.2])
theorem PrAt.same {H H' : Hp} {v : V} {p : Int × Int} (h : PrAt H v p) (k : Same H H') : PrAt H' v p := let ⟨t, e, q⟩ := h; ⟨t, e, k _ _ q⟩
def rSortedT (K : PySem.W.Frag) : List V → Hp → VK → Prop := fun vs H Q => ∃ (a : Addr) (us : List V) (ps : List (Int × Int)), vs = [V.ref a] ∧ SqL K H a us ∧ Al (PrAt H) us ps ∧
  ∀ (us' : List V) (ps' : List (Int × Int)) (q : Addr), Al (PrAt H) us' ps' → ps'.Perm ps → ps'.Pairwise Rd.lexLe → H q = none → Q (.ref q) (upd H q (.lst us'))

def shI : Nat → Bool := fun _ => false
def kfI (h : Heap) (v : Value) : Int × Int := match tupKeyC h shI v with
  | some [Sum.inl i, Sum.inl j] => (i, j)
  | _ => (0, 0)
def toV : Value → V
  | .ref t => .ref t
  | _ => .non
structure PrV (H : Hp) (h : Heap) (v : Value) (p : Int × Int) : Prop where
  rf : ∃ t, v = .ref t ∧ H t = some (.tup [.int p.1, .int p.2])
  key : tupKeyC h shI v = some [Sum.inl p.1, Sum.inl p.2]
  tup : ∃ f, TupOf h shI v f
theorem prKey {h : Heap} {a : Addr} {o : Obj} {xs : Array Value} {n : Nat} {l : List (Int ⊕ List Nat)} (ho : h.get? a = some o) (hc : o.cls = .type "tuple") (hd : o.data = .seq xs n)
    (hi : tupItems shI 0 xs.toList = some l) : tupKeyC h shI (.ref a) = some l := by
  unfold tupKeyC
  have isT : isTupObj h (.ref a) = true := by simp [isTupObj, hc, ho]
  rw [if_pos isT]
  simp only [tupKey, ho, hd]
  exact hi
theorem PrV.kf {H : Hp} {h : Heap} {v : Value} {p : Int × Int} (q : PrV H h v p) : kfI h v = p := by
  unfold kfI
  rw [q.key]
theorem tups_all {h : Heap} : ∀ {vs : List Value}, (∀ v, v ∈ vs → ∃ f, TupOf h shI v f) → ∃ fs, TupsOf h shI vs fs
  | [], _ => ⟨[], .nil⟩
  | v :: vs, k => by
    obtain ⟨f, hf⟩ := k v List.mem_cons_self
    obtain ⟨fs, hfs⟩ := tups_all (vs := vs) fun w hw => k w (List.mem_cons_of_mem _ hw)
    exact ⟨f :: fs, .cons hf hfs⟩
theorem valsTo {H : Hp} {h : Heap} : ∀ {ws : List Value}, (∀ w, w ∈ ws → ∃ p, PrV H h w p) → Vals (ws.map toV) ws
  | [], _ => .nil
  | w :: ws, k => by
    obtain ⟨p, q⟩ := k w List.mem_cons_self
    obtain ⟨t, e, _⟩ := q.rf
    subst e
    exact .cons rfl (valsTo fun w hw => k w (List.mem_cons_of_mem _ hw))
theorem alTo {H : Hp} {h : Heap} {ws : List Value} (k : ∀ w, w ∈ ws → ∃ p, PrV H h w p) : Al (PrAt H) (ws.map toV) (ws.map (kfI h)) := by
  refine ⟨by rw [List.length_map, List.length_map], fun i v x a b => ?_⟩
  rw [List.getElem?_map] at a b
  cases e : ws[i]? with
  | none =>
    rw [e] at a
    cases a
  | some w =>
    rw [e] at a b
    cases a
    cases b
    obtain ⟨p, q⟩ := k w (List.mem_of_getElem? e)
    rw [q.kf]
    obtain ⟨t, e, ht⟩ := q.rf
    subst e
    exact ⟨t, rfl, ht⟩
theorem lex_le {a b : Int × Int} (h : lexLt itemOrd [Sum.inl b.1, Sum.inl b.2] [Sum.inl a.1, Sum.inl a.2] = false) : Rd.lexLe a b := by
  obtain ⟨h1, h2⟩ := lex_false.mp h
  have h1' : ¬ b.1 < a.1 := of_decide_eq_false h1
  unfold Rd.lexLe
  rcases h2 with h2 | h2
  · exact .inl (of_decide_eq_true h2)
  · obtain ⟨h3, _⟩ := lex_false.mp h2
    have h3' : ¬ b.2 < a.2 := of_decide_eq_false h3
    omega
section
variable {X : Cx}
theorem cr_sortedT : CallR X (.builtin "sorted") (rSortedT X.K) := by
  intro pins s σ H vs us Q I r h
  obtain ⟨a, xs, ps, rfl, hs, hA, q⟩ := h
  obtain ⟨its, rv, hl, hz⟩ := I.list hs
  rw [Vals.ref1 r]
  have hlen := rv.length
  have each : ∀ (i : Nat) (w : Value), its[i]? = some w → ∃ p, ps[i]? = some p ∧ PrV H s.heap w p := fun i w hw => by
    have hi : i < xs.length := by
      rw [hlen]
      exact (List.getElem?_eq_some_iff.mp hw).1
    have ex : xs[i]? = some xs[i] := List.getElem?_eq_getElem hi
    obtain ⟨p, hp, t, et, ht⟩ := hA.getV ex
    obtain ⟨u, hu, ru⟩ := rv.get ex
    rw [hw] at hu
    cases hu
    rw [et] at ru
    have ew : w = .ref t := ru
    subst ew
    obtain ⟨_, its2, r2, o, ho, hc, n, hd⟩ := I.hok t _ ht
    obtain ⟨t1, t2, e2⟩ := Vals.int2 r2
    subst e2
    refine ⟨p, hp, ⟨t, rfl, ht⟩, prKey ho hc hd rfl, _, t, o, _, n, rfl, ho, hc, hd, rfl, fun _ => ⟨_, _, rfl⟩, fun z => absurd z (by decide)⟩
  have mem : ∀ w, w ∈ its → ∃ p, PrV H s.heap w p := fun w hw => by
    obtain ⟨i, hi⟩ := List.mem_iff_getElem?.mp hw
    obtain ⟨p, _, hp⟩ := each i w hi
    exact ⟨p, hp⟩
  have eps : its.map (kfI s.heap) = ps := by
    refine List.ext_getElem? fun i => ?_
    rw [List.getElem?_map]
    cases e : its[i]? with
    | none =>
      have : its.length ≤ i := List.getElem?_eq_none_iff.mp e
      rw [List.getElem?_eq_none (by rw [← hA.len, hlen]; exact this)]
      rfl
    | some w =>
      obtain ⟨p, hp, pv⟩ := each i w e
      rw [hp]
      show some (kfI s.heap w) = _
      rw [pv.kf]
  obtain ⟨fs, hfs⟩ := tups_all (h := s.heap) (vs := its) fun v hv => let ⟨_, p⟩ := mem v hv; p.tup
  refine sorted_tups (shape := shI) hl.isList hfs (fun v hv => let ⟨_, p⟩ := mem v hv; ⟨_, p.key⟩) (by rw [← hlen]; exact hz) fun st' hp hso _ => ?_
  have hpl : (arrOf st').toList.Perm (its.zip its) := by
    rw [← pairsOf_toList]
    exact Array.perm_iff_toList_perm.mp hp
  have hm : ∀ p, p ∈ (arrOf st').toList → p.1 = p.2 ∧ p.1 ∈ its := fun p hp' => mem_zip_self (hpl.mem_iff.mp hp')
  have eo : ((arrOf st').map (·.2)).toList = (arrOf st').toList.map (·.2) := Array.toList_map
  generalize hws : (arrOf st').toList.map (·.2) = ws at eo
  have wp : ws.Perm its := by
    have h1 := hpl.map (·.2)
    rw [hws, List.map_snd_zip (Nat.le_refl _)] at h1
    exact h1
  have wm : ∀ w, w ∈ ws → ∃ p, PrV H s.heap w p := fun w hw => mem w (wp.mem_iff.mp hw)
  obtain ⟨ep, he'⟩ := PyProof.Rows.sortedAll_at s.heap its ((arrOf st').map (·.2))
  have hl2 : (ws.map toV).length ≤ sizeLine := by
    rw [List.length_map, wp.length_eq, ← hlen]
    exact hz
  refine ⟨.ref _, upd H (s.heap.objs.size + 1) (.lst (ws.map toV)), I.laid (t' := s.toks) (fun _ _ => PyProof.Rows.sortedAll_old) (Nat.le_succ _) ⟨hl2, ws, ep, valsTo wm, ?_⟩, rfl, q _ (ws.map (kfI s.heap)) _ (alTo wm) ?_ ?_ (I.hok.fresh (Nat.le_succ _))⟩
  · rw [he']
    have e3 : (arrOf st').map (·.2) = ws.toArray := by
      rw [← eo]
    rw [e3]
  · rw [← eps]
    exact wp.map _
  · (rw [List.pairwise_iff_getElem])
    intro i j hi hj hij
    rw [List.length_map] at hi hj
    rw [List.getElem_map, List.getElem_map]
    have sz1 : (arrOf st').size = ws.length := by
      rw [← hws, List.length_map, Array.length_toList]
    have sz2 : (pairsOf its).size = ws.length := by
      rw [pairsOf_size, wp.length_eq]
    have key : ∀ (k : Nat) (hk : k < ws.length), KK (tupKindC s.heap shI) (arrOf st') k = [Sum.inl (kfI s.heap ws[k]).1, Sum.inl (kfI s.heap ws[k]).2] := fun k hk => by
      have hk' : k < (arrOf st').size := by rw [sz1]; exact hk
      have e1 : (arrOf st')[k]? = some (arrOf st')[k] := Array.getElem?_eq_getElem hk'
      have e2 : (arrOf st')[k] ∈ (arrOf st').toList := by
        rw [Array.mem_toList_iff]
        exact Array.getElem_mem hk'
      have e3 : ws[k] = (arrOf st')[k].2 := by
        have e4 : ws[k]? = some (arrOf st')[k].2 := by
          rw [← hws, List.getElem?_map, Array.getElem?_toList, e1]
          rfl
        rw [List.getElem?_eq_getElem hk] at e4
        exact Option.some.inj e4
      unfold KK
      rw [e1]
      show (tupKeyC s.heap shI (arrOf st')[k].1).getD [] = _
      obtain ⟨p, pv⟩ := wm ws[k] (List.getElem_mem hk)
      rw [(hm _ e2).1, ← e3, pv.kf, pv.key]
      rfl
    have h1 := hso i j (Nat.le_of_lt hij) (by rw [sz2]; exact hj)
    rw [key i hi, key j hj] at h1
    exact lex_le h1
end
end Rk

-- RdRooms
/-! rooms.py -/
namespace Rk
open PySem PySem.Spec PyProof.Rows L2
open Ho (Stay Desk)
open Rd (Good)
abbrev sIo : Stmt := top 20
abbrev sSh : Stmt := top 21
abbrev sLea : Stmt := top 22
abbrev sRoe : Stmt := top 23
abbrev sSie : Stmt := top 24
theorem nv_snoc (l : List Nat) (x : Nat) : nv (l ++ [x]) = nv l ++ [.int (x : Nat)] := by
  show List.map V.int (List.map _ (l ++ [x])) = _
  rw [List.map_append, List.map_append]
  rfl
theorem nv_set (l : List Nat) (k x : Nat) : (nv l).set k (.int (x : Nat)) = nv (l.set k x) := by
  show _ = List.map V.int (List.map _ (l.set k x))
  rw [List.map_set, List.map_set]
  rfl
theorem nv_rep (n x : Nat) : (List.replicate n [V.int (x : Nat)]).flatten = nv (List.replicate n x) := by
  rw [List.flatten_replicate_singleton]
  show _ = List.map V.int (List.map _ _)
  rw [List.map_replicate, List.map_replicate]
theorem nv_get {l : List Nat} {i : Nat} {v : V} (h : (nv l)[i]? = some v) : ∃ x, l[i]? = some x ∧ v = .int (x : Nat) := by
  obtain ⟨z, hz, rfl⟩ := iv_get h
  unfold Rd.zs at hz
  rw [List.getElem?_map] at hz
  cases e : l[i]? with
  | none =>
    rw [e] at hz
    cases hz
  | some x =>
    rw [e] at hz
    exact ⟨x, rfl, congrArg V.int (Option.some.inj hz).symm⟩
/-- a comprehension over enumerate(xs) -/
theorem lc_enum {K : PySem.W.Frag} {a : Addr} {xs : List V} {g : TG} {tt : TT} {te : TE} {vs : List Nat} {σ : L2.St} {H1 : Hp} {D : Addr} {Qd : Hp → Prop} (Pv : Nat → Hp → Prop) (h0 : Pv 0 (upd H1 D (.lst []))) (hl : ∀ i H, i ≤ xs.length → Pv i H → SqL K H a xs)
    (hs : ∀ i x H T, xs[i]? = some x → Pv i H → H T = none → g (.ref T) (wipe σ vs) (upd H T (.tup [.int (i : Nat), x])) fun σ2 H2 => wipe σ2 vs = wipe σ vs ∧ tt σ2 H2 fun b H3 =>
      if b = true then te σ2 H3 fun y H4 => ∃ acc, H4 D = some (.lst acc) ∧ acc.length < sizeLine ∧ Pv (i + 1) (upd H4 D (.lst (acc ++ [y]))) else Pv (i + 1) H3) (hd : ∀ H, Pv xs.length H → Qd H) :
    ∃ W : Nat → Nat → Hp → Prop, (∃ m, W 0 m (upd H1 D (.lst []))) ∧ ∀ i m H, W i m H →
      ((Ite K a).stop i H ∧ Qd H) ∨ ((Ite K a).go i H ∧ ∃ Nx : Hp → Prop, (∀ H', Nx H' → ∃ m', m' < m ∧ W (i + 1) m' H') ∧ ∀ x H', (Ite K a).yld i H x H' → g x (wipe σ vs) H' fun σ2 H2 => wipe σ2 vs = wipe σ vs ∧ tt σ2 H2 fun b H3 =>
        if b = true then te σ2 H3 fun y H4 => ∃ acc, H4 D = some (.lst acc) ∧ acc.length < sizeLine ∧ Nx (upd H4 D (.lst (acc ++ [y]))) else Nx H3) := by
  refine ⟨fun i m H => m = xs.length - i ∧ i ≤ xs.length ∧ Pv i H, ⟨xs.length, by simp, Nat.zero_le _, h0⟩, ?_⟩
  rintro i m H ⟨rfl, hi, p⟩
  have q := hl i H hi p
  by_cases hlt : i < xs.length
  · refine .inr ⟨⟨xs, xs[i], q, by simp [hlt]⟩, Pv (i + 1), fun H' p' => ⟨xs.length - (i + 1), by omega, rfl, hlt, p'⟩, fun x H' y => ?_⟩
    obtain ⟨T, x', rfl, hT, rfl, y⟩ := y
    exact hs i x' _ T (y xs q) p hT
  · have e : i = xs.length := by omega
    subst e
    exact .inl ⟨⟨xs, q, Nat.le_refl _⟩, hd H p⟩
section
variable {P : Program} {w : World} {K : PySem.W.Frag} {mg : Str → Option Value} {base : Heap}
/-! ### share_a_night -/
inductive PSh (CS : Addr) (vs : List V) (H : Hp) (Q : VK) : Prop
 | mk (a b : Addr) (s t : Stay) (h0 : vs = [.ref a, .ref b]) (h1 : StAt CS H a s) (h2 : StAt CS H b t) (h3 : Q (.bl (Ho.meets s t)) H) : PSh CS vs H Q
def spSh (CS : Addr) : Sp := fun vs H Q _ => PSh CS vs H Q
theorem scSh : FnScope ["one", "other"] ["one", "other"] (defScope sSh) := ⟨rfl, rfl, rfl, by decide +kernel, rfl, by decide +kernel, by decide +kernel⟩
theorem ok_sh {f CS fS : Addr} {fd fdS : FuncData} (F : Fun K "share_a_night" "share_a_night" sSh f fd) (T : StayCl K mg CS fS fdS) : FnOk P w K mg base CX0 1 f fd ["one", "other"] (spSh CS) := by
  refine F.ok scSh (fun vs H Q E h => ?_) (fun cdv A outer s H vs Q E hr h => ?_)
  · obtain ⟨a, b, s, t, rfl, _⟩ := h
    rfl
  · obtain ⟨a, b, u, t, rfl, ⟨da, ha⟩, ⟨db, hb⟩, k⟩ := h
    have n1 := T.no "start" (by decide +kernel)
    have n2 := T.no "end" (by decide +kernel)
    refine ⟨_, pss_one (ps_ret (pe_and (pe_cmpR op_lt (pe_fldK (K := K) rfl (pv 0) rfl) (pe_fldK (K := K) rfl (pv 1) rfl) (nomark _)) (pe_one (pe_cmpR op_lt (pe_fldK (K := K) rfl (pv 1) rfl) (pe_fldK (K := K) rfl (pv 0) rfl) (nomark _))))), ?_⟩
    refine (wFld rfl ha T.cl n1 (stF_start _ _ _) (wFld rfl hb T.cl n2 (stF_end _ _ _) ⟨_, _, rfl, rfl, _, rfl, ?_⟩))
    rw [dec_natlt]
    unfold Ho.meets at k
    refine ite2 (fun g => ?_) (fun g => ?_)
    · rw [g, Bool.true_and] at k
      refine (wFld rfl hb T.cl n1 (stF_start _ _ _) (wFld rfl ha T.cl n2 (stF_end _ _ _) ⟨_, _, rfl, rfl, ?_⟩))
      show Q (.bl (decide ((t.from_ : Int) < (u.to_ : Int)))) H
      rw [dec_natlt]
      exact k
    · have g' : decide (u.from_ < t.to_) = false := by simpa using g
      rw [g', Bool.false_and] at k
      exact k
abbrev fnSh (K : PySem.W.Frag) (mg : Str → Option Value) (f : Addr) (fd : FuncData) : Prop := FnAt K mg "share_a_night" sSh ["one", "other"] f fd

/-! ### least_room -/
inductive PLea (vs : List V) (H : Hp) (Q : VK) : Prop
 | mk (p : Addr) (l : List Nat) (m : Nat) (h0 : vs = [.ref p]) (h1 : H p = some (.lst (nv l))) (h2 : m ∉ l) (h3 : (∀ r, r < m → r ∈ l)) (h4 : Q (.int (m : Nat)) H) : PLea vs H Q
def spLea : Sp := fun vs H Q _ => PLea vs H Q
theorem scLea : FnScope ["taken", "room"] ["taken"] (defScope sLea) := ⟨rfl, rfl, rfl, by decide +kernel, rfl, by decide +kernel, by decide +kernel⟩
theorem ok_lea {f : Addr} {fd : FuncData} (F : Fun K "least_room" "least_room" sLea f fd) : FnOk P w K mg base CX0 1 f fd ["taken"] spLea := by
  refine F.ok scLea (fun vs H Q E h => ?_) (fun cdv A outer s H vs Q E hr h => ?_)
  · obtain ⟨p, l, m, rfl, _⟩ := h
    rfl
  · obtain ⟨p, l, m, rfl, hp, hm, hr', k⟩ := h
    refine ⟨_, pss_cons (ps_set (i := 1) scLea.nd rfl (Or.inl rfl) pe_int)
      (pss_cons (ps_while PassesOwn.never (pt_cmpR (r := rIn K false) op_in_seq (pv 1) (pv 0) (by with_unfolding_all rfl))
        (pss_one (ps_aug (i := 1) scLea.nd rfl (Or.inl rfl) pe_int ip_add)))
      (pss_one (ps_ret (pv 1)))), ?_⟩
    refine while_by (fun σ H' => X1 fun (i : Nat) => A3 (i ≤ m) (σ = [some (.ref p), some (.int (i : Nat))]) (H' = H)) (fun σ _ => leftAt 1 m σ) ⟨0, Nat.zero_le _, rfl, rfl⟩ ?_ ?_
    · rintro σ H' ⟨i, hi, rfl, rfl⟩
      refine ⟨_, rfl, _, rfl, p, _, rfl, .inl (SqL.of hp), rfl, flat_iv _, _, rfl, ?_⟩
      show if (if false = true then !inV (.int ((i : Nat) : Int)) (nv l) else inV (.int ((i : Nat) : Int)) (nv l)) = true then _ else _
      rw [if_neg (by decide : ¬ false = true), inV_nv]
      refine ite2 (fun q => ?_) (fun q => ?_)
      · have mem : i ∈ l := by simpa using q
        have lt : i < m := by
          rcases Nat.lt_or_ge i m with z | z
          · exact z
          · have e : i = m := Nat.le_antisymm hi z
            rw [e] at mem
            exact absurd mem hm
        refine ⟨_, rfl, _, _, rfl, rfl, ⟨i + 1, lt, rfl, rfl⟩, ?_⟩
        show m - (((i : Nat) : Int) + 1).toNat < m - ((i : Nat) : Int).toNat
        omega
      · have mem : ¬ i ∈ l := by simpa using q
        have e : i = m := Nat.le_antisymm hi (Nat.le_of_not_lt fun lt => mem (hr' i lt))
        rw [e]
        exact ⟨_, rfl, k⟩
    · rintro σ H' Q1 Q2 hQ ⟨v, e, v2, e2, a, ys, e3, hs3, f1, f2, b, e6, q⟩
      exact ⟨v, e, v2, e2, a, ys, e3, hs3, f1, f2, b, e6, hQ _ _ q⟩
abbrev fnLea (K : PySem.W.Frag) (mg : Str → Option Value) (f : Addr) (fd : FuncData) : Prop := FnAt K mg "least_room" sLea ["taken"] f fd

/-! ### in_their_order -/
inductive PIo (CS : Addr) (vs : List V) (H : Hp) (Q : VK) : Prop
 | mk (p : Addr) (d : Desk) (h0 : vs = [.ref p]) (h1 : LsAt CS H p d.stays) (h2 : d.stays.length ≤ 40) (h3 : ∀ (H' : Hp) (q : Addr), Same H H' → H q = none → H' q = some (.lst (nv ((Rd.ordr d).map (·.1)))) → Q (.ref q) H') : PIo CS vs H Q
def spIo (CS : Addr) : Sp := fun vs H Q _ => PIo CS vs H Q
theorem scIo : FnScope ["stays", "there", "number", "stay", "pair"] ["stays"] (defScope sIo) := ⟨rfl, rfl, rfl, by decide +kernel, rfl, by decide +kernel, by decide +kernel⟩
theorem blkIo1 : BlkOk ["stays", "there", "number", "stay", "pair"] (defScope sIo) { kind := .function, names := [(".0", .local), ("number", .local), ("stay", .local)], isGenerator := false, isCoroutine := false } [("number", 2), ("stay", 3)] :=
  ⟨rfl, by decide +kernel, by decide +kernel, by decide +kernel, by decide +kernel⟩
theorem blkIo2 : BlkOk ["stays", "there", "number", "stay", "pair"] (defScope sIo) { kind := .function, names := [(".0", .local), ("pair", .local)], isGenerator := false, isCoroutine := false } [("pair", 4)] :=
  ⟨rfl, by decide +kernel, by decide +kernel, by decide +kernel, by decide +kernel⟩
theorem th_take {l : List (Option Stay)} {i : Nat} {o : Option Stay} (h : l[i]? = some o) : Rd.th 0 (l.take (i + 1)) = Rd.th 0 (l.take i) ++ (match o with | none => [] | some s => [(i, s)]) := by
  have hi : i < l.length := (List.getElem?_eq_some_iff.mp h).1
  rw [take_snoc h, Rd.th_append, List.length_take, Nat.min_eq_left (Nat.le_of_lt hi), Nat.zero_add]
  cases o with
  | none => rfl
  | some s => rfl
theorem th_take_len {l : List (Option Stay)} {i : Nat} (h : l.length ≤ 40) : (Rd.th 0 (l.take i)).length ≤ 40 := by
  have a := Rd.th_length (l.take i) 0
  rw [List.length_take] at a
  omega
theorem ok_io {f CS fS : Addr} {fd fdS : FuncData} (F : Fun K "in_their_order" "in_their_order" sIo f fd) (T : StayCl K mg CS fS fdS) (O : Own mg) : FnOk P w K mg base CX0 1 f fd ["stays"] (spIo CS) := by
  refine F.ok scIo (fun vs H Q E h => ?_) (fun cdv A outer s H vs Q E hr h => ?_)
  · obtain ⟨p, d, rfl, _⟩ := h
    rfl
  · obtain ⟨p, d, rfl, ⟨vs, hp, hA⟩, hl, k⟩ := h
    have n1 := T.no "start" (by decide +kernel)
    refine ⟨_, pss_cons (ps_setLc (i := 1) (own := [("number", 2), ("stay", 3)]) rfl scIo.nd rfl rfl (sw_true rfl rfl rfl rfl) (pi_enumK (K := K) rfl rfl O.enum (pa_cons (pv 0) pa_nil)) blkIo1
        (fun _ _ _ _ _ => pg_tupK (K := K) (n := 2) rfl rfl (pgs_cons (pg_name (i := 2) scIo.nd rfl (Or.inl rfl)) (pgs_cons (pg_name (i := 3) scIo.nd rfl (Or.inl rfl)) pgs_nil)))
        (fun _ _ _ _ _ => pts_one (pt_cmpR op_notN (pv 3) pe_non (nomark _))) (fun _ _ _ _ _ => pe_tup (pa_cons (pe_fldK (K := K) rfl (pv 3) rfl) (pa_cons (pv 2) pa_nil))))
      (pss_one (ps_ret (pe_lc (own := [("pair", 4)]) rfl scIo.nd (pi_listK (K := K) rfl (pe_callB cr_sortedT (by rfl) O.srt boot_sorted (pa_cons (pv 1) pa_nil))) blkIo2 (fun _ _ _ _ _ => pg_name (i := 4) scIo.nd rfl (Or.inl rfl)) (fun _ _ _ _ _ => pts_nil)
        (fun _ _ _ _ _ => pe_ix (r := rIxT K) ix_tup (pv 4) pe_int (fun _ _ => rfl))))), ?_⟩
    refine ⟨_, rfl, p, _, rfl, SqL.of hp, fun D hD => lc_enum (K := K) (a := p) (xs := vs)
      (fun i H' => Same H H' ∧ ∃ us, H' D = some (.lst us) ∧ Al (PrAt H') us ((Rd.th 0 (d.stays.take i)).map Rd.pairOf)) ⟨same_upd hD, [], upd_same, Al.nil⟩ (fun i H' _ h => SqL.of (h.1 _ _ hp)) ?_ ?_⟩
    · rintro i x H' Tt hi ⟨s1, us, hD1, hU⟩ hT
      obtain ⟨o, ho, ro⟩ := hA.getV hi
      have et := th_take ho
      have lenU : us.length ≤ 40 := by
        rw [hU.len, List.length_map]
        exact th_take_len hl
      have s3 : Same H' (upd H' Tt (.tup [.int (i : Nat), x])) := same_upd hT
      have hT3 : (upd H' Tt (.tup [.int (i : Nat), x])) Tt = some (.tup [.int (i : Nat), x]) := upd_same
      generalize upd H' Tt (.tup [.int (i : Nat), x]) = H3 at s3 hT3
      refine ⟨Tt, _, rfl, SqT.of hT3, rfl, _, _, rfl, _, _, rfl, rfl, rfl, ?_⟩
      cases o with
      | none =>
        have ey : x = .non := ro
        subst ey
        refine ⟨_, rfl, rfl, _, rfl, ?_⟩
        skip
        rw [if_neg (by simp)]
        refine ⟨s1.trans s3, us, s3 _ _ hD1, ?_⟩
        rw [et, List.append_nil]
        exact hU.mono fun v e r => r.same s3
      | some st =>
        obtain ⟨a, rfl, dx, hst⟩ := ro
        refine ⟨_, rfl, rfl, _, rfl, ?_⟩
        skip
        rw [if_pos (by simp)]
        have hst3 := s3 _ _ (s1 _ _ hst)
        refine (wFld rfl hst3 T.cl n1 (stF_start _ _ _) ⟨_, rfl, (by show 2 ≤ sizeLine; decide), fun t ht => ?_⟩)
        have s4 : Same H3 (upd H3 t (.tup [.int st.from_, .int (i : Nat)])) := same_upd ht
        have ht4 : (upd H3 t (.tup [.int st.from_, .int (i : Nat)])) t = some (.tup [.int st.from_, .int (i : Nat)]) := upd_same
        generalize upd H3 t (.tup [.int st.from_, .int (i : Nat)]) = H4 at s4 ht4
        have hD4 := s4 _ _ (s3 _ _ hD1)
        refine ⟨us, hD4, szl (by omega), fun b e q => ?_, us ++ [.ref t], upd_same, ?_⟩
        · rw [upd_ne (ne_of_none q hD)]
          exact s4 _ _ (s3 _ _ (s1 _ _ q))
        · have keep : ∀ v q, PrAt H4 v q → PrAt (upd H4 D (.lst (us ++ [.ref t]))) v q := fun v q r => by
            obtain ⟨t', e', h'⟩ := r
            refine ⟨t', e', ?_⟩
            rw [upd_ne (ne_of h' hD4 (by intro z; cases z))]
            exact h'
          rw [et, List.map_append]
          exact (hU.mono fun v q r => keep v q (r.same (s3.trans s4))).snoc (keep _ _ ⟨t, rfl, ht4⟩)
    · rintro H1 ⟨s1, us, hD1, hU⟩
      rw [hA.len, List.take_length, ← Rd.there_eq] at hU
      refine ⟨_, rfl, D, us, _, rfl, SqL.of hD1, hU, fun us' ps' q hU' hpm hps nq => ?_⟩
      have eps := Rd.sorted_pairs hpm hps
      subst eps
      have s2 : Same H1 (upd H1 q (.lst us')) := same_upd nq
      have hq2 : (upd H1 q (.lst us')) q = some (.lst us') := upd_same
      generalize upd H1 q (.lst us') = H2 at s2 hq2
      have hlen : us'.length ≤ 40 := by
        rw [hU'.len, List.length_map]
        exact Nat.le_trans (Rd.ordr_len d) hl
      refine ⟨q, rfl, ⟨_, SqL.of hq2⟩, fun D2 hD2 => lc_list (K := K) (a := q) (xs := us')
        (fun i H' => Same H2 H' ∧ H' D2 = some (.lst (nv (((Rd.ordr d).map (·.1)).take i)))) ⟨same_upd hD2, upd_same⟩ (fun i H' _ h => SqL.of (h.1 _ _ hq2)) ?_ ?_⟩
      · rintro i x H' hx ⟨s5, hD5⟩
        obtain ⟨pr, hpr, t, et, ht⟩ := hU'.getV hx
        subst et
        rw [List.getElem?_map] at hpr
        cases eo : (Rd.ordr d)[i]? with
        | none =>
          rw [eo] at hpr
          cases hpr
        | some y =>
          rw [eo] at hpr
          have epr : Rd.pairOf y = pr := Option.some.inj hpr
          subst epr
          refine ⟨rfl, ?_⟩
          unfold tYes
          dsimp only
          rw [if_pos rfl]
          refine ⟨_, rfl, wRixT (SqT.of (s5 _ _ (s2 _ _ ht))) (at_of (j := 1) rfl rfl) ⟨_, hD5, ?_, ?_⟩⟩
          · rw [nv_len, List.length_take, List.length_map]
            have := Rd.ordr_len d
            exact szl (by omega)
          · refine ⟨fun b e q' => ?_, ?_⟩
            · rw [upd_ne (ne_of_none q' hD2)]
              exact s5 _ _ q'
            · rw [upd_same]
              have e1 : ((Rd.ordr d).map (·.1))[i]? = some y.1 := by
                rw [List.getElem?_map, eo]
                rfl
              rw [take_snoc e1, nv_snoc]
              rfl
      · rintro H' ⟨s5, hD5⟩
        rw [hU'.len, List.length_map] at hD5
        have e2 : ((Rd.ordr d).map (·.1)).take (Rd.ordr d).length = (Rd.ordr d).map (·.1) := List.take_of_length_le (by rw [List.length_map]; exact Nat.le_refl _)
        rw [e2] at hD5
        have s6 : Same H H2 := s1.trans s2
        exact k H' D2 (s6.trans s5) (s6.free hD2) hD5
abbrev fnIo (K : PySem.W.Frag) (mg : Str → Option Value) (f : Addr) (fd : FuncData) : Prop := FnAt K mg "in_their_order" sIo ["stays"] f fd
end
end Rk

-- RdRooms2
/-! rooms.py, the rest -/
namespace Rk
open PySem PySem.Spec PyProof.Rows L2
open Ho (Stay Desk)
open Rd (Good)
/-- rooms of those among the first j of them that meet x -/
def tkn (d : Desk) (i j : Nat) (x : Stay) : List Nat := (((Rd.hadN d i).take j).filter fun y => Ho.meets y.2.1 x).map (·.2.2)
theorem tkn_succ {d : Desk} {i j : Nat} {x : Stay} {y : Nat × (Stay × Nat)} (h : (Rd.hadN d i)[j]? = some y) : tkn d i (j + 1) x = tkn d i j x ++ (if Ho.meets y.2.1 x = true then [y.2.2] else []) := by
  unfold tkn
  rw [take_snoc h, List.filter_append, List.map_append]
  by_cases q : Ho.meets y.2.1 x = true
  · rw [if_pos q, List.filter_cons_of_pos (by exact q)]
    rfl
  · rw [if_neg q, List.filter_cons_of_neg (by exact q)]
    rfl
theorem tkn_all (d : Desk) (i : Nat) (x : Stay) : tkn d i (Rd.hadN d i).length x = Rd.takenN d i x := by
  unfold tkn Rd.takenN
  rw [List.take_length]
theorem hadN_len (d : Desk) (i : Nat) : (Rd.hadN d i).length ≤ d.stays.length := by
  have a : (Rd.hadN d i).length = ((Rd.ordr d).take i).length := by
    rw [← Rd.hadN_who, List.length_map]
  have := Rd.ordr_len d
  rw [a, List.length_take]
  omega
theorem tkn_len (d : Desk) (i j : Nat) (x : Stay) : (tkn d i j x).length ≤ d.stays.length := by
  unfold tkn
  rw [List.length_map]
  refine Nat.le_trans (List.length_filter_le _ _) ?_
  rw [List.length_take]
  have := hadN_len d i
  omega
section
variable {P : Program} {w : World} {K : PySem.W.Frag} {mg : Str → Option Value} {base : Heap}
/-! ### room_of_each -/
inductive PRoe (CS : Addr) (vs : List V) (H : Hp) (Q : VK) : Prop
 | mk (p : Addr) (d : Desk) (h0 : vs = [.ref p, .int (d.rooms : Nat)]) (h1 : LsAt CS H p d.stays) (h2 : Good d) (h3 : ∀ (H' : Hp) (q : Addr), Same H H' → H q = none → H' q = some (.lst (nv (Rd.roomsOf d.stays.length d.rooms d.lodged))) → Q (.ref q) H') : PRoe CS vs H Q
def spRoe (CS : Addr) : Sp := fun vs H Q _ => PRoe CS vs H Q
theorem scRoe : FnScope ["stays", "gone", "rooms", "came", "number", "taken", "other"] ["stays", "gone"] (defScope sRoe) := ⟨rfl, rfl, rfl, by decide +kernel, rfl, by decide +kernel, by decide +kernel⟩
theorem blkRoe : BlkOk ["stays", "gone", "rooms", "came", "number", "taken", "other"] (defScope sRoe) { kind := .function, names := [(".0", .local), ("other", .local), ("share_a_night", .globalImplicit), ("number", .free), ("rooms", .free), ("stays", .free)], isGenerator := false, isCoroutine := false } [("other", 6)] :=
  ⟨rfl, by decide +kernel, by decide +kernel, by decide +kernel, by decide +kernel⟩
theorem ok_roe {f CS fS fI fH fL : Addr} {fd fdS fdI fdH fdL : FuncData} (F : Fun K "room_of_each" "room_of_each" sRoe f fd) (T : StayCl K mg CS fS fdS) (Io : fnIo K mg fI fdI) (Sh : fnSh K mg fH fdH) (Le : fnLea K mg fL fdL) (O : Own mg) :
    FnOk P w K mg base CX0 2 f fd ["stays", "gone"] (spRoe CS) := by
  have GI : FnOk P w K mg base CX0 1 fI fdI ["stays"] (spIo CS) := ok_io Io.F T O
  have GH : FnOk P w K mg base CX0 1 fH fdH ["one", "other"] (spSh CS) := ok_sh Sh.F T
  have GL : FnOk P w K mg base CX0 1 fL fdL ["taken"] spLea := ok_lea Le.F
  refine F.ok scRoe (fun vs H Q E h => ?_) (fun cdv A outer s H vs Q E hr h => ?_)
  · obtain ⟨p, d, rfl, _⟩ := h
    rfl
  · obtain ⟨p, d, rfl, ⟨vs, hp, hA⟩, g, k⟩ := h
    have hl40 := g.sl
    have hvl := hA.len
    refine ⟨_, pss_cons (ps_set (i := 2) scRoe.nd rfl (Or.inr rfl) (pe_op op_rep (pe_lst (pa_cons (pv 1) pa_nil)) (pe_callB (call_lenK (K := K) rfl) (by rfl) O.len PySem.boot_len (pa_cons (pv 0) pa_nil))))
      (pss_cons (ps_set (i := 3) scRoe.nd rfl (Or.inl rfl) (pe_lst pa_nil))
      (pss_cons (ps_for PassesOwn.never rfl (pi_listK (K := K) rfl (pe_call GI hr rfl Io.m Io.F.kp Io.b .nil pass0 (pa_cons (pv 0) pa_nil))) (pg_name (i := 4) scRoe.nd rfl (Or.inr rfl))
        (pss_cons (ps_setLc (i := 5) (own := [("other", 6)]) rfl scRoe.nd rfl rfl (sw_true rfl rfl rfl rfl) (pi_listK (K := K) rfl (pv 3)) blkRoe
          (fun _ _ _ _ _ => pg_name (i := 6) scRoe.nd rfl (Or.inl rfl))
          (fun _ _ _ _ _ => pts_one (pt_val (pe_call GH hr rfl Sh.m Sh.F.kp Sh.b .nil pass0 (pa_cons (pe_ix (r := rIxL K) ix_list (pv 0) (pv 6) (fun _ _ => rfl)) (pa_cons (pe_ix (r := rIxL K) ix_list (pv 0) (pv 4) (fun _ _ => rfl)) pa_nil)))))
          (fun _ _ _ _ _ => pe_ix (r := rIxL K) ix_list (pv 2) (pv 6) (fun _ _ => rfl)))
        (pss_cons (ps_asg (pe_call GL hr rfl Le.m Le.F.kp Le.b .nil pass0 (pa_cons (pv 5) pa_nil)) (pg_sub (pv 2) (pv 4) set_list))
        (pss_one (ps_expr (pe_bmK (K := K) rfl PySem.F.plainAttrs_list PySem.F.slot_list_append PySem.F.type_list_append mt_append (pv 3) (pa_cons (pv 4) pa_nil)))))))
      (pss_one (ps_ret (pv 2))))), ?_⟩
    -- rooms = [gone] * len(stays)
    refine ⟨_, rfl, (by show 1 ≤ sizeLine; decide), fun u hu => ?_⟩
    have s0 : Same H (upd H u (.lst [.int (d.rooms : Nat)])) := same_upd hu
    refine ⟨_, rfl, p, _, rfl, .inl (SqL.of (s0 _ _ hp)), u, _, _, rfl, rfl, upd_same, by omega, by omega, ?_, fun pr hpr => ?_⟩
    · show 1 * (((vs.length : Nat) : Int)).toNat ≤ sizeLine
      rw [hA.len]
      exact sz (by omega)
    rw [hA.len, Int.toNat_natCast, nv_rep, ← Rd.roomsOf_nil]
    have fpr : H pr = none := s0.free hpr
    have s1 : Same H (upd (upd H u (.lst [.int (d.rooms : Nat)])) pr (.lst (nv (Rd.roomsOf d.stays.length d.rooms [])))) := Same.upd1 s0 hpr
    have hpr1 : (upd (upd H u (.lst [.int (d.rooms : Nat)])) pr (.lst (nv (Rd.roomsOf d.stays.length d.rooms [])))) pr = some (.lst (nv (Rd.roomsOf d.stays.length d.rooms []))) := upd_same
    generalize upd (upd H u (.lst [.int (d.rooms : Nat)])) pr (.lst (nv (Rd.roomsOf d.stays.length d.rooms []))) = H1 at s1 hpr1
    -- came = []
    refine ⟨Nat.zero_le _, fun pc hpc => ?_⟩
    have fpc : H pc = none := s1.free hpc
    have npc : pr ≠ pc := ne_of_none hpr1 hpc
    have s2 : Same H1 (upd H1 pc (.lst [])) := same_upd hpc
    have hpc2 : (upd H1 pc (.lst [])) pc = some (.lst []) := upd_same
    generalize upd H1 pc (.lst []) = H2 at s2 hpc2
    have s02 := s1.trans s2
    have hpr2 := s2 _ _ hpr1
    -- for number in in_their_order(stays)
    refine ⟨_, rfl, p, d, rfl, ⟨vs, s02 _ _ hp, hA.mono fun v o r => r.same s02⟩, hl40, fun H3 q s3 nq hq => ?_⟩
    have s03 := s02.trans s3
    have nqr : q ≠ pr := Ne.symm (ne_of_none hpr2 nq)
    have nqc : q ≠ pc := Ne.symm (ne_of_none hpc2 nq)
    refine ⟨q, rfl, ⟨_, SqL.of hq⟩, for_list (K := K) (a := q) (xs := nv ((Rd.ordr d).map (·.1)))
      (fun i σ H' => X2 fun (v4 v5 : Option V) => A4 (σ = [some (.ref p), some (.int (d.rooms : Nat)), some (.ref pr), some (.ref pc), v4, v5, none]) ((∀ b o, H3 b = some o → b ≠ pr → b ≠ pc → H' b = some o)) (H' pr = some (.lst (nv (Rd.roomsOf d.stays.length d.rooms (Rd.hadN d i))))) (H' pc = some (.lst (nv ((Rd.hadN d i).map (·.1))))))
      ⟨none, none, rfl, fun b o e _ _ => e, s3 _ _ hpr2, s3 _ _ hpc2⟩ (fun i σ H' _ hh => (by obtain ⟨_, _, _, kp, _, _⟩ := hh; exact SqL.of (kp _ _ hq nqr nqc))) ?_ ?_⟩
    · rintro i y σ H' hi ⟨v4, v5, rfl, kp, hr4, hc4⟩
      obtain ⟨nm, hnm, rfl⟩ := nv_get hi
      rw [List.getElem?_map] at hnm
      cases eo : (Rd.ordr d)[i]? with
      | none =>
        rw [eo] at hnm
        cases hnm
      | some x =>
        rw [eo] at hnm
        have ex : x.1 = nm := Option.some.inj hnm
        subst ex
        have keepS : ∀ b o, H b = some o → H' b = some o := fun b o e => kp _ _ (s03 _ _ e) (ne_of_none e fpr) (ne_of_none e fpc)
        have sH : Same H H' := fun b o e => keepS b o e
        have hxs : d.stays[x.1]? = some (some x.2) := Rd.ordr_mem.mp (List.mem_of_getElem? eo)
        have hxl : x.1 < d.stays.length := (List.getElem?_eq_some_iff.mp hxs).1
        obtain ⟨xv, hxv, xa, rfl, xd, hxa⟩ := hA.get hxs
        -- taken = [..]
        refine ⟨_, rfl, pc, rfl, ⟨_, SqL.of hc4⟩, fun D hD => lc_list (K := K) (a := pc) (xs := nv ((Rd.hadN d i).map (·.1)))
          (fun j H5 => Same H' H5 ∧ H5 D = some (.lst (nv (tkn d i j x.2)))) ⟨same_upd hD, upd_same⟩ (fun j H5 _ h => SqL.of (h.1 _ _ hc4)) ?_ ?_⟩
        · rintro j z H5 hz ⟨s5, hD5⟩
          obtain ⟨nz, hnz, rfl⟩ := nv_get hz
          rw [List.getElem?_map] at hnz
          cases ez : (Rd.hadN d i)[j]? with
          | none =>
            rw [ez] at hnz
            cases hnz
          | some y =>
            rw [ez] at hnz
            have ey : y.1 = nz := Option.some.inj hnz
            subst ey
            have hy : y ∈ Rd.hadN d i := List.mem_of_getElem? ez
            have hys := Rd.hadN_stay hy
            have hyl : y.1 < d.stays.length := (List.getElem?_eq_some_iff.mp hys).1
            obtain ⟨yv, hyv, ya, rfl, yd, hya⟩ := hA.get hys
            have hp5 := s5 _ _ (keepS _ _ hp)
            have len := tkn_len d i j x.2
            refine ⟨rfl, ?_⟩
            refine (wIx rfl rfl (SqL.of hp5) (at_of (j := y.1) rfl hyv) ?_)
            refine (wIx rfl rfl (SqL.of hp5) (at_of (j := x.1) rfl hxv) ?_)
            refine ⟨ya, xa, y.2.1, x.2, rfl, ⟨yd, s5 _ _ (keepS _ _ hya)⟩, ⟨xd, s5 _ _ (keepS _ _ hxa)⟩, _, rfl, ?_⟩
            have et := tkn_succ (x := x.2) ez
            refine ite2 (fun q1 => ?_) (fun q1 => ?_)
            · rw [if_pos q1] at et
              refine (wIx rfl rfl (SqL.of (s5 _ _ hr4)) (at_of (j := y.1) rfl (nv_at (Rd.roomsOf_at (Rd.hadN_nodup d i) hy hyl))) ⟨_, hD5, ?_, ?_, ?_⟩)
              · rw [nv_len]
                exact szl (by omega)
              · intro b o e
                rw [upd_ne (ne_of_none e hD)]
                exact s5 _ _ e
              · rw [upd_same, et, nv_snoc]
            · rw [if_neg q1, List.append_nil] at et
              rw [et]
              exact ⟨s5, hD5⟩
        · rintro H5 ⟨s5, hD5⟩
          rw [nv_len, List.length_map, tkn_all] at hD5
          obtain ⟨l1, l2⟩ := Rd.taken_least g eo
          have hr5 := s5 _ _ hr4
          have hc5 := s5 _ _ hc4
          -- rooms[number] = least_room(taken)
          refine ⟨_, rfl, D, Rd.takenN d i x.2, Rd.rm d.rooms (Rd.hadN d i) x.2, rfl, hD5, l1, l2, ?_⟩
          refine ⟨_, rfl, _, rfl, pr, _, _, x.1, rfl, rfl, hr5, ixN_nat (by rw [nv_len, Rd.roomsOf_length]; exact hxl), ?_⟩
          rw [nv_set, ← Rd.roomsOf_lodge (Rd.new_num eo) hxl, ← Rd.hadN_succ eo]
          -- came.append(number)
          have hc6 : (upd H5 pr (.lst (nv (Rd.roomsOf d.stays.length d.rooms (Rd.hadN d (i + 1)))))) pc = some (.lst (nv ((Rd.hadN d i).map (·.1)))) := by
            rw [upd_ne (Ne.symm npc)]
            exact hc5
          refine ⟨_, rfl, .inl ⟨rfl, _, SqL.of hc6⟩, _, rfl, pc, _, _, rfl, rfl, hc6, ?_, ?_⟩
          · rw [nv_len, List.length_map]
            have := hadN_len d i
            exact szl (by omega)
          · refine ⟨_, _, rfl, fun b o e h1 h2 => ?_, ?_, ?_⟩
            · rw [upd_ne h2, upd_ne h1]
              exact s5 _ _ (kp b o e h1 h2)
            · rw [upd_ne npc, upd_same]
            · rw [upd_same, ← nv_snoc, Rd.hadN_succ eo]
              unfold Rd.lodge
              rw [List.map_append]
              rfl
    · rintro σ H' ⟨v4, v5, rfl, kp, hr4, hc4⟩
      rw [nv_len, List.length_map, Rd.hadN_all] at hr4
      exact ⟨_, rfl, k H' pr (fun b o e => kp _ _ (s03 _ _ e) (ne_of_none e fpr) (ne_of_none e fpc)) fpr hr4⟩
abbrev fnRoe (K : PySem.W.Frag) (mg : Str → Option Value) (f : Addr) (fd : FuncData) : Prop := FnAt K mg "room_of_each" sRoe ["stays", "gone"] f fd

/-! ### stay_in_each -/
inductive PSie (CS : Addr) (vs : List V) (H : Hp) (Q : VK) : Prop
 | mk (p : Addr) (d : Desk) (n : Nat) (h0 : vs = [.ref p, .int (d.rooms : Nat), .int (n : Nat)]) (h1 : LsAt CS H p d.stays) (h2 : Good d) (h3 : ∀ (H' : Hp) (q : Addr), Same H H' → H q = none → H' q = some (.lst (nv (Rd.nightRow d n))) → Q (.ref q) H') : PSie CS vs H Q
def spSie (CS : Addr) : Sp := fun vs H Q _ => PSie CS vs H Q
theorem scSie : FnScope ["stays", "rooms", "night", "had", "number", "room", "stay"] ["stays", "rooms", "night"] (defScope sSie) := ⟨rfl, rfl, rfl, by decide +kernel, rfl, by decide +kernel, by decide +kernel⟩
theorem ok_sie {f CS fS fI fH fL fR : Addr} {fd fdS fdI fdH fdL fdR : FuncData} (F : Fun K "stay_in_each" "stay_in_each" sSie f fd) (T : StayCl K mg CS fS fdS) (Io : fnIo K mg fI fdI) (Sh : fnSh K mg fH fdH) (Le : fnLea K mg fL fdL) (Ro : fnRoe K mg fR fdR) (O : Own mg) :
    FnOk P w K mg base CX0 3 f fd ["stays", "rooms", "night"] (spSie CS) := by
  have GR : FnOk P w K mg base CX0 2 fR fdR ["stays", "gone"] (spRoe CS) := ok_roe Ro.F T Io Sh Le O
  refine F.ok scSie (fun vs H Q E h => ?_) (fun cdv A outer s H vs Q E hr h => ?_)
  · obtain ⟨p, d, n, rfl, _⟩ := h
    rfl
  · obtain ⟨p, d, n, rfl, ⟨vs, hp, hA⟩, g, k⟩ := h
    have hl40 := g.sl
    have hr8 := g.r8
    have n1 := T.no "start" (by decide +kernel)
    have n2 := T.no "end" (by decide +kernel)
    refine ⟨_, pss_cons (ps_set (i := 3) scSie.nd rfl (Or.inl rfl) (pe_op op_rep (pe_lst (pa_cons pe_int pa_nil)) (pv 1)))
      (pss_cons (ps_for PassesOwn.never rfl (pi_enumK (K := K) rfl rfl O.enum (pa_cons (pe_call GR hr rfl Ro.m Ro.F.kp Ro.b .nil pass0 (pa_cons (pv 0) (pa_cons (pv 1) pa_nil))) pa_nil)) (pg_tupK (K := K) (n := 2) rfl rfl (pgs_cons (pg_name (i := 4) scSie.nd rfl (Or.inl rfl)) (pgs_cons (pg_name (i := 5) scSie.nd rfl (Or.inl rfl)) pgs_nil)))
        (pss_cons (ps_set (i := 6) scSie.nd rfl (Or.inl rfl) (pe_ix (r := rIxL K) ix_list (pv 0) (pv 4) (fun _ _ => rfl)))
        (pss_one (ps_if (PW.pt (pw_and (pt_cmpR op_notN (pv 6) pe_non (nomark _)) (pw_and1 (pt_chain op_le op_lt (pe_fldK (K := K) rfl (pv 6) rfl) (pv 2) (pe_fldK (K := K) rfl (pv 6) rfl)))))
          (pss_one (ps_asg (pe_op op_add (pv 4) pe_int) (pg_sub (pv 3) (pv 5) set_list))) pss_nil))))
      (pss_one (ps_ret (pv 3)))), ?_⟩
    refine ⟨(by show 1 ≤ sizeLine; decide), fun u hu => ?_⟩
    have s0 : Same H (upd H u (.lst [.int 0])) := same_upd hu
    refine ⟨_, rfl, u, _, _, rfl, rfl, upd_same, by omega, by omega, ?_, fun ph hph => ?_⟩
    · show 1 * (((d.rooms : Nat) : Int)).toNat ≤ sizeLine
      exact sz (by omega)
    have erep : (List.replicate (((d.rooms : Nat) : Int)).toNat [V.int 0]).flatten = nv (List.replicate d.rooms 0) := by
      rw [Int.toNat_natCast]
      exact nv_rep d.rooms 0
    rw [erep]
    have fph : H ph = none := s0.free hph
    have s1 : Same H (upd (upd H u (.lst [.int 0])) ph (.lst (nv (List.replicate d.rooms 0)))) := Same.upd1 s0 hph
    have hph1 : (upd (upd H u (.lst [.int 0])) ph (.lst (nv (List.replicate d.rooms 0)))) ph = some (.lst (nv (List.replicate d.rooms 0))) := upd_same
    generalize upd (upd H u (.lst [.int 0])) ph (.lst (nv (List.replicate d.rooms 0))) = H1 at s1 hph1
    refine ⟨_, rfl, _, rfl, p, d, rfl, ⟨vs, s1 _ _ hp, hA.mono fun v o r => r.same s1⟩, g, fun H2 q s2 nq hq => ?_⟩
    have s02 := s1.trans s2
    have nqh : q ≠ ph := Ne.symm (ne_of_none hph1 nq)
    refine ⟨q, _, rfl, SqL.of hq, for_enum (K := K) (a := q) (xs := nv (Rd.roomsOf d.stays.length d.rooms d.lodged))
      (fun i σ H' => X4 fun (v4 v5 v6 : Option V) (l : List Nat) => A4 (σ = [some (.ref p), some (.int (d.rooms : Nat)), some (.int (n : Nat)), some (.ref ph), v4, v5, v6]) ((∀ b o, H2 b = some o → b ≠ ph → H' b = some o)) (H' ph = some (.lst (nv l))) (Rd.RowTo d n i l))
      ⟨none, none, none, _, rfl, fun b o e _ => e, s2 _ _ hph1, Rd.RowTo.zero d n⟩ (fun i σ H' _ hh => (by obtain ⟨_, _, _, _, _, kp, _, _⟩ := hh; exact SqL.of (kp _ _ hq nqh))) ?_ ?_⟩
    · rintro i y σ H' Tt hi ⟨v4, v5, v6, l, rfl, kp, hl4, hR⟩ hT
      obtain ⟨rm, hrm, rfl⟩ := nv_get hi
      have hil : i < d.stays.length := by
        have a := (List.getElem?_eq_some_iff.mp hrm).1
        rw [Rd.roomsOf_length] at a
        exact a
      have s3 : Same H' (upd H' Tt (.tup [.int (i : Nat), .int (rm : Nat)])) := same_upd hT
      have hT3 : (upd H' Tt (.tup [.int (i : Nat), .int (rm : Nat)])) Tt = some (.tup [.int (i : Nat), .int (rm : Nat)]) := upd_same
      generalize upd H' Tt (.tup [.int (i : Nat), .int (rm : Nat)]) = H3 at s3 hT3
      have keepS : ∀ b o, H b = some o → H3 b = some o := fun b o e => s3 _ _ (kp _ _ (s02 _ _ e) (ne_of_none e fph))
      have hl3 := s3 _ _ hl4
      have ho : d.stays[i]? = some d.stays[i] := List.getElem?_eq_getElem hil
      obtain ⟨v, hv, rv⟩ := hA.get ho
      refine ⟨Tt, _, rfl, SqT.of hT3, rfl, _, _, rfl, _, _, rfl, rfl, ?_⟩
      refine (wIx rfl rfl (SqL.of (keepS _ _ hp)) (at_of (j := i) rfl hv) ?_)
      have skip : Rd.RowTo d n (i + 1) l → X4 fun (v4 v5 v6 : Option V) (l : List Nat) => A4 ([some (V.ref p), some (.int (d.rooms : Nat)), some (.int (n : Nat)), some (.ref ph), some (.int (i : Nat)), some (.int (rm : Nat)), some v] = [some (.ref p), some (.int (d.rooms : Nat)), some (.int (n : Nat)), some (.ref ph), v4, v5, v6]) ((∀ b o, H2 b = some o → b ≠ ph → H3 b = some o)) (H3 ph = some (.lst (nv l))) (Rd.RowTo d n (i + 1) l) :=
        fun r => ⟨_, _, _, l, rfl, fun b o e hb => s3 _ _ (kp b o e hb), hl3, r⟩
      cases eo : d.stays[i] with
      | none =>
        rw [eo] at rv ho
        have ev : v = .non := rv
        subst ev
        refine ⟨_, rfl, rfl, _, rfl, ?_⟩
        refine iteN (by simp) ?_
        refine iteN (by simp) ?_
        exact skip (hR.skip fun st hs => by
          rw [ho] at hs
          cases hs)
      | some st =>
        rw [eo] at rv ho
        obtain ⟨a, rfl, dx, hst⟩ := rv
        have hst3 := keepS _ _ hst
        refine ⟨_, rfl, rfl, _, rfl, ?_⟩
        refine iteP (by simp) ?_
        refine (wFld rfl hst3 T.cl n1 (stF_start _ _ _) ⟨_, rfl, wOp ⟨_, rfl, ?_⟩⟩)
        rw [dec_natle]
        refine ite2 (fun q1 => ?_) (fun q1 => ?_)
        · have c1 := of_decide_eq_true q1
          refine (wFld rfl hst3 T.cl n2 (stF_end _ _ _) ⟨_, _, rfl, rfl, _, rfl, ?_⟩)
          rw [dec_natlt]
          refine ite2 (fun q2 => ?_) (fun q2 => ?_)
          · have c2 := of_decide_eq_true q2
            have cov : Ho.covers st n = true := Rd.covers_iff.mpr ⟨c1, c2⟩
            obtain ⟨r, hr'⟩ := Rd.lodged_has ho
            have er := Rd.roomsOf_at (n := d.stays.length) (R := d.rooms) (Rd.lodged_nodup d) hr' hil
            dsimp only at er
            rw [hrm] at er
            have er' : rm = r := Option.some.inj er
            subst er'
            have hlt : rm < d.rooms := Rd.lodged_room g hr'
            refine ⟨_, rfl, wOp ⟨_, rfl, _, rfl, ph, _, _, rm, rfl, rfl, hl3, ixN_nat (by rw [nv_len, hR.len]; exact hlt), ?_⟩⟩
            have eset : (nv l).set rm (.int (((i : Nat) : Int) + 1)) = nv (l.set rm (i + 1)) := nv_set l rm (i + 1)
            rw [eset]
            exact ⟨_, _, _, _, rfl, fun b o e hb => by rw [upd_ne hb]; exact s3 _ _ (kp b o e hb), upd_same, hR.put g hr' cov⟩
          · have c2 : ¬ n < st.to_ := fun z => q2 (decide_eq_true z)
            exact skip (hR.skip fun st' hs => by
              rw [ho] at hs
              cases hs
              cases e : Ho.covers st n with
              | false => rfl
              | true => exact absurd (Rd.covers_iff.mp e).2 c2)
        · have c1 : ¬ st.from_ ≤ n := fun z => q1 (decide_eq_true z)
          refine ⟨_, rfl, ?_⟩
          refine iteN (by simp) ?_
          exact skip (hR.skip fun st' hs => by
              rw [ho] at hs
              cases hs
              cases e : Ho.covers st n with
              | false => rfl
              | true => exact absurd (Rd.covers_iff.mp e).1 c1)
    · rintro σ H' ⟨v4, v5, v6, l, rfl, kp, hl4, hR⟩
      rw [nv_len, Rd.roomsOf_length] at hR
      have e := hR.done g (Nat.le_refl _)
      subst e
      exact ⟨_, rfl, k H' ph (fun b o e => kp _ _ (s02 _ _ e) (ne_of_none e fph)) fph hl4⟩
abbrev fnSie (K : PySem.W.Frag) (mg : Str → Option Value) (f : Addr) (fd : FuncData) : Prop := FnAt K mg "stay_in_each" sSie ["stays", "rooms", "night"] f fd
end
end Rk

-- RdDesk1
namespace Rk
open PySem PySem.Spec PyProof.Rows L2
open Ho (Stay Desk)
open Rd (Cho Edge Good)
abbrev sDesk : Stmt := inClass (top 38) 0
abbrev sAnsw : Stmt := top 39
abbrev sIsSt : Stmt := top 40
abbrev sHas : Stmt := top 41
abbrev sFnow : Stmt := top 42
abbrev sStri : Stmt := top 43
abbrev sBeg : Stmt := top 44
abbrev sBook : Stmt := top 45
abbrev sChan : Stmt := top 46
abbrev sOff : Stmt := top 47
abbrev sChsn : Stmt := top 48
abbrev sChoo : Stmt := top 49
abbrev sPric : Stmt := top 50
abbrev sSett : Stmt := top 51
abbrev sRms : Stmt := top 52
abbrev sNigh : Stmt := top 53
abbrev sFon : Stmt := top 54
abbrev sFst : Stmt := top 55
abbrev sUnt : Stmt := top 56
abbrev sTold : Stmt := top 57
abbrev sInc : Stmt := top 58
abbrev sOst : Stmt := top 59

theorem pe_gi {X : Cx} {x : Str} {z : Int} {t : Tok} {pos : Pos} (hg : Gl X x) (hm : X.mg x = some (.int z t)) (hd : (x == ("__debug__" : Str)) = false := by decide) : PE X (.Name x pos) (tC (.int z)) := pe_glob (v := .int z) hg hm ⟨t, rfl⟩ hd
/-! ### attributes, by hand -/
theorem putF_hit (f : Str) (v x : V) (r : List (Str × V)) : putF f v ((f, x) :: r) = (f, v) :: r := by
  show (if f = f then _ else _) = _
  rw [if_pos rfl]
theorem putF_miss {f g : Str} (h : g ≠ f) (v x : V) (r : List (Str × V)) : putF f v ((g, x) :: r) = (g, x) :: putF f v r := by
  show (if g = f then _ else _) = _
  rw [if_neg h]
theorem look_hit (f : Str) (v : V) (r : List (Str × V)) : ((f, v) :: r).lookup f = some v := by
  unfold List.lookup
  rw [beq_self_eq_true]
theorem look_miss {f g : Str} (h : g ≠ f) (v : V) (r : List (Str × V)) : ((f, v) :: r).lookup g = r.lookup g := by
  conv => lhs; unfold List.lookup
  rw [beq_eq_false_iff_ne.mpr h]

def dkF (r n s o : V) : List (Str × V) := [("rooms", r), ("nights", n), ("stays", s), ("offers", o)]
theorem dk_new (r n s o : V) : putF "offers" o (putF "stays" s (putF "nights" n (putF "rooms" r []))) = dkF r n s o := by
  show putF "offers" o (putF "stays" s (putF "nights" n [("rooms", r)])) = _
  rw [putF_miss (by decide +kernel)]
  show putF "offers" o (putF "stays" s [("rooms", r), ("nights", n)]) = _
  rw [putF_miss (by decide +kernel), putF_miss (by decide +kernel)]
  show putF "offers" o [("rooms", r), ("nights", n), ("stays", s)] = _
  rw [putF_miss (by decide +kernel), putF_miss (by decide +kernel), putF_miss (by decide +kernel)]
  rfl
theorem dk_rooms (v r n s o : V) : putF "rooms" v (dkF r n s o) = dkF v n s o := putF_hit _ _ _ _
theorem dk_nights (v r n s o : V) : putF "nights" v (dkF r n s o) = dkF r v s o := by
  unfold dkF
  rw [putF_miss (by decide +kernel), putF_hit]
theorem dk_stays (v r n s o : V) : putF "stays" v (dkF r n s o) = dkF r n v o := by
  unfold dkF
  rw [putF_miss (by decide +kernel), putF_miss (by decide +kernel), putF_hit]
theorem dk_offers (v r n s o : V) : putF "offers" v (dkF r n s o) = dkF r n s v := by
  unfold dkF
  rw [putF_miss (by decide +kernel), putF_miss (by decide +kernel), putF_miss (by decide +kernel), putF_hit]
theorem dkF_rooms (r n s o : V) : (dkF r n s o).lookup ("rooms" : Str) = some r := look_hit _ _ _
theorem dkF_nights (r n s o : V) : (dkF r n s o).lookup ("nights" : Str) = some n := by
  unfold dkF
  rw [look_miss (by decide +kernel), look_hit]
theorem dkF_stays (r n s o : V) : (dkF r n s o).lookup ("stays" : Str) = some s := by
  unfold dkF
  rw [look_miss (by decide +kernel), look_miss (by decide +kernel), look_hit]
theorem dkF_offers (r n s o : V) : (dkF r n s o).lookup ("offers" : Str) = some o := by
  unfold dkF
  rw [look_miss (by decide +kernel), look_miss (by decide +kernel), look_miss (by decide +kernel), look_hit]

/-- the desk d stands at a, its stays at ps, its offers at po -/
structure DkAt (CS CD : Addr) (H : Hp) (a dx ps po : Addr) (d : Desk) : Prop where
  ins : H a = some (.ins CD dx (dkF (.int d.rooms) (.int d.nights) (.ref ps) (.ref po)))
  st : LsAt CS H ps d.stays
  off : LsAt CS H po d.offers
  ne : ps ≠ po
/-- a Stay's fields are no Desk's -/
theorem stF_ne_dkF (a b c r n s o : V) : stF a b c ≠ dkF r n s o := by
  intro h
  have e := congrArg (fun l => List.lookup ("rooms" : Str) l) h
  rw [dkF_rooms] at e
  unfold stF at e
  rw [lookup_putF, if_neg (by decide +kernel), lookup_putF, if_neg (by decide +kernel), lookup_putF, if_neg (by decide +kernel)] at e
  cases e
theorem LsAt.list {CS : Addr} {H : Hp} {p : Addr} {l : List (Option Stay)} (h : LsAt CS H p l) : ∃ vs, H p = some (.lst vs) := let ⟨vs, e, _⟩ := h; ⟨vs, e⟩
/-- what is neither the desk nor one of its lists stays: so do the stays -/
theorem StAt.keep {CS CD : Addr} {H H' : Hp} {a dx ps po x : Addr} {d : Desk} {s : Stay} (D : DkAt CS CD H a dx ps po d) (h : StAt CS H x s) (k : ∀ b o, H b = some o → b ≠ a → b ≠ ps → b ≠ po → H' b = some o) : StAt CS H' x s := by
  obtain ⟨dy, e⟩ := h
  obtain ⟨vs, e1⟩ := D.st.list
  obtain ⟨us, e2⟩ := D.off.list
  refine ⟨dy, k _ _ e (ne_of e D.ins ?_) (ne_of e e1 (by intro z; cases z)) (ne_of e e2 (by intro z; cases z))⟩
  intro z
  injection z with _ _ z3
  exact stF_ne_dkF _ _ _ _ _ _ _ z3
theorem OpAt.keep {CS CD : Addr} {H H' : Hp} {a dx ps po : Addr} {d : Desk} {v : V} {o : Option Stay} (D : DkAt CS CD H a dx ps po d) (h : OpAt CS H v o) (k : ∀ b o, H b = some o → b ≠ a → b ≠ ps → b ≠ po → H' b = some o) : OpAt CS H' v o := by
  cases o with
  | none => exact h
  | some s =>
    obtain ⟨x, e, q⟩ := h
    exact ⟨x, e, q.keep D k⟩
theorem DkAt.same {CS CD : Addr} {H H' : Hp} {a dx ps po : Addr} {d : Desk} (D : DkAt CS CD H a dx ps po d) (k : Same H H') : DkAt CS CD H' a dx ps po d := ⟨k _ _ D.ins, D.st.same k, D.off.same k, D.ne⟩

/-- what a call on the desk is to come to: the desk then, what is answered -/
def Told (CS CD : Addr) (H : Hp) (a dx ps po : Addr) (z : Desk × Ho.Answer) (Q : VK) : Prop := ∀ (H' : Hp) (ps' po' q : Addr), DkAt CS CD H' a dx ps' po' z.1 → H q = none → H' q = some (.lst (iv (RoomNeutral.told z.2))) →
  (∀ b o, H b = some o → b ≠ a → b ≠ ps → b ≠ po → H' b = some o ∧ b ≠ ps' ∧ b ≠ po') → Q (.ref q) H'
theorem Told.same {CS CD : Addr} {H : Hp} {a dx ps po : Addr} {z : Desk × Ho.Answer} {Q : VK} (h : Told CS CD H a dx ps po z Q) (D : DkAt CS CD H a dx ps po z.1) {H' : Hp} {q : Addr} (s : Same H H') (nq : H q = none) (hq : H' q = some (.lst (iv (RoomNeutral.told z.2)))) : Q (.ref q) H' :=
  h H' ps po q (D.same s) nq hq fun b o e _ h2 h3 => ⟨s b o e, h2, h3⟩

section
variable {P : Program} {w : World} {K : PySem.W.Frag} {mg : Str → Option Value} {base : Heap}
/-! ### the program's numbers -/
structure Cst (mg : Str → Option Value) : Prop where
  rooms : ∃ t, mg "MOST_ROOMS" = some (.int 8 t)
  nights : ∃ t, mg "MOST_NIGHTS" = some (.int 60 t)
  price : ∃ t, mg "MOST_PRICE" = some (.int 1000000 t)
  stays : ∃ t, mg "MOST_STAY_NUMBERS" = some (.int 40 t)
  offers : ∃ t, mg "MOST_OFFER_NUMBERS" = some (.int 10 t)
  bad : ∃ t, mg "NO_SUCH_VALUE" = some (.int (-1) t)
  notb : ∃ t, mg "NOT_BEGUN" = some (.int (-2) t)
  nonu : ∃ t, mg "NO_SUCH_NUMBER" = some (.int (-3) t)
  full : ∃ t, mg "NO_ROOM" = some (.int (-4) t)
  nofd : ∃ t, mg "NONE_FOUND" = some (.int (-5) t)
  used : ∃ t, mg "USED_UP" = some (.int (-9) t)

/-! ### Desk.__init__ -/
inductive PDesk (CD : Addr) (vs : List V) (H : Hp) (Q : VK) : Prop
 | mk (p dx : Addr) (h0 : vs = [.ref p]) (h1 : H p = some (.ins CD dx [])) (h2 : ∀ (H' : Hp) (ps po : Addr), H' p = some (.ins CD dx (dkF (.int 0) (.int 0) (.ref ps) (.ref po))) → H' ps = some (.lst []) → H' po = some (.lst []) → ps ≠ po → H ps = none → H po = none → (∀ b o, H b = some o → b ≠ p → H' b = some o) → Q .non H') : PDesk CD vs H Q
def spDesk (CD : Addr) : Sp := fun vs H Q _ => PDesk CD vs H Q
theorem scDesk : FnScope ["self"] ["self"] (defScope sDesk) := ⟨rfl, rfl, rfl, by decide +kernel, rfl, by decide +kernel, by decide +kernel⟩
abbrev DeskCl (K : PySem.W.Frag) (mg : Str → Option Value) (C f : Addr) (fd : FuncData) : Prop := ClAt K mg "Desk" "Desk.__init__" sDesk ["rooms", "nights", "stays", "offers"] ["self"] C f fd
theorem ok_desk {f C : Addr} {fd : FuncData} (T : DeskCl K mg C f fd) : FnOk P w K mg base CX0 1 f fd ["self"] (spDesk C) := by
  refine T.F.ok scDesk (fun vs H Q E h => ?_) (fun cdv A outer s H vs Q E hr h => ?_)
  · obtain ⟨p, dx, rfl, _⟩ := h
    rfl
  · obtain ⟨p, dx, rfl, hp, k⟩ := h
    have n1 := T.no "rooms" (by decide +kernel)
    have n2 := T.no "nights" (by decide +kernel)
    have n3 := T.no "stays" (by decide +kernel)
    have n4 := T.no "offers" (by decide +kernel)
    refine ⟨_, pss_cons (ps_fldK (K := K) rfl (pv 0) pe_int rfl) (pss_cons (ps_fldK (K := K) rfl (pv 0) pe_int rfl) (pss_cons (ps_fldK (K := K) rfl (pv 0) (pe_lst pa_nil) rfl) (pss_one (ps_fldK (K := K) rfl (pv 0) (pe_lst pa_nil) rfl)))), ?_⟩
    refine ⟨_, rfl, p, C, dx, _, rfl, hp, T.cl, n1, (by show 0 < 1000; decide), ?_⟩
    refine ⟨_, rfl, p, C, dx, _, rfl, upd_same, T.cl, n2, (by show 1 < 1000; decide), ?_⟩
    rw [upd_upd]
    have k1 : ∀ b o, H b = some o → b ≠ p → (upd H p (.ins C dx (putF "nights" (.int 0) (putF "rooms" (.int 0) [])))) b = some o := fun b o e hb => by rw [upd_ne hb]; exact e
    have hp1 : (upd H p (.ins C dx (putF "nights" (.int 0) (putF "rooms" (.int 0) [])))) p = some (.ins C dx (putF "nights" (.int 0) (putF "rooms" (.int 0) []))) := upd_same
    have f1 : ∀ b, (upd H p (.ins C dx (putF "nights" (.int 0) (putF "rooms" (.int 0) [])))) b = none → H b = none := fun b e => by
      by_cases hb : b = p
      · rw [hb, upd_same] at e
        cases e
      · rw [upd_ne hb] at e
        exact e
    generalize upd H p (.ins C dx (putF "nights" (.int 0) (putF "rooms" (.int 0) []))) = H1 at k1 hp1 f1
    refine ⟨Nat.zero_le _, fun ps hps => ?_⟩
    have nps : ps ≠ p := Ne.symm (ne_of_none hp1 hps)
    refine ⟨_, rfl, p, C, dx, _, rfl, (by rw [upd_ne (Ne.symm nps)]; exact hp1), T.cl, n3, (by show 2 < 1000; decide), ?_⟩
    refine ⟨Nat.zero_le _, fun po hpo => ?_⟩
    have npo : po ≠ p := fun e => by
      rw [e, upd_same] at hpo
      cases hpo
    have npp : po ≠ ps := fun e => by
      rw [e, upd_ne nps, upd_same] at hpo
      cases hpo
    refine ⟨_, rfl, p, C, dx, _, rfl, (by rw [upd_ne (Ne.symm npo)]; exact upd_same), T.cl, n4, (by show 3 < 1000; decide), ?_⟩
    refine k _ ps po ?_ ?_ ?_ (Ne.symm npp) (f1 _ hps) (f1 _ ?_) fun b o e hb => ?_
    · rw [upd_same]
      exact congrArg (fun q => some (HO.ins C dx q)) (dk_new _ _ _ _)
    · rw [upd_ne nps, upd_ne (Ne.symm npp), upd_ne nps, upd_same]
    · rw [upd_ne npo, upd_same]
    · rw [upd_ne npo, upd_ne npp] at hpo
      exact hpo
    · have h1 := k1 b o e hb
      have b1 : b ≠ ps := ne_of_none h1 hps
      have b2 : b ≠ po := ne_of_none e (f1 _ (by rw [upd_ne npo, upd_ne npp] at hpo; exact hpo))
      rw [upd_ne hb, upd_ne b2, upd_ne hb, upd_ne b1]
      exact h1

/-! ### answer -/
inductive PAnsw (vs : List V) (H : Hp) (Q : VK) : Prop
 | mk (z : Int) (p : Addr) (r : List Int) (h0 : vs = [.int z, .ref p]) (h1 : H p = some (.lst (iv r))) (h2 : r.length ≤ 1000) (h3 : ∀ (H' : Hp) (q : Addr), Same H H' → H q = none → H' q = some (.lst (iv (z :: (r.length : Int) :: r))) → Q (.ref q) H') : PAnsw vs H Q
def spAnsw : Sp := fun vs H Q _ => PAnsw vs H Q
theorem scAnsw : FnScope ["number", "row"] ["number", "row"] (defScope sAnsw) := ⟨rfl, rfl, rfl, by decide +kernel, rfl, by decide +kernel, by decide +kernel⟩
theorem ok_answ {f : Addr} {fd : FuncData} (F : Fun K "answer" "answer" sAnsw f fd) (O : Own mg) : FnOk P w K mg base CX0 1 f fd ["number", "row"] spAnsw := by
  refine F.ok scAnsw (fun vs H Q E h => ?_) (fun cdv A outer s H vs Q E hr h => ?_)
  · obtain ⟨z, p, r, rfl, _⟩ := h
    rfl
  · obtain ⟨z, p, r, rfl, hp, hl, k⟩ := h
    refine ⟨_, pss_one (ps_ret (pe_op op_cat (pe_lst (pa_cons (pv 0) (pa_cons (pe_callB (call_lenK (K := K) rfl) (by rfl) O.len PySem.boot_len (pa_cons (pv 1) pa_nil)) pa_nil))) (pv 1))), ?_⟩
    refine ⟨_, rfl, _, rfl, p, _, rfl, .inl (SqL.of hp), (by show 2 ≤ sizeLine; decide), fun u hu => ?_⟩
    rw [iv_len]
    refine ⟨_, rfl, u, p, _, _, rfl, rfl, upd_same, (same_upd hu _ _ hp), ?_, fun q hq => ?_⟩
    · rw [iv_len]
      exact sz (by show 2 + _ ≤ _; omega)
    · exact k _ q (Same.upd1 (same_upd hu) hq) ((same_upd hu).free hq) upd_same
abbrev fnAnsw (K : PySem.W.Frag) (mg : Str → Option Value) (f : Addr) (fd : FuncData) : Prop := FnAt K mg "answer" sAnsw ["number", "row"] f fd

/-! ### is_stay -/
inductive PIsSt (CS CD : Addr) (vs : List V) (H : Hp) (Q : VK) : Prop
 | mk (a dx ps po x : Addr) (d : Desk) (s : Stay) (h0 : vs = [.ref a, .ref x]) (h1 : DkAt CS CD H a dx ps po d) (h2 : StAt CS H x s) (h3 : Q (.bl (Ho.isStay d s.from_ s.to_ s.price)) H) : PIsSt CS CD vs H Q
def spIsSt (CS CD : Addr) : Sp := fun vs H Q _ => PIsSt CS CD vs H Q
theorem scIsSt : FnScope ["desk", "stay"] ["desk", "stay"] (defScope sIsSt) := ⟨rfl, rfl, rfl, by decide +kernel, rfl, by decide +kernel, by decide +kernel⟩
theorem dec_nat_lt (a b : Nat) : decide ((a : Int) < (b : Int)) = decide (a < b) := decide_eq_decide.mpr (by omega)
theorem dec_nat_le (a b : Nat) : decide ((a : Int) ≤ (b : Int)) = decide (a ≤ b) := decide_eq_decide.mpr (by omega)
theorem ok_isSt {f CS fS CD fD : Addr} {fd fdS fdD : FuncData} (F : Fun K "is_stay" "is_stay" sIsSt f fd) (T : StayCl K mg CS fS fdS) (TD : DeskCl K mg CD fD fdD) (N : Cst mg) : FnOk P w K mg base CX0 1 f fd ["desk", "stay"] (spIsSt CS CD) := by
  refine F.ok scIsSt (fun vs H Q E h => ?_) (fun cdv A outer s H vs Q E hr h => ?_)
  · obtain ⟨a, dx, ps, po, x, d, s, rfl, _⟩ := h
    rfl
  · obtain ⟨a, dx, ps, po, x, d, st, rfl, hD, ⟨dy, hx⟩, k⟩ := h
    have n1 := T.no "start" (by decide +kernel)
    have n2 := T.no "end" (by decide +kernel)
    have n3 := T.no "price" (by decide +kernel)
    have m2 := TD.no "nights" (by decide +kernel)
    obtain ⟨tp, hp⟩ := N.price
    refine ⟨_, pss_one (ps_ret (pe_and (pe_cmpR op_lt (pe_fldK (K := K) rfl (pv 1) rfl) (pe_fldK (K := K) rfl (pv 1) rfl) (nomark _)) (pe_and (pe_cmpR op_le (pe_fldK (K := K) rfl (pv 1) rfl) (pe_fldK (K := K) rfl (pv 0) rfl) (nomark _)) (pe_one (pe_cmpR op_le (pe_fldK (K := K) rfl (pv 1) rfl) (pe_gi rfl hp) (nomark _)))))), ?_⟩
    refine (wFld rfl hx T.cl n1 (stF_start _ _ _) (wFld rfl hx T.cl n2 (stF_end _ _ _) ⟨_, _, rfl, rfl, _, rfl, ?_⟩))
    rw [dec_nat_lt]
    unfold Ho.isStay at k
    refine ite2 (fun g => ?_) (fun g => ?_)
    · rw [g, Bool.true_and] at k
      refine (wFld rfl hx T.cl n2 (stF_end _ _ _) (wFld rfl hD.ins TD.cl m2 (dkF_nights _ _ _ _) ⟨_, _, rfl, rfl, _, rfl, ?_⟩))
      rw [dec_nat_le]
      refine ite2 (fun g2 => ?_) (fun g2 => ?_)
      · rw [g2, Bool.true_and] at k
        refine (wFld rfl hx T.cl n3 (stF_price _ _ _) ⟨_, _, rfl, rfl, ?_⟩)
        show Q (.bl (decide ((st.price : Int) ≤ 1000000))) H
        rw [show decide ((st.price : Int) ≤ 1000000) = decide (st.price ≤ Ho.PRICE) from dec_nat_le _ 1000000]
        exact k
      · have g2' : decide (st.to_ ≤ d.nights) = false := by simpa using g2
        rw [g2', Bool.false_and] at k
        exact k
    · have g' : decide (st.from_ < st.to_) = false := by simpa using g
      rw [g', Bool.false_and] at k
      exact k
abbrev fnIsSt (K : PySem.W.Frag) (mg : Str → Option Value) (f : Addr) (fd : FuncData) : Prop := FnAt K mg "is_stay" sIsSt ["desk", "stay"] f fd

/-! ### has_number -/
inductive PHas (CS : Addr) (vs : List V) (H : Hp) (Q : VK) : Prop
 | mk (p : Addr) (l : List (Option Stay)) (k : Nat) (h0 : vs = [.ref p, .int (k : Nat)]) (h1 : LsAt CS H p l) (h2 : Q (.bl (Ho.stayOf l k).isSome) H) : PHas CS vs H Q
def spHas (CS : Addr) : Sp := fun vs H Q _ => PHas CS vs H Q
theorem scHas : FnScope ["listed", "number"] ["listed", "number"] (defScope sHas) := ⟨rfl, rfl, rfl, by decide +kernel, rfl, by decide +kernel, by decide +kernel⟩
theorem ok_has {f CS : Addr} {fd : FuncData} (F : Fun K "has_number" "has_number" sHas f fd) (O : Own mg) : FnOk P w K mg base CX0 1 f fd ["listed", "number"] (spHas CS) := by
  refine F.ok scHas (fun vs H Q E h => ?_) (fun cdv A outer s H vs Q E hr h => ?_)
  · obtain ⟨p, l, k, rfl, _⟩ := h
    rfl
  · obtain ⟨p, l, n, rfl, ⟨vs, hp, hA⟩, k⟩ := h
    refine ⟨_, pss_one (ps_ret (pe_and (pe_cmpR op_lt (pv 1) (pe_callB (call_lenK (K := K) rfl) (by rfl) O.len PySem.boot_len (pa_cons (pv 0) pa_nil)) (nomark _)) (pe_one (pe_cmpR op_notN (pe_ix (r := rIxL K) ix_list (pv 0) (pv 1) (fun _ _ => rfl)) pe_non (nomark _))))), ?_⟩
    refine ⟨_, rfl, _, rfl, p, _, rfl, .inl (SqL.of hp), _, _, rfl, rfl, _, rfl, ?_⟩
    rw [dec_nat_lt, hA.len]
    refine ite2 (fun g => ?_) (fun g => ?_)
    · have g' := of_decide_eq_true g
      have e : l[n]? = some l[n] := List.getElem?_eq_getElem g'
      obtain ⟨v, hv, rv⟩ := hA.get e
      refine (wIx rfl rfl (SqL.of hp) (at_of (j := n) rfl hv) ⟨rfl, ?_⟩)
      unfold Ho.stayOf at k
      rw [e] at k
      have k' : Q (.bl l[n].isSome) H := k
      cases eo : l[n] with
      | none =>
        rw [eo] at rv k'
        have rv' : v = .non := rv
        rw [rv']
        simpa using k'
      | some st =>
        rw [eo] at rv k'
        obtain ⟨x, rfl, _⟩ := rv
        simpa using k'
    · have g' : ¬ n < l.length := fun z => g (decide_eq_true z)
      unfold Ho.stayOf at k
      rw [List.getElem?_eq_none (by omega)] at k
      exact k
abbrev fnHas (K : PySem.W.Frag) (mg : Str → Option Value) (f : Addr) (fd : FuncData) : Prop := FnAt K mg "has_number" sHas ["listed", "number"] f fd

/-! ### strike -/
inductive PStri (CS : Addr) (vs : List V) (H : Hp) (Q : VK) : Prop
 | mk (p : Addr) (l : List (Option Stay)) (k : Nat) (h0 : vs = [.ref p, .int (k : Nat)]) (h1 : LsAt CS H p l) (h2 : (Ho.stayOf l k = none → ∀ (H' : Hp) (q : Addr), Same H H' → H q = none → H' q = some (.lst (iv [-3, 0])) → Q (.ref q) H')) (h3 : (∀ s, Ho.stayOf l k = some s → ∀ (H' : Hp) (q : Addr), LsAt CS H' p (l.set k none) → (∀ b o, H b = some o → b ≠ p → H' b = some o) → H q = none → H' q = some (.lst (iv [0, 0])) → Q (.ref q) H')) : PStri CS vs H Q
def spStri (CS : Addr) : Sp := fun vs H Q _ => PStri CS vs H Q
theorem scStri : FnScope ["listed", "number"] ["listed", "number"] (defScope sStri) := ⟨rfl, rfl, rfl, by decide +kernel, rfl, by decide +kernel, by decide +kernel⟩
theorem ok_stri {f CS fA fH : Addr} {fd fdA fdH : FuncData} (F : Fun K "strike" "strike" sStri f fd) (An : fnAnsw K mg fA fdA) (Ha : fnHas K mg fH fdH) (O : Own mg) (N : Cst mg) : FnOk P w K mg base CX0 2 f fd ["listed", "number"] (spStri CS) := by
  have GA : FnOk P w K mg base CX0 1 fA fdA ["number", "row"] spAnsw := ok_answ An.F O
  have GH : FnOk P w K mg base CX0 1 fH fdH ["listed", "number"] (spHas CS) := ok_has Ha.F O
  refine F.ok scStri (fun vs H Q E h => ?_) (fun cdv A outer s H vs Q E hr h => ?_)
  · obtain ⟨p, l, k, rfl, _⟩ := h
    rfl
  · obtain ⟨p, l, n, rfl, hL, k1, k2⟩ := h
    obtain ⟨tn, hn⟩ := N.nonu
    refine ⟨_, pss_cons (ps_if (pt_not (pt_val (pe_call GH hr rfl Ha.m Ha.F.kp Ha.b .nil pass0 (pa_cons (pv 0) (pa_cons (pv 1) pa_nil)))))
        (pss_one (ps_ret (pe_call GA hr rfl An.m An.F.kp An.b .nil pass0 (pa_cons (pe_gi rfl hn) (pa_cons (pe_lst pa_nil) pa_nil))))) pss_nil)
      (pss_cons (ps_asg pe_non (pg_sub (pv 0) (pv 1) set_list))
      (pss_one (ps_ret (pe_call GA hr rfl An.m An.F.kp An.b .nil pass0 (pa_cons pe_int (pa_cons (pe_lst pa_nil) pa_nil)))))), ?_⟩
    refine ⟨_, rfl, _, rfl, p, l, n, rfl, hL, _, rfl, ?_⟩
    cases e : Ho.stayOf l n with
    | none =>
      refine ⟨Nat.zero_le _, fun u hu => ⟨_, u, [], rfl, upd_same, Nat.zero_le _, fun H' q s' nq hq => k1 e H' q ((same_upd hu).trans s') ((same_upd hu).free nq) hq⟩⟩
    | some st =>
      obtain ⟨vs, hp, hA⟩ := hL
      have hlt : n < l.length := by
        unfold Ho.stayOf at e
        cases e2 : l[n]? with
        | none =>
          rw [e2] at e
          cases e
        | some o => exact (List.getElem?_eq_some_iff.mp e2).1
      refine ⟨_, rfl, _, rfl, p, _, _, n, rfl, rfl, hp, ixN_nat (by rw [hA.len]; exact hlt), ?_⟩
      refine ⟨Nat.zero_le _, fun u hu => ⟨_, u, [], rfl, upd_same, Nat.zero_le _, fun H' q s' nq hq => k2 st e H' q ?_ ?_ (upd_none (upd_none nq).1).1 hq⟩⟩
      · have s2 : Same (upd H p (.lst (vs.set n .non))) H' := (same_upd hu).trans s'
        refine ⟨_, s2 _ _ upd_same, ⟨by rw [List.length_set, List.length_set, hA.len], fun i v o hv ho => ?_⟩⟩
        have r := (hA.set (k := n) (v := .non) (x := none) rfl).at_ i v o hv ho
        cases o with
        | none => exact r
        | some st2 =>
          obtain ⟨x, ex, dx, hx⟩ := r
          refine ⟨x, ex, dx, s2 _ _ ?_⟩
          rw [upd_ne (ne_of hx hp (by intro z; cases z))]
          exact hx
      · intro b o eb hb
        have s2 : Same (upd H p (.lst (vs.set n .non))) H' := (same_upd hu).trans s'
        refine s2 _ _ ?_
        rw [upd_ne hb]
        exact eb
abbrev fnStri (K : PySem.W.Frag) (mg : Str → Option Value) (f : Addr) (fd : FuncData) : Prop := FnAt K mg "strike" sStri ["listed", "number"] f fd
end
end Rk

-- RdDesk2
namespace Rk
open PySem PySem.Spec PyProof.Rows L2
open Ho (Stay Desk)
open Rd (Cho Edge Good)
section
variable {P : Program} {w : World} {K : PySem.W.Frag} {mg : Str → Option Value} {base : Heap}
/-! ### begin -/
inductive PBeg (CS CD : Addr) (vs : List V) (H : Hp) (Q : VK) : Prop
 | mk (a dx ps po : Addr) (d : Desk) (r n : Nat) (h0 : vs = [.ref a, .int (r : Nat), .int (n : Nat)]) (h1 : DkAt CS CD H a dx ps po d) (h2 : Told CS CD H a dx ps po (if r < 1 ∨ Ho.ROOMS < r ∨ n < 1 ∨ Ho.NIGHTS < n then (d, Ho.BAD) else (⟨r, n, [], []⟩, Ho.says 0)) Q) : PBeg CS CD vs H Q
def spBeg (CS CD : Addr) : Sp := fun vs H Q _ => PBeg CS CD vs H Q
theorem scBeg : FnScope ["desk", "rooms", "nights"] ["desk", "rooms", "nights"] (defScope sBeg) := ⟨rfl, rfl, rfl, by decide +kernel, rfl, by decide +kernel, by decide +kernel⟩
theorem ok_beg {f CS CD fD fA : Addr} {fd fdD fdA : FuncData} (F : Fun K "begin" "begin" sBeg f fd) (TD : DeskCl K mg CD fD fdD) (An : fnAnsw K mg fA fdA) (O : Own mg) (N : Cst mg) : FnOk P w K mg base CX0 2 f fd ["desk", "rooms", "nights"] (spBeg CS CD) := by
  have GA : FnOk P w K mg base CX0 1 fA fdA ["number", "row"] spAnsw := ok_answ An.F O
  refine F.ok scBeg (fun vs H Q E h => ?_) (fun cdv A outer s H vs Q E hr h => ?_)
  · obtain ⟨a, dx, ps, po, d, r, n, rfl, _⟩ := h
    rfl
  · obtain ⟨a, dx, ps, po, d, r, n, rfl, hD, k⟩ := h
    have n1 := TD.no "rooms" (by decide +kernel)
    have n2 := TD.no "nights" (by decide +kernel)
    have n3 := TD.no "stays" (by decide +kernel)
    have n4 := TD.no "offers" (by decide +kernel)
    obtain ⟨t1, h1⟩ := N.rooms
    obtain ⟨t2, h2⟩ := N.nights
    obtain ⟨t3, h3⟩ := N.bad
    refine ⟨_, pss_cons (ps_if (PW.pt (pw_or (pt_cmpR op_lt (pv 1) pe_int (nomark _)) (pw_or (pt_cmpR op_gt (pv 1) (pe_gi rfl h1) (nomark _)) (pw_or (pt_cmpR op_lt (pv 2) pe_int (nomark _)) (pw_or1 (pt_cmpR op_gt (pv 2) (pe_gi rfl h2) (nomark _)))))))
        (pss_one (ps_ret (pe_call GA hr rfl An.m An.F.kp An.b .nil pass0 (pa_cons (pe_gi rfl h3) (pa_cons (pe_lst pa_nil) pa_nil))))) pss_nil)
      (pss_cons (ps_fldK (K := K) rfl (pv 0) (pv 1) rfl) (pss_cons (ps_fldK (K := K) rfl (pv 0) (pv 2) rfl) (pss_cons (ps_fldK (K := K) rfl (pv 0) (pe_lst pa_nil) rfl) (pss_cons (ps_fldK (K := K) rfl (pv 0) (pe_lst pa_nil) rfl)
      (pss_one (ps_ret (pe_call GA hr rfl An.m An.F.kp An.b .nil pass0 (pa_cons pe_int (pa_cons (pe_lst pa_nil) pa_nil))))))))), ?_⟩
    -- refused
    have kb : (r < 1 ∨ Ho.ROOMS < r ∨ n < 1 ∨ Ho.NIGHTS < n) → ∀ (H' : Hp) (q : Addr), Same H H' → H q = none → H' q = some (.lst (iv [-1, 0])) → Q (.ref q) H' := fun g H' q s' nq hq => by
      rw [if_pos g] at k
      exact Told.same k hD s' nq hq
    have bad : (r < 1 ∨ Ho.ROOMS < r ∨ n < 1 ∨ Ho.NIGHTS < n) → tRet (tCall spAnsw [] E0 (tCons (tC (.int (-1))) (tCons (tLst tNil) tNil))) { nx := fun _ H' => Q .non H', rt := Q } (start ["desk", "rooms", "nights"] [.ref a, .int (r : Nat), .int (n : Nat)]) H := fun g =>
      ⟨Nat.zero_le _, fun u hu => ⟨_, u, [], rfl, upd_same, Nat.zero_le _, fun H' q s' nq hq => kb g H' q ((same_upd hu).trans s') ((same_upd hu).free nq) hq⟩⟩
    refine ⟨_, rfl, wOp ⟨_, rfl, ?_⟩⟩
    refine ite2 (fun g => ?_) (fun g => ?_)
    · have g' : ((r : Nat) : Int) < 1 := of_decide_eq_true g
      exact bad (.inl (by omega))
    have g1 : ¬ ((r : Nat) : Int) < 1 := fun z => g (decide_eq_true z)
    refine ⟨_, rfl, wOp ⟨_, rfl, ?_⟩⟩
    refine ite2 (fun g => ?_) (fun g => ?_)
    · have g' : (8 : Int) < (r : Nat) := of_decide_eq_true g
      exact bad (.inr (.inl (by show 8 < r; omega)))
    have g2 : ¬ (8 : Int) < (r : Nat) := fun z => g (decide_eq_true z)
    refine ⟨_, rfl, wOp ⟨_, rfl, ?_⟩⟩
    refine ite2 (fun g => ?_) (fun g => ?_)
    · have g' : ((n : Nat) : Int) < 1 := of_decide_eq_true g
      exact bad (.inr (.inr (.inl (by omega))))
    have g3 : ¬ ((n : Nat) : Int) < 1 := fun z => g (decide_eq_true z)
    refine ⟨_, rfl, wOp ⟨_, rfl, ?_⟩⟩
    refine ite2 (fun g => ?_) (fun g => ?_)
    · have g' : (60 : Int) < (n : Nat) := of_decide_eq_true g
      exact bad (.inr (.inr (.inr (by show 60 < n; omega))))
    have g4 : ¬ (60 : Int) < (n : Nat) := fun z => g (decide_eq_true z)
    -- a new desk
    have e8 : Ho.ROOMS = 8 := rfl
    have e60 : Ho.NIGHTS = 60 := rfl
    rw [if_neg (by omega)] at k
    refine ⟨_, rfl, _, rfl, a, CD, dx, _, rfl, hD.ins, TD.cl, n1, (by show 4 < 1000; decide), ?_⟩
    rw [dk_rooms]
    refine ⟨_, rfl, _, rfl, a, CD, dx, _, rfl, upd_same, TD.cl, n2, (by show 4 < 1000; decide), ?_⟩
    rw [dk_nights, upd_upd]
    have k1 : ∀ b o, H b = some o → b ≠ a → (upd H a (.ins CD dx (dkF (.int r) (.int n) (.ref ps) (.ref po)))) b = some o := fun b o e hb => by rw [upd_ne hb]; exact e
    have hp1 : (upd H a (.ins CD dx (dkF (.int r) (.int n) (.ref ps) (.ref po)))) a = some (.ins CD dx (dkF (.int r) (.int n) (.ref ps) (.ref po))) := upd_same
    have f1 : ∀ b, (upd H a (.ins CD dx (dkF (.int r) (.int n) (.ref ps) (.ref po)))) b = none → H b = none := fun b e => by
      by_cases hb : b = a
      · rw [hb, upd_same] at e
        cases e
      · rw [upd_ne hb] at e
        exact e
    generalize upd H a (.ins CD dx (dkF (.int r) (.int n) (.ref ps) (.ref po))) = H1 at k1 hp1 f1
    refine ⟨Nat.zero_le _, fun qs hqs => ?_⟩
    have nqs : qs ≠ a := Ne.symm (ne_of_none hp1 hqs)
    refine ⟨_, rfl, a, CD, dx, _, rfl, (by rw [upd_ne (Ne.symm nqs)]; exact hp1), TD.cl, n3, (by show 4 < 1000; decide), ?_⟩
    rw [dk_stays]
    refine ⟨Nat.zero_le _, fun qo hqo => ?_⟩
    have nqo : qo ≠ a := fun e => by
      rw [e, upd_same] at hqo
      cases hqo
    have nqq : qo ≠ qs := fun e => by
      rw [e, upd_ne nqs, upd_same] at hqo
      cases hqo
    have fo : H qo = none := f1 _ (by rw [upd_ne nqo, upd_ne nqq] at hqo; exact hqo)
    refine ⟨_, rfl, a, CD, dx, _, rfl, (by rw [upd_ne (Ne.symm nqo)]; exact upd_same), TD.cl, n4, (by show 4 < 1000; decide), ?_⟩
    rw [dk_offers]
    refine ⟨Nat.zero_le _, fun u hu => ⟨_, u, [], rfl, upd_same, Nat.zero_le _, fun H' q s' nq hq => ?_⟩⟩
    have s2 := (same_upd (o := HO.lst []) hu).trans s'
    refine k H' qs qo q ⟨?_, ⟨[], ?_, Al.nil⟩, ⟨[], ?_, Al.nil⟩, Ne.symm nqq⟩ (f1 _ (upd_none (upd_none (upd_none (upd_none (upd_none nq).1).1).1).1).1) hq fun b o e hb _ _ => ⟨?_, ne_of_none e (f1 _ hqs), ne_of_none e fo⟩
    · exact s2 _ _ upd_same
    · refine s2 _ _ ?_
      rw [upd_ne nqs, upd_ne (Ne.symm nqq), upd_ne nqs, upd_same]
    · refine s2 _ _ ?_
      rw [upd_ne nqo, upd_same]
    · refine s2 _ _ ?_
      rw [upd_ne hb, upd_ne (ne_of_none e fo), upd_ne hb, upd_ne (ne_of_none e (f1 _ hqs))]
      exact k1 b o e hb
abbrev fnBeg (K : PySem.W.Frag) (mg : Str → Option Value) (f : Addr) (fd : FuncData) : Prop := FnAt K mg "begin" sBeg ["desk", "rooms", "nights"] f fd
end
end Rk

-- RdDesk3
namespace Rk
open PySem PySem.Spec PyProof.Rows L2
open Ho (Stay Desk)
open Rd (Cho Edge Good)

theorem ret_const {D : Ends} {σ : L2.St} {H : Hp} {z : Int} (kb : ∀ (H' : Hp) (q : Addr), Same H H' → H q = none → H' q = some (.lst (iv [z, 0])) → D.rt (.ref q) H') : tRet (tCall spAnsw [] E0 (tCons (tC (.int z)) (tCons (tLst tNil) tNil))) D σ H :=
  ⟨Nat.zero_le _, fun u hu => ⟨_, u, [], rfl, upd_same, Nat.zero_le _, fun H' q s' nq hq => kb H' q ((same_upd hu).trans s') ((same_upd hu).free nq) hq⟩⟩
theorem full_some {d : Desk} {s : Stay} {j : Nat} (h : d.full s = some j) : s.from_ ≤ j ∧ d.caps[j]? = some 0 ∧ ∀ m, s.from_ ≤ m → m < j → d.caps[m]? ≠ some 0 := by
  unfold Ho.Desk.full at h
  rw [List.find?_range_eq_some] at h
  obtain ⟨h1, h2, h3⟩ := h
  rw [Bool.and_eq_true] at h1
  obtain ⟨c1, c2⟩ := Rd.covers_iff.mp h1.1
  have hj := List.mem_range.mp h2
  have get : ∀ m, m < d.nights → d.caps[m]? = some (d.free m) := fun m hm => by
    unfold Ho.Desk.caps
    rw [List.getElem?_map, List.getElem?_range hm]
    rfl
  refine ⟨c1, by rw [get j hj, eq_of_beq h1.2], fun m hm hmj e => ?_⟩
  rw [get m (by omega)] at e
  have e' : d.free m = 0 := Option.some.inj e
  have h4 := h3 m hmj
  rw [Rd.covers_iff.mpr ⟨hm, by omega⟩, e'] at h4
  cases h4
theorem step_book (d : Desk) (s : Stay) : Ho.stepOn d (.book s.from_ s.to_ s.price) = if Ho.isStay d s.from_ s.to_ s.price = false then (d, Ho.BAD) else Ho.ifFree d s (if Ho.STAYS ≤ d.stays.length then (d, Ho.says (-9)) else ({ d with stays := d.stays ++ [some s] }, Ho.says (d.stays.length : Nat))) := rfl
theorem good_offers {d : Desk} (g : Good d) : ∀ s, some s ∈ d.offers → s.from_ ≤ s.to_ ∧ s.to_ ≤ d.caps.length := fun s hs => by
  obtain ⟨⟨a, b, _⟩, _⟩ := g.off s hs
  rw [Rd.caps_length]
  exact ⟨Nat.le_of_lt a, b⟩
theorem good_stays {d : Desk} (g : Good d) : ∀ s, some s ∈ d.stays → s.from_ ≤ s.to_ ∧ s.to_ ≤ d.nights := fun s hs => by
  obtain ⟨a, b, _⟩ := g.st s hs
  exact ⟨Nat.le_of_lt a, b⟩

section
variable {P : Program} {w : World} {K : PySem.W.Frag} {mg : Str → Option Value} {base : Heap}
abbrev fnFree (K : PySem.W.Frag) (mg : Str → Option Value) (f : Addr) (fd : FuncData) : Prop := FnAt K mg "free_rooms" sFree ["rooms", "nights", "stays"] f fd
abbrev fnFull (K : PySem.W.Frag) (mg : Str → Option Value) (f : Addr) (fd : FuncData) : Prop := FnAt K mg "first_full" sFull ["free", "stay"] f fd
/-! ### free_now -/
inductive PFnow (CS CD : Addr) (vs : List V) (H : Hp) (Q : VK) : Prop
 | mk (a dx ps po : Addr) (d : Desk) (h0 : vs = [.ref a]) (h1 : DkAt CS CD H a dx ps po d) (h2 : Good d) (h3 : ∀ (H' : Hp) (q : Addr), Same H H' → H' q = some (.lst (nv d.caps)) → Q (.ref q) H') : PFnow CS CD vs H Q
def spFnow (CS CD : Addr) : Sp := fun vs H Q _ => PFnow CS CD vs H Q
theorem scFnow : FnScope ["desk"] ["desk"] (defScope sFnow) := ⟨rfl, rfl, rfl, by decide +kernel, rfl, by decide +kernel, by decide +kernel⟩
theorem ok_fnow {f CS fS CD fD fR fW : Addr} {fd fdS fdD fdR fdW : FuncData} (F : Fun K "free_now" "free_now" sFnow f fd) (T : StayCl K mg CS fS fdS) (TD : DeskCl K mg CD fD fdD) (Fr : fnFree K mg fR fdR) (W : fnWith K mg fW fdW) : FnOk P w K mg base CX0 3 f fd ["desk"] (spFnow CS CD) := by
  have GR : FnOk P w K mg base CX0 2 fR fdR ["rooms", "nights", "stays"] (spFree CS) := ok_free Fr.F T W
  refine F.ok scFnow (fun vs H Q E h => ?_) (fun cdv A outer s H vs Q E hr h => ?_)
  · obtain ⟨a, dx, ps, po, d, rfl, _⟩ := h
    rfl
  · obtain ⟨a, dx, ps, po, d, rfl, hD, g, k⟩ := h
    have n1 := TD.no "rooms" (by decide +kernel)
    have n2 := TD.no "nights" (by decide +kernel)
    have n3 := TD.no "stays" (by decide +kernel)
    refine ⟨_, pss_one (ps_ret (pe_call GR hr rfl Fr.m Fr.F.kp Fr.b .nil pass0 (pa_cons (pe_fldK (K := K) rfl (pv 0) rfl) (pa_cons (pe_fldK (K := K) rfl (pv 0) rfl) (pa_cons (pe_fldK (K := K) rfl (pv 0) rfl) pa_nil))))), ?_⟩
    refine (wFld rfl hD.ins TD.cl n1 (dkF_rooms _ _ _ _) (wFld rfl hD.ins TD.cl n2 (dkF_nights _ _ _ _) (wFld rfl hD.ins TD.cl n3 (dkF_stays _ _ _ _) ⟨d.rooms, d.nights, ps, d.stays, rfl, hD.st, g.n60, good_stays g, g.cn, fun H1 q1 s1 hq1 => ?_⟩)))
    rw [← Rd.caps_frees] at hq1
    exact k H1 q1 s1 hq1
abbrev fnFnow (K : PySem.W.Frag) (mg : Str → Option Value) (f : Addr) (fd : FuncData) : Prop := FnAt K mg "free_now" sFnow ["desk"] f fd
/-! ### book -/
inductive PBook (CS CD : Addr) (vs : List V) (H : Hp) (Q : VK) : Prop
 | mk (a dx ps po x : Addr) (d : Desk) (s : Stay) (h0 : vs = [.ref a, .ref x]) (h1 : DkAt CS CD H a dx ps po d) (h2 : StAt CS H x s) (h3 : Good d) (h4 : Told CS CD H a dx ps po (Ho.stepOn d (.book s.from_ s.to_ s.price)) Q) : PBook CS CD vs H Q
def spBook (CS CD : Addr) : Sp := fun vs H Q _ => PBook CS CD vs H Q
theorem scBook : FnScope ["desk", "stay", "free"] ["desk", "stay"] (defScope sBook) := ⟨rfl, rfl, rfl, by decide +kernel, rfl, by decide +kernel, by decide +kernel⟩
theorem isStay_ok {d : Desk} {s : Stay} (h : Ho.isStay d s.from_ s.to_ s.price = true) : s.from_ < s.to_ ∧ s.to_ ≤ d.nights ∧ s.price ≤ 1000000 := by
  unfold Ho.isStay at h
  rw [Bool.and_eq_true, Bool.and_eq_true, decide_eq_true_iff, decide_eq_true_iff, decide_eq_true_iff] at h
  exact h
theorem ok_book {f CS fS CD fD fA fI fR fW fT fU fN : Addr} {fd fdS fdD fdA fdI fdR fdW fdT fdU fdN : FuncData} (F : Fun K "book" "book" sBook f fd) (T : StayCl K mg CS fS fdS) (TD : DeskCl K mg CD fD fdD) (An : fnAnsw K mg fA fdA) (Is : fnIsSt K mg fI fdI) (Fr : fnFree K mg fR fdR) (W : fnWith K mg fW fdW)
    (Ft : fnFits K mg fT fdT) (Fu : fnFull K mg fU fdU) (Fn : fnFnow K mg fN fdN) (O : Own mg) (N : Cst mg) : FnOk P w K mg base CX0 4 f fd ["desk", "stay"] (spBook CS CD) := by
  have GA : FnOk P w K mg base CX0 1 fA fdA ["number", "row"] spAnsw := ok_answ An.F O
  have GI : FnOk P w K mg base CX0 1 fI fdI ["desk", "stay"] (spIsSt CS CD) := ok_isSt Is.F T TD N
  have GN : FnOk P w K mg base CX0 3 fN fdN ["desk"] (spFnow CS CD) := ok_fnow Fn.F T TD Fr W
  have GT : FnOk P w K mg base CX0 1 fT fdT ["free", "stay"] (spFits CS) := ok_fits Ft.F T
  have GU : FnOk P w K mg base CX0 1 fU fdU ["free", "stay"] (spFull CS) := ok_full Fu.F T
  refine F.ok scBook (fun vs H Q E h => ?_) (fun cdv A outer s H vs Q E hr h => ?_)
  · obtain ⟨a, dx, ps, po, x, d, s, rfl, _⟩ := h
    rfl
  · obtain ⟨a, dx, ps, po, x, d, st, rfl, hD, hx, g, k⟩ := h
    have hr1 : Room 1 _ := hr.mono (by decide)
    have n1 := TD.no "rooms" (by decide +kernel)
    have n2 := TD.no "nights" (by decide +kernel)
    have n3 := TD.no "stays" (by decide +kernel)
    obtain ⟨t1, h1⟩ := N.bad
    obtain ⟨t2, h2⟩ := N.full
    obtain ⟨t3, h3⟩ := N.stays
    obtain ⟨t4, h4⟩ := N.used
    refine ⟨_, pss_cons (ps_if (pt_not (pt_val (pe_call GI hr1 rfl Is.m Is.F.kp Is.b .nil pass0 (pa_cons (pv 0) (pa_cons (pv 1) pa_nil)))))
        (pss_one (ps_ret (pe_call GA hr1 rfl An.m An.F.kp An.b .nil pass0 (pa_cons (pe_gi rfl h1) (pa_cons (pe_lst pa_nil) pa_nil))))) pss_nil)
      (pss_cons (ps_set (i := 2) scBook.nd rfl (Or.inl rfl) (pe_call GN hr rfl Fn.m Fn.F.kp Fn.b .nil pass0 (pa_cons (pv 0) pa_nil)))
      (pss_cons (ps_if (pt_not (pt_val (pe_call GT hr1 rfl Ft.m Ft.F.kp Ft.b .nil pass0 (pa_cons (pv 2) (pa_cons (pv 1) pa_nil)))))
        (pss_one (ps_ret (pe_call GA hr1 rfl An.m An.F.kp An.b .nil pass0 (pa_cons (pe_gi rfl h2) (pa_cons (pe_lst (pa_cons (pe_call GU hr1 rfl Fu.m Fu.F.kp Fu.b .nil pass0 (pa_cons (pv 2) (pa_cons (pv 1) pa_nil))) pa_nil)) pa_nil))))) pss_nil)
      (pss_cons (ps_if (pt_cmpR op_eqI (pe_callB (call_lenK (K := K) rfl) (by rfl) O.len PySem.boot_len (pa_cons (pe_fldK (K := K) rfl (pv 0) rfl) pa_nil)) (pe_gi rfl h3) (nomark _))
        (pss_one (ps_ret (pe_call GA hr1 rfl An.m An.F.kp An.b .nil pass0 (pa_cons (pe_gi rfl h4) (pa_cons (pe_lst pa_nil) pa_nil))))) pss_nil)
      (pss_cons (ps_expr (pe_bmK (K := K) rfl PySem.F.plainAttrs_list PySem.F.slot_list_append PySem.F.type_list_append mt_append (pe_fldK (K := K) rfl (pv 0) rfl) (pa_cons (pv 1) pa_nil)))
      (pss_one (ps_ret (pe_call GA hr1 rfl An.m An.F.kp An.b .nil pass0 (pa_cons (pe_op op_sub (pe_callB (call_lenK (K := K) rfl) (by rfl) O.len PySem.boot_len (pa_cons (pe_fldK (K := K) rfl (pv 0) rfl) pa_nil)) pe_int) (pa_cons (pe_lst pa_nil) pa_nil))))))))), ?_⟩
    refine ⟨_, rfl, _, rfl, a, dx, ps, po, x, d, st, rfl, hD, hx, _, rfl, ?_⟩
    rw [step_book] at k
    cases e1 : Ho.isStay d st.from_ st.to_ st.price with
    | false =>
      rw [e1, if_pos rfl] at k
      exact ret_const fun H' q s' nq hq => Told.same k hD s' nq hq
    | true =>
      rw [e1, if_neg (by decide : ¬ true = false)] at k
      obtain ⟨b1, b2, b3⟩ := isStay_ok e1
      refine ⟨_, rfl, a, dx, ps, po, d, rfl, hD, g, fun H1 q1 s1 hq1 => ?_⟩
      refine ⟨_, rfl, _, rfl, q1, x, d.caps, st, rfl, hq1, hx.same s1, Nat.le_of_lt b1, (by rw [Rd.caps_length]; exact b2), fun H2 s2 => ⟨_, rfl, ?_⟩⟩
      unfold Ho.ifFree at k
      have hD2 := hD.same (s1.trans s2)
      cases e2 : Ho.fits d.caps st with
      | false =>
        cases e3 : d.full st with
        | none =>
          rw [Rd.full_fits.mp e3] at e2
          cases e2
        | some j =>
          rw [e3] at k
          obtain ⟨c1, c2, c3⟩ := full_some e3
          refine ⟨_, rfl, _, rfl, q1, x, d.caps, st, j, rfl, s2 _ _ hq1, (hx.same s1).same s2, c1, c2, c3, (by show 1 ≤ sizeLine; decide), fun u hu => ⟨_, u, [(j : Int)], rfl, upd_same, (by show 1 ≤ 1000; decide), fun H' q s' nq hq => ?_⟩⟩
          exact Told.same k hD (((s1.trans s2).trans (same_upd hu)).trans s') (((s1.trans s2).trans (same_upd hu)).free nq) hq
      | true =>
        rw [Rd.full_fits.mpr e2] at k
        obtain ⟨vs, hv, hA⟩ := hD2.st
        refine (wFld rfl hD2.ins TD.cl n3 (dkF_stays _ _ _ _) ⟨ps, _, rfl, .inl (SqL.of hv), rfl, _, rfl, ?_⟩)
        rw [hA.len]
        have hsl := g.sl
        have e40 : Ho.STAYS = 40 := rfl
        refine ite2 (fun g5 => ?_) (fun g5 => ?_)
        · have g6 : ((d.stays.length : Nat) : Int) = 40 := by
            have := of_decide_eq_true g5
            injection this
          have k2 : Told CS CD H a dx ps po (d, Ho.says (-9)) Q := by
            have k' := k
            dsimp only at k'
            rw [if_pos (by omega)] at k'
            exact k'
          exact ret_const fun H' q s' nq hq => Told.same k2 hD ((s1.trans s2).trans s') ((s1.trans s2).free nq) hq
        · have g6 : ¬ ((d.stays.length : Nat) : Int) = 40 := fun z => g5 (decide_eq_true (by rw [z]))
          have k2 : Told CS CD H a dx ps po ({ d with stays := d.stays ++ [some st] }, Ho.says (d.stays.length : Nat)) Q := by
            have k' := k
            dsimp only at k'
            rw [if_neg (by omega)] at k'
            exact k'
          refine ⟨_, rfl, a, CD, dx, _, _, rfl, hD2.ins, TD.cl, n3, dkF_stays _ _ _ _, .inl ⟨rfl, _, SqL.of hv⟩, _, rfl, ps, _, _, rfl, rfl, hv, szl (by have := hA.len; omega), ?_⟩
          have na : a ≠ ps := ne_of hD2.ins hv (by intro z; cases z)
          refine (wFld rfl (by rw [upd_ne na]; exact hD2.ins) TD.cl n3 (dkF_stays _ _ _ _) ⟨ps, _, rfl, .inl (SqL.of upd_same), _, _, rfl, rfl, ?_⟩)
          refine ⟨Nat.zero_le _, fun u hu => ⟨_, u, [], rfl, upd_same, Nat.zero_le _, fun H' q s' nq hq => ?_⟩⟩
          have s3 := (same_upd (o := HO.lst []) hu).trans s'
          have kp : ∀ b o, H2 b = some o → b ≠ a → b ≠ ps → b ≠ po → H' b = some o := fun b o e _ hb _ => s3 _ _ (by rw [upd_ne hb]; exact e)
          refine k2 H' ps po q ⟨s3 _ _ (by rw [upd_ne na]; exact hD2.ins), ⟨_, s3 _ _ upd_same, ?_⟩, ?_, hD.ne⟩ ((s1.trans s2).free (upd_none (upd_none nq).1).1) ?_ fun b o e _ h6 h7 => ⟨s3 _ _ (by rw [upd_ne h6]; exact s2 _ _ (s1 _ _ e)), h6, h7⟩
          · exact (hA.mono fun v o r => r.keep hD2 kp).snoc ⟨x, rfl, ((hx.same s1).same s2).keep hD2 kp⟩
          · obtain ⟨us, hu2, hA2⟩ := hD2.off
            exact ⟨us, s3 _ _ (by rw [upd_ne (Ne.symm hD.ne)]; exact hu2), hA2.mono fun v o r => r.keep hD2 kp⟩
          · rw [hq]
            have e5 : (((vs ++ [V.ref x]).length : Nat) : Int) - 1 = (d.stays.length : Nat) := by
              rw [List.length_append, hA.len]
              show ((d.stays.length + 1 : Nat) : Int) - 1 = _
              omega
            show some (HO.lst (iv [(((vs ++ [V.ref x]).length : Nat) : Int) - 1, 0])) = some (HO.lst (iv [((d.stays.length : Nat) : Int), 0]))
            rw [e5]
abbrev fnBook (K : PySem.W.Frag) (mg : Str → Option Value) (f : Addr) (fd : FuncData) : Prop := FnAt K mg "book" sBook ["desk", "stay"] f fd
end
end Rk

-- RdDesk4
namespace Rk
open PySem PySem.Spec PyProof.Rows L2
open Ho (Stay Desk)
open Rd (Cho Edge Good)

theorem cutV_to (xs : List V) (k : Nat) (h : k ≤ xs.length) : cutV xs none (some (k : Int)) = xs.take k := by
  unfold cutV
  rw [HT.sIx_nat, HT.sIx_none, Nat.min_eq_left h, List.drop_zero, Nat.sub_zero]
theorem cutV_from (xs : List V) (k : Nat) (h : k ≤ xs.length) : cutV xs (some (k : Int)) none = xs.drop k := by
  unfold cutV
  rw [HT.sIx_nat, HT.sIx_none, Nat.min_eq_left h, List.take_of_length_le]
  rw [List.length_drop]
  exact Nat.le_refl _
theorem frees_congr {r n : Nat} {l m : List (Option Stay)} (h : ∀ k, Rd.cnt l k = Rd.cnt m k) : Rd.frees r n l = Rd.frees r n m := by
  unfold Rd.frees
  refine List.map_congr_left fun k _ => by rw [h k]
theorem cnt_without {l : List (Option Stay)} {k n : Nat} {o : Option Stay} (h : l[k]? = some o) : Rd.cnt (l.take k ++ l.drop (k + 1)) n = Rd.cnt (l.set k none) n := by
  have e1 := Rd.cnt_set (l := l) (p := none) (n := n) h
  have e2 : Rd.cnt l n = Rd.cnt (l.take k ++ (o :: l.drop (k + 1))) n := by
    obtain ⟨hk, ho⟩ := List.getElem?_eq_some_iff.mp h
    rw [← ho, ← List.drop_eq_getElem_cons hk, List.take_append_drop]
  rw [Rd.cnt_append, Rd.cnt_cons] at e2
  rw [Rd.cnt_append]
  have e3 : Rd.cov1 none n = 0 := rfl
  omega
theorem stayOf_some {l : List (Option Stay)} {k : Nat} {s : Stay} (h : Ho.stayOf l k = some s) : l[k]? = some (some s) := by
  unfold Ho.stayOf at h
  cases e : l[k]? with
  | none =>
    rw [e] at h
    cases h
  | some o =>
    rw [e] at h
    have h' : o = some s := h
    rw [h']
theorem step_change (d : Desk) (k a b : Nat) : Ho.stepOn d (.change k a b) = (match Ho.stayOf d.stays k with
    | none => (d, Ho.NONE)
    | some s => if Ho.isStay d a b 0 = false then (d, Ho.BAD) else match ({ d with stays := d.stays.set k none } : Desk).full ⟨a, b, s.price⟩ with
      | some n => (d, Ho.tells (-4) [n])
      | none => ({ d with stays := d.stays.set k (some ⟨a, b, s.price⟩) }, Ho.says 0)) := rfl
theorem isStay_price {d : Desk} {a b p : Nat} (h : p ≤ 1000000) : Ho.isStay d a b p = Ho.isStay d a b 0 := by
  unfold Ho.isStay
  rw [decide_eq_true (show p ≤ Ho.PRICE from h), decide_eq_true (show 0 ≤ Ho.PRICE from Nat.zero_le _)]

section
variable {P : Program} {w : World} {K : PySem.W.Frag} {mg : Str → Option Value} {base : Heap}
/-! ### change -/
inductive PChan (CS CD : Addr) (vs : List V) (H : Hp) (Q : VK) : Prop
 | mk (a dx ps po : Addr) (d : Desk) (k b e : Nat) (h0 : vs = [.ref a, .int (k : Nat), .int (b : Nat), .int (e : Nat)]) (h1 : DkAt CS CD H a dx ps po d) (h2 : Good d) (h3 : Told CS CD H a dx ps po (Ho.stepOn d (.change k b e)) Q) : PChan CS CD vs H Q
def spChan (CS CD : Addr) : Sp := fun vs H Q _ => PChan CS CD vs H Q
theorem scChan : FnScope ["desk", "number", "start", "end", "stay", "others", "free"] ["desk", "number", "start", "end"] (defScope sChan) := ⟨rfl, rfl, rfl, by decide +kernel, rfl, by decide +kernel, by decide +kernel⟩
theorem ok_chan {f CS fS CD fD fA fI fR fW fT fU fH : Addr} {fd fdS fdD fdA fdI fdR fdW fdT fdU fdH : FuncData} (F : Fun K "change" "change" sChan f fd) (T : StayCl K mg CS fS fdS) (TD : DeskCl K mg CD fD fdD) (An : fnAnsw K mg fA fdA) (Is : fnIsSt K mg fI fdI) (Fr : fnFree K mg fR fdR) (W : fnWith K mg fW fdW)
    (Ft : fnFits K mg fT fdT) (Fu : fnFull K mg fU fdU) (Ha : fnHas K mg fH fdH) (O : Own mg) (N : Cst mg) : FnOk P w K mg base CX0 3 f fd ["desk", "number", "start", "end"] (spChan CS CD) := by
  have GA : FnOk P w K mg base CX0 1 fA fdA ["number", "row"] spAnsw := ok_answ An.F O
  have GI : FnOk P w K mg base CX0 1 fI fdI ["desk", "stay"] (spIsSt CS CD) := ok_isSt Is.F T TD N
  have GR : FnOk P w K mg base CX0 2 fR fdR ["rooms", "nights", "stays"] (spFree CS) := ok_free Fr.F T W
  have GT : FnOk P w K mg base CX0 1 fT fdT ["free", "stay"] (spFits CS) := ok_fits Ft.F T
  have GU : FnOk P w K mg base CX0 1 fU fdU ["free", "stay"] (spFull CS) := ok_full Fu.F T
  have GH : FnOk P w K mg base CX0 1 fH fdH ["listed", "number"] (spHas CS) := ok_has Ha.F O
  have GS : FnOk P w K mg base CX0 1 fS fdS ["self", "start", "end", "price"] (spStay CS) := ok_stay T
  refine F.ok scChan (fun vs H Q E h => ?_) (fun cdv A outer s H vs Q E hr h => ?_)
  · obtain ⟨a, dx, ps, po, d, k, b, e, rfl, _⟩ := h
    rfl
  · obtain ⟨a, dx, ps, po, d, n, b, e, rfl, hD, g, k⟩ := h
    have hr1 : Room 1 _ := hr.mono (by decide)
    have n1 := TD.no "rooms" (by decide +kernel)
    have n2 := TD.no "nights" (by decide +kernel)
    have n3 := TD.no "stays" (by decide +kernel)
    have m3 := T.no "price" (by decide +kernel)
    obtain ⟨t1, h1⟩ := N.bad
    obtain ⟨t2, h2⟩ := N.full
    obtain ⟨t3, h3⟩ := N.nonu
    refine ⟨_, pss_cons (ps_if (pt_not (pt_val (pe_call GH hr1 rfl Ha.m Ha.F.kp Ha.b .nil pass0 (pa_cons (pe_fldK (K := K) rfl (pv 0) rfl) (pa_cons (pv 1) pa_nil)))))
        (pss_one (ps_ret (pe_call GA hr1 rfl An.m An.F.kp An.b .nil pass0 (pa_cons (pe_gi rfl h3) (pa_cons (pe_lst pa_nil) pa_nil))))) pss_nil)
      (pss_cons (ps_set (i := 4) scChan.nd rfl (Or.inl rfl) (pe_make T.mkd GS hr rfl T.m T.b .nil pass0 (pa_cons (pv 2) (pa_cons (pv 3) (pa_cons (pe_fldK (K := K) rfl (pe_ix (r := rIxL K) ix_list (pe_fldK (K := K) rfl (pv 0) rfl) (pv 1) (fun _ _ => rfl)) rfl) pa_nil)))))
      (pss_cons (ps_if (pt_not (pt_val (pe_call GI hr1 rfl Is.m Is.F.kp Is.b .nil pass0 (pa_cons (pv 0) (pa_cons (pv 4) pa_nil)))))
        (pss_one (ps_ret (pe_call GA hr1 rfl An.m An.F.kp An.b .nil pass0 (pa_cons (pe_gi rfl h1) (pa_cons (pe_lst pa_nil) pa_nil))))) pss_nil)
      (pss_cons (ps_set (i := 5) scChan.nd rfl (Or.inl rfl) (pe_op op_cat (pe_slice (r := rSlL K) sl_list (pe_fldK (K := K) rfl (pv 0) rfl) po_none (po_some (pv 1))) (pe_slice (r := rSlL K) sl_list (pe_fldK (K := K) rfl (pv 0) rfl) (po_some (pe_op op_add (pv 1) pe_int)) po_none)))
      (pss_cons (ps_set (i := 6) scChan.nd rfl (Or.inl rfl) (pe_call GR hr rfl Fr.m Fr.F.kp Fr.b .nil pass0 (pa_cons (pe_fldK (K := K) rfl (pv 0) rfl) (pa_cons (pe_fldK (K := K) rfl (pv 0) rfl) (pa_cons (pv 5) pa_nil)))))
      (pss_cons (ps_if (pt_not (pt_val (pe_call GT hr1 rfl Ft.m Ft.F.kp Ft.b .nil pass0 (pa_cons (pv 6) (pa_cons (pv 4) pa_nil)))))
        (pss_one (ps_ret (pe_call GA hr1 rfl An.m An.F.kp An.b .nil pass0 (pa_cons (pe_gi rfl h2) (pa_cons (pe_lst (pa_cons (pe_call GU hr1 rfl Fu.m Fu.F.kp Fu.b .nil pass0 (pa_cons (pv 6) (pa_cons (pv 4) pa_nil))) pa_nil)) pa_nil))))) pss_nil)
      (pss_cons (ps_asg (pv 4) (pg_sub (pe_fldK (K := K) rfl (pv 0) rfl) (pv 1) set_list))
      (pss_one (ps_ret (pe_call GA hr1 rfl An.m An.F.kp An.b .nil pass0 (pa_cons pe_int (pa_cons (pe_lst pa_nil) pa_nil))))))))))), ?_⟩
    refine (wFld rfl hD.ins TD.cl n3 (dkF_stays _ _ _ _) ⟨_, rfl, ps, d.stays, n, rfl, hD.st, _, rfl, ?_⟩)
    rw [step_change] at k
    cases e1 : Ho.stayOf d.stays n with
    | none =>
      rw [e1] at k
      exact ret_const fun H' q s' nq hq => Told.same k hD s' nq hq
    | some st =>
      rw [e1] at k
      dsimp only at k
      have hst := stayOf_some e1
      obtain ⟨hlt, _⟩ := List.getElem?_eq_some_iff.mp hst
      obtain ⟨p1, p2, p3⟩ := g.st st (List.mem_of_getElem? hst)
      obtain ⟨vs, hv, hA⟩ := hD.st
      have hvl := hA.len
      obtain ⟨v, hvn, y, rfl, dy, hy⟩ := hA.get hst
      -- stay = Stay(start, end, desk.stays[number].price)
      refine ⟨_, rfl, _, rfl, wFld rfl hD.ins TD.cl n3 (dkF_stays _ _ _ _) ⟨_, rfl, wRix (SqL.of hv) (at_of (j := n) rfl hvn) ⟨y, CS, dy, _, _, rfl, hy, T.cl, m3, stF_price _ _ _, ?_⟩⟩⟩
      refine fun x dz nx ndz nez => ⟨x, dz, _, _, _, rfl, upd_same, fun H1 g1 k1 => ⟨rfl, ?_⟩⟩
      have s1 : Same H H1 := Same.made nx ndz k1
      have hx : StAt CS H1 x ⟨b, e, st.price⟩ := ⟨dz, g1⟩
      have hD1 := hD.same s1
      refine ⟨_, rfl, _, rfl, a, dx, ps, po, x, d, ⟨b, e, st.price⟩, rfl, hD1, hx, _, rfl, ?_⟩
      rw [← isStay_price p3] at k
      cases e2 : Ho.isStay d b e st.price with
      | false =>
        rw [e2, if_pos rfl] at k
        have e2' : Ho.isStay d (⟨b, e, st.price⟩ : Stay).from_ (⟨b, e, st.price⟩ : Stay).to_ (⟨b, e, st.price⟩ : Stay).price = false := e2
        exact ret_const fun H' q s' nq hq => Told.same k hD (s1.trans s') (s1.free nq) hq
      | true =>
        rw [e2, if_neg (by decide : ¬ true = false)] at k
        have e2' : Ho.isStay d (⟨b, e, st.price⟩ : Stay).from_ (⟨b, e, st.price⟩ : Stay).to_ (⟨b, e, st.price⟩ : Stay).price = true := e2
        obtain ⟨b1, b2, b3⟩ := isStay_ok e2'
        have b1' : b < e := b1
        have b2' : e ≤ d.nights := b2
        -- others
        have hv1 := s1 _ _ hv
        refine ⟨_, rfl, a, CD, dx, _, _, rfl, hD1.ins, TD.cl, n3, dkF_stays _ _ _ _, _, rfl, _, rfl, ps, _, rfl, SqL.of hv1, fun q1 hq1 => ?_⟩
        rw [cutV_to vs n (by omega)]
        have s2 : Same H1 (upd H1 q1 (.lst (vs.take n))) := same_upd hq1
        have hq12 : (upd H1 q1 (.lst (vs.take n))) q1 = some (.lst (vs.take n)) := upd_same
        generalize upd H1 q1 (.lst (vs.take n)) = H2 at s2 hq12
        have hD2 := hD1.same s2
        have hv2 := s2 _ _ hv1
        refine (wFld rfl hD2.ins TD.cl n3 (dkF_stays _ _ _ _) ⟨_, rfl, wOp ⟨_, rfl, ps, _, rfl, SqL.of hv2, fun q2 hq2 => ?_⟩⟩)
        have e3 : cutV vs (some ((n : Int) + 1)) none = vs.drop (n + 1) := cutV_from vs (n + 1) (by omega)
        rw [e3]
        have s3 : Same H2 (upd H2 q2 (.lst (vs.drop (n + 1)))) := same_upd hq2
        have hq23 : (upd H2 q2 (.lst (vs.drop (n + 1)))) q2 = some (.lst (vs.drop (n + 1))) := upd_same
        generalize upd H2 q2 (.lst (vs.drop (n + 1))) = H3 at s3 hq23
        have hsl := g.sl
        refine ⟨q1, q2, _, _, rfl, rfl, s3 _ _ hq12, hq23, ?_, fun q3 hq3 => ?_⟩
        · rw [List.length_take, List.length_drop]
          exact sz (by omega)
        have s4 : Same H3 (upd H3 q3 (.lst (vs.take n ++ vs.drop (n + 1)))) := same_upd hq3
        have hq34 : (upd H3 q3 (.lst (vs.take n ++ vs.drop (n + 1)))) q3 = some (.lst (vs.take n ++ vs.drop (n + 1))) := upd_same
        generalize upd H3 q3 (.lst (vs.take n ++ vs.drop (n + 1))) = H4 at s4 hq34
        have s14 : Same H1 H4 := (s2.trans s3).trans s4
        have s04 : Same H H4 := s1.trans s14
        have hD4 := hD.same s04
        have hO : LsAt CS H4 q3 (d.stays.take n ++ d.stays.drop (n + 1)) := ⟨_, hq34, ((hA.mono fun v o r => r.same s04).take n).append ((hA.mono fun v o r => r.same s04).drop (n + 1))⟩
        refine ⟨_, rfl, a, CD, dx, _, _, rfl, hD4.ins, TD.cl, n1, dkF_rooms _ _ _ _, _, rfl, a, CD, dx, _, _, rfl, hD4.ins, TD.cl, n2, dkF_nights _ _ _ _, _, rfl, d.rooms, d.nights, q3, _, rfl, hO, g.n60, fun s' hs' => ?_, fun m => ?_, fun H5 q5 s5 hq5 => ?_⟩
        · refine good_stays g s' ?_
          rcases List.mem_append.mp hs' with z | z
          · exact List.mem_of_mem_take z
          · exact List.mem_of_mem_drop z
        · rw [cnt_without hst]
          have z1 := Rd.cnt_set (l := d.stays) (p := none) (n := m) hst
          have z2 := g.cn m
          have z3 : Rd.cov1 none m = 0 := rfl
          omega
        · rw [frees_congr (fun m => cnt_without hst), show Rd.frees d.rooms d.nights (d.stays.set n none) = ({ d with stays := d.stays.set n none } : Desk).caps from (Rd.caps_frees { d with stays := d.stays.set n none }).symm] at hq5
          have lc : ({ d with stays := d.stays.set n none } : Desk).caps.length = d.nights := Rd.caps_length _
          generalize hd' : ({ d with stays := d.stays.set n none } : Desk) = d' at hq5 lc k
          have hx5 : StAt CS H5 x ⟨b, e, st.price⟩ := (hx.same s14).same s5
          refine ⟨_, rfl, _, rfl, q5, x, d'.caps, ⟨b, e, st.price⟩, rfl, hq5, hx5, Nat.le_of_lt b1', (by rw [lc]; exact b2'), fun H6 s6 => ⟨_, rfl, ?_⟩⟩
          have s06 : Same H H6 := (s04.trans s5).trans s6
          have hD6 := hD.same s06
          cases e4 : Ho.fits d'.caps ⟨b, e, st.price⟩ with
          | false =>
            cases e5 : d'.full ⟨b, e, st.price⟩ with
            | none =>
              rw [Rd.full_fits.mp e5] at e4
              cases e4
            | some j =>
              rw [e5] at k
              obtain ⟨c1, c2, c3⟩ := full_some e5
              refine ⟨_, rfl, _, rfl, q5, x, d'.caps, ⟨b, e, st.price⟩, j, rfl, s6 _ _ hq5, hx5.same s6, c1, c2, c3, (by show 1 ≤ sizeLine; decide), fun u hu => ⟨_, u, [(j : Int)], rfl, upd_same, (by show 1 ≤ 1000; decide), fun H' q s' nq hq => ?_⟩⟩
              exact Told.same k hD ((s06.trans (same_upd hu)).trans s') ((s06.trans (same_upd hu)).free nq) hq
          | true =>
            rw [Rd.full_fits.mpr e4] at k
            dsimp only at k
            have hv6 := s06 _ _ hv
            have na : a ≠ ps := ne_of hD6.ins hv6 (by intro z; cases z)
            refine ⟨_, rfl, wFld rfl hD6.ins TD.cl n3 (dkF_stays _ _ _ _) ⟨_, rfl, ps, _, _, n, rfl, rfl, hv6, ixN_nat (by omega), ?_⟩⟩
            refine ret_const fun H' q s' nq hq => ?_
            have kp : ∀ b o, H6 b = some o → b ≠ a → b ≠ ps → b ≠ po → H' b = some o := fun b o e _ hb _ => s' _ _ (by rw [upd_ne hb]; exact e)
            refine k H' ps po q ⟨s' _ _ (by rw [upd_ne na]; exact hD6.ins), ⟨_, s' _ _ upd_same, ?_⟩, ?_, hD.ne⟩ (s06.free (upd_none nq).1) hq fun b o e _ h6 h7 => ⟨s' _ _ (by rw [upd_ne h6]; exact s06 _ _ e), h6, h7⟩
            · exact (hA.mono fun v o r => (r.same s06).keep hD6 kp).set ⟨x, rfl, (hx5.same s6).keep hD6 kp⟩
            · obtain ⟨us, hu2, hA2⟩ := hD6.off
              exact ⟨us, s' _ _ (by rw [upd_ne (Ne.symm hD.ne)]; exact hu2), hA2.mono fun v o r => r.keep hD6 kp⟩
abbrev fnChan (K : PySem.W.Frag) (mg : Str → Option Value) (f : Addr) (fd : FuncData) : Prop := FnAt K mg "change" sChan ["desk", "number", "start", "end"] f fd
end
end Rk

-- RdDesk5
namespace Rk
open PySem PySem.Spec PyProof.Rows L2
open Ho (Stay Desk)
open Rd (Cho Edge Good)
theorem step_offer (d : Desk) (s : Stay) : Ho.stepOn d (.offer s.from_ s.to_ s.price) = if Ho.isStay d s.from_ s.to_ s.price = false ∨ s.price = 0 then (d, Ho.BAD) else if Ho.OFFERS ≤ d.offers.length then (d, Ho.says (-9)) else ({ d with offers := d.offers ++ [some s] }, Ho.says (d.offers.length : Nat)) := rfl
theorem step_choose (d : Desk) : Ho.stepOn d .choose = (d, Ho.tells (d.chosen.1 : Nat) d.chosen.2) := rfl
theorem step_prices (d : Desk) : Ho.stepOn d .prices = (d, Ho.tells 0 d.prices) := rfl
theorem told_tells (z : Int) (l : List Nat) : RoomNeutral.told (Ho.tells z l) = z :: ((Rd.zs l).length : Int) :: Rd.zs l := by
  show z :: (l.length : Int) :: l.map _ = _
  have e : (Rd.zs l).length = l.length := List.length_map _
  rw [e]
  rfl
theorem th_len : ∀ (l : List (Option Stay)) (k : Nat), (Rd.th k l).length ≤ l.length
  | [], _ => Nat.le_refl _
  | none :: l, k => Nat.le_succ_of_le (th_len l (k + 1))
  | some _ :: l, k => Nat.succ_le_succ (th_len l (k + 1))
theorem chosen_len (d : Desk) : d.chosen.2.length ≤ d.offers.length := by
  have a := (Rd.most_sub (Ho.there d.offers) d.caps).length_le
  rw [List.length_map, Rd.there_eq] at a
  have a' : d.chosen.2.length ≤ (Rd.th 0 d.offers).length := by
    rw [← Rd.there_eq] at a ⊢
    exact a
  exact Nat.le_trans a' (th_len _ _)
theorem prices_len (d : Desk) : d.prices.length = d.nights := by
  unfold Ho.Desk.prices
  dsimp only
  rw [List.length_map, List.length_range]

section
variable {P : Program} {w : World} {K : PySem.W.Frag} {mg : Str → Option Value} {base : Heap}
/-! ### offer -/
inductive POff (CS CD : Addr) (vs : List V) (H : Hp) (Q : VK) : Prop
 | mk (a dx ps po x : Addr) (d : Desk) (s : Stay) (h0 : vs = [.ref a, .ref x]) (h1 : DkAt CS CD H a dx ps po d) (h2 : StAt CS H x s) (h3 : Good d) (h4 : Told CS CD H a dx ps po (Ho.stepOn d (.offer s.from_ s.to_ s.price)) Q) : POff CS CD vs H Q
def spOff (CS CD : Addr) : Sp := fun vs H Q _ => POff CS CD vs H Q
theorem scOff : FnScope ["desk", "stay"] ["desk", "stay"] (defScope sOff) := ⟨rfl, rfl, rfl, by decide +kernel, rfl, by decide +kernel, by decide +kernel⟩
theorem ok_off {f CS fS CD fD fA fI : Addr} {fd fdS fdD fdA fdI : FuncData} (F : Fun K "offer" "offer" sOff f fd) (T : StayCl K mg CS fS fdS) (TD : DeskCl K mg CD fD fdD) (An : fnAnsw K mg fA fdA) (Is : fnIsSt K mg fI fdI) (O : Own mg) (N : Cst mg) :
    FnOk P w K mg base CX0 2 f fd ["desk", "stay"] (spOff CS CD) := by
  have GA : FnOk P w K mg base CX0 1 fA fdA ["number", "row"] spAnsw := ok_answ An.F O
  have GI : FnOk P w K mg base CX0 1 fI fdI ["desk", "stay"] (spIsSt CS CD) := ok_isSt Is.F T TD N
  refine F.ok scOff (fun vs H Q E h => ?_) (fun cdv A outer s H vs Q E hr h => ?_)
  · obtain ⟨a, dx, ps, po, x, d, s, rfl, _⟩ := h
    rfl
  · obtain ⟨a, dx, ps, po, x, d, st, rfl, hD, hx, g, k⟩ := h
    have n4 := TD.no "offers" (by decide +kernel)
    have m3 := T.no "price" (by decide +kernel)
    obtain ⟨t1, h1⟩ := N.bad
    obtain ⟨t3, h3⟩ := N.offers
    obtain ⟨t4, h4⟩ := N.used
    refine ⟨_, pss_cons (ps_if (PW.pt (pw_or (pt_not (pt_val (pe_call GI hr rfl Is.m Is.F.kp Is.b .nil pass0 (pa_cons (pv 0) (pa_cons (pv 1) pa_nil))))) (pw_or1 (pt_cmpR op_eqI (pe_fldK (K := K) rfl (pv 1) rfl) pe_int (nomark _)))))
        (pss_one (ps_ret (pe_call GA hr rfl An.m An.F.kp An.b .nil pass0 (pa_cons (pe_gi rfl h1) (pa_cons (pe_lst pa_nil) pa_nil))))) pss_nil)
      (pss_cons (ps_if (pt_cmpR op_eqI (pe_callB (call_lenK (K := K) rfl) (by rfl) O.len PySem.boot_len (pa_cons (pe_fldK (K := K) rfl (pv 0) rfl) pa_nil)) (pe_gi rfl h3) (nomark _))
        (pss_one (ps_ret (pe_call GA hr rfl An.m An.F.kp An.b .nil pass0 (pa_cons (pe_gi rfl h4) (pa_cons (pe_lst pa_nil) pa_nil))))) pss_nil)
      (pss_cons (ps_expr (pe_bmK (K := K) rfl PySem.F.plainAttrs_list PySem.F.slot_list_append PySem.F.type_list_append mt_append (pe_fldK (K := K) rfl (pv 0) rfl) (pa_cons (pv 1) pa_nil)))
      (pss_one (ps_ret (pe_call GA hr rfl An.m An.F.kp An.b .nil pass0 (pa_cons (pe_op op_sub (pe_callB (call_lenK (K := K) rfl) (by rfl) O.len PySem.boot_len (pa_cons (pe_fldK (K := K) rfl (pv 0) rfl) pa_nil)) pe_int) (pa_cons (pe_lst pa_nil) pa_nil))))))), ?_⟩
    refine ⟨_, rfl, _, rfl, a, dx, ps, po, x, d, st, rfl, hD, hx, _, rfl, ?_⟩
    rw [step_offer] at k
    cases e1 : Ho.isStay d st.from_ st.to_ st.price with
    | false =>
      rw [e1, if_pos (.inl rfl)] at k
      exact ret_const fun H' q s' nq hq => Told.same k hD s' nq hq
    | true =>
      rw [e1] at k
      obtain ⟨dy, hy⟩ := id hx
      refine (wFld rfl hy T.cl m3 (stF_price _ _ _) ⟨rfl, _, rfl, ?_⟩)
      refine ite2 (fun g5 => ?_) (fun g5 => ?_)
      · have g6 : ((st.price : Nat) : Int) = 0 := by
          have := of_decide_eq_true g5
          injection this
        rw [if_pos (.inr (by omega))] at k
        exact ret_const fun H' q s' nq hq => Told.same k hD s' nq hq
      · have g6 : ¬ ((st.price : Nat) : Int) = 0 := fun z => g5 (decide_eq_true (by rw [z]))
        rw [if_neg (by rintro (z | z); cases z; omega)] at k
        obtain ⟨vs, hv, hA⟩ := hD.off
        have hol := g.ol
        have e10 : Ho.OFFERS = 10 := rfl
        refine (wFld rfl hD.ins TD.cl n4 (dkF_offers _ _ _ _) ⟨po, _, rfl, .inl (SqL.of hv), rfl, _, rfl, ?_⟩)
        rw [hA.len]
        refine ite2 (fun g7 => ?_) (fun g7 => ?_)
        · have g8 : ((d.offers.length : Nat) : Int) = 10 := by
            have := of_decide_eq_true g7
            injection this
          rw [if_pos (by omega)] at k
          exact ret_const fun H' q s' nq hq => Told.same k hD s' nq hq
        · have g8 : ¬ ((d.offers.length : Nat) : Int) = 10 := fun z => g7 (decide_eq_true (by rw [z]))
          rw [if_neg (by omega)] at k
          refine ⟨_, rfl, a, CD, dx, _, _, rfl, hD.ins, TD.cl, n4, dkF_offers _ _ _ _, .inl ⟨rfl, _, SqL.of hv⟩, _, rfl, po, _, _, rfl, rfl, hv, szl (by have := hA.len; omega), ?_⟩
          have na : a ≠ po := ne_of hD.ins hv (by intro z; cases z)
          refine (wFld rfl (by rw [upd_ne na]; exact hD.ins) TD.cl n4 (dkF_offers _ _ _ _) ⟨po, _, rfl, .inl (SqL.of upd_same), _, _, rfl, rfl, ?_⟩)
          refine ⟨Nat.zero_le _, fun u hu => ⟨_, u, [], rfl, upd_same, Nat.zero_le _, fun H' q s' nq hq => ?_⟩⟩
          have s3 := (same_upd (o := HO.lst []) hu).trans s'
          have kp : ∀ b o, H b = some o → b ≠ a → b ≠ ps → b ≠ po → H' b = some o := fun b o e _ _ hb => s3 _ _ (by rw [upd_ne hb]; exact e)
          refine k H' ps po q ⟨s3 _ _ (by rw [upd_ne na]; exact hD.ins), ?_, ⟨_, s3 _ _ upd_same, ?_⟩, hD.ne⟩ (upd_none (upd_none nq).1).1 ?_ fun b o e h6 h7 h8 => ⟨kp b o e h6 h7 h8, h7, h8⟩
          · obtain ⟨us, hu2, hA2⟩ := hD.st
            exact ⟨us, s3 _ _ (by rw [upd_ne hD.ne]; exact hu2), hA2.mono fun v o r => r.keep hD kp⟩
          · exact (hA.mono fun v o r => r.keep hD kp).snoc ⟨x, rfl, hx.keep hD kp⟩
          · rw [hq]
            have e5 : (((vs ++ [V.ref x]).length : Nat) : Int) - 1 = (d.offers.length : Nat) := by
              rw [List.length_append, hA.len]
              show ((d.offers.length + 1 : Nat) : Int) - 1 = _
              omega
            show some (HO.lst (iv [(((vs ++ [V.ref x]).length : Nat) : Int) - 1, 0])) = some (HO.lst (iv [((d.offers.length : Nat) : Int), 0]))
            rw [e5]
abbrev fnOff (K : PySem.W.Frag) (mg : Str → Option Value) (f : Addr) (fd : FuncData) : Prop := FnAt K mg "offer" sOff ["desk", "stay"] f fd

/-! ### all that the choice and the prices lean on -/
structure Tx (K : PySem.W.Frag) (mg : Str → Option Value) (CS CC CD : Addr) : Prop where
  stay : X2 fun f fd => StayCl K mg CS f fd
  cho : X2 fun f fd => ChoCl K mg CC f fd
  desk : X2 fun f fd => DeskCl K mg CD f fd
  own : Own mg
  cst : Cst mg
  wit : X2 fun f fd => fnWith K mg f fd
  fre : X2 fun f fd => fnFree K mg f fd
  fit : X2 fun f fd => fnFits K mg f fd
  ful : X2 fun f fd => fnFull K mg f fd
  wid : X2 fun f fd => fnWide K mg f fd
  wwo : X2 fun f fd => fnWwo K mg f fd
  all : X2 fun f fd => fnAll K mg f fd
  best : X2 fun f fd => FnAt K mg "best_choice" sBest ["offers", "free"] f fd
  nw : X2 fun f fd => fnNw K mg f fd
  ow : X2 fun f fd => fnOw K mg f fd
  ec : X2 fun f fd => fnEc K mg f fd
  np : X2 fun f fd => FnAt K mg "night_prices" sNp ["offers", "choice"] f fd
  answ : X2 fun f fd => fnAnsw K mg f fd
  isSt : X2 fun f fd => fnIsSt K mg f fd
  has : X2 fun f fd => fnHas K mg f fd
  fnow : X2 fun f fd => fnFnow K mg f fd
  row : X2 fun f fd => fnRow K mg f fd
  frow : X2 fun f fd => fnFrow K mg f fd
  io : X2 fun f fd => fnIo K mg f fd
  sh : X2 fun f fd => fnSh K mg f fd
  lea : X2 fun f fd => fnLea K mg f fd
  roe : X2 fun f fd => fnRoe K mg f fd
  sie : X2 fun f fd => fnSie K mg f fd

/-! ### chosen -/
inductive PChsn (CS CC CD : Addr) (vs : List V) (H : Hp) (Q : VK) : Prop
 | mk (a dx ps po : Addr) (d : Desk) (h0 : vs = [.ref a]) (h1 : DkAt CS CD H a dx ps po d) (h2 : Good d) (h3 : ∀ (H' : Hp) (v : V), Same H H' → CrAt CC H' v (choOf d) → Q v H') : PChsn CS CC CD vs H Q
def spChsn (CS CC CD : Addr) : Sp := fun vs H Q _ => PChsn CS CC CD vs H Q
theorem scChsn : FnScope ["desk"] ["desk"] (defScope sChsn) := ⟨rfl, rfl, rfl, by decide +kernel, rfl, by decide +kernel, by decide +kernel⟩
theorem ok_chsn {f CS CC CD : Addr} {fd : FuncData} (F : Fun K "chosen" "chosen" sChsn f fd) (X : Tx K mg CS CC CD) : FnOk P w K mg base CX0 7 f fd ["desk"] (spChsn CS CC CD) := by
  obtain ⟨fS, fdS, T⟩ := X.stay
  obtain ⟨fC, fdC, TC⟩ := X.cho
  obtain ⟨fD, fdD, TD⟩ := X.desk
  obtain ⟨fW, fdW, W⟩ := X.wit
  obtain ⟨fR, fdR, Fr⟩ := X.fre
  obtain ⟨fI, fdI, Ft⟩ := X.fit
  obtain ⟨fV, fdV, Wi⟩ := X.wid
  obtain ⟨fO, fdO, Ww⟩ := X.wwo
  obtain ⟨fA, fdA, Aa⟩ := X.all
  obtain ⟨fB, fdB, Be⟩ := X.best
  obtain ⟨fN, fdN, Fn⟩ := X.fnow
  have GN : FnOk P w K mg base CX0 3 fN fdN ["desk"] (spFnow CS CD) := ok_fnow Fn.F T TD Fr W
  have GB : FnOk P w K mg base CX0 6 fB fdB ["offers", "free"] (spBest CS CC) := ok_best Be.F T TC W Ft Wi Ww Aa X.own.enum
  refine F.ok scChsn (fun vs H Q E h => ?_) (fun cdv A outer s H vs Q E hr h => ?_)
  · obtain ⟨a, dx, ps, po, d, rfl, _⟩ := h
    rfl
  · obtain ⟨a, dx, ps, po, d, rfl, hD, g, k⟩ := h
    have hr3 : Room 3 _ := hr.mono (by decide)
    have n1 := TD.no "rooms" (by decide +kernel)
    have n2 := TD.no "nights" (by decide +kernel)
    have n3 := TD.no "stays" (by decide +kernel)
    have n4 := TD.no "offers" (by decide +kernel)
    refine ⟨_, pss_one (ps_ret (pe_call GB hr rfl Be.m Be.F.kp Be.b .nil pass0 (pa_cons (pe_fldK (K := K) rfl (pv 0) rfl) (pa_cons (pe_call GN hr3 rfl Fn.m Fn.F.kp Fn.b .nil pass0 (pa_cons (pv 0) pa_nil)) pa_nil)))), ?_⟩
    refine (wFld rfl hD.ins TD.cl n4 (dkF_offers _ _ _ _) ⟨_, rfl, a, dx, ps, po, d, rfl, hD, g, fun H1 q1 s1 hq1 => ?_⟩)
    refine ⟨po, q1, d.offers, d.caps, rfl, hD.off.same s1, hq1, g.ol, (by rw [Rd.caps_length]; exact g.n60), good_offers g, fun H2 v s2 hv => ?_⟩
    exact k H2 v (s1.trans s2) hv
abbrev fnChsn (K : PySem.W.Frag) (mg : Str → Option Value) (f : Addr) (fd : FuncData) : Prop := FnAt K mg "chosen" sChsn ["desk"] f fd

/-! ### choose -/
inductive PChoo (CS CD : Addr) (vs : List V) (H : Hp) (Q : VK) : Prop
 | mk (a dx ps po : Addr) (d : Desk) (h0 : vs = [.ref a]) (h1 : DkAt CS CD H a dx ps po d) (h2 : Good d) (h3 : Told CS CD H a dx ps po (Ho.stepOn d .choose) Q) : PChoo CS CD vs H Q
def spChoo (CS CD : Addr) : Sp := fun vs H Q _ => PChoo CS CD vs H Q
theorem scChoo : FnScope ["desk", "choice"] ["desk"] (defScope sChoo) := ⟨rfl, rfl, rfl, by decide +kernel, rfl, by decide +kernel, by decide +kernel⟩
theorem ok_choo {f CS CC CD fH : Addr} {fd fdH : FuncData} (F : Fun K "choose" "choose" sChoo f fd) (X : Tx K mg CS CC CD) (Ch : fnChsn K mg fH fdH) : FnOk P w K mg base CX0 8 f fd ["desk"] (spChoo CS CD) := by
  obtain ⟨fA, fdA, An⟩ := X.answ
  obtain ⟨fC, fdC, TC⟩ := X.cho
  have GA : FnOk P w K mg base CX0 1 fA fdA ["number", "row"] spAnsw := ok_answ An.F X.own
  have GH : FnOk P w K mg base CX0 7 fH fdH ["desk"] (spChsn CS CC CD) := ok_chsn Ch.F X
  refine F.ok scChoo (fun vs H Q E h => ?_) (fun cdv A outer s H vs Q E hr h => ?_)
  · obtain ⟨a, dx, ps, po, d, rfl, _⟩ := h
    rfl
  · obtain ⟨a, dx, ps, po, d, rfl, hD, g, k⟩ := h
    have hr1 : Room 1 _ := hr.mono (by decide)
    have m1 := TC.no "numbers" (by decide +kernel)
    have m2 := TC.no "earned" (by decide +kernel)
    refine ⟨_, pss_cons (ps_set (i := 1) scChoo.nd rfl (Or.inl rfl) (pe_call GH hr rfl Ch.m Ch.F.kp Ch.b .nil pass0 (pa_cons (pv 0) pa_nil)))
      (pss_one (ps_ret (pe_call GA hr1 rfl An.m An.F.kp An.b .nil pass0 (pa_cons (pe_fldK (K := K) rfl (pv 1) rfl) (pa_cons (pe_fldK (K := K) rfl (pv 1) rfl) pa_nil))))), ?_⟩
    refine ⟨_, rfl, a, dx, ps, po, d, rfl, hD, g, fun H1 v s1 hv => ?_⟩
    obtain ⟨x, dc, pn, pf, rfl, hc⟩ := hv
    have len := chosen_len d
    have hol := g.ol
    refine ⟨_, rfl, x, CC, dc, _, _, rfl, hc.ins, TC.cl, m2, chF_earned _ _ _, _, rfl, x, CC, dc, _, _, rfl, hc.ins, TC.cl, m1, chF_numbers _ _ _, _, pn, Rd.zs d.chosen.2, rfl, hc.num, ?_, fun H2 q s2 nq hq => ?_⟩
    · show (List.map _ _).length ≤ 1000
      rw [List.length_map]
      omega
    · rw [step_choose] at k
      refine Told.same k hD (s1.trans s2) (s1.free nq) ?_
      rw [told_tells]
      exact hq
abbrev fnChoo (K : PySem.W.Frag) (mg : Str → Option Value) (f : Addr) (fd : FuncData) : Prop := FnAt K mg "choose" sChoo ["desk"] f fd

/-! ### prices -/
inductive PPric (CS CD : Addr) (vs : List V) (H : Hp) (Q : VK) : Prop
 | mk (a dx ps po : Addr) (d : Desk) (h0 : vs = [.ref a]) (h1 : DkAt CS CD H a dx ps po d) (h2 : Good d) (h3 : Told CS CD H a dx ps po (Ho.stepOn d .prices) Q) : PPric CS CD vs H Q
def spPric (CS CD : Addr) : Sp := fun vs H Q _ => PPric CS CD vs H Q
theorem scPric : FnScope ["desk"] ["desk"] (defScope sPric) := ⟨rfl, rfl, rfl, by decide +kernel, rfl, by decide +kernel, by decide +kernel⟩
theorem ok_pric {f CS CC CD fH : Addr} {fd fdH : FuncData} (F : Fun K "prices" "prices" sPric f fd) (X : Tx K mg CS CC CD) (Ch : fnChsn K mg fH fdH) : FnOk P w K mg base CX0 8 f fd ["desk"] (spPric CS CD) := by
  obtain ⟨fA, fdA, An⟩ := X.answ
  obtain ⟨fS, fdS, T⟩ := X.stay
  obtain ⟨fC, fdC, TC⟩ := X.cho
  obtain ⟨fD, fdD, TD⟩ := X.desk
  obtain ⟨fN, fdN, Nw⟩ := X.nw
  obtain ⟨fO, fdO, Ow⟩ := X.ow
  obtain ⟨fE, fdE, Ec⟩ := X.ec
  obtain ⟨fP, fdP, Np⟩ := X.np
  have GA : FnOk P w K mg base CX0 1 fA fdA ["number", "row"] spAnsw := ok_answ An.F X.own
  have GH : FnOk P w K mg base CX0 7 fH fdH ["desk"] (spChsn CS CC CD) := ok_chsn Ch.F X
  have GP : FnOk P w K mg base CX0 2 fP fdP ["offers", "choice"] (spNp CS CC) := ok_np Np.F T TC Nw Ow Ec X.own
  refine F.ok scPric (fun vs H Q E h => ?_) (fun cdv A outer s H vs Q E hr h => ?_)
  · obtain ⟨a, dx, ps, po, d, rfl, _⟩ := h
    rfl
  · obtain ⟨a, dx, ps, po, d, rfl, hD, g, k⟩ := h
    have hr1 : Room 1 _ := hr.mono (by decide)
    have hr2 : Room 2 _ := hr.mono (by decide)
    have n4 := TD.no "offers" (by decide +kernel)
    refine ⟨_, pss_one (ps_ret (pe_call GA hr1 rfl An.m An.F.kp An.b .nil pass0 (pa_cons pe_int (pa_cons (pe_call GP hr2 rfl Np.m Np.F.kp Np.b .nil pass0 (pa_cons (pe_fldK (K := K) rfl (pv 0) rfl) (pa_cons (pe_call GH hr rfl Ch.m Ch.F.kp Ch.b .nil pass0 (pa_cons (pv 0) pa_nil)) pa_nil))) pa_nil)))), ?_⟩
    refine (wFld rfl hD.ins TD.cl n4 (dkF_offers _ _ _ _) ⟨_, rfl, a, dx, ps, po, d, rfl, hD, g, fun H1 v s1 hv => ?_⟩)
    obtain ⟨x, dc, pn, pf, rfl, hc⟩ := hv
    refine ⟨po, x, dc, pn, pf, d.offers, choOf d, rfl, hD.off.same s1, hc, g.ol, (by rw [choOf_len]; exact g.n60), fun s hs => ?_, fun H2 q s2 hq => ?_⟩
    · obtain ⟨c1, c2⟩ := good_offers g s hs
      rw [Rd.caps_length] at c2
      rw [choOf_len]
      exact ⟨c1, c2⟩
    rw [prices_eq g] at hq
    refine ⟨_, q, Rd.zs d.prices, rfl, hq, ?_, fun H3 q3 s3 nq3 hq3 => ?_⟩
    · show (List.map _ _).length ≤ 1000
      rw [List.length_map, prices_len]
      have := g.n60
      omega
    · rw [step_prices] at k
      refine Told.same k hD ((s1.trans s2).trans s3) ((s1.trans s2).free nq3) ?_
      rw [told_tells]
      exact hq3
abbrev fnPric (K : PySem.W.Frag) (mg : Str → Option Value) (f : Addr) (fd : FuncData) : Prop := FnAt K mg "prices" sPric ["desk"] f fd
end
end Rk

-- RdDesk6
namespace Rk
open PySem PySem.Spec PyProof.Rows L2
open Ho (Stay Desk)
open Rd (Cho Edge Good)
theorem step_rooms (d : Desk) : Ho.stepOn d .rooms = (d, Ho.tells 0 (Rd.roomsOf d.stays.length d.rooms d.lodged)) := rfl
theorem step_night (d : Desk) (n : Nat) : Ho.stepOn d (.night n) = (d, if d.nights ≤ n then Ho.BAD else Ho.tells 0 (Rd.nightRow d n)) := rfl
theorem step_free (d : Desk) (n : Nat) : Ho.stepOn d (.free n) = (d, if d.nights ≤ n then Ho.BAD else Ho.says (d.free n : Nat)) := rfl
theorem step_first (d : Desk) (len a : Nat) : Ho.stepOn d (.first len a) = (d, if len = 0 then Ho.BAD else match Rd.firstN d len a with
    | some n => Ho.says (n : Nat)
    | none => Ho.says (-5)) := rfl
theorem step_until (d : Desk) (n : Nat) : Ho.stepOn d (.until_ n) = (d, if d.nights ≤ n then Ho.BAD else Ho.says (d.run d.nights n : Nat)) := rfl
theorem step_told (d : Desk) (k : Nat) : Ho.stepOn d (.told k) = (d, match Ho.stayOf d.stays k with
    | none => Ho.NONE
    | some s => Ho.tells 0 [s.from_, s.to_, s.price]) := rfl
theorem step_income (d : Desk) : Ho.stepOn d .income = (d, Ho.tells ((Ho.there d.stays).length : Nat) [Ho.sum ((Ho.there d.stays).map fun (x : Nat × Stay) => x.2.price)]) := rfl
theorem nightRow_len (d : Desk) (n : Nat) : (Rd.nightRow d n).length = d.rooms := by
  unfold Rd.nightRow
  rw [List.length_map, List.length_range]
/-- answer(z, [..]) as what is told -/
theorem told_row (z : Int) (l : List Nat) : some (HO.lst (iv (z :: (((Rd.zs l).length : Nat) : Int) :: Rd.zs l))) = some (HO.lst (iv (RoomNeutral.told (Ho.tells z l)))) := by
  rw [told_tells]
section
variable {P : Program} {w : World} {K : PySem.W.Frag} {mg : Str → Option Value} {base : Heap}
/-! ### rooms -/
inductive PRms (CS CD : Addr) (vs : List V) (H : Hp) (Q : VK) : Prop
 | mk (a dx ps po : Addr) (d : Desk) (h0 : vs = [.ref a]) (h1 : DkAt CS CD H a dx ps po d) (h2 : Good d) (h3 : Told CS CD H a dx ps po (Ho.stepOn d .rooms) Q) : PRms CS CD vs H Q
def spRms (CS CD : Addr) : Sp := fun vs H Q _ => PRms CS CD vs H Q
theorem scRms : FnScope ["desk"] ["desk"] (defScope sRms) := ⟨rfl, rfl, rfl, by decide +kernel, rfl, by decide +kernel, by decide +kernel⟩
theorem ok_rms {f CS CC CD : Addr} {fd : FuncData} (F : Fun K "all_rooms" "all_rooms" sRms f fd) (X : Tx K mg CS CC CD) : FnOk P w K mg base CX0 3 f fd ["desk"] (spRms CS CD) := by
  obtain ⟨fA, fdA, An⟩ := X.answ
  obtain ⟨fS, fdS, T⟩ := X.stay
  obtain ⟨fD, fdD, TD⟩ := X.desk
  obtain ⟨fI, fdI, Io⟩ := X.io
  obtain ⟨fH, fdH, Sh⟩ := X.sh
  obtain ⟨fL, fdL, Le⟩ := X.lea
  obtain ⟨fR, fdR, Ro⟩ := X.roe
  have GA : FnOk P w K mg base CX0 1 fA fdA ["number", "row"] spAnsw := ok_answ An.F X.own
  have GR : FnOk P w K mg base CX0 2 fR fdR ["stays", "gone"] (spRoe CS) := ok_roe Ro.F T Io Sh Le X.own
  refine F.ok scRms (fun vs H Q E h => ?_) (fun cdv A outer s H vs Q E hr h => ?_)
  · obtain ⟨a, dx, ps, po, d, rfl, _⟩ := h
    rfl
  · obtain ⟨a, dx, ps, po, d, rfl, hD, g, k⟩ := h
    have hr1 : Room 1 _ := hr.mono (by decide)
    have n1 := TD.no "rooms" (by decide +kernel)
    have n3 := TD.no "stays" (by decide +kernel)
    refine ⟨_, pss_one (ps_ret (pe_call GA hr1 rfl An.m An.F.kp An.b .nil pass0 (pa_cons pe_int (pa_cons (pe_call GR hr rfl Ro.m Ro.F.kp Ro.b .nil pass0 (pa_cons (pe_fldK (K := K) rfl (pv 0) rfl) (pa_cons (pe_fldK (K := K) rfl (pv 0) rfl) pa_nil))) pa_nil)))), ?_⟩
    refine (wFld rfl hD.ins TD.cl n3 (dkF_stays _ _ _ _) (wFld rfl hD.ins TD.cl n1 (dkF_rooms _ _ _ _) ⟨ps, d, rfl, hD.st, g, fun H1 q1 s1 nq1 hq1 => ?_⟩))
    refine ⟨_, q1, Rd.zs _, rfl, hq1, ?_, fun H2 q s2 nq hq => ?_⟩
    · show (List.map _ _).length ≤ 1000
      rw [List.length_map, Rd.roomsOf_length]
      have := g.sl
      omega
    · rw [step_rooms] at k
      exact Told.same k hD (s1.trans s2) (s1.free nq) (by rw [hq]; exact told_row _ _)
abbrev fnRms (K : PySem.W.Frag) (mg : Str → Option Value) (f : Addr) (fd : FuncData) : Prop := FnAt K mg "all_rooms" sRms ["desk"] f fd

/-! ### night -/
inductive PNigh (CS CD : Addr) (vs : List V) (H : Hp) (Q : VK) : Prop
 | mk (a dx ps po : Addr) (d : Desk) (n : Nat) (h0 : vs = [.ref a, .int (n : Nat)]) (h1 : DkAt CS CD H a dx ps po d) (h2 : Good d) (h3 : Told CS CD H a dx ps po (Ho.stepOn d (.night n)) Q) : PNigh CS CD vs H Q
def spNigh (CS CD : Addr) : Sp := fun vs H Q _ => PNigh CS CD vs H Q
theorem scNigh : FnScope ["desk", "night"] ["desk", "night"] (defScope sNigh) := ⟨rfl, rfl, rfl, by decide +kernel, rfl, by decide +kernel, by decide +kernel⟩
theorem ok_nigh {f CS CC CD : Addr} {fd : FuncData} (F : Fun K "one_night" "one_night" sNigh f fd) (X : Tx K mg CS CC CD) : FnOk P w K mg base CX0 4 f fd ["desk", "night"] (spNigh CS CD) := by
  obtain ⟨fA, fdA, An⟩ := X.answ
  obtain ⟨fS, fdS, T⟩ := X.stay
  obtain ⟨fD, fdD, TD⟩ := X.desk
  obtain ⟨fI, fdI, Io⟩ := X.io
  obtain ⟨fH, fdH, Sh⟩ := X.sh
  obtain ⟨fL, fdL, Le⟩ := X.lea
  obtain ⟨fR, fdR, Ro⟩ := X.roe
  obtain ⟨fN, fdN, Si⟩ := X.sie
  have GA : FnOk P w K mg base CX0 1 fA fdA ["number", "row"] spAnsw := ok_answ An.F X.own
  have GS : FnOk P w K mg base CX0 3 fN fdN ["stays", "rooms", "night"] (spSie CS) := ok_sie Si.F T Io Sh Le Ro X.own
  refine F.ok scNigh (fun vs H Q E h => ?_) (fun cdv A outer s H vs Q E hr h => ?_)
  · obtain ⟨a, dx, ps, po, d, n, rfl, _⟩ := h
    rfl
  · obtain ⟨a, dx, ps, po, d, n, rfl, hD, g, k⟩ := h
    have hr1 : Room 1 _ := hr.mono (by decide)
    have n1 := TD.no "rooms" (by decide +kernel)
    have n2 := TD.no "nights" (by decide +kernel)
    have n3 := TD.no "stays" (by decide +kernel)
    obtain ⟨t1, h1⟩ := X.cst.bad
    refine ⟨_, pss_cons (ps_if (pt_cmpR op_ge (pv 1) (pe_fldK (K := K) rfl (pv 0) rfl) (nomark _)) (pss_one (ps_ret (pe_call GA hr1 rfl An.m An.F.kp An.b .nil pass0 (pa_cons (pe_gi rfl h1) (pa_cons (pe_lst pa_nil) pa_nil))))) pss_nil)
      (pss_one (ps_ret (pe_call GA hr1 rfl An.m An.F.kp An.b .nil pass0 (pa_cons pe_int (pa_cons (pe_call GS hr rfl Si.m Si.F.kp Si.b .nil pass0 (pa_cons (pe_fldK (K := K) rfl (pv 0) rfl) (pa_cons (pe_fldK (K := K) rfl (pv 0) rfl) (pa_cons (pv 1) pa_nil)))) pa_nil))))), ?_⟩
    refine ⟨_, rfl, wFld rfl hD.ins TD.cl n2 (dkF_nights _ _ _ _) ⟨_, _, rfl, rfl, _, rfl, ?_⟩⟩
    rw [step_night] at k
    refine ite2 (fun q => ?_) (fun q => ?_)
    · have q' : (d.nights : Int) ≤ (n : Nat) := of_decide_eq_true q
      rw [if_pos (by omega)] at k
      exact ret_const fun H' q s' nq hq => Told.same k hD s' nq hq
    · have q' : ¬ (d.nights : Int) ≤ (n : Nat) := fun z => q (decide_eq_true z)
      rw [if_neg (by omega)] at k
      refine ⟨_, rfl, a, CD, dx, _, _, rfl, hD.ins, TD.cl, n3, dkF_stays _ _ _ _, _, rfl, a, CD, dx, _, _, rfl, hD.ins, TD.cl, n1, dkF_rooms _ _ _ _, _, rfl, ps, d, n, rfl, hD.st, g, fun H1 q1 s1 nq1 hq1 => ?_⟩
      refine ⟨_, q1, Rd.zs _, rfl, hq1, ?_, fun H2 q s2 nq hq => ?_⟩
      · show (List.map _ _).length ≤ 1000
        rw [List.length_map, nightRow_len]
        have := g.r8
        omega
      · exact Told.same k hD (s1.trans s2) (s1.free nq) (by rw [hq]; exact told_row _ _)
abbrev fnNigh (K : PySem.W.Frag) (mg : Str → Option Value) (f : Addr) (fd : FuncData) : Prop := FnAt K mg "one_night" sNigh ["desk", "night"] f fd

/-! ### free -/
inductive PFon (CS CD : Addr) (vs : List V) (H : Hp) (Q : VK) : Prop
 | mk (a dx ps po : Addr) (d : Desk) (n : Nat) (h0 : vs = [.ref a, .int (n : Nat)]) (h1 : DkAt CS CD H a dx ps po d) (h2 : Good d) (h3 : Told CS CD H a dx ps po (Ho.stepOn d (.free n)) Q) : PFon CS CD vs H Q
def spFon (CS CD : Addr) : Sp := fun vs H Q _ => PFon CS CD vs H Q
theorem scFon : FnScope ["desk", "night"] ["desk", "night"] (defScope sFon) := ⟨rfl, rfl, rfl, by decide +kernel, rfl, by decide +kernel, by decide +kernel⟩
theorem ok_fon {f CS CC CD : Addr} {fd : FuncData} (F : Fun K "free_on" "free_on" sFon f fd) (X : Tx K mg CS CC CD) : FnOk P w K mg base CX0 4 f fd ["desk", "night"] (spFon CS CD) := by
  obtain ⟨fA, fdA, An⟩ := X.answ
  obtain ⟨fS, fdS, T⟩ := X.stay
  obtain ⟨fD, fdD, TD⟩ := X.desk
  obtain ⟨fW, fdW, W⟩ := X.wit
  obtain ⟨fR, fdR, Fr⟩ := X.fre
  obtain ⟨fN, fdN, Fn⟩ := X.fnow
  have GA : FnOk P w K mg base CX0 1 fA fdA ["number", "row"] spAnsw := ok_answ An.F X.own
  have GN : FnOk P w K mg base CX0 3 fN fdN ["desk"] (spFnow CS CD) := ok_fnow Fn.F T TD Fr W
  refine F.ok scFon (fun vs H Q E h => ?_) (fun cdv A outer s H vs Q E hr h => ?_)
  · obtain ⟨a, dx, ps, po, d, n, rfl, _⟩ := h
    rfl
  · obtain ⟨a, dx, ps, po, d, n, rfl, hD, g, k⟩ := h
    have hr1 : Room 1 _ := hr.mono (by decide)
    have n2 := TD.no "nights" (by decide +kernel)
    obtain ⟨t1, h1⟩ := X.cst.bad
    refine ⟨_, pss_cons (ps_if (pt_cmpR op_ge (pv 1) (pe_fldK (K := K) rfl (pv 0) rfl) (nomark _)) (pss_one (ps_ret (pe_call GA hr1 rfl An.m An.F.kp An.b .nil pass0 (pa_cons (pe_gi rfl h1) (pa_cons (pe_lst pa_nil) pa_nil))))) pss_nil)
      (pss_one (ps_ret (pe_call GA hr1 rfl An.m An.F.kp An.b .nil pass0 (pa_cons (pe_ix (r := rIxL K) ix_list (pe_call GN hr rfl Fn.m Fn.F.kp Fn.b .nil pass0 (pa_cons (pv 0) pa_nil)) (pv 1) (fun _ _ => rfl)) (pa_cons (pe_lst pa_nil) pa_nil))))), ?_⟩
    refine ⟨_, rfl, wFld rfl hD.ins TD.cl n2 (dkF_nights _ _ _ _) ⟨_, _, rfl, rfl, _, rfl, ?_⟩⟩
    rw [step_free] at k
    refine ite2 (fun q => ?_) (fun q => ?_)
    · have q' : (d.nights : Int) ≤ (n : Nat) := of_decide_eq_true q
      rw [if_pos (by omega)] at k
      exact ret_const fun H' q s' nq hq => Told.same k hD s' nq hq
    · have q' : ¬ (d.nights : Int) ≤ (n : Nat) := fun z => q (decide_eq_true z)
      rw [if_neg (by omega)] at k
      refine ⟨_, rfl, a, dx, ps, po, d, rfl, hD, g, fun H1 q1 s1 hq1 => ?_⟩
      refine ⟨_, rfl, wRix (SqL.of hq1) (at_of (j := n) rfl (nv_at (Rd.caps_get d (by omega)))) ⟨Nat.zero_le _, fun u hu => ?_⟩⟩
      refine ⟨_, u, [], rfl, upd_same, Nat.zero_le _, fun H2 q s2 nq hq => ?_⟩
      have s3 := s1.trans ((same_upd (o := HO.lst []) hu).trans s2)
      exact Told.same k hD s3 (s1.free ((same_upd hu).free nq)) hq
abbrev fnFon (K : PySem.W.Frag) (mg : Str → Option Value) (f : Addr) (fd : FuncData) : Prop := FnAt K mg "free_on" sFon ["desk", "night"] f fd

/-! ### until -/
inductive PUnt (CS CD : Addr) (vs : List V) (H : Hp) (Q : VK) : Prop
 | mk (a dx ps po : Addr) (d : Desk) (n : Nat) (h0 : vs = [.ref a, .int (n : Nat)]) (h1 : DkAt CS CD H a dx ps po d) (h2 : Good d) (h3 : Told CS CD H a dx ps po (Ho.stepOn d (.until_ n)) Q) : PUnt CS CD vs H Q
def spUnt (CS CD : Addr) : Sp := fun vs H Q _ => PUnt CS CD vs H Q
theorem scUnt : FnScope ["desk", "night"] ["desk", "night"] (defScope sUnt) := ⟨rfl, rfl, rfl, by decide +kernel, rfl, by decide +kernel, by decide +kernel⟩
theorem ok_unt {f CS CC CD : Addr} {fd : FuncData} (F : Fun K "until" "until" sUnt f fd) (X : Tx K mg CS CC CD) : FnOk P w K mg base CX0 4 f fd ["desk", "night"] (spUnt CS CD) := by
  obtain ⟨fA, fdA, An⟩ := X.answ
  obtain ⟨fS, fdS, T⟩ := X.stay
  obtain ⟨fD, fdD, TD⟩ := X.desk
  obtain ⟨fW, fdW, W⟩ := X.wit
  obtain ⟨fR, fdR, Fr⟩ := X.fre
  obtain ⟨fN, fdN, Fn⟩ := X.fnow
  obtain ⟨fO, fdO, Ro⟩ := X.row
  have GA : FnOk P w K mg base CX0 1 fA fdA ["number", "row"] spAnsw := ok_answ An.F X.own
  have GN : FnOk P w K mg base CX0 3 fN fdN ["desk"] (spFnow CS CD) := ok_fnow Fn.F T TD Fr W
  have GO : FnOk P w K mg base CX0 1 fO fdO ["free", "night"] spRow := ok_row Ro.F X.own
  refine F.ok scUnt (fun vs H Q E h => ?_) (fun cdv A outer s H vs Q E hr h => ?_)
  · obtain ⟨a, dx, ps, po, d, n, rfl, _⟩ := h
    rfl
  · obtain ⟨a, dx, ps, po, d, n, rfl, hD, g, k⟩ := h
    have hr1 : Room 1 _ := hr.mono (by decide)
    have n2 := TD.no "nights" (by decide +kernel)
    obtain ⟨t1, h1⟩ := X.cst.bad
    refine ⟨_, pss_cons (ps_if (pt_cmpR op_ge (pv 1) (pe_fldK (K := K) rfl (pv 0) rfl) (nomark _)) (pss_one (ps_ret (pe_call GA hr1 rfl An.m An.F.kp An.b .nil pass0 (pa_cons (pe_gi rfl h1) (pa_cons (pe_lst pa_nil) pa_nil))))) pss_nil)
      (pss_one (ps_ret (pe_call GA hr1 rfl An.m An.F.kp An.b .nil pass0 (pa_cons (pe_call GO hr1 rfl Ro.m Ro.F.kp Ro.b .nil pass0 (pa_cons (pe_call GN hr rfl Fn.m Fn.F.kp Fn.b .nil pass0 (pa_cons (pv 0) pa_nil)) (pa_cons (pv 1) pa_nil))) (pa_cons (pe_lst pa_nil) pa_nil))))), ?_⟩
    refine ⟨_, rfl, wFld rfl hD.ins TD.cl n2 (dkF_nights _ _ _ _) ⟨_, _, rfl, rfl, _, rfl, ?_⟩⟩
    rw [step_until] at k
    refine ite2 (fun q => ?_) (fun q => ?_)
    · have q' : (d.nights : Int) ≤ (n : Nat) := of_decide_eq_true q
      rw [if_pos (by omega)] at k
      exact ret_const fun H' q s' nq hq => Told.same k hD s' nq hq
    · have q' : ¬ (d.nights : Int) ≤ (n : Nat) := fun z => q (decide_eq_true z)
      rw [if_neg (by omega), Rd.run_row] at k
      refine ⟨_, rfl, a, dx, ps, po, d, rfl, hD, g, fun H1 q1 s1 hq1 => ?_⟩
      refine ⟨_, rfl, q1, d.caps, n, rfl, hq1, Nat.zero_le _, fun u hu => ?_⟩
      refine ⟨_, u, [], rfl, upd_same, Nat.zero_le _, fun H2 q s2 nq hq => ?_⟩
      have s3 := s1.trans ((same_upd (o := HO.lst []) hu).trans s2)
      exact Told.same k hD s3 (s1.free ((same_upd hu).free nq)) hq
abbrev fnUnt (K : PySem.W.Frag) (mg : Str → Option Value) (f : Addr) (fd : FuncData) : Prop := FnAt K mg "until" sUnt ["desk", "night"] f fd

/-! ### first -/
inductive PFst (CS CD : Addr) (vs : List V) (H : Hp) (Q : VK) : Prop
 | mk (a dx ps po : Addr) (d : Desk) (len b : Nat) (h0 : vs = [.ref a, .int (len : Nat), .int (b : Nat)]) (h1 : DkAt CS CD H a dx ps po d) (h2 : Good d) (h3 : (b : Int) < 2 ^ 63) (h4 : Told CS CD H a dx ps po (Ho.stepOn d (.first len b)) Q) : PFst CS CD vs H Q
def spFst (CS CD : Addr) : Sp := fun vs H Q _ => PFst CS CD vs H Q
theorem scFst : FnScope ["desk", "how_many", "start", "night"] ["desk", "how_many", "start"] (defScope sFst) := ⟨rfl, rfl, rfl, by decide +kernel, rfl, by decide +kernel, by decide +kernel⟩
theorem ok_fst {f CS CC CD : Addr} {fd : FuncData} (F : Fun K "first" "first" sFst f fd) (X : Tx K mg CS CC CD) : FnOk P w K mg base CX0 4 f fd ["desk", "how_many", "start"] (spFst CS CD) := by
  obtain ⟨fA, fdA, An⟩ := X.answ
  obtain ⟨fS, fdS, T⟩ := X.stay
  obtain ⟨fD, fdD, TD⟩ := X.desk
  obtain ⟨fW, fdW, W⟩ := X.wit
  obtain ⟨fR, fdR, Fr⟩ := X.fre
  obtain ⟨fN, fdN, Fn⟩ := X.fnow
  obtain ⟨fO, fdO, Ro⟩ := X.row
  obtain ⟨fP, fdP, Fo⟩ := X.frow
  have GA : FnOk P w K mg base CX0 1 fA fdA ["number", "row"] spAnsw := ok_answ An.F X.own
  have GN : FnOk P w K mg base CX0 3 fN fdN ["desk"] (spFnow CS CD) := ok_fnow Fn.F T TD Fr W
  have GO : FnOk P w K mg base CX0 2 fP fdP ["free", "how_many", "start"] spFrow := ok_frow Fo.F Ro X.own
  refine F.ok scFst (fun vs H Q E h => ?_) (fun cdv A outer s H vs Q E hr h => ?_)
  · obtain ⟨a, dx, ps, po, d, len, b, rfl, _⟩ := h
    rfl
  · obtain ⟨a, dx, ps, po, d, len, b, rfl, hD, g, hb, k⟩ := h
    have hr1 : Room 1 _ := hr.mono (by decide)
    have hr2 : Room 2 _ := hr.mono (by decide)
    obtain ⟨t1, h1⟩ := X.cst.bad
    obtain ⟨t2, h2⟩ := X.cst.nofd
    refine ⟨_, pss_cons (ps_if (pt_cmpR op_eqI (pv 1) pe_int (nomark _)) (pss_one (ps_ret (pe_call GA hr1 rfl An.m An.F.kp An.b .nil pass0 (pa_cons (pe_gi rfl h1) (pa_cons (pe_lst pa_nil) pa_nil))))) pss_nil)
      (pss_cons (ps_set (i := 3) scFst.nd rfl (Or.inl rfl) (pe_call GO hr2 rfl Fo.m Fo.F.kp Fo.b .nil pass0 (pa_cons (pe_call GN hr rfl Fn.m Fn.F.kp Fn.b .nil pass0 (pa_cons (pv 0) pa_nil)) (pa_cons (pv 1) (pa_cons (pv 2) pa_nil)))))
      (pss_cons (ps_if (pt_cmpR op_isN (pv 3) pe_non (nomark _)) (pss_one (ps_ret (pe_call GA hr1 rfl An.m An.F.kp An.b .nil pass0 (pa_cons (pe_gi rfl h2) (pa_cons (pe_lst pa_nil) pa_nil))))) pss_nil)
      (pss_one (ps_ret (pe_call GA hr1 rfl An.m An.F.kp An.b .nil pass0 (pa_cons (pv 3) (pa_cons (pe_lst pa_nil) pa_nil))))))), ?_⟩
    refine ⟨_, rfl, rfl, _, rfl, ?_⟩
    rw [step_first] at k
    refine ite2 (fun q => ?_) (fun q => ?_)
    · have q' : ((len : Nat) : Int) = 0 := by
        have := of_decide_eq_true q
        injection this
      rw [if_pos (by omega)] at k
      exact ret_const fun H' q s' nq hq => Told.same k hD s' nq hq
    · have q' : ¬ ((len : Nat) : Int) = 0 := fun z => q (decide_eq_true (by rw [z]))
      rw [if_neg (by omega)] at k
      refine ⟨_, rfl, a, dx, ps, po, d, rfl, hD, g, fun H1 q1 s1 hq1 => ?_⟩
      refine ⟨_, rfl, _, rfl, q1, d.caps, len, b, rfl, hq1, (by rw [Rd.caps_length]; exact g.n60), hb, fun n hn hbn hln hno => ?_, fun hno => ?_⟩
      · rw [Rd.caps_length] at hn
        rw [Rd.first_some hn hbn hln hno] at k
        refine ⟨_, rfl, rfl, _, rfl, ?_⟩
        refine iteN (by simp) ?_
        refine ⟨_, rfl, Nat.zero_le _, fun u hu => ⟨_, u, [], rfl, upd_same, Nat.zero_le _, fun H2 q s2 nq hq => ?_⟩⟩
        have s3 := s1.trans ((same_upd (o := HO.lst []) hu).trans s2)
        exact Told.same k hD s3 (s1.free ((same_upd hu).free nq)) hq
      · rw [Rd.first_none (fun m h1 h2 => hno m h1 (by rw [Rd.caps_length]; exact h2))] at k
        refine ⟨_, rfl, rfl, _, rfl, ?_⟩
        refine iteP (by simp) ?_
        exact ret_const fun H' q s' nq hq => Told.same k hD (s1.trans s') (s1.free nq) hq
abbrev fnFst (K : PySem.W.Frag) (mg : Str → Option Value) (f : Addr) (fd : FuncData) : Prop := FnAt K mg "first" sFst ["desk", "how_many", "start"] f fd

/-! ### told -/
inductive PTold (CS CD : Addr) (vs : List V) (H : Hp) (Q : VK) : Prop
 | mk (a dx ps po : Addr) (d : Desk) (n : Nat) (h0 : vs = [.ref a, .int (n : Nat)]) (h1 : DkAt CS CD H a dx ps po d) (h2 : Told CS CD H a dx ps po (Ho.stepOn d (.told n)) Q) : PTold CS CD vs H Q
def spTold (CS CD : Addr) : Sp := fun vs H Q _ => PTold CS CD vs H Q
theorem scTold : FnScope ["desk", "number", "stay"] ["desk", "number"] (defScope sTold) := ⟨rfl, rfl, rfl, by decide +kernel, rfl, by decide +kernel, by decide +kernel⟩
theorem ok_told {f CS CC CD : Addr} {fd : FuncData} (F : Fun K "told" "told" sTold f fd) (X : Tx K mg CS CC CD) : FnOk P w K mg base CX0 2 f fd ["desk", "number"] (spTold CS CD) := by
  obtain ⟨fA, fdA, An⟩ := X.answ
  obtain ⟨fS, fdS, T⟩ := X.stay
  obtain ⟨fD, fdD, TD⟩ := X.desk
  obtain ⟨fH, fdH, Ha⟩ := X.has
  have GA : FnOk P w K mg base CX0 1 fA fdA ["number", "row"] spAnsw := ok_answ An.F X.own
  have GH : FnOk P w K mg base CX0 1 fH fdH ["listed", "number"] (spHas CS) := ok_has Ha.F X.own
  refine F.ok scTold (fun vs H Q E h => ?_) (fun cdv A outer s H vs Q E hr h => ?_)
  · obtain ⟨a, dx, ps, po, d, n, rfl, _⟩ := h
    rfl
  · obtain ⟨a, dx, ps, po, d, n, rfl, hD, k⟩ := h
    have n3 := TD.no "stays" (by decide +kernel)
    have m1 := T.no "start" (by decide +kernel)
    have m2 := T.no "end" (by decide +kernel)
    have m3 := T.no "price" (by decide +kernel)
    obtain ⟨t1, h1⟩ := X.cst.nonu
    refine ⟨_, pss_cons (ps_if (pt_not (pt_val (pe_call GH hr rfl Ha.m Ha.F.kp Ha.b .nil pass0 (pa_cons (pe_fldK (K := K) rfl (pv 0) rfl) (pa_cons (pv 1) pa_nil))))) (pss_one (ps_ret (pe_call GA hr rfl An.m An.F.kp An.b .nil pass0 (pa_cons (pe_gi rfl h1) (pa_cons (pe_lst pa_nil) pa_nil))))) pss_nil)
      (pss_cons (ps_set (i := 2) scTold.nd rfl (Or.inl rfl) (pe_ix (r := rIxL K) ix_list (pe_fldK (K := K) rfl (pv 0) rfl) (pv 1) (fun _ _ => rfl)))
      (pss_one (ps_ret (pe_call GA hr rfl An.m An.F.kp An.b .nil pass0 (pa_cons pe_int (pa_cons (pe_lst (pa_cons (pe_fldK (K := K) rfl (pv 2) rfl) (pa_cons (pe_fldK (K := K) rfl (pv 2) rfl) (pa_cons (pe_fldK (K := K) rfl (pv 2) rfl) pa_nil)))) pa_nil)))))), ?_⟩
    refine (wFld rfl hD.ins TD.cl n3 (dkF_stays _ _ _ _) ⟨_, rfl, ps, d.stays, n, rfl, hD.st, _, rfl, ?_⟩)
    rw [step_told] at k
    cases e : Ho.stayOf d.stays n with
    | none =>
      rw [e] at k
      exact ret_const fun H' q s' nq hq => Told.same k hD s' nq hq
    | some st =>
      rw [e] at k
      have hs := stayOf_some e
      obtain ⟨vs, hv, hA⟩ := hD.st
      obtain ⟨v, hvn, x, rfl, dy, hx⟩ := hA.get hs
      refine ⟨_, rfl, a, CD, dx, _, _, rfl, hD.ins, TD.cl, n3, dkF_stays _ _ _ _, _, rfl, ps, _, _, _, rfl, rfl, SqL.of hv, at_of (j := n) rfl hvn, ?_⟩
      refine ⟨_, rfl, x, CS, dy, _, _, rfl, hx, T.cl, m1, stF_start _ _ _, _, rfl, x, CS, dy, _, _, rfl, hx, T.cl, m2, stF_end _ _ _, _, rfl, x, CS, dy, _, _, rfl, hx, T.cl, m3, stF_price _ _ _, (by show 3 ≤ sizeLine; decide), fun u hu => ?_⟩
      refine ⟨_, u, Rd.zs [st.from_, st.to_, st.price], rfl, upd_same, (by show 3 ≤ 1000; decide), fun H2 q s2 nq hq => ?_⟩
      exact Told.same k hD ((same_upd hu).trans s2) ((same_upd hu).free nq) (by rw [hq]; exact told_row _ _)
abbrev fnTold (K : PySem.W.Frag) (mg : Str → Option Value) (f : Addr) (fd : FuncData) : Prop := FnAt K mg "told" sTold ["desk", "number"] f fd

/-! ### income -/
inductive PInc (CS CD : Addr) (vs : List V) (H : Hp) (Q : VK) : Prop
 | mk (a dx ps po : Addr) (d : Desk) (h0 : vs = [.ref a]) (h1 : DkAt CS CD H a dx ps po d) (h2 : Good d) (h3 : Told CS CD H a dx ps po (Ho.stepOn d .income) Q) : PInc CS CD vs H Q
def spInc (CS CD : Addr) : Sp := fun vs H Q _ => PInc CS CD vs H Q
theorem scInc : FnScope ["desk", "earned", "stay"] ["desk"] (defScope sInc) := ⟨rfl, rfl, rfl, by decide +kernel, rfl, by decide +kernel, by decide +kernel⟩
theorem blkInc : BlkOk ["desk", "earned", "stay"] (defScope sInc) { kind := .function, names := [(".0", .local), ("stay", .local)], isGenerator := false, isCoroutine := false } [("stay", 2)] :=
  ⟨rfl, by decide +kernel, by decide +kernel, by decide +kernel, by decide +kernel⟩
theorem ok_inc {f CS CC CD : Addr} {fd : FuncData} (F : Fun K "income" "income" sInc f fd) (X : Tx K mg CS CC CD) : FnOk P w K mg base CX0 2 f fd ["desk"] (spInc CS CD) := by
  obtain ⟨fA, fdA, An⟩ := X.answ
  obtain ⟨fS, fdS, T⟩ := X.stay
  obtain ⟨fD, fdD, TD⟩ := X.desk
  have GA : FnOk P w K mg base CX0 1 fA fdA ["number", "row"] spAnsw := ok_answ An.F X.own
  refine F.ok scInc (fun vs H Q E h => ?_) (fun cdv A outer s H vs Q E hr h => ?_)
  · obtain ⟨a, dx, ps, po, d, rfl, _⟩ := h
    rfl
  · obtain ⟨a, dx, ps, po, d, rfl, hD, g, k⟩ := h
    have n3 := TD.no "stays" (by decide +kernel)
    have m3 := T.no "price" (by decide +kernel)
    have hl40 := g.sl
    refine ⟨_, pss_cons (ps_setLc (i := 1) (own := [("stay", 2)]) rfl scInc.nd rfl rfl (sw_true rfl rfl rfl rfl) (pi_listK (K := K) rfl (pe_fldK (K := K) rfl (pv 0) rfl)) blkInc (fun _ _ _ _ _ => pg_name (i := 2) scInc.nd rfl (Or.inl rfl))
        (fun _ _ _ _ _ => pts_one (pt_cmpR op_notN (pv 2) pe_non (nomark _))) (fun _ _ _ _ _ => pe_fldK (K := K) rfl (pv 2) rfl))
      (pss_one (ps_ret (pe_call GA hr rfl An.m An.F.kp An.b .nil pass0 (pa_cons (pe_callB (call_lenK (K := K) rfl) (by rfl) X.own.len PySem.boot_len (pa_cons (pv 1) pa_nil)) (pa_cons (pe_lst (pa_cons (pe_callB (cr_sum rfl) (by rfl) X.own.sum boot_sum (pa_cons (pv 1) pa_nil)) pa_nil)) pa_nil))))), ?_⟩
    obtain ⟨vs, hv, hA⟩ := hD.st
    refine ⟨_, rfl, a, CD, dx, _, _, rfl, hD.ins, TD.cl, n3, dkF_stays _ _ _ _, ps, rfl, ⟨_, SqL.of hv⟩, fun D hDn => lc_list (K := K) (a := ps) (xs := vs)
      (fun i H' => Same H H' ∧ H' D = some (.lst (nv ((Rd.th 0 (d.stays.take i)).map fun (x : Nat × Stay) => x.2.price)))) ⟨same_upd hDn, upd_same⟩ (fun i H' _ h => SqL.of (h.1 _ _ hv)) ?_ ?_⟩
    · rintro i x H' hx ⟨s1, hD1⟩
      obtain ⟨o, ho, ro⟩ := hA.getV hx
      have et := th_take ho
      refine ⟨rfl, ?_⟩
      cases o with
      | none =>
        have ey : x = .non := ro
        subst ey
        refine ⟨_, rfl, rfl, _, rfl, ?_⟩
        refine iteN (by simp) ?_
        refine ⟨s1, ?_⟩
        rw [et, List.append_nil]
        exact hD1
      | some st =>
        obtain ⟨y, rfl, dy, hy⟩ := ro
        refine ⟨_, rfl, rfl, _, rfl, ?_⟩
        refine iteP (by simp) ?_
        refine (wFld rfl (s1 _ _ hy) T.cl m3 (stF_price _ _ _) ⟨_, hD1, ?_, fun b e q => ?_, ?_⟩)
        · rw [nv_len, List.length_map]
          have := th_take_len (i := i) hl40
          exact szl (by omega)
        · rw [upd_ne (ne_of_none q hDn)]
          exact s1 _ _ q
        · rw [upd_same, et, List.map_append]
          show _ = some (HO.lst (nv (_ ++ [st.price])))
          rw [nv_snoc]
    · rintro H1 ⟨s1, hD1⟩
      rw [hA.len, List.take_length, ← Rd.there_eq] at hD1
      refine ⟨_, rfl, D, _, rfl, .inl (SqL.of hD1), _, rfl, D, _, rfl, SqL.of hD1, (by show 1 ≤ sizeLine; decide), fun u hu => ?_⟩
      rw [nv_len, List.length_map, Rd.sum_zs]
      refine ⟨_, u, Rd.zs [Ho.sum ((Ho.there d.stays).map fun (x : Nat × Stay) => x.2.price)], rfl, upd_same, (by show 1 ≤ 1000; decide), fun H2 q s2 nq hq => ?_⟩
      rw [step_income] at k
      exact Told.same k hD (s1.trans ((same_upd hu).trans s2)) (s1.free ((same_upd hu).free nq)) (by rw [hq]; exact told_row _ _)
abbrev fnInc (K : PySem.W.Frag) (mg : Str → Option Value) (f : Addr) (fd : FuncData) : Prop := FnAt K mg "income" sInc ["desk"] f fd
end
end Rk

-- RdDesk7
namespace Rk
open PySem PySem.Spec PyProof.Rows L2
open Ho (Stay Desk)
open Rd (Cho Edge Good)
section
variable {P : Program} {w : World} {K : PySem.W.Frag} {mg : Str → Option Value} {base : Heap}
/-! ### settle -/
inductive PSett (CS CD : Addr) (vs : List V) (H : Hp) (Q : VK) : Prop
 | mk (a dx ps po : Addr) (d : Desk) (h0 : vs = [.ref a]) (h1 : DkAt CS CD H a dx ps po d) (h2 : Good d) (h3 : Told CS CD H a dx ps po (Ho.stepOn d .settle) Q) : PSett CS CD vs H Q
def spSett (CS CD : Addr) : Sp := fun vs H Q _ => PSett CS CD vs H Q
theorem scSett : FnScope ["desk", "numbers", "number"] ["desk"] (defScope sSett) := ⟨rfl, rfl, rfl, by decide +kernel, rfl, by decide +kernel, by decide +kernel⟩
theorem blkSett : BlkOk ["desk", "numbers", "number"] (defScope sSett) { kind := .function, names := [(".0", .local), ("number", .local), ("desk", .free)], isGenerator := false, isCoroutine := false } [("number", 2)] :=
  ⟨rfl, by decide +kernel, by decide +kernel, by decide +kernel, by decide +kernel⟩
theorem ok_sett {f CS CC CD fH : Addr} {fd fdH : FuncData} (F : Fun K "settle" "settle" sSett f fd) (X : Tx K mg CS CC CD) (Ch : fnChsn K mg fH fdH) : FnOk P w K mg base CX0 8 f fd ["desk"] (spSett CS CD) := by
  obtain ⟨fA, fdA, An⟩ := X.answ
  obtain ⟨fC, fdC, TC⟩ := X.cho
  obtain ⟨fD, fdD, TD⟩ := X.desk
  have GA : FnOk P w K mg base CX0 1 fA fdA ["number", "row"] spAnsw := ok_answ An.F X.own
  have GH : FnOk P w K mg base CX0 7 fH fdH ["desk"] (spChsn CS CC CD) := ok_chsn Ch.F X
  refine F.ok scSett (fun vs H Q E h => ?_) (fun cdv A outer s H vs Q E hr h => ?_)
  · obtain ⟨a, dx, ps, po, d, rfl, _⟩ := h
    rfl
  · obtain ⟨a, dx, ps, po, d, rfl, hD, g, k⟩ := h
    have hr1 : Room 1 _ := hr.mono (by decide)
    have m1 := TC.no "numbers" (by decide +kernel)
    have n3 := TD.no "stays" (by decide +kernel)
    have n4 := TD.no "offers" (by decide +kernel)
    obtain ⟨t3, h3⟩ := X.cst.stays
    obtain ⟨t4, h4⟩ := X.cst.used
    refine ⟨_, pss_cons (ps_set (i := 1) scSett.nd rfl (Or.inl rfl) (pe_fldK (K := K) rfl (pe_call GH hr rfl Ch.m Ch.F.kp Ch.b .nil pass0 (pa_cons (pv 0) pa_nil)) rfl))
      (pss_cons (ps_if (pt_cmpR op_gt (pe_op op_add (pe_callB (call_lenK (K := K) rfl) (by rfl) X.own.len PySem.boot_len (pa_cons (pe_fldK (K := K) rfl (pv 0) rfl) pa_nil)) (pe_callB (call_lenK (K := K) rfl) (by rfl) X.own.len PySem.boot_len (pa_cons (pv 1) pa_nil))) (pe_gi rfl h3) (nomark _))
        (pss_one (ps_ret (pe_call GA hr1 rfl An.m An.F.kp An.b .nil pass0 (pa_cons (pe_gi rfl h4) (pa_cons (pe_lst pa_nil) pa_nil))))) pss_nil)
      (pss_cons (ps_expr (pe_bmK (K := K) rfl PySem.F.plainAttrs_list PySem.F.slot_list_extend PySem.F.type_list_extend mt_extend (pe_fldK (K := K) rfl (pv 0) rfl) (pa_cons (pe_lc (own := [("number", 2)]) rfl scSett.nd (pi_listK (K := K) rfl (pv 1)) blkSett (fun _ _ _ _ _ => pg_name (i := 2) scSett.nd rfl (Or.inl rfl)) (fun _ _ _ _ _ => pts_nil)
        (fun _ _ _ _ _ => pe_ix (r := rIxL K) ix_list (pe_fldK (K := K) rfl (pv 0) rfl) (pv 2) (fun _ _ => rfl))) pa_nil)))
      (pss_cons (ps_fldK (K := K) rfl (pv 0) (pe_lst pa_nil) rfl)
      (pss_one (ps_ret (pe_call GA hr1 rfl An.m An.F.kp An.b .nil pass0 (pa_cons (pe_callB (call_lenK (K := K) rfl) (by rfl) X.own.len PySem.boot_len (pa_cons (pv 1) pa_nil)) (pa_cons (pe_lst pa_nil) pa_nil)))))))), ?_⟩
    refine ⟨_, rfl, a, dx, ps, po, d, rfl, hD, g, fun H1 v s1 hv => ?_⟩
    obtain ⟨x, dc, pn, pf, rfl, hc⟩ := hv
    have hD1 := hD.same s1
    obtain ⟨vs, hvs, hA⟩ := hD1.st
    obtain ⟨us, hus, hB⟩ := hD1.off
    have hn1 : H1 pn = some (.lst (nv d.chosen.2)) := hc.num
    refine ⟨x, CC, dc, _, _, rfl, hc.ins, TC.cl, m1, chF_numbers _ _ _, ?_⟩
    refine (wFld rfl hD1.ins TD.cl n3 (dkF_stays _ _ _ _) ⟨ps, _, rfl, .inl (SqL.of hvs), _, rfl, pn, _, rfl, .inl (SqL.of hn1), _, _, rfl, rfl, wOp ⟨_, rfl, ?_⟩⟩)
    rw [hA.len, nv_len, ← Rd.sett_len]
    rw [Rd.step_settle] at k
    have e40 : Ho.STAYS = 40 := rfl
    refine ite2 (fun q => ?_) (fun q => ?_)
    · have q' : (40 : Int) < ((d.stays.length : Nat) : Int) + (((Rd.sett d).length : Nat) : Int) := of_decide_eq_true q
      rw [if_pos (by omega)] at k
      exact ret_const fun H' q s' nq hq => Told.same k hD (s1.trans s') (s1.free nq) hq
    have q' : ¬ (40 : Int) < ((d.stays.length : Nat) : Int) + (((Rd.sett d).length : Nat) : Int) := fun z => q (decide_eq_true z)
    rw [if_neg (by omega)] at k
    have hsl : (Rd.sett d).length = d.chosen.2.length := Rd.sett_len d
    refine ⟨_, rfl, a, CD, dx, _, _, rfl, hD1.ins, TD.cl, n3, dkF_stays _ _ _ _, .inl ⟨rfl, _, SqL.of hvs⟩, _, rfl, pn, rfl, ⟨_, SqL.of hn1⟩, fun D hDn => lc_list (K := K) (a := pn) (xs := nv d.chosen.2)
      (fun i H' => Same H1 H' ∧ ∃ zs, H' D = some (.lst zs) ∧ Al (OpAt CS H1) zs (((Rd.sett d).map fun (x : Nat × Stay) => some x.2).take i)) ⟨same_upd hDn, [], upd_same, Al.nil⟩ (fun i H' _ h => SqL.of (h.1 _ _ hn1)) ?_ ?_⟩
    · rintro i y H' hy ⟨s2, zs, hD2, hZ⟩
      obtain ⟨kk, hk, rfl⟩ := nv_get hy
      obtain ⟨st, hs1, hs2⟩ := Rd.sett_get hk
      obtain ⟨v, hv, rv⟩ := hB.get hs2
      have et : ((Rd.sett d).map fun (x : Nat × Stay) => some x.2).take (i + 1) = ((Rd.sett d).map fun (x : Nat × Stay) => some x.2).take i ++ [some st] := take_snoc (by rw [List.getElem?_map, hs1]; rfl)
      refine ⟨rfl, ?_⟩
      unfold tYes
      dsimp only
      rw [if_pos rfl]
      refine (wFld rfl (s2 _ _ hD1.ins) TD.cl n4 (dkF_offers _ _ _ _) ⟨_, rfl, wRix (SqL.of (s2 _ _ hus)) (at_of (j := kk) rfl hv) ⟨zs, hD2, ?_, ?_, ?_⟩⟩)
      · have := hZ.len
        rw [List.length_take, List.length_map] at this
        exact szl (by omega)
      · intro b o e
        rw [upd_ne (ne_of_none e hDn)]
        exact s2 _ _ e
      · refine ⟨_, upd_same, ?_⟩
        rw [et]
        exact hZ.snoc rv
    · rintro H2 ⟨s2, zs, hD2, hZ⟩
      rw [nv_len, ← hsl, List.take_of_length_le (by rw [List.length_map]; exact Nat.le_refl _)] at hZ
      have hzl := hZ.len
      rw [List.length_map] at hzl
      have hal := hA.len
      refine ⟨ps, D, _, _, rfl, rfl, s2 _ _ hvs, hD2, sz (by omega), ?_⟩
      have hn3 : (upd H2 ps (.lst (vs ++ zs))) pn = some (.lst (nv d.chosen.2)) := by
        by_cases e : pn = ps
        · rw [e, upd_same]
          rw [e, hvs] at hn1
          have ev : vs = nv d.chosen.2 := by
            have := Option.some.inj hn1
            injection this
          cases ec : d.chosen.2 with
          | nil =>
            rw [ec] at ev hsl
            have ez : zs = [] := List.eq_nil_of_length_eq_zero (by rw [hzl, hsl]; rfl)
            rw [ev, ez]
            rfl
          | cons c l =>
            rw [ec] at ev
            have h0 : vs[0]? = some (.int (c : Nat)) := by
              rw [ev]
              rfl
            obtain ⟨o, _, ro⟩ := hA.getV h0
            cases o with
            | none =>
              have : V.int (c : Nat) = .non := ro
              cases this
            | some st =>
              obtain ⟨b, eb, _⟩ := ro
              cases eb
        · rw [upd_ne e]
          exact s2 _ _ hn1
      have na : a ≠ ps := ne_of hD1.ins hvs (by intro z; cases z)
      have nao : a ≠ po := ne_of hD1.ins hus (by intro z; cases z)
      have hins3 : (upd H2 ps (.lst (vs ++ zs))) a = some (.ins CD dx (dkF (.int d.rooms) (.int d.nights) (.ref ps) (.ref po))) := by
        rw [upd_ne na]
        exact s2 _ _ hD1.ins
      have hps3 : (upd H2 ps (.lst (vs ++ zs))) ps = some (.lst (vs ++ zs)) := upd_same
      have kp3 : ∀ b o, H1 b = some o → b ≠ ps → (upd H2 ps (.lst (vs ++ zs))) b = some o := fun b o e hb => by
        rw [upd_ne hb]
        exact s2 _ _ e
      have f3 : ∀ b, (upd H2 ps (.lst (vs ++ zs))) b = none → H b = none := fun b e => s1.free (s2.free (upd_none e).1)
      generalize upd H2 ps (.lst (vs ++ zs)) = H3 at hn3 hins3 hps3 kp3 f3
      -- desk.offers = []
      refine ⟨Nat.zero_le _, fun qo hqo => ?_⟩
      have nqa : qo ≠ a := Ne.symm (ne_of_none hins3 hqo)
      have nqs : qo ≠ ps := Ne.symm (ne_of_none hps3 hqo)
      have nqn : qo ≠ pn := Ne.symm (ne_of_none hn3 hqo)
      have nna : pn ≠ a := ne_of hn3 hins3 (by intro z; cases z)
      refine ⟨_, rfl, a, CD, dx, _, rfl, (by rw [upd_ne (Ne.symm nqa)]; exact hins3), TD.cl, n4, (by show 4 < 1000; decide), ?_⟩
      rw [dk_offers]
      have kp4 : ∀ b o, H3 b = some o → b ≠ a → (upd (upd H3 qo (.lst [])) a (.ins CD dx (dkF (.int d.rooms) (.int d.nights) (.ref ps) (.ref qo)))) b = some o := fun b o e hb => by
        rw [upd_ne hb, upd_ne (ne_of_none e hqo)]
        exact e
      have hins4 : (upd (upd H3 qo (.lst [])) a (.ins CD dx (dkF (.int d.rooms) (.int d.nights) (.ref ps) (.ref qo)))) a = some (.ins CD dx (dkF (.int d.rooms) (.int d.nights) (.ref ps) (.ref qo))) := upd_same
      have hqo4 : (upd (upd H3 qo (.lst [])) a (.ins CD dx (dkF (.int d.rooms) (.int d.nights) (.ref ps) (.ref qo)))) qo = some (.lst []) := by
        rw [upd_ne nqa, upd_same]
      have f4 : ∀ b, (upd (upd H3 qo (.lst [])) a (.ins CD dx (dkF (.int d.rooms) (.int d.nights) (.ref ps) (.ref qo)))) b = none → H b = none := fun b e => f3 b (upd_none (upd_none e).1).1
      generalize upd (upd H3 qo (.lst [])) a (.ins CD dx (dkF (.int d.rooms) (.int d.nights) (.ref ps) (.ref qo))) = H4 at kp4 hins4 hqo4 f4
      have hn4 := kp4 _ _ hn3 nna
      refine ⟨_, rfl, pn, _, rfl, .inl (SqL.of hn4), Nat.zero_le _, fun u hu => ?_⟩
      rw [nv_len, ← hsl]
      refine ⟨_, u, [], rfl, upd_same, Nat.zero_le _, fun H' q s' nq hq => ?_⟩
      have s5 : Same H4 H' := (same_upd (o := HO.lst []) hu).trans s'
      have kst : ∀ {v : V} {o : Option Stay}, OpAt CS H1 v o → OpAt CS H' v o := fun {v o} r => by
        cases o with
        | none => exact r
        | some st2 =>
          obtain ⟨y, ey, dy, hy⟩ := r
          refine ⟨y, ey, dy, s5 _ _ (kp4 _ _ (kp3 _ _ hy (ne_of hy hvs (by intro z; cases z))) (ne_of hy hD1.ins ?_))⟩
          intro z
          injection z with _ _ z3
          exact stF_ne_dkF _ _ _ _ _ _ _ z3
      refine k H' ps qo q ⟨s5 _ _ hins4, ⟨_, s5 _ _ (kp4 _ _ hps3 (Ne.symm na)), ?_⟩, ⟨[], s5 _ _ hqo4, Al.nil⟩, Ne.symm nqs⟩ (f4 _ (upd_none nq).1) hq fun b o e h6 h7 h8 => ⟨s5 _ _ (kp4 _ _ (kp3 _ _ (s1 _ _ e) h7) h6), h7, ?_⟩
      · exact (hA.mono fun v o r => kst r).append (hZ.mono fun v o r => kst r)
      · exact ne_of_none e (f3 _ hqo)
abbrev fnSett (K : PySem.W.Frag) (mg : Str → Option Value) (f : Addr) (fd : FuncData) : Prop := FnAt K mg "settle" sSett ["desk"] f fd
end
end Rk

-- RdTo
namespace Rk
open PySem PySem.Spec PyProof.Rows L2
open Ho (Stay Desk)
open Rd (Cho Edge Good StOk)
abbrev sTo : Stmt := top 60
/-- a call by its number and its numbers -/
inductive Kd : Int → List Int → Ho.Call → Prop
  | begin_ (r n : Nat) : Kd 1 [(r : Int), (n : Int)] (.begin_ r n)
  | book (a b p : Nat) : Kd 2 [(a : Int), (b : Int), (p : Int)] (.book a b p)
  | cancel (k : Nat) : Kd 3 [(k : Int)] (.cancel k)
  | change (k a b : Nat) : Kd 4 [(k : Int), (a : Int), (b : Int)] (.change k a b)
  | offer (a b p : Nat) : Kd 5 [(a : Int), (b : Int), (p : Int)] (.offer a b p)
  | withdraw (k : Nat) : Kd 6 [(k : Int)] (.withdraw k)
  | choose : Kd 7 [] .choose
  | prices : Kd 8 [] .prices
  | settle : Kd 9 [] .settle
  | rooms : Kd 10 [] .rooms
  | night (n : Nat) : Kd 11 [(n : Int)] (.night n)
  | free (n : Nat) : Kd 12 [(n : Int)] (.free n)
  | first (l a : Nat) : (a : Int) < 2 ^ 63 → Kd 13 [(l : Int), (a : Int)] (.first l a)
  | until_ (n : Nat) : Kd 14 [(n : Int)] (.until_ n)
  | told (k : Nat) : Kd 15 [(k : Int)] (.told k)
  | income : Kd 16 [] .income
theorem natural_nat {z : Int} (h : RoomNeutral.natural z 63 = true) : ∃ n : Nat, z = (n : Int) ∧ (n : Int) < 2 ^ 63 := by
  unfold RoomNeutral.natural at h
  rw [Bool.and_eq_true, decide_eq_true_iff, decide_eq_true_iff] at h
  exact ⟨z.toNat, by omega, by omega⟩
theorem and2 {a b : Bool} (h : (a && b) = true) : a = true ∧ b = true := by
  rw [Bool.and_eq_true] at h
  exact h
theorem nat1 {x : Int} (h : RoomNeutral.natural x 63 = true) : ∃ a : Nat, x = (a : Int) := let ⟨a, e, _⟩ := natural_nat h; ⟨a, e⟩
theorem kd_of {p : Int} {xs : List Int} (h : PyWrhotl.shape p = some (xs.length, 0)) (ha : RoomNeutral.asked1 (PyWrhotl.whole [p :: xs]) = true) : ∃ c, Kd p xs c ∧ RoomNeutral.callOf (PyWrhotl.whole [p :: xs]) = some c := by
  obtain ⟨_, h1, h16, _⟩ := Rd.shape_rows h
  have len : ∀ {n : Nat}, PyWrhotl.shape p = some (n, 0) → xs.length = n := fun {n} e => by
    rw [h] at e
    have e2 := Option.some.inj e
    injection e2
  rcases Rd.upto16 h1 h16 with rfl | rfl | rfl | rfl | rfl | rfl | rfl | rfl | rfl | rfl | rfl | rfl | rfl | rfl | rfl | rfl
  · obtain ⟨x, y, rfl⟩ := Rd.len2 (len (n := 2) rfl)
    obtain ⟨q1, q2⟩ := and2 (a := RoomNeutral.natural x 63) (b := RoomNeutral.natural y 63) ha
    obtain ⟨a, rfl⟩ := nat1 q1
    obtain ⟨b, rfl⟩ := nat1 q2
    exact ⟨_, .begin_ a b, rfl⟩
  · obtain ⟨x, y, z, rfl⟩ := Rd.len3 (len (n := 3) rfl)
    obtain ⟨q1, q2⟩ := and2 (a := RoomNeutral.natural x 63) (b := RoomNeutral.natural y 63 && RoomNeutral.natural z 63) ha
    obtain ⟨q2, q3⟩ := and2 q2
    obtain ⟨a, rfl⟩ := nat1 q1
    obtain ⟨b, rfl⟩ := nat1 q2
    obtain ⟨c, rfl⟩ := nat1 q3
    exact ⟨_, .book a b c, rfl⟩
  · obtain ⟨x, rfl⟩ := Rd.len1 (len (n := 1) rfl)
    obtain ⟨a, rfl⟩ := nat1 (x := x) ha
    exact ⟨_, .cancel a, rfl⟩
  · obtain ⟨x, y, z, rfl⟩ := Rd.len3 (len (n := 3) rfl)
    obtain ⟨q1, q2⟩ := and2 (a := RoomNeutral.natural x 63) (b := RoomNeutral.natural y 63 && RoomNeutral.natural z 63) ha
    obtain ⟨q2, q3⟩ := and2 q2
    obtain ⟨a, rfl⟩ := nat1 q1
    obtain ⟨b, rfl⟩ := nat1 q2
    obtain ⟨c, rfl⟩ := nat1 q3
    exact ⟨_, .change a b c, rfl⟩
  · obtain ⟨x, y, z, rfl⟩ := Rd.len3 (len (n := 3) rfl)
    obtain ⟨q1, q2⟩ := and2 (a := RoomNeutral.natural x 63) (b := RoomNeutral.natural y 63 && RoomNeutral.natural z 63) ha
    obtain ⟨q2, q3⟩ := and2 q2
    obtain ⟨a, rfl⟩ := nat1 q1
    obtain ⟨b, rfl⟩ := nat1 q2
    obtain ⟨c, rfl⟩ := nat1 q3
    exact ⟨_, .offer a b c, rfl⟩
  · obtain ⟨x, rfl⟩ := Rd.len1 (len (n := 1) rfl)
    obtain ⟨a, rfl⟩ := nat1 (x := x) ha
    exact ⟨_, .withdraw a, rfl⟩
  · obtain rfl := Rd.len0 (len (n := 0) rfl)
    exact ⟨_, .choose, rfl⟩
  · obtain rfl := Rd.len0 (len (n := 0) rfl)
    exact ⟨_, .prices, rfl⟩
  · obtain rfl := Rd.len0 (len (n := 0) rfl)
    exact ⟨_, .settle, rfl⟩
  · obtain rfl := Rd.len0 (len (n := 0) rfl)
    exact ⟨_, .rooms, rfl⟩
  · obtain ⟨x, rfl⟩ := Rd.len1 (len (n := 1) rfl)
    obtain ⟨a, rfl⟩ := nat1 (x := x) ha
    exact ⟨_, .night a, rfl⟩
  · obtain ⟨x, rfl⟩ := Rd.len1 (len (n := 1) rfl)
    obtain ⟨a, rfl⟩ := nat1 (x := x) ha
    exact ⟨_, .free a, rfl⟩
  · obtain ⟨x, y, rfl⟩ := Rd.len2 (len (n := 2) rfl)
    obtain ⟨q1, q2⟩ := and2 (a := RoomNeutral.natural x 63) (b := RoomNeutral.natural y 63) ha
    obtain ⟨a, rfl⟩ := nat1 q1
    obtain ⟨b, rfl, hb⟩ := natural_nat q2
    exact ⟨_, .first a b hb, rfl⟩
  · obtain ⟨x, rfl⟩ := Rd.len1 (len (n := 1) rfl)
    obtain ⟨a, rfl⟩ := nat1 (x := x) ha
    exact ⟨_, .until_ a, rfl⟩
  · obtain ⟨x, rfl⟩ := Rd.len1 (len (n := 1) rfl)
    obtain ⟨a, rfl⟩ := nat1 (x := x) ha
    exact ⟨_, .told a, rfl⟩
  · obtain rfl := Rd.len0 (len (n := 0) rfl)
    exact ⟨_, .income, rfl⟩

/-- what a call on the state s is to come to -/
def ToldS (CS CD : Addr) (H : Hp) (a dx ps po : Addr) (z : Ho.State × List Int) (Q : VK) : Prop := ∀ (H' : Hp) (ps' po' q : Addr) (d' : Desk), StOk z.1 d' → DkAt CS CD H' a dx ps' po' d' → H q = none → H' q = some (.lst (iv z.2)) →
  (∀ b o, H b = some o → b ≠ a → b ≠ ps → b ≠ po → H' b = some o ∧ b ≠ ps' ∧ b ≠ po') → Q (.ref q) H'
/-- answer_to's: the call p with the numbers xs -/
inductive PTo (CS CD : Addr) (vs : List V) (H : Hp) (Q : VK) : Prop
 | mk (a dx ps po q : Addr) (s : Ho.State) (d : Desk) (p : Int) (xs : List Int) (h0 : vs = [.ref a, .int p, .ref q]) (h1 : H q = some (.lst (iv xs))) (h2 : StOk s d) (h3 : DkAt CS CD H a dx ps po d) (h4 : PyWrhotl.shape p = some (xs.length, 0)) (h5 : RoomNeutral.asked1 (PyWrhotl.whole [p :: xs]) = true) (h6 : ToldS CS CD H a dx ps po (RoomNeutral.step s (PyWrhotl.whole [p :: xs])) Q) : PTo CS CD vs H Q
def spTo (CS CD : Addr) : Sp := fun vs H Q _ => PTo CS CD vs H Q
theorem step_of {s : Ho.State} {c : List (List Int)} {x : Ho.Call} (h : RoomNeutral.callOf c = some x) : RoomNeutral.step s c = ((Ho.step s x).1, RoomNeutral.told (Ho.step s x).2) := by
  unfold RoomNeutral.step
  rw [h]
theorem Told.up {CS CD : Addr} {H H1 : Hp} {a dx ps po : Addr} {z : Desk × Ho.Answer} {Q : VK} (h : Told CS CD H a dx ps po z Q) (s : Same H H1) : Told CS CD H1 a dx ps po z Q := fun H' ps' po' q hD nq hq fr =>
  h H' ps' po' q hD (s.free nq) hq fun b o e h1 h2 h3 => fr b o (s b o e) h1 h2 h3
theorem told_begin {CS CD : Addr} {H : Hp} {a dx ps po : Addr} {s : Ho.State} {d : Desk} {r n : Nat} {Q : VK} (hs : StOk s d) (h : ToldS CS CD H a dx ps po ((Ho.step s (.begin_ r n)).1, RoomNeutral.told (Ho.step s (.begin_ r n)).2) Q) :
    Told CS CD H a dx ps po (if r < 1 ∨ Ho.ROOMS < r ∨ n < 1 ∨ Ho.NIGHTS < n then (d, Ho.BAD) else (⟨r, n, [], []⟩, Ho.says 0)) Q := by
  intro H' ps' po' q hD nq hq fr
  rw [Rd.step_begin] at h
  by_cases c : r < 1 ∨ Ho.ROOMS < r ∨ n < 1 ∨ Ho.NIGHTS < n
  · rw [if_pos c] at hD hq h
    exact h H' ps' po' q d hs hD nq hq fr
  · rw [if_neg c] at hD hq h
    exact h H' ps' po' q _ ⟨rfl, Rd.good_begin c⟩ hD nq hq fr
theorem told_on {CS CD : Addr} {H : Hp} {a dx ps po : Addr} {d : Desk} {c : Ho.Call} {Q : VK} (g : Good d) (hc : ∀ r n, c ≠ .begin_ r n) (h : ToldS CS CD H a dx ps po ((Ho.step (some d) c).1, RoomNeutral.told (Ho.step (some d) c).2) Q) :
    Told CS CD H a dx ps po (Ho.stepOn d c) Q := by
  intro H' ps' po' q hD nq hq fr
  rw [Rd.step_on d c hc] at h
  exact h H' ps' po' q _ ⟨rfl, Rd.good_step g c⟩ hD nq hq fr
theorem skipI {i j : Int} {A B : Prop} (h : i ≠ j) (b : B) : if decide (V.int i = V.int j) = true then A else B := iteN (fun z => h (by
  have e := of_decide_eq_true z
  injection e)) b
theorem takeI {i : Int} {A B : Prop} (a : A) : if decide (V.int i = V.int i) = true then A else B := iteP (decide_eq_true rfl) a
/-- a test for another call's number: on; for this one's: in -/
theorem skS {i : Nat} {z j : Int} {t u : TS} {D : Ends} {σ : L2.St} {H : Hp} (h : σ[i]? = some (some (.int z))) (n : z ≠ j) (k : u D σ H) : tSeq (tIfS (tTest (tOp rEqI (tVar i) (tC (.int j)))) t tNext) u D σ H := ⟨_, h, rfl, _, rfl, skipI n k⟩
theorem tkS {i : Nat} {z : Int} {t u : TS} {D : Ends} {σ : L2.St} {H : Hp} (h : σ[i]? = some (some (.int z))) (k : t { D with nx := u D } σ H) : tSeq (tIfS (tTest (tOp rEqI (tVar i) (tC (.int z)))) t tNext) u D σ H := ⟨_, h, rfl, _, rfl, takeI k⟩
theorem step_cancel (d : Desk) (k : Nat) : Ho.stepOn d (.cancel k) = (match Ho.stayOf d.stays k with
    | none => (d, Ho.NONE)
    | some _ => ({ d with stays := d.stays.set k none }, Ho.says 0)) := rfl
theorem step_withdraw (d : Desk) (k : Nat) : Ho.stepOn d (.withdraw k) = (match Ho.stayOf d.offers k with
    | none => (d, Ho.NONE)
    | some _ => ({ d with offers := d.offers.set k none }, Ho.says 0)) := rfl
theorem LsAt.keep1 {CS : Addr} {H H' : Hp} {p ps : Addr} {l m : List (Option Stay)} (h : LsAt CS H p l) (hs : LsAt CS H ps m) (ne : p ≠ ps) (k : ∀ b o, H b = some o → b ≠ ps → H' b = some o) : LsAt CS H' p l := by
  obtain ⟨us, hus, hA⟩ := h
  obtain ⟨vs, hvs, _⟩ := hs
  refine ⟨us, k _ _ hus ne, hA.mono fun v o r => ?_⟩
  cases o with
  | none => exact r
  | some st =>
    obtain ⟨y, ey, dy, hy⟩ := r
    exact ⟨y, ey, dy, k _ _ hy (ne_of hy hvs (by intro z; cases z))⟩
section
variable {P : Program} {w : World} {K : PySem.W.Frag} {mg : Str → Option Value} {base : Heap}
/-! ### answer_on_stays -/
inductive POst (CS CD : Addr) (vs : List V) (H : Hp) (Q : VK) : Prop
 | mk (a dx ps po q : Addr) (d : Desk) (p : Int) (xs : List Int) (c : Ho.Call) (h0 : vs = [.ref a, .int p, .ref q]) (h1 : H q = some (.lst (iv xs))) (h2 : DkAt CS CD H a dx ps po d) (h3 : Good d) (h4 : Kd p xs c) (h5 : 10 ≤ p) (h6 : Told CS CD H a dx ps po (Ho.stepOn d c) Q) : POst CS CD vs H Q
def spOst (CS CD : Addr) : Sp := fun vs H Q _ => POst CS CD vs H Q
theorem scOst : FnScope ["desk", "call", "numbers"] ["desk", "call", "numbers"] (defScope sOst) := ⟨rfl, rfl, rfl, by decide +kernel, rfl, by decide +kernel, by decide +kernel⟩
structure Tq (K : PySem.W.Frag) (mg : Str → Option Value) : Prop where
  rms : X2 fun f fd => fnRms K mg f fd
  nigh : X2 fun f fd => fnNigh K mg f fd
  fon : X2 fun f fd => fnFon K mg f fd
  fst : X2 fun f fd => fnFst K mg f fd
  unt : X2 fun f fd => fnUnt K mg f fd
  told : X2 fun f fd => fnTold K mg f fd
  inc : X2 fun f fd => fnInc K mg f fd
theorem ok_ost {f CS CC CD : Addr} {fd : FuncData} (F : Fun K "answer_on_stays" "answer_on_stays" sOst f fd) (X : Tx K mg CS CC CD) (Y : Tq K mg) : FnOk P w K mg base CX0 5 f fd ["desk", "call", "numbers"] (spOst CS CD) := by
  obtain ⟨f1, fd1, Rm⟩ := Y.rms
  obtain ⟨f2, fd2, Ni⟩ := Y.nigh
  obtain ⟨f3, fd3, Fo⟩ := Y.fon
  obtain ⟨f4, fd4, Fi⟩ := Y.fst
  obtain ⟨f5, fd5, Un⟩ := Y.unt
  obtain ⟨f6, fd6, To⟩ := Y.told
  obtain ⟨f7, fd7, In⟩ := Y.inc
  have G1 : FnOk P w K mg base CX0 3 f1 fd1 ["desk"] (spRms CS CD) := ok_rms Rm.F X
  have G2 : FnOk P w K mg base CX0 4 f2 fd2 ["desk", "night"] (spNigh CS CD) := ok_nigh Ni.F X
  have G3 : FnOk P w K mg base CX0 4 f3 fd3 ["desk", "night"] (spFon CS CD) := ok_fon Fo.F X
  have G4 : FnOk P w K mg base CX0 4 f4 fd4 ["desk", "how_many", "start"] (spFst CS CD) := ok_fst Fi.F X
  have G5 : FnOk P w K mg base CX0 4 f5 fd5 ["desk", "night"] (spUnt CS CD) := ok_unt Un.F X
  have G6 : FnOk P w K mg base CX0 2 f6 fd6 ["desk", "number"] (spTold CS CD) := ok_told To.F X
  have G7 : FnOk P w K mg base CX0 2 f7 fd7 ["desk"] (spInc CS CD) := ok_inc In.F X
  refine F.ok scOst (fun vs H Q E h => ?_) (fun cdv A outer s H vs Q E hr h => ?_)
  · obtain ⟨a, dx, ps, po, q, d, p, xs, c, rfl, _⟩ := h
    rfl
  · obtain ⟨a, dx, ps, po, q, d, p, xs, c, rfl, hq, hD, g, hk, hp, k⟩ := h
    have hr3 : Room 3 _ := hr.mono (by decide)
    have hr2 : Room 2 _ := hr.mono (by decide)
    refine ⟨_, pss_cons (ps_if (pt_cmpR op_eqI (pv 1) pe_int (nomark _)) (pss_one (ps_ret (pe_call G1 hr3 rfl Rm.m Rm.F.kp Rm.b .nil pass0 (pa_cons (pv 0) pa_nil)))) pss_nil)
      (pss_cons (ps_if (pt_cmpR op_eqI (pv 1) pe_int (nomark _)) (pss_one (ps_ret (pe_call G2 hr rfl Ni.m Ni.F.kp Ni.b .nil pass0 (pa_cons (pv 0) (pa_cons (pe_ix (r := rIxL K) ix_list (pv 2) pe_int (fun _ _ => rfl)) pa_nil))))) pss_nil)
      (pss_cons (ps_if (pt_cmpR op_eqI (pv 1) pe_int (nomark _)) (pss_one (ps_ret (pe_call G3 hr rfl Fo.m Fo.F.kp Fo.b .nil pass0 (pa_cons (pv 0) (pa_cons (pe_ix (r := rIxL K) ix_list (pv 2) pe_int (fun _ _ => rfl)) pa_nil))))) pss_nil)
      (pss_cons (ps_if (pt_cmpR op_eqI (pv 1) pe_int (nomark _)) (pss_one (ps_ret (pe_call G4 hr rfl Fi.m Fi.F.kp Fi.b .nil pass0 (pa_cons (pv 0) (pa_cons (pe_ix (r := rIxL K) ix_list (pv 2) pe_int (fun _ _ => rfl)) (pa_cons (pe_ix (r := rIxL K) ix_list (pv 2) pe_int (fun _ _ => rfl)) pa_nil)))))) pss_nil)
      (pss_cons (ps_if (pt_cmpR op_eqI (pv 1) pe_int (nomark _)) (pss_one (ps_ret (pe_call G5 hr rfl Un.m Un.F.kp Un.b .nil pass0 (pa_cons (pv 0) (pa_cons (pe_ix (r := rIxL K) ix_list (pv 2) pe_int (fun _ _ => rfl)) pa_nil))))) pss_nil)
      (pss_cons (ps_if (pt_cmpR op_eqI (pv 1) pe_int (nomark _)) (pss_one (ps_ret (pe_call G6 hr2 rfl To.m To.F.kp To.b .nil pass0 (pa_cons (pv 0) (pa_cons (pe_ix (r := rIxL K) ix_list (pv 2) pe_int (fun _ _ => rfl)) pa_nil))))) pss_nil)
      (pss_one (ps_ret (pe_call G7 hr2 rfl In.m In.F.kp In.b .nil pass0 (pa_cons (pv 0) pa_nil))))))))), ?_⟩
    cases hk with
    | begin_ r n => exact absurd hp (by decide)
    | book a b p => exact absurd hp (by decide)
    | cancel k => exact absurd hp (by decide)
    | change k a b => exact absurd hp (by decide)
    | offer a b p => exact absurd hp (by decide)
    | withdraw k => exact absurd hp (by decide)
    | choose => exact absurd hp (by decide)
    | prices => exact absurd hp (by decide)
    | settle => exact absurd hp (by decide)
    | rooms =>
      refine tkS rfl ?_
      exact ⟨_, rfl, a, dx, ps, po, d, rfl, hD, g, k⟩
    | night n =>
      refine skS rfl (by decide) ?_
      refine tkS rfl ?_
      exact ⟨_, rfl, wIxC rfl (SqL.of hq) (at_of (j := 0) rfl rfl) ⟨a, dx, ps, po, d, n, rfl, hD, g, k⟩⟩
    | free n =>
      refine skS rfl (by decide) ?_
      refine skS rfl (by decide) ?_
      refine tkS rfl ?_
      exact ⟨_, rfl, wIxC rfl (SqL.of hq) (at_of (j := 0) rfl rfl) ⟨a, dx, ps, po, d, n, rfl, hD, g, k⟩⟩
    | first l b hb =>
      refine skS rfl (by decide) ?_
      refine skS rfl (by decide) ?_
      refine skS rfl (by decide) ?_
      refine tkS rfl ?_
      exact ⟨_, rfl, wIxC rfl (SqL.of hq) (at_of (j := 0) rfl rfl) (wIxC rfl (SqL.of hq) (at_of (j := 1) rfl rfl) ⟨a, dx, ps, po, d, l, b, rfl, hD, g, hb, k⟩)⟩
    | until_ n =>
      refine skS rfl (by decide) ?_
      refine skS rfl (by decide) ?_
      refine skS rfl (by decide) ?_
      refine skS rfl (by decide) ?_
      refine tkS rfl ?_
      exact ⟨_, rfl, wIxC rfl (SqL.of hq) (at_of (j := 0) rfl rfl) ⟨a, dx, ps, po, d, n, rfl, hD, g, k⟩⟩
    | told n =>
      refine skS rfl (by decide) ?_
      refine skS rfl (by decide) ?_
      refine skS rfl (by decide) ?_
      refine skS rfl (by decide) ?_
      refine skS rfl (by decide) ?_
      refine tkS rfl ?_
      exact ⟨_, rfl, wIxC rfl (SqL.of hq) (at_of (j := 0) rfl rfl) ⟨a, dx, ps, po, d, n, rfl, hD, k⟩⟩
    | income =>
      refine skS rfl (by decide) ?_
      refine skS rfl (by decide) ?_
      refine skS rfl (by decide) ?_
      refine skS rfl (by decide) ?_
      refine skS rfl (by decide) ?_
      refine skS rfl (by decide) ?_
      exact ⟨_, rfl, a, dx, ps, po, d, rfl, hD, g, k⟩
abbrev fnOst (K : PySem.W.Frag) (mg : Str → Option Value) (f : Addr) (fd : FuncData) : Prop := FnAt K mg "answer_on_stays" sOst ["desk", "call", "numbers"] f fd

/-! ### answer_to -/
structure Tz (K : PySem.W.Frag) (mg : Str → Option Value) : Prop where
  stri : X2 fun f fd => fnStri K mg f fd
  beg : X2 fun f fd => fnBeg K mg f fd
  book : X2 fun f fd => fnBook K mg f fd
  chan : X2 fun f fd => fnChan K mg f fd
  off : X2 fun f fd => fnOff K mg f fd
  chsn : X2 fun f fd => fnChsn K mg f fd
  choo : X2 fun f fd => fnChoo K mg f fd
  pric : X2 fun f fd => fnPric K mg f fd
  sett : X2 fun f fd => fnSett K mg f fd
  ost : X2 fun f fd => fnOst K mg f fd
theorem scTo : FnScope ["desk", "call", "numbers"] ["desk", "call", "numbers"] (defScope sTo) := ⟨rfl, rfl, rfl, by decide +kernel, rfl, by decide +kernel, by decide +kernel⟩
theorem ok_to {f CS CC CD : Addr} {fd : FuncData} (F : Fun K "answer_to" "answer_to" sTo f fd) (X : Tx K mg CS CC CD) (Y : Tq K mg) (Z : Tz K mg) : FnOk P w K mg base CX0 9 f fd ["desk", "call", "numbers"] (spTo CS CD) := by
  obtain ⟨fS, fdS, T⟩ := X.stay
  obtain ⟨fD, fdD, TD⟩ := X.desk
  obtain ⟨fA, fdA, An⟩ := X.answ
  obtain ⟨fI, fdI, Is⟩ := X.isSt
  obtain ⟨fH, fdH, Ha⟩ := X.has
  obtain ⟨fW, fdW, W⟩ := X.wit
  obtain ⟨fR, fdR, Fr⟩ := X.fre
  obtain ⟨fT, fdT, Ft⟩ := X.fit
  obtain ⟨fU, fdU, Fu⟩ := X.ful
  obtain ⟨fN, fdN, Fn⟩ := X.fnow
  obtain ⟨f1, fd1, Be⟩ := Z.beg
  obtain ⟨f2, fd2, Bo⟩ := Z.book
  obtain ⟨f3, fd3, St⟩ := Z.stri
  obtain ⟨f4, fd4, Cn⟩ := Z.chan
  obtain ⟨f5, fd5, Of⟩ := Z.off
  obtain ⟨f6, fd6, Cs⟩ := Z.chsn
  obtain ⟨f7, fd7, Co⟩ := Z.choo
  obtain ⟨f8, fd8, Pr⟩ := Z.pric
  obtain ⟨f9, fd9, Se⟩ := Z.sett
  obtain ⟨f0, fd0, Os⟩ := Z.ost
  have GS : FnOk P w K mg base CX0 1 fS fdS ["self", "start", "end", "price"] (spStay CS) := ok_stay T
  have GA : FnOk P w K mg base CX0 1 fA fdA ["number", "row"] spAnsw := ok_answ An.F X.own
  have G1 : FnOk P w K mg base CX0 2 f1 fd1 ["desk", "rooms", "nights"] (spBeg CS CD) := ok_beg Be.F TD An X.own X.cst
  have G2 : FnOk P w K mg base CX0 4 f2 fd2 ["desk", "stay"] (spBook CS CD) := ok_book Bo.F T TD An Is Fr W Ft Fu Fn X.own X.cst
  have G3 : FnOk P w K mg base CX0 2 f3 fd3 ["listed", "number"] (spStri CS) := ok_stri St.F An Ha X.own X.cst
  have G4 : FnOk P w K mg base CX0 3 f4 fd4 ["desk", "number", "start", "end"] (spChan CS CD) := ok_chan Cn.F T TD An Is Fr W Ft Fu Ha X.own X.cst
  have G5 : FnOk P w K mg base CX0 2 f5 fd5 ["desk", "stay"] (spOff CS CD) := ok_off Of.F T TD An Is X.own X.cst
  have G7 : FnOk P w K mg base CX0 8 f7 fd7 ["desk"] (spChoo CS CD) := ok_choo Co.F X Cs
  have G8 : FnOk P w K mg base CX0 8 f8 fd8 ["desk"] (spPric CS CD) := ok_pric Pr.F X Cs
  have G9 : FnOk P w K mg base CX0 8 f9 fd9 ["desk"] (spSett CS CD) := ok_sett Se.F X Cs
  have G0 : FnOk P w K mg base CX0 5 f0 fd0 ["desk", "call", "numbers"] (spOst CS CD) := ok_ost Os.F X Y
  refine F.ok scTo (fun vs H Q E h => ?_) (fun cdv A outer s H vs Q E hr h => ?_)
  · obtain ⟨a, dx, ps, po, q, s, d, p, xs, rfl, _⟩ := h
    rfl
  · obtain ⟨a, dx, ps, po, q, s, d, p, xs, rfl, hq, hst, hD, hsh, hask, k⟩ := h
    obtain ⟨c, hk, hc⟩ := kd_of hsh hask
    rw [step_of hc] at k
    have hr1 : Room 1 _ := hr.mono (by decide)
    have hr2 : Room 2 _ := hr.mono (by decide)
    have hr3 : Room 3 _ := hr.mono (by decide)
    have hr4 : Room 4 _ := hr.mono (by decide)
    have hr5 : Room 5 _ := hr.mono (by decide)
    have n1 := TD.no "rooms" (by decide +kernel)
    have n3 := TD.no "stays" (by decide +kernel)
    have n4 := TD.no "offers" (by decide +kernel)
    obtain ⟨tn, hn⟩ := X.cst.notb
    refine ⟨_, pss_cons (ps_if (pt_cmpR op_eqI (pv 1) pe_int (nomark _)) (pss_one (ps_ret (pe_call G1 hr2 rfl Be.m Be.F.kp Be.b .nil pass0 (pa_cons (pv 0) (pa_cons (pe_ix (r := rIxL K) ix_list (pv 2) pe_int (fun _ _ => rfl)) (pa_cons (pe_ix (r := rIxL K) ix_list (pv 2) pe_int (fun _ _ => rfl)) pa_nil)))))) pss_nil)
      (pss_cons (ps_if (pt_cmpR op_eqI (pe_fldK (K := K) rfl (pv 0) rfl) pe_int (nomark _)) (pss_one (ps_ret (pe_call GA hr1 rfl An.m An.F.kp An.b .nil pass0 (pa_cons (pe_gi rfl hn) (pa_cons (pe_lst pa_nil) pa_nil))))) pss_nil)
      (pss_cons (ps_if (pt_cmpR op_eqI (pv 1) pe_int (nomark _)) (pss_one (ps_ret (pe_call G2 hr4 rfl Bo.m Bo.F.kp Bo.b .nil pass0 (pa_cons (pv 0) (pa_cons (pe_make T.mkd GS hr2 rfl T.m T.b .nil pass0 (pa_cons (pe_ix (r := rIxL K) ix_list (pv 2) pe_int (fun _ _ => rfl)) (pa_cons (pe_ix (r := rIxL K) ix_list (pv 2) pe_int (fun _ _ => rfl)) (pa_cons (pe_ix (r := rIxL K) ix_list (pv 2) pe_int (fun _ _ => rfl)) pa_nil)))) pa_nil))))) pss_nil)
      (pss_cons (ps_if (pt_cmpR op_eqI (pv 1) pe_int (nomark _)) (pss_one (ps_ret (pe_call G3 hr2 rfl St.m St.F.kp St.b .nil pass0 (pa_cons (pe_fldK (K := K) rfl (pv 0) rfl) (pa_cons (pe_ix (r := rIxL K) ix_list (pv 2) pe_int (fun _ _ => rfl)) pa_nil))))) pss_nil)
      (pss_cons (ps_if (pt_cmpR op_eqI (pv 1) pe_int (nomark _)) (pss_one (ps_ret (pe_call G4 hr3 rfl Cn.m Cn.F.kp Cn.b .nil pass0 (pa_cons (pv 0) (pa_cons (pe_ix (r := rIxL K) ix_list (pv 2) pe_int (fun _ _ => rfl)) (pa_cons (pe_ix (r := rIxL K) ix_list (pv 2) pe_int (fun _ _ => rfl)) (pa_cons (pe_ix (r := rIxL K) ix_list (pv 2) pe_int (fun _ _ => rfl)) pa_nil))))))) pss_nil)
      (pss_cons (ps_if (pt_cmpR op_eqI (pv 1) pe_int (nomark _)) (pss_one (ps_ret (pe_call G5 hr2 rfl Of.m Of.F.kp Of.b .nil pass0 (pa_cons (pv 0) (pa_cons (pe_make T.mkd GS hr2 rfl T.m T.b .nil pass0 (pa_cons (pe_ix (r := rIxL K) ix_list (pv 2) pe_int (fun _ _ => rfl)) (pa_cons (pe_ix (r := rIxL K) ix_list (pv 2) pe_int (fun _ _ => rfl)) (pa_cons (pe_ix (r := rIxL K) ix_list (pv 2) pe_int (fun _ _ => rfl)) pa_nil)))) pa_nil))))) pss_nil)
      (pss_cons (ps_if (pt_cmpR op_eqI (pv 1) pe_int (nomark _)) (pss_one (ps_ret (pe_call G3 hr2 rfl St.m St.F.kp St.b .nil pass0 (pa_cons (pe_fldK (K := K) rfl (pv 0) rfl) (pa_cons (pe_ix (r := rIxL K) ix_list (pv 2) pe_int (fun _ _ => rfl)) pa_nil))))) pss_nil)
      (pss_cons (ps_if (pt_cmpR op_eqI (pv 1) pe_int (nomark _)) (pss_one (ps_ret (pe_call G7 hr rfl Co.m Co.F.kp Co.b .nil pass0 (pa_cons (pv 0) pa_nil)))) pss_nil)
      (pss_cons (ps_if (pt_cmpR op_eqI (pv 1) pe_int (nomark _)) (pss_one (ps_ret (pe_call G8 hr rfl Pr.m Pr.F.kp Pr.b .nil pass0 (pa_cons (pv 0) pa_nil)))) pss_nil)
      (pss_cons (ps_if (pt_cmpR op_eqI (pv 1) pe_int (nomark _)) (pss_one (ps_ret (pe_call G9 hr rfl Se.m Se.F.kp Se.b .nil pass0 (pa_cons (pv 0) pa_nil)))) pss_nil)
      (pss_one (ps_ret (pe_call G0 hr5 rfl Os.m Os.F.kp Os.b .nil pass0 (pa_cons (pv 0) (pa_cons (pv 1) (pa_cons (pv 2) pa_nil))))))))))))))), ?_⟩
    by_cases hp1 : p = 1
    · subst hp1
      clear hsh hask hc
      cases hk with
      | begin_ r n =>
        refine tkS rfl ?_
        exact ⟨_, rfl, wIxC rfl (SqL.of hq) (at_of (j := 0) rfl rfl) (wIxC rfl (SqL.of hq) (at_of (j := 1) rfl rfl) ⟨a, dx, ps, po, d, r, n, rfl, hD, told_begin hst k⟩)⟩
    have hnb : ∀ r n, c ≠ .begin_ r n := fun r n e => by
      subst e
      cases hk
      exact hp1 rfl
    refine skS rfl hp1 ?_
    refine (wFld rfl hD.ins TD.cl n1 (dkF_rooms _ _ _ _) ⟨rfl, _, rfl, ?_⟩)
    cases s with
    | none =>
      have ed : d = ⟨0, 0, [], []⟩ := hst
      subst ed
      refine takeI ?_
      refine ret_const fun H' qq s' nq hq' => ?_
      rw [Rd.step_none c hnb] at k
      exact k H' ps po qq _ rfl (hD.same s') nq hq' fun b o e _ h2 h3 => ⟨s' b o e, h2, h3⟩
    | some e =>
      obtain ⟨ed, g⟩ := hst
      subst ed
      have gr := g.r1
      refine skipI (by omega) ?_
      have k2 := told_on g hnb k
      clear k
      by_cases hp10 : 10 ≤ p
      · have sk : ∀ {j : Int}, j < 10 → p ≠ j := fun {j} h e => by omega
        refine skS rfl (sk (by decide)) ?_
        refine skS rfl (sk (by decide)) ?_
        refine skS rfl (sk (by decide)) ?_
        refine skS rfl (sk (by decide)) ?_
        refine skS rfl (sk (by decide)) ?_
        refine skS rfl (sk (by decide)) ?_
        refine skS rfl (sk (by decide)) ?_
        refine skS rfl (sk (by decide)) ?_
        exact ⟨_, rfl, _, rfl, _, rfl, a, dx, ps, po, q, d, p, xs, c, rfl, hq, hD, g, hk, hp10, k2⟩
      clear hsh hask hc hnb hr1 hr2 hr3 hr4 hr5
      cases hk with
      | begin_ r n => exact absurd rfl hp1
      | book b e p =>
        refine tkS rfl ?_
        refine ⟨_, rfl, wIxC rfl (SqL.of hq) (at_of (j := 0) rfl rfl) (wIxC rfl (SqL.of hq) (at_of (j := 1) rfl rfl) (wIxC rfl (SqL.of hq) (at_of (j := 2) rfl rfl) ?_))⟩
        refine fun x dz nx ndz nez => ⟨x, dz, _, _, _, rfl, upd_same, fun H1 g1 k1 => ⟨rfl, ?_⟩⟩
        have s1 : Same H H1 := Same.made nx ndz k1
        exact ⟨a, dx, ps, po, x, d, ⟨b, e, p⟩, rfl, hD.same s1, ⟨dz, g1⟩, g, k2.up s1⟩
      | cancel n =>
        refine skS rfl (by decide) ?_
        refine tkS rfl ?_
        rw [step_cancel] at k2
        refine (wFld rfl hD.ins TD.cl n3 (dkF_stays _ _ _ _) (wIxC rfl (SqL.of hq) (at_of (j := 0) rfl rfl) ⟨ps, d.stays, n, rfl, hD.st, fun e H' qq s' nq hq' => ?_, fun st e H' qq hl fr nq hq' => ?_⟩))
        · rw [e] at k2
          exact Told.same k2 hD s' nq hq'
        · rw [e] at k2
          obtain ⟨vs, hvs⟩ := hD.st.list
          have na : a ≠ ps := ne_of hD.ins hvs (by intro z; cases z)
          exact k2 H' ps po qq ⟨fr _ _ hD.ins na, hl, hD.off.keep1 hD.st (Ne.symm hD.ne) fr, hD.ne⟩ nq hq' fun b o eb _ h2 h3 => ⟨fr _ _ eb h2, h2, h3⟩
      | change n b e =>
        refine skS rfl (by decide) ?_
        refine skS rfl (by decide) ?_
        refine tkS rfl ?_
        exact ⟨_, rfl, wIxC rfl (SqL.of hq) (at_of (j := 0) rfl rfl) (wIxC rfl (SqL.of hq) (at_of (j := 1) rfl rfl) (wIxC rfl (SqL.of hq) (at_of (j := 2) rfl rfl) ⟨a, dx, ps, po, d, n, b, e, rfl, hD, g, k2⟩))⟩
      | offer b e p =>
        refine skS rfl (by decide) ?_
        refine skS rfl (by decide) ?_
        refine skS rfl (by decide) ?_
        refine tkS rfl ?_
        refine ⟨_, rfl, wIxC rfl (SqL.of hq) (at_of (j := 0) rfl rfl) (wIxC rfl (SqL.of hq) (at_of (j := 1) rfl rfl) (wIxC rfl (SqL.of hq) (at_of (j := 2) rfl rfl) ?_))⟩
        refine fun x dz nx ndz nez => ⟨x, dz, _, _, _, rfl, upd_same, fun H1 g1 k1 => ⟨rfl, ?_⟩⟩
        have s1 : Same H H1 := Same.made nx ndz k1
        exact ⟨a, dx, ps, po, x, d, ⟨b, e, p⟩, rfl, hD.same s1, ⟨dz, g1⟩, g, k2.up s1⟩
      | withdraw n =>
        refine skS rfl (by decide) ?_
        refine skS rfl (by decide) ?_
        refine skS rfl (by decide) ?_
        refine skS rfl (by decide) ?_
        refine tkS rfl ?_
        rw [step_withdraw] at k2
        refine (wFld rfl hD.ins TD.cl n4 (dkF_offers _ _ _ _) (wIxC rfl (SqL.of hq) (at_of (j := 0) rfl rfl) ⟨po, d.offers, n, rfl, hD.off, fun e H' qq s' nq hq' => ?_, fun st e H' qq hl fr nq hq' => ?_⟩))
        · rw [e] at k2
          exact Told.same k2 hD s' nq hq'
        · rw [e] at k2
          obtain ⟨vs, hvs⟩ := hD.off.list
          have na : a ≠ po := ne_of hD.ins hvs (by intro z; cases z)
          exact k2 H' ps po qq ⟨fr _ _ hD.ins na, hD.st.keep1 hD.off hD.ne fr, hl, hD.ne⟩ nq hq' fun b o eb _ h2 h3 => ⟨fr _ _ eb h3, h2, h3⟩
      | choose =>
        refine skS rfl (by decide) ?_
        refine skS rfl (by decide) ?_
        refine skS rfl (by decide) ?_
        refine skS rfl (by decide) ?_
        refine skS rfl (by decide) ?_
        refine tkS rfl ?_
        exact ⟨_, rfl, a, dx, ps, po, d, rfl, hD, g, k2⟩
      | prices =>
        refine skS rfl (by decide) ?_
        refine skS rfl (by decide) ?_
        refine skS rfl (by decide) ?_
        refine skS rfl (by decide) ?_
        refine skS rfl (by decide) ?_
        refine skS rfl (by decide) ?_
        refine tkS rfl ?_
        exact ⟨_, rfl, a, dx, ps, po, d, rfl, hD, g, k2⟩
      | settle =>
        refine skS rfl (by decide) ?_
        refine skS rfl (by decide) ?_
        refine skS rfl (by decide) ?_
        refine skS rfl (by decide) ?_
        refine skS rfl (by decide) ?_
        refine skS rfl (by decide) ?_
        refine skS rfl (by decide) ?_
        refine tkS rfl ?_
        exact ⟨_, rfl, a, dx, ps, po, d, rfl, hD, g, k2⟩
      | rooms => exact absurd (by decide) hp10
      | night n => exact absurd (by decide) hp10
      | free n => exact absurd (by decide) hp10
      | first l b hb => exact absurd (by decide) hp10
      | until_ n => exact absurd (by decide) hp10
      | told n => exact absurd (by decide) hp10
      | income => exact absurd (by decide) hp10
end
end Rk

-- RdAnswers
namespace Rk
open PySem PySem.Spec PyProof.Rows L2
open Ho (Stay Desk)
open Rd (Cho Edge Good StOk)
abbrev sMain : Stmt := top 61

/-- the numbers that each call has -/
def hm (p : Int) : Nat := match PyWrhotl.shape p with
  | some (n, _) => n
  | none => 0
theorem sqL_keep {K : PySem.W.Frag} {H H' : Hp} {a : Addr} {xs : List V} (h : SqL K H a xs) (k : ∀ o, H a = some o → H' a = some o) : SqL K H' a xs := by
  rcases h with (h | ⟨o, h⟩) | h
  · exact .inl (.inl (k _ h))
  · exact .inl (.inr ⟨o, k _ h⟩)
  · exact .inr h
theorem cutI (l : List Int) (a b : Nat) (h1 : a ≤ b) (h2 : b ≤ l.length) : cutV (iv l) (some (a : Int)) (some (b : Int)) = iv ((l.drop a).take (b - a)) := by
  rw [cut_iv l a b h1 h2, List.drop_take]
def leftOf (n : Nat) (σ : List (Option V)) : Nat := match σ[3]? with
  | some (some (V.int z)) => n - z.toNat
  | _ => 0
/-- how it stands at each turn of the loop -/
inductive Turn0 (CS CD a0 a g dx : Addr) (H : Hp) (ns : List Int) (cs : List (List (List Int))) (σ : List (Option V)) (H' : Hp) : Prop
  | mk (i f : Nat) (v4 v5 : Option V) (s : Ho.State) (d : Desk) (ps po : Addr) (cr : List (List (List Int))) (out : List Int) (h0 : σ = [some (.ref a0), some (.ref a), some (.ref g), some (.int (i : Nat)), v4, v5]) (h1 : (∀ o, H a0 = some o → H' a0 = some o ∧ a0 ≠ a ∧ a0 ≠ ps ∧ a0 ≠ po)) (h2 : StOk s d) (h3 : DkAt CS CD H' a dx ps po d) (h4 : H' g = some (.lst (iv out))) (h5 : g ≠ ps) (h6 : g ≠ po) (h7 : i ≤ ns.length) (h8 : PyFlat.calls PyWrhotl.shape f (ns.drop i) = some cr) (h9 : (∀ c, c ∈ cr → RoomNeutral.asked1 (PyWrhotl.whole c) = true)) (h10 : cr.length ≤ 300) (h11 : out.length ≤ 100 * (300 - cr.length)) (h12 : out ++ Rd.flat s cr = Rd.flat none cs) : Turn0 CS CD a0 a g dx H ns cs σ H'
section
variable {P : Program} {w : World} {K : PySem.W.Frag} {mg : Str → Option Value} {base : Heap}
inductive PMain (K : PySem.W.Frag) (vs : List V) (H : Hp) (Q : VK) : Prop
 | mk (a : Addr) (ns : List Int) (h0 : vs = [.ref a]) (h1 : SqL K H a (iv ns)) (h2 : PyWrhotl.answers_asked ns = true) (h3 : ∀ (H' : Hp) (p : Addr), H' p = some (.lst (iv (PyWrhotl.answers ns))) → Q (.ref p) H') : PMain K vs H Q
def spMain (K : PySem.W.Frag) : Sp := fun vs H Q _ => PMain K vs H Q
theorem scMain : FnScope ["calls", "desk", "given", "at", "behind", "row"] ["calls"] (defScope sMain) := ⟨rfl, rfl, rfl, by decide +kernel, rfl, by decide +kernel, by decide +kernel⟩
theorem ok_main {f CS CC CD fT ht : Addr} {fd fdT : FuncData} {kt : Nat} {hs : List Int} (F : Fun K "answers" "answers" sMain f fd) (X : Tx K mg CS CC CD) (To : FnAt K mg "answer_to" sTo ["desk", "call", "numbers"] fT fdT) (GT : FnOk P w K mg base CX0 kt fT fdT ["desk", "call", "numbers"] (spTo CS CD)) (hkt : 2 ≤ kt)
    (hmg : mg "HOW_MANY" = some (.ref ht)) (hT : ∀ H, SqT K H ht (iv hs)) (hhs : ∀ (p : Nat) (n : Nat), PyWrhotl.shape (p : Int) = some (n, 0) → hs[p]? = some (n : Int)) : FnOk P w K mg base CX0 (kt + 1) f fd ["calls"] (spMain K) := by
  obtain ⟨fD, fdD, TD⟩ := X.desk
  have GD : FnOk P w K mg base CX0 1 fD fdD ["self"] (spDesk CD) := ok_desk TD
  refine F.ok scMain (fun vs H Q E h => ?_) (fun cdv A outer s H vs Q E hr h => ?_)
  · obtain ⟨a, ns, rfl, _⟩ := h
    rfl
  · obtain ⟨a0, ns, rfl, hS, hask, k⟩ := h
    have hr2 : Room 2 _ := hr.mono hkt
    refine ⟨_, pss_cons (ps_set (i := 1) scMain.nd rfl (Or.inl rfl) (pe_make0 TD.mkd GD hr2 rfl TD.m TD.b .nil pass0))
      (pss_cons (ps_set (i := 2) scMain.nd rfl (Or.inl rfl) (pe_lst pa_nil))
      (pss_cons (ps_set (i := 3) scMain.nd rfl (Or.inl rfl) pe_int)
      (pss_cons (ps_while PassesOwn.never (pt_cmpR op_lt (pv 3) (pe_callB (call_lenK (K := K) rfl) (by rfl) X.own.len PySem.boot_len (pa_cons (pv 0) pa_nil)) (nomark _))
        (pss_cons (ps_set (i := 4) scMain.nd rfl (Or.inl rfl) (pe_op op_add (pe_op op_add (pv 3) pe_int) (pe_ix (r := rIxT K) ix_tup (pe_glob (v := .ref ht) rfl hmg rfl) (pe_ix (r := rIxL K) ix_list (pv 0) (pv 3) (fun _ _ => rfl)) (fun _ _ => rfl))))
        (pss_cons (ps_set (i := 5) scMain.nd rfl (Or.inl rfl) (pe_call GT hr rfl To.m To.F.kp To.b .nil pass0 (pa_cons (pv 1) (pa_cons (pe_ix (r := rIxL K) ix_list (pv 0) (pv 3) (fun _ _ => rfl)) (pa_cons (pe_slice (r := rSlL K) sl_list (pv 0) (po_some (pe_op op_add (pv 3) pe_int)) (po_some (pv 4))) pa_nil)))))
        (pss_cons (ps_expr (pe_bmK (K := K) rfl PySem.F.plainAttrs_list PySem.F.slot_list_append PySem.F.type_list_append mt_append (pv 2) (pa_cons (pe_callB (call_lenK (K := K) rfl) (by rfl) X.own.len PySem.boot_len (pa_cons (pv 5) pa_nil)) pa_nil)))
        (pss_cons (ps_expr (pe_bmK (K := K) rfl PySem.F.plainAttrs_list PySem.F.slot_list_extend PySem.F.type_list_extend mt_extend (pv 2) (pa_cons (pv 5) pa_nil)))
        (pss_one (ps_set (i := 3) scMain.nd rfl (Or.inl rfl) (pv 4))))))))
      (pss_one (ps_ret (pv 2)))))), ?_⟩
    -- desk = Desk()
    intro a dx na ndx nea
    refine ⟨a, dx, rfl, upd_same, fun H1 ps po g1 g2 g3 npp fps fpo k1 => ⟨rfl, ?_⟩⟩
    have s1 : Same H H1 := Same.made na ndx k1
    have fp : ∀ b, (upd (upd H dx (.own a)) a (.ins CD dx [])) b = none → H b = none := fun b e => by
      by_cases h1 : b = a
      · rw [h1]
        exact na
      · rw [upd_ne h1] at e
        by_cases h2 : b = dx
        · rw [h2]
          exact ndx
        · rw [upd_ne h2] at e
          exact e
    -- given = []
    refine ⟨Nat.zero_le _, fun g hg => ?_⟩
    have s2 : Same H1 (upd H1 g (.lst [])) := same_upd hg
    have hg2 : (upd H1 g (.lst [])) g = some (.lst []) := upd_same
    have hD2 : DkAt CS CD (upd H1 g (.lst [])) a dx ps po ⟨0, 0, [], []⟩ := ⟨s2 _ _ g1, ⟨[], s2 _ _ g2, Al.nil⟩, ⟨[], s2 _ _ g3, Al.nil⟩, npp⟩
    have ngs : g ≠ ps := Ne.symm (ne_of_none g2 hg)
    have ngo : g ≠ po := Ne.symm (ne_of_none g3 hg)
    have fg : H g = none := s1.free hg
    have s02 : Same H (upd H1 g (.lst [])) := s1.trans s2
    generalize upd H1 g (.lst []) = H2 at s2 hg2 hD2 s02
    obtain ⟨cs, hcs, hlen, hall⟩ := Rd.asked_calls hask
    rw [Rd.answers_flat hcs] at k
    -- the loop
    refine while_by (Turn0 CS CD a0 a g dx H ns cs)
      (fun σ _ => leftOf ns.length σ) ?_ ?_ ?_
    · refine ⟨0, ns.length, none, none, none, _, ps, po, cs, [], rfl, fun o e => ⟨s02 _ _ e, ne_of_none e na, ne_of_none e (fp _ fps), ne_of_none e (fp _ fpo)⟩, rfl, hD2, hg2, ngs, ngo, Nat.zero_le _, ?_, hall, hlen, Nat.zero_le _, rfl⟩
      rw [List.drop_zero]
      exact hcs
    · rintro σ H' ⟨i, f, v4, v5, st, d, ps, po, cr, out, rfl, ka, hst, hD, hg', n1, n2, hi, hcr, hal, hl, ho, hfl⟩
      have hS' : SqL K H' a0 (iv ns) := sqL_keep hS fun o e => (ka o e).1
      refine ⟨_, rfl, _, rfl, a0, _, rfl, .inl hS', _, _, rfl, rfl, _, rfl, ?_⟩
      rw [iv_len, dec_nat_lt]
      refine ite2 (fun q => ?_) (fun q => ?_)
      · have hlt := of_decide_eq_true q
        have ed : ns.drop i = ns[i] :: ns.drop (i + 1) := List.drop_eq_getElem_cons hlt
        rw [ed] at hcr
        obtain ⟨n, cs', f', rfl, hsh, hn, rfl, hcr'⟩ := Rd.calls_cons hcr
        rw [List.length_drop] at hn
        rw [List.drop_drop] at hcr'
        obtain ⟨_, hp1, hp16, _⟩ := Rd.shape_rows hsh
        obtain ⟨p, hp⟩ : ∃ p : Nat, ns[i] = (p : Int) := ⟨ns[i].toNat, by omega⟩
        have ai : atI (iv ns) ((i : Nat) : Int) = some (.int ns[i]) := at_of (j := i) rfl (by rw [List.getElem?_map, List.getElem?_eq_getElem hlt]; rfl)
        have ht' : atI (iv hs) ns[i] = some (.int (n : Int)) := at_of (j := p) hp (by rw [List.getElem?_map, hhs p n (by rw [← hp]; exact hsh)]; rfl)
        -- behind = at + 1 + HOW_MANY[calls[at]]
        refine ⟨_, rfl, wOp ⟨_, rfl, _, rfl, wRix hS' ai (wRixT (hT _) ht' ⟨_, _, rfl, rfl, ?_⟩)⟩⟩
        have eb : ((i : Nat) : Int) + 1 + ((n : Nat) : Int) = ((i + 1 + n : Nat) : Int) := by omega
        -- row = answer_to(desk, calls[at], calls[at + 1:behind])
        refine ⟨_, rfl, _, rfl, _, rfl, wRix hS' ai ?_⟩
        refine ⟨_, rfl, _, rfl, wOp ⟨_, rfl, _, rfl, _, rfl, a0, _, rfl, hS', fun u hu => ?_⟩⟩
        have ecut : cutV (iv ns) (some (((i : Nat) : Int) + 1)) (some (((i : Nat) : Int) + 1 + ((n : Nat) : Int))) = iv ((ns.drop (i + 1)).take n) := by
          have e := cutI ns (i + 1) (i + 1 + n) (by omega) (by omega)
          rw [show i + 1 + n - (i + 1) = n by omega] at e
          exact e
        rw [ecut]
        have s3 : Same H' (upd H' u (.lst (iv ((ns.drop (i + 1)).take n)))) := same_upd hu
        have hu3 : (upd H' u (.lst (iv ((ns.drop (i + 1)).take n)))) u = some (.lst (iv ((ns.drop (i + 1)).take n))) := upd_same
        generalize upd H' u (.lst (iv ((ns.drop (i + 1)).take n))) = H3 at s3 hu3
        have hxl : ((ns.drop (i + 1)).take n).length = n := by
          rw [List.length_take, List.length_drop]
          omega
        have hac := hal _ List.mem_cons_self
        refine ⟨a, dx, ps, po, u, st, d, ns[i], (ns.drop (i + 1)).take n, rfl, hu3, hst, hD.same s3, (by rw [hxl]; exact hsh), hac, fun H4 ps' po' q d' hst' hD' nq hq' fr => ?_⟩
        have hg3 := s3 _ _ hg'
        obtain ⟨hg4, n3, n4⟩ := fr g _ hg3 (ne_of hg3 (hD.same s3).ins (by intro z; cases z)) n1 n2
        have ngq : g ≠ q := ne_of_none hg3 nq
        have al := Rd.ans_len hst (PyWrhotl.whole [ns[i] :: (ns.drop (i + 1)).take n])
        have hfl' := hfl
        rw [Rd.flat_cons] at hfl'
        generalize hz : RoomNeutral.step st (PyWrhotl.whole [ns[i] :: (ns.drop (i + 1)).take n]) = z at hst' hq' al hfl'
        rw [List.length_cons] at hl ho
        -- given.append(len(row))
        refine ⟨_, rfl, .inl ⟨rfl, _, SqL.of hg4⟩, _, rfl, q, _, rfl, .inl (SqL.of hq'), g, _, _, rfl, rfl, hg4, szl (by rw [iv_len]; omega), ?_⟩
        rw [iv_len]
        -- given.extend(row)
        refine ⟨_, rfl, .inl ⟨rfl, _, SqL.of upd_same⟩, _, rfl, g, q, _, _, rfl, rfl, upd_same, (by rw [upd_ne (Ne.symm ngq)]; exact hq'), ?_, ?_⟩
        · rw [List.length_append, iv_len, iv_len]
          exact sz (by show _ + 1 + _ ≤ _; omega)
        rw [upd_upd]
        have na4 : a ≠ g := ne_of hD'.ins hg4 (by intro z; cases z)
        have kp : ∀ b o, H4 b = some o → b ≠ g → (upd H4 g (.lst (iv out ++ [.int (z.2.length : Nat)] ++ iv z.2))) b = some o := fun b o e hb => by rw [upd_ne hb]; exact e
        have kst : ∀ {v : V} {o : Option Stay}, OpAt CS H4 v o → OpAt CS (upd H4 g (.lst (iv out ++ [.int (z.2.length : Nat)] ++ iv z.2))) v o := fun {v o} r => by
          cases o with
          | none => exact r
          | some st2 =>
            obtain ⟨x, ex, dy, hx⟩ := r
            exact ⟨x, ex, dy, kp _ _ hx (ne_of hx hg4 (by intro z; cases z))⟩
        refine ⟨_, rfl, ⟨i + 1 + n, f', some (.int (((i : Nat) : Int) + 1 + ((n : Nat) : Int))), some (.ref q), z.1, d', ps', po', cs', out ++ (((z.2.length : Nat) : Int) :: z.2), ?_, ?_, hst', ⟨kp _ _ hD'.ins na4, ?_, ?_, hD'.ne⟩, ?_, n3, n4, by omega, ?_, fun c hc => hal c (List.mem_cons_of_mem _ hc), by omega, ?_, ?_⟩, ?_⟩
        · exact congrArg (fun t => [some (V.ref a0), some (.ref a), some (.ref g), some (.int t), some (.int (((i : Nat) : Int) + 1 + ((n : Nat) : Int))), some (.ref q)]) eb
        · intro o e
          obtain ⟨ea, m1, m2, m3⟩ := ka o e
          obtain ⟨e4, m4, m5⟩ := fr a0 o (s3 _ _ ea) m1 m2 m3
          refine ⟨kp _ _ e4 ?_, m1, m4, m5⟩
          exact ne_of_none e fg
        · obtain ⟨us, hus, hA⟩ := hD'.st
          exact ⟨us, kp _ _ hus (Ne.symm n3), hA.mono fun v o r => kst r⟩
        · obtain ⟨us, hus, hA⟩ := hD'.off
          exact ⟨us, kp _ _ hus (Ne.symm n4), hA.mono fun v o r => kst r⟩
        · rw [upd_same]
          show _ = some (HO.lst (List.map V.int (out ++ (((z.2.length : Nat) : Int) :: z.2))))
          rw [List.map_append, List.map_cons, List.append_assoc]
          rfl
        · rw [← hcr']
        · rw [List.length_append, List.length_cons]
          omega
        · rw [List.append_assoc]
          exact hfl'
        · show ns.length - (((i : Nat) : Int) + 1 + ((n : Nat) : Int)).toNat < ns.length - ((i : Nat) : Int).toNat
          omega
      · have hge : ¬ i < ns.length := fun z => q (decide_eq_true z)
        have ed : ns.drop i = [] := List.drop_eq_nil_of_le (by omega)
        rw [ed] at hcr
        have ec := Rd.calls_nil hcr
        rw [ec, Rd.flat_nil, List.append_nil] at hfl
        rw [← hfl] at k
        exact ⟨_, rfl, k H' g hg'⟩
    · rintro σ H' Q1 Q2 hQ ⟨v, e, v2, e2, p, ys, e3, hs3, i, j, e4, e5, b, e6, q⟩
      exact ⟨v, e, v2, e2, p, ys, e3, hs3, i, j, e4, e5, b, e6, hQ _ _ q⟩
end
end Rk

-- RdEnd
/-! What the top has written, and the end. -/
namespace Rk
open PySem PySem.Spec PyProof.Rows L2
open Ho (Stay Desk)
/-- a def of the top -/
inductive FF (K : PySem.W.Frag) (x : Str) (st : Stmt) : Prop
  | mk (f : Addr) (fd : FuncData) (m : PySem.W.nsIn K mainGlobals x = some (some (.ref f))) (F : Fun K x x st f fd) : FF K x st
theorem ff_mk {K : PySem.W.Frag} {x : Str} {st : Stmt} {f : Addr} {od an : Option Addr} {sl : Array (Option Value)} {oc kV dc pm cd ct : Value} (a : PySem.W.nsIn K mainGlobals x = some (some (.ref f)))
    (l : K.lookup f = some ⟨oc, od, .func (PySem.W.fnOf x x (defArgs st) (defBody st) (defScope st) .none kV dc pm an cd ct), sl⟩) (c : PySem.W.codeIn K cd x = true) (k : PySem.W.keepIn K (.ref f) = true) : FF K x st := ⟨f, _, a, fun_mk (st := st) l c k⟩
/-- a class of the top -/
inductive CF (K : PySem.W.Frag) (x q : Str) (ini : Stmt) (fs : List Str) : Prop
  | mk (C f : Addr) (fd : FuncData) (m : PySem.W.nsIn K mainGlobals x = some (some (.ref C))) (c : Cls K C) (n : ∀ n, n ∈ fs → NoAttr K C n) (k : Mk K C f) (F : Fun K "__init__" q ini f fd) : CF K x q ini fs
theorem cf_mk {K : PySem.W.Frag} {x q : Str} {ini : Stmt} {fs : List Str} {C f : Addr} {od an : Option Addr} {sl : Array (Option Value)} {oc kV dc pm cd ct : Value} (a : PySem.W.nsIn K mainGlobals x = some (some (.ref C)))
    (i : PySem.W.findIn K (.ref C) "__init__" = some (some (.ref f))) (isf : PySem.W.isFn K (.ref f) = true) (l : K.lookup f = some ⟨oc, od, .func (PySem.W.fnOf "__init__" q (defArgs ini) (defBody ini) (defScope ini) .none kV dc pm an cd ct), sl⟩) (c : PySem.W.codeIn K cd q = true) (k : PySem.W.keepIn K (.ref f) = true)
    (pg : PySem.W.plainGet K C Str.empty = true) (hd : PySem.W.hasDictIn K C = true) (po : PySem.W.plainOver K C = true) (sa : PySem.W.findIn K (.ref C) "__setattr__" = some (some (.builtin "object.__setattr__"))) (mk : PySem.W.makesIn K C = true) (kc : PySem.W.keepIn K (.ref C) = true)
    (no : ∀ n, n ∈ fs → PySem.W.findIn K (.ref C) n = some none) : CF K x q ini fs := ⟨C, f, _, a, ⟨pg, hd, po, sa⟩, no, ⟨mk, i, isf, kc⟩, fun_mk (st := ini) l c k⟩
/-- a number of the top -/
def NF (K : PySem.W.Frag) (x : Str) (z : Int) : Prop := ∃ t, PySem.W.nsIn K mainGlobals x = some (some (.int z t))
theorem nf_mk {K : PySem.W.Frag} {x : Str} {z : Int} {t : Tok} (a : PySem.W.nsIn K mainGlobals x = some (some (.int z t))) : NF K x z := ⟨t, a⟩
def hmL : List Int := [0, 2, 3, 1, 3, 3, 1, 0, 0, 0, 0, 1, 1, 2, 1, 1, 0]
/-- the tuple of numbers -/
def TF (K : PySem.W.Frag) (x : Str) (l : List Int) : Prop := ∃ a, PySem.W.nsIn K mainGlobals x = some (some (.ref a)) ∧ ∀ H, SqT K H a (iv l)
theorem tf_mk {K : PySem.W.Frag} {x : Str} {l : List Int} {a : Addr} {dd : Option Addr} {its : Array Value} {n : Nat} {sl : Array (Option Value)} (e : PySem.W.nsIn K mainGlobals x = some (some (.ref a))) (lk : K.lookup a = some ⟨.type "tuple", dd, .seq its n, sl⟩)
    (vs : Vals (iv l) its.toList) (hz : l.length ≤ 100) : TF K x l := ⟨a, e, fun H => .inr ⟨_, its, n, lk, rfl, rfl, by
  have h1 : (iv l).length = its.toList.length := vs.length
  have h2 : (iv l).length = l.length := iv_len l
  have h3 : its.toList.length = its.size := Array.length_toList
  exact sz (by omega), vs⟩⟩
theorem hm_ok : ∀ (p : Nat) (n : Nat), PyWrhotl.shape (p : Int) = some (n, 0) → hmL[p]? = some (n : Int) := by
  intro p n h
  obtain ⟨_, h1, h16, _⟩ := Rd.shape_rows h
  have T : ∀ q : Fin 17, 1 ≤ q.val → (PyWrhotl.shape (q.val : Int)).map (fun (x : Nat × Nat) => (x.1 : Int)) = hmL[q.val]? := by decide +kernel
  have q := T ⟨p, by omega⟩ (by show 1 ≤ p; omega)
  dsimp only at q
  rw [h] at q
  exact q.symm
/-- lists of so many -/
theorem lb1 {C : List Value → Prop} (h : ∀ a, C [a]) (us : List Value) (e : us.length = 1) : C us := by
  obtain ⟨a, t, rfl⟩ := List.exists_cons_of_length_eq_add_one e
  rw [List.eq_nil_of_length_eq_zero (Nat.succ.inj e)]
  exact h a
theorem lb2 {C : List Value → Prop} (h : ∀ a b, C [a, b]) (us : List Value) (e : us.length = 2) : C us := by
  obtain ⟨a, t, rfl⟩ := List.exists_cons_of_length_eq_add_one e
  exact lb1 (C := fun t => C (a :: t)) (h a) t (Nat.succ.inj e)
theorem lb3 {C : List Value → Prop} (h : ∀ a b c, C [a, b, c]) (us : List Value) (e : us.length = 3) : C us := by
  obtain ⟨a, t, rfl⟩ := List.exists_cons_of_length_eq_add_one e
  exact lb2 (C := fun t => C (a :: t)) (h a) t (Nat.succ.inj e)
theorem lb4 {C : List Value → Prop} (h : ∀ a b c d, C [a, b, c, d]) (us : List Value) (e : us.length = 4) : C us := by
  obtain ⟨a, t, rfl⟩ := List.exists_cons_of_length_eq_add_one e
  exact lb3 (C := fun t => C (a :: t)) (h a) t (Nat.succ.inj e)

theorem all_mk {P : Program} {w : World} {K : PySem.W.Frag} {h : Heap} {mg : Str → Option Value} {fa : Addr} (X : K.In h) (G : h.Ns mainGlobals mg) (hfa : mg "answers" = some (.ref fa))
    (cS : CF K "Stay" "Stay.__init__" sStay ["start", "end", "price"])
    (cC : CF K "Choice" "Choice.__init__" sCho ["numbers", "earned", "free"])
    (cD : CF K "Desk" "Desk.__init__" sDesk ["rooms", "nights", "stays", "offers"])
    (f_wit : FF K "with_stay" sWith)
    (f_fre : FF K "free_rooms" sFree)
    (f_fit : FF K "fits" sFits)
    (f_ful : FF K "first_full" sFull)
    (f_row : FF K "free_in_a_row" sRow)
    (f_frow : FF K "first_in_a_row" sFrow)
    (f_wid : FF K "widened" sWide)
    (f_wwo : FF K "with_and_without" sWwo)
    (f_all : FF K "all_choices" sAll)
    (f_best : FF K "best_choice" sBest)
    (f_nw : FF K "night_ways" sNw)
    (f_ow : FF K "offer_ways" sOw)
    (f_ec : FF K "evening_costs" sEc)
    (f_np : FF K "night_prices" sNp)
    (f_io : FF K "in_their_order" sIo)
    (f_sh : FF K "share_a_night" sSh)
    (f_lea : FF K "least_room" sLea)
    (f_roe : FF K "room_of_each" sRoe)
    (f_sie : FF K "stay_in_each" sSie)
    (f_answ : FF K "answer" sAnsw)
    (f_isSt : FF K "is_stay" sIsSt)
    (f_has : FF K "has_number" sHas)
    (f_fnow : FF K "free_now" sFnow)
    (f_stri : FF K "strike" sStri)
    (f_beg : FF K "begin" sBeg)
    (f_book : FF K "book" sBook)
    (f_chan : FF K "change" sChan)
    (f_off : FF K "offer" sOff)
    (f_chsn : FF K "chosen" sChsn)
    (f_choo : FF K "choose" sChoo)
    (f_pric : FF K "prices" sPric)
    (f_sett : FF K "settle" sSett)
    (f_rms : FF K "all_rooms" sRms)
    (f_nigh : FF K "one_night" sNigh)
    (f_fon : FF K "free_on" sFon)
    (f_fst : FF K "first" sFst)
    (f_unt : FF K "until" sUnt)
    (f_told : FF K "told" sTold)
    (f_inc : FF K "income" sInc)
    (f_ost : FF K "answer_on_stays" sOst)
    (f_to : FF K "answer_to" sTo)
    (f_main : FF K "answers" sMain)
    (n_rooms : NF K "MOST_ROOMS" 8)
    (n_nights : NF K "MOST_NIGHTS" 60)
    (n_price : NF K "MOST_PRICE" 1000000)
    (n_stays : NF K "MOST_STAY_NUMBERS" 40)
    (n_offers : NF K "MOST_OFFER_NUMBERS" 10)
    (n_bad : NF K "NO_SUCH_VALUE" (-1))
    (n_notb : NF K "NOT_BEGUN" (-2))
    (n_nonu : NF K "NO_SUCH_NUMBER" (-3))
    (n_full : NF K "NO_ROOM" (-4))
    (n_nofd : NF K "NONE_FOUND" (-5))
    (n_used : NF K "USED_UP" (-9))
    (o_enum : PySem.W.nsIn K mainGlobals "enumerate" = some none)
    (o_range : PySem.W.nsIn K mainGlobals "range" = some none)
    (o_list : PySem.W.nsIn K mainGlobals "list" = some none)
    (o_min : PySem.W.nsIn K mainGlobals "min" = some none)
    (o_len : PySem.W.nsIn K mainGlobals "len" = some none)
    (o_srt : PySem.W.nsIn K mainGlobals "sorted" = some none)
    (o_sum : PySem.W.nsIn K mainGlobals "sum" = some none)
    (t_hm : TF K "HOW_MANY" hmL) :
    ∃ fd : FuncData, (∀ (s : Shared) (us : List Value), us.length = (["calls"] : List Str).length → BindsTo s fd ⟨us, []⟩ ((["calls"] : List Str).zip us)) ∧ ∀ base : Heap, K.In base → base.Ns mainGlobals mg → FnOk P w K mg base CX0 10 fa fd ["calls"] (spMain K) := by
  obtain ⟨cSC, cSf, cSd, cSa, cS1, cS2, cS3, cS4⟩ := cS
  have TcS : StayCl K mg cSC cSf cSd := ⟨cS1, cS2, PySem.W.mg_of X G cSa, cS3, cS4, cS4.binds (ps := ["self", "start", "end", "price"]) fun _ _ _ _ _ _ => lb4 (fun _ _ _ _ => rfl)⟩
  obtain ⟨cCC, cCf, cCd, cCa, cC1, cC2, cC3, cC4⟩ := cC
  have TcC : ChoCl K mg cCC cCf cCd := ⟨cC1, cC2, PySem.W.mg_of X G cCa, cC3, cC4, cC4.binds (ps := ["self", "numbers", "earned", "free"]) fun _ _ _ _ _ _ => lb4 (fun _ _ _ _ => rfl)⟩
  obtain ⟨cDC, cDf, cDd, cDa, cD1, cD2, cD3, cD4⟩ := cD
  have TcD : DeskCl K mg cDC cDf cDd := ⟨cD1, cD2, PySem.W.mg_of X G cDa, cD3, cD4, cD4.binds (ps := ["self"]) fun _ _ _ _ _ _ => lb1 (fun _ => rfl)⟩
  obtain ⟨a_wit, d_wit, m_wit, F_wit⟩ := f_wit
  have A_wit : FnAt K mg "with_stay" sWith ["free", "stay"] a_wit d_wit := ⟨F_wit, F_wit.binds (ps := ["free", "stay"]) (fun _ _ _ _ _ _ => lb2 (fun _ _ => rfl)), PySem.W.mg_of X G m_wit⟩
  obtain ⟨a_fre, d_fre, m_fre, F_fre⟩ := f_fre
  have A_fre : FnAt K mg "free_rooms" sFree ["rooms", "nights", "stays"] a_fre d_fre := ⟨F_fre, F_fre.binds (ps := ["rooms", "nights", "stays"]) (fun _ _ _ _ _ _ => lb3 (fun _ _ _ => rfl)), PySem.W.mg_of X G m_fre⟩
  obtain ⟨a_fit, d_fit, m_fit, F_fit⟩ := f_fit
  have A_fit : FnAt K mg "fits" sFits ["free", "stay"] a_fit d_fit := ⟨F_fit, F_fit.binds (ps := ["free", "stay"]) (fun _ _ _ _ _ _ => lb2 (fun _ _ => rfl)), PySem.W.mg_of X G m_fit⟩
  obtain ⟨a_ful, d_ful, m_ful, F_ful⟩ := f_ful
  have A_ful : FnAt K mg "first_full" sFull ["free", "stay"] a_ful d_ful := ⟨F_ful, F_ful.binds (ps := ["free", "stay"]) (fun _ _ _ _ _ _ => lb2 (fun _ _ => rfl)), PySem.W.mg_of X G m_ful⟩
  obtain ⟨a_row, d_row, m_row, F_row⟩ := f_row
  have A_row : FnAt K mg "free_in_a_row" sRow ["free", "night"] a_row d_row := ⟨F_row, F_row.binds (ps := ["free", "night"]) (fun _ _ _ _ _ _ => lb2 (fun _ _ => rfl)), PySem.W.mg_of X G m_row⟩
  obtain ⟨a_frow, d_frow, m_frow, F_frow⟩ := f_frow
  have A_frow : FnAt K mg "first_in_a_row" sFrow ["free", "how_many", "start"] a_frow d_frow := ⟨F_frow, F_frow.binds (ps := ["free", "how_many", "start"]) (fun _ _ _ _ _ _ => lb3 (fun _ _ _ => rfl)), PySem.W.mg_of X G m_frow⟩
  obtain ⟨a_wid, d_wid, m_wid, F_wid⟩ := f_wid
  have A_wid : FnAt K mg "widened" sWide ["choice", "number", "offer"] a_wid d_wid := ⟨F_wid, F_wid.binds (ps := ["choice", "number", "offer"]) (fun _ _ _ _ _ _ => lb3 (fun _ _ _ => rfl)), PySem.W.mg_of X G m_wid⟩
  obtain ⟨a_wwo, d_wwo, m_wwo, F_wwo⟩ := f_wwo
  have A_wwo : FnAt K mg "with_and_without" sWwo ["choices", "number", "offer"] a_wwo d_wwo := ⟨F_wwo, F_wwo.binds (ps := ["choices", "number", "offer"]) (fun _ _ _ _ _ _ => lb3 (fun _ _ _ => rfl)), PySem.W.mg_of X G m_wwo⟩
  obtain ⟨a_all, d_all, m_all, F_all⟩ := f_all
  have A_all : FnAt K mg "all_choices" sAll ["offers", "free"] a_all d_all := ⟨F_all, F_all.binds (ps := ["offers", "free"]) (fun _ _ _ _ _ _ => lb2 (fun _ _ => rfl)), PySem.W.mg_of X G m_all⟩
  obtain ⟨a_best, d_best, m_best, F_best⟩ := f_best
  have A_best : FnAt K mg "best_choice" sBest ["offers", "free"] a_best d_best := ⟨F_best, F_best.binds (ps := ["offers", "free"]) (fun _ _ _ _ _ _ => lb2 (fun _ _ => rfl)), PySem.W.mg_of X G m_best⟩
  obtain ⟨a_nw, d_nw, m_nw, F_nw⟩ := f_nw
  have A_nw : FnAt K mg "night_ways" sNw ["left"] a_nw d_nw := ⟨F_nw, F_nw.binds (ps := ["left"]) (fun _ _ _ _ _ _ => lb1 (fun _ => rfl)), PySem.W.mg_of X G m_nw⟩
  obtain ⟨a_ow, d_ow, m_ow, F_ow⟩ := f_ow
  have A_ow : FnAt K mg "offer_ways" sOw ["offers", "chosen"] a_ow d_ow := ⟨F_ow, F_ow.binds (ps := ["offers", "chosen"]) (fun _ _ _ _ _ _ => lb2 (fun _ _ => rfl)), PySem.W.mg_of X G m_ow⟩
  obtain ⟨a_ec, d_ec, m_ec, F_ec⟩ := f_ec
  have A_ec : FnAt K mg "evening_costs" sEc ["ways", "evenings"] a_ec d_ec := ⟨F_ec, F_ec.binds (ps := ["ways", "evenings"]) (fun _ _ _ _ _ _ => lb2 (fun _ _ => rfl)), PySem.W.mg_of X G m_ec⟩
  obtain ⟨a_np, d_np, m_np, F_np⟩ := f_np
  have A_np : FnAt K mg "night_prices" sNp ["offers", "choice"] a_np d_np := ⟨F_np, F_np.binds (ps := ["offers", "choice"]) (fun _ _ _ _ _ _ => lb2 (fun _ _ => rfl)), PySem.W.mg_of X G m_np⟩
  obtain ⟨a_io, d_io, m_io, F_io⟩ := f_io
  have A_io : FnAt K mg "in_their_order" sIo ["stays"] a_io d_io := ⟨F_io, F_io.binds (ps := ["stays"]) (fun _ _ _ _ _ _ => lb1 (fun _ => rfl)), PySem.W.mg_of X G m_io⟩
  obtain ⟨a_sh, d_sh, m_sh, F_sh⟩ := f_sh
  have A_sh : FnAt K mg "share_a_night" sSh ["one", "other"] a_sh d_sh := ⟨F_sh, F_sh.binds (ps := ["one", "other"]) (fun _ _ _ _ _ _ => lb2 (fun _ _ => rfl)), PySem.W.mg_of X G m_sh⟩
  obtain ⟨a_lea, d_lea, m_lea, F_lea⟩ := f_lea
  have A_lea : FnAt K mg "least_room" sLea ["taken"] a_lea d_lea := ⟨F_lea, F_lea.binds (ps := ["taken"]) (fun _ _ _ _ _ _ => lb1 (fun _ => rfl)), PySem.W.mg_of X G m_lea⟩
  obtain ⟨a_roe, d_roe, m_roe, F_roe⟩ := f_roe
  have A_roe : FnAt K mg "room_of_each" sRoe ["stays", "gone"] a_roe d_roe := ⟨F_roe, F_roe.binds (ps := ["stays", "gone"]) (fun _ _ _ _ _ _ => lb2 (fun _ _ => rfl)), PySem.W.mg_of X G m_roe⟩
  obtain ⟨a_sie, d_sie, m_sie, F_sie⟩ := f_sie
  have A_sie : FnAt K mg "stay_in_each" sSie ["stays", "rooms", "night"] a_sie d_sie := ⟨F_sie, F_sie.binds (ps := ["stays", "rooms", "night"]) (fun _ _ _ _ _ _ => lb3 (fun _ _ _ => rfl)), PySem.W.mg_of X G m_sie⟩
  obtain ⟨a_answ, d_answ, m_answ, F_answ⟩ := f_answ
  have A_answ : FnAt K mg "answer" sAnsw ["number", "row"] a_answ d_answ := ⟨F_answ, F_answ.binds (ps := ["number", "row"]) (fun _ _ _ _ _ _ => lb2 (fun _ _ => rfl)), PySem.W.mg_of X G m_answ⟩
  obtain ⟨a_isSt, d_isSt, m_isSt, F_isSt⟩ := f_isSt
  have A_isSt : FnAt K mg "is_stay" sIsSt ["desk", "stay"] a_isSt d_isSt := ⟨F_isSt, F_isSt.binds (ps := ["desk", "stay"]) (fun _ _ _ _ _ _ => lb2 (fun _ _ => rfl)), PySem.W.mg_of X G m_isSt⟩
  obtain ⟨a_has, d_has, m_has, F_has⟩ := f_has
  have A_has : FnAt K mg "has_number" sHas ["listed", "number"] a_has d_has := ⟨F_has, F_has.binds (ps := ["listed", "number"]) (fun _ _ _ _ _ _ => lb2 (fun _ _ => rfl)), PySem.W.mg_of X G m_has⟩
  obtain ⟨a_fnow, d_fnow, m_fnow, F_fnow⟩ := f_fnow
  have A_fnow : FnAt K mg "free_now" sFnow ["desk"] a_fnow d_fnow := ⟨F_fnow, F_fnow.binds (ps := ["desk"]) (fun _ _ _ _ _ _ => lb1 (fun _ => rfl)), PySem.W.mg_of X G m_fnow⟩
  obtain ⟨a_stri, d_stri, m_stri, F_stri⟩ := f_stri
  have A_stri : FnAt K mg "strike" sStri ["listed", "number"] a_stri d_stri := ⟨F_stri, F_stri.binds (ps := ["listed", "number"]) (fun _ _ _ _ _ _ => lb2 (fun _ _ => rfl)), PySem.W.mg_of X G m_stri⟩
  obtain ⟨a_beg, d_beg, m_beg, F_beg⟩ := f_beg
  have A_beg : FnAt K mg "begin" sBeg ["desk", "rooms", "nights"] a_beg d_beg := ⟨F_beg, F_beg.binds (ps := ["desk", "rooms", "nights"]) (fun _ _ _ _ _ _ => lb3 (fun _ _ _ => rfl)), PySem.W.mg_of X G m_beg⟩
  obtain ⟨a_book, d_book, m_book, F_book⟩ := f_book
  have A_book : FnAt K mg "book" sBook ["desk", "stay"] a_book d_book := ⟨F_book, F_book.binds (ps := ["desk", "stay"]) (fun _ _ _ _ _ _ => lb2 (fun _ _ => rfl)), PySem.W.mg_of X G m_book⟩
  obtain ⟨a_chan, d_chan, m_chan, F_chan⟩ := f_chan
  have A_chan : FnAt K mg "change" sChan ["desk", "number", "start", "end"] a_chan d_chan := ⟨F_chan, F_chan.binds (ps := ["desk", "number", "start", "end"]) (fun _ _ _ _ _ _ => lb4 (fun _ _ _ _ => rfl)), PySem.W.mg_of X G m_chan⟩
  obtain ⟨a_off, d_off, m_off, F_off⟩ := f_off
  have A_off : FnAt K mg "offer" sOff ["desk", "stay"] a_off d_off := ⟨F_off, F_off.binds (ps := ["desk", "stay"]) (fun _ _ _ _ _ _ => lb2 (fun _ _ => rfl)), PySem.W.mg_of X G m_off⟩
  obtain ⟨a_chsn, d_chsn, m_chsn, F_chsn⟩ := f_chsn
  have A_chsn : FnAt K mg "chosen" sChsn ["desk"] a_chsn d_chsn := ⟨F_chsn, F_chsn.binds (ps := ["desk"]) (fun _ _ _ _ _ _ => lb1 (fun _ => rfl)), PySem.W.mg_of X G m_chsn⟩
  obtain ⟨a_choo, d_choo, m_choo, F_choo⟩ := f_choo
  have A_choo : FnAt K mg "choose" sChoo ["desk"] a_choo d_choo := ⟨F_choo, F_choo.binds (ps := ["desk"]) (fun _ _ _ _ _ _ => lb1 (fun _ => rfl)), PySem.W.mg_of X G m_choo⟩
  obtain ⟨a_pric, d_pric, m_pric, F_pric⟩ := f_pric
  have A_pric : FnAt K mg "prices" sPric ["desk"] a_pric d_pric := ⟨F_pric, F_pric.binds (ps := ["desk"]) (fun _ _ _ _ _ _ => lb1 (fun _ => rfl)), PySem.W.mg_of X G m_pric⟩
  obtain ⟨a_sett, d_sett, m_sett, F_sett⟩ := f_sett
  have A_sett : FnAt K mg "settle" sSett ["desk"] a_sett d_sett := ⟨F_sett, F_sett.binds (ps := ["desk"]) (fun _ _ _ _ _ _ => lb1 (fun _ => rfl)), PySem.W.mg_of X G m_sett⟩
  obtain ⟨a_rms, d_rms, m_rms, F_rms⟩ := f_rms
  have A_rms : FnAt K mg "all_rooms" sRms ["desk"] a_rms d_rms := ⟨F_rms, F_rms.binds (ps := ["desk"]) (fun _ _ _ _ _ _ => lb1 (fun _ => rfl)), PySem.W.mg_of X G m_rms⟩
  obtain ⟨a_nigh, d_nigh, m_nigh, F_nigh⟩ := f_nigh
  have A_nigh : FnAt K mg "one_night" sNigh ["desk", "night"] a_nigh d_nigh := ⟨F_nigh, F_nigh.binds (ps := ["desk", "night"]) (fun _ _ _ _ _ _ => lb2 (fun _ _ => rfl)), PySem.W.mg_of X G m_nigh⟩
  obtain ⟨a_fon, d_fon, m_fon, F_fon⟩ := f_fon
  have A_fon : FnAt K mg "free_on" sFon ["desk", "night"] a_fon d_fon := ⟨F_fon, F_fon.binds (ps := ["desk", "night"]) (fun _ _ _ _ _ _ => lb2 (fun _ _ => rfl)), PySem.W.mg_of X G m_fon⟩
  obtain ⟨a_fst, d_fst, m_fst, F_fst⟩ := f_fst
  have A_fst : FnAt K mg "first" sFst ["desk", "how_many", "start"] a_fst d_fst := ⟨F_fst, F_fst.binds (ps := ["desk", "how_many", "start"]) (fun _ _ _ _ _ _ => lb3 (fun _ _ _ => rfl)), PySem.W.mg_of X G m_fst⟩
  obtain ⟨a_unt, d_unt, m_unt, F_unt⟩ := f_unt
  have A_unt : FnAt K mg "until" sUnt ["desk", "night"] a_unt d_unt := ⟨F_unt, F_unt.binds (ps := ["desk", "night"]) (fun _ _ _ _ _ _ => lb2 (fun _ _ => rfl)), PySem.W.mg_of X G m_unt⟩
  obtain ⟨a_told, d_told, m_told, F_told⟩ := f_told
  have A_told : FnAt K mg "told" sTold ["desk", "number"] a_told d_told := ⟨F_told, F_told.binds (ps := ["desk", "number"]) (fun _ _ _ _ _ _ => lb2 (fun _ _ => rfl)), PySem.W.mg_of X G m_told⟩
  obtain ⟨a_inc, d_inc, m_inc, F_inc⟩ := f_inc
  have A_inc : FnAt K mg "income" sInc ["desk"] a_inc d_inc := ⟨F_inc, F_inc.binds (ps := ["desk"]) (fun _ _ _ _ _ _ => lb1 (fun _ => rfl)), PySem.W.mg_of X G m_inc⟩
  obtain ⟨a_ost, d_ost, m_ost, F_ost⟩ := f_ost
  have A_ost : FnAt K mg "answer_on_stays" sOst ["desk", "call", "numbers"] a_ost d_ost := ⟨F_ost, F_ost.binds (ps := ["desk", "call", "numbers"]) (fun _ _ _ _ _ _ => lb3 (fun _ _ _ => rfl)), PySem.W.mg_of X G m_ost⟩
  obtain ⟨a_to, d_to, m_to, F_to⟩ := f_to
  have A_to : FnAt K mg "answer_to" sTo ["desk", "call", "numbers"] a_to d_to := ⟨F_to, F_to.binds (ps := ["desk", "call", "numbers"]) (fun _ _ _ _ _ _ => lb3 (fun _ _ _ => rfl)), PySem.W.mg_of X G m_to⟩
  obtain ⟨a_main, d_main, m_main, F_main⟩ := f_main
  have O : Own mg := ⟨PySem.W.mg_none_of X G o_enum, PySem.W.mg_none_of X G o_range, PySem.W.mg_none_of X G o_list, PySem.W.mg_none_of X G o_min, PySem.W.mg_none_of X G o_len, PySem.W.mg_none_of X G o_srt, PySem.W.mg_none_of X G o_sum⟩
  obtain ⟨t_rooms, n_rooms⟩ := n_rooms
  obtain ⟨t_nights, n_nights⟩ := n_nights
  obtain ⟨t_price, n_price⟩ := n_price
  obtain ⟨t_stays, n_stays⟩ := n_stays
  obtain ⟨t_offers, n_offers⟩ := n_offers
  obtain ⟨t_bad, n_bad⟩ := n_bad
  obtain ⟨t_notb, n_notb⟩ := n_notb
  obtain ⟨t_nonu, n_nonu⟩ := n_nonu
  obtain ⟨t_full, n_full⟩ := n_full
  obtain ⟨t_nofd, n_nofd⟩ := n_nofd
  obtain ⟨t_used, n_used⟩ := n_used
  have N : Cst mg := { rooms := ⟨_, PySem.W.mg_of X G n_rooms⟩, nights := ⟨_, PySem.W.mg_of X G n_nights⟩, price := ⟨_, PySem.W.mg_of X G n_price⟩, stays := ⟨_, PySem.W.mg_of X G n_stays⟩, offers := ⟨_, PySem.W.mg_of X G n_offers⟩, bad := ⟨_, PySem.W.mg_of X G n_bad⟩, notb := ⟨_, PySem.W.mg_of X G n_notb⟩, nonu := ⟨_, PySem.W.mg_of X G n_nonu⟩, full := ⟨_, PySem.W.mg_of X G n_full⟩, nofd := ⟨_, PySem.W.mg_of X G n_nofd⟩, used := ⟨_, PySem.W.mg_of X G n_used⟩ }
  have TX : Tx K mg cSC cCC cDC := { stay := ⟨_, _, TcS⟩, cho := ⟨_, _, TcC⟩, desk := ⟨_, _, TcD⟩, own := O, cst := N, wit := ⟨_, _, A_wit⟩, fre := ⟨_, _, A_fre⟩, fit := ⟨_, _, A_fit⟩, ful := ⟨_, _, A_ful⟩, row := ⟨_, _, A_row⟩, frow := ⟨_, _, A_frow⟩, wid := ⟨_, _, A_wid⟩, wwo := ⟨_, _, A_wwo⟩, all := ⟨_, _, A_all⟩, best := ⟨_, _, A_best⟩, nw := ⟨_, _, A_nw⟩, ow := ⟨_, _, A_ow⟩, ec := ⟨_, _, A_ec⟩, np := ⟨_, _, A_np⟩, io := ⟨_, _, A_io⟩, sh := ⟨_, _, A_sh⟩, lea := ⟨_, _, A_lea⟩, roe := ⟨_, _, A_roe⟩, sie := ⟨_, _, A_sie⟩, answ := ⟨_, _, A_answ⟩, isSt := ⟨_, _, A_isSt⟩, has := ⟨_, _, A_has⟩, fnow := ⟨_, _, A_fnow⟩ }
  have TY : Tq K mg := { rms := ⟨_, _, A_rms⟩, nigh := ⟨_, _, A_nigh⟩, fon := ⟨_, _, A_fon⟩, fst := ⟨_, _, A_fst⟩, unt := ⟨_, _, A_unt⟩, told := ⟨_, _, A_told⟩, inc := ⟨_, _, A_inc⟩ }
  have TZ : Tz K mg := { stri := ⟨_, _, A_stri⟩, beg := ⟨_, _, A_beg⟩, book := ⟨_, _, A_book⟩, chan := ⟨_, _, A_chan⟩, off := ⟨_, _, A_off⟩, chsn := ⟨_, _, A_chsn⟩, choo := ⟨_, _, A_choo⟩, pric := ⟨_, _, A_pric⟩, sett := ⟨_, _, A_sett⟩, ost := ⟨_, _, A_ost⟩ }
  obtain ⟨ht, hte, hts⟩ := t_hm
  have e := hfa.symm.trans (PySem.W.mg_of X G m_main)
  cases e
  have bm := F_main.ex
  refine ⟨d_main, ?_, fun base _ _ => ok_main F_main TX A_to (ok_to A_to.F TX TY TZ) (by decide) (PySem.W.mg_of X G hte) hts hm_ok⟩
  obtain ⟨oc, od, kV, doc, pm, an, cdv, ct, osl, e, lk, hcd⟩ := bm
  subst e
  exact fun s => lb1 (fun _ => .of_eq rfl)
end Rk
open PySem PySem.W PyProof.Rows
set_option maxRecDepth 100000 in
set_option maxHeartbeats 0 in
theorem PySem.Challenge.cw_roomdesk_s01_answers_holds : PySem.Challenge.rw_roomdesk_s01_answers.Holds := by
  w_on; k_headS; (case hw => exact ⟨[.list [.int 1, .int 1, .int 1]], by decide +kernel, by decide +kernel⟩)
  k_fillS
  refine L2.walk_specK (r := PySem.Challenge.rw_roomdesk_s01_answers) (k := 10) (CX := L2.CX0) (ps := ["calls"]) (sp := Rk.spMain) (by decide +kernel) rfl rfl ⟨rfl, by decide, by decide⟩ (fun w h Y => PySem.W.kIn_of Y) ?F ?S (fun _ _ _ _ z => z)
  case F =>
    intro w mg fa h Y KX G hmg
    refine' Rk.all_mk KX G hmg ?cS ?cC ?cD ?f_wit ?f_fre ?f_fit ?f_ful ?f_row ?f_frow ?f_wid ?f_wwo ?f_all ?f_best ?f_nw ?f_ow ?f_ec ?f_np ?f_io ?f_sh ?f_lea ?f_roe ?f_sie ?f_answ ?f_isSt ?f_has ?f_fnow ?f_stri ?f_beg ?f_book ?f_chan ?f_off ?f_chsn ?f_choo ?f_pric ?f_sett ?f_rms ?f_nigh ?f_fon ?f_fst ?f_unt ?f_told ?f_inc ?f_ost ?f_to ?f_main ?n_rooms ?n_nights ?n_price ?n_stays ?n_offers ?n_bad ?n_notb ?n_nonu ?n_full ?n_nofd ?n_used ?o_enum ?o_range ?o_list ?o_min ?o_len ?o_srt ?o_sum ?t_hm
    (case cS => (refine' Rk.cf_mk ?a ?i ?isf ?l ?c ?k ?pg ?hd ?po ?sa ?mk ?kc ?no; (case a => k_is); (case i => k_is); (case isf => k_is); (case l => k_is); (case c => k_is); (case k => k_is); (case pg => k_is); (case hd => k_is); (case po => k_is); (case sa => k_is); (case mk => k_is); (case kc => k_is); (case no => (refine' List.forall_mem_cons.mpr ⟨?n1, List.forall_mem_cons.mpr ⟨?n2, List.forall_mem_cons.mpr ⟨?n3, fun _ z => absurd z List.not_mem_nil⟩⟩⟩; (case n1 => k_is); (case n2 => k_is); (case n3 => k_is)))))
    (case cC => (refine' Rk.cf_mk ?a ?i ?isf ?l ?c ?k ?pg ?hd ?po ?sa ?mk ?kc ?no; (case a => k_is); (case i => k_is); (case isf => k_is); (case l => k_is); (case c => k_is); (case k => k_is); (case pg => k_is); (case hd => k_is); (case po => k_is); (case sa => k_is); (case mk => k_is); (case kc => k_is); (case no => (refine' List.forall_mem_cons.mpr ⟨?n1, List.forall_mem_cons.mpr ⟨?n2, List.forall_mem_cons.mpr ⟨?n3, fun _ z => absurd z List.not_mem_nil⟩⟩⟩; (case n1 => k_is); (case n2 => k_is); (case n3 => k_is)))))
    (case cD => (refine' Rk.cf_mk ?a ?i ?isf ?l ?c ?k ?pg ?hd ?po ?sa ?mk ?kc ?no; (case a => k_is); (case i => k_is); (case isf => k_is); (case l => k_is); (case c => k_is); (case k => k_is); (case pg => k_is); (case hd => k_is); (case po => k_is); (case sa => k_is); (case mk => k_is); (case kc => k_is); (case no => (refine' List.forall_mem_cons.mpr ⟨?n1, List.forall_mem_cons.mpr ⟨?n2, List.forall_mem_cons.mpr ⟨?n3, List.forall_mem_cons.mpr ⟨?n4, fun _ z => absurd z List.not_mem_nil⟩⟩⟩⟩; (case n1 => k_is); (case n2 => k_is); (case n3 => k_is); (case n4 => k_is)))))
    (case f_wit => (refine' Rk.ff_mk ?a ?l ?c ?k; (case a => k_is); (case l => k_is); (case c => k_is); (case k => k_is)))
    (case f_fre => (refine' Rk.ff_mk ?a ?l ?c ?k; (case a => k_is); (case l => k_is); (case c => k_is); (case k => k_is)))
    (case f_fit => (refine' Rk.ff_mk ?a ?l ?c ?k; (case a => k_is); (case l => k_is); (case c => k_is); (case k => k_is)))
    (case f_ful => (refine' Rk.ff_mk ?a ?l ?c ?k; (case a => k_is); (case l => k_is); (case c => k_is); (case k => k_is)))
    (case f_row => (refine' Rk.ff_mk ?a ?l ?c ?k; (case a => k_is); (case l => k_is); (case c => k_is); (case k => k_is)))
    (case f_frow => (refine' Rk.ff_mk ?a ?l ?c ?k; (case a => k_is); (case l => k_is); (case c => k_is); (case k => k_is)))
    (case f_wid => (refine' Rk.ff_mk ?a ?l ?c ?k; (case a => k_is); (case l => k_is); (case c => k_is); (case k => k_is)))
    (case f_wwo => (refine' Rk.ff_mk ?a ?l ?c ?k; (case a => k_is); (case l => k_is); (case c => k_is); (case k => k_is)))
    (case f_all => (refine' Rk.ff_mk ?a ?l ?c ?k; (case a => k_is); (case l => k_is); (case c => k_is); (case k => k_is)))
    (case f_best => (refine' Rk.ff_mk ?a ?l ?c ?k; (case a => k_is); (case l => k_is); (case c => k_is); (case k => k_is)))
    (case f_nw => (refine' Rk.ff_mk ?a ?l ?c ?k; (case a => k_is); (case l => k_is); (case c => k_is); (case k => k_is)))
    (case f_ow => (refine' Rk.ff_mk ?a ?l ?c ?k; (case a => k_is); (case l => k_is); (case c => k_is); (case k => k_is)))
    (case f_ec => (refine' Rk.ff_mk ?a ?l ?c ?k; (case a => k_is); (case l => k_is); (case c => k_is); (case k => k_is)))
    (case f_np => (refine' Rk.ff_mk ?a ?l ?c ?k; (case a => k_is); (case l => k_is); (case c => k_is); (case k => k_is)))
    (case f_io => (refine' Rk.ff_mk ?a ?l ?c ?k; (case a => k_is); (case l => k_is); (case c => k_is); (case k => k_is)))
    (case f_sh => (refine' Rk.ff_mk ?a ?l ?c ?k; (case a => k_is); (case l => k_is); (case c => k_is); (case k => k_is)))
    (case f_lea => (refine' Rk.ff_mk ?a ?l ?c ?k; (case a => k_is); (case l => k_is); (case c => k_is); (case k => k_is)))
    (case f_roe => (refine' Rk.ff_mk ?a ?l ?c ?k; (case a => k_is); (case l => k_is); (case c => k_is); (case k => k_is)))
    (case f_sie => (refine' Rk.ff_mk ?a ?l ?c ?k; (case a => k_is); (case l => k_is); (case c => k_is); (case k => k_is)))
    (case f_answ => (refine' Rk.ff_mk ?a ?l ?c ?k; (case a => k_is); (case l => k_is); (case c => k_is); (case k => k_is)))
    (case f_isSt => (refine' Rk.ff_mk ?a ?l ?c ?k; (case a => k_is); (case l => k_is); (case c => k_is); (case k => k_is)))
    (case f_has => (refine' Rk.ff_mk ?a ?l ?c ?k; (case a => k_is); (case l => k_is); (case c => k_is); (case k => k_is)))
    (case f_fnow => (refine' Rk.ff_mk ?a ?l ?c ?k; (case a => k_is); (case l => k_is); (case c => k_is); (case k => k_is)))
    (case f_stri => (refine' Rk.ff_mk ?a ?l ?c ?k; (case a => k_is); (case l => k_is); (case c => k_is); (case k => k_is)))
    (case f_beg => (refine' Rk.ff_mk ?a ?l ?c ?k; (case a => k_is); (case l => k_is); (case c => k_is); (case k => k_is)))
    (case f_book => (refine' Rk.ff_mk ?a ?l ?c ?k; (case a => k_is); (case l => k_is); (case c => k_is); (case k => k_is)))
    (case f_chan => (refine' Rk.ff_mk ?a ?l ?c ?k; (case a => k_is); (case l => k_is); (case c => k_is); (case k => k_is)))
    (case f_off => (refine' Rk.ff_mk ?a ?l ?c ?k; (case a => k_is); (case l => k_is); (case c => k_is); (case k => k_is)))
    (case f_chsn => (refine' Rk.ff_mk ?a ?l ?c ?k; (case a => k_is); (case l => k_is); (case c => k_is); (case k => k_is)))
    (case f_choo => (refine' Rk.ff_mk ?a ?l ?c ?k; (case a => k_is); (case l => k_is); (case c => k_is); (case k => k_is)))
    (case f_pric => (refine' Rk.ff_mk ?a ?l ?c ?k; (case a => k_is); (case l => k_is); (case c => k_is); (case k => k_is)))
    (case f_sett => (refine' Rk.ff_mk ?a ?l ?c ?k; (case a => k_is); (case l => k_is); (case c => k_is); (case k => k_is)))
    (case f_rms => (refine' Rk.ff_mk ?a ?l ?c ?k; (case a => k_is); (case l => k_is); (case c => k_is); (case k => k_is)))
    (case f_nigh => (refine' Rk.ff_mk ?a ?l ?c ?k; (case a => k_is); (case l => k_is); (case c => k_is); (case k => k_is)))
    (case f_fon => (refine' Rk.ff_mk ?a ?l ?c ?k; (case a => k_is); (case l => k_is); (case c => k_is); (case k => k_is)))
    (case f_fst => (refine' Rk.ff_mk ?a ?l ?c ?k; (case a => k_is); (case l => k_is); (case c => k_is); (case k => k_is)))
    (case f_unt => (refine' Rk.ff_mk ?a ?l ?c ?k; (case a => k_is); (case l => k_is); (case c => k_is); (case k => k_is)))
    (case f_told => (refine' Rk.ff_mk ?a ?l ?c ?k; (case a => k_is); (case l => k_is); (case c => k_is); (case k => k_is)))
    (case f_inc => (refine' Rk.ff_mk ?a ?l ?c ?k; (case a => k_is); (case l => k_is); (case c => k_is); (case k => k_is)))
    (case f_ost => (refine' Rk.ff_mk ?a ?l ?c ?k; (case a => k_is); (case l => k_is); (case c => k_is); (case k => k_is)))
    (case f_to => (refine' Rk.ff_mk ?a ?l ?c ?k; (case a => k_is); (case l => k_is); (case c => k_is); (case k => k_is)))
    (case f_main => (refine' Rk.ff_mk ?a ?l ?c ?k; (case a => k_is); (case l => k_is); (case c => k_is); (case k => k_is)))
    (case n_rooms => (refine' Rk.nf_mk ?a; (case a => k_is)))
    (case n_nights => (refine' Rk.nf_mk ?a; (case a => k_is)))
    (case n_price => (refine' Rk.nf_mk ?a; (case a => k_is)))
    (case n_stays => (refine' Rk.nf_mk ?a; (case a => k_is)))
    (case n_offers => (refine' Rk.nf_mk ?a; (case a => k_is)))
    (case n_bad => (refine' Rk.nf_mk ?a; (case a => k_is)))
    (case n_notb => (refine' Rk.nf_mk ?a; (case a => k_is)))
    (case n_nonu => (refine' Rk.nf_mk ?a; (case a => k_is)))
    (case n_full => (refine' Rk.nf_mk ?a; (case a => k_is)))
    (case n_nofd => (refine' Rk.nf_mk ?a; (case a => k_is)))
    (case n_used => (refine' Rk.nf_mk ?a; (case a => k_is)))
    (case o_enum => k_is)
    (case o_range => k_is)
    (case o_list => k_is)
    (case o_min => k_is)
    (case o_len => k_is)
    (case o_srt => k_is)
    (case o_sum => k_is)
    (case t_hm => (refine' Rk.tf_mk ?e ?lk ?vs (by decide); (case e => k_is); (case lk => k_is); (case vs => exact .cons ⟨_, rfl⟩ (.cons ⟨_, rfl⟩ (.cons ⟨_, rfl⟩ (.cons ⟨_, rfl⟩ (.cons ⟨_, rfl⟩ (.cons ⟨_, rfl⟩ (.cons ⟨_, rfl⟩ (.cons ⟨_, rfl⟩ (.cons ⟨_, rfl⟩ (.cons ⟨_, rfl⟩ (.cons ⟨_, rfl⟩ (.cons ⟨_, rfl⟩ (.cons ⟨_, rfl⟩ (.cons ⟨_, rfl⟩ (.cons ⟨_, rfl⟩ (.cons ⟨_, rfl⟩ (.cons ⟨_, rfl⟩ (.nil))))))))))))))))))))
  case S =>
    intro K H xs a hO hwi hask hx
    cases hx with
    | cons h1 h2 =>
      cases h2
      cases h1 with
      | lst hs ha =>
        have e := L2.ints_dw a.1 _ ha
        subst e
        exact ⟨_, a.1, rfl, hs, hask, fun H' p hp => .lst (L2.SqL.of hp) (L2.dw_ints _)⟩

