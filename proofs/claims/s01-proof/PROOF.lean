import PyProof.Rows.All
import Wide.All
import OpenK.AllK
import Wide.FinOn
import PyProof.EqAt
import PyProof.EqKinds
import PyProof.TupleCall
import KE.BitLaws
import Open.SpecLaws
import KE.OsHead
import KE.OsGo
import PySem.Challenge.RW_curedsteps_s01_answers
section
set_option Elab.async false
set_option linter.all false
set_option maxRecDepth 100000
/-! THE HAND LAYER, for ints, bools, texts, own classes, lists, tuples, dicts, comprehensions, walks over dicts, enumerate, zip, reversed, texts, calls, loops. Paste it whole ahead of your own text; what your proof does not reach may be deleted. -/
namespace L2
open PySem PySem.Spec PyProof.Rows

/-- a key: an int or a str -/
abbrev Key := Sum Int Str
def keyIs : Key → Value → Bool
  | .inl k, v => Value.isInt k v
  | .inr x, v => Value.isStrOf x v
def keyH (w : World) : Key → Int
  | .inl k => hashInt k
  | .inr x => hashStr w x
theorem keyIs_shape : ∀ {k : Key} {v : Value}, keyIs k v = true → (∃ i t, k = Sum.inl i ∧ v = Value.int i t) ∨ (∃ x t, k = Sum.inr x ∧ v = Value.str x t)
  | .inl i, v, h => by
    obtain ⟨t, e⟩ := Value.isInt_shape (k := i) (v := v) h
    exact .inl ⟨i, t, rfl, e⟩
  | .inr x, v, h => by
    obtain ⟨t, e⟩ := Value.isStrOf_shape (x := x) (v := v) h
    exact .inr ⟨x, t, rfl, e⟩
theorem key_ll (a b : Int) : decide ((Sum.inl a : Key) = Sum.inl b) = (a == b) := by
  by_cases e : a = b
  · subst e; simp
  · have h : ¬ (Sum.inl a : Key) = Sum.inl b := fun q => e (Sum.inl.inj q)
    rw [decide_eq_false h]
    exact (beq_eq_false_iff_ne.mpr e).symm
theorem key_rr (a b : Str) : decide ((Sum.inr a : Key) = Sum.inr b) = decide (a = b) := by
  by_cases e : a = b
  · subst e; simp
  · have h : ¬ (Sum.inr a : Key) = Sum.inr b := fun q => e (Sum.inr.inj q)
    rw [decide_eq_false h, decide_eq_false e]
theorem key_lr (a : Int) (b : Str) : decide ((Sum.inl a : Key) = Sum.inr b) = false := decide_eq_false (fun q => nomatch q)
theorem key_rl (a : Str) (b : Int) : decide ((Sum.inr a : Key) = Sum.inl b) = false := decide_eq_false (fun q => nomatch q)

def mixKind (prog : Program) (w : World) : PySem.KeyKind prog w Key where
  is := keyIs
  hash := keyH w
  inj := fun v a b ha hb => by
    rcases keyIs_shape ha with ⟨i, t, rfl, rfl⟩ | ⟨x, t, rfl, rfl⟩
    · rcases keyIs_shape hb with ⟨j, u, rfl, e⟩ | ⟨y, u, rfl, e⟩
      · injection e with e1 _; rw [e1]
      · exact nomatch e
    · rcases keyIs_shape hb with ⟨j, u, rfl, e⟩ | ⟨y, u, rfl, e⟩
      · exact nomatch e
      · injection e with e1 _; rw [e1]
  byValue := fun k v h => by
    rcases keyIs_shape h with ⟨i, t, rfl, rfl⟩ | ⟨x, t, rfl, rfl⟩ <;> rfl
  pyHash := fun hv h => by
    rcases keyIs_shape hv with ⟨i, t, rfl, rfl⟩ | ⟨x, t, rfl, rfl⟩
    · exact wpAny_pyHash_int h
    · exact wpAny_pyHash_str h
  eqBool := fun hu hv h => by
    rcases keyIs_shape hu with ⟨i, t, rfl, rfl⟩ | ⟨x, t, rfl, rfl⟩
    · rcases keyIs_shape hv with ⟨j, u, rfl, rfl⟩ | ⟨y, u, rfl, rfl⟩
      · rw [key_ll] at h; exact wpAny_eqBool_int h
      · rw [key_lr] at h; exact SeqAt.EqAt.int_str i t y u _ _ _ _ h
    · rcases keyIs_shape hv with ⟨j, u, rfl, rfl⟩ | ⟨y, u, rfl, rfl⟩
      · rw [key_rl] at h; exact SeqAt.EqAt.str_int x t j u _ _ _ _ h
      · rw [key_rr] at h; exact wpAny_eqBool_str h
  «strs» := fun k x t v h => by
    rcases keyIs_shape h with ⟨i, u, rfl, e⟩ | ⟨y, u, rfl, e⟩
    · exact nomatch e
    · injection e with e1 _
      subst e1
      cases v <;> rfl

end L2

namespace L2
open PySem PySem.Spec PyProof.Rows

/-- a value, without the heap -/
inductive V where
  | non | bl (b : Bool) | int (i : Int) | str (x : Str) | byt (b : Array UInt8) | flt (b : UInt64) | ref (a : Addr) | ty (n : String)
  deriving DecidableEq

def RelV : V → Value → Prop
  | .non, u => u = Value.none
  | .bl b, u => u = Value.bool b
  | .int i, u => ∃ t, u = Value.int i t
  | .str x, u => ∃ t, u = Value.str x t
  | .byt b, u => ∃ t, u = Value.bytes b t
  | .flt b, u => ∃ t, u = Value.float b t
  | .ref a, u => u = Value.ref a
  | .ty n, u => u = Value.type n

abbrev Vals : List V → List Value → Prop := Paired RelV
theorem Vals.length {xs : List V} {us : List Value} (r : Vals xs us) : xs.length = us.length := Paired.length r
theorem Vals.get : ∀ {xs : List V} {us : List Value} {i : Nat} {x : V}, Vals xs us → xs[i]? = some x → ∃ u, us[i]? = some u ∧ RelV x u
  | _, _, _, _, .nil, e => by simp at e
  | _, _, 0, _, .cons r _, e => by simp at e; subst e; exact ⟨_, rfl, r⟩
  | _, _, i + 1, x, .cons _ t, e => by
    obtain ⟨u, h1, h2⟩ := Vals.get (i := i) (x := x) t (by simpa using e)
    exact ⟨u, by simpa using h1, h2⟩
theorem Vals.append : ∀ {xs ys : List V} {us ws : List Value}, Vals xs us → Vals ys ws → Vals (xs ++ ys) (us ++ ws)
  | _, _, _, _, .nil, s => s
  | _, _, _, _, .cons r t, s => .cons r (Vals.append t s)
theorem Vals.take : ∀ {xs : List V} {us : List Value} (n : Nat), Vals xs us → Vals (xs.take n) (us.take n)
  | _, _, 0, _ => .nil
  | _, _, _ + 1, .nil => .nil
  | _, _, n + 1, .cons r t => .cons r (Vals.take n t)
theorem Vals.drop : ∀ {xs : List V} {us : List Value} (n : Nat), Vals xs us → Vals (xs.drop n) (us.drop n)
  | _, _, 0, r => r
  | _, _, _ + 1, .nil => .nil
  | _, _, n + 1, .cons _ t => Vals.drop n t

def RelO : Option V → Option Value → Prop
  | some v, some u => RelV v u
  | none, none => True
  | _, _ => False
def KV {κ : Type} : List (κ × V) → List (κ × Value) → Prop := Paired fun (p : κ × V) (q : κ × Value) => p.1 = q.1 ∧ RelV p.2 q.2

/-- a key of a dict (00_mix): an int or a text -/
def kV : Key → V
  | .inl i => .int i
  | .inr x => .str x

/-- what stands at a tracked address -/
inductive HO where
  /-- a list -/
  | lst (xs : List V)
  /-- a tuple (never changes) -/
  | tup (xs : List V)
  /-- a dict whose keys are ints and texts; one whose keys are tuples of ints and texts (the empty one is both) -/
  | dK (kvs : List (Key × V)) | dT (kvs : List (List Key × V))
  /-- a set of ints: its members, its size -/
  | set (S : Int → Bool) (n : Nat)
  /-- an instance of the class at C, its dict at dx, its attributes -/
  | ins (C dx : Addr) (fs : List (Str × V))
  /-- the dict of the instance at x -/
  | own (x : Addr)
  /-- the dict of an exception -/
  | xd (fs : List (Str × V))
  /-- a bound method, f of x -/
  | met (f x : Addr)
  /-- a range object lo, lo + 1, .. below hi -/
  | rng (lo hi : Int)
  /-- a thing that is known to the object (the script; a dict while a loop walks it): read, never written while it is so -/
  | frz (o : Obj) (u : HO)
  /-- a code object's table -/
  | tbl (ps : Array Value)
  /-- any other thing, by what is true of its one object (a def of one's own: SetO a S n := HO.ext fun h => ..) -/
  | ext (φ : Heap → Prop)

abbrev Hp := Addr → Option HO
def upd (H : Hp) (a : Addr) (o : HO) : Hp := fun b => if b = a then some o else H b
theorem upd_same {H : Hp} {a : Addr} {o : HO} : upd H a o a = some o := by unfold upd; rw [if_pos rfl]
theorem upd_ne {H : Hp} {a b : Addr} {o : HO} (h : b ≠ a) : upd H a o b = H b := by unfold upd; rw [if_neg h]
theorem upd_upd {H : Hp} {a : Addr} {o u : HO} : upd (upd H a o) a u = upd H a u := by
  funext b; unfold upd; split <;> rfl
/-- two objects of different content stand apart -/
theorem ne_of {H : Hp} {a b : Addr} {o u : HO} (h : H a = some o) (h' : H b = some u) (d : o ≠ u) : a ≠ b := by
  intro e; subst e; rw [h] at h'; exact d (Option.some.inj h')
theorem ne_of_none {H : Hp} {a b : Addr} {o : HO} (h : H a = some o) (h' : H b = none) : a ≠ b := by
  intro e; subst e; rw [h] at h'; cases h'

section
variable (P : Program) (w : World)
def ObjOk (H : Hp) (h : Heap) (a : Addr) : HO → Prop
  | .lst xs => xs.length ≤ sizeLine ∧ ∃ (its : List Value) (n : Nat), Vals xs its ∧ h.get? a = some { cls := .type "list", data := .seq its.toArray n }
  | .tup xs => xs.length ≤ sizeLine ∧ ∃ its : List Value, Vals xs its ∧ IsTup h a its.toArray
  | .dK kvs => kvs.length ≤ sizeLine ∧ (a == sysModules) = false ∧ ∃ vs, KV kvs vs ∧ h.DictOf (mixKind P w) a vs
  | .dT kvs => kvs.length ≤ sizeLine ∧ (a == sysModules) = false ∧ ∃ xs : List (List Key × Addr × Value),
      Paired (fun (p : List Key × V) (q : List Key × Addr × Value) => p.1 = q.1 ∧ H q.2.1 = some (.tup (p.1.map kV)) ∧ RelV p.2 q.2.2) kvs xs ∧
      ∃ o es ep, h.get? a = some o ∧ o.ExactDict ∧ o.data = .dict es ep ∧ es.toList = xs.map (entryOfKey (tupleKind (mixKind P w))) ∧ (xs.map (·.1)).Nodup
  | .set S n => h.SetOf (intKind P w) a S n
  | .ins C dx fs => H dx = some (.own a) ∧ fs.length ≤ 1000 ∧ dx ≠ a ∧ h.get? a = some (PySem.W.instObj C dx) ∧
      ∃ mA, h.Ns1 dx mA ∧ (∀ f, RelO (fs.lookup f) (mA f)) ∧ PySem.Within mA (fs.map (·.1))
  | .own _ => ∃ o, h.get? a = some o
  | .xd fs => ∃ mA, h.Ns1 a mA ∧ ∀ f, RelO (fs.lookup f) (mA f)
  | .rng lo hi => ∃ t u v, h.get? a = some { cls := .type "range", data := .fields #[.int lo t, .int hi u, .int 1 v] }
  | .frz o u => h.get? a = some o ∧ ObjOk H h a u
  | .tbl ps => h.get? a = some { cls := .none, data := .fields ps }
  | .met f x => h.get? a = some (PySem.W.methodObj (.ref f) (.ref x))
  | .ext φ => φ h ∧ (∃ o, h.get? a = some o) ∧ ∀ h1 h2 : Heap, φ h1 → (∀ o, h1.get? a = some o → h2.get? a = some o) → φ h2
/-- the abstract heap is held -/
def HOk (H : Hp) (h : Heap) : Prop := ∀ a o, H a = some o → ObjOk P w H h a o
end

section
variable {P : Program} {w : World} {H H' : Hp} {h h' : Heap} {a : Addr} {o : HO}
theorem ObjOk.lt (x : ObjOk P w H h a o) : a < h.objs.size := by
  cases o with
  | lst xs => obtain ⟨_, _, _, _, e⟩ := x; exact Heap.lt_size e
  | tup xs => obtain ⟨_, _, _, p⟩ := x; exact p.lt
  | dK kvs => obtain ⟨_, _, _, _, o, _, _, e, _⟩ := x; exact Heap.lt_size e
  | dT kvs => obtain ⟨_, _, _, _, o, _, _, e, _⟩ := x; exact Heap.lt_size e
  | set S n => obtain ⟨o, _, _, _, e, _⟩ := x; exact Heap.lt_size e
  | ins C dx fs => obtain ⟨_, _, _, e, _⟩ := x; exact Heap.lt_size e
  | own y => obtain ⟨_, e⟩ := x; exact Heap.lt_size e
  | xd fs => obtain ⟨_, ⟨_, _, _, e, _⟩, _⟩ := x; exact Heap.lt_size e
  | rng lo hi => obtain ⟨_, _, _, e⟩ := x; exact Heap.lt_size e
  | frz ob u => obtain ⟨e, _⟩ := x; exact Heap.lt_size e
  | tbl ps => exact Heap.lt_size (show h.get? a = some _ from x)
  | met f y => exact Heap.lt_size (show h.get? a = some _ from x)
  | ext φ => obtain ⟨_, ⟨_, e⟩, _⟩ := x; exact Heap.lt_size e
theorem Paired.mapP {α β : Type} {F G : α → β → Prop} : ∀ {l₁ : List α} {l₂ : List β}, Paired F l₁ l₂ → (∀ a b, F a b → G a b) → Paired G l₁ l₂
  | _, _, .nil, _ => .nil
  | _, _, .cons r t, f => .cons (f _ _ r) (Paired.mapP t f)
/-- what an object's description leans on: its own object, its own dict, the tuples -/
theorem ObjOk.stay (x : ObjOk P w H h a o) (k : ∀ b u, (b = a ∨ H b = some (.own a)) → h.get? b = some u → h'.get? b = some u)
    (ho : ∀ b, H b = some (.own a) → H' b = some (.own a)) (ht : ∀ b xs, H b = some (.tup xs) → H' b = some (.tup xs)) : ObjOk P w H' h' a o := by
  induction o with
  | lst xs => obtain ⟨z, its, n, r, e⟩ := x; exact ⟨z, its, n, r, k _ _ (.inl rfl) e⟩
  | tup xs => obtain ⟨z, its, r, ob, e, c⟩ := x; exact ⟨z, its, r, ob, k _ _ (.inl rfl) e, c⟩
  | dK kvs => obtain ⟨z, y, vs, r, ob, es, ep, e, c⟩ := x; exact ⟨z, y, vs, r, ob, es, ep, k _ _ (.inl rfl) e, c⟩
  | dT kvs =>
    obtain ⟨z, y, xs, r, ob, es, ep, e, c⟩ := x
    exact ⟨z, y, xs, Paired.mapP r fun p q z => ⟨z.1, ht _ _ z.2.1, z.2.2⟩, ob, es, ep, k _ _ (.inl rfl) e, c⟩
  | set S n => obtain ⟨ob, es, ep, t, e, c⟩ := x; exact ⟨ob, es, ep, t, k _ _ (.inl rfl) e, c⟩
  | ins C dx fs =>
    obtain ⟨d, z, ne, e, mA, ⟨od, es, ep, e2, c⟩, r⟩ := x
    exact ⟨ho _ d, z, ne, k _ _ (.inl rfl) e, mA, ⟨od, es, ep, k _ _ (.inr d) e2, c⟩, r⟩
  | own y => obtain ⟨ob, e⟩ := x; exact ⟨ob, k _ _ (.inl rfl) e⟩
  | xd fs => obtain ⟨mA, ⟨od, es, ep, e, c⟩, r⟩ := x; exact ⟨mA, ⟨od, es, ep, k _ _ (.inl rfl) e, c⟩, r⟩
  | rng lo hi => obtain ⟨t, u, v, e⟩ := x; exact ⟨t, u, v, k _ _ (.inl rfl) e⟩
  | frz ob u ih => obtain ⟨e, q⟩ := x; exact ⟨k _ _ (.inl rfl) e, ih q⟩
  | tbl ps =>
    have e : h.get? a = some { cls := .none, data := .fields ps } := x
    show h'.get? a = some { cls := .none, data := .fields ps }
    exact k a _ (.inl rfl) e
  | met f y =>
    have e : h.get? a = some (PySem.W.methodObj (.ref f) (.ref y)) := x
    show h'.get? a = some (PySem.W.methodObj (.ref f) (.ref y))
    exact k a _ (.inl rfl) e
  | ext φ => obtain ⟨p, ⟨o, e⟩, st⟩ := x; exact ⟨st _ _ p fun o q => k _ _ (.inl rfl) q, ⟨o, k _ _ (.inl rfl) e⟩, st⟩
theorem HOk.lt (x : HOk P w H h) (e : H a = some o) : a < h.objs.size := (x a o e).lt
theorem HOk.fresh (x : HOk P w H h) (e : h.objs.size ≤ a) : H a = none := by
  cases q : H a with
  | none => rfl
  | some u => exact absurd (Nat.lt_of_lt_of_le (x.lt q) e) (Nat.lt_irrefl _)
/-- every object of the heap is kept -/
theorem HOk.kept (x : HOk P w H h) (k : ∀ b u, h.get? b = some u → h'.get? b = some u) : HOk P w H h' := fun a o e =>
  (x a o e).stay (fun b u _ q => k b u q) (fun _ q => q) fun _ _ q => q
/-- a new object is laid and tracked -/
theorem HOk.laid (x : HOk P w H h) (k : ∀ b u, h.get? b = some u → h'.get? b = some u) (hp : h.objs.size ≤ a) (new : ObjOk P w (upd H a o) h' a o) : HOk P w (upd H a o) h' := fun b u e => by
  have hn := x.fresh hp
  by_cases hb : b = a
  · subst hb; rw [upd_same] at e; cases e; exact new
  · rw [upd_ne hb] at e
    exact (x b u e).stay (fun c v _ q => k c v q) (fun c q => by rw [upd_ne (ne_of_none q hn)]; exact q) fun c xs q => by rw [upd_ne (ne_of_none q hn)]; exact q
end

/-- what may be read as u: it is u, or a known u -/
def Rd (H : Hp) (a : Addr) (u : HO) : Prop := H a = some u ∨ ∃ o, H a = some (.frz o u)
theorem Rd.ok {P : Program} {w : World} {H : Hp} {h : Heap} {a : Addr} {u : HO} (r : Rd H a u) (x : HOk P w H h) : ObjOk P w H h a u := by
  rcases r with r | ⟨o, r⟩
  · exact x a u r
  · obtain ⟨_, q⟩ := x a _ r
    exact q
/-- what may be written -/
def Mut : Option HO → Prop
  | some (.lst _) => True
  | some (.dK _) => True
  | some (.dT _) => True
  | some (.set _ _) => True
  | some (.ins _ _ _) => True
  | some (.ext _) => True
  | _ => False
section
variable {P : Program} {w : World} {H : Hp} {h h' : Heap} {x e : Addr} {o' : HO}
/-- the object at e is changed: x itself, or the dict of the instance x -/
theorem HOk.write (ok : HOk P w H h) (mu : Mut (H x)) (he : e = x ∨ H e = some (.own x)) (k : ∀ b u, b ≠ e → h.get? b = some u → h'.get? b = some u) (heo : ∃ u, h'.get? e = some u)
    (new : ObjOk P w (upd H x o') h' x o') : HOk P w (upd H x o') h' := fun b u q => by
  have nown : ∀ c y, H c = some (.own y) → c ≠ x := fun c y r z => by subst z; rw [r] at mu; exact mu
  have ntup : ∀ c xs, H c = some (.tup xs) → c ≠ x := fun c xs r z => by subst z; rw [r] at mu; exact mu
  by_cases hb : b = x
  · subst hb; rw [upd_same] at q; cases q; exact new
  · rw [upd_ne hb] at q
    by_cases hbe : b = e
    · have q' : H b = some (.own x) := by
        rcases he with z | z
        · exact absurd (hbe.trans z) hb
        · rw [hbe]; exact z
      rw [q] at q'; cases q'
      obtain ⟨v, hv⟩ := heo
      exact ⟨v, by rw [hbe]; exact hv⟩
    · refine (ok b u q).stay (fun c v hc r => k c v ?_ r) (fun c r => by rw [upd_ne (nown c b r)]; exact r) fun c xs r => by rw [upd_ne (ntup c xs r)]; exact r
      rcases hc with rfl | hc
      · exact hbe
      · rintro rfl
        rcases he with z | z
        · exact nown c b hc z
        · rw [hc] at z; cases z; exact hb rfl
end

/-! ### kept unless tracked; of the frames at fs (the callers') the slots may change (an exception that passes writes there); of the records at ex (iterators) nothing is said -/
structure Un (fs ex : List Addr) (H H' : Hp) (h h' : Heap) : Prop where
  keep : ∀ b o, h.get? b = some o → H b = none → b ∉ fs → b ∉ ex → h'.get? b = some o
  slot : ∀ b o, h.get? b = some o → H b = none → b ∈ fs → b ∉ ex → ∃ sl, h'.get? b = some { o with slots := sl }
  free : ∀ b o, h.get? b = some o → H b = none → b ∉ ex → H' b = none
  there : ∀ b o, h.get? b = some o → b ∉ ex → ∃ o', h'.get? b = some o'
  tups : ∀ b xs, H b = some (.tup xs) → H' b = some (.tup xs)
  frzs : ∀ b o u, H b = some (.frz o u) → H' b = some (.frz o u)
  tbls : ∀ b ps, H b = some (.tbl ps) → ∃ more, H' b = some (.tbl (ps ++ more))
section
variable {fs fs' ex ex' : List Addr} {H H1 H2 : Hp} {h h1 h2 h' : Heap} {a x e : Addr} {o : HO}
theorem Un.any (u : Un fs ex H H1 h h1) {b : Addr} {ob : Obj} (q : h.get? b = some ob) (n : H b = none) (hx : b ∉ ex) : ∃ sl, h1.get? b = some { ob with slots := sl } := by
  by_cases hb : b ∈ fs
  · exact u.slot b ob q n hb hx
  · exact ⟨ob.slots, u.keep b ob q n hb hx⟩
theorem Un.kept (k : ∀ b u, h.get? b = some u → h'.get? b = some u) : Un fs ex H H h h' :=
  ⟨fun b ob q _ _ _ => k b ob q, fun b ob q _ _ _ => ⟨ob.slots, k b ob q⟩, fun _ _ _ n _ => n, fun b ob q _ => ⟨ob, k b ob q⟩, fun _ _ q => q, fun _ _ _ q => q, fun _ ps q => ⟨#[], by rw [q]; simp⟩⟩
theorem Un.refl : Un fs ex H H h h := Un.kept fun _ _ q => q
theorem Un.laid (k : ∀ b u, h.get? b = some u → h'.get? b = some u) (hp : h.objs.size ≤ a) (hn : H a = none) : Un fs ex H (upd H a o) h h' where
  keep := fun b u q _ _ _ => k b u q
  slot := fun b u q _ _ _ => ⟨u.slots, k b u q⟩
  free := fun b u q n _ => by rw [upd_ne (Nat.ne_of_lt (Nat.lt_of_lt_of_le (Heap.lt_size q) hp))]; exact n
  there := fun b u q _ => ⟨u, k b u q⟩
  tups := fun b xs q => by rw [upd_ne (ne_of_none q hn)]; exact q
  frzs := fun b u xs q => by rw [upd_ne (ne_of_none q hn)]; exact q
  tbls := fun b ps q => ⟨#[], by rw [upd_ne (ne_of_none q hn), q]; simp⟩
theorem Un.write (mu : Mut (H x)) (he : e = x ∨ H e = some (.own x)) (k : ∀ b u, b ≠ e → h.get? b = some u → h'.get? b = some u) (heo : ∃ u, h'.get? e = some u) : Un fs ex H (upd H x o) h h' := by
  have hx : ∀ b, H b = none → b ≠ x := fun b n z => by subst z; rw [n] at mu; exact mu
  have hb : ∀ b, H b = none → b ≠ e := fun b n z => by
    subst z
    rcases he with r | r
    · exact hx b n r
    · rw [n] at r; cases r
  have hm : ∀ b u, H b = some u → ¬ Mut (some u) → b ≠ x := fun b u q nm z => by subst z; rw [q] at mu; exact nm mu
  refine ⟨fun b u q n _ _ => k b u (hb b n) q, fun b u q n _ _ => ⟨u.slots, k b u (hb b n) q⟩, fun b u q n _ => by rw [upd_ne (hx b n)]; exact n, fun b u q _ => ?_,
    fun b xs q => by rw [upd_ne (hm b _ q fun z => z)]; exact q, fun b u xs q => by rw [upd_ne (hm b _ q fun z => z)]; exact q, fun b ps q => ⟨#[], by rw [upd_ne (hm b _ q fun z => z), q]; simp⟩⟩
  by_cases hbe : b = e
  · subst hbe; exact heo
  · exact ⟨u, k b u hbe q⟩
end

/-! ### the heap without what is tracked -/
def trk (h : Heap) (H : Hp) : List Addr := (List.range h.objs.size).filter fun a => (H a).isSome
def hidT (h : Heap) (H : Hp) : Heap := PySem.W.hideAll h (trk h H)
theorem hidT_size (h : Heap) (H : Hp) : (hidT h H).objs.size = h.objs.size := PySem.W.hideAll_size _ _
theorem hidT_get {h : Heap} {H : Hp} {b : Addr} {o : Obj} (e : h.get? b = some o) (n : H b = none) : (hidT h H).get? b = some o :=
  PySem.W.hideAll_get _ e fun hm => by
    have q : (H b).isSome = true := (List.mem_filter.mp hm).2
    rw [n] at q; simp at q
theorem of_hidT {h : Heap} {H : Hp} {b : Addr} {o : Obj} (e : (hidT h H).get? b = some o) : h.get? b = some o ∧ H b = none := by
  have e' : h.get? b = some o := PySem.W.of_hideAll (trk h H) e
  refine ⟨e', ?_⟩
  cases q : H b with
  | none => rfl
  | some x =>
    have hm : b ∈ trk h H := List.mem_filter.mpr ⟨List.mem_range.mpr (Heap.lt_size e'), by simp [q]⟩
    have z : (hidT h H).get? b = none := PySem.W.hideAll_none (trk h H) hm
    rw [z] at e; cases e

/-! ### OpenK's ledger, filled with every new object but one -/
end L2

namespace L2
open PySem PySem.Spec PyProof.Rows

/-- the module's facts, over the base: the heap at the law's entry without what is tracked there -/
structure Mod (K : PySem.W.Frag) (mg : Str → Option Value) (base : Heap) : Prop where
  kin : K.In base
  glob : base.Ns mainGlobals mg
  blt : ∃ mb, base.Ns builtinsNs mb ∧ ∀ x : Str, x ≠ "__name__" → mb x = bootBuiltins x
  nolimit : base.NoLimit

/-- the context: a def's body (or a comprehension's block) running. base: fixed through the whole law; s₀, H₀: the entry; outer: the frames whose slots others may change (a def's callers); stack: all frames that run;
   ex: iterators that were made ahead of the entry and are walked here (a comprehension's); fn: the names whose cells were made at the entry (a def: all; a comprehension's block: its own); calm: not within an except suite; pn: pins that every state bears; xe: what is wanted of an exception that leaves the code -/
structure Cx where
  prog : Program
  w : World
  K : PySem.W.Frag
  mg : Str → Option Value
  base : Heap
  A : Around
  N : List Str
  s_0 : Shared
  H_0 : Hp
  env : Env
  outer : List Env
  stack : List Env
  ex : List Addr
  fn : Str → Bool
  calm : Bool
  pn : List (Addr × Obj)
  xe : Value → Shared → Prop
/-- the callers' frames -/
def frs (l : List Env) : List Addr := l.filterMap (·.frame)
abbrev Cx.fs (X : Cx) : List Addr := frs X.outer

def Vis (sc : Scope) (x : Str) : Prop := sc.names.lookup x = some .local ∨ sc.names.lookup x = some .cell ∨ sc.names.lookup x = some .free
def Loc (sc : Scope) (x : Str) : Prop := sc.names.lookup x = some .local ∨ sc.names.lookup x = some .cell
def Look (env : Env) (h : Heap) (m : Str → Option Value) (x : Str) (u : Value) : Prop :=
  (env.kindOf x = some .local ∧ m x = some u) ∨ ((env.kindOf x = some .cell ∨ env.kindOf x = some .free) ∧ ∃ c, env.cells.lookup x = some c ∧ h.IsCell c (some u))

structure Cx.Ok (X : Cx) : Prop where
  mod : Mod X.K X.mg X.base
  kind : X.env.scope.kind = .function
  glob : X.env.globals = mainGlobals
  blt : X.env.builtins = builtinsNs
  above : X.s_0.heap.objs.size ≤ X.env.locals
  inj : ∀ x y c, X.env.cells.lookup x = some c → X.env.cells.lookup y = some c → x = y
  has : ∀ x, (X.env.kindOf x = some .cell ∨ X.env.kindOf x = some .free) → ∃ c, X.env.cells.lookup x = some c
  cab : ∀ x c, X.fn x = true → X.env.cells.lookup x = some c → X.s_0.heap.objs.size ≤ c
  hd : X.calm = true → X.A.handled = none
  frames : X.A.frames = some X.stack
  stk : X.stack = X.outer ∨ (X.stack = X.env :: X.outer ∧ X.env.frame = some X.env.locals)
  exf : ∀ b ∈ X.ex, b ≠ X.env.locals ∧ ∀ x c, X.env.cells.lookup x = some c → c ≠ b
  bs : ∀ b o, X.base.get? b = some o → X.s_0.heap.get? b = some o ∧ X.H_0 b = none
  bsz : X.base.objs.size ≤ X.s_0.heap.objs.size
  noex : ∀ b o, X.base.get? b = some o → b ∉ X.ex
  exfs : ∀ b ∈ X.ex, b ∉ X.fs
  funs : X.s_0.heap.FunFrames X.base X.outer
  frf : ∀ b ∈ X.fs, X.H_0 b = none

structure Inv (X : Cx) (pins : List (Addr × Obj)) (σ : List (Option V)) (H : Hp) (s : Shared) : Prop where
  ok : X.Ok
  os : s.os = X.s_0.os
  bare : AllBare s.gens
  base : Un X.fs X.ex X.H_0 H X.s_0.heap s.heap
  loc : ∃ m, s.heap.Ns X.env.locals m ∧ ∀ (i : Nat) (x : Str) (v : V), X.N[i]? = some x → σ[i]? = some (some v) → Vis X.env.scope x → ∃ u, RelV v u ∧ Look X.env s.heap m x u
  cell : ∀ x c, X.env.cells.lookup x = some c → ∃ v, s.heap.IsCell c v
  free : H X.env.locals = none
  freeC : ∀ x c, X.env.cells.lookup x = some c → H c = none
  pin : ∀ p ∈ X.pn ++ pins, s.heap.get? p.1 = some p.2 ∧ H p.1 = none ∧ p.1 ≠ X.env.locals ∧ p.1 ∉ X.fs ∧ ∀ v, p.2.data ≠ .cell v
  hok : HOk X.prog X.w H s.heap
  len : σ.length = X.N.length

section
variable {X : Cx} {pins : List (Addr × Obj)} {σ : List (Option V)} {H H' : Hp} {s : Shared} {h' : Heap}

theorem Cx.Ok.nofr (ok : X.Ok) {b : Addr} {o : Obj} (e : X.base.get? b = some o) : b ∉ X.fs := fun hb => by
  have := (ok.funs.mem hb).1
  rw [e] at this; cases this
theorem Inv.bs (I : Inv X pins σ H s) : ∀ b o, X.base.get? b = some o → s.heap.get? b = some o ∧ H b = none := fun b o e =>
  ⟨I.base.keep b o (I.ok.bs b o e).1 (I.ok.bs b o e).2 (I.ok.nofr e) (I.ok.noex b o e), I.base.free b o (I.ok.bs b o e).1 (I.ok.bs b o e).2 (I.ok.noex b o e)⟩
theorem Inv.bk (I : Inv X pins σ H s) : ∀ b o, X.base.get? b = some o → s.heap.get? b = some o := fun b o e => (I.bs b o e).1
theorem Inv.mod (I : Inv X pins σ H s) : Mod X.K X.mg X.base := I.ok.mod
theorem Inv.kIn (I : Inv X pins σ H s) : X.K.In s.heap := I.ok.mod.kin.keeps I.bk
/-- the frame over the base: for OpenK's rules (K.In X.base is I.mod.kin) -/
theorem Inv.fr (I : Inv X pins σ H s) : ∃ m, Fr X.base X.env.locals s.heap m :=
  let ⟨m, hn, _⟩ := I.loc
  ⟨m, hn, I.bk, Nat.le_trans I.ok.bsz I.ok.above⟩
theorem Inv.lt (I : Inv X pins σ H s) : X.env.locals < s.heap.objs.size := let ⟨_, hn, _⟩ := I.loc; hn.lt
theorem Inv.sz (I : Inv X pins σ H s) : X.s_0.heap.objs.size ≤ s.heap.objs.size := Nat.le_trans I.ok.above (Nat.le_of_lt I.lt)
theorem Inv.nofs (I : Inv X pins σ H s) {a : Addr} (h : s.heap.objs.size ≤ a) : a ∉ X.fs := fun hb => by
  obtain ⟨_, o, ho, _⟩ := I.ok.funs.mem hb
  exact absurd (Nat.lt_of_lt_of_le (Heap.lt_size ho) (Nat.le_trans I.sz h)) (Nat.lt_irrefl _)
theorem Inv.cne (I : Inv X pins σ H s) : ∀ x c, X.env.cells.lookup x = some c → c ≠ X.env.locals := fun x c e z => by
  obtain ⟨v, o, ho, hd⟩ := I.cell x c e
  obtain ⟨m, ⟨o', es, ep, ho', hd', _⟩, _⟩ := I.loc
  rw [z, ho'] at ho; cases ho; rw [hd'] at hd; cases hd
theorem Inv.funs (I : Inv X pins σ H s) : s.heap.FunFrames X.base X.outer := by
  have all : ∀ (l : List Env), (∀ b ∈ frs l, b ∈ X.fs) → X.s_0.heap.FunFrames X.base l → s.heap.FunFrames X.base l := by
    intro l
    induction l with
    | nil => intro _ _; trivial
    | cons env r ih =>
      intro hs hl
      obtain ⟨hk, ⟨L, o, hf, hn, ho, hd⟩, hr⟩ := hl
      have hL : L ∈ X.fs := hs L (by unfold frs; rw [List.filterMap_cons, hf]; exact List.mem_cons_self)
      obtain ⟨sl, e⟩ := I.base.slot L o ho (I.ok.frf L hL) hL fun z => I.ok.exfs L z hL
      exact ⟨hk, ⟨L, _, hf, hn, e, hd⟩, ih (fun b hb => hs b (by unfold frs; rw [List.filterMap_cons, hf]; exact List.mem_cons_of_mem _ hb)) hr⟩
  exact all X.outer (fun _ hb => hb) I.ok.funs

/-- the frames that run, for a call -/
theorem Inv.stack (I : Inv X pins σ H s) : s.heap.FunFrames X.base X.stack := by
  rcases I.ok.stk with e | ⟨e, hf⟩
  · rw [e]; exact I.funs
  · rw [e]
    obtain ⟨m, hn, _⟩ := I.loc
    refine .cons (by rw [I.ok.kind]; decide) hf hn ?_ I.funs
    exact Heap.get?_none_of_le (Nat.le_trans I.ok.bsz I.ok.above)
theorem Inv.stkSub (I : Inv X pins σ H s) : ∀ b ∈ frs X.stack, b ∈ X.env.locals :: X.fs := fun b hb => by
  rcases I.ok.stk with e | ⟨e, hf⟩
  · rw [e] at hb; exact List.mem_cons_of_mem _ hb
  · rw [e] at hb
    unfold frs at hb
    rw [List.filterMap_cons, hf] at hb
    exact hb
theorem Inv.stkFree (I : Inv X pins σ H s) : ∀ b ∈ frs X.stack, H b = none := fun b hb => by
  rcases List.mem_cons.mp (I.stkSub b hb) with e | hb
  · rw [e]; exact I.free
  · obtain ⟨_, o, ho, _⟩ := I.ok.funs.mem hb
    exact I.base.free b o ho (I.ok.frf b hb) fun z => I.ok.exfs b z hb

/-- THE STEP: the untracked objects but the frame and the records at ch are kept (the callers' frames up to slots), the frame's map is kept, the new abstract heap is held -/
theorem Inv.step {g' : Array GenState} {t' : Nat} {d' : Drawn} {ch : List Addr} (I : Inv X pins σ H s)
    (hch : ∀ b ∈ ch, (b ∈ X.ex ∨ X.s_0.heap.objs.size ≤ b) ∧ b ≠ X.env.locals ∧ (∀ x c, X.env.cells.lookup x = some c → c ≠ b) ∧ ∀ p ∈ X.pn ++ pins, p.1 ≠ b)
    (keep : ∀ b o, b ≠ X.env.locals → b ∉ X.fs → b ∉ ch → s.heap.get? b = some o → H b = none → h'.get? b = some o)
    (slot : ∀ b o, b ≠ X.env.locals → b ∈ X.fs → b ∉ ch → s.heap.get? b = some o → H b = none → ∃ sl, h'.get? b = some { o with slots := sl }) (free : ∀ b o, b ∉ ch → s.heap.get? b = some o → H b = none → H' b = none)
    (there : ∀ b o, b ∉ ch → s.heap.get? b = some o → ∃ o', h'.get? b = some o')
    (tups : ∀ b xs, H b = some (.tup xs) → H' b = some (.tup xs)) (frzs : ∀ b o u, H b = some (.frz o u) → H' b = some (.frz o u)) (tbls : ∀ b ps, H b = some (.tbl ps) → ∃ more, H' b = some (.tbl (ps ++ more)))
    (ns : ∀ m, s.heap.Ns X.env.locals m → h'.Ns X.env.locals m) (hok : HOk X.prog X.w H' h') (hg : AllBare g') :
    Inv X pins σ H' { s with heap := h', gens := g', drawn := d', toks := t' } := by
  have neL : ∀ b o, X.s_0.heap.get? b = some o → b ≠ X.env.locals := fun b o e => Nat.ne_of_lt (Nat.lt_of_lt_of_le (Heap.lt_size e) I.ok.above)
  have neC : ∀ b o, X.s_0.heap.get? b = some o → b ∉ X.ex → b ∉ ch := fun b o e hx hb => by
    rcases (hch b hb).1 with z | z
    · exact hx z
    · exact absurd (Nat.lt_of_lt_of_le (Heap.lt_size e) z) (Nat.lt_irrefl _)
  have cellK : ∀ x c, X.env.cells.lookup x = some c → ∀ v, s.heap.IsCell c v → h'.IsCell c v := fun x c e v ⟨o, ho, hd⟩ => by
    have nch : c ∉ ch := fun z => (hch c z).2.2.1 x c e rfl
    by_cases hc : c ∈ X.fs
    · obtain ⟨sl, q⟩ := slot c o (I.cne x c e) hc nch ho (I.freeC x c e)
      exact ⟨_, q, hd⟩
    · exact ⟨o, keep c o (I.cne x c e) hc nch ho (I.freeC x c e), hd⟩
  refine ⟨I.ok, I.os, hg, ⟨fun b o e n hb hx => ?_, fun b o e n hb hx => ?_, fun b o e n hx => ?_, fun b o e hx => ?_, fun b xs e => tups b xs (I.base.tups b xs e), fun b o xs e => frzs b o xs (I.base.frzs b o xs e), fun b ps e => ?_⟩, ?_, fun x c e => ?_, ?_, fun x c e => ?_, fun p hp => ?_, hok, I.len⟩
  · exact keep b o (neL b o e) hb (neC b o e hx) (I.base.keep b o e n hb hx) (I.base.free b o e n hx)
  · obtain ⟨sl, e1⟩ := I.base.slot b o e n hb hx
    obtain ⟨sl', e2⟩ := slot b _ (neL b o e) hb (neC b o e hx) e1 (I.base.free b o e n hx)
    exact ⟨sl', e2⟩
  · obtain ⟨o', e1⟩ := I.base.there b o e hx
    exact free b o' (neC b o e hx) e1 (I.base.free b o e n hx)
  · obtain ⟨o', e1⟩ := I.base.there b o e hx
    exact there b o' (neC b o e hx) e1
  · obtain ⟨m1, e1⟩ := I.base.tbls b ps e
    obtain ⟨m2, e2⟩ := tbls b _ e1
    exact ⟨m1 ++ m2, by rw [e2, Array.append_assoc]⟩
  · obtain ⟨m, hn, hl⟩ := I.loc
    refine ⟨m, ns m hn, fun i x v e1 e2 e3 => ?_⟩
    obtain ⟨u, r, l⟩ := hl i x v e1 e2 e3
    refine ⟨u, r, ?_⟩
    rcases l with l | ⟨k, c, e, z⟩
    · exact .inl l
    · exact .inr ⟨k, c, e, cellK x c e _ z⟩
  · obtain ⟨v, z⟩ := I.cell x c e
    exact ⟨v, cellK x c e v z⟩
  · obtain ⟨m, ⟨o, _, _, ho, _⟩, _⟩ := I.loc
    exact free _ o (fun z => (hch _ z).2.1 rfl) ho I.free
  · obtain ⟨v, o, ho, hd⟩ := I.cell x c e
    exact free c o (fun z => (hch c z).2.2.1 x c e rfl) ho (I.freeC x c e)
  · obtain ⟨e, n, ne, nf, d⟩ := I.pin p hp
    have nch : p.1 ∉ ch := fun z => (hch p.1 z).2.2.2 p hp rfl
    exact ⟨keep p.1 p.2 ne nf nch e n, free p.1 p.2 nch e n, ne, nf, d⟩
/-- .. where the frame's own object is kept too -/
theorem Inv.un {t' : Nat} (I : Inv X pins σ H s) (u : Un X.fs [] H H' s.heap h') (hok : HOk X.prog X.w H' h') : Inv X pins σ H' { s with heap := h', toks := t' } := by
  obtain ⟨m, ⟨o, es, ep, ho, r⟩, _⟩ := id I.loc
  obtain ⟨sl, hL⟩ := u.any ho I.free (by simp)
  exact I.step (g' := s.gens) (d' := s.drawn) (ch := []) (fun _ z => nomatch z) (fun b o _ hb _ e n => u.keep b o e n hb (by simp)) (fun b o _ hb _ e n => u.slot b o e n hb (by simp)) (fun b o _ e n => u.free b o e n (by simp)) (fun b o _ e => u.there b o e (by simp)) u.tups u.frzs u.tbls (fun m' hm => by
    obtain ⟨o', es', ep', ho', r'⟩ := hm
    rw [ho] at ho'; cases ho'
    exact ⟨_, es', ep', hL, r'⟩) hok I.bare
/-- behind a call (or a comprehension's block): the slots of this frame may have changed too, the records at ch may have turned -/
theorem Inv.call {g' : Array GenState} {t' : Nat} {d' : Drawn} {ch : List Addr} (I : Inv X pins σ H s) (u : Un (frs X.stack) ch H H' s.heap h') (hok : HOk X.prog X.w H' h') (hg : AllBare g')
    (hch : ∀ b ∈ ch, (b ∈ X.ex ∨ X.s_0.heap.objs.size ≤ b) ∧ b ≠ X.env.locals ∧ (∀ x c, X.env.cells.lookup x = some c → c ≠ b) ∧ ∀ p ∈ X.pn ++ pins, p.1 ≠ b) :
    Inv X pins σ H' { s with heap := h', gens := g', drawn := d', toks := t' } := by
  obtain ⟨m, ⟨o, es, ep, ho, r⟩, _⟩ := id I.loc
  obtain ⟨sl, hL⟩ := u.any ho I.free fun z => (hch _ z).2.1 rfl
  exact I.step (ch := ch) hch (fun b o hL hb hc e n => u.keep b o e n (fun z => (List.mem_cons.mp (I.stkSub b z)).elim hL hb) hc) (fun b o _ _ hc e n => u.any e n hc) (fun b o hc e n => u.free b o e n hc) (fun b o hc e => u.there b o e hc) u.tups u.frzs u.tbls (fun m' hm => by
    obtain ⟨o', es', ep', ho', r'⟩ := hm
    rw [ho] at ho'; cases ho'
    exact ⟨_, es', ep', hL, r'⟩) hok hg
/-- an untracked record of ours (an iterator) has turned -/
theorem Inv.turned {t' : Nat} {it : Addr} (I : Inv X pins σ H s) (k : ∀ b o, b ≠ it → s.heap.get? b = some o → h'.get? b = some o) (hn : H it = none) (hL : it ≠ X.env.locals)
    (h1 : it ∈ X.ex ∨ X.s_0.heap.objs.size ≤ it) (h2 : ∀ x c, X.env.cells.lookup x = some c → c ≠ it) (h3 : ∀ p ∈ X.pn ++ pins, p.1 ≠ it) : Inv X pins σ H { s with heap := h', toks := t' } := by
  have nit : ∀ b u, H b = some u → b ≠ it := fun b u e z => by rw [z, hn] at e; cases e
  refine I.step (g' := s.gens) (d' := s.drawn) (ch := [it]) (fun b hb => ?_) (fun b o _ _ hc e _ => k b o (fun z => hc (by simp [z])) e) (fun b o _ _ hc e _ => ⟨o.slots, k b o (fun z => hc (by simp [z])) e⟩) (fun _ _ _ _ n => n)
    (fun b o hc e => ⟨o, k b o (fun z => hc (by simp [z])) e⟩) (fun _ _ e => e) (fun _ _ _ e => e) (fun b ps e => ⟨#[], by rw [e]; simp⟩) (fun m hm => ?_) (fun b u e => ?_) I.bare
  · have e : b = it := by simpa using hb
    subst e
    exact ⟨h1, hL, h2, h3⟩
  · obtain ⟨o, es, ep, ho, r⟩ := hm
    exact ⟨o, es, ep, k _ o (Ne.symm hL) ho, r⟩
  · refine (I.hok b u e).stay (fun c v hc q => k c v ?_ q) (fun _ q => q) fun _ _ q => q
    rcases hc with z | z
    · rw [z]; exact nit b u e
    · exact nit c _ z
theorem Inv.tok (I : Inv X pins σ H s) (t : Nat) : Inv X pins σ H { s with toks := t } := I.un (h' := s.heap) (t' := t) Un.refl I.hok
/-- all objects kept -/
theorem Inv.kept {t' : Nat} (I : Inv X pins σ H s) (k : ∀ b u, s.heap.get? b = some u → h'.get? b = some u) : Inv X pins σ H { s with heap := h', toks := t' } := I.un (Un.kept k) (I.hok.kept k)
/-- a new object laid and tracked -/
theorem Inv.laid {a : Addr} {o : HO} {t' : Nat} (I : Inv X pins σ H s) (k : ∀ b u, s.heap.get? b = some u → h'.get? b = some u) (hp : s.heap.objs.size ≤ a) (new : ObjOk X.prog X.w (upd H a o) h' a o) :
    Inv X pins σ (upd H a o) { s with heap := h', toks := t' } := I.un (Un.laid k hp (I.hok.fresh hp)) (I.hok.laid k hp new)
/-- an object written -/
theorem Inv.write {x e : Addr} {o : HO} {t' : Nat} (I : Inv X pins σ H s) (mu : Mut (H x)) (he : e = x ∨ H e = some (.own x)) (k : ∀ b u, b ≠ e → s.heap.get? b = some u → h'.get? b = some u) (heo : ∃ u, h'.get? e = some u)
    (new : ObjOk X.prog X.w (upd H x o) h' x o) : Inv X pins σ (upd H x o) { s with heap := h', toks := t' } := I.un (Un.write mu he k heo) (I.hok.write mu he k heo new)
/-- forgetting slots, pins -/
theorem Inv.weak {σ' : List (Option V)} (I : Inv X pins σ H s) (hl : σ'.length = σ.length) (w : ∀ (i : Nat) v, σ'[i]? = some (some v) → σ[i]? = some (some v)) : Inv X pins σ' H s :=
  ⟨I.ok, I.os, I.bare, I.base, let ⟨m, hn, hl'⟩ := I.loc; ⟨m, hn, fun i x v e1 e2 e3 => hl' i x v e1 (w i v e2) e3⟩, I.cell, I.free, I.freeC, I.pin, I.hok, hl.trans I.len⟩
theorem Inv.pins_of {pins' : List (Addr × Obj)} (I : Inv X pins σ H s) (h : ∀ p ∈ pins', s.heap.get? p.1 = some p.2 ∧ H p.1 = none ∧ p.1 ≠ X.env.locals ∧ p.1 ∉ X.fs ∧ ∀ v, p.2.data ≠ .cell v) : Inv X pins' σ H s :=
  ⟨I.ok, I.os, I.bare, I.base, I.loc, I.cell, I.free, I.freeC, fun p hp => (List.mem_append.mp hp).elim (fun z => I.pin p (List.mem_append_left _ z)) (h p), I.hok, I.len⟩

theorem nodup_ix {N : List Str} (hN : N.Nodup) {i j : Nat} {x : Str} (a : N[i]? = some x) (b : N[j]? = some x) : i = j := by
  obtain ⟨h1, e1⟩ := List.getElem?_eq_some_iff.mp a
  obtain ⟨h2, e2⟩ := List.getElem?_eq_some_iff.mp b
  exact (List.getElem_inj hN).mp (e1.trans e2.symm)

/-- a name is stored; what changed -/
theorem store_ok2 {M : Model} {A : Around} {E : Value → Shared → Prop} {i : Nat} {x : Str} {v : V} {u : Value} {Q : Unit → Shared → Prop} (I : Inv X pins σ H s) (hN : X.N.Nodup) (hi : X.N[i]? = some x) (hx : Loc X.env.scope x) (r : RelV v u)
    (h : ∀ s', Inv X pins (σ.set i (some v)) H s' → (∃ a, Heap.SameBut a s.heap s'.heap ∧ (a = X.env.locals ∨ X.env.cells.lookup x = some a)) → Q () s') (hf : X.fn x = true ∨ X.env.scope.names.lookup x = some .local := by first | exact .inl rfl | exact .inr rfl | assumption) : wpAny M A (storeName X.env x u) Q E s := by
  obtain ⟨m, hn, hl⟩ := id I.loc
  have hcls : (X.env.scope.kind == .class || (X.env.scope.kind == .module && X.env.locals != X.env.globals)) = false := by rw [I.ok.kind]; rfl
  have hiσ : i < σ.length := by rw [I.len]; exact (List.getElem?_eq_some_iff.mp hi).1
  have cne := I.cne
  have tracked : ∀ {a : Addr} {h' : Heap}, (∃ o, s.heap.get? a = some o ∧ H a = none) → Heap.SameBut a s.heap h' → HOk X.prog X.w H h' := fun {a h'} ha hs b ob e => by
    obtain ⟨_, _, hfree⟩ := ha
    refine (I.hok b ob e).stay (fun c w' hc q => (hs.2 c ?_).trans q) (fun _ q => q) fun _ _ q => q
    rintro rfl
    rcases hc with rfl | hc
    · rw [hfree] at e; cases e
    · rw [hfree] at hc; cases hc
  rcases hx with hk | hk
  · refine wpAny_storeName_local hk hn (fun h' hn' hs => ?_) hcls
    obtain ⟨oL, _, _, hoL, _⟩ := id hn
    refine h _ ⟨I.ok, I.os, I.bare, ⟨fun b o e n hb hx => ?_, fun b o e n hb hx => ?_, I.base.free, fun b o e hx => ?_, I.base.tups, I.base.frzs, I.base.tbls⟩, ⟨_, hn', fun j y v' e1 e2 e3 => ?_⟩, fun y c e => ?_, I.free, I.freeC, fun p hp => ?_, tracked ⟨oL, hoL, I.free⟩ hs, by simpa using I.len⟩ ⟨_, hs, .inl rfl⟩
    · exact (hs.2 b (Nat.ne_of_lt (Nat.lt_of_lt_of_le (Heap.lt_size e) I.ok.above))).trans (I.base.keep b o e n hb hx)
    · obtain ⟨sl, e1⟩ := I.base.slot b o e n hb hx
      exact ⟨sl, (hs.2 b (Nat.ne_of_lt (Nat.lt_of_lt_of_le (Heap.lt_size e) I.ok.above))).trans e1⟩
    · obtain ⟨o', e1⟩ := I.base.there b o e hx
      exact ⟨o', (hs.2 b (Nat.ne_of_lt (Nat.lt_of_lt_of_le (Heap.lt_size e) I.ok.above))).trans e1⟩
    · by_cases hj : j = i
      · subst hj
        rw [hi] at e1; cases e1
        rw [List.getElem?_set_self hiσ] at e2
        cases e2
        exact ⟨u, r, .inl ⟨hk, by simp⟩⟩
      · rw [List.getElem?_set_ne (Ne.symm hj)] at e2
        obtain ⟨u', r', q⟩ := hl j y v' e1 e2 e3
        refine ⟨u', r', ?_⟩
        rcases q with ⟨k, e⟩ | ⟨k, c, e, z⟩
        · refine .inl ⟨k, ?_⟩
          have : y ≠ x := fun e => hj (nodup_ix hN e1 (e ▸ hi))
          simp [this, e]
        · exact .inr ⟨k, c, e, z.sameBut hs (cne y c e)⟩
    · obtain ⟨w', z⟩ := I.cell y c e
      exact ⟨w', z.sameBut hs (cne y c e)⟩
    · obtain ⟨e, n, ne, nf, d⟩ := I.pin p hp
      exact ⟨(hs.2 p.1 ne).trans e, n, ne, nf, d⟩
  · have hfn : X.fn x = true := by
      rcases hf with z | z
      · exact z
      · rw [z] at hk; cases hk
    obtain ⟨c, hc⟩ := I.ok.has x (.inl hk)
    obtain ⟨w', z⟩ := I.cell x c hc
    refine wpAny_storeName_cell I.ok.kind hk hc z (fun h' hc' hs => ?_)
    obtain ⟨oc, hoc, hocd⟩ := id z
    refine h { s with heap := h' } ⟨I.ok, I.os, I.bare, ⟨fun b o e n hb hx => ?_, fun b o e n hb hx => ?_, I.base.free, fun b o e hx => ?_, I.base.tups, I.base.frzs, I.base.tbls⟩, ⟨m, hn.sameBut hs (Ne.symm (cne x c hc)), fun j y v' e1 e2 e3 => ?_⟩, fun y c' e => ?_, I.free, I.freeC, fun p hp => ?_, tracked ⟨oc, hoc, I.freeC x c hc⟩ hs, by simpa using I.len⟩ ⟨c, hs, .inr hc⟩
    · exact (hs.2 b (Nat.ne_of_lt (Nat.lt_of_lt_of_le (Heap.lt_size e) (I.ok.cab x c hfn hc)))).trans (I.base.keep b o e n hb hx)
    · obtain ⟨sl, e1⟩ := I.base.slot b o e n hb hx
      exact ⟨sl, (hs.2 b (Nat.ne_of_lt (Nat.lt_of_lt_of_le (Heap.lt_size e) (I.ok.cab x c hfn hc)))).trans e1⟩
    · obtain ⟨o', e1⟩ := I.base.there b o e hx
      exact ⟨o', (hs.2 b (Nat.ne_of_lt (Nat.lt_of_lt_of_le (Heap.lt_size e) (I.ok.cab x c hfn hc)))).trans e1⟩
    · by_cases hj : j = i
      · subst hj
        rw [hi] at e1; cases e1
        rw [List.getElem?_set_self hiσ] at e2
        cases e2
        exact ⟨u, r, .inr ⟨.inl hk, c, hc, hc'⟩⟩
      · rw [List.getElem?_set_ne (Ne.symm hj)] at e2
        obtain ⟨u', r', q⟩ := hl j y v' e1 e2 e3
        refine ⟨u', r', ?_⟩
        rcases q with q | ⟨k, c', e, z'⟩
        · exact .inl q
        · refine .inr ⟨k, c', e, z'.sameBut hs ?_⟩
          rintro rfl
          exact hj (nodup_ix hN e1 (I.ok.inj _ _ _ e hc ▸ hi))
    · by_cases hcc : c' = c
      · subst hcc; exact ⟨_, hc'⟩
      · obtain ⟨w2, z2⟩ := I.cell y c' e
        exact ⟨w2, z2.sameBut hs hcc⟩
    · obtain ⟨e, n, ne, nf, d⟩ := I.pin p hp
      refine ⟨(hs.2 p.1 ?_).trans e, n, ne, nf, d⟩
      intro q
      rw [q, hoc] at e
      have q' : oc = p.2 := Option.some.inj e
      exact d w' (by rw [← q']; exact hocd)
theorem store_ok {M : Model} {A : Around} {E : Value → Shared → Prop} {i : Nat} {x : Str} {v : V} {u : Value} {Q : Unit → Shared → Prop} (I : Inv X pins σ H s) (hN : X.N.Nodup) (hi : X.N[i]? = some x) (hx : Loc X.env.scope x) (r : RelV v u)
    (h : ∀ s', Inv X pins (σ.set i (some v)) H s' → Q () s') (hf : X.fn x = true ∨ X.env.scope.names.lookup x = some .local := by first | exact .inl rfl | exact .inr rfl | assumption) : wpAny M A (storeName X.env x u) Q E s :=
  store_ok2 I hN hi hx r (fun s' I' _ => h s' I') hf
/-- behind a call or a block, the state as it is -/
theorem Inv.call' {s' : Shared} {ch : List Addr} (I : Inv X pins σ H s) (ho : s'.os = s.os) (u : Un (frs X.stack) ch H H' s.heap s'.heap) (hok : HOk X.prog X.w H' s'.heap) (hg : AllBare s'.gens)
    (hch : ∀ b ∈ ch, (b ∈ X.ex ∨ X.s_0.heap.objs.size ≤ b) ∧ b ≠ X.env.locals ∧ (∀ x c, X.env.cells.lookup x = some c → c ≠ b) ∧ ∀ p ∈ X.pn ++ pins, p.1 ≠ b) : Inv X pins σ H' s' := by
  obtain ⟨h', g', d', t', o'⟩ := s'
  have e : o' = s.os := ho
  subst e
  exact I.call (g' := g') (t' := t') (d' := d') u hok hg hch
end

/-! ### the judgements -/
/-- an exception: its class, its own dict's address (where it has one), the abstract heap behind it -/
abbrev XK := Value → Option Addr → Hp → Prop
abbrev St := List (Option V)
abbrev VK := V → Hp → Prop
/-- an expression's reading; a test's; an argument list's -/
abbrev TE := St → Hp → VK → Prop
abbrev TT := St → Hp → (Bool → Hp → Prop) → Prop
abbrev TA := St → Hp → (List V → Hp → Prop) → Prop
/-- what is wanted behind a statement -/
structure Ends where
  nx : St → Hp → Prop
  rt : VK
  bk : St → Hp → Prop := fun _ _ => False
  ct : St → Hp → Prop := fun _ _ => False
abbrev TS := Ends → St → Hp → Prop

def EP (X : Cx) (pins : List (Addr × Obj)) (σ : St) (Q : VK) (u : Value) (s' : Shared) : Prop := ∃ v H', Inv X pins σ H' s' ∧ RelV v u ∧ Q v H'
def TP (X : Cx) (pins : List (Addr × Obj)) (σ : St) (Q : Bool → Hp → Prop) (b : Bool) (s' : Shared) : Prop := ∃ H', Inv X pins σ H' s' ∧ Q b H'
def AP (X : Cx) (pins : List (Addr × Obj)) (σ : St) (Q : List V → Hp → Prop) (us : List Value) (s' : Shared) : Prop := ∃ vs H', Inv X pins σ H' s' ∧ Vals vs us ∧ Q vs H'
def SP (X : Cx) (pins : List (Addr × Obj)) (D : Ends) (f : Flow) (s' : Shared) : Prop :=
  match f with
  | .next => ∃ σ' H', Inv X pins σ' H' s' ∧ D.nx σ' H'
  | .brk => ∃ σ' H', Inv X pins σ' H' s' ∧ D.bk σ' H'
  | .cont => ∃ σ' H', Inv X pins σ' H' s' ∧ D.ct σ' H'
  | .ret u => ∃ v σ' H', Inv X pins σ' H' s' ∧ RelV v u ∧ D.rt v H'

def PE (X : Cx) (e : Expr) (t : TE) : Prop :=
  ∀ (pins : List (Addr × Obj)) (s : Shared) (σ : St) (H : Hp) (Q : VK), Inv X pins σ H s → t σ H Q → wpAny (model X.prog X.w) X.A (eval e X.env) (EP X pins σ Q) X.xe s
def PT (X : Cx) (e : Expr) (t : TT) : Prop :=
  ∀ (pins : List (Addr × Obj)) (s : Shared) (σ : St) (H : Hp) (Q : Bool → Hp → Prop), Inv X pins σ H s → t σ H Q → wpAny (model X.prog X.w) X.A (isTrue e X.env (eval e X.env)) (TP X pins σ Q) X.xe s
/-- a test whatever its 'whole' is (and, or) -/
def PW (X : Cx) (e : Expr) (t : TT) : Prop :=
  ∀ (whole : Sem Value) (pins : List (Addr × Obj)) (s : Shared) (σ : St) (H : Hp) (Q : Bool → Hp → Prop), Inv X pins σ H s → t σ H Q → wpAny (model X.prog X.w) X.A (isTrue e X.env whole) (TP X pins σ Q) X.xe s
theorem PW.pt {X : Cx} {e : Expr} {t : TT} (h : PW X e t) : PT X e t := h _
/-- an argument list (no star), from the left -/
def PA (X : Cx) (es : List Expr) (t : TA) : Prop :=
  ∀ (pos : Pos) (pins : List (Addr × Obj)) (s : Shared) (σ : St) (H : Hp) (Q : List V → Hp → Prop), Inv X pins σ H s → t σ H Q → wpAny (model X.prog X.w) X.A (spliced (backTo pos (starEach es X.env))) (AP X pins σ Q) X.xe s
def PS (X : Cx) (st : Stmt) (t : TS) : Prop :=
  ∀ (pins : List (Addr × Obj)) (s : Shared) (σ : St) (H : Hp) (D : Ends), Inv X pins σ H s → t D σ H → wpAny (model X.prog X.w) X.A (exec st X.env) (SP X pins D) X.xe s
def PSs (X : Cx) (st : List Stmt) (t : TS) : Prop :=
  ∀ (pins : List (Addr × Obj)) (s : Shared) (σ : St) (H : Hp) (D : Ends), Inv X pins σ H s → t D σ H → wpAny (model X.prog X.w) X.A (execs st X.env) (SP X pins D) X.xe s
/-- weaken the end -/
theorem thn {α : Type} {t : Sem α} {Q Q' : α → Shared → Prop} {M : Model} {A : Around} {E : Value → Shared → Prop} {s : Shared} (h : wpAny M A t Q E s) (hQ : ∀ a s, Q a s → Q' a s) : wpAny M A t Q' E s := wpAny_mono h hQ fun _ _ x => x
end L2

namespace L2
open PySem PySem.Spec PyProof.Rows
section
variable {X : Cx}

/-- two expressions in a row -/
theorem bin {a b : Expr} {ta tb : TE} (ha : PE X a ta) (hb : PE X b tb) {pins : List (Addr × Obj)} {s : Shared} {σ : St} {H : Hp} {R : V → V → Hp → Prop} (I : Inv X pins σ H s) (h : ta σ H fun x H1 => tb σ H1 fun y H2 => R x y H2)
    {α : Type} {Q : α → Shared → Prop} {f : Value → Value → Sem α}
    (hf : ∀ v u s2 x y H2, Inv X pins σ H2 s2 → RelV x v → RelV y u → R x y H2 → wpAny (model X.prog X.w) X.A (f v u) Q X.xe s2) :
    wpAny (model X.prog X.w) X.A (eval a X.env) (fun v s₁ => wpAny (model X.prog X.w) X.A (eval b X.env) (fun u s₂ => wpAny (model X.prog X.w) X.A (f v u) Q X.xe s₂) X.xe s₁) X.xe s := by
  refine thn (ha pins s σ H _ I h) fun v s1 ⟨x, H1, I1, r1, q1⟩ => ?_
  refine thn (hb pins s1 σ H1 _ I1 q1) fun u s2 ⟨y, H2, I2, r2, q2⟩ => ?_
  exact hf v u s2 x y H2 I2 r1 r2 q2

/-! ### names and constants -/
def tVar (i : Nat) : TE := fun σ H Q => ∃ v, σ[i]? = some (some v) ∧ Q v H
def tC (v : V) : TE := fun _ H Q => Q v H
theorem pe_var {i : Nat} {x : Str} {pos : Pos} (hN : X.N[i]? = some x) (hv : Vis X.env.scope x) (hd : (x == ("__debug__" : Str)) = false := by decide) (hcd : (x == ("__classdict__" : Str)) = false := by decide) : PE X (.Name x pos) (tVar i) := by
  intro pins s σ H Q I h
  obtain ⟨v, e, h⟩ := h
  obtain ⟨m, hn, hl⟩ := I.loc
  obtain ⟨u, r, l⟩ := hl i x v hN e hv
  have fin : EP X pins σ Q u s := ⟨v, H, I, r, h⟩
  rcases l with ⟨hk, hm⟩ | ⟨hk, c, hc, hcell⟩
  · exact wpAny_Name (wpAny_loadName_local I.ok.kind hk hn hm fin) hd
  · rcases hk with hk | hk
    · exact wpAny_Name (wpAny_loadName_cell I.ok.kind hk hc hcell fin) hd
    · exact wpAny_Name (wpAny_loadName_free I.ok.kind hk hc hcell fin hcd) hd
theorem pe_int {i j pos} : PE X (.Constant (.int i) j pos) (tC (.int i)) := fun _ _ _ H _ I h => wpAny_Constant_int ⟨.int i, H, I.tok _, ⟨_, rfl⟩, h⟩
theorem pe_bl {b j pos} : PE X (.Constant (.bool b) j pos) (tC (.bl b)) := fun _ _ _ H _ I h => Constant_bool ⟨.bl b, H, I, rfl, h⟩
theorem pe_non {j pos} : PE X (.Constant .none j pos) (tC .non) := fun _ _ _ H _ I h => Constant_none ⟨.non, H, I, rfl, h⟩

/-- a global name of the def -/
def Gl (X : Cx) (x : Str) : Prop := X.env.kindOf x = some .globalImplicit
theorem ld_glob {E : Value → Shared → Prop} {pins : List (Addr × Obj)} {s : Shared} {σ : St} {H : Hp} {x : Str} {u : Value} {pos : Pos} {Q : Value → Shared → Prop} (I : Inv X pins σ H s) (hg : Gl X x) (hm : X.mg x = some u) (h : Q u s)
    (hd : (x == ("__debug__" : Str)) = false := by decide) : wpAny (model X.prog X.w) X.A (eval (.Name x pos) X.env) Q E s :=
  Calls.Name_function_global I.ok.kind hg (Calls.loadGlobal_global (by rw [I.ok.glob]; exact I.mod.glob.keeps I.bk) hm h) hd
theorem ld_blt {E : Value → Shared → Prop} {pins : List (Addr × Obj)} {s : Shared} {σ : St} {H : Hp} {x : Str} {u : Value} {pos : Pos} {Q : Value → Shared → Prop} (I : Inv X pins σ H s) (hg : Gl X x) (hm : X.mg x = none) (hv : bootBuiltins x = some u) (h : Q u s)
    (hn : x ≠ "__name__" := by decide) (hd : (x == ("__debug__" : Str)) = false := by decide) : wpAny (model X.prog X.w) X.A (eval (.Name x pos) X.env) Q E s := by
  obtain ⟨mb, h1, h2⟩ := I.mod.blt
  exact Calls.Name_function_global I.ok.kind hg (Calls.loadGlobal_builtin (by rw [I.ok.glob]; exact I.mod.glob.keeps I.bk) hm (by rw [I.ok.blt]; exact h1.keeps I.bk) ((h2 x hn).trans hv) h) hd
/-- a module's constant, a class, a function, as a value -/
theorem pe_glob {x : Str} {v : V} {u : Value} {pos : Pos} (hg : Gl X x) (hm : X.mg x = some u) (r : RelV v u) (hd : (x == ("__debug__" : Str)) = false := by decide) : PE X (.Name x pos) (tC v) :=
  fun _ _ _ H _ I h => ld_glob I hg hm ⟨v, H, I, r, h⟩ hd

/-! ### arithmetic -/
variable {a b : Expr} {ta tb : TE} {pos : Pos}

/-! ### comparisons -/
def PC (X : Cx) (op : CmpOp) (a b : Expr) (t : TE) : Prop :=
  ∀ (pins : List (Addr × Obj)) (s : Shared) (σ : St) (H : Hp) (Q : VK), Inv X pins σ H s → t σ H Q →
    wpAny (model X.prog X.w) X.A (eval a X.env) (fun v s₁ => wpAny (model X.prog X.w) X.A (eval b X.env) (fun u s₂ => wpAny (model X.prog X.w) X.A (compareOp op v u) (EP X pins σ Q) X.xe s₂) X.xe s₁) X.xe s
theorem nobehind (b : Expr) {op : CmpOp} (h : op ≠ .In) (h2 : op ≠ .NotIn) : behindInMarks op b = false := by
  have e1 : (op == CmpOp.In) = false := by cases op <;> first | rfl | exact absurd rfl h
  have e2 : (op == CmpOp.NotIn) = false := by cases op <;> first | rfl | exact absurd rfl h2
  cases b <;> simp [behindInMarks, e1, e2]
/-- is None -/
def tIsN (ta : TE) : TE := fun σ H Q => ta σ H fun x H1 => Q (.bl (decide (x = .non))) H1
def tNotN (ta : TE) : TE := fun σ H Q => ta σ H fun x H1 => Q (.bl (!decide (x = .non))) H1
theorem RelV.none_iff {x : V} {v : Value} (r : RelV x v) : (v == Value.none) = decide (x = .non) := by
  cases x with
  | non => cases r; rfl
  | bl _ => cases r; rfl
  | int _ => obtain ⟨t, rfl⟩ := r; rfl
  | str _ => obtain ⟨t, rfl⟩ := r; rfl
  | byt _ => obtain ⟨t, rfl⟩ := r; rfl
  | flt _ => obtain ⟨t, rfl⟩ := r; rfl
  | ref _ => cases r; rfl
  | ty _ => cases r; rfl
theorem pc_isN {j pos'} (ha : PE X a ta) : PC X .Is a (.Constant .none j pos') (tIsN ta) := by
  intro pins s σ H Q I h
  refine thn (ha pins s σ H _ I h) fun v s1 ⟨x, H1, I1, r1, q1⟩ => ?_
  exact Constant_none (is_none_gen ⟨.bl _, H1, I1, by rw [r1.none_iff]; rfl, q1⟩)
theorem pc_notN {j pos'} (ha : PE X a ta) : PC X .IsNot a (.Constant .none j pos') (tNotN ta) := by
  intro pins s σ H Q I h
  refine thn (ha pins s σ H _ I h) fun v s1 ⟨x, H1, I1, r1, q1⟩ => ?_
  exact Constant_none (isnot_none_gen ⟨.bl _, H1, I1, by rw [r1.none_iff]; rfl, q1⟩)
/-- a comparison as a value, as a test -/
def tB (t : TE) : TT := fun σ H Q => t σ H fun x H1 => ∃ c, x = .bl c ∧ Q c H1
theorem pt_cmp {op : CmpOp} {t : TE} (h : PC X op a b t) (h1 : behindInMarks op b = false := by first | exact nobehind _ (by decide) (by decide) | rfl) : PT X (.Compare a [op] [b] pos) (tB t) := by
  intro pins s σ H Q I hw
  refine wpAny_isTrue_Compare1 (thn (h pins s σ H _ I hw) fun v s1 h1 => thn h1 fun u s2 h2 => thn h2 fun c s3 ⟨x, H1, I1, r1, q1⟩ => ?_) h1
  obtain ⟨d, rfl, q⟩ := q1
  cases r1
  exact wpAny_truthy_bool ⟨H1, I1, q⟩
/-- an expression whose value is a bool, as a test -/
theorem pt_val {e : Expr} {t : TE} (h : PE X e t) (he : ∀ whole, isTrue e X.env whole = (do let v ← whole; standAt e.pos; holding [v] (truthy v)) := by intro _; rfl) : PT X e (tB t) := by
  intro pins s σ H Q I hw
  refine isTrue_plain (thn (h pins s σ H _ I hw) fun v s1 ⟨x, H1, I1, r1, q1⟩ => ?_) (he _)
  obtain ⟨d, rfl, q⟩ := q1
  cases r1
  exact wpAny_truthy_bool ⟨H1, I1, q⟩

/-! ### and, or, not -/
variable {tA tB' : TT} {rest : List Expr}
def tAnd (t u : TT) : TT := fun σ H Q => t σ H fun c H1 => if c = true then u σ H1 Q else Q false H1
def tOr (t u : TT) : TT := fun σ H Q => t σ H fun c H1 => if c = true then Q true H1 else u σ H1 Q
def tNot (t : TT) : TT := fun σ H Q => t σ H fun c H1 => Q (!c) H1
theorem pw_and1 (ha : PT X a tA) : PW X (.BoolOp .And [a] pos) tA := by
  intro wh pins s σ H Q I h
  refine isTrue_and (thn (ha pins s σ H Q I h) fun c s1 e => ?_)
  cases c with
  | true => exact isTrue_and_nil e
  | false => exact e
theorem pw_or1 (ha : PT X a tA) : PW X (.BoolOp .Or [a] pos) tA := by
  intro wh pins s σ H Q I h
  refine isTrue_or (thn (ha pins s σ H Q I h) fun c s1 e => ?_)
  cases c with
  | false => exact isTrue_or_nil e
  | true => exact e
theorem pw_and (ha : PT X a tA) (hb : PW X (.BoolOp .And (b :: rest) pos) tB') : PW X (.BoolOp .And (a :: b :: rest) pos) (tAnd tA tB') := by
  intro wh pins s σ H Q I h
  refine isTrue_and (thn (ha pins s σ H _ I h) fun c s1 ⟨H1, I1, q1⟩ => ?_)
  cases c with
  | true => exact hb wh pins s1 σ H1 Q I1 q1
  | false => exact ⟨H1, I1, q1⟩
theorem pw_or (ha : PT X a tA) (hb : PW X (.BoolOp .Or (b :: rest) pos) tB') : PW X (.BoolOp .Or (a :: b :: rest) pos) (tOr tA tB') := by
  intro wh pins s σ H Q I h
  refine isTrue_or (thn (ha pins s σ H _ I h) fun c s1 ⟨H1, I1, q1⟩ => ?_)
  cases c with
  | true => exact ⟨H1, I1, q1⟩
  | false => exact hb wh pins s1 σ H1 Q I1 q1
theorem pt_not (ha : PT X a tA) : PT X (.UnaryOp .Not a pos) (tNot tA) := by
  intro pins s σ H Q I h
  exact isTrue_not (ha pins s σ H (fun c H1 => Q (!c) H1) I h)
/-- a if t else b -/
def tIf (t : TT) (ta tb : TE) : TE := fun σ H Q => t σ H fun c H1 => if c = true then ta σ H1 Q else tb σ H1 Q
theorem pe_ifExp {c : Expr} (hc : PT X c tA) (ha : PE X a ta) (hb : PE X b tb) : PE X (.IfExp c a b pos) (tIf tA ta tb) := by
  intro pins s σ H Q I h
  refine wpAny_IfExp (thn (hc pins s σ H _ I h) fun d s1 ⟨H1, I1, q1⟩ => ?_)
  cases d with
  | true => exact ha pins s1 σ H1 Q I1 q1
  | false => exact hb pins s1 σ H1 Q I1 q1
end
end L2

namespace L2
open PySem PySem.Spec PyProof.Rows

/-! ### a list, a tuple that is read: tracked, frozen, or an object of the module -/
def SqL (K : PySem.W.Frag) (H : Hp) (a : Addr) (xs : List V) : Prop :=
  Rd H a (.lst xs) ∨
    ∃ (o : Obj) (its : Array Value) (n : Nat), K.lookup a = some o ∧ o.cls = .type "list" ∧ o.dict = none ∧ o.data = .seq its n ∧ its.size ≤ sizeLine ∧ Vals xs its.toList
def SqT (K : PySem.W.Frag) (H : Hp) (a : Addr) (xs : List V) : Prop :=
  Rd H a (.tup xs) ∨
    ∃ (o : Obj) (its : Array Value) (n : Nat), K.lookup a = some o ∧ o.cls = .type "tuple" ∧ o.data = .seq its n ∧ its.size ≤ sizeLine ∧ Vals xs its.toList
def absV : Value → Option V
  | .none => some .non
  | .bool b => some (.bl b)
  | .int i _ => some (.int i)
  | .str x _ => some (.str x)
  | .bytes b _ => some (.byt b)
  | .float b _ => some (.flt b)
  | .ref a => some (.ref a)
  | .type n => some (.ty n)
  | _ => none
theorem RelV.abs {x : V} {u : Value} (r : RelV x u) : absV u = some x := by
  cases x with
  | non => cases r; rfl
  | bl _ => cases r; rfl
  | int _ => obtain ⟨t, rfl⟩ := r; rfl
  | str _ => obtain ⟨t, rfl⟩ := r; rfl
  | byt _ => obtain ⟨t, rfl⟩ := r; rfl
  | flt _ => obtain ⟨t, rfl⟩ := r; rfl
  | ref _ => cases r; rfl
  | ty _ => cases r; rfl
theorem RelV.inj {x y : V} {u : Value} (r : RelV x u) (q : RelV y u) : x = y := Option.some.inj (r.abs.symm.trans q.abs)
theorem Vals.inj : ∀ {xs ys : List V} {us : List Value}, Vals xs us → Vals ys us → xs = ys
  | _, _, _, .nil, .nil => rfl
  | _, _, _, .cons r t, .cons r' t' => by rw [r.inj r', Vals.inj t t']
section
variable {X : Cx} {pins : List (Addr × Obj)} {σ : St} {H : Hp} {s : Shared} {a : Addr} {xs ys : List V}
theorem SqL.of {K : PySem.W.Frag} (h : H a = some (.lst xs)) : SqL K H a xs := .inl (.inl h)
theorem SqT.of {K : PySem.W.Frag} (h : H a = some (.tup xs)) : SqT K H a xs := .inl (.inl h)
theorem Inv.list (I : Inv X pins σ H s) (h : SqL X.K H a xs) : ∃ its : List Value, Vals xs its ∧ PlainL s.heap a its.toArray ∧ xs.length ≤ sizeLine := by
  rcases h with h | ⟨o, its, n, hk, hc, hd, hs, hz, r⟩
  · obtain ⟨z, its, n, r, e⟩ := h.ok I.hok
    exact ⟨its, r, ⟨_, n, e, rfl, rfl, rfl⟩, z⟩
  · refine ⟨its.toList, r, ⟨o, n, I.kIn a o hk, hc, hd, by simpa using hs⟩, ?_⟩
    have e := r.length
    simp only [Array.length_toList] at e
    omega
theorem Inv.tuple (I : Inv X pins σ H s) (h : SqT X.K H a xs) : ∃ its : List Value, Vals xs its ∧ IsTup s.heap a its.toArray ∧ xs.length ≤ sizeLine := by
  rcases h with h | ⟨o, its, n, hk, hc, hs, hz, r⟩
  · obtain ⟨z, its, r, p⟩ := h.ok I.hok
    exact ⟨its, r, p, z⟩
  · refine ⟨its.toList, r, ⟨o, I.kIn a o hk, hc, n, by simpa using hs⟩, ?_⟩
    have e := r.length
    simp only [Array.length_toList] at e
    omega
theorem Inv.list_inj (I : Inv X pins σ H s) (h : SqL X.K H a xs) (h' : SqL X.K H a ys) : xs = ys := by
  obtain ⟨its, r, ⟨o, n, e, _, _, d⟩, _⟩ := I.list h
  obtain ⟨its', r', ⟨o', n', e', _, _, d'⟩, _⟩ := I.list h'
  rw [e] at e'; cases e'
  rw [d] at d'
  injection d' with d1 _
  have : its = its' := by simpa using congrArg Array.toList d1
  subst this
  exact r.inj r'
theorem Inv.tuple_inj (I : Inv X pins σ H s) (h : SqT X.K H a xs) (h' : SqT X.K H a ys) : xs = ys := by
  obtain ⟨its, r, ⟨o, e, _, n, d⟩, _⟩ := I.tuple h
  obtain ⟨its', r', ⟨o', e', _, n', d'⟩, _⟩ := I.tuple h'
  rw [e] at e'; cases e'
  rw [d] at d'
  injection d' with d1 _
  have : its = its' := by simpa using congrArg Array.toList d1
  subst this
  exact r.inj r'
end

/-! ### another wish about exceptions -/
abbrev Cx.wish (X : Cx) (E : Value → Shared → Prop) : Cx := { X with xe := E }
/-- no exception leaves -/
abbrev Cx.nox (X : Cx) : Cx := X.wish fun _ _ => False
theorem Cx.Ok.wish {X : Cx} (ok : X.Ok) (E : Value → Shared → Prop) : (X.wish E).Ok :=
  ⟨ok.mod, ok.kind, ok.glob, ok.blt, ok.above, ok.inj, ok.has, ok.cab, ok.hd, ok.frames, ok.stk, ok.exf, ok.bs, ok.bsz, ok.noex, ok.exfs, ok.funs, ok.frf⟩
theorem Cx.Ok.unwish {X : Cx} {E : Value → Shared → Prop} (ok : (X.wish E).Ok) : X.Ok :=
  ⟨ok.mod, ok.kind, ok.glob, ok.blt, ok.above, ok.inj, ok.has, ok.cab, ok.hd, ok.frames, ok.stk, ok.exf, ok.bs, ok.bsz, ok.noex, ok.exfs, ok.funs, ok.frf⟩
section
variable {X : Cx} {pins : List (Addr × Obj)} {σ : St} {H : Hp} {s : Shared} {E : Value → Shared → Prop}
theorem Inv.wish (I : Inv X pins σ H s) (E : Value → Shared → Prop) : Inv (X.wish E) pins σ H s := ⟨I.ok.wish E, I.os, I.bare, I.base, I.loc, I.cell, I.free, I.freeC, I.pin, I.hok, I.len⟩
theorem Inv.unwish (I : Inv (X.wish E) pins σ H s) : Inv X pins σ H s := ⟨I.ok.unwish, I.os, I.bare, I.base, I.loc, I.cell, I.free, I.freeC, I.pin, I.hok, I.len⟩
theorem SP.unwish {D : Ends} {f : Flow} {s' : Shared} (h : SP (X.wish E) pins D f s') : SP X pins D f s' := by
  cases f with
  | next => obtain ⟨σ', H', I, q⟩ := h; exact ⟨σ', H', I.unwish, q⟩
  | brk => obtain ⟨σ', H', I, q⟩ := h; exact ⟨σ', H', I.unwish, q⟩
  | cont => obtain ⟨σ', H', I, q⟩ := h; exact ⟨σ', H', I.unwish, q⟩
  | ret u => obtain ⟨v, σ', H', I, r, q⟩ := h; exact ⟨v, σ', H', I.unwish, r, q⟩
theorem PSs.nox {st : List Stmt} {t : TS} (h : PSs X.nox st t) : PSs X st t := fun pins s σ H D I hw =>
  wpAny_mono (h pins s σ H D (I.wish _) hw) (fun _ _ q => q.unwish) fun _ _ z => False.elim z
end

/-! ### blocks and small statements -/
section
variable {X : Cx} {st : Stmt} {rest : List Stmt} {t u : TS} {e : Expr} {te : TE} {pos : Pos}
def tNext : TS := fun D σ H => D.nx σ H
def tSeq (t u : TS) : TS := fun D σ H => t { D with nx := u D } σ H
theorem pss_nil : PSs X [] tNext := fun _ _ σ H _ I h => wpAny_execs_nil ⟨σ, H, I, h⟩
theorem pss_cons (h1 : PS X st t) (h2 : PSs X rest u) : PSs X (st :: rest) (tSeq t u) := by
  intro pins s σ H D I h
  refine wpAny_execs_cons (thn (h1 pins s σ H { D with nx := u D } I h) fun f s1 q => ?_)
  cases f with
  | next =>
    obtain ⟨σ', H', I', q⟩ := q
    exact h2 pins s1 σ' H' D I' q
  | ret v => exact q
  | brk => exact q
  | cont => exact q
theorem pss_one (h1 : PS X st t) : PSs X [st] t := by
  intro pins s σ H D I h
  refine wpAny_execs_cons (thn (h1 pins s σ H D I h) fun f s1 q => ?_)
  cases f with
  | next => exact wpAny_execs_nil q
  | ret v => exact q
  | brk => exact q
  | cont => exact q
/-- in a def's body nothing is shown -/
theorem Inv.quiet {pins : List (Addr × Obj)} {σ : St} {H : Hp} {s : Shared} (I : Inv X pins σ H s) : interactive X.env = false := by simp [interactive, I.ok.kind]
/-- an expression whose value is dropped -/
def tDrop (te : TE) : TS := fun D σ H => te σ H fun _ H1 => D.nx σ H1
theorem ps_expr (he : PE X e te) (hs : swapsWith e none pos.line X.env = pure false := by rfl) : PS X (.Expr e pos) (tDrop te) := by
  intro pins s σ H D I h
  exact wpAny_Expr_any (thn (he pins s σ H _ I h) fun v s1 ⟨x, H1, I1, r1, q1⟩ => ⟨σ, H1, I1, q1⟩) I.quiet hs
def tRet (te : TE) : TS := fun D σ H => te σ H D.rt
theorem ps_ret (he : PE X e te) : PS X (.Return (some e) pos) (tRet te) := by
  intro pins s σ H D I h
  exact wpAny_Return_some (thn (he pins s σ H _ I h) fun v s1 ⟨x, H1, I1, r1, q1⟩ => ⟨x, σ, H1, I1, r1, q1⟩)
def tIfS (c : TT) (t u : TS) : TS := fun D σ H => c σ H fun b H1 => if b = true then t D σ H1 else u D σ H1
theorem ps_if {c : Expr} {a b : List Stmt} {tc : TT} (hc : PT X c tc) (ha : PSs X a t) (hb : PSs X b u) : PS X (.If c a b pos) (tIfS tc t u) := by
  intro pins s σ H D I h
  refine wpAny_If (thn (hc pins s σ H _ I h) fun d s1 ⟨H1, I1, q1⟩ => ?_)
  cases d with
  | true => exact ha pins s1 σ H1 D I1 q1
  | false => exact hb pins s1 σ H1 D I1 q1
end

/-! ### targets -/
abbrev TG := V → St → Hp → (St → Hp → Prop) → Prop
abbrev TGs := List V → St → Hp → (St → Hp → Prop) → Prop
def PG (X : Cx) (target : Expr) (t : TG) : Prop :=
  ∀ (pins : List (Addr × Obj)) (s : Shared) (σ : St) (H : Hp) (v : V) (u : Value) (Q : St → Hp → Prop), Inv X pins σ H s → RelV v u → t v σ H Q →
    wpAny (model X.prog X.w) X.A (assign target X.env u) (fun _ s' => ∃ σ' H', Inv X pins σ' H' s' ∧ Q σ' H') X.xe s
/-- several targets, one after another -/
def PGs (X : Cx) (ts : List Expr) (t : TGs) : Prop :=
  ∀ (pins : List (Addr × Obj)) (s : Shared) (σ : St) (H : Hp) (vs : List V) (us : List Value) (Q : St → Hp → Prop), Inv X pins σ H s → Vals vs us → t vs σ H Q →
    wpAny (model X.prog X.w) X.A (assignInOrder ((assignEach ts X.env).map (·.2)) us) (fun _ s' => ∃ σ' H', Inv X pins σ' H' s' ∧ Q σ' H') X.xe s
section
variable {X : Cx} {pos : Pos}
def gName (i : Nat) : TG := fun v σ H Q => Q (σ.set i (some v)) H
theorem pg_name {i : Nat} {x : Str} (hN : X.N.Nodup) (hi : X.N[i]? = some x) (hx : Loc X.env.scope x) (hf : X.fn x = true ∨ X.env.scope.names.lookup x = some .local := by first | exact .inl rfl | exact .inr rfl | assumption) : PG X (.Name x pos) (gName i) := by
  intro pins s σ H v u Q I r h
  exact wpAny_assign_Name (store_ok I hN hi hx r (fun s' I' => ⟨_, H, I', h⟩) hf)
def gNil : TGs := fun vs σ H Q => vs = [] ∧ Q σ H
def gCons (t : TG) (u : TGs) : TGs := fun vs σ H Q => ∃ v r, vs = v :: r ∧ t v σ H fun σ' H' => u r σ' H' Q
theorem pgs_nil : PGs X [] gNil := by
  intro pins s σ H vs us Q I r h
  obtain ⟨e, h⟩ := h
  subst e
  cases r
  exact assignInOrder_nil ⟨σ, H, I, h⟩
theorem pgs_cons {e : Expr} {es : List Expr} {t : TG} {u : TGs} (h1 : PG X e t) (h2 : PGs X es u)
    (hs : (assignEach (e :: es) X.env).map (·.2) = assign e X.env :: (assignEach es X.env).map (·.2) := by rfl) : PGs X (e :: es) (gCons t u) := by
  intro pins s σ H vs us Q I r h
  obtain ⟨v, vr, e1, h⟩ := h
  subst e1
  cases r with
  | cons r rr =>
    rw [hs]
    refine assignInOrder_cons (thn (h1 pins s σ H _ _ _ I r h) fun _ s1 ⟨σ1, H1, I1, q1⟩ => ?_)
    exact h2 pins s1 σ1 H1 _ _ Q I1 rr q1
/-- (a, b, ..) = a tuple of that length -/
def gTup (K : PySem.W.Frag) (n : Nat) (t : TGs) : TG := fun v σ H Q => ∃ a xs, v = .ref a ∧ SqT K H a xs ∧ xs.length = n ∧ t xs σ H Q
theorem pg_tup {es : List Expr} {k : Nat} {t : TGs} {n : Nat} (hc : X.calm = true) (h : PGs X es t)
    (hn : (assignEach es X.env).length = n := by rfl) (hst : (assignEach es X.env).findIdx? (·.1) = none := by rfl) : PG X (.Tuple es k pos) (gTup X.K n t) := by
  intro pins s σ H v u Q I r hw
  obtain ⟨a, xs, e1, hq, hl, hw⟩ := hw
  subst e1
  cases r
  obtain ⟨its, rv, ht, hz⟩ := I.tuple hq
  refine assign_Tuple_tuple (I.ok.hd hc) ht (by simp [hn, ← hl, rv.length]) hst fun h' hx => ?_
  have I1 : Inv X pins σ H { s with heap := h' } := I.kept (t' := s.toks) fun b o e => hx b o (Nat.ne_of_lt (Heap.lt_size e)) e
  exact h pins _ σ H xs _ Q I1 (by simpa using rv) hw
/-- target = value -/
def tAsg (te : TE) (g : TG) : TS := fun D σ H => te σ H fun x H1 => g x σ H1 D.nx
/-- name = value -/
theorem ps_set {i : Nat} {x : Str} {e : Expr} {te : TE} {pos' : Pos} (hN : X.N.Nodup) (hi : X.N[i]? = some x) (hx : Loc X.env.scope x) (he : PE X e te) (hs : swapsWith e (some (.Name x pos')) pos.line X.env = pure false := by rfl) (hf : X.fn x = true ∨ X.env.scope.names.lookup x = some .local := by first | exact .inl rfl | exact .inr rfl | assumption) :
    PS X (.Assign [.Name x pos'] e pos) (tAsg te (gName i)) := by
  intro pins s σ H D I h
  refine wpAny_Assign_Name (thn (he pins s σ H _ I h) fun v s1 ⟨y, H1, I1, r1, q1⟩ => ?_) hs
  exact store_ok I1 hN hi hx r1 (fun s2 I2 => ⟨_, H1, I2, q1⟩) hf
end

/-! ### while -/
section
variable {X : Cx} {pos : Pos}
/-- the invariant W with its measure -/
def tWhile (c : TT) (tb : TS) : TS := fun D σ H => ∃ W : Nat → St → Hp → Prop, (∃ m, W m σ H) ∧ ∀ m σ H, W m σ H →
  c σ H fun b H1 => if b = true then ∃ N : St → Hp → Prop, (∀ σ' H', N σ' H' → ∃ m', m' < m ∧ W m' σ' H') ∧ tb { D with nx := N, ct := N, bk := D.nx } σ H1 else D.nx σ H1
theorem ps_while {c : Expr} {body : List Stmt} {tc : TT} {tb : TS} (hp : PassesOwn (model X.prog X.w) X.A X.env X.xe) (hc : PT X c tc) (hb : PSs X body tb) : PS X (.While c body [] pos) (tWhile tc tb) := by
  intro pins s σ H D I h
  obtain ⟨W, ⟨m0, w0⟩, turn⟩ := h
  refine wpAny_While (codeAny_whileLoop (fun n s' => ∃ σ' H', Inv X pins σ' H' s' ∧ W n σ' H') ?_ m0 ⟨σ, H, I, w0⟩)
  rintro n s1 ⟨σ1, H1, I1, w1⟩
  refine wpAny_passesOwn hp (thn (hc pins s1 σ1 H1 _ I1 (turn n σ1 H1 w1)) fun b s2 ⟨H2, I2, q2⟩ => ?_)
  cases b with
  | true =>
    obtain ⟨N, hN, q2⟩ := q2
    rw [if_pos rfl]
    refine wpAny_passesOwn hp (thn (hb pins s2 σ1 H2 _ I2 q2) fun f s3 q3 => ?_)
    cases f with
    | next =>
      obtain ⟨σ3, H3, I3, n3⟩ := q3
      obtain ⟨m', hm, w3⟩ := hN σ3 H3 n3
      exact ⟨m', hm, σ3, H3, I3, w3⟩
    | cont =>
      obtain ⟨σ3, H3, I3, n3⟩ := q3
      obtain ⟨m', hm, w3⟩ := hN σ3 H3 n3
      exact ⟨m', hm, σ3, H3, I3, w3⟩
    | brk => exact q3
    | ret v => exact q3
  | false =>
    rw [if_neg Bool.false_ne_true]
    exact wpAny_execs_nil ⟨σ1, H2, I2, q2⟩
end

/-! ### what a loop or a comprehension walks -/
/-- at turn i: it yields x (the heap may grow), or it stops -/
structure It where
  go : Nat → Hp → Prop
  yld : Nat → Hp → V → Hp → Prop
  stop : Nat → Hp → Prop
/-- the iterator's own objects may turn: they are not the frame's, not pinned, younger than the entry (or a comprehension's own) -/
def FpOk (X : Cx) (pins : List (Addr × Obj)) (H : Hp) (b : Addr) : Prop :=
  H b = none ∧ b ≠ X.env.locals ∧ b ∉ X.fs ∧ (b ∈ X.ex ∨ X.s_0.heap.objs.size ≤ b) ∧ (∀ x c, X.env.cells.lookup x = some c → c ≠ b) ∧ ∀ p ∈ X.pn ++ pins, p.1 ≠ b
theorem Inv.fpOk {X : Cx} {pins : List (Addr × Obj)} {σ : St} {H H' : Hp} {s : Shared} {b : Addr} (I : Inv X pins σ H s) (hb : s.heap.objs.size ≤ b) (hn : H' b = none) : FpOk X pins H' b := by
  refine ⟨hn, Nat.ne_of_gt (Nat.lt_of_lt_of_le I.lt hb), I.nofs hb, .inr (Nat.le_trans I.sz hb), fun x c e z => ?_, fun p hp z => ?_⟩
  · obtain ⟨v, q⟩ := I.cell x c e
    exact absurd (Nat.lt_of_lt_of_le q.lt (by rw [z]; exact hb)) (Nat.lt_irrefl _)
  · exact absurd (Nat.lt_of_lt_of_le (Heap.lt_size (I.pin p hp).1) (by rw [z]; exact hb)) (Nat.lt_irrefl _)
structure Turn (P : Program) (w : World) (K : PySem.W.Frag) (tg : Expr) (J : It) (fp : List Addr) (it : Addr) (tn : Nat → Heap → Prop) : Prop where
  mem : it ∈ fp
  obj : ∀ i h, tn i h → ∀ b ∈ fp, ∃ o, h.get? b = some o ∧ ∀ v, o.data ≠ .cell v
  keep : ∀ i h h', tn i h → (∀ b ∈ fp, ∀ o, h.get? b = some o → h'.get? b = some o) → tn i h'
  item : ∀ (X : Cx), X.prog = P → X.w = w → X.K = K → X.calm = true → ∀ (i : Nat) (pins : List (Addr × Obj)) (s : Shared) (σ : St) (H : Hp) (E : Value → Shared → Prop), Inv X pins σ H s → (∀ b ∈ fp, FpOk X pins H b) → tn i s.heap → J.go i H →
    wpAny (model P w) X.A (pyNext (.ref it)) (fun r s1 => ∃ u, r = some u ∧
      wpAny (model P w) X.A (letOwnedTupleGo tg (.ref it) u) (fun _ s2 => ∃ x H', Inv X pins σ H' s2 ∧ RelV x u ∧ J.yld i H x H' ∧ tn (i + 1) s2.heap ∧ ∀ b ∈ fp, H' b = none) E s1) E s
  done : ∀ (X : Cx), X.prog = P → X.w = w → X.K = K → X.calm = true → ∀ (i : Nat) (pins : List (Addr × Obj)) (s : Shared) (σ : St) (H : Hp) (E : Value → Shared → Prop), Inv X pins σ H s → (∀ b ∈ fp, FpOk X pins H b) → tn i s.heap → J.stop i H →
    wpAny (model P w) X.A (pyNext (.ref it)) (fun r s1 => r = none ∧ Inv X pins σ H s1) E s
  self : ∀ (A : Around) (i : Nat) (s : Shared) (Q : Value → Shared → Prop) (E : Value → Shared → Prop), tn i s.heap → Q (.ref it) s → wpAny (model P w) A (pyIter (.ref it)) Q E s
abbrev TI := St → Hp → (It → Hp → Prop) → Prop
/-- an iterator has come -/
def PIE (X : Cx) (pins : List (Addr × Obj)) (σ : St) (tg : Expr) (R : It → Hp → Prop) (itv : Value) (s2 : Shared) : Prop :=
  ∃ (it : Addr) (fp : List Addr) (tn : Nat → Heap → Prop) (J : It) (H' : Hp), itv = .ref it ∧ Inv X pins σ H' s2 ∧ Turn X.prog X.w X.K tg J fp it tn ∧ tn 0 s2.heap ∧ (∀ b ∈ fp, FpOk X pins H' b) ∧ R J H'
def PI (X : Cx) (tg iter : Expr) (wi : TI) : Prop :=
  ∀ (pins : List (Addr × Obj)) (s : Shared) (σ : St) (H : Hp) (R : It → Hp → Prop), Inv X pins σ H s → wi σ H R →
    wpAny (model X.prog X.w) X.A (eval iter X.env) (fun v s1 => wpAny (model X.prog X.w) X.A (pyIter v) (PIE X pins σ tg R) X.xe s1) X.xe s

/-- the step ahead of the store is nothing for an iterator that keeps no tuple -/
theorem go_of {M : Model} {A : Around} {E : Value → Shared → Prop} {s : Shared} {tg : Expr} {it : Addr} {u : Value} {o : Obj} {n : String} {vs : Array Value} {Q : Unit → Shared → Prop} (ho : s.heap.get? it = some o) (hc : o.cls = .type n) (hd : o.data = .fields vs)
    (hn : ["enumerate", "zip", "dict_itemiterator", "dict_reverseitemiterator", "odict_iterator", "itertools.zip_longest", "itertools.pairwise"].contains n = false) (hQ : Q () s) : wpAny M A (letOwnedTupleGo tg (.ref it) u) Q E s := by
  unfold letOwnedTupleGo
  cases tg <;> first
    | exact wpAny_pure hQ
    | (cases u <;> first
        | exact wpAny_pure hQ
        | (refine wpAny_bind (wpAny_load ho ?_)
           rw [hc, hd]
           show wpAny M A (if (["enumerate", "zip", "dict_itemiterator", "dict_reverseitemiterator", "odict_iterator", "itertools.zip_longest", "itertools.pairwise"].contains n && vs[0]? == some (rawInt _)) = true then _ else _) Q E s
           rw [if_neg (by intro h; rw [hn, Bool.false_and] at h; cases h)]
           exact wpAny_pure hQ))

/-- the list at a, as it stands at each turn (a loop may append to it) -/
def Itl (K : PySem.W.Frag) (a : Addr) : It :=
  ⟨fun i H => ∃ xs x, SqL K H a xs ∧ xs[i]? = some x, fun i H x H' => H' = H ∧ ∀ xs, SqL K H a xs → xs[i]? = some x, fun i H => ∃ xs, SqL K H a xs ∧ xs.length ≤ i⟩
def Itt (K : PySem.W.Frag) (a : Addr) : It :=
  ⟨fun i H => ∃ xs x, SqT K H a xs ∧ xs[i]? = some x, fun i H x H' => H' = H ∧ ∀ xs, SqT K H a xs → xs[i]? = some x, fun i H => ∃ xs, SqT K H a xs ∧ xs.length ≤ i⟩
/-- lo, lo + 1, .. (n of them) -/
def Itr (lo : Int) (n : Nat) : It := ⟨fun i _ => i < n, fun i H x H' => H' = H ∧ x = .int (lo + i), fun i _ => n ≤ i⟩
theorem turn_list {P : Program} {w : World} {K : PySem.W.Frag} {tg : Expr} (a it : Addr) : Turn P w K tg (Itl K a) [it] it (fun i h => h.IsListIter it a i) where
  mem := by simp
  obj := fun i h st b hb => by
    have e : b = it := by simpa using hb
    subst e
    obtain ⟨o, e, c, d⟩ := st
    exact ⟨o, e, fun v z => by rw [d] at z; cases z⟩
  keep := fun i h h' st k => st.at fun o e => k it (by simp) o e
  item := by
    intro X hP hw hK hc i pins s σ H E I hf st hg
    subst hP hw hK
    obtain ⟨xs, x, hq, hx⟩ := hg
    obtain ⟨its, rv, p, hz⟩ := I.list hq
    obtain ⟨u, hu, ru⟩ := rv.get hx
    obtain ⟨f0, f1, f2, f3, f4, f5⟩ := hf it (by simp)
    refine wpAny_pyNext_list_item st p.isList (x := u) (by simpa using hu) fun h' st' sb => ?_
    have I1 : Inv X pins σ H { s with heap := h' } := I.turned (t' := s.toks) (fun b o hb e => (sb.2 b hb).trans e) f0 f1 f3 f4 f5
    obtain ⟨o, e, c, d⟩ := id st'
    exact ⟨u, rfl, go_of (s := { s with heap := h' }) e c d (by decide) ⟨x, H, I1, ru, ⟨rfl, fun ys hy => by rw [I.list_inj hy hq]; exact hx⟩, st', fun b hb => (hf b hb).1⟩⟩
  done := by
    intro X hP hw hK hc i pins s σ H E I hf st hg
    subst hP hw hK
    obtain ⟨xs, hq, hx⟩ := hg
    obtain ⟨its, rv, p, hz⟩ := I.list hq
    obtain ⟨f0, f1, f2, f3, f4, f5⟩ := hf it (by simp)
    have hl := rv.length
    exact wpAny_pyNext_list_end (I.ok.hd hc) st p.isList (by simp; omega) fun h' eb => ⟨rfl, I.turned (t' := s.toks) (fun b o hb e => eb b o hb e) f0 f1 f3 f4 f5⟩
  self := fun _ _ _ _ _ st h => wpAny_pyIter_listiter st h
theorem turn_tuple {P : Program} {w : World} {K : PySem.W.Frag} {tg : Expr} (a it : Addr) : Turn P w K tg (Itt K a) [it] it (fun i h => h.IsTupleIter it a i) where
  mem := by simp
  obj := fun i h st b hb => by
    have e : b = it := by simpa using hb
    subst e
    obtain ⟨o, e, c, d⟩ := st
    exact ⟨o, e, fun v z => by rw [d] at z; cases z⟩
  keep := fun i h h' st k => st.at fun o e => k it (by simp) o e
  item := by
    intro X hP hw hK hc i pins s σ H E I hf st hg
    subst hP hw hK
    obtain ⟨xs, x, hq, hx⟩ := hg
    obtain ⟨its, rv, p, hz⟩ := I.tuple hq
    obtain ⟨u, hu, ru⟩ := rv.get hx
    obtain ⟨f0, f1, f2, f3, f4, f5⟩ := hf it (by simp)
    refine wpAny_pyNext_tuple_item st (show s.heap.IsTuple a its.toArray from p) (x := u) (by simpa using hu) fun h' st' sb => ?_
    have I1 : Inv X pins σ H { s with heap := h' } := I.turned (t' := s.toks) (fun b o hb e => (sb.2 b hb).trans e) f0 f1 f3 f4 f5
    obtain ⟨o, e, c, d⟩ := id st'
    exact ⟨u, rfl, go_of (s := { s with heap := h' }) e c d (by decide) ⟨x, H, I1, ru, ⟨rfl, fun ys hy => by rw [I.tuple_inj hy hq]; exact hx⟩, st', fun b hb => (hf b hb).1⟩⟩
  done := by
    intro X hP hw hK hc i pins s σ H E I hf st hg
    subst hP hw hK
    obtain ⟨xs, hq, hx⟩ := hg
    obtain ⟨its, rv, p, hz⟩ := I.tuple hq
    obtain ⟨f0, f1, f2, f3, f4, f5⟩ := hf it (by simp)
    have hl := rv.length
    exact wpAny_pyNext_tuple_end (I.ok.hd hc) st (show s.heap.IsTuple a its.toArray from p) (by simp; omega) fun h' eb => ⟨rfl, I.turned (t' := s.toks) (fun b o hb e => eb b o hb e) f0 f1 f3 f4 f5⟩
  self := fun _ _ _ _ _ st h => wpAny_pyIter_tupleiter st h
theorem turn_range {P : Program} {w : World} {K : PySem.W.Frag} {tg : Expr} (it : Addr) (lo : Int) (n : Nat) : Turn P w K tg (Itr lo n) [it] it (fun i h => IsRangeIter h it (lo + (i : Nat) * 1) ((n : Int) - (i : Nat)) 1) where
  mem := by simp
  obj := fun i h st b hb => by
    have e : b = it := by simpa using hb
    subst e
    exact ⟨_, st, fun v z => by
      have z' : Data.fields _ = Data.cell v := z
      cases z'⟩
  keep := fun i h h' st k => k it (by simp) _ st
  item := by
    intro X hP hw hK hc i pins s σ H E I hf st hg
    subst hP hw hK
    obtain ⟨f0, f1, f2, f3, f4, f5⟩ := hf it (by simp)
    have W := Walks.range (prog := X.prog) (w := X.w) (I.ok.hd hc) it lo 1 n
    refine W.item i s _ _ hg st fun v h' tk hv st' kk => ?_
    obtain ⟨t, rfl⟩ := hv
    have I1 : Inv X pins σ H { s with heap := h', toks := tk } := I.turned (fun b o hb e => kk b o (by simpa using hb) e) f0 f1 f3 f4 f5
    refine ⟨_, rfl, go_of (s := { s with heap := h', toks := tk }) (n := "range_iterator") st' rfl rfl (by decide) ⟨.int (lo + i), H, I1, ⟨t, ?_⟩, ⟨rfl, rfl⟩, st', fun b hb => (hf b hb).1⟩⟩
    rw [Int.mul_one]
  done := by
    intro X hP hw hK hc i pins s σ H E I hf st hg
    subst hP hw hK
    obtain ⟨f0, f1, f2, f3, f4, f5⟩ := hf it (by simp)
    exact wpAny_pyNext_range_end (I.ok.hd hc) st (by have : n ≤ i := hg; omega) fun h' eb => ⟨rfl, I.turned (t' := s.toks) (fun b o hb e => eb b o hb e) f0 f1 f3 f4 f5⟩
  self := fun _ _ _ _ _ st h => wpAny_pyIter_rangeiter st h
end L2

namespace L2
open PySem PySem.Spec PyProof.Rows
section
variable {X : Cx} {tg : Expr}
def iList (K : PySem.W.Frag) (tl : TE) : TI := fun σ H R => tl σ H fun x H1 => ∃ a, x = .ref a ∧ (∃ xs, SqL K H1 a xs) ∧ R (Itl K a) H1
def iTup (K : PySem.W.Frag) (tl : TE) : TI := fun σ H R => tl σ H fun x H1 => ∃ a, x = .ref a ∧ (∃ xs, SqT K H1 a xs) ∧ R (Itt K a) H1
theorem pi_list {l : Expr} {tl : TE} (hl : PE X l tl) : PI X tg l (iList X.K tl) := by
  intro pins s σ H R I h
  refine thn (hl pins s σ H _ I h) fun v s1 ⟨x, H1, I1, r1, q1⟩ => ?_
  obtain ⟨a, e, ⟨xs, hq⟩, q⟩ := q1
  subst e
  cases r1
  obtain ⟨its, rv, p, hz⟩ := I1.list hq
  refine wpAny_pyIter_list p.isList ?_
  refine ⟨s1.heap.objs.size, [s1.heap.objs.size], _, _, H1, rfl, I1.kept (t' := s1.toks) fun b o e => Heap.get?_push_of_some _ e, turn_list a _, ⟨_, Heap.get?_push_size _ rfl, rfl, rfl⟩, fun b hb => ?_, q⟩
  have e : b = s1.heap.objs.size := by simpa using hb
  subst e
  exact I1.fpOk (Nat.le_refl _) (I1.hok.fresh (Nat.le_refl _))
theorem pi_tup {l : Expr} {tl : TE} (hl : PE X l tl) : PI X tg l (iTup X.K tl) := by
  intro pins s σ H R I h
  refine thn (hl pins s σ H _ I h) fun v s1 ⟨x, H1, I1, r1, q1⟩ => ?_
  obtain ⟨a, e, ⟨xs, hq⟩, q⟩ := q1
  subst e
  cases r1
  obtain ⟨its, rv, p, hz⟩ := I1.tuple hq
  refine wpAny_pyIter_tuple (show s1.heap.IsTuple a its.toArray from p) ?_
  refine ⟨s1.heap.objs.size, [s1.heap.objs.size], _, _, H1, rfl, I1.kept (t' := s1.toks) fun b o e => Heap.get?_push_of_some _ e, turn_tuple a _, ⟨_, Heap.get?_push_size _ rfl, rfl, rfl⟩, fun b hb => ?_, q⟩
  have e : b = s1.heap.objs.size := by simpa using hb
  subst e
  exact I1.fpOk (Nat.le_refl _) (I1.hok.fresh (Nat.le_refl _))
/-- a range object just made, walked -/
theorem range_it {pins : List (Addr × Obj)} {σ : St} {H : Hp} {s : Shared} {R : It → Hp → Prop} {E : Value → Shared → Prop} {lo hi : Int} {t u v : Tok} {tk : Nat} (I : Inv X pins σ H s) (h1 : -(2 ^ 62) ≤ lo) (h2 : lo < 2 ^ 62) (h3 : -(2 ^ 62) ≤ hi) (h4 : hi < 2 ^ 62)
    (q : R (Itr lo (hi - lo).toNat) H) : wpAny (model X.prog X.w) X.A (pyIter (.ref s.heap.objs.size)) (PIE X pins σ tg R) E { s with heap := s.heap.push { cls := .type "range", data := .fields #[.int lo t, .int hi u, .int 1 v] }, toks := tk } := by
  refine wpAny_pyIter_range (IsRange.new ..) (small_one h1 h2 h3 h4) ?_
  have I1 : Inv X pins σ H { s with heap := s.heap.push { cls := .type "range", data := .fields #[.int lo t, .int hi u, .int 1 v] }, toks := tk } := I.kept fun b o e => Heap.get?_push_of_some _ e
  refine ⟨(s.heap.push { cls := .type "range", data := .fields #[.int lo t, .int hi u, .int 1 v] }).objs.size, [(s.heap.push { cls := .type "range", data := .fields #[.int lo t, .int hi u, .int 1 v] }).objs.size], _, _, H, rfl,
    I1.kept (t' := tk) fun b o e => Heap.get?_push_of_some _ e, turn_range _ lo (hi - lo).toNat, ?_, fun b hb => ?_, q⟩
  · have e1 : lo + ((0 : Nat) : Int) * 1 = lo := by simp
    have e2 : (((hi - lo).toNat : Nat) : Int) - ((0 : Nat) : Int) = Builtin.Range.rangeSize lo hi 1 := by rw [rangeSize_one]; split <;> omega
    show IsRangeIter _ _ (lo + ((0 : Nat) : Int) * 1) ((((hi - lo).toNat : Nat) : Int) - ((0 : Nat) : Int)) 1
    rw [e1, e2]
    exact Heap.get?_push_size _ rfl
  · have e : b = (s.heap.push { cls := .type "range", data := .fields #[.int lo t, .int hi u, .int 1 v] }).objs.size := by simpa using hb
    subst e
    exact I1.fpOk (Nat.le_refl _) (I1.hok.fresh (Nat.le_refl _))
def iRng1 (ta : TA) : TI := fun σ H R => ta σ H fun vs H1 => ∃ j : Int, vs = [.int j] ∧ -(2 ^ 62) ≤ j ∧ j < 2 ^ 62 ∧ R (Itr 0 j.toNat) H1
def iRng2 (ta : TA) : TI := fun σ H R => ta σ H fun vs H1 => ∃ i j : Int, vs = [.int i, .int j] ∧ (-(2 ^ 62) ≤ i ∧ i < 2 ^ 62 ∧ -(2 ^ 62) ≤ j ∧ j < 2 ^ 62) ∧ R (Itr i (j - i).toNat) H1
theorem pi_range1 {a : Expr} {ta : TA} {p pos : Pos} (hg : Gl X "range") (hm : X.mg "range" = none) (ha : PA X [a] ta) (hs : starEach [a] X.env = [(false, eval a X.env)] := by rfl) : PI X tg (.Call (.Name "range" p) [a] [] pos) (iRng1 ta) := by
  intro pins s σ H R I h
  refine Call_ (ld_blt I hg hm boot_range (PyProof.Rows.callWith_type1 (thn (ha pos pins s σ H _ I h) fun us s1 ⟨vs, H1, I1, r1, q1⟩ => ?_) hs rfl))
  obtain ⟨j, e, q1, q2, q⟩ := q1
  subst e
  cases r1 with
  | cons r rr =>
    cases rr
    obtain ⟨t, rfl⟩ := r
    exact call_range_1 (range_it I1 (by omega) (by omega) q1 q2 (by simpa using q))
theorem pi_range2 {a b : Expr} {ta : TA} {p pos : Pos} (hg : Gl X "range") (hm : X.mg "range" = none) (ha : PA X [a, b] ta) (hs : starEach [a, b] X.env = [(false, eval a X.env), (false, eval b X.env)] := by rfl) (hs2 : starEach [b] X.env = [(false, eval b X.env)] := by rfl) :
    PI X tg (.Call (.Name "range" p) [a, b] [] pos) (iRng2 ta) := by
  intro pins s σ H R I h
  refine Call_ (ld_blt I hg hm boot_range (PyProof.Rows.callWith_type1 (thn (ha pos pins s σ H _ I h) fun us s1 ⟨vs, H1, I1, r1, q1⟩ => ?_) (by rw [hs, hs2]) (by rw [hs2]; rfl)))
  obtain ⟨i, j, e, ⟨q1, q2, q3, q4⟩, q⟩ := q1
  subst e
  cases r1 with
  | cons r rr =>
    cases rr with
    | cons r' rr =>
      cases rr
      obtain ⟨t, rfl⟩ := r
      obtain ⟨t', rfl⟩ := r'
      exact call_range_2 (range_it I1 q1 q2 q3 q4 q)

/-! ### for -/
/-- W: the invariant by the turn and a measure; N: what the body is to reach -/
def tFor (wi : TI) (g : TG) (tb : TS) : TS := fun D σ H => wi σ H fun J H1 => ∃ W : Nat → Nat → St → Hp → Prop, (∃ m, W 0 m σ H1) ∧ ∀ i m σ H, W i m σ H →
  (J.stop i H ∧ D.nx σ H) ∨ (J.go i H ∧ ∃ N : St → Hp → Prop, (∀ σ' H', N σ' H' → ∃ m', m' < m ∧ W (i + 1) m' σ' H') ∧ ∀ x H', J.yld i H x H' → g x σ H' fun σ2 H2 => tb { D with nx := N, ct := N, bk := D.nx } σ2 H2)
/-- the records at fp as they stand -/
def pinsAt (fp : List Addr) (h : Heap) : List (Addr × Obj) := fp.filterMap fun b => (h.get? b).map fun o => (b, o)
theorem mem_pinsAt {fp : List Addr} {h : Heap} {b : Addr} {o : Obj} (hb : b ∈ fp) (e : h.get? b = some o) : (b, o) ∈ pinsAt fp h := List.mem_filterMap.mpr ⟨b, hb, by rw [e]; rfl⟩
theorem of_pinsAt {fp : List Addr} {h : Heap} {p : Addr × Obj} (hp : p ∈ pinsAt fp h) : p.1 ∈ fp ∧ h.get? p.1 = some p.2 := by
  obtain ⟨b, hb, e⟩ := List.mem_filterMap.mp hp
  cases q : h.get? b with
  | none => rw [q] at e; cases e
  | some o =>
    rw [q] at e
    have e' : (b, o) = p := Option.some.inj e
    subst e'
    exact ⟨hb, q⟩
theorem Inv.pinned {pins : List (Addr × Obj)} {σ : St} {H : Hp} {s : Shared} {fp : List Addr} (I : Inv X pins σ H s) (hf : ∀ b ∈ fp, FpOk X pins H b) (ho : ∀ b ∈ fp, ∃ o, s.heap.get? b = some o ∧ ∀ v, o.data ≠ .cell v) : Inv X (pins ++ pinsAt fp s.heap) σ H s :=
  I.pins_of fun p hp => (List.mem_append.mp hp).elim (fun z => I.pin p (List.mem_append_right _ z)) fun z => by
    obtain ⟨hb, e⟩ := of_pinsAt z
    obtain ⟨f0, f1, f2, _⟩ := hf p.1 hb
    obtain ⟨o, e', d⟩ := ho p.1 hb
    rw [e] at e'; cases e'
    exact ⟨e, f0, f1, f2, d⟩
theorem Inv.unpinned {pins pl : List (Addr × Obj)} {σ : St} {H : Hp} {s : Shared} (I : Inv X (pins ++ pl) σ H s) : Inv X pins σ H s := I.pins_of fun p hp => I.pin p (List.mem_append_right _ (List.mem_append_left _ hp))
theorem ps_for {iter : Expr} {body : List Stmt} {wi : TI} {g : TG} {tb : TS} {pos : Pos} (hp : PassesOwn (model X.prog X.w) X.A X.env X.xe) (hc : X.calm = true) (hi : PI X tg iter wi) (hg : PG X tg g) (hb : PSs X body tb)
    (hs : ∀ x, foldedSetIterable iter X.env x = pure x := by intro _; rfl) : PS X (.For tg iter body [] pos) (tFor wi g tb) := by
  intro pins s σ H D I h
  refine wpAny_For (thn (hi pins s σ H _ I h) fun v s1 h1 => thn h1 fun itv s2 h2 => ?_) hs
  obtain ⟨it, fp, tn, J, H2, e, I2, T, st2, f2, W, ⟨m0, w0⟩, turn⟩ := h2
  subst e
  -- what stays true of the iterator's objects through the loop
  have stat : ∀ {H' : Hp}, (∀ b ∈ fp, H' b = none) → ∀ b ∈ fp, FpOk X pins H' b := fun hn b hb => ⟨hn b hb, (f2 b hb).2⟩
  refine codeAny_forLoop_any (fun n s' => ∃ i σ' H', Inv X pins σ' H' s' ∧ tn i s'.heap ∧ (∀ b ∈ fp, H' b = none) ∧ W i n σ' H') ?_ m0 ⟨0, σ, H2, I2, st2, fun b hb => (f2 b hb).1, w0⟩
  rintro n s3 ⟨i, σ3, H3, I3, st3, fr3, w3⟩
  rcases turn i n σ3 H3 w3 with ⟨stop, qn⟩ | ⟨go, N, hN, step⟩
  · refine wpAny_passesOwn hp (thn (T.done X rfl rfl rfl hc i pins s3 σ3 H3 X.xe I3 (stat fr3) st3 stop) fun r s4 ⟨hr, I4⟩ => ?_)
    subst hr
    exact wpAny_execs_nil ⟨σ3, H3, I4, qn⟩
  · refine wpAny_passesOwn hp (thn (T.item X rfl rfl rfl hc i pins s3 σ3 H3 X.xe I3 (stat fr3) st3 go) fun r s4 ⟨u, hr, h4⟩ => ?_)
    subst hr
    refine wpAny_passesOwn hp (thn h4 fun _ s5 ⟨x, H5, I5, r5, y5, st5, fr5⟩ => ?_)
    have I5' := I5.pinned (stat fr5) (T.obj _ _ st5)
    refine wpAny_passesOwn hp (thn (hg _ s5 σ3 H5 x u _ I5' r5 (step x H5 y5)) fun _ s6 ⟨σ6, H6, I6, q6⟩ => ?_)
    refine wpAny_passesOwn hp (thn (hb _ s6 σ6 H6 _ I6 q6) fun f s7 q7 => ?_)
    have again : ∀ {σ7 : St} {H7 : Hp}, Inv X (pins ++ pinsAt fp s5.heap) σ7 H7 s7 → N σ7 H7 → ∃ m, m < n ∧ ∃ i σ' H', Inv X pins σ' H' s7 ∧ tn i s7.heap ∧ (∀ b ∈ fp, H' b = none) ∧ W i m σ' H' := fun {σ7 H7} I7 n7 => by
      obtain ⟨m', hm, w7⟩ := hN σ7 H7 n7
      refine ⟨m', hm, i + 1, σ7, H7, I7.unpinned, T.keep _ _ _ st5 fun b hb o e => (I7.pin (b, o) (List.mem_append_right _ (List.mem_append_right _ (mem_pinsAt hb e)))).1, fun b hb => ?_, w7⟩
      obtain ⟨o, e, d⟩ := T.obj _ _ st5 b hb
      exact (I7.pin (b, o) (List.mem_append_right _ (List.mem_append_right _ (mem_pinsAt hb e)))).2.1
    cases f with
    | next => obtain ⟨σ7, H7, I7, n7⟩ := q7; exact again I7 n7
    | cont => obtain ⟨σ7, H7, I7, n7⟩ := q7; exact again I7 n7
    | brk => obtain ⟨σ7, H7, I7, q7⟩ := q7; exact ⟨σ7, H7, I7.unpinned, q7⟩
    | ret v => obtain ⟨x7, σ7, H7, I7, r7, q7⟩ := q7; exact ⟨x7, σ7, H7, I7.unpinned, r7, q7⟩
end

/-! ### the forms one uses -/
/-- over a list that the body leaves as it is -/
theorem for_list {K : PySem.W.Frag} {a : Addr} {xs : List V} {g : TG} {tb : TS} {D : Ends} {σ : St} {H : Hp} (Pv : Nat → St → Hp → Prop) (h0 : Pv 0 σ H) (hl : ∀ i σ H, i ≤ xs.length → Pv i σ H → SqL K H a xs)
    (hs : ∀ i x σ H, xs[i]? = some x → Pv i σ H → g x σ H fun σ2 H2 => tb { D with nx := Pv (i + 1), ct := Pv (i + 1), bk := D.nx } σ2 H2) (hd : ∀ σ H, Pv xs.length σ H → D.nx σ H) :
    ∃ W : Nat → Nat → St → Hp → Prop, (∃ m, W 0 m σ H) ∧ ∀ i m σ H, W i m σ H →
      ((Itl K a).stop i H ∧ D.nx σ H) ∨ ((Itl K a).go i H ∧ ∃ N : St → Hp → Prop, (∀ σ' H', N σ' H' → ∃ m', m' < m ∧ W (i + 1) m' σ' H') ∧ ∀ x H', (Itl K a).yld i H x H' → g x σ H' fun σ2 H2 => tb { D with nx := N, ct := N, bk := D.nx } σ2 H2) := by
  refine ⟨fun i m σ H => m = xs.length - i ∧ i ≤ xs.length ∧ Pv i σ H, ⟨xs.length, by simp, Nat.zero_le _, h0⟩, ?_⟩
  rintro i m σ H ⟨rfl, hi, p⟩
  have q := hl i σ H hi p
  by_cases hlt : i < xs.length
  · refine .inr ⟨⟨xs, xs[i], q, by simp [hlt]⟩, Pv (i + 1), fun σ' H' p' => ⟨xs.length - (i + 1), by omega, rfl, hlt, p'⟩, fun x H' y => ?_⟩
    obtain ⟨e, y⟩ := y
    subst e
    exact hs i x σ _ (y xs q) p
  · have e : i = xs.length := by omega
    subst e
    exact .inl ⟨⟨xs, q, Nat.le_refl _⟩, hd σ H p⟩
theorem for_range {lo : Int} {n : Nat} {g : TG} {tb : TS} {D : Ends} {σ : St} {H : Hp} (Pv : Nat → St → Hp → Prop) (h0 : Pv 0 σ H)
    (hs : ∀ i σ H, i < n → Pv i σ H → g (.int (lo + i)) σ H fun σ2 H2 => tb { D with nx := Pv (i + 1), ct := Pv (i + 1), bk := D.nx } σ2 H2) (hd : ∀ σ H, Pv n σ H → D.nx σ H) :
    ∃ W : Nat → Nat → St → Hp → Prop, (∃ m, W 0 m σ H) ∧ ∀ i m σ H, W i m σ H →
      ((Itr lo n).stop i H ∧ D.nx σ H) ∨ ((Itr lo n).go i H ∧ ∃ N : St → Hp → Prop, (∀ σ' H', N σ' H' → ∃ m', m' < m ∧ W (i + 1) m' σ' H') ∧ ∀ x H', (Itr lo n).yld i H x H' → g x σ H' fun σ2 H2 => tb { D with nx := N, ct := N, bk := D.nx } σ2 H2) := by
  refine ⟨fun i m σ H => m = n - i ∧ i ≤ n ∧ Pv i σ H, ⟨n, by simp, Nat.zero_le _, h0⟩, ?_⟩
  rintro i m σ H ⟨rfl, hi, p⟩
  by_cases hlt : i < n
  · refine .inr ⟨hlt, Pv (i + 1), fun σ' H' p' => ⟨n - (i + 1), by omega, rfl, hlt, p'⟩, fun x H' y => ?_⟩
    obtain ⟨e, y⟩ := y
    subst e y
    exact hs i σ _ hlt p
  · have e : i = n := by omega
    subst e
    exact .inl ⟨Nat.le_refl _, hd σ H p⟩
end L2

namespace L2
open PySem PySem.Spec PyProof.Rows

abbrev R2 := V → V → Hp → VK → Prop
/-- a two-place operation on values: f is binaryOp op, inplaceOp op or compareOp op -/
def OpR (X : Cx) (f : Value → Value → Sem Value) (r : R2) : Prop :=
  ∀ (pins : List (Addr × Obj)) (s : Shared) (σ : St) (H : Hp) (x y : V) (v u : Value) (Q : VK), Inv X pins σ H s → RelV x v → RelV y u → r x y H Q →
    wpAny (model X.prog X.w) X.A (f v u) (EP X pins σ Q) X.xe s
/-- a one-place operation -/
def UnR (X : Cx) (f : Value → Sem Value) (r : V → Hp → VK → Prop) : Prop :=
  ∀ (pins : List (Addr × Obj)) (s : Shared) (σ : St) (H : Hp) (x : V) (v : Value) (Q : VK), Inv X pins σ H s → RelV x v → r x H Q →
    wpAny (model X.prog X.w) X.A (f v) (EP X pins σ Q) X.xe s
/-- a call of a value that is known (a builtin, a type) with values -/
def CallR (X : Cx) (f : Value) (r : List V → Hp → VK → Prop) : Prop :=
  ∀ (pins : List (Addr × Obj)) (s : Shared) (σ : St) (H : Hp) (xs : List V) (us : List Value) (Q : VK), Inv X pins σ H s → Vals xs us → r xs H Q →
    wpAny (model X.prog X.w) X.A (call f us) (EP X pins σ Q) X.xe s

def tOp (r : R2) (ta tb : TE) : TE := fun σ H Q => ta σ H fun x H1 => tb σ H1 fun y H2 => r x y H2 Q
def tUn (r : V → Hp → VK → Prop) (ta : TE) : TE := fun σ H Q => ta σ H fun x H1 => r x H1 Q
/-- ints in, under C, and a value out -/
def rI (C : Int → Int → Prop) (g : Int → Int → V) : R2 := fun x y H Q => ∃ i j, x = .int i ∧ y = .int j ∧ C i j ∧ Q (g i j) H
def rI0 (g : Int → Int → V) : R2 := fun x y H Q => ∃ i j, x = .int i ∧ y = .int j ∧ Q (g i j) H
def rU (g : Int → V) : V → Hp → VK → Prop := fun x H Q => ∃ i, x = .int i ∧ Q (g i) H

section
variable {X : Cx} {a b c : Expr} {ta tb tc : TE} {pos : Pos}

theorem binT (ha : PE X a ta) (hb : PE X b tb) {pins : List (Addr × Obj)} {s : Shared} {σ : St} {H : Hp} {R : V → V → Hp → Prop} (I : Inv X pins σ H s)
    (h : ta σ H fun x H1 => tb σ H1 fun y H2 => R x y H2) {Q : Value → Shared → Prop} {f : Value → Value → Sem Value}
    (hf : ∀ v u s2 x y H2, Inv X pins σ H2 s2 → RelV x v → RelV y u → R x y H2 → wpAny (model X.prog X.w) X.A (f v u) Q X.xe s2) :
    wpAny (model X.prog X.w) X.A (eval a X.env) (fun v s₁ => wpAny (model X.prog X.w) X.A (eval b X.env) (fun u s₂ => wpAny (model X.prog X.w) X.A (f v u) Q X.xe s₂) X.xe s₁) X.xe s := by
  refine thn (ha pins s σ H _ I h) fun v s1 ⟨x, H1, I1, r1, q1⟩ => ?_
  refine thn (hb pins s1 σ H1 _ I1 q1) fun u s2 ⟨y, H2, I2, r2, q2⟩ => ?_
  exact hf v u s2 x y H2 I2 r1 r2 q2

theorem pe_op {op : Operator} {r : R2} (ho : OpR X (binaryOp op) r) (ha : PE X a ta) (hb : PE X b tb) : PE X (.BinOp a op b pos) (tOp r ta tb) := by
  intro pins s σ H Q I h
  exact wpAny_BinOp (binT ha hb I h fun v u s2 x y H2 I2 rx ry q => ho pins s2 σ H2 x y v u Q I2 rx ry q)
theorem pe_un {op : UnaryOp} {r : V → Hp → VK → Prop} (ho : UnR X (unaryOp op) r) (ha : PE X a ta) : PE X (.UnaryOp op a pos) (tUn r ta) := by
  intro pins s σ H Q I h
  exact UnaryOp_ (thn (ha pins s σ H _ I h) fun v s1 ⟨x, H1, I1, r1, q1⟩ => ho pins s1 σ H1 x v Q I1 r1 q1)

/-! ### ints -/
theorem opI {f : Value → Value → Sem Value} {C : Int → Int → Prop} {g : Int → Int → Int}
    (rule : ∀ (i j : Int) (t u : Tok) (s : Shared) (Q : Value → Shared → Prop) (E : Value → Shared → Prop), C i j → Q (.int (g i j) s.toks) { s with toks := s.toks + 1 } → wpAny (model X.prog X.w) X.A (f (.int i t) (.int j u)) Q E s) :
    OpR X f (rI C fun i j => .int (g i j)) := by
  intro pins s σ H x y v u Q I rx ry h
  obtain ⟨i, j, rfl, rfl, hc, q⟩ := h
  obtain ⟨t, rfl⟩ := rx
  obtain ⟨t', rfl⟩ := ry
  exact rule i j t t' s _ _ hc ⟨.int (g i j), H, I.tok _, ⟨_, rfl⟩, q⟩
theorem opI0 {f : Value → Value → Sem Value} {g : Int → Int → Int}
    (rule : ∀ (i j : Int) (t u : Tok) (s : Shared) (Q : Value → Shared → Prop) (E : Value → Shared → Prop), Q (.int (g i j) s.toks) { s with toks := s.toks + 1 } → wpAny (model X.prog X.w) X.A (f (.int i t) (.int j u)) Q E s) :
    OpR X f (rI0 fun i j => .int (g i j)) := by
  intro pins s σ H x y v u Q I rx ry h
  obtain ⟨i, j, rfl, rfl, q⟩ := h
  obtain ⟨t, rfl⟩ := rx
  obtain ⟨t', rfl⟩ := ry
  exact rule i j t t' s _ _ ⟨.int (g i j), H, I.tok _, ⟨_, rfl⟩, q⟩
theorem opB0 {f : Value → Value → Sem Value} {g : Int → Int → Bool}
    (rule : ∀ (i j : Int) (t u : Tok) (s : Shared) (Q : Value → Shared → Prop) (E : Value → Shared → Prop), Q (.bool (g i j)) s → wpAny (model X.prog X.w) X.A (f (.int i t) (.int j u)) Q E s) :
    OpR X f (rI0 fun i j => .bl (g i j)) := by
  intro pins s σ H x y v u Q I rx ry h
  obtain ⟨i, j, rfl, rfl, q⟩ := h
  obtain ⟨t, rfl⟩ := rx
  obtain ⟨t', rfl⟩ := ry
  exact rule i j t t' s _ _ ⟨.bl (g i j), H, I, rfl, q⟩

def CDiv (i j : Int) : Prop := 0 < j ∧ j < 1073741824

theorem op_add : OpR X (binaryOp .Add) (rI0 fun i j => .int (i + j)) := opI0 fun _ _ _ _ _ _ _ q => add_int q
theorem op_sub : OpR X (binaryOp .Sub) (rI0 fun i j => .int (i - j)) := opI0 fun _ _ _ _ _ _ _ q => sub_int q
/-- // by a positive divisor -/
theorem op_fdiv : OpR X (binaryOp .FloorDiv) (rI CDiv fun i j => .int (i / j)) := opI fun i j _ _ _ _ _ hc q => by
  have h1 : (0 : Int) < j := hc.1
  have h2 : j < 1073741824 := hc.2
  exact floordiv_int (by omega) (by rw [Int.fdiv_eq_ediv_of_nonneg i (by omega)]; exact q) (.inl (PyProof.noPylong_small (by omega)))

theorem unI {f : Value → Sem Value} {g : Int → Int}
    (rule : ∀ (i : Int) (t : Tok) (s : Shared) (Q : Value → Shared → Prop) (E : Value → Shared → Prop), Q (.int (g i) s.toks) { s with toks := s.toks + 1 } → wpAny (model X.prog X.w) X.A (f (.int i t)) Q E s) :
    UnR X f (rU fun i => .int (g i)) := by
  intro pins s σ H x v Q I rx h
  obtain ⟨i, rfl, q⟩ := h
  obtain ⟨t, rfl⟩ := rx
  exact rule i t s _ _ ⟨.int (g i), H, I.tok _, ⟨_, rfl⟩, q⟩
theorem un_neg : UnR X (unaryOp .USub) (rU fun i => .int (-i)) := unI fun _ _ _ _ _ q => neg_int q

/-! ### bools among ints: n += (a < b) -/
end

/-! ### comparisons -/
/-- the scalars that == tells apart as data does -/
def scal : V → V → Bool
  | .non, .non => true | .non, .int _ => true | .int _, .non => true | .non, .bl _ => true | .bl _, .non => true | .non, .str _ => true | .str _, .non => true
  | .int _, .int _ => true | .bl _, .bl _ => true | .str _, .str _ => true | .byt _, .byt _ => true
  | .int _, .str _ => true | .str _, .int _ => true | .bl _, .str _ => true | .str _, .bl _ => true
  | _, _ => false
def rNe : R2 := fun x y H Q => scal x y = true ∧ Q (.bl (!decide (x = y))) H

theorem dec_int {i j : Int} : decide (V.int i = V.int j) = (i == j) := by
  rw [Bool.eq_iff_iff]
  simp
theorem dec_bl {i j : Bool} : decide (V.bl i = V.bl j) = (i == j) := by
  rw [Bool.eq_iff_iff]
  simp
theorem dec_str {i j : Str} : decide (V.str i = V.str j) = (i == j) := by
  rw [Bool.eq_iff_iff]
  simp
theorem dec_byt {i j : Array UInt8} : decide (V.byt i = V.byt j) = (i.toList == j.toList) := by
  rw [Bool.eq_iff_iff]
  cases i
  cases j
  simp

section
variable {X : Cx} {a b c : Expr} {ta tb tc : TE} {pos : Pos}
theorem fin_bl {pins : List (Addr × Obj)} {σ : St} {H : Hp} {s : Shared} {Q : VK} {k k' : Bool} (I : Inv X pins σ H s) (q : Q (.bl k) H) (e : k = k') : EP X pins σ Q (.bool k') s := by
  subst e
  exact ⟨.bl k, H, I, rfl, q⟩
theorem op_ne : OpR X (compareOp .NotEq) rNe := by
  intro pins s σ H x y v u Q I rx ry h
  obtain ⟨hs, q⟩ := h
  cases x with
  | non =>
    cases rx
    cases y with
    | non => cases ry; exact PySem.EqNone.ne_none_none (fin_bl I q (by simp))
    | bl j => cases ry; exact PySem.EqNone.ne_none_bool (fin_bl I q (by simp))
    | int j => obtain ⟨t', rfl⟩ := ry; exact PySem.EqNone.ne_none_int (fin_bl I q (by simp))
    | str j => obtain ⟨t', rfl⟩ := ry; exact PySem.EqNone.ne_none_str (fin_bl I q (by simp))
    | _ => exact absurd (show false = true from hs) Bool.false_ne_true
  | bl i =>
    cases rx
    cases y with
    | non => cases ry; exact PySem.EqNone.ne_bool_none (fin_bl I q (by simp))
    | bl j => cases ry; exact ne_bool (fin_bl I q (congrArg not dec_bl))
    | str j => obtain ⟨t', rfl⟩ := ry; exact PySem.EqMixed.ne_bool_str (fin_bl I q (by simp))
    | _ => exact absurd (show false = true from hs) Bool.false_ne_true
  | int i =>
    obtain ⟨t, rfl⟩ := rx
    cases y with
    | non => cases ry; exact PySem.EqNone.ne_int_none (fin_bl I q (by simp))
    | int j => obtain ⟨t', rfl⟩ := ry; exact ne_int (fin_bl I q (congrArg not dec_int))
    | str j => obtain ⟨t', rfl⟩ := ry; exact PySem.EqMixed.ne_int_str (fin_bl I q (by simp))
    | _ => exact absurd (show false = true from hs) Bool.false_ne_true
  | str i =>
    obtain ⟨t, rfl⟩ := rx
    cases y with
    | non => cases ry; exact PySem.EqNone.ne_str_none (fin_bl I q (by simp))
    | bl j => cases ry; exact PySem.EqMixed.ne_str_bool (fin_bl I q (by simp))
    | int j => obtain ⟨t', rfl⟩ := ry; exact PySem.EqMixed.ne_str_int (fin_bl I q (by simp))
    | str j => obtain ⟨t', rfl⟩ := ry; exact ne_str (fin_bl I q (congrArg not dec_str))
    | _ => exact absurd (show false = true from hs) Bool.false_ne_true
  | byt i =>
    obtain ⟨t, rfl⟩ := rx
    cases y with
    | byt j => obtain ⟨t', rfl⟩ := ry; exact PySem.W.ne_bytes (fin_bl I q (congrArg not dec_byt))
    | _ => exact absurd (show false = true from hs) Bool.false_ne_true
  | _ => cases y <;> exact absurd (show false = true from hs) Bool.false_ne_true

theorem op_lt : OpR X (compareOp .Lt) (rI0 fun i j => .bl (decide (i < j))) := opB0 fun _ _ _ _ _ _ _ q => lt_int q
theorem op_le : OpR X (compareOp .LtE) (rI0 fun i j => .bl (decide (i ≤ j))) := opB0 fun _ _ _ _ _ _ _ q => le_int q
theorem op_gt : OpR X (compareOp .Gt) (rI0 fun i j => .bl (decide (j < i))) := opB0 fun _ _ _ _ _ _ _ q => gt_int q
theorem op_ge : OpR X (compareOp .GtE) (rI0 fun i j => .bl (decide (j ≤ i))) := opB0 fun _ _ _ _ _ _ _ q => ge_int q

theorem nomark (b : Expr) {op : CmpOp} (h : op ≠ .In := by decide) (h2 : op ≠ .NotIn := by decide) : behindInMarks op b = false := by
  have e1 : (op == CmpOp.In) = false := by cases op <;> first | rfl | exact absurd rfl h
  have e2 : (op == CmpOp.NotIn) = false := by cases op <;> first | rfl | exact absurd rfl h2
  cases b <;> simp [behindInMarks, e1, e2]
/-- a comparison as a value; hm: nomark b, or (for in, not in) by with_unfolding_all rfl -/
theorem pe_cmpR {op : CmpOp} {r : R2} (ho : OpR X (compareOp op) r) (ha : PE X a ta) (hb : PE X b tb) (hm : behindInMarks op b = false) : PE X (.Compare a [op] [b] pos) (tOp r ta tb) := by
  intro pins s σ H Q I h
  exact wpAny_Compare1 (binT ha hb I h fun v u s2 x y H2 I2 rx ry q => ho pins s2 σ H2 x y v u Q I2 rx ry q) hm
/-- a reading of a value as a test -/
def tTest (t : TE) : TT := fun σ H Q => t σ H fun x H' => ∃ k, x = .bl k ∧ Q k H'
theorem pt_cmpR {op : CmpOp} {r : R2} (ho : OpR X (compareOp op) r) (ha : PE X a ta) (hb : PE X b tb) (hm : behindInMarks op b = false) : PT X (.Compare a [op] [b] pos) (tTest (tOp r ta tb)) := by
  intro pins s σ H Q I h
  refine wpAny_isTrue_Compare1 (thn (ha pins s σ H _ I h) fun v s1 ⟨x, H1, I1, r1, q1⟩ => thn (hb pins s1 σ H1 _ I1 q1) fun u s2 ⟨y, H2, I2, r2, q2⟩ =>
    thn (ho pins s2 σ H2 x y v u _ I2 r1 r2 q2) fun c s3 ⟨z, H3, I3, r3, k, e, q3⟩ => ?_) hm
  subst e
  cases r3
  exact wpAny_truthy_bool ⟨H3, I3, q3⟩
/-- a op1 b op2 c -/
def tChain (r r' : R2) (ta tb tc : TE) : TE := fun σ H Q => ta σ H fun x H1 => tb σ H1 fun y H2 => r x y H2 fun z H3 => ∃ k, z = .bl k ∧
  (if k = true then tc σ H3 fun w' H4 => r' y w' H4 Q else Q (.bl false) H3)
theorem pe_chain {op op' : CmpOp} {r r' : R2} (ho : OpR X (compareOp op) r) (ho' : OpR X (compareOp op') r') (ha : PE X a ta) (hb : PE X b tb) (hc : PE X c tc)
    (hm : lastMarks [op, op'] [b, c] = false := by with_unfolding_all rfl) : PE X (.Compare a [op, op'] [b, c] pos) (tChain r r' ta tb tc) := by
  intro pins s σ H Q I h
  refine Compare_chain (thn (ha pins s σ H _ I h) fun v s1 ⟨x, H1, I1, r1, q1⟩ => chain_link (thn (hb pins s1 σ H1 _ I1 q1) fun u s2 ⟨y, H2, I2, r2, q2⟩ =>
    thn (ho pins s2 σ H2 x y v u _ I2 r1 r2 q2) fun d s3 ⟨z, H3, I3, r3, k, e, q3⟩ => ?_)) hm
  subst e
  cases r3
  refine wpAny_truthy_bool ?_
  cases k with
  | false => exact ite_ff ⟨.bl false, H3, I3, rfl, q3⟩
  | true => exact ite_tt (chain_last (thn (hc pins s3 σ H3 _ I3 q3) fun w' s4 ⟨z', H4, I4, r4, q4⟩ => ho' pins s4 σ H4 y z' u w' Q I4 r2 r4 q4))
theorem pt_chain {op op' : CmpOp} {r r' : R2} (ho : OpR X (compareOp op) r) (ho' : OpR X (compareOp op') r') (ha : PE X a ta) (hb : PE X b tb) (hc : PE X c tc)
    (hm : lastMarks [op, op'] [b, c] = false := by with_unfolding_all rfl) : PT X (.Compare a [op, op'] [b, c] pos) (tTest (tChain r r' ta tb tc)) := by
  intro pins s σ H Q I h
  refine isTrue_chain (thn (ha pins s σ H _ I h) fun v s1 ⟨x, H1, I1, r1, q1⟩ => test_link (thn (hb pins s1 σ H1 _ I1 q1) fun u s2 ⟨y, H2, I2, r2, q2⟩ =>
    thn (ho pins s2 σ H2 x y v u _ I2 r1 r2 q2) fun d s3 ⟨z, H3, I3, r3, k, e, q3⟩ => ?_)) hm
  subst e
  cases r3
  refine wpAny_truthy_bool ?_
  cases k with
  | false =>
    obtain ⟨k', e', q'⟩ := q3
    cases e'
    exact ite_ff ⟨H3, I3, q'⟩
  | true =>
    refine ite_tt (test_last (thn (hc pins s3 σ H3 _ I3 q3) fun w' s4 ⟨z', H4, I4, r4, q4⟩ => thn (ho' pins s4 σ H4 y z' u w' _ I4 r2 r4 q4) fun d' s5 ⟨z2, H5, I5, r5, k2, e2, q5⟩ => ?_))
    subst e2
    cases r5
    exact wpAny_truthy_bool ⟨H5, I5, q5⟩

/-! ### truth -/
theorem line63 : (sizeLine : Nat) < 2 ^ 63 := by rw [sizeLine_eq]; decide

/-! ### strs and bytes -/

/-! ### scalar builtins, by CallR -/
theorem vals1 {x : V} {us : List Value} (r : Vals [x] us) : ∃ u, us = [u] ∧ RelV x u := by
  cases r with
  | cons r1 r2 => cases r2; exact ⟨_, rfl, r1⟩
theorem vals2 {x y : V} {us : List Value} (r : Vals [x, y] us) : ∃ u w', us = [u, w'] ∧ RelV x u ∧ RelV y w' := by
  cases r with
  | cons r1 r2 =>
    cases r2 with
    | cons r3 r4 => cases r4; exact ⟨_, _, rfl, r1, r3⟩
theorem call_abs : CallR X (.builtin "abs") (fun xs H Q => ∃ i, xs = [.int i] ∧ Q (.int (if i < 0 then -i else i)) H) := by
  intro pins s σ H xs us Q I r h
  obtain ⟨i, rfl, q⟩ := h
  obtain ⟨u, rfl, t, rfl⟩ := vals1 r
  exact call_abs_int fun u tk => ⟨.int (if i < 0 then -i else i), H, I.tok _, ⟨_, rfl⟩, q⟩
theorem call_min2 (hc : X.calm = true) : CallR X (.builtin "min") (fun xs H Q => ∃ i j, xs = [.int i, .int j] ∧ Q (.int (if j < i then j else i)) H) := by
  intro pins s σ H xs us Q I r h
  obtain ⟨i, j, rfl, q⟩ := h
  obtain ⟨u, w', rfl, ⟨t, rfl⟩, ⟨t', rfl⟩⟩ := vals2 r
  refine min_two_ints (I.ok.hd hc) fun h' tk k => ⟨_, H, I.kept k, ?_, q⟩
  by_cases hj : j < i
  · rw [if_pos hj, if_pos hj]; exact ⟨_, rfl⟩
  · rw [if_neg hj, if_neg hj]; exact ⟨_, rfl⟩
end
end L2

namespace L2
open PySem PySem.Spec PyProof.Rows

/-! ### an instance, its attributes a map -/
structure ObjM (h : Heap) (x dx C : Addr) (mA : Str → Option Value) : Prop where
  obj : h.get? x = some (PySem.W.instObj C dx)
  ns : h.Ns1 dx mA
  ne : dx ≠ x

theorem lookIn_ns {h : Heap} {dx : Addr} {mA : Str → Option Value} (n : h.Ns1 dx mA) : ∃ od, h.get? dx = some od ∧ ∀ name, PySem.W.lookIn name od = some (mA name) := by
  obtain ⟨o, es, ep, ho, hd, hk, _, hm⟩ := n
  refine ⟨o, ho, fun name => ?_⟩
  have e := hm name
  unfold nsFind findBy at e
  rw [← Array.find?_toList] at e
  unfold PySem.W.lookIn
  rw [hd]
  dsimp only
  split
  · rename_i y q
    rw [q] at e
    exact congrArg some e
  · rename_i q
    rw [q] at e
    have a : es.toList.any (·.refKey) = false := by
      rw [List.any_eq_false]
      intro y hy
      obtain ⟨z, t, hkey⟩ := hk y (Array.mem_toList_iff.mp hy)
      simp [DictEntry.refKey, hkey]
    have a' : ¬ es.toList.any (·.refKey) = true := by rw [a]; exact Bool.false_ne_true
    rw [if_neg a']
    exact congrArg some e

theorem ObjM.look {h : Heap} {x dx C : Addr} {mA : Str → Option Value} (I : ObjM h x dx C mA) : ∃ od, PySem.W.InstAt h x (PySem.W.instObj C dx) C (some od) ∧ ∀ name, PySem.W.lookIn name od = some (mA name) :=
  let ⟨od, ho, hl⟩ := lookIn_ns I.ns
  ⟨od, ⟨I.obj, rfl, rfl, ho⟩, hl⟩

section
variable {prog : Program} {w : World} {A : Around} {E : Value → Shared → Prop} {s : Shared} {K : PySem.W.Frag} {x dx C f : Addr} {mA : Str → Option Value} {name : Str} {v : Value}

theorem get_map {expr : Bool} {Q : Value → Shared → Prop} (X : K.In s.heap) (I : ObjM s.heap x dx C mA) (hg : PySem.W.plainGet K C name = true) (hh : PySem.W.hasDictIn K C = true)
    (ha : PySem.W.findIn K (.ref C) name = some none) (hv : mA name = some v) (hv' : PySem.W.handedIn v = true) (h : Q v { s with toks := s.toks + 1 }) :
    wpAny (model prog w) A (getAttr (.ref x) name expr) Q E s := by
  obtain ⟨od, J, hl⟩ := I.look
  exact PySem.W.get_value X J (PySem.W.plainGet_of hg).1 (PySem.W.findObj_own hh ha rfl (by rw [hl, hv])) hv' h

theorem get_meth {pl : Sem Bool} {Q : Value × List Value → Shared → Prop} (X : K.In s.heap) (I : ObjM s.heap x dx C mA) (hg : PySem.W.plainGet K C name = true)
    (hf : PySem.W.findIn K (.ref C) name = some (some (.ref f))) (ht : PySem.W.isFn K (.ref f) = true) (hv : mA name = none) (h : Q (.ref f, [.ref x]) s) :
    wpAny (model prog w) A (getMethod (.ref x) name pl) Q E s := by
  obtain ⟨od, J, hl⟩ := I.look
  exact PySem.W.method_fn X J (PySem.W.plainGet_of hg).1 (PySem.W.plainGet_of hg).2 hf (beq_iff_eq.mp ht) (by show (PySem.W.lookIn name od).map (·.isSome) = some false; rw [hl, hv]; rfl) h

theorem set_map {ns : List Str} {Q : Unit → Shared → Prop} (X : K.In s.heap) (I : ObjM s.heap x dx C mA)
    (hs : PySem.W.findIn K (.ref C) "__setattr__" = some (some (.builtin "object.__setattr__"))) (hp : PySem.W.plainOver K C = true) (ht : PySem.W.takerIn K C name = some none) (hh : PySem.W.hasDictIn K C = true)
    (hw : PySem.Within mA ns) (hsz : ns.length ≤ sizeLine)
    (h : ∀ h', ObjM h' x dx C (fun y => if y = name then some v else mA y) → Heap.SameBut dx s.heap h' → Q () { s with heap := h', toks := s.toks + 2 }) :
    wpAny (model prog w) A (setAttr (.ref x) name v) Q E s := by
  obtain ⟨od, J, hl⟩ := I.look
  refine PySem.W.set_plain X J hs (PySem.W.osa_open (s := { s with toks := s.toks + 1 }) (r := none) X J hp ht fun b => ?_)
  obtain ⟨cd, hc, hd'⟩ := PySem.W.any_some hh
  have hx : s.heap.get? x = some ⟨.ref C, some dx, .plain, #[]⟩ := I.obj
  refine wpAny_bind (wpAny_pure (wpAny_bind (wpAny_bind (wpAny_loadPart hx (wpAny_bind (PySem.W.Looks.here (s := { s with toks := s.toks + 1 }) (PySem.W.looks_clsIn X hc) ?_))))))
  rw [hd']
  refine wpAny_pure (a := some dx) (wpAny_bind (wpAny_pure (wpAny_bind ?_)))
  refine wpAny_nsSet1 (s := { s with toks := s.toks + 1 }) I.ns fun h' hn2 hs2 => ?_
  obtain ⟨oD, esD, epD, hoD, hdD, hcD⟩ := hn2.count (PySem.Within.cons name v hw)
  refine wpAny_bind (wpAny_lookBehind hoD (by rw [hdD]; exact pastItsLine_dict (Nat.le_trans hcD (by rw [List.length_cons]; omega))) ?_)
  exact wpAny_pure (h _ ⟨(hs2.2 _ (Ne.symm I.ne)).trans I.obj, hn2, I.ne⟩ hs2)

/-- C(..): the dict at the heap's end, the instance behind it; then its __init__ -/
theorem make_map {R : Result → Shared → Prop} {vs : List Value} {kw : List (Str × Value)} (X : K.In s.heap) (hm : PySem.W.makesIn K C = true)
    (hi : PySem.W.findIn K (.ref C) "__init__" = some (some (.ref f))) (hf : PySem.W.typeIn K (.ref f) = some (.type "function"))
    (h : codeAny (model prog w) (A.under (.builtin "type.__call__" ⟨.ref C :: vs, kw⟩)) (.call (.ref f) ⟨.ref (s.heap.objs.size + 1) :: vs, kw⟩) (PySem.W.InitBack (s.heap.objs.size + 1) R)
      { s with heap := (s.heap.push PySem.W.emptyDict).push (PySem.W.instObj C s.heap.objs.size) }) :
    codeAny (model prog w) A (.call (.ref C) ⟨vs, kw⟩) R s := by
  obtain ⟨hh, g, d, t, os⟩ := s
  exact PySem.W.make_core (PySem.W.makes_of X hm) (PySem.W.looks_findIn X hi) (fun self => PySem.W.bind_fn X self hf) (.inl rfl) h
end

/-! ### the attributes as a list of pairs -/
def putF (f : Str) (v : V) : List (Str × V) → List (Str × V)
  | [] => [(f, v)]
  | (g, x) :: r => if g = f then (g, v) :: r else (g, x) :: putF f v r
theorem lookup_putF (f g : Str) (v : V) : ∀ fs : List (Str × V), (putF f v fs).lookup g = if g = f then some v else fs.lookup g
  | [] => by
    show List.lookup g [(f, v)] = _
    by_cases h : g = f
    · have hb : (g == f) = true := beq_iff_eq.mpr h
      simp only [List.lookup, hb, if_pos h]
    · have hb : (g == f) = false := beq_eq_false_iff_ne.mpr h
      simp only [List.lookup, hb, if_neg h]
  | (k, x) :: r => by
    have ih := lookup_putF f g v r
    rw [show putF f v ((k, x) :: r) = (if k = f then (k, v) :: r else (k, x) :: putF f v r) from rfl]
    by_cases hk : k = f
    · rw [if_pos hk]
      by_cases h : g = k
      · have hb : (g == k) = true := beq_iff_eq.mpr h
        simp only [List.lookup, hb, if_pos (h.trans hk)]
      · have hb : (g == k) = false := beq_eq_false_iff_ne.mpr h
        simp only [List.lookup, hb, if_neg (fun e : g = f => h (e.trans hk.symm))]
    · rw [if_neg hk]
      by_cases h : g = k
      · have hb : (g == k) = true := beq_iff_eq.mpr h
        simp only [List.lookup, hb, if_neg (fun e : g = f => hk (h.symm.trans e))]
      · have hb : (g == k) = false := beq_eq_false_iff_ne.mpr h
        simp only [List.lookup, hb]
        exact ih
theorem keys_putF (f : Str) (v : V) : ∀ fs : List (Str × V), f ∈ (putF f v fs).map (·.1) ∧ ∀ g, g ∈ fs.map (·.1) → g ∈ (putF f v fs).map (·.1)
  | [] => ⟨by simp [putF], fun g h => by simp at h⟩
  | (k, x) :: r => by
    obtain ⟨i1, i2⟩ := keys_putF f v r
    rw [show putF f v ((k, x) :: r) = (if k = f then (k, v) :: r else (k, x) :: putF f v r) from rfl]
    by_cases hk : k = f
    · rw [if_pos hk]
      subst hk
      exact ⟨by simp, fun g h => by simpa using h⟩
    · rw [if_neg hk]
      refine ⟨?_, fun g h => ?_⟩
      · rw [List.map_cons]
        exact List.mem_cons_of_mem _ i1
      · rw [List.map_cons] at h ⊢
        rcases List.mem_cons.mp h with e | e
        · exact List.mem_cons.mpr (.inl e)
        · exact List.mem_cons_of_mem _ (i2 g e)
theorem length_putF (f : Str) (v : V) : ∀ fs : List (Str × V), (putF f v fs).length ≤ fs.length + 1
  | [] => by simp [putF]
  | (k, x) :: r => by
    have ih := length_putF f v r
    rw [show putF f v ((k, x) :: r) = (if k = f then (k, v) :: r else (k, x) :: putF f v r) from rfl]
    by_cases hk : k = f
    · rw [if_pos hk, List.length_cons, List.length_cons]; omega
    · rw [if_neg hk, List.length_cons, List.length_cons]; omega

theorem RelO.some_of {v : V} {o : Option Value} (r : RelO (some v) o) : ∃ u, o = some u ∧ RelV v u := by
  cases o with
  | none => exact (show False from r).elim
  | some u => exact ⟨u, rfl, r⟩
theorem RelO.none_of {o : Option Value} (r : RelO none o) : o = none := by
  cases o with
  | none => rfl
  | some u => exact (show False from r).elim
theorem handed_of {v : V} {u : Value} (r : RelV v u) : PySem.W.handedIn u = true := by
  cases v with
  | non => cases (show u = Value.none from r); rfl
  | bl b => cases (show u = Value.bool b from r); rfl
  | int i => obtain ⟨t, e⟩ := (show ∃ t, u = Value.int i t from r); cases e; rfl
  | str x => obtain ⟨t, e⟩ := (show ∃ t, u = Value.str x t from r); cases e; rfl
  | byt b => obtain ⟨t, e⟩ := (show ∃ t, u = Value.bytes b t from r); cases e; rfl
  | flt b => obtain ⟨t, e⟩ := (show ∃ t, u = Value.float b t from r); cases e; rfl
  | ref a => cases (show u = Value.ref a from r); rfl
  | ty n => cases (show u = Value.type n from r); rfl

section
variable {P : Program} {w : World} {H H' : Hp} {h h' : Heap} {a C dx : Addr} {fs fs' : List (Str × V)}
theorem ins_get (hok : HOk P w H h) (e : H a = some (.ins C dx fs)) : ∃ mA, ObjM h a dx C mA ∧ (∀ f, RelO (fs.lookup f) (mA f)) ∧ PySem.Within mA (fs.map (·.1)) ∧ fs.length ≤ 1000 ∧ H dx = some (.own a) := by
  obtain ⟨d, z, ne, ob, mA, n, r, q⟩ := (show ObjOk P w H h a (.ins C dx fs) from hok a _ e)
  exact ⟨mA, ⟨ob, n, ne⟩, r, q, z, d⟩
end

/-! ### what of the text a class must have -/
structure Cls (K : PySem.W.Frag) (C : Addr) : Prop where
  pg : PySem.W.plainGet K C Str.empty = true
  hd : PySem.W.hasDictIn K C = true
  po : PySem.W.plainOver K C = true
  sa : PySem.W.findIn K (.ref C) "__setattr__" = some (some (.builtin "object.__setattr__"))
theorem Cls.get {K : PySem.W.Frag} {C : Addr} (c : Cls K C) (f : Str) : PySem.W.plainGet K C f = true := c.pg
/-- no class of it has the name -/
def NoAttr (K : PySem.W.Frag) (C : Addr) (f : Str) : Prop := PySem.W.findIn K (.ref C) f = some none
theorem NoAttr.taker {K : PySem.W.Frag} {C : Addr} {f : Str} (n : NoAttr K C f) : PySem.W.takerIn K C f = some none := by
  unfold PySem.W.takerIn
  rw [show PySem.W.findIn K (.ref C) f = some none from n]
  rfl
/-- a method: a plain def of the class or of one above it -/
structure Meth (K : PySem.W.Frag) (C : Addr) (m : Str) (f : Addr) : Prop where
  at_ : PySem.W.findIn K (.ref C) m = some (some (.ref f))
  fn : PySem.W.isFn K (.ref f) = true
  kp : PySem.W.keepIn K (.ref f) = true

section
variable {X : Cx} {pins : List (Addr × Obj)} {σ : St} {H : Hp} {s : Shared} {a C dx : Addr} {fs : List (Str × V)} {f : Str} {v : V} {A : Around} {E : Value → Shared → Prop}

theorem getattr_ok {b : Bool} {Q : Value → Shared → Prop} (I : Inv X pins σ H s) (e : H a = some (.ins C dx fs)) (c : Cls X.K C) (n : NoAttr X.K C f) (l : fs.lookup f = some v)
    (h : ∀ u s', Inv X pins σ H s' → RelV v u → Q u s') : wpAny (model X.prog X.w) A (getAttr (.ref a) f b) Q E s := by
  obtain ⟨mA, O, r, _, _, _⟩ := ins_get I.hok e
  obtain ⟨u, hu, ru⟩ := RelO.some_of (v := v) (o := mA f) (by rw [← l]; exact r f)
  exact get_map I.kIn O (c.get f) c.hd n hu (handed_of ru) (h u _ (I.tok _) ru)

theorem getmeth_ok {m : Str} {g : Addr} {pl : Sem Bool} {Q : Value × List Value → Shared → Prop} (I : Inv X pins σ H s) (e : H a = some (.ins C dx fs)) (c : Cls X.K C) (k : Meth X.K C m g) (l : fs.lookup m = none)
    (h : Q (.ref g, [.ref a]) s) : wpAny (model X.prog X.w) A (getMethod (.ref a) m pl) Q E s := by
  obtain ⟨mA, O, r, _, _, _⟩ := ins_get I.hok e
  have hn : mA m = none := RelO.none_of (by rw [← l]; exact r m)
  exact get_meth I.kIn O (c.get m) k.at_ k.fn hn h

theorem setattr_ok {y : V} {u : Value} {Q : Unit → Shared → Prop} (I : Inv X pins σ H s) (e : H a = some (.ins C dx fs)) (c : Cls X.K C) (n : NoAttr X.K C f) (hl : fs.length < 1000) (ry : RelV y u)
    (h : ∀ s', Inv X pins σ (upd H a (.ins C dx (putF f y fs))) s' → Q () s') : wpAny (model X.prog X.w) A (setAttr (.ref a) f u) Q E s := by
  obtain ⟨mA, O, r, wi, _, ho⟩ := ins_get I.hok e
  have hz : (fs.map (·.1)).length ≤ sizeLine := by rw [List.length_map, sizeLine_eq]; omega
  refine set_map I.kIn O c.sa c.po n.taker c.hd wi hz fun h' O' sb => h _ ?_
  have hd : ∃ o, h'.get? dx = some o := let ⟨o, _, _, e', _⟩ := O'.ns; ⟨o, e'⟩
  refine I.write (x := a) (e := dx) (by rw [e]; exact True.intro) (.inr ho) (fun b q hb z => (sb.2 b hb).trans z) hd ?_
  refine ⟨by rw [upd_ne O.ne]; exact ho, ?_, O.ne, O'.obj, _, O'.ns, fun g => ?_, fun g hg => ?_⟩
  · have := length_putF f y fs; omega
  · show RelO ((putF f y fs).lookup g) (if g = f then some u else mA g)
    rw [lookup_putF]
    by_cases q : g = f
    · rw [if_pos q, if_pos q]; exact ry
    · rw [if_neg q, if_neg q]; exact r g
  · by_cases q : g = f
    · rw [q]; exact (keys_putF f y fs).1
    · refine (keys_putF f y fs).2 g (wi g fun z => hg ?_)
      show (if g = f then some u else mA g) = none
      rw [if_neg q]; exact z

/-- a new instance, tracked, without attributes -/
theorem Inv.made (I : Inv X pins σ H s) : Inv X pins σ (upd (upd H s.heap.objs.size (.own (s.heap.objs.size + 1))) (s.heap.objs.size + 1) (.ins C s.heap.objs.size []))
    { s with heap := (s.heap.push PySem.W.emptyDict).push (PySem.W.instObj C s.heap.objs.size) } := by
  have e1 : (s.heap.push PySem.W.emptyDict).get? s.heap.objs.size = some PySem.W.emptyDict := Heap.get?_push_size s.heap rfl
  have e2 : ((s.heap.push PySem.W.emptyDict).push (PySem.W.instObj C s.heap.objs.size)).get? (s.heap.objs.size + 1) = some (PySem.W.instObj C s.heap.objs.size) := by
    have := Heap.get?_push_size (s.heap.push PySem.W.emptyDict) (o := PySem.W.instObj C s.heap.objs.size) rfl
    rwa [Heap.size_push] at this
  have e3 : (s.heap.push PySem.W.emptyDict).Ns s.heap.objs.size (fun _ => none) := ⟨PySem.W.emptyDict, #[], _, e1, rfl, (fun e he => absurd he (by simp)), fun _ => rfl⟩
  have I1 := I.laid (a := s.heap.objs.size) (o := .own (s.heap.objs.size + 1)) (h' := s.heap.push PySem.W.emptyDict) (t' := s.toks) (fun b u q => Heap.get?_push_of_some _ q) (Nat.le_refl _) ⟨_, e1⟩
  refine I1.laid (a := s.heap.objs.size + 1) (o := .ins C s.heap.objs.size []) (t' := s.toks) (fun b u q => Heap.get?_push_of_some _ q) (Nat.le_of_eq (Heap.size_push _ _)) ?_
  have ne : s.heap.objs.size ≠ s.heap.objs.size + 1 := Nat.ne_of_lt (Nat.lt_succ_self _)
  refine ⟨by rw [upd_ne ne, upd_same], Nat.zero_le _, ne, e2, fun _ => none, (Heap.Ns1.of_empty e3).at fun o q => Heap.get?_push_of_some _ q, fun _ => True.intro, fun y hy => absurd rfl hy⟩

/-- e.f where nothing but the object is asked: through attributeBase (super) and the last hold -/
theorem attr_of {prog : Program} {w : World} {env : Env} {e : Expr} {f : Str} {pos : Pos} {s : Shared} {Q : Value → Shared → Prop} (hb : attributeBase e f env (eval e env) = eval e env)
    (h : wpAny (model prog w) A (eval e env) (fun o s₁ => wpAny (model prog w) A (getAttr o f true) Q E s₁) E s) : wpAny (model prog w) A (eval (.Attribute e f pos) env) Q E s :=
  Attribute_any_ h (by rw [arm_eval_Attribute, hb])
end

/-! ### readings and rules -/
/-- e.f = value -/
def sFld (K : PySem.W.Frag) (ta tv : TE) (f : Str) : TS := fun D σ H => tv σ H fun y H1 => ta σ H1 fun x H2 => ∃ a C dx fs, x = .ref a ∧ H2 a = some (.ins C dx fs) ∧ Cls K C ∧ NoAttr K C f ∧ fs.length < 1000 ∧
  D.nx σ (upd H2 a (.ins C dx (putF f y fs)))
/-- an augmented operator on two values -/
def InOp (X : Cx) (op : Operator) (rd : V → V → Hp → VK → Prop) : Prop :=
  ∀ (pins : List (Addr × Obj)) (s : Shared) (σ : St) (H : Hp) (x y : V) (u v : Value) (Q : VK), Inv X pins σ H s → RelV x u → RelV y v → rd x y H Q → wpAny (model X.prog X.w) X.A (inplaceOp op u v) (EP X pins σ Q) X.xe s
/-- e.f op= value -/
def sFldAug (K : PySem.W.Frag) (ta tv : TE) (rd : V → V → Hp → VK → Prop) (f : Str) : TS := fun D σ H => ta σ H fun x H1 => ∃ a C dx fs v, x = .ref a ∧ H1 a = some (.ins C dx fs) ∧ Cls K C ∧ NoAttr K C f ∧ fs.lookup f = some v ∧
  tv σ H1 fun y H2 => rd v y H2 fun z H3 => ∃ dx' fs', H3 a = some (.ins C dx' fs') ∧ fs'.length < 1000 ∧ D.nx σ (upd H3 a (.ins C dx' (putF f z fs')))

section
variable {X : Cx} {o e value : Expr} {f : Str} {pos pos' tpos : Pos} {ta tv : TE}
theorem ps_fld (ha : PE X o ta) (hv : PE X value tv) (hs : swapsWith value (some (.Attribute o f pos')) pos.line X.env = pure false) : PS X (.Assign [.Attribute o f pos'] value pos) (sFld X.K ta tv f) := by
  intro pins s σ H D I h
  refine plainObj_wpAny_Assign_Attribute (thn (hv pins s σ H _ I h) fun u s1 ⟨y, H1, I1, ry, q⟩ => thn (ha pins s1 σ H1 _ I1 q) fun ov s2 ⟨x, H2, I2, rx, a, C, dx, fs, ex, ea, c, n, l, q2⟩ => ?_) hs
  subst ex
  obtain rfl : ov = Value.ref a := rx
  exact setattr_ok I2 ea c n l ry fun s3 I3 => ⟨σ, _, I3, q2⟩
theorem ps_fldaug {op : Operator} {rd : V → V → Hp → VK → Prop} (ha : PE X o ta) (hv : PE X value tv) (hop : InOp X op rd) : PS X (.AugAssign (.Attribute o f tpos) op value pos) (sFldAug X.K ta tv rd f) := by
  intro pins s σ H D I h
  refine wpAny_AugAssign_AttributeAny (thn (ha pins s σ H _ I h) fun ov s1 ⟨x, H1, I1, rx, a, C, dx, fs, v, ex, ea, c, n, l, q⟩ => ?_)
  subst ex
  obtain rfl : ov = Value.ref a := rx
  refine getattr_ok I1 ea c n l fun u s2 I2 ru => thn (hv pins s2 σ H1 _ I2 q) fun w3 s3 ⟨y, H2, I3, ry, q3⟩ => thn (hop pins s3 σ H2 v y u w3 _ I3 ru ry q3) fun w4 s4 ⟨z, H3, I4, rz, dx', fs', ea', l', q4⟩ => ?_
  exact setattr_ok I4 ea' c n l' rz fun s5 I5 => ⟨σ, _, I5, q4⟩
def rAdd : V → V → Hp → VK → Prop := fun x y H Q => ∃ i j, x = .int i ∧ y = .int j ∧ Q (.int (i + j)) H
theorem in_add : InOp X .Add rAdd := by
  rintro pins s σ H x y u v Q I rx ry ⟨i, j, rfl, rfl, q⟩
  obtain ⟨t, rfl⟩ := (show ∃ t, u = Value.int i t from rx)
  obtain ⟨t', rfl⟩ := (show ∃ t', v = Value.int j t' from ry)
  exact PyProof.Rows.iadd_int ⟨.int (i + j), H, I.tok _, ⟨_, rfl⟩, q⟩

/-- what is between an instance and its method: the tree of a method call -/
theorem methcall_of {pl : Sem Bool} {m : Str} {apos : Pos} {args : List Expr} {pins : List (Addr × Obj)} {s : Shared} {σ : St} {H : Hp} {Q : Value → Shared → Prop} {te : TE} (he : PE X e te) (I : Inv X pins σ H s)
    (h : te σ H fun x H1 => ∃ a C dx fs g, x = .ref a ∧ H1 a = some (.ins C dx fs) ∧ Cls X.K C ∧ Meth X.K C m g ∧ fs.lookup m = none ∧
      ∀ s1, Inv X pins σ H1 s1 → wpAny (model X.prog X.w) X.A (callWith pos (.ref g) [.ref a] (backTo pos (starEach args X.env)) (backToKw pos (keywordEach [] X.env))) Q X.xe s1)
    (ht : eval (.Call (.Attribute e m apos) args [] pos) X.env = (do
      let ov ← eval e X.env
      standAt apos.atName
      let (f, first) ← holding [ov] (getMethod ov m pl)
      callWith pos f first (backTo pos (starEach args X.env)) (backToKw pos (keywordEach [] X.env)))) :
    wpAny (model X.prog X.w) X.A (eval (.Call (.Attribute e m apos) args [] pos) X.env) Q X.xe s := by
  refine PySem.W.methodCall_KW (pl := pl) (thn (he pins s σ H _ I h) fun u s1 ⟨x, H1, I1, rx, a, C, dx, fs, g, ex, ea, c, k, l, q⟩ => ?_) ht
  subst ex
  obtain rfl : u = Value.ref a := rx
  exact getmeth_ok I1 ea c k l (q s1 I1)
end

/-! ### isinstance -/
section
variable {X : Cx} {pins : List (Addr × Obj)} {σ : St} {H : Hp} {s : Shared} {A : Around} {E : Value → Shared → Prop} {Q : Value → Shared → Prop} {c : Value} {b : Bool}
end
end L2

namespace L2
open PySem PySem.Spec PyProof.Rows

/-! ### room -/
structure Room (k : Nat) (A : Around) : Prop where
  hd : A.handled = none
  dp : A.depth + 3 * k + 5 < recursionLimit
  un : A.units + 16 * k + 200 < cLine
theorem Room.mono {j k : Nat} {A : Around} (r : Room k A) (h : j ≤ k) : Room j A := ⟨r.hd, by have := r.dp; omega, by have := r.un; omega⟩
theorem Room.deeper {k : Nat} {A : Around} (r : Room (k + 1) A) (env : Env) : Room k (A.deeper env) :=
  ⟨r.hd, by have := r.dp; show A.depth + 1 + 3 * k + 5 < _; omega, by have := r.un; show A.units + 3 + 16 * k + 200 < _; omega⟩
theorem make_depth {A : Around} {C : Addr} {us : List Value} {kw : List (Str × Value)} : (A.under (.builtin "type.__call__" ⟨.ref C :: us, kw⟩)).depth = A.depth + 1 := by
  first | rfl | simp [Around.under, Code.weight, Code.isCreation, Code.isGuard, Code.isCaller, Code.frames, Code.isFrame, guardIds]
theorem make_units {A : Around} {C : Addr} {us : List Value} {kw : List (Str × Value)} : (A.under (.builtin "type.__call__" ⟨.ref C :: us, kw⟩)).units = A.units + 1 := by
  first | rfl | simp [Around.under, Code.cUnits, Code.frames, Code.isFrame]
theorem Room.make {k : Nat} {A : Around} (r : Room (k + 1) A) (C : Addr) (us : List Value) (kw : List (Str × Value)) : Room k (A.under (.builtin "type.__call__" ⟨.ref C :: us, kw⟩)) :=
  ⟨r.hd, by have := r.dp; rw [make_depth]; omega, by have := r.un; rw [make_units]; omega⟩
theorem Room.depth {k : Nat} {A : Around} (r : Room k A) : A.depth < recursionLimit := by have := r.dp; omega

/-! ### argument lists and displays -/
def tNil : TA := fun _ H Q => Q [] H
def tCons (ta : TE) (tr : TA) : TA := fun σ H Q => ta σ H fun x H1 => tr σ H1 fun xs H2 => Q (x :: xs) H2
section
variable {X : Cx} {e : Expr} {es : List Expr} {te : TE} {t : TA} {pos : Pos}
theorem pa_nil : PA X [] tNil := fun _ _ _ _ H Q I h => Calls.spliced_nil ⟨[], H, I, .nil, h⟩
theorem pa_cons (ha : PE X e te) (hr : PA X es t) (hs : starEach (e :: es) X.env = (false, eval e X.env) :: starEach es X.env := by rfl) : PA X (e :: es) (tCons te t) := by
  intro pos pins s σ H Q I h
  rw [hs]
  show wpAny _ _ (spliced ((false, eval e X.env) :: backTo pos (starEach es X.env))) _ _ s
  refine Calls.spliced_cons (thn (ha pins s σ H _ I h) fun u s1 ⟨x, H1, I1, r1, q1⟩ => ?_)
  exact thn (hr pos pins s1 σ H1 _ I1 q1) fun us s2 ⟨xs, H2, I2, r2, q2⟩ => ⟨x :: xs, H2, I2, .cons r1 r2, q2⟩

/-- a tuple, a list of written items -/
def tTup (t : TA) : TE := fun σ H Q => t σ H fun xs H1 => xs.length ≤ sizeLine ∧ ∀ p, H1 p = none → Q (.ref p) (upd H1 p (.tup xs))
def tLst (t : TA) : TE := fun σ H Q => t σ H fun xs H1 => xs.length ≤ sizeLine ∧ ∀ p, H1 p = none → Q (.ref p) (upd H1 p (.lst xs))
theorem pe_tup {x1} (h : PA X es t) : PE X (.Tuple es x1 pos) (tTup t) := by
  intro pins s σ H Q I hq
  refine wpAny_Tuple_spliced (thn (h pos pins s σ H _ I hq) fun us s1 ⟨xs, H1, I1, r, z, q⟩ => ⟨by rw [← r.length]; exact z, ?_⟩)
  have hf : H1 s1.heap.objs.size = none := I1.hok.fresh (Nat.le_refl _)
  refine ⟨.ref s1.heap.objs.size, upd H1 s1.heap.objs.size (.tup xs), I1.laid (t' := s1.toks) (fun b u e => Heap.get?_push_of_some _ e) (Nat.le_refl _) ?_, rfl, q _ hf⟩
  exact ⟨z, us, r, ⟨_, Heap.get?_push_size _ rfl, rfl, _, rfl⟩⟩
theorem pe_lst (h : PA X es t) : PE X (.List es pos) (tLst t) := by
  intro pins s σ H Q I hq
  refine wpAny_List_spliced (thn (h pos pins s σ H _ I hq) fun us s1 ⟨xs, H1, I1, r, z, q⟩ => ⟨by rw [← r.length]; exact z, ?_⟩)
  have hf : H1 s1.heap.objs.size = none := I1.hok.fresh (Nat.le_refl _)
  refine ⟨.ref s1.heap.objs.size, upd H1 s1.heap.objs.size (.lst xs), I1.laid (t' := s1.toks) (fun b u e => Heap.get?_push_of_some _ e) (Nat.le_refl _) ?_, rfl, q _ hf⟩
  exact ⟨z, us, 0, r, Heap.get?_push_size _ rfl⟩
end

/-! ### what a def promises -/
/-- a def's promise: the bound arguments in the parameters' order, the heap, the wanted end, the wanted exception -/
abbrev Sp := List V → Hp → VK → XK → Prop
/-- how an exception lies behind a call (file 08 gives it): the callers' frames, abstract heap and state ahead of the call, the wish, the exception, the state -/
abbrev CXT := List Env → Hp → Shared → XK → Value → Shared → Prop

/-- the state at a call -/
structure Env0 (P : Program) (w : World) (K : PySem.W.Frag) (mg : Str → Option Value) (base : Heap) (A : Around) (outer : List Env) (s : Shared) (H : Hp) : Prop where
  frames : A.frames = some outer
  mod : Mod K mg base
  bs : ∀ b o, base.get? b = some o → s.heap.get? b = some o ∧ H b = none
  bsz : base.objs.size ≤ s.heap.objs.size
  funs : s.heap.FunFrames base outer
  frf : ∀ b ∈ frs outer, H b = none
  hok : HOk P w H s.heap
  bare : AllBare s.gens
/-- a call's end -/
def CE (outer : List Env) (P : Program) (w : World) (H : Hp) (s : Shared) (Q : VK) (u : Value) (s' : Shared) : Prop :=
  ∃ v H', s'.os = s.os ∧ AllBare s'.gens ∧ Un (frs outer) [] H H' s.heap s'.heap ∧ HOk P w H' s'.heap ∧ RelV v u ∧ Q v H'
def CR (CX : CXT) (outer : List Env) (P : Program) (w : World) (H : Hp) (s : Shared) (Q : VK) (E : XK) (r : Result) (s' : Shared) : Prop :=
  match r with
  | .ok (.ret u) => CE outer P w H s Q u s'
  | .ok _ => False
  | .error e => CX outer H s E e s'
structure FnOk (P : Program) (w : World) (K : PySem.W.Frag) (mg : Str → Option Value) (base : Heap) (CX : CXT) (k : Nat) (f : Addr) (fd : FuncData) (ps : List Str) (sp : Sp) : Prop where
  len : ∀ vs H Q E, sp vs H Q E → vs.length = ps.length
  run : ∀ (A : Around) (outer : List Env) (s : Shared) (H : Hp) (args : Args) (us : List Value) (vs : List V) (Q : VK) (E : XK), Room k A → Env0 P w K mg base A outer s H → BindsTo s fd args (ps.zip us) → Vals vs us → sp vs H Q E →
    codeAny (model P w) A (.call (.ref f) args) (CR CX outer P w H s Q E) s
theorem FnOk.mono {P : Program} {w : World} {K : PySem.W.Frag} {mg : Str → Option Value} {base : Heap} {CX : CXT} {j k : Nat} {f : Addr} {fd : FuncData} {ps : List Str} {sp : Sp} (F : FnOk P w K mg base CX j f fd ps sp) (h : j ≤ k) :
    FnOk P w K mg base CX k f fd ps sp := ⟨F.len, fun A outer s H args us vs Q E hr => F.run A outer s H args us vs Q E (hr.mono h)⟩
/-- a weaker promise -/
theorem FnOk.imp {P : Program} {w : World} {K : PySem.W.Frag} {mg : Str → Option Value} {base : Heap} {CX : CXT} {k : Nat} {f : Addr} {fd : FuncData} {ps : List Str} {sp sp' : Sp} (F : FnOk P w K mg base CX k f fd ps sp)
    (h : ∀ vs H Q E, sp' vs H Q E → sp vs H Q E) : FnOk P w K mg base CX k f fd ps sp' :=
  ⟨fun vs H Q E q => F.len vs H Q E (h _ _ _ _ q), fun A outer s H args us vs Q E hr he hb hv hs => F.run A outer s H args us vs Q E hr he hb hv (h _ _ _ _ hs)⟩

theorem Env0.make {P : Program} {w : World} {K : PySem.W.Frag} {mg : Str → Option Value} {base : Heap} {A : Around} {outer : List Env} {s : Shared} {H : Hp} (e : Env0 P w K mg base A outer s H) (C : Addr) (us : List Value) (kw : List (Str × Value)) :
    Env0 P w K mg base (A.under (.builtin "type.__call__" ⟨.ref C :: us, kw⟩)) outer s H := ⟨by first | exact e.frames | (simpa [Around.under, Code.envs, Code.isFrame, pushEnvs] using e.frames), e.mod, e.bs, e.bsz, e.funs, e.frf, e.hok, e.bare⟩

section
variable {X : Cx} {pins : List (Addr × Obj)} {σ : St} {H : Hp} {s s' : Shared}
/-- from a body: what a callee wants -/
theorem Inv.env0 (I : Inv X pins σ H s) : Env0 X.prog X.w X.K X.mg X.base X.A X.stack s H :=
  ⟨I.ok.frames, I.ok.mod, I.bs, Nat.le_trans I.ok.bsz I.sz, I.stack, I.stkFree, I.hok, I.bare⟩
/-- behind a call -/
theorem Inv.after {Q : VK} {u : Value} (I : Inv X pins σ H s) (h : CE X.stack X.prog X.w H s Q u s') : EP X pins σ Q u s' := by
  obtain ⟨v, H', os, bare, un, hok, r, q⟩ := h
  obtain ⟨hh, g, d, t, os'⟩ := s'
  obtain rfl : os' = s.os := os
  exact ⟨v, H', I.call (h' := hh) (g' := g) (d' := d) (t' := t) (ch := []) un hok bare (fun b z => absurd z (by simp)), r, q⟩
end

/-! ### calls -/
/-- f(..): the written arguments, then the defaults dvs; E: what is wanted of an exception -/
def tCall (sp : Sp) (dvs : List V) (E : XK) (t : TA) : TE := fun σ H Q => t σ H fun vs H1 => sp (vs ++ dvs) H1 Q E
/-- o.m(..) of an instance of the class at C -/
def tMeth (C : Addr) (m : Str) (sp : Sp) (dvs : List V) (E : XK) (ta : TE) (t : TA) : TE := fun σ H Q => ta σ H fun x H1 => ∃ a dx fs, x = .ref a ∧ H1 a = some (.ins C dx fs) ∧ fs.lookup m = none ∧
  t σ H1 fun vs H2 => sp (x :: (vs ++ dvs)) H2 Q E
/-- C(..): a new instance and its dict, then __init__ -/
def tMake (C : Addr) (sp : Sp) (dvs : List V) (E : XK) (t : TA) : TE := fun σ H Q => t σ H fun vs H1 => ∀ x dx, H1 x = none → H1 dx = none → dx ≠ x →
  sp (.ref x :: (vs ++ dvs)) (upd (upd H1 dx (.own x)) x (.ins C dx [])) (fun v H2 => v = .non ∧ Q (.ref x) H2) E

/-- how the parameters are bound: us the positional arguments, kw the keywords' values by name, ds the defaults that fill up -/
def Binds (K : PySem.W.Frag) (fd : FuncData) (ps : List Str) (ds : List Value) : Prop :=
  ∀ (s : Shared) (us : List Value), K.In s.heap → (us ++ ds).length = ps.length → BindsTo s fd ⟨us, []⟩ (ps.zip (us ++ ds))
/-- every parameter is given -/
theorem Binds.all {K : PySem.W.Frag} {fd : FuncData} {ps : List Str} (h : ∀ us : List Value, us.length = ps.length → bindArgs fd ⟨us, []⟩ = pure (ps.zip us)) : Binds K fd ps [] := fun s us _ hl => by
  rw [List.append_nil] at hl ⊢
  exact .of_eq (h us hl)

/-- an exception of a callee reaches what this body wants of exceptions -/
def Passes (CX : CXT) (X : Cx) (E : XK) : Prop := ∀ (pins : List (Addr × Obj)) (σ : St) (H : Hp) (s : Shared) (e : Value) (s' : Shared), Inv X pins σ H s → CX X.stack H s E e s' → X.xe e s'

section
variable {X : Cx} {CX : CXT} {k : Nat} {f C : Addr} {fd : FuncData} {ps : List Str} {sp : Sp} {dvs : List V} {ds : List Value} {E : XK} {x m : Str} {p pos apos : Pos} {e o : Expr} {es : List Expr} {ta : TE} {t : TA}

/-- the callee runs -/
theorem run_fn {pins : List (Addr × Obj)} {σ : St} {H : Hp} {s : Shared} {Q : VK} {us : List Value} {vs : List V} (F : FnOk X.prog X.w X.K X.mg X.base CX k f fd ps sp) (hr : Room k X.A) (hb : Binds X.K fd ps ds) (hd : Vals dvs ds) (hx : Passes CX X E)
    (I : Inv X pins σ H s) (r : Vals vs us) (h : sp (vs ++ dvs) H Q E) : wpAny (model X.prog X.w) X.A (call (.ref f) us) (EP X pins σ Q) X.xe s := by
  have r2 : Vals (vs ++ dvs) (us ++ ds) := r.append hd
  have hl : (us ++ ds).length = ps.length := by rw [← r2.length]; exact F.len _ _ _ _ h
  refine wpAny_call (codeAny_mono (F.run X.A X.stack s H ⟨us, []⟩ (us ++ ds) (vs ++ dvs) Q E hr I.env0 (hb s us I.kIn hl) r2 h) fun r s' hq => ?_)
  cases r with
  | error e => exact hx pins σ H s e s' I hq
  | ok fl =>
    cases fl with
    | ret u => exact I.after hq
    | next => exact False.elim hq
    | brk => exact False.elim hq
    | cont => exact False.elim hq

theorem pe_call (F : FnOk X.prog X.w X.K X.mg X.base CX k f fd ps sp) (hr : Room k X.A) (hg : Gl X x) (hm : X.mg x = some (.ref f)) (hk : PySem.W.keepIn X.K (.ref f) = true) (hb : Binds X.K fd ps ds) (hd : Vals dvs ds) (hx : Passes CX X E)
    (ha : PA X (e :: es) t) (hdb : (x == ("__debug__" : Str)) = false := by decide) (he : starEach (e :: es) X.env = (false, eval e X.env) :: starEach es X.env := by rfl) (hpl : (backTo pos (starEach es X.env)).any (·.1) = false := by rfl) :
    PE X (.Call (.Name x p) (e :: es) [] pos) (tCall sp dvs E t) := by
  intro pins s σ H Q I h
  refine wpAny_Call_Name_kw (ld_glob I hg hm ?_ hdb)
  refine PySem.W.callWith_K (h₀ := X.base) I.ok.mod.kin hk (thn (ha pos pins s σ H _ I h) fun us s1 ⟨vs, H1, I1, r, q⟩ => ⟨I1.kIn, ?_⟩) he hpl
  exact run_fn F hr hb hd hx I1 r q

/-- o.m(e, ..) -/
theorem pe_meth {pl : Sem Bool} (he : PE X o ta) (c : Cls X.K C) (hm : Meth X.K C m f) (F : FnOk X.prog X.w X.K X.mg X.base CX k f fd ps sp) (hr : Room k X.A) (hb : Binds X.K fd ps ds) (hd : Vals dvs ds) (hx : Passes CX X E) (ha : PA X (e :: es) t)
    (hst : starEach (e :: es) X.env = (false, eval e X.env) :: starEach es X.env := by rfl) (hpl : (backTo pos (starEach es X.env)).any (·.1) = false := by rfl)
    (ht : eval (.Call (.Attribute o m apos) (e :: es) [] pos) X.env = (do
      let ov ← eval o X.env
      standAt apos.atName
      let (f, first) ← holding [ov] (getMethod ov m pl)
      callWith pos f first (backTo pos (starEach (e :: es) X.env)) (backToKw pos (keywordEach [] X.env))) := by rfl) :
    PE X (.Call (.Attribute o m apos) (e :: es) [] pos) (tMeth C m sp dvs E ta t) := by
  intro pins s σ H Q I h
  refine PySem.W.methodCall_KW (pl := pl) (thn (he pins s σ H _ I h) fun u s1 ⟨x, H1, I1, rx, a, dx, fs, ex, ea, l, q⟩ => ?_) ht
  subst ex
  obtain rfl : u = Value.ref a := rx
  refine getmeth_ok I1 ea c hm l ?_
  refine PySem.W.callWith_K (first := [.ref a]) (h₀ := X.base) I.ok.mod.kin hm.kp (thn (ha pos pins s1 σ H1 _ I1 q) fun us s2 ⟨vs, H2, I2, r, q2⟩ => ⟨I2.kIn, ?_⟩) hst hpl
  exact run_fn (us := .ref a :: us) (vs := .ref a :: vs) F hr hb hd hx I2 (.cons rfl r) q2
/-- o.m() -/
theorem pe_meth0 {pl : Sem Bool} (he : PE X o ta) (c : Cls X.K C) (hm : Meth X.K C m f) (F : FnOk X.prog X.w X.K X.mg X.base CX k f fd ps sp) (hr : Room k X.A) (hb : Binds X.K fd ps ds) (hd : Vals dvs ds) (hx : Passes CX X E)
    (ht : eval (.Call (.Attribute o m apos) [] [] pos) X.env = (do
      let ov ← eval o X.env
      standAt apos.atName
      let (f, first) ← holding [ov] (getMethod ov m pl)
      callWith pos f first (backTo pos (starEach [] X.env)) (backToKw pos (keywordEach [] X.env))) := by rfl) :
    PE X (.Call (.Attribute o m apos) [] [] pos) (tMeth C m sp dvs E ta tNil) := by
  intro pins s σ H Q I h
  refine PySem.W.methodCall_KW (pl := pl) (thn (he pins s σ H _ I h) fun u s1 ⟨x, H1, I1, rx, a, dx, fs, ex, ea, l, q⟩ => ?_) ht
  subst ex
  obtain rfl : u = Value.ref a := rx
  refine getmeth_ok I1 ea c hm l ?_
  exact PySem.W.callWith_K0 (first := [.ref a]) I1.kIn hm.kp (run_fn (us := [.ref a]) (vs := [.ref a]) F hr hb hd hx I1 (.cons rfl .nil) q)

/-- what a class must have to be made -/
structure Mk (K : PySem.W.Frag) (C f : Addr) : Prop where
  makes : PySem.W.makesIn K C = true
  init : PySem.W.findIn K (.ref C) "__init__" = some (some (.ref f))
  fn : PySem.W.isFn K (.ref f) = true
  kp : PySem.W.keepIn K (.ref C) = true

theorem run_make {pins : List (Addr × Obj)} {σ : St} {H : Hp} {s : Shared} {Q : VK} {us : List Value} {vs : List V} (M : Mk X.K C f) (F : FnOk X.prog X.w X.K X.mg X.base CX k f fd ps sp) (hr : Room (k + 1) X.A) (hb : Binds X.K fd ps ds) (hd : Vals dvs ds)
    (hx : Passes CX X E) (I : Inv X pins σ H s) (r : Vals vs us)
    (h : ∀ x dx, H x = none → H dx = none → dx ≠ x → sp (.ref x :: (vs ++ dvs)) (upd (upd H dx (.own x)) x (.ins C dx [])) (fun v H2 => v = .non ∧ Q (.ref x) H2) E) :
    wpAny (model X.prog X.w) X.A (call (.ref C) us) (EP X pins σ Q) X.xe s := by
  have hq := h (s.heap.objs.size + 1) s.heap.objs.size (I.hok.fresh (Nat.le_succ _)) (I.hok.fresh (Nat.le_refl _)) (Nat.ne_of_lt (Nat.lt_succ_self _))
  have I2 := Inv.made (C := C) I
  have r2 : Vals (V.ref (s.heap.objs.size + 1) :: (vs ++ dvs)) (Value.ref (s.heap.objs.size + 1) :: (us ++ ds)) := .cons rfl (r.append hd)
  have hl : (Value.ref (s.heap.objs.size + 1) :: us ++ ds).length = ps.length := by
    have e := r2.length
    rw [F.len _ _ _ _ hq] at e
    exact e.symm
  refine wpAny_call (make_map (f := f) I.kIn M.makes M.init (beq_iff_eq.mp M.fn) (codeAny_mono (F.run _ X.stack _ _ ⟨Value.ref (s.heap.objs.size + 1) :: us, []⟩ (Value.ref (s.heap.objs.size + 1) :: (us ++ ds)) _ _ E (hr.make C us [])
    (I2.env0.make C us []) (hb _ (Value.ref (s.heap.objs.size + 1) :: us) I2.kIn hl) r2 hq) fun r s' hq' => ?_))
  cases r with
  | error e => exact hx pins σ _ _ e s' I2 hq'
  | ok fl =>
    cases fl with
    | ret u =>
      obtain ⟨v, H', I3, rv, ev, q3⟩ := I2.after hq'
      subst ev
      exact ⟨rv, ⟨V.ref (s.heap.objs.size + 1), H', I3, rfl, q3⟩⟩
    | next => exact False.elim hq'
    | brk => exact False.elim hq'
    | cont => exact False.elim hq'
theorem pe_make (M : Mk X.K C f) (F : FnOk X.prog X.w X.K X.mg X.base CX k f fd ps sp) (hr : Room (k + 1) X.A) (hg : Gl X x) (hm : X.mg x = some (.ref C)) (hb : Binds X.K fd ps ds) (hd : Vals dvs ds) (hx : Passes CX X E)
    (ha : PA X (e :: es) t) (hdb : (x == ("__debug__" : Str)) = false := by decide) (he : starEach (e :: es) X.env = (false, eval e X.env) :: starEach es X.env := by rfl) (hpl : (backTo pos (starEach es X.env)).any (·.1) = false := by rfl) :
    PE X (.Call (.Name x p) (e :: es) [] pos) (tMake C sp dvs E t) := by
  intro pins s σ H Q I h
  refine wpAny_Call_Name_kw (ld_glob I hg hm ?_ hdb)
  refine PySem.W.callWith_K (h₀ := X.base) I.ok.mod.kin M.kp (thn (ha pos pins s σ H _ I h) fun us s1 ⟨vs, H1, I1, r, q⟩ => ⟨I1.kIn, ?_⟩) he hpl
  exact run_make M F hr hb hd hx I1 r q
theorem pe_make0 (M : Mk X.K C f) (F : FnOk X.prog X.w X.K X.mg X.base CX k f fd ps sp) (hr : Room (k + 1) X.A) (hg : Gl X x) (hm : X.mg x = some (.ref C)) (hb : Binds X.K fd ps ds) (hd : Vals dvs ds) (hx : Passes CX X E)
    (hdb : (x == ("__debug__" : Str)) = false := by decide) : PE X (.Call (.Name x p) [] [] pos) (tMake C sp dvs E tNil) := by
  intro pins s σ H Q I h
  refine wpAny_Call_Name_kw (ld_glob I hg hm ?_ hdb)
  exact PySem.W.callWith_K0 I.kIn M.kp (run_make (us := []) M F hr hb hd hx I .nil h)
end

/-! ### keywords -/
section
variable {X : Cx} {CX : CXT} {k : Nat} {f C : Addr} {fd : FuncData} {ps ks : List Str} {sp : Sp} {E : XK} {x m : Str} {p pos apos kpos : Pos} {e o : Expr} {es : List Expr} {kws : List Keyword} {te ta : TE} {t tk : TA} {nm : Option Str}

variable {g : List Value → List Value → List Value} {gV : List V → List V → List V}
end

/-! ### a def's body keeps its promise -/
/-- names: the parameters first -/
structure FnScope (N P : List Str) (sc : Scope) : Prop where
  kind : sc.kind = .function
  co : sc.isCoroutine = false
  gen : sc.isGenerator = false
  nd : N.Nodup
  pre : N.take P.length = P
  par : ∀ x ∈ P, sc.names.lookup x = some .local ∨ sc.names.lookup x = some .cell
  nofree : ∀ y ∈ sc.names, y.2 ≠ .free

theorem bindL_out {kindOf : Str → Option NameKind} {x : Str} : ∀ {binds : List (Str × Value)} {m : Str → Option Value}, (∀ v, (x, v) ∉ binds) → bindL kindOf binds m x = m x
  | [], _, _ => rfl
  | (n, v) :: r, m, h => by
    unfold bindL
    rw [bindL_out fun w hw => h w (List.mem_cons_of_mem _ hw)]
    split
    · have : x ≠ n := by rintro rfl; exact h v List.mem_cons_self
      simp [this]
    · rfl
theorem bindC_out {kindOf : Str → Option NameKind} {x : Str} : ∀ {binds : List (Str × Value)} {m : Str → Option Value}, (∀ v, (x, v) ∉ binds) → bindC kindOf binds m x = m x
  | [], _, _ => rfl
  | (n, v) :: r, m, h => by
    unfold bindC
    rw [bindC_out fun w hw => h w (List.mem_cons_of_mem _ hw)]
    split
    · rfl
    · have : x ≠ n := by rintro rfl; exact h v List.mem_cons_self
      simp [this]
theorem bindL_get {kindOf : Str → Option NameKind} {x : Str} {v : Value} : ∀ {P : List Str} {vs : List Value} {i : Nat} {m : Str → Option Value}, P.Nodup → P[i]? = some x → vs[i]? = some v → kindOf x = some .local →
    bindL kindOf (P.zip vs) m x = some v
  | [], _, _, _, _, h, _, _ => by simp at h
  | _ :: _, [], _, _, _, _, h, _ => by simp at h
  | p :: P, w :: vs, 0, m, nd, h1, h2, hk => by
    simp at h1 h2; subst h1; subst h2
    show bindL kindOf ((p, w) :: P.zip vs) m p = _
    unfold bindL
    rw [bindL_out fun v hv => (List.nodup_cons.mp nd).1 (List.of_mem_zip hv).1, if_pos hk]
    simp
  | p :: P, w :: vs, i + 1, m, nd, h1, h2, hk => by
    show bindL kindOf ((p, w) :: P.zip vs) m x = _
    unfold bindL
    exact bindL_get (i := i) (List.nodup_cons.mp nd).2 (by simpa using h1) (by simpa using h2) hk
theorem bindC_get {kindOf : Str → Option NameKind} {x : Str} {v : Value} : ∀ {P : List Str} {vs : List Value} {i : Nat} {m : Str → Option Value}, P.Nodup → P[i]? = some x → vs[i]? = some v → kindOf x ≠ some .local →
    bindC kindOf (P.zip vs) m x = some v
  | [], _, _, _, _, h, _, _ => by simp at h
  | _ :: _, [], _, _, _, _, h, _ => by simp at h
  | p :: P, w :: vs, 0, m, nd, h1, h2, hk => by
    simp at h1 h2; subst h1; subst h2
    show bindC kindOf ((p, w) :: P.zip vs) m p = _
    unfold bindC
    rw [bindC_out fun v hv => (List.nodup_cons.mp nd).1 (List.of_mem_zip hv).1, if_neg hk]
    simp
  | p :: P, w :: vs, i + 1, m, nd, h1, h2, hk => by
    show bindC kindOf ((p, w) :: P.zip vs) m x = _
    unfold bindC
    exact bindC_get (i := i) (List.nodup_cons.mp nd).2 (by simpa using h1) (by simpa using h2) hk

/-- the names' values at the entry -/
def start (N : List Str) (vs : List V) : St := vs.map some ++ List.replicate (N.length - vs.length) none

/-- the context of a def's body, at its entry; an exception leaves the frame, then lies as CX says -/
def cxOf (CX : CXT) (P : Program) (w : World) (K : PySem.W.Frag) (mg : Str → Option Value) (base : Heap) (N : List Str) (qual : Str) (scope : Scope) (f : Addr) (cd : Value) (A : Around) (outer : List Env) (s : Shared) (H : Hp) (E : XK) : Cx where
  prog := P
  w := w
  K := K
  mg := mg
  base := base
  A := A.deeper (envOfC qual scope s.heap.objs.size f cd)
  N := N
  s_0 := s
  H_0 := H
  env := envOfC qual scope s.heap.objs.size f cd
  outer := outer
  stack := envOfC qual scope s.heap.objs.size f cd :: outer
  ex := []
  calm := true
  fn := fun _ => true
  pn := []
  xe := fun e s' => wpAny (model P w) (A.deeper (envOfC qual scope s.heap.objs.size f cd)) (leaving (envOfC qual scope s.heap.objs.size f cd) e) (fun _ s'' => CX outer H s E e s'') (fun e' s'' => CX outer H s E e' s'') s'

theorem cell_has {sc : Scope} {n : Nat} {x : Str} (h : sc.names.lookup x = some .cell) : ∃ c, (cellsFrom n sc.names []).lookup x = some c := by
  have q := PySem.W.cellsFrom_some sc.names n [] (.inl h)
  exact Option.isSome_iff_exists.mp q

theorem inv_start {CX : CXT} {P : Program} {w : World} {K : PySem.W.Frag} {mg : Str → Option Value} {base : Heap} {N ps : List Str} {qual : Str} {scope : Scope} {f : Addr} {cd : Value} {A : Around} {outer : List Env} {s s1 : Shared} {H : Hp} {E : XK} {us : List Value} {vs : List V}
    (S : FnScope N ps scope) (hd : A.handled = none) (e0 : Env0 P w K mg base A outer s H) (hl : vs.length = ps.length) (r : Vals vs us)
    (x : InCallC s s.heap.objs.size (bindL (envOfC qual scope s.heap.objs.size f cd).kindOf (ps.zip us) fun _ => none) (cellsFrom (s.heap.objs.size + 1) scope.names []) (bindC (envOfC qual scope s.heap.objs.size f cd).kindOf (ps.zip us) fun _ => none) s1) :
    Inv (cxOf CX P w K mg base N qual scope f cd A outer s H E) [] (start N vs) H s1 := by
  have hpl : ps.length ≤ N.length := by have := congrArg List.length S.pre; rw [List.length_take] at this; omega
  obtain ⟨h1, tk, rfl, hk⟩ := x.done
  have noA : ∀ b : Addr, b ∉ (cxOf CX P w K mg base N qual scope f cd A outer s H E).ex := fun b z => absurd (show b ∈ ([] : List Addr) from z) (by simp)
  refine ⟨⟨e0.mod, S.kind, rfl, rfl, Nat.le_refl _, fun y z c h1 h2 => ?_, fun y hy => ?_, fun y c _ h => ?_, fun _ => hd, Around.frames_deeper e0.frames, .inr ⟨rfl, rfl⟩, fun b z => absurd z (noA b), e0.bs, e0.bsz, fun b _ _ => noA b, fun b z => absurd z (noA b), e0.funs, e0.frf⟩,
    rfl, e0.bare, Un.kept hk, ⟨_, x.toInCall.ns, fun i y v h1 h2 h3 => ?_⟩, fun y c h => ⟨_, x.cell y c h⟩, e0.hok.fresh (Nat.le_refl _), fun y c h => ?_, fun p hp => absurd (show p ∈ ([] : List (Addr × Obj)) from hp) (by simp), e0.hok.kept hk, ?_⟩
  · exact name_of_addr x.apart (PySem.mem_of_lookup h1) (PySem.mem_of_lookup h2)
  · have hy : scope.names.lookup y = some .cell ∨ scope.names.lookup y = some .free := hy
    rcases hy with hy | hy
    · exact cell_has hy
    · exact absurd rfl (S.nofree _ (PySem.mem_of_lookup hy))
  · exact Nat.le_of_lt (x.above y c (PySem.mem_of_lookup h))
  · have hi : i < vs.length := by
      unfold start at h2
      by_cases hi : i < vs.length
      · exact hi
      · rw [List.getElem?_append_right (by simpa using hi)] at h2
        rw [List.getElem?_replicate] at h2
        split at h2 <;> cases h2
    have ha : vs[i]? = some v := by
      unfold start at h2
      rw [List.getElem?_append_left (by simpa using hi), List.getElem?_map] at h2
      cases e : vs[i]? with
      | none => rw [e] at h2; cases h2
      | some a => rw [e] at h2; cases h2; rfl
    obtain ⟨u, hu, rv⟩ := r.get ha
    have hp : ps[i]? = some y := by
      rw [← S.pre, List.getElem?_take_of_lt (by omega)]; exact h1
    have ndP : ps.Nodup := by rw [← S.pre]; exact S.nd.sublist (List.take_sublist _ _)
    refine ⟨u, rv, ?_⟩
    rcases S.par y (List.mem_of_getElem? hp) with k | k
    · exact .inl ⟨k, bindL_get ndP hp hu k⟩
    · obtain ⟨c, e⟩ := cell_has (n := s.heap.objs.size + 1) k
      refine .inr ⟨.inl k, c, e, ?_⟩
      have q := x.cell y c e
      rw [bindC_get ndP hp hu (by show scope.names.lookup y ≠ _; rw [k]; decide)] at q
      exact q
  · exact e0.hok.fresh (Nat.le_of_lt (x.above y c (PySem.mem_of_lookup h)))
  · unfold start
    show _ = N.length
    rw [List.length_append, List.length_map, List.length_replicate]
    omega

/-- THE RULE: a def (or a method) of the text, by its body. The body's reading t is chosen for each entry; it is run at the parameters' values -/
theorem fn_of {CX : CXT} {P : Program} {w : World} {K : PySem.W.Frag} {mg : Str → Option Value} {base : Heap} {k : Nat} {f : Addr} {name qual : Str} {params : Arguments} {body : List Stmt} {scope : Scope} {dV kV doc pm cdv ct oc : Value} {an od : Option Addr}
    {osl : Array (Option Value)} {N ps : List Str} {sp : Sp} (lk : K.lookup f = some ⟨oc, od, .func (PySem.W.fnOf name qual params body scope dV kV doc pm an cdv ct), osl⟩) (hcd : PySem.W.codeIn K cdv qual = true) (S : FnScope N ps scope)
    (len : ∀ vs H Q E, sp vs H Q E → vs.length = ps.length)
    (hbody : ∀ (A : Around) (outer : List Env) (s : Shared) (H : Hp) (vs : List V) (Q : VK) (E : XK), Room k (A.deeper (envOfC qual scope s.heap.objs.size f cdv)) → sp vs H Q E →
      ∃ t, PSs (cxOf CX P w K mg base N qual scope f cdv A outer s H E) body t ∧ t { nx := fun _ H' => Q .non H', rt := Q } (start N vs) H) :
    FnOk P w K mg base CX (k + 1) f (PySem.W.fnOf name qual params body scope dV kV doc pm an cdv ct) ps sp := by
  refine ⟨len, fun A outer s H args us vs Q E hr e0 hb r hsp => ?_⟩
  have hl := len _ _ _ _ hsp
  have KX : K.In s.heap := e0.mod.kin.keeps fun b o e => (e0.bs b o e).1
  have lim : s.heap.NoLimit := e0.mod.nolimit.keeps fun b o e => (e0.bs b o e).1
  have hkind : ∀ y ∈ ps.zip us, scope.names.lookup y.1 = some .local ∨ (scope.names.lookup y.1 = some .cell ∧ ((cellsFrom (s.heap.objs.size + 1) scope.names []).lookup y.1).isSome = true) := fun ⟨n, v⟩ hy => by
    rcases S.par n (List.of_mem_zip hy).1 with q | q
    · exact .inl q
    · exact .inr ⟨q, PySem.W.cellsFrom_some _ _ _ (.inl q)⟩
  refine codeAny_call_function hr.depth (KX _ _ lk) rfl S.co S.gen rfl (PySem.W.codeRec_of KX hcd) (hb _ _ _ _ ?_)
  refine wpAny_newFunctionEnv_cells S.kind hkind fun env he s1 x => ?_
  subst he
  refine ⟨lim.keeps x.toInCall.keep, codeAny_func ?_⟩
  obtain ⟨t, ht, hq⟩ := hbody A outer s H vs Q E (hr.deeper _) hsp
  have I : Inv (cxOf CX P w K mg base N qual scope f cdv A outer s H E) [] (start N vs) H s1 := inv_start S hr.hd e0 hl r x
  refine wpAny_mono (ht [] s1 (start N vs) H _ I hq) (fun fl s' hs => ?_) fun e s' hs => hs
  have fin : ∀ {σ' : St} {H' : Hp} {v : V} {u : Value}, Inv (cxOf CX P w K mg base N qual scope f cdv A outer s H E) [] σ' H' s' → RelV v u → Q v H' → CE outer P w H s Q u s' :=
    fun {σ' H' v u} J rv q => ⟨v, H', J.os, J.bare, J.base, J.hok, rv, q⟩
  cases fl with
  | ret u =>
    obtain ⟨v, σ', H', J, rv, q⟩ := hs
    exact fin J rv q
  | next =>
    obtain ⟨σ', H', J, q⟩ := hs
    exact fin (v := V.non) (u := Value.none) J rfl q
  | brk =>
    obtain ⟨_, _, _, q⟩ := hs
    exact False.elim q
  | cont =>
    obtain ⟨_, _, _, q⟩ := hs
    exact False.elim q
end L2

namespace L2
open PySem PySem.Spec PyProof.Rows
section
variable {X : Cx} {x : Str} {p pos : Pos} {e : Expr} {es : List Expr} {t : TA} {id T : String} {r : List V → Hp → VK → Prop}

def tCB (r : List V → Hp → VK → Prop) (t : TA) : TE := fun σ H Q => t σ H fun vs H1 => r vs H1 Q
/-- f(e, ..), f a built-in function -/
theorem pe_callB (hc : CallR X (.builtin id) r) (hg : Gl X x) (hm : X.mg x = none) (hv : bootBuiltins x = some (.builtin id)) (ha : PA X (e :: es) t) (hn : x ≠ "__name__" := by decide) (hdb : (x == ("__debug__" : Str)) = false := by decide)
    (he : starEach (e :: es) X.env = (false, eval e X.env) :: starEach es X.env := by rfl) (hpl : (backTo pos (starEach es X.env)).any (·.1) = false := by rfl) : PE X (.Call (.Name x p) (e :: es) [] pos) (tCB r t) := by
  intro pins s σ H Q I h
  refine wpAny_Call_Name_kw (ld_blt I hg hm hv ?_ hn hdb)
  exact PyProof.Rows.callWith_builtin1 (thn (ha pos pins s σ H _ I h) fun us s1 ⟨vs, H1, I1, r1, q1⟩ => hc pins s1 σ H1 vs us Q I1 r1 q1) he hpl
end
end L2

namespace HT
open PySem PyProof.Rows

section
open PySem.SeqAt
open PySem.AutoSeq1 (wpAny_loadPart')
open PySem.MeetsSeq PySem.MeetsSeq2 PySem.MeetsSeq3

end

section
variable {prog : Program} {w : World} {A : Around} {E : Value → Shared → Prop} {s : Shared}

/-! ### t[a:b], not the whole -/
/-- a slice's bound as a place among n (d where it is left out) -/
def sIx (n d : Nat) : Option Int → Nat
  | none => d
  | some v => if v < 0 then (v + (n : Int)).toNat else min v.toNat n
theorem sIx_none (n d : Nat) : sIx n d none = d := rfl
theorem sIx_nat (n d k : Nat) : sIx n d (some (k : Int)) = min k n := by
  show (if (k : Int) < 0 then ((k : Int) + (n : Int)).toNat else min (k : Int).toNat n) = min k n
  rw [if_neg (by omega), Int.toNat_natCast]

end
end HT

namespace L2
open PySem PySem.Spec PyProof.Rows

/-! ### the parts of a slice -/
abbrev TO := St → Hp → (Option Int → Hp → Prop) → Prop
/-- a slice's part (left out, or an int) -/
def PO (X : Cx) (e : Option Expr) (t : TO) : Prop :=
  ∀ (pins : List (Addr × Obj)) (s : Shared) (σ : St) (H : Hp) (Q : Option Int → Hp → Prop), Inv X pins σ H s → t σ H Q →
    wpAny (model X.prog X.w) X.A (evalPart e X.env) (fun u s' => ∃ o H', Inv X pins σ H' s' ∧ IsPart u o ∧ Q o H') X.xe s
def tNoPart : TO := fun _ H Q => Q none H
def tPart (t : TE) : TO := fun σ H Q => t σ H fun x H1 => ∃ i, x = .int i ∧ Q (some i) H1

section
variable {X : Cx} {e : Expr} {te : TE} {lo hi : Option Expr} {tl th : TO} {pos p2 : Pos}

theorem po_none : PO X none tNoPart := by
  intro pins s σ H Q I h
  rw [evalPart_none]
  exact wpAny_pure ⟨none, H, I, .none, h⟩
theorem po_some (h : PE X e te) : PO X (some e) (tPart te) := by
  intro pins s σ H Q I hw
  rw [evalPart_some]
  refine thn (h pins s σ H _ I hw) fun u s1 ⟨x, H1, I1, r1, q1⟩ => ?_
  obtain ⟨i, rfl, q⟩ := q1
  obtain ⟨t, rfl⟩ := r1
  exact ⟨some i, H1, I1, .int i t, q⟩

/-- what a slice of a value is, by values: the slice object stands at sl -/
def SlR (X : Cx) (r : V → Option Int → Option Int → Hp → VK → Prop) : Prop :=
  ∀ (pins : List (Addr × Obj)) (s : Shared) (σ : St) (H : Hp) (x : V) (v vl vu : Value) (lo hi : Option Int) (sl : Addr) (Q : VK), Inv X pins σ H s → RelV x v → s.heap.IsSliceOf sl vl vu .none → IsPart vl lo → IsPart vu hi → r x lo hi H Q →
    ∃ T id, typeLookup (.type T) "__getitem__" = pure (some (.builtin id)) ∧ s.TypeIs v T ∧ wpAny (model X.prog X.w) X.A (getItem v (.ref sl)) (EP X pins σ Q) X.xe s
def tSl (r : V → Option Int → Option Int → Hp → VK → Prop) (te : TE) (tl th : TO) : TE := fun σ H Q => te σ H fun x H1 => tl σ H1 fun l H2 => th σ H2 fun u H3 => r x l u H3 Q
/-- a[lo:hi], any a -/
theorem pe_slice {r : V → Option Int → Option Int → Hp → VK → Prop} (hr : SlR X r) (he : PE X e te) (hl : PO X lo tl) (hu : PO X hi th) : PE X (.Subscript e (.Slice lo hi none p2) pos) (tSl r te tl th) := by
  intro pins s σ H Q I h
  refine Subscript_ (thn (he pins s σ H _ I h) fun v s1 ⟨x, H1, I1, r1, q1⟩ => ?_)
  refine wpAny_Slice (thn (hl pins s1 σ H1 _ I1 q1) fun vl s2 ⟨l, H2, I2, pl, q2⟩ => thn (hu pins s2 σ H2 _ I2 q2) fun vu s3 ⟨u, H3, I3, pu, q3⟩ => ?_)
  rw [evalPart_none]
  refine wpAny_pure ?_
  have I4 : Inv X pins σ H3 { s3 with heap := s3.heap.push { cls := .type "slice", data := .fields #[vl, vu, .none] } } := I3.kept (t' := s3.toks) fun b ob q => Heap.get?_push_of_some _ q
  obtain ⟨T, id, hT, ht, hg⟩ := hr pins { s3 with heap := s3.heap.push { cls := .type "slice", data := .fields #[vl, vu, .none] } } σ H3 x v vl vu l u s3.heap.objs.size Q I4 r1 (Heap.IsSliceOf.new ..) pl pu q3
  show wpAny (model X.prog X.w) X.A (subscriptTail e (.Slice lo hi none p2) v (.ref s3.heap.objs.size)) (EP X pins σ Q) X.xe { s3 with heap := s3.heap.push { cls := .type "slice", data := .fields #[vl, vu, .none] } }
  exact tail_any (ops := [.ref s3.heap.objs.size, v]) ht hT hg (by with_unfolding_all rfl)

/-- the items of xs[lo:hi] -/
def cutV (xs : List V) (lo hi : Option Int) : List V := (xs.drop (HT.sIx xs.length 0 lo)).take (HT.sIx xs.length xs.length hi - HT.sIx xs.length 0 lo)
theorem cutV_length (xs : List V) (lo hi : Option Int) : (cutV xs lo hi).length ≤ xs.length := by
  unfold cutV
  rw [List.length_take, List.length_drop]
  omega

/-! ### t < u, t + u -/
end
end L2

namespace L2
open PySem PySem.Spec PyProof.Rows

/-! ### places -/
/-- the place that an index of any sign means -/
def ixN (n : Nat) (i : Int) : Option Nat := if 0 ≤ i then (if i < n then some i.toNat else none) else if -(n : Int) ≤ i then some (i + n).toNat else none
def atI {α : Type} (xs : List α) (i : Int) : Option α := (ixN xs.length i).bind fun j => xs[j]?
theorem ixN_seq {n : Nat} {i : Int} {j : Nat} (h : ixN n i = some j) : seqIndex? i n = some j ∧ j < n ∧ -(n : Int) ≤ i ∧ i < n := by
  unfold ixN at h
  by_cases h0 : 0 ≤ i
  · rw [if_pos h0] at h
    by_cases h1 : i < n
    · rw [if_pos h1] at h
      have e : i.toNat = j := Option.some.inj h
      exact ⟨by rw [seqIndex_of h0 h1, e], by omega, by omega, h1⟩
    · rw [if_neg h1] at h; cases h
  · rw [if_neg h0] at h
    by_cases h1 : -(n : Int) ≤ i
    · rw [if_pos h1] at h
      have e : (i + n).toNat = j := Option.some.inj h
      exact ⟨by rw [seqIndex_neg (by omega) h1, e], by omega, h1, by omega⟩
    · rw [if_neg h1] at h; cases h
theorem atI_get {α : Type} {xs : List α} {i : Int} {v : α} (h : atI xs i = some v) : ∃ j, seqIndex? i xs.length = some j ∧ xs[j]? = some v ∧ j < xs.length ∧ -(xs.length : Int) ≤ i ∧ i < xs.length := by
  unfold atI at h
  cases e : ixN xs.length i with
  | none => rw [e] at h; cases h
  | some j =>
    rw [e] at h
    obtain ⟨h1, h2, h3, h4⟩ := ixN_seq e
    exact ⟨j, h1, h, h2, h3, h4⟩
theorem atI_nat {α : Type} {xs : List α} {j : Nat} {v : α} (h : xs[j]? = some v) : atI xs (j : Int) = some v := by
  have hj : j < xs.length := (List.getElem?_eq_some_iff.mp h).1
  have e : ixN xs.length (j : Int) = some j := by
    unfold ixN
    rw [if_pos (by omega), if_pos (by omega)]; simp
  unfold atI; rw [e]; exact h
theorem atI_last {α : Type} (xs : List α) (v : α) : atI (xs ++ [v]) (-1) = some v := by
  have hl : (xs ++ [v]).length = xs.length + 1 := by simp
  have e : ixN (xs ++ [v]).length (-1) = some xs.length := by
    unfold ixN
    rw [hl, if_neg (by decide), if_pos (by omega)]
    congr 1
    omega
  unfold atI
  rw [e]
  show (xs ++ [v])[xs.length]? = some v
  simp

/-! ### what may be subscripted -/
/-- what stands as an index of a plain subscript -/
def PlainIx (b : Expr) : Prop := ∀ o i, subscripted b false o i = operate [o, i] (getItem o i)
/-- a subscript by values -/
def IxR (X : Cx) (r : R2) : Prop :=
  ∀ (value slice : Expr) (pins : List (Addr × Obj)) (s : Shared) (σ : St) (H : Hp) (x y : V) (v u : Value) (Q : VK), Inv X pins σ H s → RelV x v → RelV y u → r x y H Q →
    subscripted slice false v u = operate [v, u] (getItem v u) → wpAny (model X.prog X.w) X.A (subscriptTail value slice v u) (EP X pins σ Q) X.xe s
/-- a call of a builtin's method by values: the receiver, the arguments -/
def MtR (X : Cx) (id : String) (r : V → List V → Hp → VK → Prop) : Prop :=
  ∀ (pins : List (Addr × Obj)) (s : Shared) (σ : St) (H : Hp) (x : V) (xs : List V) (v : Value) (us : List Value) (Q : VK), Inv X pins σ H s → RelV x v → Vals xs us → r x xs H Q →
    wpAny (model X.prog X.w) X.A (call (.builtin id) (v :: us)) (EP X pins σ Q) X.xe s
section
variable {X : Cx} {a b : Expr} {ta tb : TE} {pos : Pos}
/-- a[b] -/
theorem pe_ix {r : R2} (hr : IxR X r) (ha : PE X a ta) (hb : PE X b tb) (hs : PlainIx b) : PE X (.Subscript a b pos) (tOp r ta tb) := by
  intro pins s σ H Q I h
  exact Subscript_ (binT ha hb I h fun v u s2 x y H2 I2 rx ry q => hr a b pins s2 σ H2 x y v u Q I2 rx ry q (hs _ _))

def rIxL (K : PySem.W.Frag) : R2 := fun x y H Q => ∃ p xs i v, x = .ref p ∧ y = .int i ∧ SqL K H p xs ∧ atI xs i = some v ∧ Q v H
def rIxT (K : PySem.W.Frag) : R2 := fun x y H Q => ∃ p xs i v, x = .ref p ∧ y = .int i ∧ SqT K H p xs ∧ atI xs i = some v ∧ Q v H
theorem ix_list : IxR X (rIxL X.K) := by
  intro value slice pins s σ H x y v u Q I rx ry h hs
  obtain ⟨p, xs, i, z, rfl, rfl, hq, he, q⟩ := h
  cases rx
  obtain ⟨t, rfl⟩ := ry
  obtain ⟨its, r, pl, hz⟩ := I.list hq
  obtain ⟨j, h1, h2, h3, h4, h5⟩ := atI_get he
  obtain ⟨w, ew, rw'⟩ := r.get h2
  have hl := r.length
  have hn := line63
  have fin : EP X pins σ Q w s := ⟨z, H, I, rw', q⟩
  by_cases h0 : 0 ≤ i
  · have hj : i.toNat = j := by
      rw [seqIndex_of h0 h5] at h1
      exact Option.some.inj h1
    exact item_listR pl.isList h0 (by omega) (by rw [hj]; simpa using ew) fin hs
  · have hj : (i + (its.toArray.size : Int)).toNat = j := by
      rw [seqIndex_neg (by omega) h4] at h1
      rw [List.size_toArray, ← hl]
      exact Option.some.inj h1
    exact subscriptTail_builtinR (x := w) pl.isList.typeIs slot_list_getitem.lookup
      (wpAny_getItem_list_neg (Q := fun r s' => r = w ∧ EP X pins σ Q r s') pl.isList (by omega) (by rw [List.size_toArray] <;> omega) (by omega) (by rw [hj]; simpa using ew) ⟨rfl, fin⟩) hs
theorem ix_tup : IxR X (rIxT X.K) := by
  intro value slice pins s σ H x y v u Q I rx ry h hs
  obtain ⟨p, xs, i, z, rfl, rfl, hq, he, q⟩ := h
  cases rx
  obtain ⟨t, rfl⟩ := ry
  obtain ⟨its, r, pl, hz⟩ := I.tuple hq
  obtain ⟨j, h1, h2, h3, h4, h5⟩ := atI_get he
  obtain ⟨w, ew, rw'⟩ := r.get h2
  have hl := r.length
  have hn := line63
  have fin : EP X pins σ Q w s := ⟨z, H, I, rw', q⟩
  exact subscriptTail_builtinR (x := w) pl.typeIs slot_tuple_getitem.lookup
    (getItem_tuple (j := j) (Q := fun r s' => r = w ∧ EP X pins σ Q r s') pl (by omega) (by omega) (by rw [List.size_toArray, ← hl]; exact h1) (by simpa using ew) ⟨rfl, fin⟩) hs

/-! ### xs[i] = v, any sign -/

/-! ### slices -/
theorem slice_bounds (lo hi : Option Int) (n : Nat) : (sliceBounds lo hi none n).1 = ((HT.sIx n 0 lo : Nat) : Int) ∧ (sliceBounds lo hi none n).2.1 = ((HT.sIx n n hi : Nat) : Int) ∧ (sliceBounds lo hi none n).2.2 = 1 := by
  refine ⟨?_, ?_, rfl⟩
  · cases lo with
    | none => simp [sliceBounds, HT.sIx]
    | some i =>
      simp only [sliceBounds, HT.sIx, Option.getD_none, show (1 : Int) > 0 by decide, if_true]
      by_cases h : i < 0
      · simp only [h, if_true] <;> omega
      · simp only [h, if_false] <;> omega
  · cases hi with
    | none => simp [sliceBounds, HT.sIx]
    | some i =>
      simp only [sliceBounds, HT.sIx, Option.getD_none, show (1 : Int) > 0 by decide, if_true]
      by_cases h : i < 0
      · simp only [h, if_true] <;> omega
      · simp only [h, if_false] <;> omega
theorem slicePick_cut (its : List Value) (lo hi : Option Int) : slicePick its.toArray lo hi none = ((its.drop (HT.sIx its.length 0 lo)).take (HT.sIx its.length its.length hi - HT.sIx its.length 0 lo)).toArray := by
  obtain ⟨h1, h2, h3⟩ := slice_bounds lo hi its.toArray.size
  unfold slicePick
  rw [h1, h2, h3]
  simp only [sliceRange_one, pick_run, List.size_toArray] <;> rfl
/-- xs[lo:hi] of a list: a new list -/
def rSlL (K : PySem.W.Frag) : V → Option Int → Option Int → Hp → VK → Prop := fun x lo hi H Q => ∃ a xs, x = .ref a ∧ SqL K H a xs ∧ ∀ p, H p = none → Q (.ref p) (upd H p (.lst (cutV xs lo hi)))
theorem sl_list : SlR X (rSlL X.K) := by
  intro pins s σ H x v vl vu lo hi sl Q I rx hs pl pu h
  obtain ⟨a, xs, rfl, hx, q⟩ := h
  cases rx
  obtain ⟨its, r, ht, hz⟩ := I.list hx
  have hlen := r.length
  refine ⟨"list", _, slot_list_getitem.lookup, ht.isList.typeIs, ?_⟩
  refine wpAny_getItem_list_slice ht.isList hs pl pu .none (by simp) ?_ (by rw [List.size_toArray] <;> omega)
  rw [slicePick_cut, ← hlen]
  refine ⟨.ref s.heap.objs.size, _, I.laid (t' := s.toks) (o := .lst (cutV xs lo hi)) (fun b ob q => Heap.get?_push_of_some _ q) (Nat.le_refl _) ?_, rfl, q _ (I.hok.fresh (Nat.le_refl _))⟩
  exact ⟨Nat.le_trans (cutV_length xs lo hi) hz, _, 0, (r.drop (HT.sIx xs.length 0 lo)).take (HT.sIx xs.length xs.length hi - HT.sIx xs.length 0 lo), Heap.get?_push_size _ rfl⟩

/-! ### in, not in: flat items -/

/-! ### len, list(x), tuple(x) of any list or tuple that is read -/
theorem call_len_seq : CallR X (.builtin "len") (fun xs H Q => ∃ p ys, xs = [.ref p] ∧ (SqL X.K H p ys ∨ SqT X.K H p ys) ∧ Q (.int ys.length) H) := by
  intro pins s σ H xs us Q I r h
  obtain ⟨p, ys, rfl, hq, q⟩ := h
  obtain ⟨u, rfl, rx⟩ := vals1 r
  cases rx
  have hn := line63
  rcases hq with hq | hq
  · obtain ⟨its, r', pl, hz⟩ := I.list hq
    have hlen := r'.length
    exact Calls.call_len_list pl.isList (by simp only [List.size_toArray] <;> omega) ⟨.int ys.length, H, I.tok _, ⟨s.toks + 1, by rw [List.size_toArray, hlen]⟩, q⟩
  · obtain ⟨its, r', pl, hz⟩ := I.tuple hq
    have hlen := r'.length
    exact len_tuple pl (by simp only [List.size_toArray] <;> omega) ⟨.int ys.length, H, I.tok _, ⟨s.toks + 1, by rw [List.size_toArray, hlen]⟩, q⟩

/-! ### the call of a builtin's method: o.m(..) -/
/-- the value is of that builtin type -/
def tyV (K : PySem.W.Frag) (T : String) (x : V) (H : Hp) : Prop := match x with
  | .str _ => T = "str"
  | .int _ => T = "int"
  | .ref p => (T = "list" ∧ ∃ xs, SqL K H p xs) ∨ (T = "tuple" ∧ ∃ o, K.lookup p = some o ∧ o.cls = .type "tuple" ∧ o.dict = none) ∨
      (T = "dict" ∧ ((∃ kvs, H p = some (.dK kvs)) ∨ ∃ kvs, H p = some (.dT kvs))) ∨ (T = "set" ∧ ∃ S n, H p = some (.set S n))
  | _ => False
theorem tyV_is {pins : List (Addr × Obj)} {σ : St} {H : Hp} {s : Shared} {T : String} {x : V} {v : Value} (I : Inv X pins σ H s) (r : RelV x v) (ty : tyV X.K T x H) :
    s.TypeIs v T ∧ ∀ a, v = .ref a → ∃ ob, s.heap.get? a = some ob ∧ ob.dict = none := by
  cases x with
  | str z =>
    obtain ⟨t, rfl⟩ := r
    cases (show T = "str" from ty)
    exact ⟨typeIs_str s z t, fun _ e => nomatch e⟩
  | int i =>
    obtain ⟨t, rfl⟩ := r
    cases (show T = "int" from ty)
    exact ⟨typeIs_int s i t, fun _ e => nomatch e⟩
  | ref p =>
    cases r
    rcases ty with ⟨rfl, xs, hq⟩ | ⟨rfl, o, hk, hc, hd⟩ | ⟨rfl, hk⟩ | ⟨rfl, S, n, hk⟩
    · obtain ⟨its, _, pl, _⟩ := I.list hq
      refine ⟨pl.isList.typeIs, fun a e => ?_⟩
      cases e
      obtain ⟨o, n, e, c, hd, _⟩ := pl
      exact ⟨o, e, hd⟩
    · refine ⟨⟨o, I.kIn p o hk, hc⟩, fun a e => ?_⟩
      cases e
      exact ⟨o, I.kIn _ o hk, hd⟩
    · have z : ∃ o, s.heap.get? p = some o ∧ o.ExactDict := by
        rcases hk with ⟨kvs, hk⟩ | ⟨kvs, hk⟩
        · obtain ⟨_, _, _, _, o, _, _, e, ex, _⟩ := I.hok p _ hk
          exact ⟨o, e, ex⟩
        · obtain ⟨_, _, _, _, o, _, _, e, ex, _⟩ := I.hok p _ hk
          exact ⟨o, e, ex⟩
      obtain ⟨o, e, ex⟩ := z
      refine ⟨⟨o, e, ex.1⟩, fun a e2 => ?_⟩
      cases e2
      exact ⟨o, e, ex.2.1⟩
    · obtain ⟨o, _, _, _, e, ex, _⟩ := I.hok p _ hk
      refine ⟨⟨o, e, ex.1⟩, fun a e2 => ?_⟩
      cases e2
      exact ⟨o, e, ex.2.1⟩
  | _ => exact False.elim ty
def tBM (K : PySem.W.Frag) (T : String) (r : V → List V → Hp → VK → Prop) (to : TE) (t : TA) : TE := fun σ H Q => to σ H fun x H1 => tyV K T x H1 ∧ t σ H1 fun xs H2 => r x xs H2 Q
variable {o e : Expr} {es : List Expr} {to : TE} {t : TA} {name : Str} {apos cpos : Pos} {T id : String} {r : V → List V → Hp → VK → Prop}
theorem pe_bm (pa : PlainAttrs T) (slot : Slot T name id) (hty : typeOf (.builtin id) = pure (.type "method_descriptor")) (hm : MtR X id r) (ho : PE X o to) (ha : PA X (e :: es) t)
    (hbase : attributeBase o name X.env (eval o X.env) = eval o X.env := by rfl)
    (hfew : ((backTo cpos (starEach (e :: es) X.env)).all (fun x => !x.1) && (backToKw cpos (keywordEach [] X.env)).all (fun x => x.1.isSome)
      && decide ((e :: es).length + ([] : List Keyword).length + (if ([] : List Keyword).isEmpty then 0 else 1) < 30)) = true := by rfl)
    (hline : (apos.endLine == cpos.line) = true := by rfl) (hs : starEach (e :: es) X.env = (false, eval e X.env) :: starEach es X.env := by rfl) (hplain : (backTo cpos (starEach es X.env)).any (·.1) = false := by rfl) :
    PE X (.Call (.Attribute o name apos) (e :: es) [] cpos) (tBM X.K T r to t) := by
  intro pins s σ H Q I h
  refine wpAny_Call_method_late hbase hfew hline rfl (thn (ho pins s σ H _ I h) fun v s1 ⟨x, H1, I1, r1, ty, q1⟩ => ?_)
  obtain ⟨h1, h2⟩ := tyV_is I1 r1 ty
  refine ⟨T, id, pa, slot, hty, h1, h2, ?_⟩
  have hA := ha cpos pins s1 σ H1 _ I1 q1
  rw [hs] at hA ⊢
  refine Calls.callWith_builtin (by show (false || (backTo cpos (starEach es X.env)).any (·.1)) = false; rw [hplain] <;> rfl) (Calls.evalArgs_plain ?_)
  exact thn hA fun us s2 ⟨vs, H2, I2, r2, q2⟩ => hm pins s2 σ H2 x vs v us Q I2 r1 r2 q2
/- xs.append(e), list.index on a module's tuple .. are MtR facts of 06m -/
end
end L2

namespace L2
open PySem PySem.Spec PyProof.Rows

def MtM (X : Cx) (id : String) (r : V → List V → Hp → VK → Prop) : Prop :=
  ∀ (pins : List (Addr × Obj)) (s : Shared) (σ : St) (H : Hp) (x : V) (xs : List V) (v : Value) (us : List Value) (Q : VK), Inv X pins σ H s → RelV x v → Vals xs us → r x xs H Q →
    wpAny (model X.prog X.w) X.A (call (.builtin id) (v :: us)) (EP X pins σ Q) X.xe s

/-! ### lists of values -/
theorem Vals.one : ∀ {x : V} {us : List Value}, Vals [x] us → ∃ u, us = [u] ∧ RelV x u
  | _, _, .cons r .nil => ⟨_, rfl, r⟩
theorem Vals.rep {xs : List V} {us : List Value} (h : Vals xs us) : ∀ k : Nat, Vals (List.replicate k xs).flatten (List.replicate k us).flatten
  | 0 => .nil
  | k + 1 => by
    rw [List.replicate_succ, List.replicate_succ, List.flatten_cons, List.flatten_cons]
    exact Vals.append h (Vals.rep h k)
theorem foldl_rep (its : List Value) : ∀ (k : Nat) (acc : List Value),
    List.foldl (fun x1 x2 => x1 ++ x2) acc.toArray (List.replicate k its.toArray) = (acc ++ (List.replicate k its).flatten).toArray
  | 0, acc => by simp
  | k + 1, acc => by
    have e : acc.toArray ++ its.toArray = (acc ++ its).toArray := by simp
    have e2 : (acc ++ its) ++ (List.replicate k its).flatten = acc ++ (List.replicate (k + 1) its).flatten := by
      rw [List.replicate_succ, List.flatten_cons, List.append_assoc]
    rw [← e2, ← foldl_rep its k (acc ++ its), ← e, List.replicate_succ, List.foldl_cons]

section
variable {X : Cx} {pins : List (Addr × Obj)} {σ : St} {H : Hp} {s : Shared} {l b : Addr} {xs ys zs : List V}

/-! ### the two steps: a tracked list is rewritten, a new list is laid -/
theorem Inv.lset {its its' : List Value} {n : Nat} {f : Array Value → Array Value} {t' : Nat} (I : Inv X pins σ H s) (hH : H l = some (.lst xs))
    (e : s.heap.get? l = some { cls := .type "list", data := .seq its.toArray n }) (hf : f its.toArray = its'.toArray) (hv : Vals ys its') (hz : ys.length ≤ sizeLine) :
    Inv X pins σ (upd H l (.lst ys)) { s with heap := s.heap.update l (Obj.mapSeq f), toks := t' } := by
  have q := PySem.IsL.update e f
  rw [hf] at q
  refine I.write (x := l) (e := l) (by rw [hH]; exact trivial) (.inl rfl) (fun b' u hb hu => (Heap.get?_update_other s.heap (Obj.mapSeq f) (Ne.symm hb)).trans hu) ⟨_, q⟩ ?_
  exact ⟨hz, its', _, hv, q⟩
theorem Inv.lnew {its : List Value} {t' : Nat} (I : Inv X pins σ H s) (hv : Vals ys its) (hz : ys.length ≤ sizeLine) :
    Inv X pins σ (upd H s.heap.objs.size (.lst ys)) { s with heap := s.heap.push { cls := .type "list", data := .seq its.toArray }, toks := t' } :=
  I.laid (fun _ _ q => Heap.get?_push_of_some _ q) (Nat.le_refl _) ⟨hz, its, 0, hv, Heap.get?_push_size _ rfl⟩
theorem Inv.fresh (I : Inv X pins σ H s) : H s.heap.objs.size = none := I.hok.fresh (Nat.le_refl _)
theorem Inv.lstM (I : Inv X pins σ H s) (hH : H l = some (.lst xs)) : xs.length ≤ sizeLine ∧ ∃ (its : List Value) (n : Nat), Vals xs its ∧ xs.length = its.length ∧ s.heap.get? l = some { cls := .type "list", data := .seq its.toArray n } := by
  obtain ⟨z, its, n, r, e⟩ := I.hok l _ hH
  exact ⟨z, its, n, r, r.length, e⟩

theorem notLongL {n : Nat} (h : n ≤ sizeLine) : Builtin.List.listTooLong n = false := by
  unfold Builtin.List.listTooLong
  exact decide_eq_false (by omega)
end

section
variable {X : Cx}

/-! ### methods -/
def rAppend : V → List V → Hp → VK → Prop := fun x vs H Q => ∃ l xs y, x = .ref l ∧ vs = [y] ∧ H l = some (.lst xs) ∧ xs.length < sizeLine ∧ Q .non (upd H l (.lst (xs ++ [y])))
theorem mt_append : MtM X "list.append" rAppend := by
  intro pins s σ H x vs v us Q I rx rv h
  obtain ⟨l, xs, y, rfl, rfl, hH, hz, q⟩ := h
  cases rx
  obtain ⟨u, rfl, ru⟩ := rv.one
  obtain ⟨z, its, n, r, hl, e⟩ := I.lstM hH
  refine call_meets F.slot_list_append ⟨_, e, rfl⟩ F.entry_list_append (F.args_list_append_2 _ _) (PySem.list_append l its.toArray n u (by rw [List.size_toArray]; omega)) ⟨e, ?_⟩
  refine ⟨.non, _, I.lset (its' := its ++ [u]) hH e (by simp) (r.append (.cons ru .nil)) ?_, rfl, q⟩
  rw [List.length_append, List.length_singleton]
  omega

def rExtend : V → List V → Hp → VK → Prop := fun x vs H Q => ∃ l b xs zs, x = .ref l ∧ vs = [.ref b] ∧ H l = some (.lst xs) ∧ H b = some (.lst zs) ∧ xs.length + zs.length ≤ sizeLine ∧ Q .non (upd H l (.lst (xs ++ zs)))
theorem mt_extend : MtM X "list.extend" rExtend := by
  intro pins s σ H x vs v us Q I rx rv h
  obtain ⟨l, b, xs, zs, rfl, rfl, hH, hB, hz, q⟩ := h
  cases rx
  obtain ⟨u, rfl, ru⟩ := rv.one
  cases ru
  obtain ⟨z, its, n, r, hl, e⟩ := I.lstM hH
  obtain ⟨z2, its2, n2, r2, hl2, e2⟩ := I.lstM hB
  have hsz : its.toArray.size + its2.toArray.size ≤ sizeLine := by rw [List.size_toArray, List.size_toArray]; omega
  have hlong : ¬ (!its.toArray.isEmpty && Builtin.List.listTooLong (its.toArray.size + its2.toArray.size)) = true := by
    rw [notLongL hsz, Bool.and_false]
    exact Bool.false_ne_true
  refine call_meets F.slot_list_extend ⟨_, e, rfl⟩ F.entry_list_extend (F.args_list_extend_2 _ _)
    (AutoSeq1.list_extend_list_list_0 l its.toArray n b its2.toArray n2 hlong (by rw [List.size_toArray]; omega) (by omega)) ⟨e, e2, ?_⟩
  refine ⟨.non, _, I.lset (its' := its ++ its2) hH e (by simp) (r.append r2) ?_, rfl, q⟩
  rw [List.length_append]
  omega

/-! ### list + list, list += list, list * int -/
def rCat : R2 := fun x y H Q => ∃ l b xs zs, x = .ref l ∧ y = .ref b ∧ H l = some (.lst xs) ∧ H b = some (.lst zs) ∧ xs.length + zs.length ≤ sizeLine ∧ ∀ p, H p = none → Q (.ref p) (upd H p (.lst (xs ++ zs)))
theorem op_cat : OpR X (binaryOp .Add) rCat := by
  intro pins s σ H x y v u Q I rx ry h
  obtain ⟨l, b, xs, zs, rfl, rfl, hH, hB, hz, q⟩ := h
  cases rx
  cases ry
  obtain ⟨z, its, n, r, hl, e⟩ := I.lstM hH
  obtain ⟨z2, its2, n2, r2, hl2, e2⟩ := I.lstM hB
  refine PySem.P.add_list e e2 ?_ (by rw [List.size_toArray, List.size_toArray]; omega)
  have ea : its.toArray ++ its2.toArray = (its ++ its2).toArray := by simp
  rw [ea]
  exact ⟨.ref _, _, I.lnew (t' := s.toks) (r.append r2) (by rw [List.length_append]; omega), rfl, q _ I.fresh⟩
/-- a list times an int (a negative one is nothing) -/
def rRep : R2 := fun x y H Q => ∃ l k xs, x = .ref l ∧ y = .int k ∧ H l = some (.lst xs) ∧ -(2 ^ 63) ≤ k ∧ k < 2 ^ 63 ∧ xs.length * k.toNat ≤ sizeLine ∧
  ∀ p, H p = none → Q (.ref p) (upd H p (.lst (List.replicate k.toNat xs).flatten))
theorem len_rep {α : Type} (xs : List α) (k : Nat) : (List.replicate k xs).flatten.length = k * xs.length := by
  induction k with
  | zero => simp
  | succ k ih => rw [List.replicate_succ, List.flatten_cons, List.length_append, ih, Nat.succ_mul, Nat.add_comm]
theorem op_rep : OpR X (binaryOp .Mult) rRep := by
  intro pins s σ H x y v u Q I rx ry h
  obtain ⟨l, k, xs, rfl, rfl, hH, h1, h2, hz, q⟩ := h
  cases rx
  obtain ⟨t, rfl⟩ := ry
  obtain ⟨z, its, n, r, hl, e⟩ := I.lstM hH
  have hlen : its.toArray.size * k.toNat ≤ sizeLine := by rw [List.size_toArray, ← hl]; exact hz
  have hcap : ¬ its.toArray.size * k.toNat > (2 ^ 63 - 1) / 8 := by
    have : (sizeLine : Nat) ≤ (2 ^ 63 - 1) / 8 := by decide
    omega
  have hfit : ¬ (!Builtin.List.listFitsIndex k) = true := by
    rw [fitsIndex_both h1 h2]
    exact Bool.false_ne_true
  have hlong : ¬ Builtin.List.listTooLong (its.toArray.size * k.toNat) = true := by
    rw [notLongL hlen]
    exact Bool.false_ne_true
  have hnew : List.foldl (fun x1 x2 => x1 ++ x2) #[] (List.replicate (if its.toArray.isEmpty = true then 0 else k.toNat) its.toArray) = (List.replicate k.toNat its).flatten.toArray := by
    have f0 : ∀ m : Nat, List.foldl (fun x1 x2 => x1 ++ x2) #[] (List.replicate m its.toArray) = (List.replicate m its).flatten.toArray := fun m => by
      have := foldl_rep its m []
      rw [List.nil_append] at this
      exact this
    rw [f0]
    cases its with
    | nil => simp
    | cons a r' => rw [if_neg (by simp)]
  refine wpAny_binaryOp_repeat_ref (T := "list") (U := "int") (by decide) ⟨_, e, rfl⟩ (fun s' => typeIs_int s' k t) noFill_list_mul F.fills_int_mul F.slot_int_rmul repeat_list F.slot_int_index.lookup
    (call_meets F.slot_int_rmul (typeIs_int s k t) F.entry_int_rmul (F.args_int_rmul_2 _ _) (int___rmul___int_list k t l its.toArray n)
      ⟨e, rfl, ⟨_, e, rfl⟩, call_meets F.slot_list_mul ⟨_, e, rfl⟩ F.entry_list_mul (F.args_list_mul_2 _ _) (AutoListH.list___mul___list_int_3 l its.toArray n k t hfit hcap hlong) ⟨e, ?_⟩⟩)
  rw [hnew]
  exact ⟨.ref _, _, I.lnew (t' := s.toks) (r.rep k.toNat) (by rw [len_rep, Nat.mul_comm]; exact hz), rfl, q _ I.fresh⟩

/-! ### del xs[i] -/
end

/-! ### xs[a:b] = ys -/
section
variable {prog : Program} {w : World} {A : Around} {E : Value → Shared → Prop} {s : Shared}
set_option maxRecDepth 100000 in
end

end L2

namespace L2
open PySem PySem.Spec PyProof.Rows

theorem Vals.ints : ∀ {ns : List Int} {us : List Value}, Vals (ns.map V.int) us → IntsAre us ns
  | [], us, h => by
    rw [List.map_nil] at h
    cases h
    exact IntsAre.nil
  | n :: ns, us, h => by
    rw [List.map_cons] at h
    cases h with
    | cons r t =>
      obtain ⟨k, rfl⟩ := r
      exact IntsAre.cons n k (Vals.ints t)
theorem Vals.bls : ∀ {bs : List Bool} {us : List Value}, Vals (bs.map V.bl) us → us = bs.map Value.bool
  | [], us, h => by
    rw [List.map_nil] at h
    cases h
    rfl
  | b :: bs, us, h => by
    rw [List.map_cons] at h
    cases h with
    | cons r t =>
      cases r
      rw [Vals.bls t, List.map_cons]
theorem Vals.ref1 {a : Addr} {us : List Value} (r : Vals [V.ref a] us) : us = [Value.ref a] := by
  cases r with
  | cons r t =>
    cases t
    cases r
    rfl

/-! ### the library's walks over a list of ints, kept objects alone -/
section
variable {prog : Program} {w : World} {A : Around} {E : Value → Shared → Prop} {s : Shared} {l : Addr} {its : List Value} {ns : List Int} {Q : Value → Shared → Prop}
theorem max_raw (hh : A.handled = none) (hl : s.heap.IsList l its.toArray) (hi : IntsAre its ns) (hne : 0 < ns.length)
    (h : ∀ h' tk M t', (∀ b o, s.heap.get? b = some o → h'.get? b = some o) → M ∈ ns → (∀ a, a ∈ ns → a ≤ M) → Q (.int M t') { s with heap := h', toks := tk }) : wpAny (model prog w) A (call (.builtin "max") [.ref l]) Q E s := by
  obtain ⟨xs, e⟩ := hi.allInts.items
  have hn : numsOf (intItems xs).toList = ns := by rw [← e]; exact hi.numsOf
  rw [nums_intItems] at hn
  subst hn
  rw [e] at hl
  have hsz : 0 < xs.size := by simpa using hne
  refine PySem.max_intList hh hl hsz fun v h' tk hv hk => ?_
  obtain ⟨t, rfl⟩ := intItems_at hv
  obtain ⟨h1, h2⟩ := argBest_gt (numAt xs) (xs.size - 1)
  refine h h' tk _ t hk ?_ fun a ha => ?_
  · rw [numAt_eq]; exact PySem.getD_mem (by rw [List.length_map, Array.length_toList]; omega)
  · obtain ⟨j, hj, rfl⟩ := mem_getD ha
    rw [List.length_map, Array.length_toList] at hj
    rw [← numAt_eq]; exact h2 j (by omega)
end

/-! ### the calls, by values (CallR of 03t; MtR of 06l) -/
section
variable {X : Cx}
/-- max(xs), min(xs) of a list of ints -/
def rMax (K : PySem.W.Frag) : List V → Hp → VK → Prop := fun vs H Q => ∃ (a : Addr) (ns : List Int), vs = [V.ref a] ∧ SqL K H a (ns.map V.int) ∧ 0 < ns.length ∧ ∀ m, m ∈ ns → (∀ y, y ∈ ns → y ≤ m) → Q (.int m) H
theorem cr_max (hc : X.calm = true) : CallR X (.builtin "max") (rMax X.K) := by
  intro pins s σ H vs us Q I r h
  obtain ⟨a, ns, rfl, hs, hne, q⟩ := h
  obtain ⟨its, rv, hl, _⟩ := I.list hs
  rw [Vals.ref1 r]
  exact max_raw (I.ok.hd hc) hl.isList rv.ints hne fun h' tk m t' hk h1 h2 => ⟨.int _, H, I.kept hk, ⟨_, rfl⟩, q m h1 h2⟩

/-! sorted, sort (fewer than 64 items: the library's own bound) -/
end

/-! ### list.index, flat items -/

/-! ### type(x) of an own instance; is, is not of a module's class -/

/-! ### any(xs), all(xs) of a list of bools -/
theorem iter_any {prog : Program} {w : World} {A : Around} {E : Value → Shared → Prop} {s : Shared} {l : Addr} {items : Array Value} {Q : Value → Shared → Prop} (hl : s.heap.IsList l items)
    (h : ∀ s₂ : Shared, s₂ = { s with heap := s.heap.push { cls := .type "list_iterator", data := .fields #[.ref l, .int 0 0] } } →
      (s₂.heap.IsListIter s.heap.objs.size l 0 ∧ s₂.heap.IsList l items) → l ≠ s.heap.objs.size → Q (.ref s.heap.objs.size) s₂) : wpAny (model prog w) A (pyIter (.ref l)) Q E s := by
  have hlt : l < s.heap.objs.size := by obtain ⟨_, e, _⟩ := hl; exact Heap.lt_size e
  exact wpAny_pyIter_list hl (h _ rfl ⟨⟨_, Heap.get?_push_size _ rfl, rfl, rfl⟩, hl.push _⟩ (Nat.ne_of_lt hlt))
theorem truth_bools {prog : Program} {w : World} {A : Around} {bs : List Bool} {its : List Value} (e : its = bs.map Value.bool) :
    TruthOf prog w A (fun i v => its.toArray[i]? = some v) (fun i => bs.getD i false) := fun i v s Q E hv hq => by
  have hv' : its[i]? = some v := by simpa using hv
  rw [e, List.getElem?_map] at hv'
  obtain ⟨b, hb, rfl⟩ := Option.map_eq_some_iff.mp hv'
  have hg : bs.getD i false = b := by rw [List.getD_eq_getElem?_getD, hb] <;> rfl
  have hq' : Q (bs.getD i false) s := hq
  rw [hg] at hq'
  exact wpAny_truthy_bool hq'
theorem any_range : ∀ bs : List Bool, (List.range bs.length).any (fun i => bs.getD i false) = bs.any id
  | [] => rfl
  | b :: bs => by
    rw [List.length_cons, List.range_succ_eq_map, List.any_cons, List.any_map, List.any_cons, ← any_range bs]
    all_goals rfl
theorem all_range : ∀ bs : List Bool, (List.range bs.length).all (fun i => bs.getD i false) = bs.all id
  | [] => rfl
  | b :: bs => by
    rw [List.length_cons, List.range_succ_eq_map, List.all_cons, List.all_map, List.all_cons, ← all_range bs]
    all_goals rfl
section
variable {X : Cx}
def rAny (K : PySem.W.Frag) : List V → Hp → VK → Prop := fun vs H Q => ∃ (a : Addr) (bs : List Bool), vs = [V.ref a] ∧ SqL K H a (bs.map V.bl) ∧ Q (.bl (bs.any id)) H
def rAll (K : PySem.W.Frag) : List V → Hp → VK → Prop := fun vs H Q => ∃ (a : Addr) (bs : List Bool), vs = [V.ref a] ∧ SqL K H a (bs.map V.bl) ∧ Q (.bl (bs.all id)) H
theorem cr_any (hc : X.calm = true) : CallR X (.builtin "any") (rAny X.K) := by
  intro pins s σ H vs us Q I r h
  obtain ⟨a, bs, rfl, hs, q⟩ := h
  obtain ⟨its, rv, hl, _⟩ := I.list hs
  rw [Vals.ref1 r]
  have hb := rv.bls
  refine call_any_walk (iter_any hl.isList fun s₂ e2 st hne => ?_)
  subst e2
  refine ⟨_, _, _, _, _, _, _, rfl, Walks.list (A := X.A.in1) (I.ok.hd hc) _ a hne its.toArray, st, truth_bools hb, fun h' tk hk => ?_⟩
  refine ⟨.bl _, H, I.kept fun b o eo => hk b o (fun hmem => ?_) (Heap.get?_push_of_some _ eo), ?_, q⟩
  · rcases List.mem_cons.mp hmem with e1 | hmem
    · exact absurd (e1 ▸ Heap.lt_size eo) (Nat.lt_irrefl _)
    · cases hmem
  · show Value.bool _ = Value.bool _
    rw [← any_range, hb, List.size_toArray, List.length_map]
theorem cr_all (hc : X.calm = true) : CallR X (.builtin "all") (rAll X.K) := by
  intro pins s σ H vs us Q I r h
  obtain ⟨a, bs, rfl, hs, q⟩ := h
  obtain ⟨its, rv, hl, _⟩ := I.list hs
  rw [Vals.ref1 r]
  have hb := rv.bls
  refine call_all_walk (iter_any hl.isList fun s₂ e2 st hne => ?_)
  subst e2
  refine ⟨_, _, _, _, _, _, _, rfl, Walks.list (A := X.A.in1) (I.ok.hd hc) _ a hne its.toArray, st, truth_bools hb, fun h' tk hk => ?_⟩
  refine ⟨.bl _, H, I.kept fun b o eo => hk b o (fun hmem => ?_) (Heap.get?_push_of_some _ eo), ?_, q⟩
  · rcases List.mem_cons.mp hmem with e1 | hmem
    · exact absurd (e1 ▸ Heap.lt_size eo) (Nat.lt_irrefl _)
    · cases hmem
  · show Value.bool _ = Value.bool _
    rw [← all_range, hb, List.size_toArray, List.length_map]
end

/-! ### == and != of data at any depth: none, bools, ints, texts, lists, tuples -/
section
variable {X : Cx} {pins : List (Addr × Obj)} {σ : St} {H : Hp} {s : Shared}
end
end L2

namespace L2
open PySem PySem.Spec PyProof.Rows
abbrev CellAt (h : Heap) (c : Addr) (v : Option Value) : Prop := h.IsCell c v
def relS (scope sc : Scope) : Scope :=
  { scope with names := scope.names.map fun (n, k) => if (k == .free && sc.kind == .function && sc.names.lookup n == some .cell) then (n, .cell) else (n, k) }

def cloFrom (cells : List (Str × Addr)) : List (Str × NameKind) → List (Str × Addr) → List (Str × Addr)
  | [], acc => acc
  | (n, k) :: r, acc => if k == .free then cloFrom cells r ((n, (cells.lookup n).getD 0) :: acc) else cloFrom cells r acc

theorem closure_loop (env : Env) (f : Str × NameKind → List (Str × Addr) → Sem (ForInStep (List (Str × Addr))))
    (hf : ∀ n k c, f (n, k) c = if k == .free then (do let a ← cellOf env n; pure (.yield ((n, a) :: c))) else pure (.yield c)) :
    ∀ (names : List (Str × NameKind)) (acc : List (Str × Addr)), (∀ y ∈ names, y.2 = .free → ∃ c, env.cells.lookup y.1 = some c) → forIn names acc f = pure (cloFrom env.cells names acc)
  | [], acc, _ => by rw [List.forIn_nil]; rfl
  | (n, k) :: r, acc, h => by
    rw [List.forIn_cons, hf]
    have ih := fun acc => closure_loop env f hf r acc fun y hy => h y (List.mem_cons_of_mem _ hy)
    unfold cloFrom
    by_cases hk : (k == NameKind.free) = true
    · rw [if_pos hk, if_pos hk]
      obtain ⟨c, hc⟩ := h (n, k) List.mem_cons_self (by simpa using hk)
      have e : cellOf env n = pure c := by unfold cellOf; rw [hc]
      rw [e]
      have e2 : (env.cells.lookup n).getD 0 = c := by rw [hc]; rfl
      rw [e2]
      exact ih _
    · rw [if_neg hk, if_neg hk]
      exact ih _
theorem closure_ok {scope : Scope} {env : Env} (h : ∀ y ∈ scope.names, y.2 = .free → ∃ c, env.cells.lookup y.1 = some c) : closureFor scope env = pure (cloFrom env.cells scope.names []) := by
  simp only [closureFor]
  rw [closure_loop env _ (fun n k c => rfl) scope.names [] h]
  rfl

theorem mem_lookup {α : Type} : ∀ {l : List (Str × α)} {n : Str} {c : α}, (n, c) ∈ l → ∃ c', l.lookup n = some c'
  | (k, v) :: r, n, c, h => by
    rw [List.lookup_cons]
    cases hb : n == k with
    | true => exact ⟨_, rfl⟩
    | false =>
      rcases List.mem_cons.mp h with e | h
      · cases e; simp at hb
      · exact mem_lookup h

theorem cloFrom_mem {cells : List (Str × Addr)} : ∀ {names : List (Str × NameKind)} {acc : List (Str × Addr)} {n : Str} {c : Addr}, (n, c) ∈ cloFrom cells names acc → (n, c) ∈ acc ∨ ((n, .free) ∈ names ∧ c = (cells.lookup n).getD 0)
  | [], _, _, _, h => .inl h
  | (m, k) :: r, acc, n, c, h => by
    unfold cloFrom at h
    split at h
    · rename_i hk
      have hk : k = .free := by simpa using hk
      rcases cloFrom_mem h with h | ⟨h1, h2⟩
      · rcases List.mem_cons.mp h with e | h
        · cases e; exact .inr ⟨hk ▸ List.mem_cons_self, rfl⟩
        · exact .inl h
      · exact .inr ⟨List.mem_cons_of_mem _ h1, h2⟩
    · rcases cloFrom_mem h with h | ⟨h1, h2⟩
      · exact .inl h
      · exact .inr ⟨List.mem_cons_of_mem _ h1, h2⟩
theorem cloFrom_acc {cells : List (Str × Addr)} : ∀ {names : List (Str × NameKind)} {acc : List (Str × Addr)} {p : Str × Addr}, p ∈ acc → p ∈ cloFrom cells names acc
  | [], _, _, h => h
  | (m, k) :: r, acc, p, h => by
    unfold cloFrom
    split
    · exact cloFrom_acc (List.mem_cons_of_mem _ h)
    · exact cloFrom_acc h
theorem cloFrom_has {cells : List (Str × Addr)} : ∀ {names : List (Str × NameKind)} {acc : List (Str × Addr)} {n : Str}, (n, .free) ∈ names → (n, (cells.lookup n).getD 0) ∈ cloFrom cells names acc
  | (m, k) :: r, acc, n, h => by
    unfold cloFrom
    rcases List.mem_cons.mp h with e | h
    · cases e
      exact cloFrom_acc List.mem_cons_self
    · split
      · exact cloFrom_has h
      · exact cloFrom_has h

theorem cells_mem : ∀ {names : List (Str × NameKind)} {h : Heap} {acc : List (Str × Addr)} {x : Str} {c : Addr}, (x, c) ∈ cellsFrom h.objs.size names acc →
    (x, c) ∈ acc ∨ ((x, .cell) ∈ names ∧ h.objs.size ≤ c ∧ CellAt (pushCells h names) c none)
  | [], _, _, _, _, h => .inl h
  | (n, k) :: r, h, acc, x, c, hm => by
    unfold cellsFrom at hm
    unfold pushCells
    split at hm
    · rename_i hk
      rw [if_pos hk]
      have hk : k = .cell := by simpa using hk
      rw [← Heap.size_push h { cls := .type "cell", data := .cell none }] at hm
      rcases cells_mem hm with hm | ⟨h1, h2, h3⟩
      · rcases List.mem_cons.mp hm with e | hm
        · cases e
          exact .inr ⟨hk ▸ List.mem_cons_self, Nat.le_refl _, _, pushCells_keeps r _ _ _ (Heap.get?_push_size _ rfl), rfl⟩
        · exact .inl hm
      · rw [Heap.size_push] at h2
        exact .inr ⟨List.mem_cons_of_mem _ h1, Nat.le_of_succ_le h2, h3⟩
    · rename_i hk
      rw [if_neg hk]
      rcases cells_mem hm with hm | ⟨h1, h2, h3⟩
      · exact .inl hm
      · exact .inr ⟨List.mem_cons_of_mem _ h1, h2, h3⟩
theorem cells_acc : ∀ {names : List (Str × NameKind)} {n : Nat} {acc : List (Str × Addr)} {p : Str × Addr}, p ∈ acc → p ∈ cellsFrom n names acc
  | [], _, _, _, h => h
  | (m, k) :: r, n, acc, p, h => by
    unfold cellsFrom
    split
    · exact cells_acc (List.mem_cons_of_mem _ h)
    · exact cells_acc h
theorem cells_has : ∀ {names : List (Str × NameKind)} {n : Nat} {acc : List (Str × Addr)} {x : Str}, (x, .cell) ∈ names → ∃ c, (x, c) ∈ cellsFrom n names acc
  | (m, k) :: r, n, acc, x, h => by
    unfold cellsFrom
    rcases List.mem_cons.mp h with e | h
    · cases e
      exact ⟨n, cells_acc List.mem_cons_self⟩
    · split
      · exact cells_has h
      · exact cells_has h
theorem cells_inj : ∀ {names : List (Str × NameKind)} {h : Heap} {acc : List (Str × Addr)} {x y : Str} {c : Addr}, (∀ p ∈ acc, p.2 < h.objs.size) → (∀ x y c, (x, c) ∈ acc → (y, c) ∈ acc → x = y) →
    (x, c) ∈ cellsFrom h.objs.size names acc → (y, c) ∈ cellsFrom h.objs.size names acc → x = y
  | [], _, _, _, _, _, _, hi, h1, h2 => hi _ _ _ h1 h2
  | (n, k) :: r, h, acc, x, y, c, hl, hi, h1, h2 => by
    unfold cellsFrom at h1 h2
    split at h1
    · rename_i hk
      rw [if_pos hk] at h2
      rw [← Heap.size_push h { cls := .type "cell", data := .cell none }] at h1 h2
      refine cells_inj (h := h.push _) (fun p hp => ?_) (fun x y c a b => ?_) h1 h2
      · rw [Heap.size_push]
        rcases List.mem_cons.mp hp with rfl | hp
        · exact Nat.lt_succ_self _
        · exact Nat.lt_succ_of_lt (hl p hp)
      · rcases List.mem_cons.mp a with e | a <;> rcases List.mem_cons.mp b with e' | b
        · cases e; cases e'; rfl
        · cases e; exact absurd (hl _ b) (Nat.lt_irrefl _)
        · cases e'; exact absurd (hl _ a) (Nat.lt_irrefl _)
        · exact hi _ _ _ a b
    · rename_i hk
      rw [if_neg hk] at h2
      exact cells_inj hl hi h1 h2

theorem newEnv_comp {M : Model} {A : Around} {E : Value → Shared → Prop} {s : Shared} {scope : Scope} {globals : Addr} {closure : List (Str × Addr)} {qual : Str} {func : Option Addr} {code : Value} {around : Env} {builtins : Addr} {Q : Env → Shared → Prop}
    (h : Q (newEnv scope s.heap.objs.size globals (cellsFrom (s.heap.objs.size + 1) scope.names closure) qual func code (some around) builtins)
      { s with heap := pushCells (s.heap.push { cls := .type "dict", data := .dict #[] }) scope.names }) :
    wpAny M A (newFunctionEnv scope globals closure [] qual func code (some around) builtins) Q E s := by
  simp only [newFunctionEnv, Option.isSome_some, if_true]
  refine wpAny_bind (wpAny_alloc ?_)
  refine wpAny_bind (wpAny_layCells _ (fun n k c => rfl) scope.names closure _ _ ?_)
  rw [show ({ s with heap := s.heap.push { cls := .type "dict", data := .dict #[] } } : Shared).heap.objs.size = s.heap.objs.size + 1 from Heap.size_push ..]
  rw [List.forIn_nil]
  exact wpAny_bind (wpAny_pure (wpAny_pure h))

/-- every name of the written scope, in the scope that runs -/
theorem lookup_relS {sc : Scope} : ∀ {names : List (Str × NameKind)} {x : Str} {k : NameKind},
    (names.map fun (n, k) => if (k == NameKind.free && sc.kind == .function && sc.names.lookup n == some .cell) then (n, NameKind.cell) else (n, k)).lookup x = some k →
    ∃ k', names.lookup x = some k' ∧ (k = k' ∨ (k' = .free ∧ k = .cell))
  | [], _, _, h => by simp at h
  | (n, k₀) :: r, x, k, h => by
    have ih := @lookup_relS sc r x k
    have h' : List.lookup x ((if (k₀ == NameKind.free && sc.kind == .function && sc.names.lookup n == some .cell) = true then (n, NameKind.cell) else (n, k₀)) :: (r.map _)) = some k := h
    cases hx : x == n with
    | true =>
      simp only [List.lookup_cons, hx]
      by_cases hc : (k₀ == NameKind.free && sc.kind == .function && sc.names.lookup n == some .cell) = true
      · rw [if_pos hc] at h'
        simp only [List.lookup_cons, hx] at h'
        cases h'
        simp only [Bool.and_eq_true, beq_iff_eq] at hc
        exact ⟨k₀, rfl, .inr ⟨hc.1.1, rfl⟩⟩
      · rw [if_neg hc] at h'
        simp only [List.lookup_cons, hx] at h'
        cases h'
        exact ⟨_, rfl, .inl rfl⟩
    | false =>
      simp only [List.lookup_cons, hx]
      by_cases hc : (k₀ == NameKind.free && sc.kind == .function && sc.names.lookup n == some .cell) = true
      · rw [if_pos hc] at h'
        simp only [List.lookup_cons, hx] at h'
        exact ih h'
      · rw [if_neg hc] at h'
        simp only [List.lookup_cons, hx] at h'
        exact ih h'

/-- the names of a comprehension's block: its own (with their places in N), or captured -/
structure BlkOk (N : List Str) (sc scope : Scope) (own : List (Str × Nat)) : Prop where
  kind : scope.kind = .function
  uniq : ∀ y ∈ scope.names, scope.names.lookup y.1 = some y.2
  ix : ∀ p ∈ own, N[p.2]? = some p.1
  free : ∀ y ∈ scope.names, y.2 = .free → sc.names.lookup y.1 = some .cell ∨ sc.names.lookup y.1 = some .free
  own : ∀ y ∈ scope.names, y.2 = .local ∨ y.2 = .cell → y.1 ∈ own.map (·.1) ∨ y.1 ∉ N
/-- the slots of the block's own names forgotten -/
def wipe (σ : St) : List Nat → St
  | [] => σ
  | v :: vs => (wipe σ vs).set v none
theorem wipe_length (σ : St) : ∀ vs : List Nat, (wipe σ vs).length = σ.length
  | [] => rfl
  | v :: vs => by unfold wipe; rw [List.length_set, wipe_length σ vs]
theorem wipe_some {σ : St} {i : Nat} {x : V} : ∀ {vs : List Nat}, (wipe σ vs)[i]? = some (some x) → σ[i]? = some (some x) ∧ i ∉ vs
  | [], h => ⟨h, by simp⟩
  | v :: vs, h => by
    unfold wipe at h
    by_cases hi : v = i
    · subst hi
      by_cases hv : v < (wipe σ vs).length
      · rw [List.getElem?_set_self hv] at h; cases h
      · rw [List.getElem?_eq_none (by simpa using hv)] at h; cases h
    · rw [List.getElem?_set_ne hi] at h
      obtain ⟨h1, h2⟩ := wipe_some h
      exact ⟨h1, by simp only [List.mem_cons, not_or]; exact ⟨fun e => hi e.symm, h2⟩⟩

/-- the context of a block that starts at s, its iterator's objects at fp -/
abbrev Cx.blk (X : Cx) (s : Shared) (H : Hp) (scope : Scope) (cenv : Env) (fp : List Addr) : Cx := { X with s_0 := s, H_0 := H, env := cenv, outer := X.stack, ex := fp, fn := fun x => scope.names.lookup x == some .cell, pn := [], xe := fun _ _ => False }
section
variable {X : Cx} {pins : List (Addr × Obj)} {σ : St} {H : Hp} {s : Shared}
theorem block_start {scope : Scope} {own : List (Str × Nat)} {fp : List Addr} (I : Inv X pins σ H s) (ok : BlkOk X.N X.env.scope scope own) (hN : X.N.Nodup) (hfp : ∀ b ∈ fp, FpOk X pins H b ∧ b < s.heap.objs.size) :
    Inv (X.blk s H scope (compEnvC scope (cellsFrom (s.heap.objs.size + 1) scope.names (cloFrom X.env.cells scope.names [])) s.heap.objs.size X.env) fp) [] (wipe σ (own.map (·.2))) H { s with heap := pushCells (s.heap.push { cls := .type "dict", data := .dict #[] }) scope.names } := by
  have hfree : ∀ y ∈ scope.names, y.2 = .free → ∃ c, X.env.cells.lookup y.1 = some c := fun y hy e => by
    rcases ok.free y hy e with k | k
    · exact I.ok.has _ (.inl k)
    · exact I.ok.has _ (.inr k)
  generalize hcenv : compEnvC scope (cellsFrom (s.heap.objs.size + 1) scope.names (cloFrom X.env.cells scope.names [])) s.heap.objs.size X.env = cenv
  have kp : ∀ b o, s.heap.get? b = some o → (pushCells (s.heap.push { cls := .type "dict", data := .dict #[] }) scope.names).get? b = some o := fun b o e => pushCells_keeps _ _ _ _ (Heap.get?_push_of_some _ e)
  have hL : cenv.locals = s.heap.objs.size := by rw [← hcenv]; rfl
  have hcl : cenv.cells = cellsFrom (s.heap.objs.size + 1) scope.names (cloFrom X.env.cells scope.names []) := by rw [← hcenv]; rfl
  have hsc : cenv.scope = relS scope X.env.scope := by rw [← hcenv]; rfl
  rw [← Heap.size_push s.heap { cls := .type "dict", data := .dict #[] }] at hcl
  have cm : ∀ {y c}, (y, c) ∈ cloFrom X.env.cells scope.names [] → X.env.cells.lookup y = some c ∧ c < s.heap.objs.size := fun {y c} hm => by
    rcases cloFrom_mem hm with hm | ⟨h1, rfl⟩
    · cases hm
    · obtain ⟨c, hc⟩ := hfree _ h1 rfl
      rw [hc]
      obtain ⟨w, z⟩ := I.cell _ _ hc
      exact ⟨rfl, z.lt⟩
  have mem : ∀ {y c}, cenv.cells.lookup y = some c → (X.env.cells.lookup y = some c ∧ c < s.heap.objs.size) ∨ (s.heap.objs.size + 1 ≤ c ∧ CellAt (pushCells (s.heap.push { cls := .type "dict", data := .dict #[] }) scope.names) c none) := fun {y c} e => by
    rw [hcl] at e
    rcases cells_mem (PySem.mem_of_lookup e) with hm | ⟨_, h2, h3⟩
    · exact .inl (cm hm)
    · rw [Heap.size_push] at h2; exact .inr ⟨h2, h3⟩
  have look : ∀ {y}, scope.names.lookup y = some .free → ∃ c, cenv.cells.lookup y = some c ∧ X.env.cells.lookup y = some c := fun {y} hl => by
    have hy : (y, NameKind.free) ∈ scope.names := PySem.mem_of_lookup hl
    obtain ⟨c', e'⟩ := mem_lookup (cells_acc (names := scope.names) (n := (s.heap.push { cls := .type "dict", data := .dict #[] }).objs.size) (cloFrom_has (cells := X.env.cells) (acc := []) hy))
    rw [← hcl] at e'
    refine ⟨c', e', ?_⟩
    rw [hcl] at e'
    rcases cells_mem (PySem.mem_of_lookup e') with hm | ⟨h1, _, _⟩
    · exact (cm hm).1
    · have := ok.uniq _ h1
      rw [hl] at this; cases this
  have okB : (X.blk s H scope cenv fp).Ok := by
    refine ⟨I.ok.mod, by show cenv.scope.kind = _; rw [hsc]; exact ok.kind, by show cenv.globals = _; rw [← hcenv]; exact I.ok.glob, by show cenv.builtins = _; rw [← hcenv]; exact I.ok.blt, by show s.heap.objs.size ≤ cenv.locals; rw [hL]; exact Nat.le_refl _,
      fun y z c e1 e2 => ?_, fun y hy => ?_, fun y c z e => ?_, I.ok.hd, I.ok.frames, .inl rfl, fun b hb => ⟨?_, fun y c e z => ?_⟩, I.bs, Nat.le_trans I.ok.bsz I.sz, fun b o e hb => ?_, fun b hb z => ?_, I.stack, I.stkFree⟩
    · have e1 : cenv.cells.lookup y = some c := e1
      have e2 : cenv.cells.lookup z = some c := e2
      rw [hcl] at e1 e2
      refine cells_inj (fun p hp => ?_) (fun y z c a b => I.ok.inj y z c (cm a).1 (cm b).1) (PySem.mem_of_lookup e1) (PySem.mem_of_lookup e2)
      rw [Heap.size_push]
      exact Nat.lt_succ_of_lt (cm (y := p.1) (c := p.2) hp).2
    · show ∃ c, cenv.cells.lookup y = some c
      have key : ∀ k, cenv.kindOf y = some k → (k = .cell ∨ k = .free) → ∃ c, cenv.cells.lookup y = some c := fun k hk hk' => by
        unfold Env.kindOf at hk
        rw [hsc] at hk
        obtain ⟨k', e, r⟩ := lookup_relS hk
        have : k' = .cell ∨ k' = .free := by
          rcases r with rfl | ⟨rfl, _⟩
          · exact hk'
          · exact .inr rfl
        rcases this with rfl | rfl
        · obtain ⟨c, hm⟩ := cells_has (n := (s.heap.push { cls := .type "dict", data := .dict #[] }).objs.size) (acc := cloFrom X.env.cells scope.names []) (PySem.mem_of_lookup e)
          obtain ⟨c', e'⟩ := mem_lookup hm
          exact ⟨c', by rw [hcl]; exact e'⟩
        · obtain ⟨c, h1, _⟩ := look e
          exact ⟨c, h1⟩
      rcases hy with hy | hy
      · exact key _ hy (.inl rfl)
      · exact key _ hy (.inr rfl)
    · have z : (scope.names.lookup y == some NameKind.cell) = true := z
      have z : scope.names.lookup y = some .cell := by simpa using z
      have e : cenv.cells.lookup y = some c := e
      rw [hcl] at e
      rcases cells_mem (PySem.mem_of_lookup e) with hm | ⟨_, h2, _⟩
      · rcases cloFrom_mem hm with hm | ⟨h1, _⟩
        · cases hm
        · have q := ok.uniq _ h1
          rw [z] at q; cases q
      · rw [Heap.size_push] at h2
        exact Nat.le_of_succ_le h2
    · show b ≠ cenv.locals
      rw [hL]; exact Nat.ne_of_lt (hfp b hb).2
    · have e : cenv.cells.lookup y = some c := e
      rcases mem e with ⟨h1, _⟩ | ⟨h1, _⟩
      · exact (hfp b hb).1.2.2.2.2.1 y c h1 z
      · have h2 : s.heap.objs.size + 1 ≤ b := by rw [← z]; exact h1
        exact absurd (Nat.lt_of_lt_of_le (hfp b hb).2 (Nat.le_of_succ_le h2)) (Nat.lt_irrefl _)
    · rcases (hfp b hb).1.2.2.2.1 with z | z
      · exact I.ok.noex b o e z
      · exact absurd (Nat.lt_of_lt_of_le (Heap.lt_size e) (Nat.le_trans I.ok.bsz z)) (Nat.lt_irrefl _)
    · rcases List.mem_cons.mp (I.stkSub b z) with z | z
      · exact (hfp b hb).1.2.1 z
      · exact (hfp b hb).1.2.2.1 z
  refine ⟨okB, rfl, I.bare, Un.kept kp, ⟨fun _ => none, ?_, fun i y av e1 e2 e3 => ?_⟩, fun y c e => ?_, ?_, fun y c e => ?_, fun p hp => ?_, I.hok.kept kp, by rw [wipe_length]; exact I.len⟩
  · show Heap.Ns _ cenv.locals _
    rw [hL]
    exact Heap.Ns.keeps (Heap.Ns.new ..) fun b o e => pushCells_keeps _ _ _ _ e
  · obtain ⟨e2, hne⟩ := wipe_some e2
    have hfr : scope.names.lookup y = some .free ∧ (cenv.kindOf y = some .cell ∨ cenv.kindOf y = some .free) := by
      have key : ∀ k, cenv.scope.names.lookup y = some k → k = .local ∨ k = .cell ∨ k = .free → scope.names.lookup y = some .free ∧ (cenv.kindOf y = some .cell ∨ cenv.kindOf y = some .free) := fun k hk hk' => by
        have hk0 := hk
        rw [hsc] at hk
        obtain ⟨k', e, r⟩ := lookup_relS hk
        have no : ¬ (k' = .local ∨ k' = .cell) := fun hh => by
          rcases ok.own _ (PySem.mem_of_lookup e) hh with e' | e'
          · obtain ⟨p, hp, hpy⟩ := List.mem_map.mp e'
            have e3 := ok.ix p hp
            have : p.1 = y := hpy
            rw [this] at e3
            exact hne (List.mem_map.mpr ⟨p, hp, nodup_ix hN e3 e1⟩)
          · exact e' (List.mem_of_getElem? e1)
        rcases r with rfl | ⟨rfl, rfl⟩
        · rcases hk' with rfl | rfl | rfl
          · exact absurd (.inl rfl) no
          · exact absurd (.inr rfl) no
          · exact ⟨e, .inr hk0⟩
        · exact ⟨e, .inl hk0⟩
      have e3 : Vis cenv.scope y := e3
      rcases e3 with e3 | e3 | e3
      · exact key _ e3 (.inl rfl)
      · exact key _ e3 (.inr (.inl rfl))
      · exact key _ e3 (.inr (.inr rfl))
    obtain ⟨m, hn, hl⟩ := I.loc
    have hvis : Vis X.env.scope y := (ok.free _ (PySem.mem_of_lookup hfr.1) rfl).elim (fun k => .inr (.inl k)) (fun k => .inr (.inr k))
    obtain ⟨w, r, q⟩ := hl i y av e1 e2 hvis
    refine ⟨w, r, .inr ⟨hfr.2, ?_⟩⟩
    obtain ⟨c, h1, h2⟩ := look hfr.1
    rcases q with ⟨k, _⟩ | ⟨_, c', e', z⟩
    · have k : X.env.scope.names.lookup y = some .local := k
      rcases ok.free _ (PySem.mem_of_lookup hfr.1) rfl with k' | k' <;> rw [show X.env.scope.names.lookup y = _ from k'] at k <;> cases k
    · rw [h2] at e'; cases e'
      exact ⟨c, h1, z.keeps kp⟩
  · have e : cenv.cells.lookup y = some c := e
    rcases mem e with ⟨h1, _⟩ | ⟨_, z⟩
    · obtain ⟨w, z⟩ := I.cell y c h1
      exact ⟨w, z.keeps kp⟩
    · exact ⟨_, z⟩
  · show H cenv.locals = none
    rw [hL]; exact I.hok.fresh (Nat.le_refl _)
  · have e : cenv.cells.lookup y = some c := e
    rcases mem e with ⟨h1, _⟩ | ⟨h1, _⟩
    · exact I.freeC y c h1
    · exact I.hok.fresh (Nat.le_of_succ_le h1)
  · exact absurd (show p ∈ ([] : List (Addr × Obj)) ++ [] from hp) (by simp)

/-- an item appended to a tracked list -/
theorem app_ok {E : Value → Shared → Prop} {D : Addr} {xs : List V} {y : V} {v : Value} {Q : Value → Shared → Prop} (I : Inv X pins σ H s) (hD : H D = some (.lst xs)) (hz : xs.length < sizeLine) (r : RelV y v)
    (h : ∀ s', Inv X pins σ (upd H D (.lst (xs ++ [y]))) s' → Q .none s') : wpAny (model X.prog X.w) X.A (call (.builtin "list.append") [.ref D, v]) Q E s := by
  obtain ⟨hz', its, n, ri, e⟩ := I.hok D _ hD
  have hl := ri.length
  refine append_at (hsz := by rw [List.size_toArray]; omega) e fun h' sb ho' => ?_
  refine h { s with heap := h' } (I.write (t' := s.toks) (by rw [hD]; trivial) (.inl rfl) (fun b u hb q => (sb.2 b hb).trans q) ⟨_, ho'⟩ ⟨by rw [List.length_append]; exact hz, its ++ [v], n + 1, ri.append (.cons r .nil), ?_⟩)
  rw [ho']
  simp

/-- a clause's tests -/
def PTs (X : Cx) (ifs : List Expr) (t : TT) : Prop :=
  ∀ (pins : List (Addr × Obj)) (s : Shared) (σ : St) (H : Hp) (Q : Bool → Hp → Prop), Inv X pins σ H s → t σ H Q →
    wpAny (model X.prog X.w) X.A (forIn ifs true fun c r => if r = true then do let ok ← isTrue c X.env (eval c X.env); pure (ForInStep.yield ok) else pure (ForInStep.yield r)) (TP X pins σ Q) X.xe s
def tYes : TT := fun _ H Q => Q true H
theorem pts_nil : PTs X [] tYes := fun _ _ _ H _ I h => wpAny_tests_nil ⟨H, I, h⟩
theorem pts_one {c : Expr} {t : TT} (h : PT X c t) : PTs X [c] t := fun pins s σ H Q I hw => wpAny_tests_one (h pins s σ H Q I hw)
end

theorem thnF {α : Type} {t : Sem α} {Q Q' : α → Shared → Prop} {M : Model} {A : Around} {E : Value → Shared → Prop} {s : Shared} (h : wpAny M A t Q (fun _ _ => False) s) (hQ : ∀ a s, Q a s → Q' a s) : wpAny M A t Q' E s := wpAny_mono h hQ fun _ _ z => False.elim z

/-- the loop of a list comprehension's block, the target of any form (codeAny_compLoop_tests asks a target that no tuple goes to; statement and proof follow it, PyProof/CompMap.lean:41-61, with the step letOwnedTupleGo kept) -/
theorem compLoop_any {prog : Program} {w : World} {A : Around} {R : Result → Shared → Prop} {s : Shared} {elt target iter : Expr} {ifs : List Expr} {scope : Scope} {pos : Pos} {it acc : Value} {env : Env} (I : Nat → Shared → Prop)
    (turn : ∀ n s, I n s → wpAny (model prog w) A (pyNext it) (fun r s₁ => match r with
      | none => R (.ok .next) s₁
      | some v => wpAny (model prog w) A (letOwnedTupleGo target it v) (fun _ s₁' => wpAny (model prog w) A (assign target env v) (fun _ s₂ =>
          wpAny (model prog w) A (forIn ifs true fun c r => if r = true then do let ok ← isTrue c env (eval c env); pure (ForInStep.yield ok) else pure (ForInStep.yield r)) (fun ok s₃ =>
            if ok = true then wpAny (model prog w) A (eval elt env) (fun x s₄ =>
              wpAny (model prog w) A (call (.builtin "list.append") [acc, x]) (fun _ s₅ => ∃ m, m < n ∧ I m s₅) (notedBy (model prog w) A env fun e s' => R (.error e) s') s₄) (notedBy (model prog w) A env fun e s' => R (.error e) s') s₃
            else ∃ m, m < n ∧ I m s₃) (notedBy (model prog w) A env fun e s' => R (.error e) s') s₂) (notedBy (model prog w) A env fun e s' => R (.error e) s') s₁') (notedBy (model prog w) A env fun e s' => R (.error e) s') s₁) (notedBy (model prog w) A env fun e s' => R (.error e) s') s)
    (n : Nat) (h : I n s) :
    codeAny (model prog w) A (.compLoop (.ListComp elt [⟨target, iter, ifs, 0⟩] scope pos) 0 it acc env) R s := by
  refine codeAny_loop rfl I (fun n s hI => ?_) n h
  show wpAny _ A ((compTurn (.ListComp elt [⟨target, iter, ifs, 0⟩] scope pos) 0 it acc env).onRaise (fun x => do noteFrame x env; theTreesLotGoes x)) _ _ s
  refine wpAny_noted ?_
  rw [compTurn_list]
  refine wpAny_bind (wpAny_standAt (wpAny_bind (wpAny_mono (turn n s hI) (fun r s₁ h₁ => ?_) fun _ _ h' => h')))
  cases r with
  | none => exact wpAny_pure h₁
  | some v =>
    refine wpAny_bind (wpAny_mono h₁ (fun _ s₁' h₁' => ?_) fun _ _ h' => h')
    refine wpAny_bind (wpAny_mono h₁' (fun _ s₂ h₂ => wpAny_bind (wpAny_mono h₂ (fun ok s₃ h₃ => ?_) fun _ _ h' => h')) fun _ _ h' => h')
    cases ok with
    | false => exact wpAny_pure ⟨rfl, h₃⟩
    | true =>
      exact wpAny_bind (wpAny_bind (wpAny_mono h₃ (fun x s₄ h₄ => wpAny_bind (wpAny_mono h₄ (fun _ s₅ h₅ => wpAny_pure (wpAny_pure ⟨rfl, h₅⟩)) fun _ _ h' => h')) fun _ _ h' => h'))

section
variable {X : Cx}
/-- [elt for target in iter if ..]: D the new list; W by the turn and a measure, Nx what a turn is to reach -/
def tLc (wi : TI) (g : TG) (tt : TT) (te : TE) (vs : List Nat) : TE := fun σ H Q => wi σ H fun J H1 => ∀ D, H1 D = none → ∃ W : Nat → Nat → Hp → Prop, (∃ m, W 0 m (upd H1 D (.lst []))) ∧ ∀ i m H, W i m H →
  (J.stop i H ∧ Q (.ref D) H) ∨ (J.go i H ∧ ∃ Nx : Hp → Prop, (∀ H', Nx H' → ∃ m', m' < m ∧ W (i + 1) m' H') ∧ ∀ x H', J.yld i H x H' → g x (wipe σ vs) H' fun σ2 H2 => wipe σ2 vs = wipe σ vs ∧ tt σ2 H2 fun b H3 =>
    if b = true then te σ2 H3 fun y H4 => ∃ acc, H4 D = some (.lst acc) ∧ acc.length < sizeLine ∧ Nx (upd H4 D (.lst (acc ++ [y]))) else Nx H3)
theorem lc_core {pins : List (Addr × Obj)} {s : Shared} {σ : St} {H : Hp} {Q : VK} {elt tg iter : Expr} {ifs : List Expr} {scope : Scope} {own : List (Str × Nat)} {pos pos' : Pos} {wi : TI} {g : TG} {tt : TT} {te : TE} {use : Option (Value → Sem Unit)} {Qf : Value → Shared → Prop}
    (hc : X.calm = true) (hN : X.N.Nodup) (I : Inv X pins σ H s) (hi : PI X tg iter wi) (ok : BlkOk X.N X.env.scope scope own)
    (hg : ∀ (s : Shared) (H : Hp) (C : Addr) (cl : List (Str × Addr)) (fp : List Addr), PG (X.blk s H scope (compEnvC scope cl C X.env) fp) tg g) (ht : ∀ (s : Shared) (H : Hp) (C : Addr) (cl : List (Str × Addr)) (fp : List Addr), PTs (X.blk s H scope (compEnvC scope cl C X.env) fp) ifs tt)
    (he : ∀ (s : Shared) (H : Hp) (C : Addr) (cl : List (Str × Addr)) (fp : List Addr), PE (X.blk s H scope (compEnvC scope cl C X.env) fp) elt te) (hs : ∀ x, foldedSetIterable iter X.env x = pure x)
    (h : tLc wi g tt te (own.map (·.2)) σ H Q)
    (hRR : ∀ D C s' m H', Inv X pins σ H' s' → Q (.ref D) H' → s'.heap.Ns C m → FpOk X pins H' C → compPost (model X.prog X.w) X.A X.xe use Qf (.ref D) C (.ok .next) s') :
    wpAny (model X.prog X.w) X.A (comprehension (.ListComp elt [⟨tg, iter, ifs, 0⟩] scope pos) scope X.env pos' (newList []) false (eval iter X.env) use) Qf X.xe s := by
  have hfree : ∀ y ∈ scope.names, y.2 = .free → ∃ c, X.env.cells.lookup y.1 = some c := fun y hy e => by
    rcases ok.free y hy e with k | k
    · exact I.ok.has _ (.inl k)
    · exact I.ok.has _ (.inr k)
  refine wpAny_comprehension_free (use := use) rfl hs (closure_ok hfree) ok.kind (fun y hy e => by rw [ok.uniq y hy, e])
    (thn (hi pins s σ H _ I h) fun xv s1 hx => thn hx fun itv s2 h2 => ?_)
  obtain ⟨it, fp, tn, J, H2, e, I2, T, st2, f2, q⟩ := h2
  subst e
  refine wpAny_newObj_type (newEnv_comp ?_) (by show 0 ≤ sizeLine; decide)
  generalize hD : s2.heap.objs.size = D
  have hDn : H2 D = none := I2.hok.fresh (Nat.le_of_eq hD)
  obtain ⟨W, ⟨m0, w0⟩, turn⟩ := q D hDn
  -- the new list
  generalize hs3 : ({ s2 with heap := s2.heap.push { cls := .type "list", data := .seq ([] : List Value).toArray } } : Shared) = s3
  have I3 : Inv X pins σ (upd H2 D (.lst [])) s3 := by
    rw [← hs3]
    refine I2.laid (t' := s2.toks) (fun b o e => Heap.get?_push_of_some _ e) (Nat.le_of_eq hD) ⟨Nat.zero_le _, [], 0, .nil, ?_⟩
    rw [← hD]
    exact Heap.get?_push_size _ rfl
  have h3 : s3.heap = s2.heap.push { cls := .type "list", data := .seq ([] : List Value).toArray } := by rw [← hs3]
  have sz : ∀ b ∈ fp, b < s2.heap.objs.size := fun b hb => by
    obtain ⟨o, e, _⟩ := T.obj _ _ st2 b hb
    exact Heap.lt_size e
  have f3 : ∀ b ∈ fp, FpOk X pins (upd H2 D (.lst [])) b ∧ b < s3.heap.objs.size := fun b hb => by
    have hlt := sz b hb
    refine ⟨⟨?_, (f2 b hb).2⟩, by rw [h3, Heap.size_push]; exact Nat.lt_succ_of_lt hlt⟩
    rw [upd_ne (by rw [← hD]; exact Nat.ne_of_lt hlt)]
    exact (f2 b hb).1
  have st3 : tn 0 s3.heap := T.keep _ _ _ st2 fun b _ o e => by rw [h3]; exact Heap.get?_push_of_some _ e
  have I4 := block_start I3 ok hN f3
  have pg := hg s3 (upd H2 D (.lst [])) s3.heap.objs.size (cellsFrom (s3.heap.objs.size + 1) scope.names (cloFrom X.env.cells scope.names [])) fp
  have pt := ht s3 (upd H2 D (.lst [])) s3.heap.objs.size (cellsFrom (s3.heap.objs.size + 1) scope.names (cloFrom X.env.cells scope.names [])) fp
  have pe := he s3 (upd H2 D (.lst [])) s3.heap.objs.size (cellsFrom (s3.heap.objs.size + 1) scope.names (cloFrom X.env.cells scope.names [])) fp
  show codeAny _ _ (.compStart (.ListComp elt [⟨tg, iter, ifs, 0⟩] scope pos) 0 (.ref it) (.ref D) (compEnvC scope (cellsFrom (s3.heap.objs.size + 1) scope.names (cloFrom X.env.cells scope.names [])) s3.heap.objs.size X.env)) (compPost (model X.prog X.w) X.A X.xe use Qf (.ref D) s3.heap.objs.size) { s3 with heap := pushCells (s3.heap.push { cls := .type "dict", data := .dict #[] }) scope.names }
  have nfp : ∀ b ∈ fp, (upd H2 D (.lst [])) b = none := fun b hb => (f3 b hb).1.1
  generalize hce : compEnvC scope (cellsFrom (s3.heap.objs.size + 1) scope.names (cloFrom X.env.cells scope.names [])) s3.heap.objs.size X.env = ce at I4 pg pt pe ⊢
  have cL : ce.locals = s3.heap.objs.size := by subst hce; rfl
  generalize hH3 : upd H2 D (.lst []) = H3 at I3 I4 pg pt pe w0 nfp f3
  generalize hs4 : ({ s3 with heap := pushCells (s3.heap.push { cls := .type "dict", data := .dict #[] }) scope.names } : Shared) = s4 at I4 ⊢
  have st4 : tn 0 s4.heap := T.keep _ _ _ st3 fun b _ o e => by rw [← hs4]; exact pushCells_keeps _ _ _ _ (Heap.get?_push_of_some _ e)
  have stat : ∀ {σ' : St} {H' : Hp} {s' : Shared}, Inv (X.blk s3 H3 scope ce fp) [] σ' H' s' → (∀ b ∈ fp, H' b = none) → ∀ b ∈ fp, FpOk (X.blk s3 H3 scope ce fp) [] H' b := fun {σ' H' s'} I' hn b hb =>
    ⟨hn b hb, (I'.ok.exf b hb).1, I'.ok.exfs b hb, .inl hb, fun x c e => (I'.ok.exf b hb).2 x c e, fun p hp => absurd (show p ∈ ([] : List (Addr × Obj)) ++ [] from hp) (by simp)⟩
  have loop : codeAny (model X.prog X.w) X.A (.compLoop (.ListComp elt [⟨tg, iter, ifs, 0⟩] scope pos) 0 (.ref it) (.ref D) ce) (compPost (model X.prog X.w) X.A X.xe use Qf (.ref D) s3.heap.objs.size) s4 := by
    refine compLoop_any (fun n s' => ∃ i H', Inv (X.blk s3 H3 scope ce fp) [] (wipe σ (own.map (·.2))) H' s' ∧ tn i s'.heap ∧ (∀ b ∈ fp, H' b = none) ∧ W i n H') ?_ m0 ⟨0, H3, I4, st4, nfp, w0⟩
    rintro n s5 ⟨i, H5, I5, st5, n5, w5⟩
    rcases turn i n H5 w5 with ⟨stop, qq⟩ | ⟨go, Nx, hNx, step⟩
    · have td := T.done (X.blk s3 H3 scope ce fp) rfl rfl rfl hc i [] s5 _ H5 (fun _ _ => False) I5 (stat I5 n5) st5 stop
      refine thnF td fun r s6 ⟨hr, I6⟩ => ?_
      subst hr
      -- back in the def's context
      have I7 : Inv X pins σ H5 s6 := I3.call' (ch := fp) I6.os I6.base I6.hok I6.bare fun b hb => ⟨(f3 b hb).1.2.2.2.1, (f3 b hb).1.2.1, (f3 b hb).1.2.2.2.2.1, (f3 b hb).1.2.2.2.2.2⟩
      have nC : H5 s3.heap.objs.size = none := by
        have z : H5 ce.locals = none := I6.free
        rw [cL] at z
        exact z
      obtain ⟨m, hn, _⟩ := I6.loc
      have hn : s6.heap.Ns ce.locals m := hn
      rw [cL] at hn
      exact hRR D s3.heap.objs.size s6 m H5 I7 qq hn (I3.fpOk (Nat.le_refl _) nC)
    · have ti := T.item (X.blk s3 H3 scope ce fp) rfl rfl rfl hc i [] s5 _ H5 (fun _ _ => False) I5 (stat I5 n5) st5 go
      refine thnF ti fun r s6 ⟨u, hr, h6⟩ => ?_
      subst hr
      refine thnF h6 fun _ s7 ⟨x, H7, I7, r7, y7, st7, n7⟩ => ?_
      have I7' := I7.pinned (stat I7 n7) (T.obj _ _ st7)
      refine thnF (pg _ s7 _ H7 x u _ I7' r7 (step x H7 y7)) fun _ s8 ⟨σ8, H8, I8, hw8, q8⟩ => ?_
      refine thnF (pt _ s8 σ8 H8 _ I8 q8) fun b s9 ⟨H9, I9, q9⟩ => ?_
      -- the turn's end
      have fin : ∀ {s' : Shared} {H' : Hp}, Inv (X.blk s3 H3 scope ce fp) ([] ++ pinsAt fp s7.heap) σ8 H' s' → Nx H' → ∃ m, m < n ∧ ∃ i H', Inv (X.blk s3 H3 scope ce fp) [] (wipe σ (own.map (·.2))) H' s' ∧ tn i s'.heap ∧ (∀ b ∈ fp, H' b = none) ∧ W i m H' := fun {s' H'} I' nx => by
        obtain ⟨m', hm, w'⟩ := hNx H' nx
        have pin' : ∀ b ∈ fp, ∀ o, s7.heap.get? b = some o → s'.heap.get? b = some o ∧ H' b = none := fun b hb o e =>
          let z := I'.pin (b, o) (List.mem_append_right _ (List.mem_append_right _ (mem_pinsAt hb e)))
          ⟨z.1, z.2.1⟩
        have hl : (wipe σ (own.map (·.2))).length = σ8.length := by rw [← hw8, wipe_length]
        refine ⟨m', hm, i + 1, H', (I'.unpinned (pins := [])).weak hl (fun j v e => ?_), T.keep _ _ _ st7 fun b hb o e => (pin' b hb o e).1, fun b hb => ?_, w'⟩
        · rw [← hw8] at e
          exact (wipe_some e).1
        · obtain ⟨o, e, _⟩ := T.obj _ _ st7 b hb
          exact (pin' b hb o e).2
      cases b with
      | false =>
        simp only [Bool.false_eq_true, if_false] at q9 ⊢
        exact fin I9 q9
      | true =>
        simp only [if_true] at q9 ⊢
        refine thnF (pe _ s9 σ8 H9 _ I9 q9) fun z s10 ⟨yv, H10, I10, r10, acc, hD10, hz10, nx⟩ => ?_
        exact app_ok (X := X.blk s3 H3 scope ce fp) I10 hD10 hz10 r10 fun s11 I11 => fin I11 nx
  exact codeAny_compStart_list loop (T.self X.A 0 _ _ _ st4 loop)
/-- as a value -/
theorem pe_lc {elt tg iter : Expr} {ifs : List Expr} {scope : Scope} {own : List (Str × Nat)} {pos : Pos} {wi : TI} {g : TG} {tt : TT} {te : TE} (hc : X.calm = true) (hN : X.N.Nodup) (hi : PI X tg iter wi) (ok : BlkOk X.N X.env.scope scope own)
    (hg : ∀ (s : Shared) (H : Hp) (C : Addr) (cl : List (Str × Addr)) (fp : List Addr), PG (X.blk s H scope (compEnvC scope cl C X.env) fp) tg g) (ht : ∀ (s : Shared) (H : Hp) (C : Addr) (cl : List (Str × Addr)) (fp : List Addr), PTs (X.blk s H scope (compEnvC scope cl C X.env) fp) ifs tt)
    (he : ∀ (s : Shared) (H : Hp) (C : Addr) (cl : List (Str × Addr)) (fp : List Addr), PE (X.blk s H scope (compEnvC scope cl C X.env) fp) elt te) (hs : ∀ x, foldedSetIterable iter X.env x = pure x := by intro _; rfl) :
    PE X (.ListComp elt [⟨tg, iter, ifs, 0⟩] scope pos) (tLc wi g tt te (own.map (·.2))) := by
  intro pins s σ H Q I h
  rw [eval_ListComp]
  refine lc_core hc hN I hi ok hg ht he hs h fun D C s' m H' I' q hn f => ⟨m, hn, fun h'' sb => ?_⟩
  obtain ⟨f0, f1, f2, f3, f4, f5⟩ := f
  exact ⟨.ref D, H', I'.turned (t' := s'.toks) (fun b o hb e => (sb.2 b hb).trans e) f0 f1 f3 f4 f5, rfl, q⟩
/-- name = [..] on one line, the name a local -/
theorem ps_setLc {i : Nat} {y : Str} {py : Pos} {elt tg iter : Expr} {ifs : List Expr} {scope : Scope} {own : List (Str × Nat)} {pos spos : Pos} {wi : TI} {g : TG} {tt : TT} {te : TE} (hc : X.calm = true) (hN : X.N.Nodup) (hy : X.N[i]? = some y) (hyl : X.env.scope.names.lookup y = some .local)
    (hsw : swapsWith (.ListComp elt [⟨tg, iter, ifs, 0⟩] scope pos) (some (.Name y py)) spos.line X.env = pure true) (hi : PI X tg iter wi) (ok : BlkOk X.N X.env.scope scope own)
    (hg : ∀ (s : Shared) (H : Hp) (C : Addr) (cl : List (Str × Addr)) (fp : List Addr), PG (X.blk s H scope (compEnvC scope cl C X.env) fp) tg g) (ht : ∀ (s : Shared) (H : Hp) (C : Addr) (cl : List (Str × Addr)) (fp : List Addr), PTs (X.blk s H scope (compEnvC scope cl C X.env) fp) ifs tt)
    (he : ∀ (s : Shared) (H : Hp) (C : Addr) (cl : List (Str × Addr)) (fp : List Addr), PE (X.blk s H scope (compEnvC scope cl C X.env) fp) elt te) (hs : ∀ x, foldedSetIterable iter X.env x = pure x := by intro _; rfl) :
    PS X (.Assign [.Name y py] (.ListComp elt [⟨tg, iter, ifs, 0⟩] scope pos) spos) (tAsg (tLc wi g tt te (own.map (·.2))) (gName i)) := by
  intro pins s σ H D I h
  rw [exec_Assign_Name_used _ _ _ _ hsw]
  refine wpAny_bind (wpAny_standAt (wpAny_bind ?_))
  show wpAny _ X.A (do let _ ← comprehension (.ListComp elt [⟨tg, iter, ifs, 0⟩] scope pos) scope X.env (firstIterPos [⟨tg, iter, ifs, 0⟩] pos) (newList []) false (eval iter X.env) (some (assign (.Name y py) X.env))) _ _ s
  have h : tLc wi g tt te (own.map (·.2)) σ H (fun x H1 => gName i x σ H1 D.nx) := h
  refine wpAny_bind (thn (lc_core (Qf := fun _ s' => SP X pins D .next s') hc hN I hi ok hg ht he hs h fun L C s' m H' I' q hn f => ?_) fun _ s' hq => wpAny_pure (wpAny_pure hq))
  show wpAny _ _ (assign (.Name y py) X.env (.ref L)) _ _ _
  refine wpAny_assign_Name (store_ok2 (v := V.ref L) I' hN hy (.inl hyl) rfl (fun s2 I2 ⟨a, sb, ha⟩ => ?_) (.inr hyl))
  obtain ⟨f0, f1, f2, f3, f4, f5⟩ := f
  have haC : C ≠ a := by
    rcases ha with z | z
    · rw [z]; exact f1
    · exact fun e => f4 y a z e.symm
  refine ⟨m, hn.sameBut sb haC, fun h3 sb3 => ?_⟩
  exact ⟨_, H', I2.turned (t' := s2.toks) (fun b o hb e => (sb3.2 b hb).trans e) f0 f1 f3 f4 f5, q⟩
end

/-! ### the forms one uses -/
/-- over a list that the block leaves as it is -/
theorem lc_list {K : PySem.W.Frag} {a : Addr} {xs : List V} {g : TG} {tt : TT} {te : TE} {vs : List Nat} {σ : St} {H1 : Hp} {D : Addr} {Qd : Hp → Prop} (Pv : Nat → Hp → Prop) (h0 : Pv 0 (upd H1 D (.lst []))) (hl : ∀ i H, i ≤ xs.length → Pv i H → SqL K H a xs)
    (hs : ∀ i x H, xs[i]? = some x → Pv i H → g x (wipe σ vs) H fun σ2 H2 => wipe σ2 vs = wipe σ vs ∧ tt σ2 H2 fun b H3 =>
      if b = true then te σ2 H3 fun y H4 => ∃ acc, H4 D = some (.lst acc) ∧ acc.length < sizeLine ∧ Pv (i + 1) (upd H4 D (.lst (acc ++ [y]))) else Pv (i + 1) H3) (hd : ∀ H, Pv xs.length H → Qd H) :
    ∃ W : Nat → Nat → Hp → Prop, (∃ m, W 0 m (upd H1 D (.lst []))) ∧ ∀ i m H, W i m H →
      ((Itl K a).stop i H ∧ Qd H) ∨ ((Itl K a).go i H ∧ ∃ Nx : Hp → Prop, (∀ H', Nx H' → ∃ m', m' < m ∧ W (i + 1) m' H') ∧ ∀ x H', (Itl K a).yld i H x H' → g x (wipe σ vs) H' fun σ2 H2 => wipe σ2 vs = wipe σ vs ∧ tt σ2 H2 fun b H3 =>
        if b = true then te σ2 H3 fun y H4 => ∃ acc, H4 D = some (.lst acc) ∧ acc.length < sizeLine ∧ Nx (upd H4 D (.lst (acc ++ [y]))) else Nx H3) := by
  refine ⟨fun i m H => m = xs.length - i ∧ i ≤ xs.length ∧ Pv i H, ⟨xs.length, by simp, Nat.zero_le _, h0⟩, ?_⟩
  rintro i m H ⟨rfl, hi, p⟩
  have q := hl i H hi p
  by_cases hlt : i < xs.length
  · refine .inr ⟨⟨xs, xs[i], q, by simp [hlt]⟩, Pv (i + 1), fun H' p' => ⟨xs.length - (i + 1), by omega, rfl, hlt, p'⟩, fun x H' y => ?_⟩
    obtain ⟨e, y⟩ := y
    subst e
    exact hs i x _ (y xs q) p
  · have e : i = xs.length := by omega
    subst e
    exact .inl ⟨⟨xs, q, Nat.le_refl _⟩, hd H p⟩
/-- over a tuple -/
theorem lc_tup {K : PySem.W.Frag} {a : Addr} {xs : List V} {g : TG} {tt : TT} {te : TE} {vs : List Nat} {σ : St} {H1 : Hp} {D : Addr} {Qd : Hp → Prop} (Pv : Nat → Hp → Prop) (h0 : Pv 0 (upd H1 D (.lst []))) (hl : ∀ i H, i ≤ xs.length → Pv i H → SqT K H a xs)
    (hs : ∀ i x H, xs[i]? = some x → Pv i H → g x (wipe σ vs) H fun σ2 H2 => wipe σ2 vs = wipe σ vs ∧ tt σ2 H2 fun b H3 =>
      if b = true then te σ2 H3 fun y H4 => ∃ acc, H4 D = some (.lst acc) ∧ acc.length < sizeLine ∧ Pv (i + 1) (upd H4 D (.lst (acc ++ [y]))) else Pv (i + 1) H3) (hd : ∀ H, Pv xs.length H → Qd H) :
    ∃ W : Nat → Nat → Hp → Prop, (∃ m, W 0 m (upd H1 D (.lst []))) ∧ ∀ i m H, W i m H →
      ((Itt K a).stop i H ∧ Qd H) ∨ ((Itt K a).go i H ∧ ∃ Nx : Hp → Prop, (∀ H', Nx H' → ∃ m', m' < m ∧ W (i + 1) m' H') ∧ ∀ x H', (Itt K a).yld i H x H' → g x (wipe σ vs) H' fun σ2 H2 => wipe σ2 vs = wipe σ vs ∧ tt σ2 H2 fun b H3 =>
        if b = true then te σ2 H3 fun y H4 => ∃ acc, H4 D = some (.lst acc) ∧ acc.length < sizeLine ∧ Nx (upd H4 D (.lst (acc ++ [y]))) else Nx H3) := by
  refine ⟨fun i m H => m = xs.length - i ∧ i ≤ xs.length ∧ Pv i H, ⟨xs.length, by simp, Nat.zero_le _, h0⟩, ?_⟩
  rintro i m H ⟨rfl, hi, p⟩
  have q := hl i H hi p
  by_cases hlt : i < xs.length
  · refine .inr ⟨⟨xs, xs[i], q, by simp [hlt]⟩, Pv (i + 1), fun H' p' => ⟨xs.length - (i + 1), by omega, rfl, hlt, p'⟩, fun x H' y => ?_⟩
    obtain ⟨e, y⟩ := y
    subst e
    exact hs i x _ (y xs q) p
  · have e : i = xs.length := by omega
    subst e
    exact .inl ⟨⟨xs, q, Nat.le_refl _⟩, hd H p⟩
def blkC (N : List Str) (sc scope : Scope) (own : List (Str × Nat)) : Bool :=
  (match scope.kind with | .function => true | _ => false) && (scope.names.all fun y => decide (scope.names.lookup y.1 = some y.2)) && (own.all fun p => decide (N[p.2]? = some p.1)) &&
    (scope.names.all fun y => match y.2 with
      | .free => (match sc.names.lookup y.1 with | some .cell => true | some .free => true | _ => false)
      | .local => decide (y.1 ∈ own.map (·.1)) || decide (y.1 ∉ N)
      | .cell => decide (y.1 ∈ own.map (·.1)) || decide (y.1 ∉ N)
      | _ => true)
theorem blkOk_by {N : List Str} {sc scope : Scope} {own : List (Str × Nat)} (h : blkC N sc scope own = true) : BlkOk N sc scope own := by
  unfold blkC at h
  simp only [Bool.and_eq_true, List.all_eq_true, decide_eq_true_eq] at h
  obtain ⟨⟨⟨h1, h2⟩, h3⟩, h4⟩ := h
  refine ⟨?_, h2, h3, fun y hy e => ?_, fun y hy e => ?_⟩
  · split at h1
    · assumption
    · cases h1
  · have q := h4 y hy
    simp only [e] at q
    split at q <;> first | exact .inl (by assumption) | exact .inr (by assumption) | cases q
  · have q := h4 y hy
    rcases e with e | e <;> (simp only [e, Bool.or_eq_true, decide_eq_true_eq] at q; exact q)
end L2

namespace L2
open PySem PySem.Spec PyProof.Rows

section
variable {prog : Program} {w : World} {A : Around} {R : Result → Shared → Prop} {s : Shared} {elt t0 i0 t1 i1 : Expr} {ifs0 ifs1 : List Expr} {scope : Scope} {pos : Pos} {it acc : Value} {env : Env}
end

end L2

namespace L2
open PySem PySem.Spec PyProof.Rows

/-! ### lists of pairs as tables -/
section
variable {κ : Type} [DecidableEq κ]

end

/-! ### a tracked dict, its keys ints and texts or tuples of these -/

section
variable {P : Program} {w : World} {H : Hp} {h : Heap} {a : Addr}
end

section
variable {X : Cx} {pins : List (Addr × Obj)} {σ : St} {H : Hp} {s : Shared} {a : Addr} {y v : V} {u r : Value} {o : Option V} {A : Around} {E : Value → Shared → Prop}

end

section
variable {X : Cx} {pins : List (Addr × Obj)} {σ : St} {H : Hp} {s : Shared} {a : Addr} {kvs : List (Key × V)} {k : Key} {u : Value} {A : Around} {E : Value → Shared → Prop}
end

/-! ### readings and rules -/

section
variable {X : Cx} {o i e value : Expr} {pos pos' tpos : Pos} {td ty tv : TE}
end

/-! ### displays -/
section
variable {X : Cx} {pos : Pos}
end

/-! ### methods -/

section
variable {X : Cx} {pins : List (Addr × Obj)} {σ : St} {H : Hp} {s : Shared} {a : Addr} {y d : V} {u r : Value} {o : Option V} {A : Around} {E : Value → Shared → Prop}
end

section
variable {X : Cx} {o e f : Expr} {apos cpos : Pos} {td ty tx : TE}
end

/-! ### dict(d): a copy -/
section
variable {X : Cx} {pins : List (Addr × Obj)} {σ : St} {H : Hp} {s : Shared} {a : Addr} {kvs : List (Key × V)} {A : Around} {E : Value → Shared → Prop}
end

section
variable {X : Cx} {pins : List (Addr × Obj)} {σ : St} {H : Hp} {s : Shared} {a : Addr} {y : V} {u : Value} {A : Around} {E : Value → Shared → Prop}
end
end L2

namespace L2
open PySem PySem.Spec PyProof.Rows

section
variable {prog : Program} {w : World} {A : Around} {E : Value → Shared → Prop}

end

end L2

namespace L2
open PySem PySem.Spec PyProof.Rows

section
variable {X : Cx} {pins : List (Addr × Obj)} {σ : St} {H : Hp} {s : Shared} {h' : Heap}
/-- several records of ours have turned -/
theorem Inv.turnedL {t' : Nat} {ch : List Addr} (I : Inv X pins σ H s) (k : ∀ b o, b ∉ ch → s.heap.get? b = some o → h'.get? b = some o) (hf : ∀ b ∈ ch, FpOk X pins H b) : Inv X pins σ H { s with heap := h', toks := t' } := by
  have nit : ∀ b u, H b = some u → b ∉ ch := fun b u e z => by
    have q := (hf b z).1
    rw [q] at e; cases e
  refine I.step (g' := s.gens) (d' := s.drawn) (ch := ch) (fun b hb => ⟨(hf b hb).2.2.2.1, (hf b hb).2.1, (hf b hb).2.2.2.2.1, (hf b hb).2.2.2.2.2⟩) (fun b o _ _ hc e _ => k b o hc e) (fun b o _ _ hc e _ => ⟨o.slots, k b o hc e⟩)
    (fun _ _ _ _ n => n) (fun b o hc e => ⟨o, k b o hc e⟩) (fun _ _ e => e) (fun _ _ _ e => e) (fun b ps e => ⟨#[], by rw [e]; simp⟩) (fun m hm => ?_) (fun b u e => ?_) I.bare
  · obtain ⟨o, es, ep, ho, r⟩ := hm
    exact ⟨o, es, ep, k _ o (fun z => (hf _ z).2.1 rfl) ho, r⟩
  · refine (I.hok b u e).stay (fun c v hc q => k c v ?_ q) (fun _ q => q) fun _ _ q => q
    rcases hc with z | z
    · rw [z]; exact nit b u e
    · exact nit c _ z
/-- .. and one new object is laid -/
theorem Inv.turnedNew {t' : Nat} {ch : List Addr} {T : Addr} {ob : HO} (I : Inv X pins σ H s) (k : ∀ b o, b ∉ ch → s.heap.get? b = some o → h'.get? b = some o) (hf : ∀ b ∈ ch, FpOk X pins H b) (hT : s.heap.objs.size ≤ T)
    (new : ObjOk X.prog X.w (upd H T ob) h' T ob) : Inv X pins σ (upd H T ob) { s with heap := h', toks := t' } := by
  have hn : H T = none := I.hok.fresh hT
  have nit : ∀ b u, H b = some u → b ∉ ch := fun b u e z => by
    have q := (hf b z).1
    rw [q] at e; cases e
  refine I.step (g' := s.gens) (d' := s.drawn) (ch := ch) (fun b hb => ⟨(hf b hb).2.2.2.1, (hf b hb).2.1, (hf b hb).2.2.2.2.1, (hf b hb).2.2.2.2.2⟩) (fun b o _ _ hc e _ => k b o hc e) (fun b o _ _ hc e _ => ⟨o.slots, k b o hc e⟩)
    (fun b o _ e n => ?_) (fun b o hc e => ⟨o, k b o hc e⟩) (fun b xs e => ?_) (fun b o u e => ?_) (fun b ps e => ⟨#[], ?_⟩) (fun m hm => ?_) (fun b u e => ?_) I.bare
  · rw [upd_ne (Nat.ne_of_lt (Nat.lt_of_lt_of_le (Heap.lt_size e) hT))]; exact n
  · rw [upd_ne (ne_of_none e hn)]; exact e
  · rw [upd_ne (ne_of_none e hn)]; exact e
  · rw [upd_ne (ne_of_none e hn), e]; simp
  · obtain ⟨o, es, ep, ho, r⟩ := hm
    exact ⟨o, es, ep, k _ o (fun z => (hf _ z).2.1 rfl) ho, r⟩
  · by_cases hb : b = T
    · subst hb
      rw [upd_same] at e
      cases e
      exact new
    · rw [upd_ne hb] at e
      refine (I.hok b u e).stay (fun c v hc q => k c v ?_ q) (fun c q => by rw [upd_ne (ne_of_none q hn)]; exact q) fun c xs q => by rw [upd_ne (ne_of_none q hn)]; exact q
      rcases hc with z | z
      · rw [z]; exact nit b u e
      · exact nit c _ z

/-! ### locking a thing while a statement runs -/
end
section
variable {X : Cx}

/-! ### one iterator just laid -/
end

/-! ### range with a step -/
section
variable {X : Cx} {tg : Expr}
end

/-! ### reversed(list) -/
section
variable {X : Cx} {tg : Expr}
end

/-! ### a str -/

/-! ### a dict's keys: any dict's entries -/
section
variable {prog : Program} {w : World} {A : Around} {E : Value → Shared → Prop} {s : Shared}
end

/-! ### a locked dict -/
section
variable {X : Cx} {pins : List (Addr × Obj)} {σ : St} {H : Hp} {s : Shared} {d : Addr} {o : Obj}
end

section
variable {P : Program} {w : World} {K : PySem.W.Frag} {tg : Expr} {d : Addr} {o : Obj} {es : Array DictEntry} {ep : Nat}
end

/-! ### for k in d, d.keys(), d.values(), d.items() -/
section
variable {X : Cx} {tg e : Expr} {td : TE} {apos cpos : Pos}
end

/-! ### enumerate(list) -/
/-- the list at a as it stands at each turn, each item in a new pair -/
def Ite (K : PySem.W.Frag) (a : Addr) : It :=
  ⟨fun i H => ∃ (xs : List V) (x : V), SqL K H a xs ∧ xs[i]? = some x, fun i H v H' => ∃ T x, v = .ref T ∧ H T = none ∧ H' = upd H T (.tup [.int (i : Nat), x]) ∧ ∀ xs, SqL K H a xs → xs[i]? = some x, fun i H => ∃ xs : List V, SqL K H a xs ∧ xs.length ≤ i⟩
theorem turn_enum {P : Program} {w : World} {K : PySem.W.Frag} {elts : List Expr} {kk : Nat} {tpos : Pos} (a e it : Addr) :
    Turn P w K (.Tuple elts kk tpos) (Ite K a) [e, it] e (fun i h => (∃ old, IsEnum h e it ((i : Nat) : Int) old) ∧ h.IsListIter it a i ∧ e ≠ it) where
  mem := by simp
  obj := fun i h st b hb => by
    obtain ⟨⟨old, he⟩, ⟨o, ho, hc, hd⟩, _⟩ := st
    have e' : b = e ∨ b = it := by simpa using hb
    rcases e' with z | z
    · rw [z]; exact ⟨_, he, fun v q => nomatch q⟩
    · rw [z]; exact ⟨o, ho, fun v q => by rw [hd] at q; cases q⟩
  keep := fun i h h' st k => let ⟨⟨old, he⟩, hi, hne⟩ := st; ⟨⟨old, k e (by simp) _ he⟩, hi.at fun o q => k it (by simp) o q, hne⟩
  item := by
    intro X hP hw hK hc i pins s σ H E I hf st hg
    subst hP hw hK
    obtain ⟨⟨old, he⟩, hit, hne⟩ := st
    obtain ⟨xs, x, hq, hx⟩ := hg
    obtain ⟨its, rv, p, hz⟩ := I.list hq
    obtain ⟨u, hu, ru⟩ := rv.get hx
    have hel : e < s.heap.objs.size := Heap.lt_size he
    have hil : it < s.heap.objs.size := by obtain ⟨_, q, _⟩ := hit; exact Heap.lt_size q
    refine wpAny_pyNext_enum_item he hit p.isList (x := u) (by simpa using hu) hne fun h' ho hit' hT hsz hk => ?_
    refine ⟨_, rfl, wpAny_letOwnedTupleGo_enum (s := { s with heap := h', toks := s.toks + 1 }) ho fun h'' he' sb => ?_⟩
    have hT2 : h''.get? s.heap.objs.size = some { cls := .type "tuple", data := .seq #[.int i s.toks, u] } := (sb.2 _ (Nat.ne_of_gt hel)).trans hT
    have new : ObjOk X.prog X.w (upd H s.heap.objs.size (.tup [.int (i : Nat), x])) h'' s.heap.objs.size (.tup [.int (i : Nat), x]) :=
      ⟨by show 2 ≤ sizeLine; decide, [.int i s.toks, u], .cons ⟨_, rfl⟩ (.cons ru .nil), ⟨_, hT2, rfl, _, rfl⟩⟩
    have I1 : Inv X pins σ (upd H s.heap.objs.size (.tup [.int (i : Nat), x])) { s with heap := h'', toks := s.toks + 1 } :=
      I.turnedNew (ch := [e, it]) (fun b ob hb q => (sb.2 b (fun z => hb (by simp [z]))).trans (hk b ob (fun z => hb (by simp [z])) (fun z => hb (by simp [z])) q)) hf (Nat.le_refl _) new
    refine ⟨.ref s.heap.objs.size, _, I1, rfl, ⟨_, x, rfl, I.hok.fresh (Nat.le_refl _), rfl, fun ys hy => by rw [I.list_inj hy hq]; exact hx⟩, ⟨⟨u, ?_⟩, hit'.at fun o q => (sb.2 it (Ne.symm hne)).trans q, hne⟩, fun b hb => ?_⟩
    · have e1 : ((i + 1 : Nat) : Int) = (i : Int) + 1 := by omega
      rw [e1]; exact he'
    · have hb' : b < s.heap.objs.size := by
        have e' : b = e ∨ b = it := by simpa using hb
        rcases e' with z | z
        · rw [z]; exact hel
        · rw [z]; exact hil
      rw [upd_ne (Nat.ne_of_lt hb')]
      exact (hf b hb).1
  done := by
    intro X hP hw hK hc i pins s σ H E I hf st hg
    subst hP hw hK
    obtain ⟨⟨old, he⟩, hit, hne⟩ := st
    obtain ⟨xs, hq, hx⟩ := hg
    obtain ⟨its, rv, p, hz⟩ := I.list hq
    obtain ⟨f0, f1, f2, f3, f4, f5⟩ := hf it (by simp)
    have hl := rv.length
    exact wpAny_pyNext_enum_end (I.ok.hd hc) he hit p.isList (by simp; omega) fun h' eb => ⟨rfl, I.turned (t' := s.toks) (fun b o hb q => eb b o hb q) f0 f1 f3 f4 f5⟩
  self := fun A i s Q E st h => let ⟨⟨_, he⟩, _⟩ := st; wpAny_pyIter_enum he h
def iEnum (K : PySem.W.Frag) (ta : TA) : TI := fun σ H R => ta σ H fun vs H1 => ∃ a xs, vs = [.ref a] ∧ SqL K H1 a xs ∧ R (Ite K a) H1
theorem pi_enum {X : Cx} {e : Expr} {ta : TA} {p pos tpos : Pos} {elts : List Expr} {kk : Nat} (hg : Gl X "enumerate") (hm : X.mg "enumerate" = none) (ha : PA X [e] ta) (hs : starEach [e] X.env = [(false, eval e X.env)] := by rfl) :
    PI X (.Tuple elts kk tpos) (.Call (.Name "enumerate" p) [e] [] pos) (iEnum X.K ta) := by
  intro pins s σ H R I h
  refine Call_ (ld_blt I hg hm boot_enumerate (PyProof.Rows.callWith_type1 (thn (ha pos pins s σ H _ I h) fun us s1 ⟨vs, H1, I1, r1, q1⟩ => ?_) hs rfl))
  obtain ⟨a, xs, ex, hq, q⟩ := q1
  subst ex
  cases r1 with
  | cons r rr =>
    cases rr
    cases r
    obtain ⟨its, rv, p', hz⟩ := I1.list hq
    refine call_enumerate_list p'.isList fun h' he hit hsz hk => wpAny_pyIter_enum he ?_
    have I2 : Inv X pins σ H1 { s1 with heap := h' } := I1.kept (t' := s1.toks) hk
    refine ⟨s1.heap.objs.size + 1, [s1.heap.objs.size + 1, s1.heap.objs.size], _, _, H1, rfl, I2, turn_enum a (s1.heap.objs.size + 1) s1.heap.objs.size, ⟨⟨.none, he⟩, hit, Nat.succ_ne_self _⟩, fun b hb => ?_, q⟩
    have e' : b = s1.heap.objs.size + 1 ∨ b = s1.heap.objs.size := by simpa using hb
    have hle : s1.heap.objs.size ≤ b := by
      rcases e' with z | z
      · rw [z]; exact Nat.le_add_right _ _
      · rw [z]; exact Nat.le_refl _
    exact I1.fpOk hle (I1.hok.fresh hle)
/-! ### zip(list, list) -/
theorem boot_zip5 : bootBuiltins "zip" = some (.type "zip") := by decide +kernel
/-- the lists at a and b as they stand at each turn, the items in new pairs -/
def Itz (K : PySem.W.Frag) (a b : Addr) : It :=
  ⟨fun i H => ∃ (xs ys : List V) (x y : V), SqL K H a xs ∧ SqL K H b ys ∧ xs[i]? = some x ∧ ys[i]? = some y,
    fun i H v H' => ∃ T x y, v = .ref T ∧ H T = none ∧ H' = upd H T (.tup [x, y]) ∧ (∀ xs, SqL K H a xs → xs[i]? = some x) ∧ ∀ ys, SqL K H b ys → ys[i]? = some y,
    fun i H => ∃ xs ys : List V, SqL K H a xs ∧ SqL K H b ys ∧ (xs.length ≤ i ∨ ys.length ≤ i)⟩
theorem turn_zip {P : Program} {w : World} {K : PySem.W.Frag} {elts : List Expr} {kk : Nat} {tpos : Pos} {a b z TI TO i1 i2 : Addr} (D : ZipApart z TI TO i1 i2 a b) :
    Turn P w K (.Tuple elts kk tpos) (Itz K a b) [z, TI, TO, i1, i2] z (fun i h => IsZip h z TI TO .none ∧ IsPair h TI (.ref i1) (.ref i2) ∧ (∃ x y, IsPair h TO x y) ∧ h.IsListIter i1 a i ∧ h.IsListIter i2 b i) where
  mem := by simp
  obj := fun i h st c hc => by
    obtain ⟨hz, hTI, ⟨x, y, hTO⟩, ⟨o1, e1, _, d1⟩, ⟨o2, e2, _, d2⟩⟩ := st
    have e' : c = z ∨ c = TI ∨ c = TO ∨ c = i1 ∨ c = i2 := by simpa using hc
    rcases e' with q | q | q | q | q
    · rw [q]; exact ⟨_, hz, fun v q => nomatch q⟩
    · rw [q]; exact ⟨_, hTI, fun v q => nomatch q⟩
    · rw [q]; exact ⟨_, hTO, fun v q => nomatch q⟩
    · rw [q]; exact ⟨o1, e1, fun v q => by rw [d1] at q; cases q⟩
    · rw [q]; exact ⟨o2, e2, fun v q => by rw [d2] at q; cases q⟩
  keep := fun i h h' st k => by
    obtain ⟨hz, hTI, ⟨x, y, hTO⟩, h1, h2⟩ := st
    exact ⟨k z (by simp) _ hz, k TI (by simp) _ hTI, ⟨x, y, k TO (by simp) _ hTO⟩, h1.at fun o q => k i1 (by simp) o q, h2.at fun o q => k i2 (by simp) o q⟩
  item := by
    intro X hP hw hK hc i pins s σ H E I hf st hg
    subst hP hw hK
    obtain ⟨hz, hTI, ⟨x0, y0, hTO⟩, h1, h2⟩ := st
    obtain ⟨xs, ys, x, y, hqx, hqy, hx, hy⟩ := hg
    obtain ⟨its, rv, p, _⟩ := I.list hqx
    obtain ⟨its2, rv2, p2, _⟩ := I.list hqy
    obtain ⟨u, hu, ru⟩ := rv.get hx
    obtain ⟨u2, hu2, ru2⟩ := rv2.get hy
    have hzl : z < s.heap.objs.size := Heap.lt_size hz
    refine wpAny_pyNext_zip_item D hz hTI hTO h1 h2 p.isList p2.isList (x := u) (y := u2) (by simpa using hu) (by simpa using hu2) fun h' z' TO' h1' h2' hT hsz hk => ?_
    refine ⟨_, rfl, wpAny_letOwnedTupleGo_zip (s := { s with heap := h' }) z' fun h'' z'' sb => ?_⟩
    have hT2 : h''.get? s.heap.objs.size = some { cls := .type "tuple", data := .seq #[u, u2] } := (sb.2 _ (Nat.ne_of_gt hzl)).trans hT
    have new : ObjOk X.prog X.w (upd H s.heap.objs.size (.tup [x, y])) h'' s.heap.objs.size (.tup [x, y]) :=
      ⟨by show 2 ≤ sizeLine; decide, [u, u2], .cons ru (.cons ru2 .nil), ⟨_, hT2, rfl, _, rfl⟩⟩
    have I1 : Inv X pins σ (upd H s.heap.objs.size (.tup [x, y])) { s with heap := h'' } :=
      I.turnedNew (t' := s.toks) (ch := [z, TI, TO, i1, i2]) (fun c o hb q => (sb.2 c (fun q' => hb (by simp [q']))).trans (hk c o (fun q' => hb (by simp [q'])) (fun q' => hb (by simp [q'])) (fun q' => hb (by simp [q'])) (fun q' => hb (by simp [q'])) q)) hf (Nat.le_refl _) new
    refine ⟨.ref s.heap.objs.size, _, I1, rfl, ⟨_, x, y, rfl, I.hok.fresh (Nat.le_refl _), rfl, fun l hl => by rw [I.list_inj hl hqx]; exact hx, fun l hl => by rw [I.list_inj hl hqy]; exact hy⟩, ⟨z'', ?_, ⟨u, u2, ?_⟩, ?_, ?_⟩, fun c hcm => ?_⟩
    · exact (sb.2 _ D.TIz).trans (hk _ _ D.TIz D.TITO D.TIi1 D.TIi2 hTI)
    · exact (sb.2 _ D.TOz).trans TO'
    · exact h1'.at fun o q => (sb.2 _ D.i1z).trans q
    · exact h2'.at fun o q => (sb.2 _ D.i2z).trans q
    · have hlt : c < s.heap.objs.size := by
        have e' : c = z ∨ c = TI ∨ c = TO ∨ c = i1 ∨ c = i2 := by simpa using hcm
        rcases e' with q | q | q | q | q
        · rw [q]; exact hzl
        · rw [q]; exact Heap.lt_size hTI
        · rw [q]; exact Heap.lt_size hTO
        · rw [q]; obtain ⟨_, e1, _⟩ := h1; exact Heap.lt_size e1
        · rw [q]; obtain ⟨_, e2, _⟩ := h2; exact Heap.lt_size e2
      rw [upd_ne (Nat.ne_of_lt hlt)]
      exact (hf c hcm).1
  done := by
    intro X hP hw hK hc i pins s σ H E I hf st hg
    subst hP hw hK
    obtain ⟨hz, hTI, ⟨x0, y0, hTO⟩, h1, h2⟩ := st
    obtain ⟨xs, ys, hqx, hqy, hend⟩ := hg
    obtain ⟨its, rv, p, _⟩ := I.list hqx
    obtain ⟨its2, rv2, p2, _⟩ := I.list hqy
    have l1 := rv.length
    have l2 := rv2.length
    have he : its.toArray[i]? = none ∨ its2.toArray[i]? = none := by
      rcases hend with q | q
      · exact .inl (by simp; omega)
      · exact .inr (by simp; omega)
    exact wpAny_pyNext_zip_end (I.ok.hd hc) D hz hTI hTO h1 h2 p.isList p2.isList he fun h' hk => ⟨rfl, I.turnedL (t' := s.toks) (ch := [z, TI, TO, i1, i2]) (fun c o hb q =>
      hk c o (fun q' => hb (by simp [q'])) (fun q' => hb (by simp [q'])) (fun q' => hb (by simp [q'])) (fun q' => hb (by simp [q'])) q) hf⟩
  self := fun A i s Q E st h => wpAny_pyIter_zip st.1 h
def iZip (K : PySem.W.Frag) (ta : TA) : TI := fun σ H R => ta σ H fun vs H1 => ∃ a b xs ys, vs = [.ref a, .ref b] ∧ SqL K H1 a xs ∧ SqL K H1 b ys ∧ R (Itz K a b) H1
theorem pi_zip {X : Cx} {e e2 : Expr} {ta : TA} {p pos tpos : Pos} {elts : List Expr} {kk : Nat} (hg : Gl X "zip") (hm : X.mg "zip" = none) (ha : PA X [e, e2] ta)
    (hs : starEach [e, e2] X.env = (false, eval e X.env) :: starEach [e2] X.env := by rfl) (hpl : (backTo pos (starEach [e2] X.env)).any (·.1) = false := by rfl) :
    PI X (.Tuple elts kk tpos) (.Call (.Name "zip" p) [e, e2] [] pos) (iZip X.K ta) := by
  intro pins s σ H R I h
  refine Call_ (ld_blt I hg hm boot_zip5 (PyProof.Rows.callWith_type1 (thn (ha pos pins s σ H _ I h) fun us s1 ⟨vs, H1, I1, r1, q1⟩ => ?_) hs hpl))
  obtain ⟨a, b, xs, ys, ex, hqx, hqy, q⟩ := q1
  subst ex
  cases r1 with
  | cons r rr =>
    cases rr with
    | cons r' rr =>
      cases rr
      cases r
      cases r'
      obtain ⟨its, rv, p1, _⟩ := I1.list hqx
      obtain ⟨its2, rv2, p2, _⟩ := I1.list hqy
      have la : a < s1.heap.objs.size := p1.lt
      have lb : b < s1.heap.objs.size := p2.lt
      refine call_zip_2 p1.isList p2.isList fun h' hz hTI hTO h1 h2 hsz hk => wpAny_pyIter_zip hz ?_
      have I2 : Inv X pins σ H1 { s1 with heap := h' } := I1.kept (t' := s1.toks) hk
      refine ⟨s1.heap.objs.size + 4, [s1.heap.objs.size + 4, s1.heap.objs.size + 2, s1.heap.objs.size + 3, s1.heap.objs.size, s1.heap.objs.size + 1], _, _, H1, rfl, I2, turn_zip (PySem.W.ktu_apart s1.heap.objs.size a b la lb), ⟨hz, hTI, ⟨_, _, hTO⟩, h1, h2⟩, fun c hcm => ?_, q⟩
      have e' : c = s1.heap.objs.size + 4 ∨ c = s1.heap.objs.size + 2 ∨ c = s1.heap.objs.size + 3 ∨ c = s1.heap.objs.size ∨ c = s1.heap.objs.size + 1 := by simpa using hcm
      have hle : s1.heap.objs.size ≤ c := by
        rcases e' with z | z | z | z | z
        · rw [z]; exact Nat.le_add_right _ _
        · rw [z]; exact Nat.le_add_right _ _
        · rw [z]; exact Nat.le_add_right _ _
        · rw [z]; exact Nat.le_refl _
        · rw [z]; exact Nat.le_add_right _ _
      exact I1.fpOk hle (I1.hok.fresh hle)
end L2

section 
namespace Bits
open PySem PyProof.Rows

end Bits
end 

section 
namespace TL
open PySem PySem.Builtin PySem.Builtin.Str PySem.StrLaws

/-! ### the list functions -/

/-! ### the model's split and partition are these -/

/-! ### computing spl and par -/

/-! ### digits -/

/-! ### words: x.split() -/
end TL
end 

namespace L2
open PySem PySem.Spec PyProof.Rows

section
variable {X : Cx} {pins : List (Addr × Obj)} {σ : St} {H : Hp} {s : Shared} {Q : VK}
end

section
variable {X : Cx}

/-! ### of a text alone -/

/-! ### of a text and a text -/

end

section
variable {X : Cx} {o e : Expr} {to te : TE}

end
end L2

namespace L2
open PySem PySem.Spec PyProof.Rows


/-! ### slices of a text -/

end L2

namespace Att
open PySem PySem.W PySem.Calls PyProof.Rows

/-! ### the script -/

/-! ### the attachment: holds_open's last premise (the goal 'hc' behind k_head) from a wpAny of the law's body -/

/-! ### rules over ANY heap (no ledger) from facts about the written part K: the library's own take a ledger (News) for what they write -/
section
variable {prog : Program} {w : World} {A : Around} {E : Value → Shared → Prop} {s : Shared} {K : Frag}

/-! the whole heap as the ledger: makes every rule that writes through a ledger a rule over any heap -/

end
end Att

namespace L2
open PySem PySem.Spec PyProof.Rows

end L2

namespace L2
open PySem PySem.Spec PyProof.Rows

end L2

/- THE LAST THEOREM (shape; LID, My.* are yours):
   My.Adr: a structure of the addresses that your layer names (classes, functions); My.Txt K t: a structure (Prop) of the equations over K;
   My.txt_mk : {K} {implicit addresses ..} (e1 : nsIn K mainGlobals "law" = some (some (.ref f))) (e2 : K.lookup f = some ⟨oc, od, .func (fnOf "law" "law" params body scope dV kV doc pm an cdv ct), sl⟩) (e3 : codeIn K cdv "law" = true) .. : ∃ t, My.Txt K t

set_option maxRecDepth 100000 in
set_option maxHeartbeats 0 in
theorem PySem.Challenge.cw_LID_holds : PySem.Challenge.rw_LID.Holds := by
  w_on; o_law; k_head; (case hw => w_witness2)
  k_fill
  refine L2.walk_of (l := PySem.Challenge.rw_LID) (n := 63) (k := 40) (x := "script") (CX := fun w => ..) (sp := fun _ => My.sp_law) rfl (by decide) rfl ⟨rfl, by decide, by decide⟩ (fun w h Y => PySem.W.kIn_of Y) ?F ?S ?C
  case F =>
    intro w mg fa h KX G hmg
    have T : ∃ t, My.Txt (L2.KOf KX) t := by
      dsimp only [L2.KOf]                          -- K must stand as «<heap const> w.params» for k_is
      refine' My.txt_mk ?e1 ?e2 ?e3 ..
      (case e1 => PySem.W.k_is)                    -- in the order: a name -> its address -> its object -> its parts
      (case e2 => PySem.W.k_is)
      ..
    obtain ⟨t, T⟩ := T
    have e0 := hmg.symm.trans (PySem.W.mg_of KX G T.law)
    cases e0                                       -- fa is the law's own address
    exact ⟨_, fun s u => .of_eq rfl, fun base kb nb => My.law_fn T kb nb⟩     -- if «.of_eq rfl» comes too early: refine' ⟨_, ?b, fun base kb nb => My.law_fn T kb nb⟩; exact fun s u => .of_eq rfl
  case S => exact fun w H a ns hl hO hS => ..
  case C => exact ..
(the tactic k_is has no namespace: write k_is) -/

/-! SHORT WORDS over the layer: a def of the text, its body, what a loop and a test want. -/
namespace L2
open PySem PySem.Spec PyProof.Rows

/-! ### the text by places -/
/-- the j-th statement of a class's body -/
def inClass (s : Stmt) (j : Nat) : Stmt := match s with
  | .ClassDef _ _ _ body _ _ _ _ _ _ _ => body.getD j (.Pass ⟨0, 0, 0, 0⟩)
  | _ => .Pass ⟨0, 0, 0, 0⟩
def defArgs (s : Stmt) : Arguments := match s with
  | .FunctionDef _ a _ _ _ _ _ _ _ _ => a
  | _ => { posonlyargs := [], args := [], vararg := none, kwonlyargs := [], kw_defaults := [], kwarg := none, defaults := [] }
def defBody (s : Stmt) : List Stmt := match s with
  | .FunctionDef _ _ b _ _ _ _ _ _ _ => b
  | _ => []
def defScope (s : Stmt) : Scope := match s with
  | .FunctionDef _ _ _ _ _ _ sc _ _ _ => sc
  | _ => { kind := .function, names := [], isGenerator := false, isCoroutine := false }

/-! ### no exception leaves a def -/
abbrev CX0 : CXT := fun _ _ _ _ _ _ => False
abbrev E0 : XK := fun _ _ _ => False
theorem pass0 {X : Cx} : Passes CX0 X E0 := fun _ _ _ _ _ _ _ h => h.elim

/-! ### a def (or method) of the text as it stands behind the top -/
structure Fun (K : PySem.W.Frag) (x qual : Str) (st : Stmt) (f : Addr) (fd : FuncData) : Prop where
  ex : ∃ (oc : Value) (od : Option Addr) (kV doc pm : Value) (an : Option Addr) (cdv ct : Value) (osl : Array (Option Value)),
    fd = PySem.W.fnOf x qual (defArgs st) (defBody st) (defScope st) .none kV doc pm an cdv ct ∧ K.lookup f = some ⟨oc, od, .func fd, osl⟩ ∧ PySem.W.codeIn K cdv qual = true
  kp : PySem.W.keepIn K (.ref f) = true
section
variable {P : Program} {w : World} {K : PySem.W.Frag} {mg : Str → Option Value} {base : Heap}
/-- THE RULE for a def: its body as a term of rules, and the reading of that term -/
theorem Fun.ok {x qual : Str} {st : Stmt} {f : Addr} {fd : FuncData} {N ps : List Str} {k : Nat} {sp : Sp} (F : Fun K x qual st f fd) (S : FnScope N ps (defScope st)) (len : ∀ vs H Q E, sp vs H Q E → vs.length = ps.length)
    (hbody : ∀ (cdv : Value) (A : Around) (outer : List Env) (s : Shared) (H : Hp) (vs : List V) (Q : VK) (E : XK), Room k (A.deeper (envOfC qual (defScope st) s.heap.objs.size f cdv)) → sp vs H Q E →
      ∃ t, PSs (cxOf CX0 P w K mg base N qual (defScope st) f cdv A outer s H E).nox (defBody st) t ∧ t { nx := fun _ H' => Q .non H', rt := Q } (start N vs) H) : FnOk P w K mg base CX0 (k + 1) f fd ps sp := by
  obtain ⟨oc, od, kV, doc, pm, an, cdv, ct, osl, rfl, lk, hcd⟩ := F.ex
  refine fn_of lk hcd S len fun A outer s H vs Q E hr hsp => ?_
  obtain ⟨t, h, q⟩ := hbody cdv A outer s H vs Q E hr hsp
  exact ⟨t, h.nox, q⟩
/-- how its arguments bind (no defaults): h is «fun _ _ _ _ _ _ us hl => match us, hl with | [_, _], _ => rfl», one _ a parameter -/
theorem Fun.binds {x qual : Str} {st : Stmt} {f : Addr} {fd : FuncData} {ps : List Str} (F : Fun K x qual st f fd)
    (h : ∀ (kV doc pm : Value) (an : Option Addr) (cdv ct : Value) (us : List Value), us.length = ps.length → bindArgs (PySem.W.fnOf x qual (defArgs st) (defBody st) (defScope st) .none kV doc pm an cdv ct) ⟨us, []⟩ = pure (ps.zip us)) : Binds K fd ps [] := by
  obtain ⟨oc, od, kV, doc, pm, an, cdv, ct, osl, rfl, lk, hcd⟩ := F.ex
  exact .all (h kV doc pm an cdv ct)
theorem fun_mk {x qual : Str} {st : Stmt} {f : Addr} {oc : Value} {od an : Option Addr} {osl : Array (Option Value)} {kV doc pm cdv ct : Value} (l : K.lookup f = some ⟨oc, od, .func (PySem.W.fnOf x qual (defArgs st) (defBody st) (defScope st) .none kV doc pm an cdv ct), osl⟩)
    (c : PySem.W.codeIn K cdv qual = true) (k : PySem.W.keepIn K (.ref f) = true) : Fun K x qual st f (PySem.W.fnOf x qual (defArgs st) (defBody st) (defScope st) .none kV doc pm an cdv ct) := ⟨⟨oc, od, kV, doc, pm, an, cdv, ct, osl, rfl, l, c⟩, k⟩
end

/-! ### expressions in short: the name that stands in the i-th slot -/
section
variable {X : Cx}
theorem pv (i : Nat) {x : Str} {pos : Pos} (hN : X.N[i]? = some x := by rfl) (hv : Vis X.env.scope x := by first | exact Or.inl rfl | exact Or.inr (Or.inl rfl) | exact Or.inr (Or.inr rfl)) (hd : (x == ("__debug__" : Str)) = false := by decide)
    (hcd : (x == ("__classdict__" : Str)) = false := by decide) : PE X (.Name x pos) (tVar i) := pe_var hN hv hd hcd
end

/-! ### tests -/
theorem iteF {A B : Prop} (h : B) : if false = true then A else B := by
  rw [if_neg Bool.false_ne_true]
  exact h
theorem iteT {A B : Prop} (h : A) : if true = true then A else B := by
  rw [if_pos rfl]
  exact h
theorem ite2 {c A B : Prop} [Decidable c] (h1 : c → A) (h2 : ¬ c → B) : if c then A else B := by
  by_cases h : c
  · rw [if_pos h]
    exact h1 h
  · rw [if_neg h]
    exact h2 h

/-! ### heaps -/
/-- all that was tracked is as it was -/
def Same (H H' : Hp) : Prop := ∀ b o, H b = some o → H' b = some o
theorem Same.refl (H : Hp) : Same H H := fun _ _ h => h
theorem Same.trans {H H1 H2 : Hp} (a : Same H H1) (b : Same H1 H2) : Same H H2 := fun c o h => b c o (a c o h)
theorem Same.free {H H' : Hp} (e : Same H H') {l : Addr} (h : H' l = Option.none) : H l = Option.none := by
  cases q : H l with
  | none => rfl
  | some o =>
    rw [e l o q] at h
    cases h
theorem Same.seq {K : PySem.W.Frag} {H H' : Hp} {a : Addr} {xs : List V} (e : Same H H') (h : SqL K H a xs) : SqL K H' a xs := by
  rcases h with (h | ⟨o, h⟩) | h
  · exact .inl (.inl (e _ _ h))
  · exact .inl (.inr ⟨o, e _ _ h⟩)
  · exact .inr h

/-! ### a dict's pairs: keys that differ -/
section
variable {κ : Type} [DecidableEq κ]
end
/-! ### lists -/
/-- a new instance and its __init__ leave all that was tracked as it was -/
theorem Same.made {H H1 : Hp} {x dx C : Addr} (nx : H x = Option.none) (nd : H dx = Option.none) (k : ∀ b o, (upd (upd H dx (.own x)) x (.ins C dx [])) b = some o → b ≠ x → H1 b = some o) : Same H H1 := fun b o e =>
  k b o (by rw [upd_ne (ne_of_none e nx), upd_ne (ne_of_none e nd)]; exact e) (ne_of_none e nx)
end L2
end
section
section
set_option Elab.async false
set_option linter.all false
set_option maxRecDepth 100000
set_option maxHeartbeats 2000000
namespace L2
open PySem PySem.Spec PyProof.Rows
open PySem.W (WData Codec OpenSpec Well WellAll ReadsW ReadsAllW)
/-! ### an answer as data -/
mutual
/-- x stands for the datum d, lists and tuples all the way -/
inductive Dw (K : PySem.W.Frag) (H : Hp) : V → WData → Prop
  | non : Dw K H .non .none
  | bl (b : Bool) : Dw K H (.bl b) (.bool b)
  | int (i : Int) : Dw K H (.int i) (.int i)
  | str (x : Str) : Dw K H (.str x) (.str x)
  | byt (b : Array UInt8) : Dw K H (.byt b) (.bytes b.toList)
  | lst {a : Addr} {xs : List V} {ds : List WData} : SqL K H a xs → DwAll K H xs ds → Dw K H (.ref a) (.list ds)
  | tup {a : Addr} {xs : List V} {ds : List WData} : SqT K H a xs → DwAll K H xs ds → Dw K H (.ref a) (.tuple ds)
inductive DwAll (K : PySem.W.Frag) (H : Hp) : List V → List WData → Prop
  | nil : DwAll K H [] []
  | cons {v : V} {vs : List V} {d : WData} {ds : List WData} : Dw K H v d → DwAll K H vs ds → DwAll K H (v :: vs) (d :: ds)
end
theorem dw_ints {K : PySem.W.Frag} {H : Hp} : ∀ ns : List Int, DwAll K H (ns.map V.int) (ns.map WData.int)
  | [] => .nil
  | n :: r => .cons (.int n) (dw_ints r)
theorem ints_dw {K : PySem.W.Frag} {H : Hp} : ∀ (ns : List Int) (xs : List V), DwAll K H xs (ns.map WData.int) → xs = ns.map V.int
  | [], xs, h => by
    cases h
    rfl
  | n :: r, xs, h => by
    cases h with
    | cons h1 h2 =>
      cases h1
      rw [ints_dw r _ h2] <;> rfl
section
variable {P : Program} {w : World} {K : PySem.W.Frag} {H : Hp} {h : Heap} {R : PySem.W.WRecords} {cl : Str → Option Addr}
theorem sqL_at {a : Addr} {xs : List V} (hok : HOk P w H h) (KX : K.In h) (q : SqL K H a xs) : ∃ (its : List Value) (o : Obj) (n : Nat), Vals xs its ∧ h.get? a = some o ∧ o.cls = .type "list" ∧ o.data = .seq its.toArray n := by
  rcases q with q | ⟨o, its, n, e, hc, _, hd, _, hv⟩
  · obtain ⟨_, its, n, hv, e⟩ := (show ObjOk P w H h a (.lst xs) from q.ok hok)
    exact ⟨its, _, n, hv, e, rfl, rfl⟩
  · exact ⟨its.toList, o, n, hv, KX _ _ e, hc, by simp [hd]⟩
theorem sqT_at {a : Addr} {xs : List V} (hok : HOk P w H h) (KX : K.In h) (q : SqT K H a xs) : ∃ (its : List Value) (o : Obj) (n : Nat), Vals xs its ∧ h.get? a = some o ∧ o.cls = .type "tuple" ∧ o.data = .seq its.toArray n := by
  rcases q with q | ⟨o, its, n, e, hc, hd, _, hv⟩
  · obtain ⟨_, its, hv, o, e, hc, n, hd⟩ := (show ObjOk P w H h a (.tup xs) from q.ok hok)
    exact ⟨its, o, n, hv, e, hc, hd⟩
  · exact ⟨its.toList, o, n, hv, KX _ _ e, hc, by simp [hd]⟩
mutual
theorem Dw.reads (hok : HOk P w H h) (KX : K.In h) : ∀ (d : WData) (v : V) (u : Value), Dw K H v d → RelV v u → ∃ as, ReadsW R cl h u d as
  | .none, _, _, x, r => by
    cases x
    cases r
    exact ⟨_, ReadsW.none⟩
  | .bool b, _, _, x, r => by
    cases x
    cases r
    exact ⟨_, ReadsW.bool b⟩
  | .int i, _, _, x, r => by
    cases x
    obtain ⟨t, rfl⟩ := r
    exact ⟨_, ReadsW.int i t⟩
  | .str s, _, _, x, r => by
    cases x
    obtain ⟨t, rfl⟩ := r
    exact ⟨_, ReadsW.str s t⟩
  | .bytes b, _, _, x, r => by
    cases x
    obtain ⟨t, rfl⟩ := r
    exact ⟨_, ReadsW.bytes _ t⟩
  | .list ds, _, _, x, r => by
    cases x with
    | lst hs ha =>
      cases r
      obtain ⟨its, o, n, rv, ho, hc, hd⟩ := sqL_at hok KX hs
      obtain ⟨as, hr⟩ := Dw.readsAll hok KX ds _ its ha rv
      exact ⟨_, ReadsW.list ho hc hd hr⟩
  | .tuple ds, _, _, x, r => by
    cases x with
    | tup hs ha =>
      cases r
      obtain ⟨its, o, n, rv, ho, hc, hd⟩ := sqT_at hok KX hs
      obtain ⟨as, hr⟩ := Dw.readsAll hok KX ds _ its ha rv
      exact ⟨_, ReadsW.tuple ho hc hd hr⟩
  | .float _, _, _, x, _ => by cases x
  | .dict _, _, _, x, _ => by cases x
  | .bytearray _, _, _, x, _ => by cases x
  | .set _, _, _, x, _ => by cases x
  | .frozenset _, _, _, x, _ => by cases x
  | .obj _ _, _, _, x, _ => by cases x
theorem Dw.readsAll (hok : HOk P w H h) (KX : K.In h) : ∀ (ds : List WData) (vs : List V) (us : List Value), DwAll K H vs ds → Vals vs us → ∃ as, ReadsAllW R cl h us ds as
  | [], _, _, x, r => by
    cases x
    cases r
    exact ⟨_, ReadsAllW.nil⟩
  | d :: ds, _, _, x, r => by
    cases x with
    | cons h1 h2 =>
      cases r with
      | cons r1 r2 =>
        obtain ⟨as, q1⟩ := Dw.reads hok KX d _ _ h1 r1
        obtain ⟨bs, q2⟩ := Dw.readsAll hok KX ds _ _ h2 r2
        exact ⟨_, ReadsAllW.cons q1 q2⟩
end
end
/-! ### the arguments -/
mutual
/-- data that a codec tells -/
def plW : WData → Bool
  | .none => true
  | .bool _ => true
  | .int _ => true
  | .str _ => true
  | .bytes _ => true
  | .list xs => plWs xs
  | .tuple xs => plWs xs
  | _ => false
def plWs : List WData → Bool
  | [] => true
  | x :: r => plW x && plWs r
end
theorem plWs_map {α : Type} {f : α → WData} (h : ∀ a, plW (f a) = true) : ∀ l : List α, plWs (l.map f) = true
  | [] => rfl
  | x :: r => by
    show (plW (f x) && plWs (r.map f)) = true
    rw [h x, plWs_map h r] <;> rfl
theorem pl_enc : ∀ (c : Codec) (a : c.denote), plW (c.enc a) = true
  | .unit, _ => rfl
  | .bool, _ => rfl
  | .int _ _, _ => rfl
  | .nat _ _, _ => rfl
  | .u8, _ => rfl
  | .bytes _ _, _ => rfl
  | .text _ _ _ _, _ => rfl
  | .list _ _ c, a => plWs_map (fun x => pl_enc c x) a
  | .pair c d, a => by
    show (plW (c.enc a.1) && (plW (d.enc a.2) && true)) = true
    rw [pl_enc c a.1, pl_enc d a.2] <;> rfl
  | .triple c d e, a => by
    show (plW (c.enc a.1) && (plW (d.enc a.2.1) && (plW (e.enc a.2.2) && true))) = true
    rw [pl_enc c a.1, pl_enc d a.2.1, pl_enc e a.2.2] <;> rfl
  | .option c, none => rfl
  | .option c, some x => pl_enc c x
theorem pl_encAll : ∀ (cs : List Codec) (a : Codec.denoteAll cs), plWs (Codec.encAll cs a) = true
  | [], _ => rfl
  | c :: cs, a => by
    show (plW (c.enc a.1) && plWs (Codec.encAll cs a.2)) = true
    rw [pl_enc c a.1, pl_encAll cs a.2] <;> rfl
theorem weight_mem : ∀ {xs : List WData} {d : WData}, d ∈ xs → d.weight ≤ WData.weightAll xs
  | [], d, h => absurd h (by simp)
  | x :: r, d, h => by
    show d.weight ≤ x.weight + 1 + WData.weightAll r
    rcases List.mem_cons.mp h with e | m
    · rw [e]
      omega
    · have z := weight_mem m
      omega
def toV : Value → V
  | .none => .non
  | .bool b => .bl b
  | .int i _ => .int i
  | .str x _ => .str x
  | .bytes b _ => .byt b
  | .ref a => .ref a
  | _ => .non
/-- a value of the arguments, its objects among A -/
def OkU (A : List Addr) : Value → Prop
  | .none => True
  | .bool _ => True
  | .int _ _ => True
  | .str _ _ => True
  | .bytes _ _ => True
  | .ref a => a ∈ A
  | _ => False
theorem OkU.mono {A B : List Addr} (h : ∀ a ∈ A, a ∈ B) : ∀ {u : Value}, OkU A u → OkU B u := fun {u} x => by
  cases u with
  | ref a => exact h a x
  | none => trivial
  | bool b => trivial
  | int i t => trivial
  | str s t => trivial
  | bytes b t => trivial
  | _ => exact False.elim x
theorem relV_toV {A : List Addr} {u : Value} (x : OkU A u) : RelV (toV u) u := by
  cases u with
  | ref a => rfl
  | none => rfl
  | bool b => rfl
  | int i t => exact ⟨t, rfl⟩
  | str s t => exact ⟨t, rfl⟩
  | bytes b t => exact ⟨t, rfl⟩
  | _ => exact False.elim x
theorem vals_toV {A : List Addr} : ∀ {vs : List Value}, (∀ u ∈ vs, OkU A u) → Vals (vs.map toV) vs
  | [], _ => .nil
  | u :: r, h => .cons (relV_toV (h u (List.mem_cons_self ..))) (vals_toV fun x hx => h x (List.mem_cons_of_mem _ hx))
/-- an object of the arguments -/
def ArgOb (h : Heap) (A : List Addr) (a : Addr) : Prop := ∃ vs : List Value, vs.length ≤ sizeLine ∧ (∀ u ∈ vs, OkU A u) ∧
  (h.get? a = some { cls := .type "list", data := .seq vs.toArray } ∨ h.get? a = some { cls := .type "tuple", data := .seq vs.toArray })
theorem ArgOb.mono {h : Heap} {A B : List Addr} {a : Addr} (k : ∀ a ∈ A, a ∈ B) (x : ArgOb h A a) : ArgOb h B a := by
  obtain ⟨vs, h1, h2, h3⟩ := x
  exact ⟨vs, h1, fun u hu => (h2 u hu).mono k, h3⟩
theorem wellAll_len {P : Params} {h : Heap} : ∀ {vs : List Value} {ds : List WData}, WellAll P h vs ds → vs.length = ds.length
  | _, _, .nil => rfl
  | _, _, .cons _ b => by
    show _ + 1 = _ + 1
    rw [wellAll_len b]
theorem well_list {P : Params} {h : Heap} {v : Value} {ds : List WData} (x : Well P h v (.list ds)) : ∃ (a : Addr) (vs : List Value), v = .ref a ∧ h.get? a = some { cls := .type "list", data := .seq vs.toArray } ∧ WellAll P h vs ds := by
  cases x with
  | list ho hall => exact ⟨_, _, rfl, ho, hall⟩
theorem well_tuple {P : Params} {h : Heap} {v : Value} {ds : List WData} (x : Well P h v (.tuple ds)) : ∃ (a : Addr) (vs : List Value), v = .ref a ∧ h.get? a = some { cls := .type "tuple", data := .seq vs.toArray } ∧ WellAll P h vs ds := by
  cases x with
  | tuple ho hall => exact ⟨_, _, rfl, ho, hall⟩
theorem well_cons {P : Params} {h : Heap} {us : List Value} {d : WData} {ds : List WData} (x : WellAll P h us (d :: ds)) : ∃ (v : Value) (vs : List Value), us = v :: vs ∧ Well P h v d ∧ WellAll P h vs ds := by
  cases x with
  | cons a b => exact ⟨_, _, rfl, a, b⟩
theorem line_of {n : Nat} (h : n ≤ 1048576) : n ≤ sizeLine := Nat.le_trans h (by decide)
section
variable {P : Params} {h : Heap}
mutual
theorem area_one : ∀ (d : WData) (v : Value), Well P h v d → plW d = true → d.weight ≤ 1048576 → ∃ A : List Addr, OkU A v ∧ ∀ a ∈ A, ArgOb h A a
  | .none, _, x, _, _ => by
    cases x
    exact ⟨[], trivial, fun a m => absurd m (by simp)⟩
  | .bool b, _, x, _, _ => by
    cases x
    exact ⟨[], trivial, fun a m => absurd m (by simp)⟩
  | .int i, _, x, _, _ => by
    cases x
    exact ⟨[], trivial, fun a m => absurd m (by simp)⟩
  | .str s, _, x, _, _ => by
    cases x
    exact ⟨[], trivial, fun a m => absurd m (by simp)⟩
  | .bytes b, _, x, _, _ => by
    cases x
    exact ⟨[], trivial, fun a m => absurd m (by simp)⟩
  | .list ds, _, x, p, z => by
    obtain ⟨a, vs, rfl, ho, hall⟩ := well_list x
    have z2 : WData.weightAll ds ≤ 1048576 := z
    obtain ⟨A, h1, h2⟩ := area_all ds _ hall p fun d hd => Nat.le_trans (weight_mem hd) z2
    have k : ∀ b ∈ A, b ∈ a :: A := fun b hb => List.mem_cons_of_mem _ hb
    refine ⟨a :: A, List.mem_cons_self .., fun b hb => ?_⟩
    rcases List.mem_cons.mp hb with e | m
    · rw [e]
      exact ⟨vs, line_of (by rw [wellAll_len hall]; exact Nat.le_trans (PySem.W.length_le_weightAllW ds) z2), fun u hu => (h1 u hu).mono k, .inl ho⟩
    · exact (h2 b m).mono k
  | .tuple ds, _, x, p, z => by
    obtain ⟨a, vs, rfl, ho, hall⟩ := well_tuple x
    have z2 : WData.weightAll ds ≤ 1048576 := z
    obtain ⟨A, h1, h2⟩ := area_all ds _ hall p fun d hd => Nat.le_trans (weight_mem hd) z2
    have k : ∀ b ∈ A, b ∈ a :: A := fun b hb => List.mem_cons_of_mem _ hb
    refine ⟨a :: A, List.mem_cons_self .., fun b hb => ?_⟩
    rcases List.mem_cons.mp hb with e | m
    · rw [e]
      exact ⟨vs, line_of (by rw [wellAll_len hall]; exact Nat.le_trans (PySem.W.length_le_weightAllW ds) z2), fun u hu => (h1 u hu).mono k, .inr ho⟩
    · exact (h2 b m).mono k
  | .float _, _, _, p, _ => Bool.noConfusion (show false = true from p)
  | .dict _, _, _, p, _ => Bool.noConfusion (show false = true from p)
  | .bytearray _, _, _, p, _ => Bool.noConfusion (show false = true from p)
  | .set _, _, _, p, _ => Bool.noConfusion (show false = true from p)
  | .frozenset _, _, _, p, _ => Bool.noConfusion (show false = true from p)
  | .obj _ _, _, _, p, _ => Bool.noConfusion (show false = true from p)
theorem area_all : ∀ (ds : List WData) (vs : List Value), WellAll P h vs ds → plWs ds = true → (∀ d ∈ ds, d.weight ≤ 1048576) → ∃ A : List Addr, (∀ u ∈ vs, OkU A u) ∧ ∀ a ∈ A, ArgOb h A a
  | [], _, x, _, _ => by
    cases x
    exact ⟨[], fun u m => absurd m (by simp), fun a m => absurd m (by simp)⟩
  | d :: ds, _, x, p, z => by
    obtain ⟨v, vs, rfl, x1, x2⟩ := well_cons x
    have q : plW d = true ∧ plWs ds = true := Bool.and_eq_true_iff.mp p
    obtain ⟨A, a1, a2⟩ := area_one d v x1 q.1 (z d (List.mem_cons_self ..))
    obtain ⟨B, b1, b2⟩ := area_all ds vs x2 q.2 fun e he => z e (List.mem_cons_of_mem _ he)
    have kA : ∀ b ∈ A, b ∈ A ++ B := fun b hb => List.mem_append.mpr (.inl hb)
    have kB : ∀ b ∈ B, b ∈ A ++ B := fun b hb => List.mem_append.mpr (.inr hb)
    refine ⟨A ++ B, fun u hu => ?_, fun b hb => ?_⟩
    · rcases List.mem_cons.mp hu with e | m
      · rw [e]
        exact a1.mono kA
      · exact (b1 u m).mono kB
    · rcases List.mem_append.mp hb with m | m
      · exact (a2 b m).mono kA
      · exact (b2 b m).mono kB
end
end
/-- what is tracked of an argument's object -/
def hoOf (o : Obj) : Option HO := match o.data with
  | .seq vs _ => if (o.cls == Value.type "list") = true then some (.frz o (.lst (vs.toList.map toV))) else some (.frz o (.tup (vs.toList.map toV)))
  | _ => none
def argH (K : PySem.W.Frag) (h : Heap) (A : List Addr) : Hp := fun b => if b ∈ A then (if (K.lookup b).isNone = true then (h.get? b).bind hoOf else none) else none
/-- nothing is tracked but what is known to the object -/
def OnlyF (H : Hp) : Prop := ∀ b, H b = none ∨ ∃ o u, H b = some (.frz o u)
theorem hoOf_lst (vs : List Value) : hoOf { cls := .type "list", data := .seq vs.toArray } = some (.frz { cls := .type "list", data := .seq vs.toArray } (.lst (vs.map toV))) := by
  show (if (Value.type "list" == Value.type "list") = true then some (HO.frz { cls := .type "list", data := .seq vs.toArray } (.lst (vs.toArray.toList.map toV))) else some (HO.frz { cls := .type "list", data := .seq vs.toArray } (.tup (vs.toArray.toList.map toV)))) = _
  rw [if_pos (beq_self_eq_true _)]
theorem hoOf_tup (vs : List Value) : hoOf { cls := .type "tuple", data := .seq vs.toArray } = some (.frz { cls := .type "tuple", data := .seq vs.toArray } (.tup (vs.map toV))) := by
  show (if (Value.type "tuple" == Value.type "list") = true then some (HO.frz { cls := .type "tuple", data := .seq vs.toArray } (.lst (vs.toArray.toList.map toV))) else some (HO.frz { cls := .type "tuple", data := .seq vs.toArray } (.tup (vs.toArray.toList.map toV)))) = _
  rw [if_neg (by decide)]
section
variable {P : Program} {w : World} {K : PySem.W.Frag} {h : Heap} {A : List Addr}
theorem argH_at {b : Addr} {o : Obj} (hb : b ∈ A) (hk : K.lookup b = none) (e : h.get? b = some o) : argH K h A b = hoOf o := by
  unfold argH
  rw [if_pos hb, hk, if_pos (show (none : Option Obj).isNone = true from rfl), e] <;> rfl
theorem of_argH {b : Addr} {u : HO} (q : argH K h A b = some u) : b ∈ A ∧ K.lookup b = none := by
  unfold argH at q
  by_cases hb : b ∈ A
  · rw [if_pos hb] at q
    cases hk : K.lookup b with
    | none => exact ⟨hb, rfl⟩
    | some o =>
      rw [hk, if_neg (by simp)] at q
      cases q
  · rw [if_neg hb] at q
    cases q
/-- what stands tracked -/
theorem argH_is (ar : ∀ a ∈ A, ArgOb h A a) {b : Addr} {u : HO} (q : argH K h A b = some u) : K.lookup b = none ∧ ∃ vs : List Value, vs.length ≤ sizeLine ∧ (∀ u ∈ vs, OkU A u) ∧
    ((h.get? b = some { cls := .type "list", data := .seq vs.toArray } ∧ u = .frz { cls := .type "list", data := .seq vs.toArray } (.lst (vs.map toV))) ∨
     (h.get? b = some { cls := .type "tuple", data := .seq vs.toArray } ∧ u = .frz { cls := .type "tuple", data := .seq vs.toArray } (.tup (vs.map toV)))) := by
  obtain ⟨hb, hk⟩ := of_argH q
  obtain ⟨vs, h1, h2, h3⟩ := ar b hb
  refine ⟨hk, vs, h1, h2, ?_⟩
  rcases h3 with e | e
  · rw [argH_at hb hk e, hoOf_lst] at q
    exact .inl ⟨e, (Option.some.inj q).symm⟩
  · rw [argH_at hb hk e, hoOf_tup] at q
    exact .inr ⟨e, (Option.some.inj q).symm⟩
theorem argH_only (ar : ∀ a ∈ A, ArgOb h A a) : OnlyF (argH K h A) := fun b => by
  cases q : argH K h A b with
  | none => exact .inl rfl
  | some u =>
    obtain ⟨_, vs, _, _, ⟨_, e⟩ | ⟨_, e⟩⟩ := argH_is ar q
    · exact .inr ⟨_, _, by rw [e]⟩
    · exact .inr ⟨_, _, by rw [e]⟩
theorem argH_ok (ar : ∀ a ∈ A, ArgOb h A a) : HOk P w (argH K h A) h := fun b u q => by
  obtain ⟨_, vs, h1, h2, ⟨e, rfl⟩ | ⟨e, rfl⟩⟩ := argH_is ar q
  · exact ⟨e, by rw [List.length_map]; exact h1, vs, _, vals_toV h2, e⟩
  · exact ⟨e, by rw [List.length_map]; exact h1, vs, vals_toV h2, _, e, rfl, _, rfl⟩
theorem seq_inj {c c' : Value} {vs us : List Value} (e : (some { cls := c, data := .seq vs.toArray } : Option Obj) = some { cls := c', data := .seq us.toArray }) : c = c' ∧ vs = us := by
  have e1 := Option.some.inj e
  have e2 : c = c' := congrArg Obj.cls e1
  have e3 : Data.seq vs.toArray = Data.seq us.toArray := congrArg Obj.data e1
  injection e3 with e4
  refine ⟨e2, ?_⟩
  have e5 := congrArg Array.toList e4
  simpa using e5
/-- a list argument -/
theorem argL (KX : K.In h) (ar : ∀ a ∈ A, ArgOb h A a) {a : Addr} {vs : List Value} (ha : a ∈ A) (e : h.get? a = some { cls := .type "list", data := .seq vs.toArray }) : (∀ u ∈ vs, OkU A u) ∧ SqL K (argH K h A) a (vs.map toV) := by
  obtain ⟨us, h1, h2, h3⟩ := ar a ha
  have hu : us = vs := by
    rcases h3 with q | q
    · rw [e] at q
      exact (seq_inj q).2.symm
    · rw [e] at q
      exact absurd (Value.type.inj (seq_inj q).1) (by decide)
  subst hu
  refine ⟨h2, ?_⟩
  cases hk : K.lookup a with
  | none => exact .inl (.inr ⟨_, by rw [argH_at ha hk e, hoOf_lst]⟩)
  | some o =>
    have e2 := KX a o hk
    rw [e] at e2
    obtain rfl := Option.some.inj e2
    exact .inr ⟨_, us.toArray, _, hk, rfl, rfl, rfl, by rw [List.size_toArray]; exact h1, by simpa using vals_toV h2⟩
theorem argT (KX : K.In h) (ar : ∀ a ∈ A, ArgOb h A a) {a : Addr} {vs : List Value} (ha : a ∈ A) (e : h.get? a = some { cls := .type "tuple", data := .seq vs.toArray }) : (∀ u ∈ vs, OkU A u) ∧ SqT K (argH K h A) a (vs.map toV) := by
  obtain ⟨us, h1, h2, h3⟩ := ar a ha
  have hu : us = vs := by
    rcases h3 with q | q
    · rw [e] at q
      exact absurd (Value.type.inj (seq_inj q).1) (by decide)
    · rw [e] at q
      exact (seq_inj q).2.symm
  subst hu
  refine ⟨h2, ?_⟩
  cases hk : K.lookup a with
  | none => exact .inl (.inr ⟨_, by rw [argH_at ha hk e, hoOf_tup]⟩)
  | some o =>
    have e2 := KX a o hk
    rw [e] at e2
    obtain rfl := Option.some.inj e2
    exact .inr ⟨_, us.toArray, _, hk, rfl, rfl, by rw [List.size_toArray]; exact h1, by simpa using vals_toV h2⟩
mutual
theorem dw_one {Pm : Params} (KX : K.In h) (ar : ∀ a ∈ A, ArgOb h A a) : ∀ (d : WData) (v : Value), Well Pm h v d → plW d = true → OkU A v → Dw K (argH K h A) (toV v) d
  | .none, _, x, _, _ => by
    cases x
    exact .non
  | .bool b, _, x, _, _ => by
    cases x
    exact .bl b
  | .int i, _, x, _, _ => by
    cases x
    exact .int i
  | .str s, _, x, _, _ => by
    cases x
    exact .str s
  | .bytes b, _, x, _, _ => by
    cases x
    have z := Dw.byt (K := K) (H := argH K h A) b.toArray
    exact z
  | .list ds, _, x, p, hu => by
    obtain ⟨a, vs, rfl, ho, hall⟩ := well_list x
    obtain ⟨h2, hs⟩ := argL KX ar hu ho
    exact .lst hs (dw_all KX ar ds _ hall p h2)
  | .tuple ds, _, x, p, hu => by
    obtain ⟨a, vs, rfl, ho, hall⟩ := well_tuple x
    obtain ⟨h2, hs⟩ := argT KX ar hu ho
    exact .tup hs (dw_all KX ar ds _ hall p h2)
  | .float _, _, _, p, _ => Bool.noConfusion (show false = true from p)
  | .dict _, _, _, p, _ => Bool.noConfusion (show false = true from p)
  | .bytearray _, _, _, p, _ => Bool.noConfusion (show false = true from p)
  | .set _, _, _, p, _ => Bool.noConfusion (show false = true from p)
  | .frozenset _, _, _, p, _ => Bool.noConfusion (show false = true from p)
  | .obj _ _, _, _, p, _ => Bool.noConfusion (show false = true from p)
theorem dw_all {Pm : Params} (KX : K.In h) (ar : ∀ a ∈ A, ArgOb h A a) : ∀ (ds : List WData) (vs : List Value), WellAll Pm h vs ds → plWs ds = true → (∀ u ∈ vs, OkU A u) → DwAll K (argH K h A) (vs.map toV) ds
  | [], _, x, _, _ => by
    cases x
    exact .nil
  | d :: ds, _, x, p, hu => by
    obtain ⟨v, vs, rfl, x1, x2⟩ := well_cons x
    have q : plW d = true ∧ plWs ds = true := Bool.and_eq_true_iff.mp p
    exact .cons (dw_one KX ar d v x1 q.1 (hu _ (List.mem_cons_self ..))) (dw_all KX ar ds vs x2 q.2 fun u m => hu u (List.mem_cons_of_mem _ m))
end
end
/-! ### the call -/
theorem spec_call {P : Program} {w : World} {K : PySem.W.Frag} {mg mb : Str → Option Value} {CX : CXT} {k : Nat} {fa : Addr} {fd : FuncData} {ps : List Str} {sp : Sp} {s₁ : Shared} {vals : List Value} {ds : List WData} {R : PySem.W.WRecords} {cl : Str → Option Addr} {d0 : WData}
    (KX : K.In s₁.heap) (hns : s₁.heap.Ns mainGlobals mg) (hb : s₁.heap.Ns builtinsNs mb) (hbb : ∀ x : Str, x ≠ "__name__" → mb x = bootBuiltins x) (hlim : s₁.heap.NoLimit) (hg : s₁.gens = #[])
    (hwl : WellAll w.params s₁.heap vals ds) (hpl : plWs ds = true) (hwt : ∀ d ∈ ds, d.weight ≤ 1048576) (hr : Room k callerA)
    (F : ∀ base : Heap, K.In base → base.Ns mainGlobals mg → FnOk P w K mg base CX k fa fd ps sp) (hbind : ∀ (s : Shared) (us : List Value), us.length = ps.length → BindsTo s fd ⟨us, []⟩ (ps.zip us)) (hlen : ds.length = ps.length)
    (hsp : ∀ (H : Hp) (xs : List V), OnlyF H → DwAll K H xs ds → sp xs H (fun v H' => Dw K H' v d0) fun _ _ _ => False)
    (hCX : ∀ H e s', CX [] H s₁ (fun _ _ _ => False) e s' → False) :
    codeAny (model P w) callerA (.call (.ref fa) ⟨vals, []⟩) (fun r s' => ∃ u as, r = .ok (.ret u) ∧ ReadsW R cl s'.heap u d0 as ∧ OldK s₁.heap s'.heap ∧ s'.os = s₁.os ∧ AllBare s'.gens) s₁ := by
  obtain ⟨A, ho, ar⟩ := area_all ds vals hwl hpl hwt
  have hO : OnlyF (argH K s₁.heap A) := argH_only ar
  have hok : HOk P w (argH K s₁.heap A) s₁.heap := argH_ok ar
  have hS := dw_all KX ar ds vals hwl hpl ho
  have hV := vals_toV ho
  have hK : ∀ b u, argH K s₁.heap A b = some u → K.lookup b = none := fun b u q => (argH_is ar q).1
  have noA : ∀ {b : Addr} {o : Obj} {es : Array DictEntry} {ep : Nat}, s₁.heap.get? b = some o → o.data = .dict es ep → argH K s₁.heap A b = none := fun {b o es ep} e d => by
    cases q : argH K s₁.heap A b with
    | none => rfl
    | some u =>
      obtain ⟨_, vs, _, _, ⟨e2, _⟩ | ⟨e2, _⟩⟩ := argH_is ar q
      · rw [e2] at e
        cases e
        have d' : Data.seq vs.toArray _ = Data.dict es ep := d
        cases d'
      · rw [e2] at e
        cases e
        have d' : Data.seq vs.toArray _ = Data.dict es ep := d
        cases d'
  generalize argH K s₁.heap A = H at hO hok hS hK noA
  have base_of : ∀ {b : Addr} {o : Obj}, s₁.heap.get? b = some o → H b = none → (hidT s₁.heap H).get? b = some o := fun e n => hidT_get e n
  have nsK : ∀ {b : Addr} {m : Str → Option Value}, s₁.heap.Ns b m → (hidT s₁.heap H).Ns b m := fun {b m} ⟨o, es, ep, e, d, r⟩ => ⟨o, es, ep, base_of e (noA e d), d, r⟩
  have nK : ∀ b o, K.lookup b = some o → H b = none := fun b o e => by
    cases q : H b with
    | none => rfl
    | some u =>
      rw [hK b u q] at e
      cases e
  have hKb : K.In (hidT s₁.heap H) := fun b o e => base_of (KX b o e) (nK b o e)
  have hM : Mod K mg (hidT s₁.heap H) := ⟨hKb, nsK hns, ⟨mb, nsK hb, hbb⟩, let ⟨mc, h1, h2⟩ := hlim; ⟨mc, nsK h1, h2⟩⟩
  have e0 : Env0 P w K mg (hidT s₁.heap H) callerA [] s₁ H := ⟨rfl, hM, fun b o e => of_hidT e, Nat.le_of_eq (hidT_size _ _), trivial, fun b hb => absurd (show b ∈ ([] : List Addr) from hb) (by simp), hok, .of_eq hg⟩
  have hl : vals.length = ps.length := by rw [wellAll_len hwl]; exact hlen
  refine codeAny_mono ((F _ hKb (nsK hns)).run callerA [] s₁ H ⟨vals, []⟩ vals (vals.map toV) _ _ hr e0 (hbind s₁ vals hl) hV (hsp H _ hO hS)) fun r s' x => ?_
  cases r with
  | error e => exact (hCX H e s' x).elim
  | ok fl =>
    cases fl with
    | next => exact False.elim x
    | brk => exact False.elim x
    | cont => exact False.elim x
    | ret u =>
      obtain ⟨v, H', os, bare, un, hok', r', q⟩ := x
      have kept : ∀ b o, s₁.heap.get? b = some o → s'.heap.get? b = some o := fun b o e => by
        cases q2 : H b with
        | none => exact un.keep b o e q2 (by intro z; exact absurd (show b ∈ ([] : List Addr) from z) (by simp)) (by simp)
        | some u2 =>
          rcases hO b with z | ⟨ob, u3, z⟩
          · rw [q2] at z
            cases z
          · have z2 := un.frzs b ob _ z
            obtain ⟨e1, _⟩ := hok b _ z
            obtain ⟨e2, _⟩ := hok' b _ z2
            rw [e] at e1
            cases e1
            exact e2
      have KX' : K.In s'.heap := fun b o e => kept b o (KX b o e)
      obtain ⟨as, hrd⟩ := Dw.reads (R := R) (cl := cl) hok' KX' d0 v u q r'
      exact ⟨u, as, rfl, hrd, OldK.of_keep kept, os, bare⟩
/-! ### the row -/
theorem layable_weight {ds : List WData} (h : WData.layableAll ds = true) : ∀ d ∈ ds, d.weight ≤ 1048576 := fun d hd =>
  (PySem.W.layableW_iff.mp (List.all_eq_true.mp h d hd)).2.2
theorem encAll_len : ∀ (cs : List Codec) (a : Codec.denoteAll cs), (Codec.encAll cs a).length = cs.length
  | [], _ => rfl
  | c :: cs, a => by
    show (Codec.encAll cs a.2).length + 1 = cs.length + 1
    rw [encAll_len cs a.2]
/-- the goal that k_headS leaves (case hc), from the promise of the row's def: whatever the arguments that the codecs let and the row asks for, the def gives what stands for enc (f ..) -/
theorem walk_spec {r : OpenSpec} {k : Nat} {q : Program} {loose : List Str} {XP : (Str → Option Value) → Heap → Prop} {YP : World → Heap → Prop} {d : DefRec} {K : Params → PySem.W.Frag} {CX : World → CXT} {ps : List Str} {sp : World → Sp}
    (hwell : r.wellSaid = true) (hdf : d.params.defaults = []) (hlen : r.args.length = ps.length) (hr : Room k callerA)
    (hY : ∀ (w : World) (h : Heap), YP w h → (K w.params).In h)
    (F : ∀ (w : World) (mg : Str → Option Value) (fa : Addr) (h : Heap), YP w h → (K w.params).In h → h.Ns mainGlobals mg → mg d.name = some (.ref fa) →
      ∃ fd : FuncData, (∀ (s : Shared) (us : List Value), us.length = ps.length → BindsTo s fd ⟨us, []⟩ (ps.zip us)) ∧
        ∀ base : Heap, (K w.params).In base → base.Ns mainGlobals mg → FnOk r.prog w (K w.params) mg base (CX w) k fa fd ps (sp w))
    (hsp : ∀ (w : World) (H : Hp) (xs : List V) (a : Codec.denoteAll r.args), OnlyF H → Codec.withinAll r.args a = true → Codec.app r.args r.asked a = true → DwAll (K w.params) H xs (Codec.encAll r.args a) →
      sp w xs H (fun v H' => Dw (K w.params) H' v (r.ret.enc (Codec.app r.args r.f a))) fun _ _ _ => False)
    (hCX : ∀ (w : World) (H : Hp) (s : Shared) (e : Value) (s' : Shared), CX w [] H s (fun _ _ _ => False) e s' → False) :
    PySem.W.WalkOS q loose XP YP r d [] (fun f vs => PySem.call f vs) := by
  intro w s_0 s₁ mg mb G Y fa o pm cd doc dV kV ho hd hcd hD hmg hg args vals as hpre hlay hrd hwl hlo
  obtain ⟨a, e1, e2⟩ := PySem.W.os_pre_some hpre
  obtain ⟨e3, hwi⟩ := Codec.encAll_of_decAll r.args args a e1
  subst e3
  have KX := hY w _ Y
  obtain ⟨fd, hb, hF⟩ := F w mg fa _ Y KX G.T.g hmg
  refine PySem.W.enter_call (codeAny_mono (spec_call (R := []) (cl := classAt s_0.heap) (d0 := r.ret.enc (Codec.app r.args r.f a)) KX G.T.g G.T.b G.T.builtins G.T.nolimit hg hwl (pl_encAll _ _) (layable_weight hlay) hr hF hb (by rw [encAll_len]; exact hlen)
    (fun H xs hO hS => hsp w H xs a hO hwi e2 hS) fun H e s' => hCX w H s₁ e s') fun r' s' hq => ?_)
  obtain ⟨u, as', rfl, h1, h2, h3, h4⟩ := hq
  exact ⟨.inl ⟨u, _, as', rfl, fun _ => rfl, h1, (OpenSpec.post_iff hwell hwi _ _).mpr rfl, fun z => Bool.noConfusion (show false = true from z)⟩, h2, h3, h4⟩
/-- the same where the promise hangs on the written part alone -/
theorem walk_specK {r : OpenSpec} {k : Nat} {q : Program} {loose : List Str} {XP : (Str → Option Value) → Heap → Prop} {YP : World → Heap → Prop} {d : DefRec} {K : Params → PySem.W.Frag} {CX : CXT} {ps : List Str} {sp : PySem.W.Frag → Sp}
    (hwell : r.wellSaid = true) (hdf : d.params.defaults = []) (hlen : r.args.length = ps.length) (hr : Room k callerA)
    (hY : ∀ (w : World) (h : Heap), YP w h → (K w.params).In h)
    (F : ∀ (w : World) (mg : Str → Option Value) (fa : Addr) (h : Heap), YP w h → (K w.params).In h → h.Ns mainGlobals mg → mg d.name = some (.ref fa) →
      ∃ fd : FuncData, (∀ (s : Shared) (us : List Value), us.length = ps.length → BindsTo s fd ⟨us, []⟩ (ps.zip us)) ∧
        ∀ base : Heap, (K w.params).In base → base.Ns mainGlobals mg → FnOk r.prog w (K w.params) mg base CX k fa fd ps (sp (K w.params)))
    (hsp : ∀ (K : PySem.W.Frag) (H : Hp) (xs : List V) (a : Codec.denoteAll r.args), OnlyF H → Codec.withinAll r.args a = true → Codec.app r.args r.asked a = true → DwAll K H xs (Codec.encAll r.args a) →
      sp K xs H (fun v H' => Dw K H' v (r.ret.enc (Codec.app r.args r.f a))) fun _ _ _ => False)
    (hCX : ∀ (H : Hp) (s : Shared) (e : Value) (s' : Shared), CX [] H s (fun _ _ _ => False) e s' → False) :
    PySem.W.WalkOS q loose XP YP r d [] (fun f vs => PySem.call f vs) :=
  walk_spec (K := K) (CX := fun _ => CX) (sp := fun w => sp (K w.params)) hwell hdf hlen hr hY F (fun w H xs a h1 h2 h3 h4 => hsp (K w.params) H xs a h1 h2 h3 h4) fun _ H s e s' => hCX H s e s'
end L2
end
end
section
set_option Elab.async false
set_option linter.all false
set_option maxRecDepth 100000
set_option maxHeartbeats 2000000
namespace Pw
open PySem PySem.Spec L2

/-! ### defs as their callers find them -/
def Has (P : Program) (w : World) (K : PySem.W.Frag) (mg : Str → Option Value) (base : Heap) (x : Str) (ps : List Str) (k : Nat) (sp : Sp) : Prop :=
  ∃ f fd, mg x = some (.ref f) ∧ PySem.W.keepIn K (.ref f) = true ∧ Binds K fd ps [] ∧ FnOk P w K mg base CX0 k f fd ps sp
def Def (K : PySem.W.Frag) (mg : Str → Option Value) (x : Str) (st : Stmt) (ps : List Str) : Prop :=
  ∃ f fd, Fun K x x st f fd ∧ mg x = some (.ref f) ∧ Binds K fd ps []
theorem Def.has {P : Program} {w : World} {K : PySem.W.Frag} {mg : Str → Option Value} {base : Heap} {x : Str} {st : Stmt} {ps : List Str} {k : Nat} {sp : Sp} (D : Def K mg x st ps)
    (h : ∀ f fd, Fun K x x st f fd → FnOk P w K mg base CX0 k f fd ps sp) : Has P w K mg base x ps k sp := by
  obtain ⟨f, fd, F, hm, hb⟩ := D
  exact ⟨f, fd, hm, F.kp, hb, h f fd F⟩
/-- a method -/
def MHas (P : Program) (w : World) (K : PySem.W.Frag) (mg : Str → Option Value) (base : Heap) (C : Addr) (m : Str) (ps : List Str) (k : Nat) (sp : Sp) : Prop :=
  ∃ f fd, Meth K C m f ∧ Binds K fd ps [] ∧ FnOk P w K mg base CX0 k f fd ps sp
def MDef (K : PySem.W.Frag) (C : Addr) (x qual : Str) (st : Stmt) (ps : List Str) : Prop :=
  ∃ f fd, Fun K x qual st f fd ∧ Meth K C x f ∧ Binds K fd ps []
theorem MDef.has {P : Program} {w : World} {K : PySem.W.Frag} {mg : Str → Option Value} {base : Heap} {C : Addr} {x qual : Str} {st : Stmt} {ps : List Str} {k : Nat} {sp : Sp} (D : MDef K C x qual st ps)
    (h : ∀ f fd, Fun K x qual st f fd → FnOk P w K mg base CX0 k f fd ps sp) : MHas P w K mg base C x ps k sp := by
  obtain ⟨f, fd, F, hm, hb⟩ := D
  exact ⟨f, fd, hm, hb, h f fd F⟩
/-- a class that is called, with its __init__ -/
def CHas (P : Program) (w : World) (K : PySem.W.Frag) (mg : Str → Option Value) (base : Heap) (x : Str) (C : Addr) (ps : List Str) (k : Nat) (sp : Sp) : Prop :=
  ∃ f fd, mg x = some (.ref C) ∧ Mk K C f ∧ Binds K fd ps [] ∧ FnOk P w K mg base CX0 k f fd ps sp
def CDef (K : PySem.W.Frag) (mg : Str → Option Value) (x qual : Str) (C : Addr) (st : Stmt) (ps : List Str) : Prop :=
  ∃ f fd, Fun K "__init__" qual st f fd ∧ mg x = some (.ref C) ∧ Mk K C f ∧ Binds K fd ps []
theorem CDef.has {P : Program} {w : World} {K : PySem.W.Frag} {mg : Str → Option Value} {base : Heap} {x qual : Str} {C : Addr} {st : Stmt} {ps : List Str} {k : Nat} {sp : Sp} (D : CDef K mg x qual C st ps)
    (h : ∀ f fd, Fun K "__init__" qual st f fd → FnOk P w K mg base CX0 k f fd ps sp) : CHas P w K mg base x C ps k sp := by
  obtain ⟨f, fd, F, hm, mk, hb⟩ := D
  exact ⟨f, fd, hm, mk, hb, h f fd F⟩
def GInt (mg : Str → Option Value) (x : Str) (n : Int) : Prop := ∃ t, mg x = some (.int n t)
section
variable {X : Cx} {x : Str} {ps : List Str} {k : Nat} {sp : Sp} {p pos apos : Pos} {e o : Expr} {es : List Expr} {ta : TE} {t : TA} {C : Addr} {m : Str}
theorem pe_callH (h : Has X.prog X.w X.K X.mg X.base x ps k sp) (hr : Room k X.A) (hg : Gl X x) (ha : PA X (e :: es) t) (hdb : (x == ("__debug__" : Str)) = false := by decide)
    (he : starEach (e :: es) X.env = (false, eval e X.env) :: starEach es X.env := by rfl) (hpl : (backTo pos (starEach es X.env)).any (·.1) = false := by rfl) : PE X (.Call (.Name x p) (e :: es) [] pos) (tCall sp [] E0 t) := by
  obtain ⟨f, fd, hm, hk, hb, F⟩ := h
  exact pe_call F hr hg hm hk hb .nil pass0 ha hdb he hpl
theorem pe_makeH (h : CHas X.prog X.w X.K X.mg X.base x C ps k sp) (hr : Room (k + 1) X.A) (hg : Gl X x) (ha : PA X (e :: es) t) (hdb : (x == ("__debug__" : Str)) = false := by decide)
    (he : starEach (e :: es) X.env = (false, eval e X.env) :: starEach es X.env := by rfl) (hpl : (backTo pos (starEach es X.env)).any (·.1) = false := by rfl) : PE X (.Call (.Name x p) (e :: es) [] pos) (tMake C sp [] E0 t) := by
  obtain ⟨f, fd, hm, mk, hb, F⟩ := h
  exact pe_make mk F hr hg hm hb .nil pass0 ha hdb he hpl
theorem pe_makeH0 (h : CHas X.prog X.w X.K X.mg X.base x C ps k sp) (hr : Room (k + 1) X.A) (hg : Gl X x) (hdb : (x == ("__debug__" : Str)) = false := by decide) : PE X (.Call (.Name x p) [] [] pos) (tMake C sp [] E0 tNil) := by
  obtain ⟨f, fd, hm, mk, hb, F⟩ := h
  exact pe_make0 mk F hr hg hm hb .nil pass0 hdb
theorem pe_methH {pl : Sem Bool} (ho : PE X o ta) (c : Cls X.K C) (h : MHas X.prog X.w X.K X.mg X.base C m ps k sp) (hr : Room k X.A) (ha : PA X (e :: es) t)
    (hst : starEach (e :: es) X.env = (false, eval e X.env) :: starEach es X.env := by rfl) (hpl : (backTo pos (starEach es X.env)).any (·.1) = false := by rfl)
    (ht : eval (.Call (.Attribute o m apos) (e :: es) [] pos) X.env = (do
      let ov ← eval o X.env
      standAt apos.atName
      let (f, first) ← holding [ov] (getMethod ov m pl)
      callWith pos f first (backTo pos (starEach (e :: es) X.env)) (backToKw pos (keywordEach [] X.env))) := by rfl) :
    PE X (.Call (.Attribute o m apos) (e :: es) [] pos) (tMeth C m sp [] E0 ta t) := by
  obtain ⟨f, fd, hm, hb, F⟩ := h
  exact pe_meth ho c hm F hr hb .nil pass0 ha hst hpl ht
theorem pe_methH0 {pl : Sem Bool} (ho : PE X o ta) (c : Cls X.K C) (h : MHas X.prog X.w X.K X.mg X.base C m ps k sp) (hr : Room k X.A)
    (ht : eval (.Call (.Attribute o m apos) [] [] pos) X.env = (do
      let ov ← eval o X.env
      standAt apos.atName
      let (f, first) ← holding [ov] (getMethod ov m pl)
      callWith pos f first (backTo pos (starEach [] X.env)) (backToKw pos (keywordEach [] X.env))) := by rfl) :
    PE X (.Call (.Attribute o m apos) [] [] pos) (tMeth C m sp [] E0 ta tNil) := by
  obtain ⟨f, fd, hm, hb, F⟩ := h
  exact pe_meth0 ho c hm F hr hb .nil pass0 ht
theorem pe_gint {n : Int} (h : GInt X.mg x n) (hg : Gl X x) (hd : (x == ("__debug__" : Str)) = false := by decide) : PE X (.Name x pos) (tC (.int n)) := by
  obtain ⟨t, h⟩ := h
  exact pe_glob hg h ⟨t, rfl⟩ hd
end

theorem b_abs : bootBuiltins "abs" = some (.builtin "abs") := by decide +kernel
theorem b_len : bootBuiltins "len" = some (.builtin "len") := by decide +kernel
theorem b_max : bootBuiltins "max" = some (.builtin "max") := by decide +kernel
theorem b_min : bootBuiltins "min" = some (.builtin "min") := by decide +kernel
theorem b_any : bootBuiltins "any" = some (.builtin "any") := by decide +kernel
theorem b_all : bootBuiltins "all" = some (.builtin "all") := by decide +kernel

/-! ### fields -/
def FldAt (K : PySem.W.Frag) (H : Hp) (a : Addr) (f : Str) (v : V) : Prop := ∃ C dx fs, H a = some (.ins C dx fs) ∧ Cls K C ∧ NoAttr K C f ∧ fs.lookup f = some v
/-- o.f, where the field is known -/
def tFl (K : PySem.W.Frag) (ta : TE) (f : Str) : TE := fun σ H Q => ta σ H fun x H1 => ∃ a v, x = .ref a ∧ FldAt K H1 a f v ∧ Q v H1
theorem pe_fl {X : Cx} {e : Expr} {ta : TE} {f : Str} {pos : Pos} (he : PE X e ta) (hb : attributeBase e f X.env (eval e X.env) = eval e X.env := by rfl) : PE X (.Attribute e f pos) (tFl X.K ta f) := by
  intro pins s σ H Q I h
  refine attr_of hb (thn (he pins s σ H _ I h) fun u s1 ⟨x, H1, I1, rx, a, v, ex, ⟨C, dx, fs, ea, c, n, l⟩, q⟩ => ?_)
  subst ex
  obtain rfl : u = Value.ref a := rx
  exact getattr_ok I1 ea c n l fun u' s2 I2 ru => ⟨v, H1, I2, ru, q⟩
theorem FldAt.same {K : PySem.W.Frag} {H H' : Hp} {a : Addr} {f : Str} {v : V} (s : Same H H') (h : FldAt K H a f v) : FldAt K H' a f v := by
  obtain ⟨C, dx, fs, h1, h2, h3, h4⟩ := h
  exact ⟨C, dx, fs, s _ _ h1, h2, h3, h4⟩
theorem Same.upd {H : Hp} {a : Addr} {o : HO} (h : H a = none) : Same H (upd H a o) := fun b u e => by
  rw [upd_ne (ne_of_none e h)]
  exact e
/-- a new object changes, and nothing else that was -/
theorem Same.updU {H H' : Hp} {a : Addr} {o : HO} (h : H a = none) (s : Same H H') : Same H (L2.upd H' a o) := fun b u e => by
  rw [upd_ne (ne_of_none e h)]
  exact s _ _ e
theorem chain_II {i j l : Int} {Q : Bool → Hp → Prop} {H : Hp} (h : Q (decide (i ≤ j) && decide (j ≤ l)) H) :
    if decide (i ≤ j) = true then ∃ i' j', V.int j = .int i' ∧ V.int l = .int j' ∧ ∃ k, V.bl (decide (i' ≤ j')) = .bl k ∧ Q k H else ∃ k, V.bl false = .bl k ∧ Q k H := by
  by_cases hh : i ≤ j
  · rw [if_pos (decide_eq_true hh)]
    rw [decide_eq_true hh, Bool.true_and] at h
    exact ⟨_, _, rfl, rfl, _, rfl, h⟩
  · rw [if_neg (by rw [decide_eq_false hh]; decide)]
    rw [decide_eq_false hh, Bool.false_and] at h
    exact ⟨_, rfl, h⟩
/-- a number that is not below 0 -/
def nV (n : Nat) : V := .int (n : Int)
theorem map_nV (l : List Nat) : l.map nV = (l.map fun n : Nat => (n : Int)).map V.int := by
  rw [List.map_map]
  rfl

/-! ### walks over two lists -/
theorem for_zip {K : PySem.W.Frag} {a b : Addr} {xs ys : List V} {g : TG} {tb : TS} {D : Ends} {σ : St} {H : Hp} (Pv : Nat → St → Hp → Prop) (hxy : xs.length = ys.length) (h0 : Pv 0 σ H) (hl : ∀ i σ H, i ≤ xs.length → Pv i σ H → SqL K H a xs ∧ SqL K H b ys)
    (hs : ∀ i x y T σ H, xs[i]? = some x → ys[i]? = some y → Pv i σ H → H T = none → g (.ref T) σ (upd H T (.tup [x, y])) fun σ2 H2 => tb { D with nx := Pv (i + 1), ct := Pv (i + 1), bk := D.nx } σ2 H2) (hd : ∀ σ H, Pv xs.length σ H → D.nx σ H) :
    ∃ W : Nat → Nat → St → Hp → Prop, (∃ m, W 0 m σ H) ∧ ∀ i m σ H, W i m σ H →
      ((Itz K a b).stop i H ∧ D.nx σ H) ∨ ((Itz K a b).go i H ∧ ∃ N : St → Hp → Prop, (∀ σ' H', N σ' H' → ∃ m', m' < m ∧ W (i + 1) m' σ' H') ∧ ∀ x H', (Itz K a b).yld i H x H' → g x σ H' fun σ2 H2 => tb { D with nx := N, ct := N, bk := D.nx } σ2 H2) := by
  refine ⟨fun i m σ H => m = xs.length - i ∧ i ≤ xs.length ∧ Pv i σ H, ⟨xs.length, by simp, Nat.zero_le _, h0⟩, ?_⟩
  rintro i m σ H ⟨rfl, hi, p⟩
  obtain ⟨q1, q2⟩ := hl i σ H hi p
  by_cases hlt : i < xs.length
  · have hlt2 : i < ys.length := by omega
    refine .inr ⟨⟨xs, ys, xs[i], ys[i], q1, q2, by simp [hlt], by simp [hlt2]⟩, Pv (i + 1), fun σ' H' p' => ⟨xs.length - (i + 1), by omega, rfl, hlt, p'⟩, fun v H' y => ?_⟩
    obtain ⟨T, x, y, rfl, hT, rfl, e1, e2⟩ := y
    exact hs i x y T σ H (e1 xs q1) (e2 ys q2) p hT
  · have e : i = xs.length := by omega
    subst e
    exact .inl ⟨⟨xs, ys, q1, q2, .inl (Nat.le_refl _)⟩, hd σ H p⟩
theorem for_enum {K : PySem.W.Frag} {a : Addr} {xs : List V} {g : TG} {tb : TS} {D : Ends} {σ : St} {H : Hp} (Pv : Nat → St → Hp → Prop) (h0 : Pv 0 σ H) (hl : ∀ i σ H, i ≤ xs.length → Pv i σ H → SqL K H a xs)
    (hs : ∀ i x T σ H, xs[i]? = some x → Pv i σ H → H T = none → g (.ref T) σ (upd H T (.tup [.int (i : Nat), x])) fun σ2 H2 => tb { D with nx := Pv (i + 1), ct := Pv (i + 1), bk := D.nx } σ2 H2) (hd : ∀ σ H, Pv xs.length σ H → D.nx σ H) :
    ∃ W : Nat → Nat → St → Hp → Prop, (∃ m, W 0 m σ H) ∧ ∀ i m σ H, W i m σ H →
      ((Ite K a).stop i H ∧ D.nx σ H) ∨ ((Ite K a).go i H ∧ ∃ N : St → Hp → Prop, (∀ σ' H', N σ' H' → ∃ m', m' < m ∧ W (i + 1) m' σ' H') ∧ ∀ x H', (Ite K a).yld i H x H' → g x σ H' fun σ2 H2 => tb { D with nx := N, ct := N, bk := D.nx } σ2 H2) := by
  refine ⟨fun i m σ H => m = xs.length - i ∧ i ≤ xs.length ∧ Pv i σ H, ⟨xs.length, by simp, Nat.zero_le _, h0⟩, ?_⟩
  rintro i m σ H ⟨rfl, hi, p⟩
  have q := hl i σ H hi p
  by_cases hlt : i < xs.length
  · refine .inr ⟨⟨xs, xs[i], q, by simp [hlt]⟩, Pv (i + 1), fun σ' H' p' => ⟨xs.length - (i + 1), by omega, rfl, hlt, p'⟩, fun v H' y => ?_⟩
    obtain ⟨T, x, rfl, hT, rfl, e1⟩ := y
    exact hs i x T σ H (e1 xs q) p hT
  · have e : i = xs.length := by omega
    subst e
    exact .inl ⟨⟨xs, q, Nat.le_refl _⟩, hd σ H p⟩
theorem lc_zip {K : PySem.W.Frag} {a b : Addr} {xs ys : List V} {g : TG} {tt : TT} {te : TE} {vs : List Nat} {σ : St} {H1 : Hp} {D : Addr} {Qd : Hp → Prop} (n : Nat) (hn : n = min xs.length ys.length) (Pv : Nat → Hp → Prop) (h0 : Pv 0 (upd H1 D (.lst []))) (hl : ∀ i H, i ≤ n → Pv i H → SqL K H a xs ∧ SqL K H b ys)
    (hs : ∀ i x y T H, xs[i]? = some x → ys[i]? = some y → Pv i H → H T = none → g (.ref T) (wipe σ vs) (upd H T (.tup [x, y])) fun σ2 H2 => wipe σ2 vs = wipe σ vs ∧ tt σ2 H2 fun b H3 =>
      if b = true then te σ2 H3 fun y H4 => ∃ acc, H4 D = some (.lst acc) ∧ acc.length < sizeLine ∧ Pv (i + 1) (upd H4 D (.lst (acc ++ [y]))) else Pv (i + 1) H3) (hd : ∀ H, Pv n H → Qd H) :
    ∃ W : Nat → Nat → Hp → Prop, (∃ m, W 0 m (upd H1 D (.lst []))) ∧ ∀ i m H, W i m H →
      ((Itz K a b).stop i H ∧ Qd H) ∨ ((Itz K a b).go i H ∧ ∃ Nx : Hp → Prop, (∀ H', Nx H' → ∃ m', m' < m ∧ W (i + 1) m' H') ∧ ∀ x H', (Itz K a b).yld i H x H' → g x (wipe σ vs) H' fun σ2 H2 => wipe σ2 vs = wipe σ vs ∧ tt σ2 H2 fun b H3 =>
        if b = true then te σ2 H3 fun y H4 => ∃ acc, H4 D = some (.lst acc) ∧ acc.length < sizeLine ∧ Nx (upd H4 D (.lst (acc ++ [y]))) else Nx H3) := by
  refine ⟨fun i m H => m = n - i ∧ i ≤ n ∧ Pv i H, ⟨n, by simp, Nat.zero_le _, h0⟩, ?_⟩
  rintro i m H ⟨rfl, hi, p⟩
  obtain ⟨q1, q2⟩ := hl i H hi p
  by_cases hlt : i < n
  · have hx : i < xs.length := by omega
    have hy : i < ys.length := by omega
    refine .inr ⟨⟨xs, ys, xs[i], ys[i], q1, q2, by simp [hx], by simp [hy]⟩, Pv (i + 1), fun H' p' => ⟨n - (i + 1), by omega, rfl, hlt, p'⟩, fun v H' y => ?_⟩
    obtain ⟨T, x, y, rfl, hT, rfl, e1, e2⟩ := y
    exact hs i x y T H (e1 xs q1) (e2 ys q2) p hT
  · have e : i = n := by omega
    subst e
    exact .inl ⟨⟨xs, ys, q1, q2, by omega⟩, hd H p⟩
end Pw
end
section
set_option Elab.async false
set_option linter.all false
set_option maxRecDepth 100000
set_option maxHeartbeats 2000000
namespace Pw
open PySem PySem.Spec L2
def top (i : Nat) : Stmt := PySem.Challenge.pw_curedsteps_s01_answers.main.body.getD i (.Pass ⟨0, 0, 0, 0⟩)
abbrev s_Mould_init : Stmt := inClass (top 6) 0  -- ['self', 'lag', 'most', 'step', 'low', 'high', 'warms', 'rates']
abbrev s_is_as_told : Stmt := top 7  -- ['mould']
abbrev s_is_table : Stmt := top 8  -- ['warms', 'rates', 'lower', 'upper']
abbrev s_rate_at : Stmt := top 9  -- ['mould', 'warmth', 'reached', 'row_warmth', 'rate']
abbrev s_is_point : Stmt := top 10  -- ['mould', 'point']
abbrev s_may_go : Stmt := top 11  -- ['mould', 'point', 'other']
abbrev s_points_by_whole_steps : Stmt := top 12  -- ['mould', 'point', 'others', 'other']
abbrev s_may_come_in_turn : Stmt := top 13  -- ['mould', 'point', 'programme', 'before', 'other']
abbrev s_Part_init : Stmt := inClass (top 16) 0  -- ['self', 'warmth', 'cure']
abbrev s_is_cured : Stmt := top 17  -- ['part']
abbrev s_is_too_hot : Stmt := top 18  -- ['mould', 'part']
abbrev s_warmth_later : Stmt := top 19  -- ['mould', 'warmth', 'point', 'gap', 'move']
abbrev s_minute_later : Stmt := top 20  -- ['mould', 'part', 'point', 'warmth', 'cure']
abbrev s_course : Stmt := top 21  -- ['mould', 'part', 'programme', 'parts', 'point']
abbrev s_is_ever_too_hot : Stmt := top 22  -- ['mould', 'parts', 'part']
abbrev s_Reader_init : Stmt := inClass (top 25) 0  -- ['self', 'calls']
abbrev s_Reader_is_at_end : Stmt := inClass (top 25) 1  -- ['self']
abbrev s_Reader_read_number : Stmt := inClass (top 25) 2  -- ['self', 'number']
abbrev s_Reader_read_row : Stmt := inClass (top 25) 3  -- ['self', 'length', 'row']
abbrev s_Reader_read_given : Stmt := inClass (top 25) 4  -- ['self', 'call', 'shape', 'given', 'turn']
abbrev s_Way_init : Stmt := inClass (top 27) 0  -- ['self', 'programme', 'point', 'part']
abbrev s_ways_a_minute_longer : Stmt := top 28  -- ['mould', 'ways', 'longer', 'way', 'point', 'part']
abbrev s_first_cured : Stmt := top 29  -- ['ways', 'way']
abbrev s_first_cured_furthest : Stmt := top 30  -- ['ways', 'best', 'way']
abbrev s_soonest_way : Stmt := top 31  -- ['mould', 'part', 'point', 'minutes', 'ways', 'turn', 'way']
abbrev s_farthest_way : Stmt := top 32  -- ['mould', 'part', 'point', 'minutes', 'ways', 'turn']
abbrev s_Oven_init : Stmt := inClass (top 46) 0  -- ['self']
abbrev s_course_held : Stmt := top 47  -- ['oven', 'minutes']
abbrev s_course_that_does : Stmt := top 48  -- ['oven', 'programme', 'parts']
abbrev s_carry_out : Stmt := top 49  -- ['oven', 'programme', 'parts', 'warmths', 'part']
abbrev s_told_of : Stmt := top 50  -- ['part']
abbrev s_start : Stmt := top 51  -- ['oven', 'given', 'mould']
abbrev s_set_to : Stmt := top 52  -- ['oven', 'given', 'point', 'before']
abbrev s_pass_by : Stmt := top 53  -- ['oven', 'given', 'minutes']
abbrev s_would : Stmt := top 54  -- ['oven', 'given', 'minutes']
abbrev s_hottest : Stmt := top 55  -- ['oven', 'given', 'minutes', 'part']
abbrev s_left : Stmt := top 56  -- ['oven', 'given', 'minute', 'part']
abbrev s_cooled : Stmt := top 57  -- ['oven', 'given', 'warmth', 'minute', 'part']
abbrev s_cured : Stmt := top 58  -- ['oven', 'given']
abbrev s_run : Stmt := top 59  -- ['oven', 'given', 'programme', 'parts']
abbrev s_follow : Stmt := top 60  -- ['oven', 'given', 'programme']
abbrev s_soonest : Stmt := top 61  -- ['oven', 'given', 'minutes', 'way']
abbrev s_farthest : Stmt := top 62  -- ['oven', 'given', 'minutes', 'way']
abbrev s_rate : Stmt := top 63  -- ['oven', 'given', 'warmth']
abbrev s_next_points : Stmt := top 64  -- ['oven', 'given', 'points']
abbrev s_new_part : Stmt := top 65  -- ['oven', 'given', 'fresh', 'cure']
abbrev s_look_back : Stmt := top 66  -- ['oven', 'given', 'back']
abbrev s_safe : Stmt := top 67  -- ['oven', 'given', 'minutes']
abbrev s_need : Stmt := top 68  -- ['oven', 'given', 'minutes', 'point', 'parts']
abbrev s_state : Stmt := top 69  -- ['oven', 'given']
abbrev s_answer : Stmt := top 71  -- ['oven', 'call', 'given', 'ask']
abbrev s_answers : Stmt := top 72  -- ['calls', 'oven', 'reader', 'told', 'call', 'numbers']
end Pw
end
section
set_option Elab.async false
set_option linter.all false
set_option maxRecDepth 100000
set_option maxHeartbeats 2000000
namespace Pw
open PySem PySem.Spec L2

/-! ### a mould -/
structure Mo where
  lag : Nat
  most : Nat
  step : Nat
  low : Nat
  high : Nat
  warms : List Nat
  rates : List Nat
structure ClM (K : PySem.W.Frag) (C : Addr) : Prop where
  cl : Cls K C
  n1 : NoAttr K C "lag"
  n2 : NoAttr K C "most"
  n3 : NoAttr K C "step"
  n4 : NoAttr K C "low"
  n5 : NoAttr K C "high"
  n6 : NoAttr K C "warms"
  n7 : NoAttr K C "rates"
structure MouldAt (K : PySem.W.Frag) (H : Hp) (m : Addr) (M : Mo) : Prop where
  lag : FldAt K H m "lag" (nV M.lag)
  most : FldAt K H m "most" (nV M.most)
  step : FldAt K H m "step" (nV M.step)
  low : FldAt K H m "low" (nV M.low)
  high : FldAt K H m "high" (nV M.high)
  warms : ∃ l, FldAt K H m "warms" (.ref l) ∧ SqL K H l (M.warms.map nV)
  rates : ∃ l, FldAt K H m "rates" (.ref l) ∧ SqL K H l (M.rates.map nV)
theorem MouldAt.same {K : PySem.W.Frag} {H H' : Hp} {m : Addr} {M : Mo} (s : Same H H') (h : MouldAt K H m M) : MouldAt K H' m M := by
  obtain ⟨h1, h2, h3, h4, h5, ⟨l6, h6, g6⟩, ⟨l7, h7, g7⟩⟩ := h
  exact ⟨h1.same s, h2.same s, h3.same s, h4.same s, h5.same s, ⟨l6, h6.same s, s.seq g6⟩, ⟨l7, h7.same s, s.seq g7⟩⟩

/-! ### the promises -/
def spMould (K : PySem.W.Frag) : Sp := fun vs H Q _ => ∃ (p C dx lw lr : Addr) (M : Mo), vs = [.ref p, nV M.lag, nV M.most, nV M.step, nV M.low, nV M.high, .ref lw, .ref lr] ∧ H p = some (.ins C dx []) ∧ ClM K C ∧
  SqL K H lw (M.warms.map nV) ∧ SqL K H lr (M.rates.map nV) ∧ ∀ H' : Hp, MouldAt K H' p M → FldAt K H' p "warms" (.ref lw) → FldAt K H' p "rates" (.ref lr) → (∀ b o, H b = some o → b ≠ p → H' b = some o) → Q .non H'
def spIsTable (K : PySem.W.Frag) : Sp := fun vs H Q _ => ∃ (lw lr : Addr) (ws rs : List Nat), vs = [.ref lw, .ref lr] ∧ SqL K H lw (ws.map nV) ∧ SqL K H lr (rs.map nV) ∧ ∀ H', Same H H' → Q (.bl (Kqv3.okTable ws rs)) H'
def toldB (M : Mo) : Bool := decide (1 ≤ M.lag ∧ M.lag ≤ 50) && decide (1 ≤ M.step ∧ M.step ≤ 100) && decide (M.most ≤ 300) && decide (M.high ≤ 300) && decide (M.low ≤ M.high) && decide (M.low ≤ M.most) && Kqv3.okTable M.warms M.rates
def spIsAsTold (K : PySem.W.Frag) : Sp := fun vs H Q _ => ∃ (m : Addr) (M : Mo), vs = [.ref m] ∧ MouldAt K H m M ∧ ∀ H', Same H H' → Q (.bl (toldB M)) H'
def spRate (K : PySem.W.Frag) : Sp := fun vs H Q _ => ∃ (m : Addr) (M : Mo) (w : Nat), vs = [.ref m, nV w] ∧ MouldAt K H m M ∧ M.warms.length = M.rates.length ∧ ∀ H', Same H H' → Q (nV (Kqv3.rate (M.warms.zip M.rates) w)) H'
def spIsPoint (K : PySem.W.Frag) : Sp := fun vs H Q _ => ∃ (m : Addr) (M : Mo) (s : Nat), vs = [.ref m, nV s] ∧ MouldAt K H m M ∧ ∀ H', Same H H' → Q (.bl (decide (M.low ≤ s ∧ s ≤ M.high))) H'
def spMayGo (K : PySem.W.Frag) : Sp := fun vs H Q _ => ∃ (m : Addr) (M : Mo) (s t : Nat), vs = [.ref m, nV s, nV t] ∧ MouldAt K H m M ∧ ∀ H', Same H H' → Q (.bl (decide (max s t - min s t ≤ M.step))) H'
/-- each may come behind the one before -/
def turnB (M : Mo) : Nat → List Nat → Bool
  | _, [] => true
  | s, t :: l => decide (M.low ≤ t ∧ t ≤ M.high) && decide (max s t - min s t ≤ M.step) && turnB M t l
def spInTurn (K : PySem.W.Frag) : Sp := fun vs H Q _ => ∃ (m l : Addr) (M : Mo) (s : Nat) (ts : List Nat), vs = [.ref m, nV s, .ref l] ∧ MouldAt K H m M ∧ SqL K H l (ts.map nV) ∧ ∀ H', Same H H' → Q (.bl (turnB M s ts)) H'

section
variable {P : Program} {w : World} {K : PySem.W.Frag} {mg : Str → Option Value} {base : Heap}

theorem sc_Mould_init : FnScope ["self", "lag", "most", "step", "low", "high", "warms", "rates"] ["self", "lag", "most", "step", "low", "high", "warms", "rates"] (defScope s_Mould_init) := ⟨rfl, rfl, rfl, by decide +kernel, rfl, by decide +kernel, by decide +kernel⟩
theorem has_Mould {C : Addr} (D : CDef K mg "Mould" "Mould.__init__" C s_Mould_init ["self", "lag", "most", "step", "low", "high", "warms", "rates"]) :
    CHas P w K mg base "Mould" C ["self", "lag", "most", "step", "low", "high", "warms", "rates"] 1 (spMould K) := D.has fun f fd F => by
  refine F.ok sc_Mould_init (fun vs H Q E h => ?_) (fun cdv A outer s H vs Q E hr h => ?_)
  · obtain ⟨p, C, dx, lw, lr, M, rfl, _⟩ := h
    rfl
  · obtain ⟨p, C, dx, lw, lr, M, rfl, hp, T, hw, hl, k⟩ := h
    have nw : ∀ {l : Addr} {xs : List V} {fs : List (Str × V)}, SqL K H l xs → SqL K (upd H p (.ins C dx fs)) l xs := fun {l xs fs} h => by
      rcases h with (h | ⟨o, h⟩) | h
      · exact .inl (.inl (by rw [upd_ne (ne_of h hp (by intro z; cases z))]; exact h))
      · exact .inl (.inr ⟨o, by rw [upd_ne (ne_of h hp (by intro z; cases z))]; exact h⟩)
      · exact .inr h
    refine ⟨_, pss_cons (ps_fld (pv 0) (pv 1) rfl) (pss_cons (ps_fld (pv 0) (pv 2) rfl) (pss_cons (ps_fld (pv 0) (pv 3) rfl) (pss_cons (ps_fld (pv 0) (pv 4) rfl) (pss_cons (ps_fld (pv 0) (pv 5) rfl)
      (pss_cons (ps_fld (pv 0) (pv 6) rfl) (pss_one (ps_fld (pv 0) (pv 7) rfl))))))), ?_⟩
    refine ⟨_, rfl, _, rfl, p, C, dx, [], rfl, hp, T.cl, T.n1, (by decide), ?_⟩
    refine ⟨_, rfl, _, rfl, p, C, dx, _, rfl, upd_same, T.cl, T.n2, (by show 1 < 1000; decide), ?_⟩
    rw [upd_upd]
    refine ⟨_, rfl, _, rfl, p, C, dx, _, rfl, upd_same, T.cl, T.n3, (by show 2 < 1000; decide), ?_⟩
    rw [upd_upd]
    refine ⟨_, rfl, _, rfl, p, C, dx, _, rfl, upd_same, T.cl, T.n4, (by show 3 < 1000; decide), ?_⟩
    rw [upd_upd]
    refine ⟨_, rfl, _, rfl, p, C, dx, _, rfl, upd_same, T.cl, T.n5, (by show 4 < 1000; decide), ?_⟩
    rw [upd_upd]
    refine ⟨_, rfl, _, rfl, p, C, dx, _, rfl, upd_same, T.cl, T.n6, (by show 5 < 1000; decide), ?_⟩
    rw [upd_upd]
    refine ⟨_, rfl, _, rfl, p, C, dx, _, rfl, upd_same, T.cl, T.n7, (by show 6 < 1000; decide), ?_⟩
    rw [upd_upd]
    refine k _ ⟨⟨C, dx, _, upd_same, T.cl, T.n1, rfl⟩, ⟨C, dx, _, upd_same, T.cl, T.n2, rfl⟩, ⟨C, dx, _, upd_same, T.cl, T.n3, rfl⟩, ⟨C, dx, _, upd_same, T.cl, T.n4, rfl⟩, ⟨C, dx, _, upd_same, T.cl, T.n5, rfl⟩,
      ⟨lw, ⟨C, dx, _, upd_same, T.cl, T.n6, rfl⟩, nw hw⟩, ⟨lr, ⟨C, dx, _, upd_same, T.cl, T.n7, rfl⟩, nw hl⟩⟩ ⟨C, dx, _, upd_same, T.cl, T.n6, rfl⟩ ⟨C, dx, _, upd_same, T.cl, T.n7, rfl⟩ fun b o e hb => by rw [upd_ne hb]; exact e

theorem sc_is_point : FnScope ["mould", "point"] ["mould", "point"] (defScope s_is_point) := ⟨rfl, rfl, rfl, by decide +kernel, rfl, by decide +kernel, by decide +kernel⟩
theorem has_is_point (D : Def K mg "is_point" s_is_point ["mould", "point"]) : Has P w K mg base "is_point" ["mould", "point"] 1 (spIsPoint K) := D.has fun f fd F => by
  refine F.ok sc_is_point (fun vs H Q E h => ?_) (fun cdv A outer s H vs Q E hr h => ?_)
  · obtain ⟨m, M, s, rfl, _⟩ := h
    rfl
  · obtain ⟨m, M, s, rfl, hM, k⟩ := h
    refine ⟨_, pss_one (ps_ret (pe_chain op_le op_le (pe_fl (pv 0)) (pv 1) (pe_fl (pv 0)))), ?_⟩
    refine ⟨_, rfl, m, _, rfl, hM.low, _, rfl, _, _, rfl, rfl, _, rfl, ?_⟩
    have e : decide (M.low ≤ s ∧ s ≤ M.high) = (decide ((M.low : Int) ≤ (s : Int)) && decide ((s : Int) ≤ (M.high : Int))) := by
      rw [Bool.decide_and]
      congr 1 <;> exact decide_eq_decide.mpr (by omega)
    have k' := k H (Same.refl H)
    rw [e] at k'
    by_cases hh : (M.low : Int) ≤ (s : Int)
    · rw [if_pos (decide_eq_true hh)]
      rw [decide_eq_true hh, Bool.true_and] at k'
      exact ⟨_, rfl, m, _, rfl, hM.high, _, _, rfl, rfl, k'⟩
    · rw [if_neg (by rw [decide_eq_false hh]; decide)]
      rw [decide_eq_false hh, Bool.false_and] at k'
      exact k'

theorem sc_may_go : FnScope ["mould", "point", "other"] ["mould", "point", "other"] (defScope s_may_go) := ⟨rfl, rfl, rfl, by decide +kernel, rfl, by decide +kernel, by decide +kernel⟩
theorem has_may_go (zabs : mg "abs" = none) (D : Def K mg "may_go" s_may_go ["mould", "point", "other"]) : Has P w K mg base "may_go" ["mould", "point", "other"] 1 (spMayGo K) := D.has fun f fd F => by
  refine F.ok sc_may_go (fun vs H Q E h => ?_) (fun cdv A outer s H vs Q E hr h => ?_)
  · obtain ⟨m, M, s, t, rfl, _⟩ := h
    rfl
  · obtain ⟨m, M, s, t, rfl, hM, k⟩ := h
    refine ⟨_, pss_one (ps_ret (pe_cmpR op_le (pe_callB call_abs rfl zabs b_abs (pa_cons (pe_op op_sub (pv 2) (pv 1)) pa_nil)) (pe_fl (pv 0)) (nomark _))), ?_⟩
    refine ⟨_, rfl, _, rfl, _, _, rfl, rfl, _, rfl, _, rfl, m, _, rfl, hM.step, _, _, rfl, rfl, ?_⟩
    have e : decide (max s t - min s t ≤ M.step) = decide ((if (t : Int) - (s : Int) < 0 then -((t : Int) - (s : Int)) else (t : Int) - (s : Int)) ≤ (M.step : Int)) := decide_eq_decide.mpr (by
      split <;> omega)
    have k' := k H (Same.refl H)
    rw [e] at k'
    exact k'
theorem rate_fold (w : Nat) : ∀ (t : List (Nat × Nat)) (a : Nat), t.foldl (fun acc r => if r.1 ≤ w then r.2 else acc) a = ((t.filter fun r => decide (r.1 ≤ w)).getLast?.map fun r => r.2).getD a
  | [], a => rfl
  | r :: t, a => by
    rw [List.foldl_cons, rate_fold w t, List.filter_cons]
    by_cases h : r.1 ≤ w
    · rw [if_pos h, if_pos (decide_eq_true h), List.getLast?_cons]
      cases (t.filter fun r => decide (r.1 ≤ w)).getLast? <;> rfl
    · rw [if_neg h, if_neg (by rw [decide_eq_false h]; decide)]
theorem take_snoc {α : Type} : ∀ {l : List α} {i : Nat} {x : α}, l[i]? = some x → l.take (i + 1) = l.take i ++ [x]
  | [], i, x, h => by simp at h
  | a :: l, 0, x, h => by
    have e : a = x := Option.some.inj h
    subst e
    rfl
  | a :: l, i + 1, x, h => by
    have ih := take_snoc (l := l) (i := i) (x := x) h
    show a :: l.take (i + 1) = a :: l.take i ++ [x]
    rw [ih]
    rfl
theorem at_map {α : Type} {f : α → V} {l : List α} {i : Nat} {v : V} (h : (l.map f)[i]? = some v) : ∃ x, l[i]? = some x ∧ v = f x := by
  rw [List.getElem?_map] at h
  cases e : l[i]? with
  | none =>
    rw [e] at h
    cases h
  | some x =>
    rw [e] at h
    exact ⟨x, rfl, (Option.some.inj h).symm⟩

theorem sc_rate_at : FnScope ["mould", "warmth", "reached", "row_warmth", "rate"] ["mould", "warmth"] (defScope s_rate_at) := ⟨rfl, rfl, rfl, by decide +kernel, rfl, by decide +kernel, by decide +kernel⟩
theorem has_rate_at (zzip : mg "zip" = none) (D : Def K mg "rate_at" s_rate_at ["mould", "warmth"]) : Has P w K mg base "rate_at" ["mould", "warmth"] 1 (spRate K) := D.has fun f fd F => by
  refine F.ok sc_rate_at (fun vs H Q E h => ?_) (fun cdv A outer s H vs Q E hr h => ?_)
  · obtain ⟨m, M, w, rfl, _⟩ := h
    rfl
  · obtain ⟨m, M, w, rfl, hM, hlen, k⟩ := h
    obtain ⟨lw, fw, hw⟩ := hM.warms
    obtain ⟨lr, fr, hrr⟩ := hM.rates
    refine ⟨_, pss_cons (ps_set (i := 2) sc_rate_at.nd rfl (Or.inl rfl) pe_int)
      (pss_cons (ps_for PassesOwn.never rfl (pi_zip rfl zzip (pa_cons (pe_fl (pv 0)) (pa_cons (pe_fl (pv 0)) pa_nil))) (pg_tup rfl (pgs_cons (pg_name (i := 3) sc_rate_at.nd rfl (Or.inl rfl)) (pgs_cons (pg_name (i := 4) sc_rate_at.nd rfl (Or.inl rfl)) pgs_nil)))
        (pss_one (ps_if (pt_cmpR op_le (pv 3) (pv 1) (nomark _)) (pss_one (ps_set (i := 2) sc_rate_at.nd rfl (Or.inl rfl) (pv 4))) pss_nil)))
      (pss_one (ps_ret (pv 2)))), ?_⟩
    refine ⟨_, rfl, m, _, rfl, fw, _, rfl, m, _, rfl, fr, lw, lr, _, _, rfl, hw, hrr, for_zip (K := K) (a := lw) (b := lr) (xs := M.warms.map nV) (ys := M.rates.map nV)
      (fun i σ H' => ∃ (x y : Option V), σ = [some (.ref m), some (nV w), some (nV (((M.warms.zip M.rates).take i).foldl (fun acc r => if r.1 ≤ w then r.2 else acc) 0)), x, y] ∧ Same H H')
      (by simp [hlen]) ⟨none, none, rfl, Same.refl H⟩ (fun i σ H' _ ⟨_, _, _, s1⟩ => ⟨s1.seq hw, s1.seq hrr⟩) ?_ ?_⟩
    · rintro i x y T σ H' hx hy ⟨x0, y0, rfl, s1⟩ hT
      obtain ⟨a, ha, rfl⟩ := at_map hx
      obtain ⟨b, hb, rfl⟩ := at_map hy
      have hz : (M.warms.zip M.rates)[i]? = some (a, b) := by rw [List.getElem?_zip_eq_some]; exact ⟨ha, hb⟩
      refine ⟨T, _, rfl, SqT.of upd_same, rfl, _, _, rfl, _, _, rfl, rfl, ?_⟩
      refine ⟨_, rfl, _, rfl, _, _, rfl, rfl, _, rfl, ?_⟩
      have s2 := s1.trans (Same.upd (o := .tup [nV a, nV b]) hT)
      refine ite2 (fun hc => ?_) (fun hc => ?_)
      · have hc : a ≤ w := by have := of_decide_eq_true hc; omega
        refine ⟨_, rfl, some (nV a), some (nV b), ?_, s2⟩
        rw [take_snoc hz, List.foldl_append, List.foldl_cons, List.foldl_nil, if_pos hc]
        rfl
      · have hc : ¬ a ≤ w := fun h => hc (decide_eq_true (by omega))
        refine ⟨some (nV a), some (nV b), ?_, s2⟩
        rw [take_snoc hz, List.foldl_append, List.foldl_cons, List.foldl_nil, if_neg hc]
        rfl
    · rintro σ H' ⟨x, y, rfl, s1⟩
      refine ⟨_, rfl, ?_⟩
      have e : (List.take (List.map nV M.warms).length (M.warms.zip M.rates)) = M.warms.zip M.rates := List.take_of_length_le (by simp [hlen])
      rw [e, rate_fold]
      exact k H' s1

theorem sc_may_come_in_turn : FnScope ["mould", "point", "programme", "before", "other"] ["mould", "point", "programme"] (defScope s_may_come_in_turn) := ⟨rfl, rfl, rfl, by decide +kernel, rfl, by decide +kernel, by decide +kernel⟩
theorem turnB_take (M : Mo) : ∀ (l r : List Nat) (s : Nat), turnB M s (l ++ r) = (turnB M s l && turnB M ((s :: l).getLast (List.cons_ne_nil _ _)) r)
  | [], r, s => by simp [turnB]
  | a :: l, r, s => by
    rw [List.cons_append]
    simp only [turnB]
    rw [turnB_take M l r a]
    simp only [List.getLast_cons_cons, Bool.and_assoc]
theorem has_may_come_in_turn (h1 : Has P w K mg base "is_point" ["mould", "point"] 1 (spIsPoint K)) (h2 : Has P w K mg base "may_go" ["mould", "point", "other"] 1 (spMayGo K))
    (D : Def K mg "may_come_in_turn" s_may_come_in_turn ["mould", "point", "programme"]) : Has P w K mg base "may_come_in_turn" ["mould", "point", "programme"] 2 (spInTurn K) := D.has fun f fd F => by
  refine F.ok sc_may_come_in_turn (fun vs H Q E h => ?_) (fun cdv A outer s H vs Q E hr h => ?_)
  · obtain ⟨m, l, M, s, ts, rfl, _⟩ := h
    rfl
  · obtain ⟨m, l, M, s, ts, rfl, hM, hl, k⟩ := h
    refine ⟨_, pss_cons (ps_set (i := 3) sc_may_come_in_turn.nd rfl (Or.inl rfl) (pv 1))
      (pss_cons (ps_for PassesOwn.never rfl (pi_list (pv 2)) (pg_name (i := 4) sc_may_come_in_turn.nd rfl (Or.inl rfl))
        (pss_cons (ps_if (PW.pt (pw_or (pt_not (pt_val (pe_callH h1 hr rfl (pa_cons (pv 0) (pa_cons (pv 4) pa_nil))))) (pw_or1 (pt_not (pt_val (pe_callH h2 hr rfl (pa_cons (pv 0) (pa_cons (pv 3) (pa_cons (pv 4) pa_nil)))))))))
          (pss_one (ps_ret pe_bl)) pss_nil)
        (pss_one (ps_set (i := 3) sc_may_come_in_turn.nd rfl (Or.inl rfl) (pv 4)))))
      (pss_one (ps_ret pe_bl))), ?_⟩
    refine ⟨_, rfl, _, rfl, l, rfl, ⟨_, hl⟩, for_list (K := K) (a := l) (xs := ts.map nV)
      (fun i σ H' => ∃ v : Option V, σ = [some (.ref m), some (nV s), some (.ref l), some (nV ((s :: ts.take i).getLast (List.cons_ne_nil _ _))), v] ∧ Same H H' ∧ turnB M s (ts.take i) = true)
      ⟨none, rfl, Same.refl H, rfl⟩ (fun i σ H' _ ⟨_, _, s1, _⟩ => s1.seq hl) ?_ ?_⟩
    · rintro i y σ H' hi ⟨v, rfl, s1, ht⟩
      obtain ⟨t, hti, rfl⟩ := at_map hi
      have es : ts = ts.take i ++ (t :: ts.drop (i + 1)) := by
        have h3 : ts.drop i = t :: ts.drop (i + 1) := by
          obtain ⟨hlt, e⟩ := List.getElem?_eq_some_iff.mp hti
          rw [List.drop_eq_getElem_cons hlt, e]
        rw [← h3, List.take_append_drop]
      generalize hb : (s :: ts.take i).getLast (List.cons_ne_nil _ _) = b
      have eAll : turnB M s ts = (decide (M.low ≤ t ∧ t ≤ M.high) && decide (max b t - min b t ≤ M.step) && turnB M t (ts.drop (i + 1))) := by
        conv => lhs; rw [es]
        rw [turnB_take, ht, Bool.true_and, hb]
        rfl
      have eN : turnB M s (ts.take (i + 1)) = (decide (M.low ≤ t ∧ t ≤ M.high) && decide (max b t - min b t ≤ M.step)) := by
        rw [take_snoc hti, turnB_take, ht, Bool.true_and, hb]
        simp [turnB]
      have lN : (s :: ts.take (i + 1)).getLast (List.cons_ne_nil _ _) = t := by
        rw [List.getLast_cons (by rw [take_snoc hti]; simp)]
        simp [take_snoc hti]
      refine ⟨_, rfl, _, rfl, m, M, t, rfl, hM.same s1, fun H2 s2 => ⟨_, rfl, ?_⟩⟩
      by_cases c1 : M.low ≤ t ∧ t ≤ M.high
      · rw [decide_eq_true c1]
        refine iteF ?_
        refine ⟨_, rfl, _, rfl, _, rfl, m, M, b, t, rfl, hM.same (s1.trans s2), fun H3 s3 => ⟨_, rfl, ?_⟩⟩
        by_cases c2 : max b t - min b t ≤ M.step
        · rw [decide_eq_true c2]
          refine iteF ?_
          refine ⟨_, rfl, some (nV t), ?_, (s1.trans s2).trans s3, by rw [eN, decide_eq_true c1, decide_eq_true c2]; rfl⟩
          rw [lN]
          rfl
        · rw [decide_eq_false c2]
          refine iteT ?_
          have k' := k H3 ((s1.trans s2).trans s3)
          rw [eAll, decide_eq_false c2, Bool.and_false, Bool.false_and] at k'
          exact k'
      · rw [decide_eq_false c1]
        refine iteT (iteT ?_)
        have k' := k H2 (s1.trans s2)
        rw [eAll, decide_eq_false c1, Bool.false_and, Bool.false_and] at k'
        exact k'
    · rintro σ H' ⟨v, rfl, s1, ht⟩
      rw [List.length_map, List.take_length] at ht
      have k' := k H' s1
      rw [ht] at k'
      exact k'
end
end Pw
end
section
set_option Elab.async false
set_option linter.all false
set_option maxRecDepth 100000
set_option maxHeartbeats 2000000
namespace Pw
open PySem PySem.Spec L2
section
variable {P : Program} {w : World} {K : PySem.W.Frag} {mg : Str → Option Value} {base : Heap}
theorem max_all {l : List Nat} {m : Int} {b : Nat} (h1 : m ∈ l.map fun n : Nat => (n : Int)) (h2 : ∀ y, y ∈ (l.map fun n : Nat => (n : Int)) → y ≤ m) : (l.all fun x => decide (x ≤ b)) = !decide ((b : Int) < m) := by
  obtain ⟨n, hn, rfl⟩ := List.mem_map.mp h1
  by_cases h : n ≤ b
  · rw [decide_eq_false (by omega)]
    refine List.all_eq_true.mpr fun x hx => decide_eq_true ?_
    have := h2 (x : Int) (List.mem_map.mpr ⟨x, hx, rfl⟩)
    omega
  · rw [decide_eq_true (by omega)]
    refine Bool.eq_false_iff.mpr fun z => h ?_
    exact of_decide_eq_true (List.all_eq_true.mp z n hn)
theorem drop1_cut (l : List V) : cutV l (some 1) none = l.drop 1 := by
  unfold cutV
  cases l with
  | nil => rfl
  | cons a l =>
    simp [HT.sIx]
theorem zip_at {α β : Type} {l : List α} {r : List β} {i : Nat} {a : α} {b : β} (h1 : l[i]? = some a) (h2 : r[i]? = some b) : (l.zip r)[i]? = some (a, b) := by
  rw [List.getElem?_zip_eq_some]
  exact ⟨h1, h2⟩
theorem sc_is_table : FnScope ["warms", "rates", "lower", "upper"] ["warms", "rates"] (defScope s_is_table) := ⟨rfl, rfl, rfl, by decide +kernel, rfl, by decide +kernel, by decide +kernel⟩
theorem has_is_table (zlen : mg "len" = none) (zmax : mg "max" = none) (zall : mg "all" = none) (zzip : mg "zip" = none) (g1 : GInt mg "MOST_ROWS" 8) (g2 : GInt mg "MOST_WARMTH" 300) (g3 : GInt mg "MOST_RATE" 10000)
    (D : Def K mg "is_table" s_is_table ["warms", "rates"]) : Has P w K mg base "is_table" ["warms", "rates"] 1 (spIsTable K) := D.has fun f fd F => by
  refine F.ok sc_is_table (fun vs H Q E h => ?_) (fun cdv A outer s H vs Q E hr h => ?_)
  · obtain ⟨lw, lr, ws, rs, rfl, _⟩ := h
    rfl
  · obtain ⟨lw, lr, ws, rs, rfl, hw, hl, k⟩ := h
    refine ⟨_, pss_cons (ps_if (PW.pt (pw_or (pt_not (pt_chain op_le op_le pe_int (pe_callB call_len_seq rfl zlen b_len (pa_cons (pv 0) pa_nil)) (pe_gint g1 rfl)))
        (pw_or1 (pt_cmpR op_ne (pe_callB call_len_seq rfl zlen b_len (pa_cons (pv 1) pa_nil)) (pe_callB call_len_seq rfl zlen b_len (pa_cons (pv 0) pa_nil)) (nomark _))))) (pss_one (ps_ret pe_bl)) pss_nil)
      (pss_cons (ps_if (PW.pt (pw_or (pt_cmpR op_gt (pe_callB (cr_max rfl) rfl zmax b_max (pa_cons (pv 0) pa_nil)) (pe_gint g2 rfl) (nomark _))
        (pw_or1 (pt_cmpR op_gt (pe_callB (cr_max rfl) rfl zmax b_max (pa_cons (pv 1) pa_nil)) (pe_gint g3 rfl) (nomark _))))) (pss_one (ps_ret pe_bl)) pss_nil)
      (pss_one (ps_ret (pe_callB (cr_all rfl) rfl zall b_all (pa_cons (pe_lc (g := gTup K 2 (gCons (gName 2) (gCons (gName 3) gNil))) rfl sc_is_table.nd (pi_zip rfl zzip (pa_cons (pv 0) (pa_cons (pe_slice sl_list (pv 0) (po_some pe_int) po_none) pa_nil)))
        (blkOk_by (own := [("lower", 2), ("upper", 3)]) (by rfl))
        (fun s H C cl fp => pg_tup (n := 2) rfl (pgs_cons (pg_name (i := 2) sc_is_table.nd rfl (Or.inl rfl) (Or.inr rfl)) (pgs_cons (pg_name (i := 3) sc_is_table.nd rfl (Or.inl rfl) (Or.inr rfl)) pgs_nil)))
        (fun _ _ _ _ _ => pts_nil) (fun _ _ _ _ _ => pe_cmpR op_lt (pv 2) (pv 3) (nomark _))) pa_nil))))), ?_⟩
    refine ⟨_, rfl, lw, _, rfl, .inl hw, _, _, rfl, rfl, _, rfl, ?_⟩
    refine chain_II ?_
    have kF : ∀ H', Same H H' → Kqv3.okTable ws rs = false → Q (.bl false) H' := fun H' s' e => by
      have := k H' s'
      rw [e] at this
      exact this
    by_cases c1 : 1 ≤ ws.length ∧ ws.length ≤ 8
    case neg =>
      have e1 : (decide ((1 : Int) ≤ ((ws.map nV).length : Int)) && decide (((ws.map nV).length : Int) ≤ 8)) = false := by
        rw [List.length_map, ← Bool.decide_and]
        exact decide_eq_false (by omega)
      rw [e1]
      refine iteT (iteT ?_)
      refine kF H (Same.refl H) ?_
      unfold Kqv3.okTable
      by_cases c : 1 ≤ ws.length
      · rw [decide_eq_false (p := ws.length ≤ 8) (by omega)]
        simp
      · rw [decide_eq_false c]
        simp
    have e1 : (decide ((1 : Int) ≤ ((ws.map nV).length : Int)) && decide (((ws.map nV).length : Int) ≤ 8)) = true := by
      rw [List.length_map, ← Bool.decide_and]
      exact decide_eq_true (by omega)
    rw [e1]
    refine iteF ?_
    refine ⟨_, rfl, lr, _, rfl, .inl hl, _, rfl, lw, _, rfl, .inl hw, rfl, _, rfl, ?_⟩
    by_cases c2 : rs.length = ws.length
    case neg =>
      have e2 : decide (V.int ((rs.map nV).length : Int) = V.int ((ws.map nV).length : Int)) = false := decide_eq_false (by
        rw [List.length_map, List.length_map]
        intro z
        have := V.int.inj z
        omega)
      rw [e2]
      refine iteT ?_
      refine kF H (Same.refl H) ?_
      unfold Kqv3.okTable
      rw [decide_eq_false (p := ws.length = rs.length) (fun z => c2 z.symm)]
      simp
    have e2 : decide (V.int ((rs.map nV).length : Int) = V.int ((ws.map nV).length : Int)) = true := decide_eq_true (by rw [List.length_map, List.length_map, c2])
    rw [e2]
    refine iteF ?_
    have hw' := hw
    have hl' := hl
    rw [map_nV] at hw' hl'
    refine ⟨_, rfl, lw, _, rfl, hw', (by rw [List.length_map]; omega), fun m1 hm1 hx1 => ⟨_, _, rfl, rfl, _, rfl, ?_⟩⟩
    have a1 := max_all (b := 300) hm1 hx1
    by_cases c3 : (300 : Int) < m1
    case pos =>
      rw [decide_eq_true c3]
      refine iteT (iteT ?_)
      refine kF H (Same.refl H) ?_
      unfold Kqv3.okTable
      rw [a1, decide_eq_true (p := ((300 : Nat) : Int) < m1) c3]
      simp
    rw [decide_eq_false c3]
    refine iteF ?_
    refine ⟨_, rfl, lr, _, rfl, hl', (by rw [List.length_map]; omega), fun m2 hm2 hx2 => ⟨_, _, rfl, rfl, _, rfl, ?_⟩⟩
    have a2 := max_all (b := 10000) hm2 hx2
    by_cases c4 : (10000 : Int) < m2
    case pos =>
      rw [decide_eq_true c4]
      refine iteT ?_
      refine kF H (Same.refl H) ?_
      unfold Kqv3.okTable
      rw [a2, decide_eq_true (p := ((10000 : Nat) : Int) < m2) c4]
      simp
    rw [decide_eq_false c4]
    refine iteF ?_
    have ok : Kqv3.okTable ws rs = (ws.zip (ws.drop 1)).all fun p => decide (p.1 < p.2) := by
      unfold Kqv3.okTable
      rw [a1, a2, decide_eq_false (p := ((300 : Nat) : Int) < m1) c3, decide_eq_false (p := ((10000 : Nat) : Int) < m2) c4, decide_eq_true c2.symm, decide_eq_true c1.1, decide_eq_true c1.2]
      simp
    refine ⟨_, rfl, _, rfl, _, rfl, lw, _, rfl, hw, fun p hp => ?_⟩
    rw [drop1_cut, ← List.map_drop]
    have s1 : Same H (upd H p (.lst ((ws.drop 1).map nV))) := Same.upd hp
    refine ⟨lw, p, _, _, rfl, s1.seq hw, SqL.of upd_same, fun D hD => ?_⟩
    have hpD : p ≠ D := ne_of_none upd_same hD
    refine lc_zip (K := K) (a := lw) (b := p) (xs := ws.map nV) (ys := (ws.drop 1).map nV) ((ws.zip (ws.drop 1)).length) (by simp)
      (fun i H' => Same (upd H p (.lst ((ws.drop 1).map nV))) H' ∧ H' D = some (.lst ((((ws.zip (ws.drop 1)).take i).map fun p => decide (p.1 < p.2)).map V.bl)))
      ⟨Same.upd hD, upd_same⟩ (fun i H' _ ⟨s2, _⟩ => ⟨s2.seq (s1.seq hw), SqL.of (s2 _ _ upd_same)⟩) ?_ ?_
    · rintro i x y T H' hx hy ⟨s2, hD'⟩ hT
      obtain ⟨a, ha, rfl⟩ := at_map hx
      obtain ⟨b, hb, rfl⟩ := at_map hy
      have hz := zip_at ha hb
      refine ⟨T, _, rfl, SqT.of upd_same, rfl, _, _, rfl, _, _, rfl, rfl, rfl, ?_⟩
      refine ⟨_, rfl, _, rfl, _, _, rfl, rfl, _, (by rw [upd_ne (ne_of_none hD' hT)]; exact hD'), ?_, ?_, ?_⟩
      · rw [List.length_map, List.length_map, List.length_take]
        have : (ws.zip (ws.drop 1)).length ≤ 8 := by simp; omega
        exact Nat.lt_of_le_of_lt (Nat.min_le_right _ _) (Nat.lt_of_le_of_lt this (by decide))
      · exact Same.updU hD (s2.trans (Same.upd hT))
      · rw [upd_same, take_snoc hz, List.map_append, List.map_append]
        congr 4
        simp
    · rintro H' ⟨s2, hD'⟩
      rw [List.take_length] at hD'
      refine ⟨D, _, rfl, SqL.of hD', ?_⟩
      have k' := k H' (s1.trans s2)
      rw [ok] at k'
      rw [List.all_map]
      exact k'
theorem sc_is_as_told : FnScope ["mould"] ["mould"] (defScope s_is_as_told) := ⟨rfl, rfl, rfl, by decide +kernel, rfl, by decide +kernel, by decide +kernel⟩
theorem has_is_as_told (g1 : GInt mg "MOST_LAG" 50) (g2 : GInt mg "MOST_STEP" 100) (g3 : GInt mg "MOST_WARMTH" 300) (h1 : Has P w K mg base "is_table" ["warms", "rates"] 1 (spIsTable K))
    (D : Def K mg "is_as_told" s_is_as_told ["mould"]) : Has P w K mg base "is_as_told" ["mould"] 2 (spIsAsTold K) := D.has fun f fd F => by
  refine F.ok sc_is_as_told (fun vs H Q E h => ?_) (fun cdv A outer s H vs Q E hr h => ?_)
  · obtain ⟨m, M, rfl, _⟩ := h
    rfl
  · obtain ⟨m, M, rfl, hM, k⟩ := h
    obtain ⟨lw, fw, hw⟩ := hM.warms
    obtain ⟨lr, fr, hrr⟩ := hM.rates
    refine ⟨_, pss_cons (ps_if (PW.pt (pw_or (pt_not (pt_chain op_le op_le pe_int (pe_fl (pv 0)) (pe_gint g1 rfl))) (pw_or1 (pt_not (pt_chain op_le op_le pe_int (pe_fl (pv 0)) (pe_gint g2 rfl)))))) (pss_one (ps_ret pe_bl)) pss_nil)
      (pss_cons (ps_if (PW.pt (pw_or (pt_cmpR op_gt (pe_fl (pv 0)) (pe_gint g3 rfl) (nomark _)) (pw_or1 (pt_cmpR op_gt (pe_fl (pv 0)) (pe_gint g3 rfl) (nomark _))))) (pss_one (ps_ret pe_bl)) pss_nil)
      (pss_cons (ps_if (PW.pt (pw_or (pt_cmpR op_lt (pe_fl (pv 0)) (pe_fl (pv 0)) (nomark _)) (pw_or1 (pt_cmpR op_lt (pe_fl (pv 0)) (pe_fl (pv 0)) (nomark _))))) (pss_one (ps_ret pe_bl)) pss_nil)
      (pss_one (ps_ret (pe_callH h1 hr rfl (pa_cons (pe_fl (pv 0)) (pa_cons (pe_fl (pv 0)) pa_nil))))))), ?_⟩
    have kF : toldB M = false → Q (.bl false) H := fun e => by
      have := k H (Same.refl H)
      rw [e] at this
      exact this
    refine ⟨_, rfl, m, _, rfl, hM.lag, _, _, rfl, rfl, _, rfl, ?_⟩
    refine chain_II ?_
    by_cases c1 : 1 ≤ M.lag ∧ M.lag ≤ 50
    case neg =>
      have e1 : (decide ((1 : Int) ≤ (M.lag : Int)) && decide ((M.lag : Int) ≤ 50)) = false := by
        rw [← Bool.decide_and]
        exact decide_eq_false (by omega)
      rw [e1]
      exact iteT (iteT (kF (by unfold toldB; rw [decide_eq_false c1]; simp)))
    have e1 : (decide ((1 : Int) ≤ (M.lag : Int)) && decide ((M.lag : Int) ≤ 50)) = true := by
      rw [← Bool.decide_and]
      exact decide_eq_true (by omega)
    rw [e1]
    refine iteF ?_
    refine ⟨_, rfl, m, _, rfl, hM.step, _, _, rfl, rfl, _, rfl, ?_⟩
    refine chain_II ?_
    by_cases c2 : 1 ≤ M.step ∧ M.step ≤ 100
    case neg =>
      have e1 : (decide ((1 : Int) ≤ (M.step : Int)) && decide ((M.step : Int) ≤ 100)) = false := by
        rw [← Bool.decide_and]
        exact decide_eq_false (by omega)
      rw [e1]
      exact iteT (kF (by unfold toldB; rw [decide_eq_false c2]; simp))
    have e2 : (decide ((1 : Int) ≤ (M.step : Int)) && decide ((M.step : Int) ≤ 100)) = true := by
      rw [← Bool.decide_and]
      exact decide_eq_true (by omega)
    rw [e2]
    refine iteF ?_
    refine ⟨_, rfl, m, _, rfl, hM.most, _, _, rfl, rfl, _, rfl, ?_⟩
    by_cases c3 : (300 : Int) < (M.most : Int)
    case pos =>
      rw [decide_eq_true c3]
      exact iteT (iteT (kF (by unfold toldB; rw [decide_eq_false (p := M.most ≤ 300) (by omega)]; simp)))
    rw [decide_eq_false c3]
    refine iteF ?_
    refine ⟨_, rfl, m, _, rfl, hM.high, _, _, rfl, rfl, _, rfl, ?_⟩
    by_cases c4 : (300 : Int) < (M.high : Int)
    case pos =>
      rw [decide_eq_true c4]
      exact iteT (kF (by unfold toldB; rw [decide_eq_false (p := M.high ≤ 300) (by omega)]; simp))
    rw [decide_eq_false c4]
    refine iteF ?_
    refine ⟨_, rfl, m, _, rfl, hM.high, _, rfl, m, _, rfl, hM.low, _, _, rfl, rfl, _, rfl, ?_⟩
    by_cases c5 : (M.high : Int) < (M.low : Int)
    case pos =>
      rw [decide_eq_true c5]
      exact iteT (iteT (kF (by unfold toldB; rw [decide_eq_false (p := M.low ≤ M.high) (by omega)]; simp)))
    rw [decide_eq_false c5]
    refine iteF ?_
    refine ⟨_, rfl, m, _, rfl, hM.most, _, rfl, m, _, rfl, hM.low, _, _, rfl, rfl, _, rfl, ?_⟩
    by_cases c6 : (M.most : Int) < (M.low : Int)
    case pos =>
      rw [decide_eq_true c6]
      exact iteT (kF (by unfold toldB; rw [decide_eq_false (p := M.low ≤ M.most) (by omega)]; simp))
    rw [decide_eq_false c6]
    refine iteF ?_
    refine ⟨_, rfl, m, _, rfl, fw, _, rfl, m, _, rfl, fr, lw, lr, M.warms, M.rates, rfl, hw, hrr, fun H' s1 => ?_⟩
    have k' := k H' s1
    have e : toldB M = Kqv3.okTable M.warms M.rates := by
      unfold toldB
      rw [decide_eq_true c1, decide_eq_true c2, decide_eq_true (p := M.most ≤ 300) (by omega), decide_eq_true (p := M.high ≤ 300) (by omega), decide_eq_true (p := M.low ≤ M.high) (by omega), decide_eq_true (p := M.low ≤ M.most) (by omega)]
      simp
    rw [e] at k'
    exact k'
end
end Pw
end
section
set_option Elab.async false
set_option linter.all false
set_option maxRecDepth 100000
set_option maxHeartbeats 2000000
namespace Pw
open PySem PySem.Spec L2

/-! ### a part -/
structure ClP (K : PySem.W.Frag) (C : Addr) : Prop where
  cl : Cls K C
  n1 : NoAttr K C "warmth"
  n2 : NoAttr K C "cure"
structure PartAt (K : PySem.W.Frag) (H : Hp) (p : Addr) (wc : Nat × Nat) : Prop where
  warmth : FldAt K H p "warmth" (nV wc.1)
  cure : FldAt K H p "cure" (nV wc.2)
theorem PartAt.same {K : PySem.W.Frag} {H H' : Hp} {p : Addr} {wc : Nat × Nat} (s : Same H H') (h : PartAt K H p wc) : PartAt K H' p wc := ⟨h.warmth.same s, h.cure.same s⟩
/-- a field stands while a list is written -/
theorem FldAt.lst {K : PySem.W.Frag} {H : Hp} {a q : Addr} {f : Str} {v : V} {xs ys : List V} (h : FldAt K H a f v) (hq : H q = some (.lst xs)) : FldAt K (upd H q (.lst ys)) a f v := by
  obtain ⟨C, dx, fs, h1, h2, h3, h4⟩ := h
  exact ⟨C, dx, fs, by rw [upd_ne (ne_of h1 hq (by intro z; cases z))]; exact h1, h2, h3, h4⟩
theorem PartAt.lst {K : PySem.W.Frag} {H : Hp} {p q : Addr} {wc : Nat × Nat} {xs ys : List V} (h : PartAt K H p wc) (hq : H q = some (.lst xs)) : PartAt K (upd H q (.lst ys)) p wc := ⟨h.warmth.lst hq, h.cure.lst hq⟩
/-- the parts at as, in their order -/
structure PartsAt (K : PySem.W.Frag) (H : Hp) (as : List Addr) (tr : List (Nat × Nat)) : Prop where
  len : as.length = tr.length
  at_ : ∀ (i : Nat) (wc : Nat × Nat), tr[i]? = some wc → ∃ a, as[i]? = some a ∧ PartAt K H a wc
theorem PartsAt.same {K : PySem.W.Frag} {H H' : Hp} {as : List Addr} {tr : List (Nat × Nat)} (s : Same H H') (h : PartsAt K H as tr) : PartsAt K H' as tr :=
  ⟨h.len, fun i wc e => let ⟨a, e1, e2⟩ := h.at_ i wc e; ⟨a, e1, e2.same s⟩⟩
theorem PartsAt.lst {K : PySem.W.Frag} {H : Hp} {q : Addr} {as : List Addr} {tr : List (Nat × Nat)} {xs ys : List V} (h : PartsAt K H as tr) (hq : H q = some (.lst xs)) : PartsAt K (upd H q (.lst ys)) as tr :=
  ⟨h.len, fun i wc e => let ⟨a, e1, e2⟩ := h.at_ i wc e; ⟨a, e1, e2.lst hq⟩⟩
theorem PartsAt.snoc {K : PySem.W.Frag} {H : Hp} {as : List Addr} {tr : List (Nat × Nat)} {a : Addr} {wc : Nat × Nat} (h : PartsAt K H as tr) (g : PartAt K H a wc) : PartsAt K H (as ++ [a]) (tr ++ [wc]) :=
  ⟨by simp [h.len], fun i x e => by
    by_cases hi : i < tr.length
    · rw [List.getElem?_append_left hi] at e
      obtain ⟨b, e1, e2⟩ := h.at_ i x e
      exact ⟨b, by rw [List.getElem?_append_left (by rw [h.len]; exact hi)]; exact e1, e2⟩
    · have hl := (List.getElem?_eq_some_iff.mp e).1
      rw [List.length_append, List.length_singleton] at hl
      have ei : i = tr.length := by omega
      subst ei
      rw [List.getElem?_append_right (Nat.le_refl _), Nat.sub_self] at e
      have ex : wc = x := Option.some.inj e
      subst ex
      exact ⟨a, by rw [← h.len, List.getElem?_append_right (Nat.le_refl _), Nat.sub_self]; rfl, g⟩⟩

/-! ### the mirror -/
def tickP (M : Mo) (wc : Nat × Nat) (s : Nat) : Nat × Nat := (Kqv3.towards M.lag wc.1 s, min 10000 (wc.2 + Kqv3.rate (M.warms.zip M.rates) (Kqv3.towards M.lag wc.1 s)))
def trail (M : Mo) : Nat × Nat → List Nat → List (Nat × Nat)
  | wc, [] => [wc]
  | wc, s :: l => wc :: trail M (tickP M wc s) l
def endP (M : Mo) : Nat × Nat → List Nat → Nat × Nat
  | wc, [] => wc
  | wc, s :: l => endP M (tickP M wc s) l
theorem trail_len (M : Mo) : ∀ (l : List Nat) (wc : Nat × Nat), (trail M wc l).length = l.length + 1
  | [], _ => rfl
  | s :: l, wc => by
    show (trail M (tickP M wc s) l).length + 1 = l.length + 1 + 1
    rw [trail_len M l]
theorem endP_snoc (M : Mo) : ∀ (l : List Nat) (wc : Nat × Nat) (t : Nat), endP M wc (l ++ [t]) = tickP M (endP M wc l) t
  | [], _, _ => rfl
  | s :: l, wc, t => endP_snoc M l (tickP M wc s) t
theorem trail_snoc (M : Mo) : ∀ (l : List Nat) (wc : Nat × Nat) (t : Nat), trail M wc (l ++ [t]) = trail M wc l ++ [tickP M (endP M wc l) t]
  | [], _, _ => rfl
  | s :: l, wc, t => by
    show wc :: trail M (tickP M wc s) (l ++ [t]) = wc :: (trail M (tickP M wc s) l ++ _)
    rw [trail_snoc M l]
    rfl
theorem trail_last (M : Mo) : ∀ (l : List Nat) (wc : Nat × Nat), (trail M wc l)[l.length]? = some (endP M wc l)
  | [], _ => rfl
  | s :: l, wc => trail_last M l (tickP M wc s)
theorem towards_py {lag w s : Nat} (h : 1 ≤ lag) :
    (if decide ((s : Int) < (w : Int)) = true then (w : Int) - ((if (s : Int) - (w : Int) < 0 then -((s : Int) - (w : Int)) else (s : Int) - (w : Int)) + (lag : Int) - 1) / (lag : Int)
      else (w : Int) + ((if (s : Int) - (w : Int) < 0 then -((s : Int) - (w : Int)) else (s : Int) - (w : Int)) + (lag : Int) - 1) / (lag : Int)) = (Kqv3.towards lag w s : Int) := by
  unfold Kqv3.towards
  by_cases c : w ≤ s
  · rw [if_neg (by intro z; have := of_decide_eq_true z; omega), if_neg (by omega), if_pos c]
    have e : (s : Int) - (w : Int) + (lag : Int) - 1 = ((s - w + lag - 1 : Nat) : Int) := by omega
    rw [e, ← Int.natCast_ediv]
    omega
  · rw [if_pos (decide_eq_true (by omega)), if_pos (by omega), if_neg c]
    have e : -((s : Int) - (w : Int)) + (lag : Int) - 1 = ((w - s + lag - 1 : Nat) : Int) := by omega
    rw [e, ← Int.natCast_ediv]
    have hle : (w - s + lag - 1) / lag ≤ w - s := by
      apply Nat.div_le_of_le_mul
      have h1 : 1 ≤ w - s := by omega
      obtain ⟨d, hd⟩ : ∃ d, w - s = d + 1 := ⟨w - s - 1, by omega⟩
      obtain ⟨g, hg⟩ : ∃ g, lag = g + 1 := ⟨lag - 1, by omega⟩
      rw [hd, hg, Nat.mul_comm, Nat.add_mul, Nat.mul_add]
      have : 0 ≤ d * g := Nat.zero_le _
      omega
    omega

/-! ### the promises -/
structure MoOk (M : Mo) : Prop where
  lag1 : 1 ≤ M.lag
  lag2 : M.lag ≤ 50
  len : M.warms.length = M.rates.length
  low : M.low ≤ M.high
  high : M.high ≤ 300
def spPart (K : PySem.W.Frag) : Sp := fun vs H Q _ => ∃ (p C dx : Addr) (wc : Nat × Nat), vs = [.ref p, nV wc.1, nV wc.2] ∧ H p = some (.ins C dx []) ∧ ClP K C ∧
  ∀ H' : Hp, PartAt K H' p wc → (∀ b o, H b = some o → b ≠ p → H' b = some o) → Q .non H'
def spIsCured (K : PySem.W.Frag) : Sp := fun vs H Q _ => ∃ (p : Addr) (wc : Nat × Nat), vs = [.ref p] ∧ PartAt K H p wc ∧ ∀ H', Same H H' → Q (.bl (decide (10000 ≤ wc.2))) H'
def spLater (K : PySem.W.Frag) : Sp := fun vs H Q _ => ∃ (m : Addr) (M : Mo) (w s : Nat), vs = [.ref m, nV w, nV s] ∧ MouldAt K H m M ∧ 1 ≤ M.lag ∧ M.lag ≤ 50 ∧ ∀ H', Same H H' → Q (nV (Kqv3.towards M.lag w s)) H'
def spMinute (K : PySem.W.Frag) : Sp := fun vs H Q _ => ∃ (m p : Addr) (M : Mo) (wc : Nat × Nat) (s : Nat), vs = [.ref m, .ref p, nV s] ∧ MouldAt K H m M ∧ MoOk M ∧ PartAt K H p wc ∧
  ∀ (H' : Hp) (q : Addr), Same H H' → PartAt K H' q (tickP M wc s) → Q (.ref q) H'
def spCourse (K : PySem.W.Frag) : Sp := fun vs H Q _ => ∃ (m p l : Addr) (M : Mo) (wc : Nat × Nat) (ts : List Nat), vs = [.ref m, .ref p, .ref l] ∧ MouldAt K H m M ∧ MoOk M ∧ PartAt K H p wc ∧ SqL K H l (ts.map nV) ∧ ts.length ≤ 1000 ∧
  ∀ (H' : Hp) (q : Addr) (as : List Addr), Same H H' → H q = none → H' q = some (.lst (as.map V.ref)) → PartsAt K H' as (trail M wc ts) → Q (.ref q) H'
def spHot1 (K : PySem.W.Frag) : Sp := fun vs H Q _ => ∃ (m p : Addr) (M : Mo) (wc : Nat × Nat), vs = [.ref m, .ref p] ∧ MouldAt K H m M ∧ PartAt K H p wc ∧ ∀ H', Same H H' → Q (.bl (decide (M.most < wc.1))) H'
def spTooHot (K : PySem.W.Frag) : Sp := fun vs H Q _ => ∃ (m l : Addr) (M : Mo) (as : List Addr) (tr : List (Nat × Nat)), vs = [.ref m, .ref l] ∧ MouldAt K H m M ∧ SqL K H l (as.map V.ref) ∧ PartsAt K H as tr ∧ tr.length ≤ 2000 ∧
  ∀ H', Same H H' → Q (.bl (tr.any fun wc => decide (M.most < wc.1))) H'

section
variable {P : Program} {w : World} {K : PySem.W.Frag} {mg : Str → Option Value} {base : Heap}
theorem sc_Part_init : FnScope ["self", "warmth", "cure"] ["self", "warmth", "cure"] (defScope s_Part_init) := ⟨rfl, rfl, rfl, by decide +kernel, rfl, by decide +kernel, by decide +kernel⟩
theorem has_Part {C : Addr} (D : CDef K mg "Part" "Part.__init__" C s_Part_init ["self", "warmth", "cure"]) : CHas P w K mg base "Part" C ["self", "warmth", "cure"] 1 (spPart K) := D.has fun f fd F => by
  refine F.ok sc_Part_init (fun vs H Q E h => ?_) (fun cdv A outer s H vs Q E hr h => ?_)
  · obtain ⟨p, C, dx, wc, rfl, _⟩ := h
    rfl
  · obtain ⟨p, C, dx, wc, rfl, hp, T, k⟩ := h
    refine ⟨_, pss_cons (ps_fld (pv 0) (pv 1) rfl) (pss_one (ps_fld (pv 0) (pv 2) rfl)), ?_⟩
    refine ⟨_, rfl, _, rfl, p, C, dx, [], rfl, hp, T.cl, T.n1, (by decide), ?_⟩
    refine ⟨_, rfl, _, rfl, p, C, dx, _, rfl, upd_same, T.cl, T.n2, (by show 1 < 1000; decide), ?_⟩
    rw [upd_upd]
    exact k _ ⟨⟨C, dx, _, upd_same, T.cl, T.n1, rfl⟩, ⟨C, dx, _, upd_same, T.cl, T.n2, rfl⟩⟩ fun b o e hb => by rw [upd_ne hb]; exact e

theorem sc_is_cured : FnScope ["part"] ["part"] (defScope s_is_cured) := ⟨rfl, rfl, rfl, by decide +kernel, rfl, by decide +kernel, by decide +kernel⟩
theorem has_is_cured (g1 : GInt mg "FULL_CURE" 10000) (D : Def K mg "is_cured" s_is_cured ["part"]) : Has P w K mg base "is_cured" ["part"] 1 (spIsCured K) := D.has fun f fd F => by
  refine F.ok sc_is_cured (fun vs H Q E h => ?_) (fun cdv A outer s H vs Q E hr h => ?_)
  · obtain ⟨p, wc, rfl, _⟩ := h
    rfl
  · obtain ⟨p, wc, rfl, hp, k⟩ := h
    refine ⟨_, pss_one (ps_ret (pe_cmpR op_ge (pe_fl (pv 0)) (pe_gint g1 rfl) (nomark _))), ?_⟩
    refine ⟨_, rfl, p, _, rfl, hp.cure, _, _, rfl, rfl, ?_⟩
    have k' := k H (Same.refl H)
    have e : decide (10000 ≤ wc.2) = decide ((10000 : Int) ≤ (wc.2 : Int)) := decide_eq_decide.mpr (by omega)
    rw [e] at k'
    exact k'

theorem sc_warmth_later : FnScope ["mould", "warmth", "point", "gap", "move"] ["mould", "warmth", "point"] (defScope s_warmth_later) := ⟨rfl, rfl, rfl, by decide +kernel, rfl, by decide +kernel, by decide +kernel⟩
theorem has_warmth_later (zabs : mg "abs" = none) (D : Def K mg "warmth_later" s_warmth_later ["mould", "warmth", "point"]) : Has P w K mg base "warmth_later" ["mould", "warmth", "point"] 1 (spLater K) := D.has fun f fd F => by
  refine F.ok sc_warmth_later (fun vs H Q E h => ?_) (fun cdv A outer s H vs Q E hr h => ?_)
  · obtain ⟨m, M, w, s, rfl, _⟩ := h
    rfl
  · obtain ⟨m, M, w, s, rfl, hM, l1, l2, k⟩ := h
    refine ⟨_, pss_cons (ps_set (i := 3) sc_warmth_later.nd rfl (Or.inl rfl) (pe_callB call_abs rfl zabs b_abs (pa_cons (pe_op op_sub (pv 2) (pv 1)) pa_nil)))
      (pss_cons (ps_set (i := 4) sc_warmth_later.nd rfl (Or.inl rfl) (pe_op op_fdiv (pe_op op_sub (pe_op op_add (pv 3) (pe_fl (pv 0))) pe_int) (pe_fl (pv 0))))
      (pss_cons (ps_if (pt_cmpR op_lt (pv 2) (pv 1) (nomark _)) (pss_one (ps_ret (pe_op op_sub (pv 1) (pv 4)))) pss_nil)
      (pss_one (ps_ret (pe_op op_add (pv 1) (pv 4)))))), ?_⟩
    refine ⟨_, rfl, _, rfl, _, _, rfl, rfl, _, rfl, ?_⟩
    refine ⟨_, rfl, _, rfl, m, _, rfl, hM.lag, _, _, rfl, rfl, _, _, rfl, rfl, _, rfl, m, _, rfl, hM.lag, _, _, rfl, rfl, ⟨by omega, by omega⟩, ?_⟩
    refine ⟨_, rfl, _, rfl, _, _, rfl, rfl, _, rfl, ?_⟩
    have e := towards_py (lag := M.lag) (w := w) (s := s) l1
    have k' := k H (Same.refl H)
    unfold nV at k'
    rw [← e] at k'
    refine ite2 (fun c => ?_) (fun c => ?_)
    · rw [if_pos c] at k'
      exact ⟨_, rfl, _, rfl, _, _, rfl, rfl, k'⟩
    · rw [if_neg c] at k'
      exact ⟨_, rfl, _, rfl, _, _, rfl, rfl, k'⟩

theorem sc_minute_later : FnScope ["mould", "part", "point", "warmth", "cure"] ["mould", "part", "point"] (defScope s_minute_later) := ⟨rfl, rfl, rfl, by decide +kernel, rfl, by decide +kernel, by decide +kernel⟩
theorem has_minute_later {C : Addr} (T : ClP K C) (zmin : mg "min" = none) (g1 : GInt mg "FULL_CURE" 10000) (h1 : Has P w K mg base "warmth_later" ["mould", "warmth", "point"] 1 (spLater K)) (h2 : Has P w K mg base "rate_at" ["mould", "warmth"] 1 (spRate K))
    (h3 : CHas P w K mg base "Part" C ["self", "warmth", "cure"] 1 (spPart K)) (D : Def K mg "minute_later" s_minute_later ["mould", "part", "point"]) : Has P w K mg base "minute_later" ["mould", "part", "point"] 3 (spMinute K) := D.has fun f fd F => by
  refine F.ok sc_minute_later (fun vs H Q E h => ?_) (fun cdv A outer s H vs Q E hr h => ?_)
  · obtain ⟨m, p, M, wc, s, rfl, _⟩ := h
    rfl
  · obtain ⟨m, p, M, wc, s, rfl, hM, ok, hp, k⟩ := h
    have hr1 := hr.mono (show 1 ≤ 2 by decide)
    refine ⟨_, pss_cons (ps_set (i := 3) sc_minute_later.nd rfl (Or.inl rfl) (pe_callH h1 hr1 rfl (pa_cons (pv 0) (pa_cons (pe_fl (pv 1)) (pa_cons (pv 2) pa_nil)))))
      (pss_cons (ps_set (i := 4) sc_minute_later.nd rfl (Or.inl rfl) (pe_op op_add (pe_fl (pv 1)) (pe_callH h2 hr1 rfl (pa_cons (pv 0) (pa_cons (pv 3) pa_nil)))))
      (pss_one (ps_ret (pe_makeH h3 hr rfl (pa_cons (pv 3) (pa_cons (pe_callB (call_min2 rfl) rfl zmin b_min (pa_cons (pv 4) (pa_cons (pe_gint g1 rfl) pa_nil))) pa_nil)))))), ?_⟩
    refine ⟨_, rfl, _, rfl, p, _, rfl, hp.warmth, _, rfl, m, M, _, _, rfl, hM, ok.lag1, ok.lag2, fun H1 s1 => ?_⟩
    refine ⟨_, rfl, p, _, rfl, hp.cure.same s1, _, rfl, _, rfl, m, M, _, rfl, hM.same s1, ok.len, fun H2 s2 => ⟨_, _, rfl, rfl, ?_⟩⟩
    refine ⟨_, rfl, _, rfl, _, _, rfl, ?_⟩
    intro x dx nx ndx ne
    refine ⟨x, C, dx, tickP M wc s, ?_, upd_same, T, fun H3 hP kp => ⟨rfl, ?_⟩⟩
    · have e : (if (10000 : Int) < (wc.2 : Int) + (Kqv3.rate (M.warms.zip M.rates) (Kqv3.towards M.lag wc.1 s) : Int) then (10000 : Int) else (wc.2 : Int) + (Kqv3.rate (M.warms.zip M.rates) (Kqv3.towards M.lag wc.1 s) : Int)) = ((tickP M wc s).2 : Int) := by
        unfold tickP
        generalize Kqv3.rate (M.warms.zip M.rates) (Kqv3.towards M.lag wc.1 s) = r
        dsimp only
        split <;> omega
      show [V.ref x, nV (Kqv3.towards M.lag wc.1 s), V.int _] = [V.ref x, nV (tickP M wc s).1, V.int ((tickP M wc s).2 : Int)]
      rw [← e]
      rfl
    · exact k H3 x ((s1.trans s2).trans (Same.made nx ndx kp)) hP

theorem sc_course : FnScope ["mould", "part", "programme", "parts", "point"] ["mould", "part", "programme"] (defScope s_course) := ⟨rfl, rfl, rfl, by decide +kernel, rfl, by decide +kernel, by decide +kernel⟩
theorem has_course (h1 : Has P w K mg base "minute_later" ["mould", "part", "point"] 3 (spMinute K)) (D : Def K mg "course" s_course ["mould", "part", "programme"]) : Has P w K mg base "course" ["mould", "part", "programme"] 4 (spCourse K) := D.has fun f fd F => by
  refine F.ok sc_course (fun vs H Q E h => ?_) (fun cdv A outer s H vs Q E hr h => ?_)
  · obtain ⟨m, p, l, M, wc, ts, rfl, _⟩ := h
    rfl
  · obtain ⟨m, p, l, M, wc, ts, rfl, hM, ok, hp, hl, hlen, k⟩ := h
    refine ⟨_, pss_cons (ps_set (i := 3) sc_course.nd rfl (Or.inl rfl) (pe_lst (pa_cons (pv 1) pa_nil)))
      (pss_cons (ps_for PassesOwn.never rfl (pi_list (pv 2)) (pg_name (i := 4) sc_course.nd rfl (Or.inl rfl))
        (pss_one (ps_expr (pe_bm PySem.F.plainAttrs_list PySem.F.slot_list_append PySem.F.type_list_append mt_append (pv 3) (pa_cons (pe_callH h1 hr rfl (pa_cons (pv 0) (pa_cons (pe_ix ix_list (pv 3) (pe_un un_neg pe_int) (fun _ _ => rfl)) (pa_cons (pv 4) pa_nil)))) pa_nil)))))
      (pss_one (ps_ret (pv 3)))), ?_⟩
    refine ⟨_, rfl, (by show 1 ≤ sizeLine; decide), fun q hq => ?_⟩
    have s0 : Same H (upd H q (.lst [V.ref p])) := Same.upd hq
    refine ⟨_, rfl, l, rfl, ⟨_, s0.seq hl⟩, for_list (K := K) (a := l) (xs := ts.map nV)
      (fun i σ H' => ∃ (v : Option V) (as : List Addr), σ = [some (.ref m), some (.ref p), some (.ref l), some (.ref q), v] ∧ Same H H' ∧ H' q = some (.lst (as.map V.ref)) ∧ PartsAt K H' as (trail M wc (ts.take i)))
      ⟨none, [p], rfl, s0, upd_same, ⟨rfl, fun i x e => ?_⟩⟩ (fun i σ H' _ ⟨_, _, _, s1, _⟩ => s1.seq hl) ?_ ?_⟩
    · match i, e with
      | 0, e =>
        have e : wc = x := Option.some.inj e
        subst e
        exact ⟨p, rfl, hp.same s0⟩
      | i + 1, e => cases e
    · rintro i y σ H' hi ⟨v, as, rfl, s1, hq', hA⟩
      obtain ⟨t, hti, rfl⟩ := at_map hi
      have hil : i < ts.length := (List.getElem?_eq_some_iff.mp hti).1
      have lt : (ts.take i).length = i := by rw [List.length_take]; omega
      have la : as.length = i + 1 := by rw [hA.len, trail_len, lt]
      have el := trail_last M (ts.take i) wc
      rw [lt] at el
      obtain ⟨a, ha, pa⟩ := hA.at_ i _ el
      have hx : atI (as.map V.ref) (-1) = some (V.ref a) := by
        have es : as = as.take i ++ [a] := by
          rw [← take_snoc ha, List.take_of_length_le (by omega)]
        rw [es, List.map_append]
        exact atI_last _ _
      refine ⟨_, rfl, .inl ⟨rfl, _, SqL.of hq'⟩, _, rfl, _, rfl, _, rfl, q, _, _, _, rfl, rfl, SqL.of hq', hx, _, rfl, m, a, M, _, t, rfl, hM.same s1, ok, pa, fun H2 b s2 pb => ?_⟩
      refine ⟨q, _, _, rfl, rfl, s2 _ _ hq', (by rw [List.length_map, la]; exact Nat.lt_of_le_of_lt (show i + 1 ≤ 1001 by omega) (by decide)), ?_⟩
      have eA : (as ++ [b]).map V.ref = as.map V.ref ++ [V.ref b] := by simp
      refine ⟨_, as ++ [b], rfl, Same.updU hq (s1.trans s2), (by rw [upd_same, eA]), ?_⟩
      rw [take_snoc hti, trail_snoc]
      exact ((hA.same s2).snoc pb).lst (s2 _ _ hq')
    · rintro σ H' ⟨v, as, rfl, s1, hq', hA⟩
      rw [List.length_map, List.take_length] at hA
      exact ⟨_, rfl, k H' q as s1 hq hq' hA⟩
theorem sc_is_too_hot : FnScope ["mould", "part"] ["mould", "part"] (defScope s_is_too_hot) := ⟨rfl, rfl, rfl, by decide +kernel, rfl, by decide +kernel, by decide +kernel⟩
theorem has_is_too_hot (D : Def K mg "is_too_hot" s_is_too_hot ["mould", "part"]) : Has P w K mg base "is_too_hot" ["mould", "part"] 1 (spHot1 K) := D.has fun f fd F => by
  refine F.ok sc_is_too_hot (fun vs H Q E h => ?_) (fun cdv A outer s H vs Q E hr h => ?_)
  · obtain ⟨m, p, M, wc, rfl, _⟩ := h
    rfl
  · obtain ⟨m, p, M, wc, rfl, hM, hP, k⟩ := h
    refine ⟨_, pss_one (ps_ret (pe_cmpR op_gt (pe_fl (pv 1)) (pe_fl (pv 0)) (nomark _))), ?_⟩
    refine ⟨_, rfl, p, _, rfl, hP.warmth, _, rfl, m, _, rfl, hM.most, _, _, rfl, rfl, ?_⟩
    have k' := k H (Same.refl H)
    have e : decide (M.most < wc.1) = decide ((M.most : Int) < (wc.1 : Int)) := decide_eq_decide.mpr (by omega)
    rw [e] at k'
    exact k'
theorem sc_is_ever_too_hot : FnScope ["mould", "parts", "part"] ["mould", "parts"] (defScope s_is_ever_too_hot) := ⟨rfl, rfl, rfl, by decide +kernel, rfl, by decide +kernel, by decide +kernel⟩
theorem has_is_ever_too_hot (zany : mg "any" = none) (h1 : Has P w K mg base "is_too_hot" ["mould", "part"] 1 (spHot1 K)) (D : Def K mg "is_ever_too_hot" s_is_ever_too_hot ["mould", "parts"]) : Has P w K mg base "is_ever_too_hot" ["mould", "parts"] 2 (spTooHot K) := D.has fun f fd F => by
  refine F.ok sc_is_ever_too_hot (fun vs H Q E h => ?_) (fun cdv A outer s H vs Q E hr h => ?_)
  · obtain ⟨m, l, M, as, tr, rfl, _⟩ := h
    rfl
  · obtain ⟨m, l, M, as, tr, rfl, hM, hl, hA, hlen, k⟩ := h
    refine ⟨_, pss_one (ps_ret (pe_callB (cr_any rfl) rfl zany b_any (pa_cons (pe_lc (te := tCall (spHot1 K) [] E0 (tCons (tVar 0) (tCons (tVar 2) tNil))) rfl sc_is_ever_too_hot.nd (pi_list (pv 1))
        (blkOk_by (own := [("part", 2)]) (by rfl)) (fun s H C cl fp => pg_name (i := 2) sc_is_ever_too_hot.nd rfl (Or.inl rfl) (Or.inr rfl))
        (fun _ _ _ _ _ => pts_nil) (fun _ _ _ _ _ => pe_callH h1 hr rfl (pa_cons (pv 0) (pa_cons (pv 2) pa_nil)))) pa_nil))), ?_⟩
    refine ⟨_, rfl, l, rfl, ⟨_, hl⟩, fun D hD => ?_⟩
    refine lc_list (K := K) (a := l) (xs := as.map V.ref)
      (fun i H' => Same H H' ∧ H' D = some (.lst (((tr.take i).map fun wc => decide (M.most < wc.1)).map V.bl)))
      ⟨Same.upd hD, upd_same⟩ (fun i H' _ ⟨s1, _⟩ => s1.seq hl) ?_ ?_
    · rintro i x H' hx ⟨s1, hD'⟩
      obtain ⟨a, ha, rfl⟩ := at_map hx
      have hil : i < tr.length := by rw [← hA.len]; exact (List.getElem?_eq_some_iff.mp ha).1
      obtain ⟨a', ha', pa⟩ := hA.at_ i tr[i] (by simp [hil])
      rw [ha] at ha'
      have ea : a = a' := Option.some.inj ha'
      subst ea
      have hti : tr[i]? = some tr[i] := by simp [hil]
      refine ⟨rfl, _, rfl, _, rfl, m, a, M, _, rfl, hM.same s1, pa.same s1, fun H2 s2 => ⟨_, s2 _ _ hD', ?_, ?_, ?_⟩⟩
      · rw [List.length_map, List.length_map, List.length_take]
        exact Nat.lt_of_le_of_lt (Nat.min_le_right _ _) (Nat.lt_of_le_of_lt hlen (by decide))
      · exact Same.updU hD (s1.trans s2)
      · rw [upd_same, take_snoc hti, List.map_append, List.map_append]
        rfl
    · rintro H' ⟨s1, hD'⟩
      rw [List.length_map, hA.len, List.take_length] at hD'
      refine ⟨D, _, rfl, SqL.of hD', ?_⟩
      have k' := k H' s1
      rw [List.any_map]
      exact k'
end
end Pw
end
section
set_option Elab.async false
set_option linter.all false
set_option maxRecDepth 100000
set_option maxHeartbeats 2000000
namespace Pw
open PySem PySem.Spec L2

/-! ### all but one object stays -/
def Sb (r : Addr) (H H' : Hp) : Prop := ∀ b o, H b = some o → b ≠ r → H' b = some o
theorem Sb.refl (r : Addr) (H : Hp) : Sb r H H := fun _ _ h _ => h
theorem Sb.trans {r : Addr} {H H1 H2 : Hp} (a : Sb r H H1) (b : Sb r H1 H2) : Sb r H H2 := fun c o h n => b c o (a c o h n) n
theorem Same.sb {r : Addr} {H H' : Hp} (s : Same H H') : Sb r H H' := fun b o h _ => s b o h
theorem Sb.upd (r : Addr) (H : Hp) (o : HO) : Sb r H (L2.upd H r o) := fun b u e n => by rw [upd_ne n]; exact e
/-- a new object is written -/
theorem Sb.updU {r q : Addr} {H H' : Hp} {o : HO} (h : H q = none) (s : Sb r H H') : Sb r H (L2.upd H' q o) := fun b u e n => by
  rw [upd_ne (ne_of_none e h)]
  exact s _ _ e n
theorem Sb.free {r q : Addr} {H H' : Hp} (s : Sb r H H') (n : q ≠ r) (h : H' q = none) : H q = none := by
  cases e : H q with
  | none => rfl
  | some o =>
    rw [s q o e n] at h
    cases h
theorem Sb.seq {K : PySem.W.Frag} {r C dx a : Addr} {fs : List (Str × V)} {H H' : Hp} {xs : List V} (s : Sb r H H') (hr : H r = some (.ins C dx fs)) (h : SqL K H a xs) : SqL K H' a xs := by
  rcases h with (h | ⟨o, h⟩) | h
  · exact .inl (.inl (s _ _ h (ne_of h hr (by intro z; cases z))))
  · exact .inl (.inr ⟨o, s _ _ h (ne_of h hr (by intro z; cases z))⟩)
  · exact .inr h
theorem FldAt.sb {K : PySem.W.Frag} {r C dx b : Addr} {fs : List (Str × V)} {H H' : Hp} {f : Str} {v : V} (h : FldAt K H b f v) (hr : H r = some (.ins C dx fs)) (hf : fs.lookup f = none) (s : Sb r H H') : FldAt K H' b f v := by
  obtain ⟨C', dx', fs', h1, h2, h3, h4⟩ := h
  refine ⟨C', dx', fs', s _ _ h1 (fun z => ?_), h2, h3, h4⟩
  subst z
  rw [hr] at h1
  cases h1
  rw [hf] at h4
  cases h4

/-! ### the reader -/
structure ClR (K : PySem.W.Frag) (C : Addr) : Prop where
  cl : Cls K C
  n1 : NoAttr K C "calls"
  n2 : NoAttr K C "place"
def rF (a : Addr) (j : Nat) : List (Str × V) := [("calls", .ref a), ("place", nV j)]
def RdAt (C : Addr) (H : Hp) (r a : Addr) (j : Nat) : Prop := ∃ dx, H r = some (.ins C dx (rF a j))
/-- a tuple of the module -/
def KTup (K : PySem.W.Frag) (a : Addr) (xs : List V) : Prop := ∃ (o : Obj) (its : Array Value) (n : Nat), K.lookup a = some o ∧ o.cls = .type "tuple" ∧ o.data = .seq its n ∧ its.size ≤ sizeLine ∧ Vals xs its.toList
theorem KTup.seq {K : PySem.W.Frag} {a : Addr} {xs : List V} {H : Hp} (h : KTup K a xs) : SqT K H a xs := .inr h
/-- the table of the calls' shapes -/
def Shapes (K : PySem.W.Frag) (mg : Str → Option Value) : Prop := ∃ (a : Addr) (rs : List Addr), mg "SHAPES" = some (.ref a) ∧ KTup K a (rs.map V.ref) ∧
  ∀ (c : Nat) (n k : Nat), PyKqv3.shape (c : Int) = some (n, k) → ∃ r, rs[c]? = some r ∧ KTup K r [nV n, nV k]

/-! ### rows -/
theorem rows_split : ∀ (i d : Nat) (r : List Int) (xs : List (List Int)) (t : List Int), PyFlat.rows (i + d) r = some (xs, t) → ∃ ys s zs, PyFlat.rows i r = some (ys, s) ∧ PyFlat.rows d s = some (zs, t) ∧ xs = ys ++ zs
  | 0, d, r, xs, t, h => ⟨[], r, xs, rfl, by rw [Nat.zero_add] at h; exact h, rfl⟩
  | i + 1, d, r, xs, t, h => by
    rw [show i + 1 + d = (i + d) + 1 by omega, PyFlat.rows] at h
    cases e : PyFlat.row r with
    | none => rw [e] at h; cases h
    | some q =>
      obtain ⟨x, s⟩ := q
      rw [e] at h
      dsimp only at h
      cases e2 : PyFlat.rows (i + d) s with
      | none => rw [e2] at h; cases h
      | some q2 =>
        obtain ⟨xs', t'⟩ := q2
        rw [e2] at h
        cases h
        obtain ⟨ys, s', zs, h1, h2, h3⟩ := rows_split i d s xs' t e2
        exact ⟨x :: ys, s', zs, by rw [PyFlat.rows, e]; dsimp only; rw [h1], h2, by rw [h3]; rfl⟩
theorem rows_snoc : ∀ (i : Nat) (r ys' : _) (s : List Int) (x t : List Int), PyFlat.rows i r = some (ys', s) → PyFlat.row s = some (x, t) → PyFlat.rows (i + 1) r = some (ys' ++ [x], t)
  | 0, r, ys, s, x, t, h1, h2 => by
    unfold PyFlat.rows at h1
    cases h1
    unfold PyFlat.rows
    rw [h2]
    rfl
  | i + 1, r, ys, s, x, t, h1, h2 => by
    unfold PyFlat.rows at h1
    unfold PyFlat.rows
    cases e : PyFlat.row r with
    | none => rw [e] at h1; cases h1
    | some q =>
      obtain ⟨x0, s0⟩ := q
      rw [e] at h1
      dsimp only at h1 ⊢
      cases e2 : PyFlat.rows i s0 with
      | none => rw [e2] at h1; cases h1
      | some q2 =>
        obtain ⟨xs', t'⟩ := q2
        rw [e2] at h1
        cases h1
        rw [rows_snoc i s0 xs' s x t e2 h2]
        rfl
theorem row_shape {s x t : List Int} (h : PyFlat.row s = some (x, t)) : ∃ n r, s = n :: r ∧ 0 ≤ n ∧ n.toNat ≤ r.length ∧ x = r.take n.toNat ∧ t = r.drop n.toNat := by
  unfold PyFlat.row at h
  cases s with
  | nil => cases h
  | cons n r =>
    dsimp only at h
    split at h
    · rename_i hc
      cases h
      exact ⟨n, r, rfl, hc.1, hc.2, rfl, rfl⟩
    · cases h

/-! ### the promises -/
def spReader (K : PySem.W.Frag) (C : Addr) : Sp := fun vs H Q _ => ∃ (p dx a : Addr), vs = [.ref p, .ref a] ∧ H p = some (.ins C dx []) ∧ ∀ H' : Hp, RdAt C H' p a 0 → Sb p H H' → Q .non H'
def spAtEnd (K : PySem.W.Frag) (C : Addr) : Sp := fun vs H Q _ => ∃ (r a : Addr) (j : Nat) (ns : List Int), vs = [.ref r] ∧ RdAt C H r a j ∧ SqL K H a (ns.map V.int) ∧ ∀ H', Same H H' → Q (.bl (decide (ns.length ≤ j))) H'
def spRN (K : PySem.W.Frag) (C : Addr) : Sp := fun vs H Q _ => ∃ (r a : Addr) (j : Nat) (ns : List Int) (x : Int), vs = [.ref r] ∧ RdAt C H r a j ∧ SqL K H a (ns.map V.int) ∧ ns[j]? = some x ∧
  ∀ H' : Hp, Sb r H H' → RdAt C H' r a (j + 1) → Q (.int x) H'
def spRR (K : PySem.W.Frag) (C : Addr) : Sp := fun vs H Q _ => ∃ (r a : Addr) (j : Nat) (ns : List Int) (n : Int) (t : List Int), vs = [.ref r] ∧ RdAt C H r a j ∧ SqL K H a (ns.map V.int) ∧ ns.drop j = n :: t ∧ 0 ≤ n ∧ n.toNat ≤ t.length ∧
  ∀ (H' : Hp) (q : Addr), Sb r H H' → RdAt C H' r a (j + 1 + n.toNat) → H q = none → H' q = some (.lst ((t.take n.toNat).map V.int)) → Q (.ref q) H'
structure RowsAt (H : Hp) (ls : List Addr) (rows : List (List Int)) : Prop where
  len : ls.length = rows.length
  at_ : ∀ (i : Nat) (row : List Int), rows[i]? = some row → ∃ l, ls[i]? = some l ∧ H l = some (.lst (row.map V.int))
def spRG (K : PySem.W.Frag) (C : Addr) : Sp := fun vs H Q _ => ∃ (r a : Addr) (j : Nat) (ns : List Int) (c n k : Nat) (rest t : List Int) (rows : List (List Int)), vs = [.ref r, nV c] ∧ RdAt C H r a j ∧ SqL K H a (ns.map V.int) ∧ ns.length ≤ 30000 ∧
  PyKqv3.shape (c : Int) = some (n, k) ∧ n ≤ 5 ∧ k ≤ 2 ∧ ns.drop j = rest ∧ n ≤ rest.length ∧ PyFlat.rows k (rest.drop n) = some (rows, t) ∧
  ∀ (H' : Hp) (g : Addr) (ls : List Addr) (j' : Nat), Sb r H H' → RdAt C H' r a j' → ns.drop j' = t → H g = none → H' g = some (.lst ((rest.take n).map V.int ++ ls.map V.ref)) → RowsAt H' ls rows → (∀ l ∈ ls, H l = none) → Q (.ref g) H'

section
variable {P : Program} {w : World} {K : PySem.W.Frag} {mg : Str → Option Value} {base : Heap}
theorem sc_Reader_init : FnScope ["self", "calls"] ["self", "calls"] (defScope s_Reader_init) := ⟨rfl, rfl, rfl, by decide +kernel, rfl, by decide +kernel, by decide +kernel⟩
theorem has_Reader {C : Addr} (T : ClR K C) (D : CDef K mg "Reader" "Reader.__init__" C s_Reader_init ["self", "calls"]) : CHas P w K mg base "Reader" C ["self", "calls"] 1 (spReader K C) := D.has fun f fd F => by
  refine F.ok sc_Reader_init (fun vs H Q E h => ?_) (fun cdv A outer s H vs Q E hr h => ?_)
  · obtain ⟨p, dx, a, rfl, _⟩ := h
    rfl
  · obtain ⟨p, dx, a, rfl, hp, k⟩ := h
    refine ⟨_, pss_cons (ps_fld (pv 0) (pv 1) rfl) (pss_one (ps_fld (pv 0) pe_int rfl)), ?_⟩
    refine ⟨_, rfl, _, rfl, p, C, dx, [], rfl, hp, T.cl, T.n1, (by decide), ?_⟩
    refine ⟨_, rfl, p, C, dx, _, rfl, upd_same, T.cl, T.n2, (by show 1 < 1000; decide), ?_⟩
    rw [upd_upd]
    exact k _ ⟨dx, upd_same⟩ (Sb.upd _ _ _)
theorem RdAt.calls {C : Addr} {H : Hp} {r a : Addr} {j : Nat} (T : ClR K C) (h : RdAt C H r a j) : FldAt K H r "calls" (.ref a) := let ⟨dx, e⟩ := h; ⟨C, dx, _, e, T.cl, T.n1, rfl⟩
theorem RdAt.place {C : Addr} {H : Hp} {r a : Addr} {j : Nat} (T : ClR K C) (h : RdAt C H r a j) : FldAt K H r "place" (nV j) := let ⟨dx, e⟩ := h; ⟨C, dx, _, e, T.cl, T.n2, rfl⟩
theorem RdAt.seq {C : Addr} {H H' : Hp} {r a l : Addr} {j : Nat} {xs : List V} (h : RdAt C H r a j) (s : Sb r H H') (q : SqL K H l xs) : SqL K H' l xs := let ⟨_, e⟩ := h; s.seq e q

theorem sc_is_at_end : FnScope ["self"] ["self"] (defScope s_Reader_is_at_end) := ⟨rfl, rfl, rfl, by decide +kernel, rfl, by decide +kernel, by decide +kernel⟩
theorem has_is_at_end {C : Addr} (T : ClR K C) (zlen : mg "len" = none) (D : MDef K C "is_at_end" "Reader.is_at_end" s_Reader_is_at_end ["self"]) : MHas P w K mg base C "is_at_end" ["self"] 1 (spAtEnd K C) := D.has fun f fd F => by
  refine F.ok sc_is_at_end (fun vs H Q E h => ?_) (fun cdv A outer s H vs Q E hr h => ?_)
  · obtain ⟨r, a, j, ns, rfl, _⟩ := h
    rfl
  · obtain ⟨r, a, j, ns, rfl, hR, hl, k⟩ := h
    refine ⟨_, pss_one (ps_ret (pe_cmpR op_ge (pe_fl (pv 0)) (pe_callB call_len_seq rfl zlen b_len (pa_cons (pe_fl (pv 0)) pa_nil)) (nomark _))), ?_⟩
    refine ⟨_, rfl, r, _, rfl, hR.place T, _, rfl, r, _, rfl, hR.calls T, a, _, rfl, .inl hl, _, _, rfl, rfl, ?_⟩
    have k' := k H (Same.refl H)
    have e : decide (ns.length ≤ j) = decide (((ns.map V.int).length : Int) ≤ (j : Int)) := decide_eq_decide.mpr (by rw [List.length_map]; omega)
    rw [e] at k'
    exact k'

theorem sc_read_number : FnScope ["self", "number"] ["self"] (defScope s_Reader_read_number) := ⟨rfl, rfl, rfl, by decide +kernel, rfl, by decide +kernel, by decide +kernel⟩
theorem has_read_number {C : Addr} (T : ClR K C) (D : MDef K C "read_number" "Reader.read_number" s_Reader_read_number ["self"]) : MHas P w K mg base C "read_number" ["self"] 1 (spRN K C) := D.has fun f fd F => by
  refine F.ok sc_read_number (fun vs H Q E h => ?_) (fun cdv A outer s H vs Q E hr h => ?_)
  · obtain ⟨r, a, j, ns, x, rfl, _⟩ := h
    rfl
  · obtain ⟨r, a, j, ns, x, rfl, hR, hl, hx, k⟩ := h
    obtain ⟨dx, e⟩ := id hR
    refine ⟨_, pss_cons (ps_set (i := 1) sc_read_number.nd rfl (Or.inl rfl) (pe_ix ix_list (pe_fl (pv 0)) (pe_fl (pv 0)) (fun _ _ => rfl)))
      (pss_cons (ps_fldaug (pv 0) pe_int in_add) (pss_one (ps_ret (pv 1)))), ?_⟩
    refine ⟨_, rfl, r, _, rfl, hR.calls T, _, rfl, r, _, rfl, hR.place T, a, _, _, V.int x, rfl, rfl, hl, atI_nat (by rw [List.getElem?_map, hx]; rfl), ?_⟩
    refine ⟨_, rfl, r, C, dx, _, _, rfl, e, T.cl, T.n2, rfl, _, _, rfl, rfl, dx, _, e, (by show 2 < 1000; decide), ?_⟩
    exact ⟨_, rfl, k _ (Sb.upd _ _ _) ⟨dx, upd_same⟩⟩

theorem cut_at (l : List V) (i n : Nat) (h : i + n ≤ l.length) : cutV l (some (i : Int)) (some ((i : Int) + (n : Int))) = (l.drop i).take n := by
  have e : (i : Int) + (n : Int) = ((i + n : Nat) : Int) := by omega
  unfold cutV
  rw [e, HT.sIx_nat, HT.sIx_nat, Nat.min_eq_left h, Nat.min_eq_left (show i ≤ l.length by omega)]
  congr 1
  omega
theorem sc_read_row : FnScope ["self", "length", "row"] ["self"] (defScope s_Reader_read_row) := ⟨rfl, rfl, rfl, by decide +kernel, rfl, by decide +kernel, by decide +kernel⟩
theorem has_read_row {C : Addr} (T : ClR K C) (h1 : MHas P w K mg base C "read_number" ["self"] 1 (spRN K C)) (D : MDef K C "read_row" "Reader.read_row" s_Reader_read_row ["self"]) : MHas P w K mg base C "read_row" ["self"] 2 (spRR K C) := D.has fun f fd F => by
  refine F.ok sc_read_row (fun vs H Q E h => ?_) (fun cdv A outer s H vs Q E hr h => ?_)
  · obtain ⟨r, a, j, ns, n, t, rfl, _⟩ := h
    rfl
  · obtain ⟨r, a, j, ns, n, t, rfl, hR, hl, hd, n0, nl, k⟩ := h
    obtain ⟨dx, e⟩ := id hR
    refine ⟨_, pss_cons (ps_set (i := 1) sc_read_row.nd rfl (Or.inl rfl) (pe_methH0 (pv 0) T.cl h1 hr))
      (pss_cons (ps_set (i := 2) sc_read_row.nd rfl (Or.inl rfl) (pe_slice sl_list (pe_fl (pv 0)) (po_some (pe_fl (pv 0))) (po_some (pe_op op_add (pe_fl (pv 0)) (pv 1)))))
      (pss_cons (ps_fldaug (pv 0) (pv 1) in_add) (pss_one (ps_ret (pv 2))))), ?_⟩
    have hj : j < ns.length := by
      have : (ns.drop j).length = (n :: t).length := by rw [hd]
      rw [List.length_drop, List.length_cons] at this
      omega
    have ht : ns.drop (j + 1) = t := by rw [← List.drop_drop, hd]; rfl
    have hx : ns[j]? = some n := by
      have := congrArg (fun l => l[0]?) hd
      simpa using this
    have hlen : j + 1 + t.length = ns.length := by
      have : (ns.drop (j + 1)).length = t.length := by rw [ht]
      rw [List.length_drop] at this
      omega
    refine ⟨_, rfl, r, dx, _, rfl, e, rfl, r, a, j, ns, n, rfl, hR, hl, hx, fun H1 s1 hR1 => ?_⟩
    obtain ⟨dx1, e1⟩ := id hR1
    have hl1 := hR.seq s1 hl
    refine ⟨_, rfl, r, _, rfl, hR1.calls T, _, rfl, r, _, rfl, hR1.place T, _, rfl, _, rfl, r, _, rfl, hR1.place T, _, rfl, _, _, rfl, rfl, _, rfl, a, _, rfl, hl1, fun q hq => ?_⟩
    have nq : r ≠ q := ne_of_none e1 hq
    refine ⟨_, rfl, r, C, dx1, _, _, rfl, (by rw [upd_ne nq]; exact e1), T.cl, T.n2, rfl, _, rfl, _, _, rfl, rfl, dx1, _, (by rw [upd_ne nq]; exact e1), (by show 2 < 1000; decide), ?_⟩
    refine ⟨_, rfl, ?_⟩
    have eq0 : H q = none := s1.free nq.symm hq
    have en : (n.toNat : Int) = n := Int.toNat_of_nonneg n0
    refine k _ q ?_ ⟨dx1, ?_⟩ eq0 ?_
    · exact (Sb.updU eq0 s1).trans (Sb.upd _ _ _)
    · rw [upd_same]
      show some (HO.ins C dx1 [("calls", V.ref a), ("place", V.int (((j + 1 : Nat) : Int) + n))]) = some (HO.ins C dx1 [("calls", V.ref a), ("place", V.int ((j + 1 + n.toNat : Nat) : Int))])
      rw [← en]
      rfl
    · rw [upd_ne nq.symm, upd_same]
      congr 2
      have ec : cutV (ns.map V.int) (some ((j + 1 : Nat) : Int)) (some (((j + 1 : Nat) : Int) + n)) = ((ns.map V.int).drop (j + 1)).take n.toNat := by
        conv => lhs; rw [← en]
        exact cut_at _ _ _ (by rw [List.length_map]; omega)
      refine ec.trans ?_
      rw [← List.map_drop, ht, List.map_take]
end
end Pw
end
section
set_option Elab.async false
set_option linter.all false
set_option maxRecDepth 100000
set_option maxHeartbeats 2000000
namespace Pw
open PySem PySem.Spec L2
section
variable {P : Program} {w : World} {K : PySem.W.Frag} {mg : Str → Option Value} {base : Heap}
theorem RowsAt.keep {H H' : Hp} {ls : List Addr} {rows : List (List Int)} (h : RowsAt H ls rows) (k : ∀ (l : Addr) (xs : List V), l ∈ ls → H l = some (.lst xs) → H' l = some (.lst xs)) : RowsAt H' ls rows :=
  ⟨h.len, fun i row e => let ⟨l, e1, e2⟩ := h.at_ i row e; ⟨l, e1, k l _ (List.mem_of_getElem? e1) e2⟩⟩
theorem RowsAt.snoc {H : Hp} {ls : List Addr} {rows : List (List Int)} {l : Addr} {row : List Int} (h : RowsAt H ls rows) (g : H l = some (.lst (row.map V.int))) : RowsAt H (ls ++ [l]) (rows ++ [row]) :=
  ⟨by simp [h.len], fun i x e => by
    by_cases hi : i < rows.length
    · rw [List.getElem?_append_left hi] at e
      obtain ⟨b, e1, e2⟩ := h.at_ i x e
      exact ⟨b, by rw [List.getElem?_append_left (by rw [h.len]; exact hi)]; exact e1, e2⟩
    · have hl := (List.getElem?_eq_some_iff.mp e).1
      rw [List.length_append, List.length_singleton] at hl
      have ei : i = rows.length := by omega
      subst ei
      rw [List.getElem?_append_right (Nat.le_refl _), Nat.sub_self] at e
      have ex : row = x := Option.some.inj e
      subst ex
      exact ⟨l, by rw [← h.len, List.getElem?_append_right (Nat.le_refl _), Nat.sub_self]; rfl, g⟩⟩
theorem drop_at {ns rest : List Int} {j i : Nat} (h : ns.drop j = rest) (hi : i < rest.length) : ns[j + i]? = some rest[i] := by
  have : (ns.drop j)[i]? = ns[j + i]? := by rw [List.getElem?_drop]
  rw [← this, h]
  simp [hi]
theorem sc_read_given : FnScope ["self", "call", "shape", "given", "turn"] ["self", "call"] (defScope s_Reader_read_given) := ⟨rfl, rfl, rfl, by decide +kernel, rfl, by decide +kernel, by decide +kernel⟩
theorem has_read_given {C : Addr} (T : ClR K C) (zrange : mg "range" = none) (hS : Shapes K mg) (h1 : MHas P w K mg base C "read_number" ["self"] 1 (spRN K C)) (h2 : MHas P w K mg base C "read_row" ["self"] 2 (spRR K C))
    (D : MDef K C "read_given" "Reader.read_given" s_Reader_read_given ["self", "call"]) : MHas P w K mg base C "read_given" ["self", "call"] 3 (spRG K C) := D.has fun f fd F => by
  refine F.ok sc_read_given (fun vs H Q E h => ?_) (fun cdv A outer s H vs Q E hr h => ?_)
  · obtain ⟨r, a, j, ns, c, n, k, rest, t, rows, rfl, _⟩ := h
    rfl
  · obtain ⟨r, a, j, ns, c, n, k, rest, t, rows, rfl, hR, hl, hns, hsh, hn5, hk2, hd, hnl, hrows, q⟩ := h
    obtain ⟨sa, srs, hmS, hST, hS⟩ := hS
    obtain ⟨sr, hsr, hsrT⟩ := hS c n k hsh
    have hr1 := hr.mono (show 1 ≤ 2 by decide)
    obtain ⟨dx, e⟩ := id hR
    refine ⟨_, pss_cons (ps_set (i := 2) sc_read_given.nd rfl (Or.inl rfl) (pe_ix ix_tup (pe_glob (v := .ref sa) rfl hmS rfl) (pv 1) (fun _ _ => rfl)))
      (pss_cons (ps_set (i := 3) sc_read_given.nd rfl (Or.inl rfl) (pe_lst pa_nil))
      (pss_cons (ps_for PassesOwn.never rfl (pi_range1 rfl zrange (pa_cons (pe_ix ix_tup (pv 2) pe_int (fun _ _ => rfl)) pa_nil)) (pg_name (i := 4) sc_read_given.nd rfl (Or.inl rfl))
        (pss_one (ps_expr (pe_bm PySem.F.plainAttrs_list PySem.F.slot_list_append PySem.F.type_list_append mt_append (pv 3) (pa_cons (pe_methH0 (pv 0) T.cl h1 hr1) pa_nil)))))
      (pss_cons (ps_for PassesOwn.never rfl (pi_range1 rfl zrange (pa_cons (pe_ix ix_tup (pv 2) pe_int (fun _ _ => rfl)) pa_nil)) (pg_name (i := 4) sc_read_given.nd rfl (Or.inl rfl))
        (pss_one (ps_expr (pe_bm PySem.F.plainAttrs_list PySem.F.slot_list_append PySem.F.type_list_append mt_append (pv 3) (pa_cons (pe_methH0 (pv 0) T.cl h2 hr) pa_nil)))))
      (pss_one (ps_ret (pv 3)))))), ?_⟩
    refine ⟨_, rfl, sa, _, _, V.ref sr, rfl, rfl, hST.seq, atI_nat (by rw [List.getElem?_map, hsr]; rfl), ?_⟩
    refine ⟨Nat.zero_le _, fun g hg => ?_⟩
    have nrg : r ≠ g := ne_of_none e hg
    refine ⟨_, rfl, sr, _, _, nV n, rfl, rfl, hsrT.seq, rfl, (n : Int), rfl, by omega, by omega, for_range (lo := 0) (n := (n : Int).toNat)
      (fun i σ H' => ∃ v : Option V, σ = [some (.ref r), some (nV c), some (.ref sr), some (.ref g), v] ∧ Sb r H H' ∧ RdAt C H' r a (j + i) ∧ H' g = some (.lst ((rest.take i).map V.int)))
      ⟨none, rfl, Sb.updU hg (Sb.refl _ _), ⟨dx, by rw [upd_ne nrg]; exact e⟩, upd_same⟩ ?_ ?_⟩
    · rintro i σ H' hi ⟨v, rfl, s1, hR1, hg1⟩
      rw [Int.toNat_natCast] at hi
      obtain ⟨dx1, e1⟩ := id hR1
      have hir : i < rest.length := by omega
      refine ⟨_, rfl, .inl ⟨rfl, _, SqL.of hg1⟩, _, rfl, r, dx1, _, rfl, e1, rfl, r, a, j + i, ns, rest[i], rfl, hR1, hR.seq s1 hl, drop_at hd hir, fun H2 s2 hR2 => ?_⟩
      have hg2 := s2 _ _ hg1 nrg.symm
      refine ⟨g, _, _, rfl, rfl, hg2, (by rw [List.length_map, List.length_take]; exact Nat.lt_of_le_of_lt (show _ ≤ 5 by omega) (by decide)), ?_⟩
      refine ⟨_, rfl, Sb.updU hg (s1.trans s2), ?_, ?_⟩
      · obtain ⟨dx2, e2⟩ := hR2
        exact ⟨dx2, by rw [upd_ne nrg]; exact e2⟩
      · rw [upd_same, take_snoc (show rest[i]? = some rest[i] by simp [hir]), List.map_append]
        rfl
    · rintro σ H1 ⟨v, rfl, s1, hR1, hg1⟩
      rw [Int.toNat_natCast] at hR1 hg1
      obtain ⟨dx1, e1⟩ := id hR1
      refine ⟨_, rfl, sr, _, _, nV k, rfl, rfl, hsrT.seq, rfl, (k : Int), rfl, by omega, by omega, for_range (lo := 0) (n := (k : Int).toNat)
        (fun i σ H' => ∃ (v : Option V) (ls : List Addr) (jj : Nat) (ys : List (List Int)) (s : List Int), σ = [some (.ref r), some (nV c), some (.ref sr), some (.ref g), v] ∧ Sb r H H' ∧ RdAt C H' r a jj ∧ ns.drop jj = s ∧
          PyFlat.rows i (rest.drop n) = some (ys, s) ∧ H' g = some (.lst ((rest.take n).map V.int ++ ls.map V.ref)) ∧ RowsAt H' ls ys ∧ (∀ l ∈ ls, l ≠ g) ∧ ls.length = i ∧ ∀ l ∈ ls, H l = none)
        ⟨v, [], j + n, [], rest.drop n, rfl, s1, hR1, by rw [← hd, List.drop_drop], rfl, by simpa using hg1, ⟨rfl, fun i row e => by simp at e⟩, fun l hl => by simp at hl, rfl, fun l hl => by simp at hl⟩ ?_ ?_⟩
      · rintro i σ H' hi ⟨v, ls, jj, ys, s, rfl, s2, hR2, hd2, hrw, hg2, hA, hne, hll, hfr⟩
        rw [Int.toNat_natCast] at hi
        obtain ⟨dx2, e2⟩ := id hR2
        obtain ⟨ys', s', zs, g1, g2, g3⟩ := rows_split i ((k - i - 1) + 1) (rest.drop n) rows t (by rw [show i + (k - i - 1 + 1) = k by omega]; exact hrows)
        rw [hrw] at g1
        cases g1
        rw [PyFlat.rows] at g2
        cases er : PyFlat.row s with
        | none => rw [er] at g2; cases g2
        | some xt =>
          obtain ⟨x, s3⟩ := xt
          obtain ⟨m, r', es, m0, ml, ex, et⟩ := row_shape er
          subst ex et
          refine ⟨_, rfl, .inl ⟨rfl, _, SqL.of hg2⟩, _, rfl, r, dx2, _, rfl, e2, rfl, r, a, jj, ns, m, r', rfl, hR2, hR.seq s2 hl, hd2.trans es, m0, ml, fun H3 ql s3 hR3 hq0 hq3 => ?_⟩
          have nqg : ql ≠ g := fun z => by rw [z, hg2] at hq0; cases hq0
          have hg3 := s3 _ _ hg2 nrg.symm
          refine ⟨g, _, _, rfl, rfl, hg3, (by rw [List.length_append, List.length_map, List.length_map, List.length_take, hll]; exact Nat.lt_of_le_of_lt (show _ ≤ 7 by omega) (by decide)), ?_⟩
          refine ⟨_, ls ++ [ql], jj + 1 + m.toNat, ys ++ [r'.take m.toNat], r'.drop m.toNat, rfl, Sb.updU hg (s2.trans s3), ?_, ?_, rows_snoc i _ ys s _ _ hrw er, ?_, ?_, ?_, ?_, ?_⟩
          · obtain ⟨dx3, e3⟩ := hR3
            exact ⟨dx3, by rw [upd_ne nrg]; exact e3⟩
          · rw [← List.drop_drop, ← List.drop_drop, hd2, es]
            rfl
          · rw [upd_same, List.map_append, List.append_assoc]
            rfl
          · refine (hA.keep fun l xs hl0 hl1 => ?_).snoc ?_
            · rw [upd_ne (hne l hl0)]
              exact s3 _ _ hl1 (ne_of hl1 e2 (by intro z; cases z))
            · rw [upd_ne nqg]
              exact hq3
          · intro l hl0
            rcases List.mem_append.mp hl0 with z | z
            · exact hne l z
            · rw [List.mem_singleton.mp z]
              exact nqg
          · rw [List.length_append, hll]
            rfl
          · intro l hl0
            rcases List.mem_append.mp hl0 with z | z
            · exact hfr l z
            · rw [List.mem_singleton.mp z]
              exact s2.free (ne_of_none e2 hq0).symm hq0
      · rintro σ H' ⟨v, ls, jj, ys, s, rfl, s2, hR2, hd2, hrw, hg2, hA, hne, hll, hfr⟩
        rw [Int.toNat_natCast] at hrw
        rw [hrows] at hrw
        cases hrw
        exact ⟨_, rfl, q H' g ls jj s2 hR2 hd2 hg hg2 hA hfr⟩
end
end Pw
end
section
set_option Elab.async false
set_option linter.all false
set_option maxRecDepth 100000
set_option maxHeartbeats 2000000
namespace Pw
/-! ### the mirror beside the specification -/
structure Match (M : Mo) (o : Kqv3.Oven) : Prop where
  lag : o.lag = M.lag
  most : o.most = M.most
  step : o.step = M.step
  low : o.low = M.low
  high : o.high = M.high
  table : o.table = M.warms.zip M.rates
def trailT (M : Mo) : Nat × Nat → List Nat → List (Nat × Nat)
  | _, [] => []
  | wc, s :: l => tickP M wc s :: trailT M (tickP M wc s) l
theorem trail_cons (M : Mo) : ∀ (l : List Nat) (wc : Nat × Nat), trail M wc l = wc :: trailT M wc l
  | [], _ => rfl
  | s :: l, wc => by
    show wc :: trail M (tickP M wc s) l = wc :: tickP M wc s :: trailT M (tickP M wc s) l
    rw [trail_cons M l]
def hotB (M : Mo) (tr : List (Nat × Nat)) : Bool := tr.any fun wc => decide (M.most < wc.1)
section
variable {M : Mo} {o : Kqv3.Oven}
theorem tick_eq (m : Match M o) (p : Kqv3.Part) : Kqv3.tick o p = ⟨(tickP M (p.warm, p.cure) p.set).1, p.set, (tickP M (p.warm, p.cure) p.set).2⟩ := by
  unfold Kqv3.tick tickP Kqv3.CURED
  rw [m.lag, m.table]
theorem after_set (m : Match M o) : ∀ (n : Nat) (p : Kqv3.Part), (Kqv3.after o n p).set = p.set
  | 0, p => rfl
  | n + 1, p => by
    show (Kqv3.after o n (Kqv3.tick o p)).set = p.set
    rw [after_set m n, tick_eq m]
theorem trail_rep (m : Match M o) : ∀ (n : Nat) (p : Kqv3.Part) (i : Nat), i ≤ n → (trail M (p.warm, p.cure) (List.replicate n p.set))[i]? = some ((Kqv3.after o i p).warm, (Kqv3.after o i p).cure)
  | 0, p, i, h => by
    have e : i = 0 := by omega
    subst e
    rfl
  | n + 1, p, 0, h => by
    rw [List.replicate_succ]
    rfl
  | n + 1, p, i + 1, h => by
    have ih := trail_rep m n (Kqv3.tick o p) i (by omega)
    rw [List.replicate_succ]
    show (trail M (tickP M (p.warm, p.cure) p.set) (List.replicate n p.set))[i]? = some ((Kqv3.after o i (Kqv3.tick o p)).warm, (Kqv3.after o i (Kqv3.tick o p)).cure)
    rw [← ih, tick_eq m]
theorem endP_rep (m : Match M o) : ∀ (n : Nat) (p : Kqv3.Part), endP M (p.warm, p.cure) (List.replicate n p.set) = ((Kqv3.after o n p).warm, (Kqv3.after o n p).cure)
  | 0, p => rfl
  | n + 1, p => by
    have ih := endP_rep m n (Kqv3.tick o p)
    rw [List.replicate_succ]
    show endP M (tickP M (p.warm, p.cure) p.set) (List.replicate n p.set) = ((Kqv3.after o n (Kqv3.tick o p)).warm, (Kqv3.after o n (Kqv3.tick o p)).cure)
    rw [← ih, tick_eq m]
theorem cool_eq (m : Match M o) : ∀ (n : Nat) (p : Kqv3.Part), Kqv3.cool o n p = !hotB M (trailT M (p.warm, p.cure) (List.replicate n p.set))
  | 0, p => rfl
  | n + 1, p => by
    have ih := cool_eq m n (Kqv3.tick o p)
    rw [List.replicate_succ]
    show (decide ((Kqv3.tick o p).warm ≤ o.most) && Kqv3.cool o n (Kqv3.tick o p)) = !hotB M (tickP M (p.warm, p.cure) p.set :: trailT M (tickP M (p.warm, p.cure) p.set) (List.replicate n p.set))
    rw [ih, tick_eq m, m.most]
    unfold hotB
    rw [List.any_cons, Bool.not_or]
    congr 1
    by_cases h : (tickP M (p.warm, p.cure) p.set).1 ≤ M.most
    · rw [decide_eq_true h, decide_eq_false (by omega)]
      rfl
    · rw [decide_eq_false h, decide_eq_true (by omega)]
      rfl
theorem run_eq (m : Match M o) : ∀ (l : List Nat) (p : Kqv3.Part), (turnB M p.set l = true ∧ hotB M (trailT M (p.warm, p.cure) l) = false ∧ ∃ q, Kqv3.run o l p = some q ∧ (q.warm, q.cure) = endP M (p.warm, p.cure) l ∧ q.set = (p.set :: l).getLast (List.cons_ne_nil _ _)) ∨
    ((turnB M p.set l = false ∨ hotB M (trailT M (p.warm, p.cure) l) = true) ∧ Kqv3.run o l p = none)
  | [], p => .inl ⟨rfl, rfl, p, rfl, rfl, rfl⟩
  | s :: l, p => by
    have hmay : Kqv3.may o p.set s = (decide (M.low ≤ s ∧ s ≤ M.high) && decide (max p.set s - min p.set s ≤ M.step)) := by
      unfold Kqv3.may
      rw [m.low, m.high, m.step, Bool.decide_and]
    have et : turnB M p.set (s :: l) = (Kqv3.may o p.set s && turnB M s l) := by rw [hmay]; rfl
    have eh : hotB M (trailT M (p.warm, p.cure) (s :: l)) = (decide (M.most < (tickP M (p.warm, p.cure) s).1) || hotB M (trailT M (tickP M (p.warm, p.cure) s) l)) := rfl
    rw [et, eh]
    by_cases c1 : Kqv3.may o p.set s = true
    · rw [c1, Bool.true_and]
      have e2 : Kqv3.tick o { p with set := s } = ⟨(tickP M (p.warm, p.cure) s).1, s, (tickP M (p.warm, p.cure) s).2⟩ := tick_eq m _
      have er : Kqv3.run o (s :: l) p = if (tickP M (p.warm, p.cure) s).1 ≤ M.most then Kqv3.run o l ⟨(tickP M (p.warm, p.cure) s).1, s, (tickP M (p.warm, p.cure) s).2⟩ else none := by
        rw [Kqv3.run, if_pos c1, e2, m.most]
      by_cases c2 : (tickP M (p.warm, p.cure) s).1 ≤ M.most
      · rw [if_pos c2] at er
        rw [decide_eq_false (show ¬ M.most < _ by omega), Bool.false_or, er]
        rcases run_eq m l ⟨(tickP M (p.warm, p.cure) s).1, s, (tickP M (p.warm, p.cure) s).2⟩ with ⟨h1, h2, q, h3, h4, h5⟩ | h
        · exact .inl ⟨h1, h2, q, h3, h4, by rw [h5]; rfl⟩
        · exact .inr h
      · rw [if_neg c2] at er
        exact .inr ⟨.inr (by rw [decide_eq_true (show M.most < _ by omega)]; rfl), er⟩
    · exact .inr ⟨.inl (by rw [Bool.not_eq_true] at c1; rw [c1]; rfl), by rw [Kqv3.run, if_neg c1]⟩
theorem hottest_eq (m : Match M o) : ∀ (n : Nat) (p : Kqv3.Part), Kqv3.hottest o n p ∈ (trail M (p.warm, p.cure) (List.replicate n p.set)).map (·.1) ∧ ∀ y ∈ (trail M (p.warm, p.cure) (List.replicate n p.set)).map (·.1), y ≤ Kqv3.hottest o n p
  | 0, p => ⟨List.mem_cons_self, fun y hy => by
    have : y = p.warm := by simpa [trail] using hy
    rw [this]
    exact Nat.le_refl _⟩
  | n + 1, p => by
    have ih := hottest_eq m n (Kqv3.tick o p)
    have e : trail M (p.warm, p.cure) (List.replicate (n + 1) p.set) = (p.warm, p.cure) :: trail M ((Kqv3.tick o p).warm, (Kqv3.tick o p).cure) (List.replicate n (Kqv3.tick o p).set) := by
      rw [List.replicate_succ, tick_eq m]
      rfl
    rw [e, List.map_cons]
    show max p.warm (Kqv3.hottest o n (Kqv3.tick o p)) ∈ _ ∧ ∀ y ∈ _, y ≤ max p.warm (Kqv3.hottest o n (Kqv3.tick o p))
    refine ⟨?_, fun y hy => ?_⟩
    · by_cases h : p.warm ≤ Kqv3.hottest o n (Kqv3.tick o p)
      · rw [Nat.max_eq_right h]
        exact List.mem_cons_of_mem _ ih.1
      · rw [Nat.max_eq_left (by omega)]
        exact List.mem_cons_self
    · rcases List.mem_cons.mp hy with z | z
      · rw [z]
        exact Nat.le_max_left _ _
      · exact Nat.le_trans (ih.2 y z) (Nat.le_max_right _ _)
theorem find_first {n i : Nat} {f : Nat → Bool} (hi : i < n) (h : f i = true) (hb : ∀ j, j < i → f j = false) : (List.range n).find? f = some i := by
  rw [List.find?_range_eq_some]
  exact ⟨h, List.mem_range.mpr hi, fun j hj => by rw [hb j hj]; rfl⟩
theorem find_none {n : Nat} {f : Nat → Bool} (hb : ∀ j, j < n → f j = false) : (List.range n).find? f = none := by
  rw [List.find?_eq_none]
  intro j hj
  rw [hb j (List.mem_range.mp hj)]
  decide
end
end Pw
end
section
set_option Elab.async false
set_option linter.all false
set_option maxRecDepth 100000
set_option maxHeartbeats 2000000
namespace Pw
open PySem PySem.Spec L2

/-! ### a call of a def that a local name holds -/
def tCallV (X : Cx) (i : Nat) (t : TA) : TE := fun σ H Q => ∃ f fd ps k sp, σ[i]? = some (some (.ref f)) ∧ PySem.W.keepIn X.K (.ref f) = true ∧ Binds X.K fd ps [] ∧ FnOk X.prog X.w X.K X.mg X.base CX0 k f fd ps sp ∧ Room k X.A ∧ t σ H fun vs H1 => sp vs H1 Q E0
theorem pe_callV {X : Cx} {i : Nat} {x : Str} {p pos : Pos} {e : Expr} {es : List Expr} {t : TA} (hN : X.N[i]? = some x) (hv : Vis X.env.scope x) (ha : PA X (e :: es) t) (hdb : (x == ("__debug__" : Str)) = false := by decide) (hcd : (x == ("__classdict__" : Str)) = false := by decide)
    (he : starEach (e :: es) X.env = (false, eval e X.env) :: starEach es X.env := by rfl) (hpl : (backTo pos (starEach es X.env)).any (·.1) = false := by rfl) : PE X (.Call (.Name x p) (e :: es) [] pos) (tCallV X i t) := by
  intro pins s σ H Q I h
  obtain ⟨f, fd, ps, k, sp, ev, hk, hb, F, hr, h⟩ := h
  refine wpAny_Call_Name_kw (thn (pe_var (pos := p) hN hv hdb hcd pins s σ H (fun v H' => v = .ref f ∧ H' = H) I ⟨_, ev, rfl, rfl⟩) fun u s1 ⟨v, H1, I1, r1, e1, e2⟩ => ?_)
  subst e1 e2
  obtain rfl : u = Value.ref f := r1
  refine PySem.W.callWith_K (h₀ := X.base) I.ok.mod.kin hk (thn (ha pos pins s1 σ H1 _ I1 h) fun us s2 ⟨vs, H2, I2, r, q⟩ => ⟨I2.kIn, ?_⟩) he hpl
  refine run_fn (dvs := []) F hr hb .nil pass0 I2 r ?_
  rw [List.append_nil]
  exact q

/-! ### an oven that is read -/
structure OvR (K : PySem.W.Frag) (H : Hp) (o : Addr) (M : Mo) (wc : Nat × Nat) (s : Nat) : Prop where
  mould : ∃ m, FldAt K H o "mould" (.ref m) ∧ MouldAt K H m M
  part : ∃ p, FldAt K H o "part" (.ref p) ∧ PartAt K H p wc
  point : FldAt K H o "point" (nV s)
theorem OvR.same {K : PySem.W.Frag} {H H' : Hp} {o : Addr} {M : Mo} {wc : Nat × Nat} {s : Nat} (e : Same H H') (h : OvR K H o M wc s) : OvR K H' o M wc s := by
  obtain ⟨⟨m, h1, h2⟩, ⟨p, h3, h4⟩, h5⟩ := h
  exact ⟨⟨m, h1.same e, h2.same e⟩, ⟨p, h3.same e, h4.same e⟩, h5.same e⟩

def spHeld (K : PySem.W.Frag) : Sp := fun vs H Q _ => ∃ (o : Addr) (M : Mo) (wc : Nat × Nat) (s n : Nat), vs = [.ref o, nV n] ∧ OvR K H o M wc s ∧ MoOk M ∧ n ≤ 1000 ∧
  ∀ (H' : Hp) (q : Addr) (as : List Addr), Same H H' → H q = none → H' q = some (.lst (as.map V.ref)) → PartsAt K H' as (trail M wc (List.replicate n s)) → Q (.ref q) H'
def spDoes (K : PySem.W.Frag) : Sp := fun vs H Q _ => ∃ (o l : Addr) (M : Mo) (wc : Nat × Nat) (s : Nat) (ts : List Nat), vs = [.ref o, .ref l] ∧ OvR K H o M wc s ∧ MoOk M ∧ SqL K H l (ts.map nV) ∧ ts.length ≤ 1000 ∧
  (∀ (H' : Hp), Same H H' → (turnB M s ts && !hotB M (trail M wc ts)) = false → Q .non H') ∧
  (∀ (H' : Hp) (q : Addr) (as : List Addr), Same H H' → (turnB M s ts && !hotB M (trail M wc ts)) = true → H q = none → H' q = some (.lst (as.map V.ref)) → PartsAt K H' as (trail M wc ts) → Q (.ref q) H')
def spTold (K : PySem.W.Frag) : Sp := fun vs H Q _ => ∃ (p : Addr) (wc : Nat × Nat), vs = [.ref p] ∧ PartAt K H p wc ∧ ∀ (H' : Hp) (q : Addr), Same H H' → H q = none → H' q = some (.lst [nV wc.1, nV wc.2]) → Q (.ref q) H'

section
variable {P : Program} {w : World} {K : PySem.W.Frag} {mg : Str → Option Value} {base : Heap}
theorem rep_flat {v : V} (n : Nat) : (List.replicate n [v]).flatten = List.replicate n v := by
  induction n with
  | zero => rfl
  | succ n ih =>
    rw [List.replicate_succ, List.flatten_cons, ih, List.replicate_succ]
    rfl
theorem sc_course_held : FnScope ["oven", "minutes"] ["oven", "minutes"] (defScope s_course_held) := ⟨rfl, rfl, rfl, by decide +kernel, rfl, by decide +kernel, by decide +kernel⟩
theorem has_course_held (h1 : Has P w K mg base "course" ["mould", "part", "programme"] 4 (spCourse K)) (D : Def K mg "course_held" s_course_held ["oven", "minutes"]) : Has P w K mg base "course_held" ["oven", "minutes"] 5 (spHeld K) := D.has fun f fd F => by
  refine F.ok sc_course_held (fun vs H Q E h => ?_) (fun cdv A outer s H vs Q E hr h => ?_)
  · obtain ⟨o, M, wc, s, n, rfl, _⟩ := h
    rfl
  · obtain ⟨o, M, wc, s, n, rfl, hO, ok, hn, k⟩ := h
    obtain ⟨⟨m, fm, hM⟩, ⟨p, fp, hP⟩, fs⟩ := hO
    refine ⟨_, pss_one (ps_ret (pe_callH h1 hr rfl (pa_cons (pe_fl (pv 0)) (pa_cons (pe_fl (pv 0)) (pa_cons (pe_op op_rep (pe_lst (pa_cons (pe_fl (pv 0)) pa_nil)) (pv 1)) pa_nil))))), ?_⟩
    refine ⟨_, rfl, o, _, rfl, fm, _, rfl, o, _, rfl, fp, _, rfl, o, _, rfl, fs, (by show 1 ≤ sizeLine; decide), fun l hl => ?_⟩
    refine ⟨_, rfl, l, _, _, rfl, rfl, upd_same, by omega, by omega, (by rw [Int.toNat_natCast]; exact Nat.le_trans (show [nV s].length * n ≤ 1000 by simpa using hn) (by decide)), fun l2 hl2 => ?_⟩
    have s1 : Same H (upd H l (.lst [nV s])) := Same.upd hl
    have s2 : Same H (upd (upd H l (.lst [nV s])) l2 (.lst (List.replicate (n : Int).toNat [nV s]).flatten)) := s1.trans (Same.upd hl2)
    refine ⟨m, p, l2, M, wc, List.replicate n s, rfl, hM.same s2, ok, hP.same s2, SqL.of (by rw [upd_same, Int.toNat_natCast, rep_flat, List.map_replicate]), (by rw [List.length_replicate]; exact hn), fun H' q as s3 hq hq' hA => ?_⟩
    exact k H' q as (s2.trans s3) (s2.free hq) hq' hA

theorem sc_course_that_does : FnScope ["oven", "programme", "parts"] ["oven", "programme"] (defScope s_course_that_does) := ⟨rfl, rfl, rfl, by decide +kernel, rfl, by decide +kernel, by decide +kernel⟩
theorem has_course_that_does (h1 : Has P w K mg base "may_come_in_turn" ["mould", "point", "programme"] 2 (spInTurn K)) (h2 : Has P w K mg base "course" ["mould", "part", "programme"] 4 (spCourse K)) (h3 : Has P w K mg base "is_ever_too_hot" ["mould", "parts"] 2 (spTooHot K))
    (D : Def K mg "course_that_does" s_course_that_does ["oven", "programme"]) : Has P w K mg base "course_that_does" ["oven", "programme"] 5 (spDoes K) := D.has fun f fd F => by
  refine F.ok sc_course_that_does (fun vs H Q E h => ?_) (fun cdv A outer s H vs Q E hr h => ?_)
  · obtain ⟨o, l, M, wc, s, ts, rfl, _⟩ := h
    rfl
  · obtain ⟨o, l, M, wc, s, ts, rfl, hO, ok, hl, hlen, kN, kY⟩ := h
    obtain ⟨⟨m, fm, hM⟩, ⟨p, fp, hP⟩, fs⟩ := hO
    refine ⟨_, pss_cons (ps_if (pt_not (pt_val (pe_callH h1 (hr.mono (by decide)) rfl (pa_cons (pe_fl (pv 0)) (pa_cons (pe_fl (pv 0)) (pa_cons (pv 1) pa_nil)))))) (pss_one (ps_ret pe_non)) pss_nil)
      (pss_cons (ps_set (i := 2) sc_course_that_does.nd rfl (Or.inl rfl) (pe_callH h2 hr rfl (pa_cons (pe_fl (pv 0)) (pa_cons (pe_fl (pv 0)) (pa_cons (pv 1) pa_nil)))))
      (pss_cons (ps_if (pt_val (pe_callH h3 (hr.mono (by decide)) rfl (pa_cons (pe_fl (pv 0)) (pa_cons (pv 2) pa_nil)))) (pss_one (ps_ret pe_non)) pss_nil)
      (pss_one (ps_ret (pv 2))))), ?_⟩
    refine ⟨_, rfl, o, _, rfl, fm, _, rfl, o, _, rfl, fs, _, rfl, m, l, M, s, ts, rfl, hM, hl, fun H1 s1 => ⟨_, rfl, ?_⟩⟩
    by_cases c1 : turnB M s ts = true
    case neg =>
      rw [Bool.not_eq_true] at c1
      rw [c1]
      exact iteT (kN H1 s1 (by rw [c1]; rfl))
    rw [c1]
    refine iteF ?_
    refine ⟨_, rfl, o, _, rfl, fm.same s1, _, rfl, o, _, rfl, fp.same s1, _, rfl, m, p, l, M, wc, ts, rfl, hM.same s1, ok, hP.same s1, s1.seq hl, hlen, fun H2 q as s2 hq hq' hA => ?_⟩
    have s12 := s1.trans s2
    refine ⟨_, rfl, o, _, rfl, fm.same s12, _, rfl, m, q, M, as, _, rfl, hM.same s12, SqL.of hq', hA, (by rw [trail_len]; omega), fun H3 s3 => ⟨_, rfl, ?_⟩⟩
    have s13 := s12.trans s3
    show if hotB M (trail M wc ts) = true then _ else _
    by_cases c2 : hotB M (trail M wc ts) = true
    · rw [if_pos c2]
      exact kN H3 s13 (by rw [c2, Bool.and_comm]; rfl)
    · rw [if_neg c2]
      rw [Bool.not_eq_true] at c2
      exact ⟨_, rfl, kY H3 q as s13 (by rw [c1, c2]; rfl) (s1.free hq) (s3 _ _ hq') (hA.same s3)⟩

theorem sc_told_of : FnScope ["part"] ["part"] (defScope s_told_of) := ⟨rfl, rfl, rfl, by decide +kernel, rfl, by decide +kernel, by decide +kernel⟩
theorem has_told_of (D : Def K mg "told_of" s_told_of ["part"]) : Has P w K mg base "told_of" ["part"] 1 (spTold K) := D.has fun f fd F => by
  refine F.ok sc_told_of (fun vs H Q E h => ?_) (fun cdv A outer s H vs Q E hr h => ?_)
  · obtain ⟨p, wc, rfl, _⟩ := h
    rfl
  · obtain ⟨p, wc, rfl, hP, k⟩ := h
    refine ⟨_, pss_one (ps_ret (pe_lst (pa_cons (pe_fl (pv 0)) (pa_cons (pe_fl (pv 0)) pa_nil)))), ?_⟩
    refine ⟨_, rfl, p, _, rfl, hP.warmth, _, rfl, p, _, rfl, hP.cure, (by show 2 ≤ sizeLine; decide), fun q hq => ?_⟩
    exact k _ q (Same.upd hq) hq upd_same
end
end Pw
end
section
set_option Elab.async false
set_option linter.all false
set_option maxRecDepth 100000
set_option maxHeartbeats 2000000
namespace Pw
open PySem PySem.Spec L2

/-! ### the specification's oven beside the program's -/
structure Stt (M : Mo) (wc : Nat × Nat) (s : Nat) (ov : Kqv3.Oven) : Prop where
  m : Match M ov
  part : ov.part = ⟨wc.1, s, wc.2⟩
  ok : MoOk M
  hot : wc.1 ≤ M.most
  cure : wc.2 ≤ 10000
  pt : M.low ≤ s ∧ s ≤ M.high
def ansOf (ov : Kqv3.Oven) (c : Kqv3.Call) : List V := (Kqv3Neutral.tell (Kqv3.step (some ov) c).2).map V.int
/-- a call with one number that only looks -/
def spLook1 (K : PySem.W.Frag) (c : Nat → Kqv3.Call) : Sp := fun vs H Q _ => ∃ (o g : Addr) (M : Mo) (wc : Nat × Nat) (s n : Nat) (ov : Kqv3.Oven), vs = [.ref o, .ref g] ∧ OvR K H o M wc s ∧ Stt M wc s ov ∧ SqL K H g [nV n] ∧
  ∀ (H' : Hp) (q : Addr), Same H H' → H q = none → H' q = some (.lst (ansOf ov (c n))) → Q (.ref q) H'
/-- .. with none -/
def spLook0 (K : PySem.W.Frag) (c : Kqv3.Call) : Sp := fun vs H Q _ => ∃ (o g : Addr) (M : Mo) (wc : Nat × Nat) (s : Nat) (ov : Kqv3.Oven), vs = [.ref o, .ref g] ∧ OvR K H o M wc s ∧ Stt M wc s ov ∧
  ∀ (H' : Hp) (q : Addr), Same H H' → H q = none → H' q = some (.lst (ansOf ov c)) → Q (.ref q) H'
/-- .. with a row -/
def spLookL (K : PySem.W.Frag) (c : List Nat → Kqv3.Call) : Sp := fun vs H Q _ => ∃ (o g l : Addr) (M : Mo) (wc : Nat × Nat) (s : Nat) (ts : List Nat) (ov : Kqv3.Oven), vs = [.ref o, .ref g] ∧ OvR K H o M wc s ∧ Stt M wc s ov ∧ SqL K H g [.ref l] ∧ SqL K H l (ts.map nV) ∧ ts.length ≤ 60 ∧
  ∀ (H' : Hp) (q : Addr), Same H H' → H q = none → H' q = some (.lst (ansOf ov (c ts))) → Q (.ref q) H'
theorem parts_last {K : PySem.W.Frag} {H : Hp} {as : List Addr} {M : Mo} {wc : Nat × Nat} {ts : List Nat} (h : PartsAt K H as (trail M wc ts)) : ∃ a, atI (as.map V.ref) (-1) = some (V.ref a) ∧ PartAt K H a (endP M wc ts) := by
  obtain ⟨a, ha, pa⟩ := h.at_ ts.length _ (trail_last M ts wc)
  have la : as.length = ts.length + 1 := by rw [h.len, trail_len]
  refine ⟨a, ?_, pa⟩
  have es : as = as.take ts.length ++ [a] := by rw [← take_snoc ha, List.take_of_length_le (by omega)]
  rw [es, List.map_append]
  exact atI_last _ _
theorem after_pair {M : Mo} {wc : Nat × Nat} {s : Nat} {ov : Kqv3.Oven} (t : Stt M wc s ov) (n : Nat) : endP M wc (List.replicate n s) = ((Kqv3.after ov n ov.part).warm, (Kqv3.after ov n ov.part).cure) := by
  have := endP_rep t.m n ov.part
  rw [t.part] at this ⊢
  exact this
theorem trail_at {M : Mo} {wc : Nat × Nat} {s : Nat} {ov : Kqv3.Oven} (t : Stt M wc s ov) {n i : Nat} (h : i ≤ n) : (trail M wc (List.replicate n s))[i]? = some ((Kqv3.after ov i ov.part).warm, (Kqv3.after ov i ov.part).cure) := by
  have := trail_rep t.m n ov.part i h
  rw [t.part] at this ⊢
  exact this
theorem ans_would {ov : Kqv3.Oven} {n : Nat} : ansOf ov (.would n) = if 300 < n then [V.int (-22)] else [nV (Kqv3.after ov n ov.part).warm, nV (Kqv3.after ov n ov.part).cure] := by
  by_cases h : 300 < n <;> simp [ansOf, Kqv3.step, Kqv3Neutral.tell, nV, h]
theorem ans_hottest {ov : Kqv3.Oven} {n : Nat} : ansOf ov (.hottest n) = if 300 < n then [V.int (-22)] else [nV (Kqv3.hottest ov n ov.part)] := by
  by_cases h : 300 < n <;> simp [ansOf, Kqv3.step, Kqv3Neutral.tell, nV, h]
theorem ans_left {ov : Kqv3.Oven} : ansOf ov .left = match Kqv3.left ov ov.part 300 with
    | none => [V.int (-33)]
    | some n => [nV n] := by
  unfold ansOf Kqv3.step
  dsimp only
  cases Kqv3.left ov ov.part 300 <;> rfl
theorem ans_cooled {ov : Kqv3.Oven} {w : Nat} : ansOf ov (.cooled w) = if 300 < w then [V.int (-22)] else match Kqv3.cooled ov ov.part w 300 with
    | none => [V.int (-33)]
    | some n => [nV n] := by
  unfold ansOf Kqv3.step
  dsimp only
  by_cases h : 300 < w
  · rw [if_pos h, if_pos h]
    rfl
  · rw [if_neg h, if_neg h]
    cases Kqv3.cooled ov ov.part w 300 <;> rfl
theorem ans_cured {ov : Kqv3.Oven} : ansOf ov .cured = [if ov.part.cure = 10000 then V.int 1 else V.int 0, nV ov.part.cure] := by
  unfold ansOf Kqv3.step Kqv3.CURED
  dsimp only
  by_cases h : ov.part.cure = 10000
  · rw [if_pos h, if_pos h]
    rfl
  · rw [if_neg h, if_neg h]
    rfl
theorem ans_run {ov : Kqv3.Oven} {l : List Nat} : ansOf ov (.run l) = if 30 < l.length then [V.int (-22)] else match Kqv3.run ov l ov.part with
    | none => [V.int (-62)]
    | some p => [nV p.warm, nV p.cure] := by
  unfold ansOf Kqv3.step
  dsimp only
  by_cases h : 30 < l.length
  · rw [if_pos h, if_pos h]
    rfl
  · rw [if_neg h, if_neg h]
    cases Kqv3.run ov l ov.part <;> rfl

section
variable {P : Program} {w : World} {K : PySem.W.Frag} {mg : Str → Option Value} {base : Heap}
theorem sc_would : FnScope ["oven", "given", "minutes"] ["oven", "given"] (defScope s_would) := ⟨rfl, rfl, rfl, by decide +kernel, rfl, by decide +kernel, by decide +kernel⟩
theorem has_would (g1 : GInt mg "MOST_MINUTES" 300) (g2 : GInt mg "OUT_OF_BOUNDS" (-22)) (h1 : Has P w K mg base "course_held" ["oven", "minutes"] 5 (spHeld K)) (h2 : Has P w K mg base "told_of" ["part"] 1 (spTold K))
    (D : Def K mg "would" s_would ["oven", "given"]) : Has P w K mg base "would" ["oven", "given"] 6 (spLook1 K .would) := D.has fun f fd F => by
  refine F.ok sc_would (fun vs H Q E h => ?_) (fun cdv A outer s H vs Q E hr h => ?_)
  · obtain ⟨o, g, M, wc, s, n, ov, rfl, _⟩ := h
    rfl
  · obtain ⟨o, g, M, wc, s, n, ov, rfl, hO, t, hg, k⟩ := h
    refine ⟨_, pss_cons (ps_set (i := 2) sc_would.nd rfl (Or.inl rfl) (pe_ix ix_list (pv 1) pe_int (fun _ _ => rfl)))
      (pss_cons (ps_if (pt_cmpR op_gt (pv 2) (pe_gint g1 rfl) (nomark _)) (pss_one (ps_ret (pe_lst (pa_cons (pe_gint g2 rfl) pa_nil)))) pss_nil)
      (pss_one (ps_ret (pe_callH h2 (hr.mono (by decide)) rfl (pa_cons (pe_ix ix_list (pe_callH h1 hr rfl (pa_cons (pv 0) (pa_cons (pv 2) pa_nil))) (pe_un un_neg pe_int) (fun _ _ => rfl)) pa_nil))))), ?_⟩
    refine ⟨_, rfl, g, _, _, nV n, rfl, rfl, hg, rfl, ?_⟩
    refine ⟨_, rfl, _, _, rfl, rfl, _, rfl, ?_⟩
    refine ite2 (fun c => ?_) (fun c => ?_)
    · have c : 300 < n := by have := of_decide_eq_true c; omega
      refine ⟨(by show 1 ≤ sizeLine; decide), fun q hq => k _ q (Same.upd hq) hq ?_⟩
      rw [upd_same, ans_would, if_pos c]
    · have c : ¬ 300 < n := fun z => c (decide_eq_true (by omega))
      refine ⟨_, rfl, _, rfl, o, M, wc, s, n, rfl, hO, t.ok, by omega, fun H1 q as s1 hq hq' hA => ?_⟩
      obtain ⟨a, ha, pa⟩ := parts_last hA
      refine ⟨_, rfl, q, _, _, V.ref a, rfl, rfl, SqL.of hq', ha, a, _, rfl, pa, fun H2 q2 s2 hq2 hq2' => ?_⟩
      refine k H2 q2 (s1.trans s2) (s1.free hq2) ?_
      rw [hq2', ans_would, if_neg c, after_pair t]

theorem sc_hottest : FnScope ["oven", "given", "minutes", "part"] ["oven", "given"] (defScope s_hottest) := ⟨rfl, rfl, rfl, by decide +kernel, rfl, by decide +kernel, by decide +kernel⟩
theorem has_hottest (zmax : mg "max" = none) (g1 : GInt mg "MOST_MINUTES" 300) (g2 : GInt mg "OUT_OF_BOUNDS" (-22)) (h1 : Has P w K mg base "course_held" ["oven", "minutes"] 5 (spHeld K))
    (D : Def K mg "hottest" s_hottest ["oven", "given"]) : Has P w K mg base "hottest" ["oven", "given"] 6 (spLook1 K .hottest) := D.has fun f fd F => by
  refine F.ok sc_hottest (fun vs H Q E h => ?_) (fun cdv A outer s H vs Q E hr h => ?_)
  · obtain ⟨o, g, M, wc, s, n, ov, rfl, _⟩ := h
    rfl
  · obtain ⟨o, g, M, wc, s, n, ov, rfl, hO, t, hg, k⟩ := h
    refine ⟨_, pss_cons (ps_set (i := 2) sc_hottest.nd rfl (Or.inl rfl) (pe_ix ix_list (pv 1) pe_int (fun _ _ => rfl)))
      (pss_cons (ps_if (pt_cmpR op_gt (pv 2) (pe_gint g1 rfl) (nomark _)) (pss_one (ps_ret (pe_lst (pa_cons (pe_gint g2 rfl) pa_nil)))) pss_nil)
      (pss_one (ps_ret (pe_lst (pa_cons (pe_callB (cr_max rfl) rfl zmax b_max (pa_cons (pe_lc (te := tFl K (tVar 3) "warmth") rfl sc_hottest.nd (pi_list (pe_callH h1 hr rfl (pa_cons (pv 0) (pa_cons (pv 2) pa_nil))))
        (blkOk_by (own := [("part", 3)]) (by rfl)) (fun s H C cl fp => pg_name (i := 3) sc_hottest.nd rfl (Or.inl rfl) (Or.inr rfl))
        (fun _ _ _ _ _ => pts_nil) (fun _ _ _ _ _ => pe_fl (pv 3))) pa_nil)) pa_nil))))), ?_⟩
    refine ⟨_, rfl, g, _, _, nV n, rfl, rfl, hg, rfl, ?_⟩
    refine ⟨_, rfl, _, _, rfl, rfl, _, rfl, ?_⟩
    refine ite2 (fun c => ?_) (fun c => ?_)
    · have c : 300 < n := by have := of_decide_eq_true c; omega
      refine ⟨(by show 1 ≤ sizeLine; decide), fun q hq => k _ q (Same.upd hq) hq ?_⟩
      rw [upd_same, ans_hottest, if_pos c]
    · have c : ¬ 300 < n := fun z => c (decide_eq_true (by omega))
      refine ⟨_, rfl, _, rfl, o, M, wc, s, n, rfl, hO, t.ok, by omega, fun H1 q as s1 hq hq' hA => ?_⟩
      refine ⟨q, rfl, ⟨_, SqL.of hq'⟩, fun D hD => ?_⟩
      generalize htr : trail M wc (List.replicate n s) = tr at hA
      have ltr : tr.length = n + 1 := by rw [← htr, trail_len, List.length_replicate]
      refine lc_list (K := K) (a := q) (xs := as.map V.ref)
        (fun i H' => Same H1 H' ∧ H' D = some (.lst (((tr.take i).map fun wc => wc.1).map nV)))
        ⟨Same.upd hD, upd_same⟩ (fun i H' _ ⟨s2, _⟩ => SqL.of (s2 _ _ hq')) ?_ ?_
      · rintro i x H' hx ⟨s2, hD'⟩
        obtain ⟨a, ha, rfl⟩ := at_map hx
        have hil : i < tr.length := by rw [← hA.len]; exact (List.getElem?_eq_some_iff.mp ha).1
        have hti : tr[i]? = some tr[i] := by simp [hil]
        obtain ⟨a', ha', pa⟩ := hA.at_ i tr[i] hti
        rw [ha] at ha'
        have ea : a = a' := Option.some.inj ha'
        subst ea
        refine ⟨rfl, _, rfl, a, _, rfl, (pa.same s2).warmth, _, hD', ?_, Same.updU hD s2, ?_⟩
        · rw [List.length_map, List.length_map, List.length_take]
          exact Nat.lt_of_le_of_lt (Nat.min_le_right _ _) (Nat.lt_of_le_of_lt (show tr.length ≤ 400 by omega) (by decide))
        · rw [upd_same, take_snoc hti, List.map_append, List.map_append]
          rfl
      · rintro H2 ⟨s2, hD'⟩
        rw [List.length_map, hA.len, List.take_length, map_nV] at hD'
        refine ⟨D, _, rfl, SqL.of hD', (by rw [List.length_map, List.length_map, ltr]; omega), fun m hm hle => ?_⟩
        have hh := hottest_eq t.m n ov.part
        have em : m = (Kqv3.hottest ov n ov.part : Int) := by
          rw [t.part] at hh ⊢
          have h1 : Kqv3.hottest ov n ⟨wc.1, s, wc.2⟩ ∈ tr.map (·.1) := by rw [← htr]; exact hh.1
          have h2 : ∀ y ∈ tr.map (·.1), y ≤ Kqv3.hottest ov n ⟨wc.1, s, wc.2⟩ := by rw [← htr]; exact hh.2
          obtain ⟨x, hx, rfl⟩ := List.mem_map.mp hm
          have a1 := h2 x hx
          have a2 := hle _ (List.mem_map.mpr ⟨_, h1, rfl⟩)
          omega
        subst em
        refine ⟨(by show 1 ≤ sizeLine; decide), fun q2 hq2 => ?_⟩
        have s12 := s1.trans s2
        refine k _ q2 (s12.trans (Same.upd hq2)) (s12.free hq2) ?_
        rw [upd_same, ans_hottest, if_neg c]
        rfl

theorem sc_left : FnScope ["oven", "given", "minute", "part"] ["oven", "given"] (defScope s_left) := ⟨rfl, rfl, rfl, by decide +kernel, rfl, by decide +kernel, by decide +kernel⟩
theorem has_left (zenum : mg "enumerate" = none) (g1 : GInt mg "MOST_MINUTES" 300) (g2 : GInt mg "NOT_IN_TIME" (-33)) (h1 : Has P w K mg base "course_held" ["oven", "minutes"] 5 (spHeld K)) (h2 : Has P w K mg base "is_cured" ["part"] 1 (spIsCured K))
    (D : Def K mg "left" s_left ["oven", "given"]) : Has P w K mg base "left" ["oven", "given"] 6 (spLook0 K .left) := D.has fun f fd F => by
  refine F.ok sc_left (fun vs H Q E h => ?_) (fun cdv A outer s H vs Q E hr h => ?_)
  · obtain ⟨o, g, M, wc, s, ov, rfl, _⟩ := h
    rfl
  · obtain ⟨o, g, M, wc, s, ov, rfl, hO, t, k⟩ := h
    refine ⟨_, pss_cons (ps_for PassesOwn.never rfl (pi_enum rfl zenum (pa_cons (pe_callH h1 hr rfl (pa_cons (pv 0) (pa_cons (pe_gint g1 rfl) pa_nil))) pa_nil)) (pg_tup rfl (pgs_cons (pg_name (i := 2) sc_left.nd rfl (Or.inl rfl)) (pgs_cons (pg_name (i := 3) sc_left.nd rfl (Or.inl rfl)) pgs_nil)))
        (pss_one (ps_if (pt_val (pe_callH h2 (hr.mono (by decide)) rfl (pa_cons (pv 3) pa_nil))) (pss_one (ps_ret (pe_lst (pa_cons (pv 2) pa_nil)))) pss_nil)))
      (pss_one (ps_ret (pe_lst (pa_cons (pe_gint g2 rfl) pa_nil)))), ?_⟩
    refine ⟨_, rfl, o, M, wc, s, 300, rfl, hO, t.ok, by omega, fun H1 q as s1 hq hq' hA => ?_⟩
    have la : as.length = 301 := by rw [hA.len, trail_len, List.length_replicate]
    refine ⟨q, _, rfl, SqL.of hq', for_enum (K := K) (a := q) (xs := as.map V.ref)
      (fun i σ H' => ∃ (x y : Option V), σ = [some (.ref o), some (.ref g), x, y] ∧ Same H1 H' ∧ ∀ j, j < i → decide (Kqv3.CURED ≤ (Kqv3.after ov j ov.part).cure) = false)
      ⟨none, none, rfl, Same.refl _, fun j hj => absurd hj (Nat.not_lt_zero _)⟩ (fun i σ H' _ ⟨_, _, _, s2, _⟩ => SqL.of (s2 _ _ hq')) ?_ ?_⟩
    · rintro i x T σ H' hx ⟨x0, y0, rfl, s2, hb⟩ hT
      obtain ⟨a, ha, rfl⟩ := at_map hx
      have hi : i < 301 := by rw [← la]; exact (List.getElem?_eq_some_iff.mp ha).1
      obtain ⟨a', ha', pa⟩ := hA.at_ i _ (trail_at t (by omega))
      rw [ha] at ha'
      have ea : a = a' := Option.some.inj ha'
      subst ea
      refine ⟨T, _, rfl, SqT.of upd_same, rfl, _, _, rfl, _, _, rfl, rfl, ?_⟩
      have s3 := s2.trans (Same.upd (o := .tup [.int (i : Nat), .ref a]) hT)
      refine ⟨_, rfl, a, _, rfl, pa.same s3, fun H3 s4 => ⟨_, rfl, ?_⟩⟩
      have s5 := s3.trans s4
      refine ite2 (fun c => ?_) (fun c => ?_)
      · refine ⟨_, rfl, (by show 1 ≤ sizeLine; decide), fun q2 hq2 => ?_⟩
        have s6 := s1.trans s5
        refine k _ q2 (s6.trans (Same.upd hq2)) (s6.free hq2) ?_
        rw [upd_same, ans_left, Kqv3.left, find_first (i := i) hi c hb]
        rfl
      · refine ⟨some (nV i), some (.ref a), rfl, s5, fun j hj => ?_⟩
        by_cases e : j = i
        · subst e
          rw [Bool.not_eq_true] at c
          exact c
        · exact hb j (by omega)
    · rintro σ H' ⟨x, y, rfl, s2, hb⟩
      rw [List.length_map, la] at hb
      refine ⟨(by show 1 ≤ sizeLine; decide), fun q2 hq2 => ?_⟩
      have s6 := s1.trans s2
      refine k _ q2 (s6.trans (Same.upd hq2)) (s6.free hq2) ?_
      rw [upd_same, ans_left, Kqv3.left, find_none hb]

theorem sc_cooled : FnScope ["oven", "given", "warmth", "minute", "part"] ["oven", "given"] (defScope s_cooled) := ⟨rfl, rfl, rfl, by decide +kernel, rfl, by decide +kernel, by decide +kernel⟩
theorem has_cooled (zenum : mg "enumerate" = none) (g0 : GInt mg "MOST_WARMTH" 300) (g1 : GInt mg "MOST_MINUTES" 300) (g2 : GInt mg "NOT_IN_TIME" (-33)) (g3 : GInt mg "OUT_OF_BOUNDS" (-22)) (h1 : Has P w K mg base "course_held" ["oven", "minutes"] 5 (spHeld K))
    (D : Def K mg "cooled" s_cooled ["oven", "given"]) : Has P w K mg base "cooled" ["oven", "given"] 6 (spLook1 K .cooled) := D.has fun f fd F => by
  refine F.ok sc_cooled (fun vs H Q E h => ?_) (fun cdv A outer s H vs Q E hr h => ?_)
  · obtain ⟨o, g, M, wc, s, n, ov, rfl, _⟩ := h
    rfl
  · obtain ⟨o, g, M, wc, s, n, ov, rfl, hO, t, hg, k⟩ := h
    refine ⟨_, pss_cons (ps_set (i := 2) sc_cooled.nd rfl (Or.inl rfl) (pe_ix ix_list (pv 1) pe_int (fun _ _ => rfl)))
      (pss_cons (ps_if (pt_cmpR op_gt (pv 2) (pe_gint g0 rfl) (nomark _)) (pss_one (ps_ret (pe_lst (pa_cons (pe_gint g3 rfl) pa_nil)))) pss_nil)
      (pss_cons (ps_for PassesOwn.never rfl (pi_enum rfl zenum (pa_cons (pe_callH h1 hr rfl (pa_cons (pv 0) (pa_cons (pe_gint g1 rfl) pa_nil))) pa_nil)) (pg_tup rfl (pgs_cons (pg_name (i := 3) sc_cooled.nd rfl (Or.inl rfl)) (pgs_cons (pg_name (i := 4) sc_cooled.nd rfl (Or.inl rfl)) pgs_nil)))
        (pss_one (ps_if (pt_cmpR op_le (pe_fl (pv 4)) (pv 2) (nomark _)) (pss_one (ps_ret (pe_lst (pa_cons (pv 3) pa_nil)))) pss_nil)))
      (pss_one (ps_ret (pe_lst (pa_cons (pe_gint g2 rfl) pa_nil)))))), ?_⟩
    refine ⟨_, rfl, g, _, _, nV n, rfl, rfl, hg, rfl, ?_⟩
    refine ⟨_, rfl, _, _, rfl, rfl, _, rfl, ?_⟩
    refine ite2 (fun c => ?_) (fun c => ?_)
    · have c : 300 < n := by have := of_decide_eq_true c; omega
      refine ⟨(by show 1 ≤ sizeLine; decide), fun q hq => k _ q (Same.upd hq) hq ?_⟩
      rw [upd_same, ans_cooled, if_pos c]
    have c : ¬ 300 < n := fun z => c (decide_eq_true (by omega))
    refine ⟨_, rfl, o, M, wc, s, 300, rfl, hO, t.ok, by omega, fun H1 q as s1 hq hq' hA => ?_⟩
    have la : as.length = 301 := by rw [hA.len, trail_len, List.length_replicate]
    refine ⟨q, _, rfl, SqL.of hq', for_enum (K := K) (a := q) (xs := as.map V.ref)
      (fun i σ H' => ∃ (x y : Option V), σ = [some (.ref o), some (.ref g), some (nV n), x, y] ∧ Same H1 H' ∧ ∀ j, j < i → decide ((Kqv3.after ov j ov.part).warm ≤ n) = false)
      ⟨none, none, rfl, Same.refl _, fun j hj => absurd hj (Nat.not_lt_zero _)⟩ (fun i σ H' _ ⟨_, _, _, s2, _⟩ => SqL.of (s2 _ _ hq')) ?_ ?_⟩
    · rintro i x T σ H' hx ⟨x0, y0, rfl, s2, hb⟩ hT
      obtain ⟨a, ha, rfl⟩ := at_map hx
      have hi : i < 301 := by rw [← la]; exact (List.getElem?_eq_some_iff.mp ha).1
      obtain ⟨a', ha', pa⟩ := hA.at_ i _ (trail_at t (by omega))
      rw [ha] at ha'
      have ea : a = a' := Option.some.inj ha'
      subst ea
      refine ⟨T, _, rfl, SqT.of upd_same, rfl, _, _, rfl, _, _, rfl, rfl, ?_⟩
      have s3 := s2.trans (Same.upd (o := .tup [.int (i : Nat), .ref a]) hT)
      refine ⟨_, rfl, a, _, rfl, (pa.same s3).warmth, _, rfl, _, _, rfl, rfl, _, rfl, ?_⟩
      refine ite2 (fun c2 => ?_) (fun c2 => ?_)
      · have c2 : decide ((Kqv3.after ov i ov.part).warm ≤ n) = true := decide_eq_true (by have := of_decide_eq_true c2; omega)
        refine ⟨_, rfl, (by show 1 ≤ sizeLine; decide), fun q2 hq2 => ?_⟩
        have s6 := s1.trans s3
        refine k _ q2 (s6.trans (Same.upd hq2)) (s6.free hq2) ?_
        rw [upd_same, ans_cooled, if_neg c, Kqv3.cooled, find_first (i := i) hi c2 hb]
        rfl
      · have c2 : decide ((Kqv3.after ov i ov.part).warm ≤ n) = false := decide_eq_false fun z => c2 (decide_eq_true (by omega))
        refine ⟨some (nV i), some (.ref a), rfl, s3, fun j hj => ?_⟩
        by_cases e : j = i
        · subst e
          exact c2
        · exact hb j (by omega)
    · rintro σ H' ⟨x, y, rfl, s2, hb⟩
      rw [List.length_map, la] at hb
      refine ⟨(by show 1 ≤ sizeLine; decide), fun q2 hq2 => ?_⟩
      have s6 := s1.trans s2
      refine k _ q2 (s6.trans (Same.upd hq2)) (s6.free hq2) ?_
      rw [upd_same, ans_cooled, if_neg c, Kqv3.cooled, find_none hb]

theorem sc_cured : FnScope ["oven", "given"] ["oven", "given"] (defScope s_cured) := ⟨rfl, rfl, rfl, by decide +kernel, rfl, by decide +kernel, by decide +kernel⟩
theorem has_cured (h1 : Has P w K mg base "is_cured" ["part"] 1 (spIsCured K)) (D : Def K mg "cured" s_cured ["oven", "given"]) : Has P w K mg base "cured" ["oven", "given"] 2 (spLook0 K .cured) := D.has fun f fd F => by
  refine F.ok sc_cured (fun vs H Q E h => ?_) (fun cdv A outer s H vs Q E hr h => ?_)
  · obtain ⟨o, g, M, wc, s, ov, rfl, _⟩ := h
    rfl
  · obtain ⟨o, g, M, wc, s, ov, rfl, hO, t, k⟩ := h
    obtain ⟨_, ⟨p, fp, hP⟩, _⟩ := hO
    refine ⟨_, pss_one (ps_ret (pe_lst (pa_cons (pe_ifExp (pt_val (pe_callH h1 hr rfl (pa_cons (pe_fl (pv 0)) pa_nil))) pe_int pe_int) (pa_cons (pe_fl (pe_fl (pv 0))) pa_nil)))), ?_⟩
    refine ⟨_, rfl, o, _, rfl, fp, p, _, rfl, hP, fun H1 s1 => ⟨_, rfl, ?_⟩⟩
    have ec : ov.part.cure = wc.2 := by rw [t.part]
    have fin : ∀ (q : Addr) (v : V), H1 q = none → v = (if ov.part.cure = 10000 then V.int 1 else V.int 0) → Q (.ref q) (upd H1 q (.lst [v, nV wc.2])) := fun q v hq e => by
      refine k _ q (s1.trans (Same.upd hq)) (s1.free hq) ?_
      rw [upd_same, ans_cured, e, ec]
    have hc := t.cure
    refine ite2 (fun c => ?_) (fun c => ?_)
    · have c := of_decide_eq_true c
      refine ⟨_, rfl, o, _, rfl, fp.same s1, p, _, rfl, (hP.same s1).cure, (by show 2 ≤ sizeLine; decide), fun q hq => fin q _ hq ?_⟩
      rw [if_pos (by omega)]
    · refine ⟨_, rfl, o, _, rfl, fp.same s1, p, _, rfl, (hP.same s1).cure, (by show 2 ≤ sizeLine; decide), fun q hq => fin q _ hq ?_⟩
      rw [if_neg (fun z => c (decide_eq_true (by omega)))]

theorem hot_trail {M : Mo} {wc : Nat × Nat} {l : List Nat} (h : wc.1 ≤ M.most) : hotB M (trail M wc l) = hotB M (trailT M wc l) := by
  rw [trail_cons]
  unfold hotB
  rw [List.any_cons, decide_eq_false (by omega)]
  rfl
theorem sc_run : FnScope ["oven", "given", "programme", "parts"] ["oven", "given"] (defScope s_run) := ⟨rfl, rfl, rfl, by decide +kernel, rfl, by decide +kernel, by decide +kernel⟩
theorem has_run (zlen : mg "len" = none) (g1 : GInt mg "LONGEST_PROGRAMME" 30) (g2 : GInt mg "OUT_OF_BOUNDS" (-22)) (g3 : GInt mg "DOES_NOT_DO" (-62)) (h1 : Has P w K mg base "course_that_does" ["oven", "programme"] 5 (spDoes K)) (h2 : Has P w K mg base "told_of" ["part"] 1 (spTold K))
    (D : Def K mg "run" s_run ["oven", "given"]) : Has P w K mg base "run" ["oven", "given"] 6 (spLookL K .run) := D.has fun f fd F => by
  refine F.ok sc_run (fun vs H Q E h => ?_) (fun cdv A outer s H vs Q E hr h => ?_)
  · obtain ⟨o, g, l, M, wc, s, ts, ov, rfl, _⟩ := h
    rfl
  · obtain ⟨o, g, l, M, wc, s, ts, ov, rfl, hO, t, hg, hl, hlen, k⟩ := h
    refine ⟨_, pss_cons (ps_set (i := 2) sc_run.nd rfl (Or.inl rfl) (pe_ix ix_list (pv 1) pe_int (fun _ _ => rfl)))
      (pss_cons (ps_if (pt_cmpR op_gt (pe_callB call_len_seq rfl zlen b_len (pa_cons (pv 2) pa_nil)) (pe_gint g1 rfl) (nomark _)) (pss_one (ps_ret (pe_lst (pa_cons (pe_gint g2 rfl) pa_nil)))) pss_nil)
      (pss_cons (ps_set (i := 3) sc_run.nd rfl (Or.inl rfl) (pe_callH h1 hr rfl (pa_cons (pv 0) (pa_cons (pv 2) pa_nil))))
      (pss_cons (ps_if (pt_cmp (pc_isN (pv 3))) (pss_one (ps_ret (pe_lst (pa_cons (pe_gint g3 rfl) pa_nil)))) pss_nil)
      (pss_one (ps_ret (pe_callH h2 (hr.mono (by decide)) rfl (pa_cons (pe_ix ix_list (pv 3) (pe_un un_neg pe_int) (fun _ _ => rfl)) pa_nil))))))), ?_⟩
    refine ⟨_, rfl, g, _, _, V.ref l, rfl, rfl, hg, rfl, ?_⟩
    refine ⟨_, rfl, l, _, rfl, .inl hl, _, _, rfl, rfl, _, rfl, ?_⟩
    refine ite2 (fun c => ?_) (fun c => ?_)
    · have c : 30 < ts.length := by have := of_decide_eq_true c; rw [List.length_map] at this; omega
      refine ⟨(by show 1 ≤ sizeLine; decide), fun q hq => k _ q (Same.upd hq) hq ?_⟩
      rw [upd_same, ans_run, if_pos c]
    have c : ¬ 30 < ts.length := fun z => c (decide_eq_true (by rw [List.length_map]; omega))
    have hrun := run_eq t.m ts ov.part
    have er : ov.part = ⟨wc.1, s, wc.2⟩ := t.part
    rw [er] at hrun
    have hht := hot_trail (l := ts) t.hot
    refine ⟨_, rfl, _, rfl, o, l, M, wc, s, ts, rfl, hO, t.ok, hl, by omega, fun H1 s1 hb => ?_, fun H1 q as s1 hb hq hq' hA => ?_⟩
    · refine ⟨_, rfl, _, rfl, ?_⟩
      refine iteT ?_
      refine ⟨(by show 1 ≤ sizeLine; decide), fun q hq => k _ q (s1.trans (Same.upd hq)) (s1.free hq) ?_⟩
      rw [upd_same, ans_run, if_neg c, er]
      rcases hrun with ⟨h3, h4, _⟩ | ⟨_, h5⟩
      · rw [hht, show turnB M s ts = true from h3, show hotB M (trailT M wc ts) = false from h4] at hb
        cases hb
      · rw [h5]
    · refine ⟨_, rfl, _, rfl, ?_⟩
      refine iteF ?_
      obtain ⟨a, ha, pa⟩ := parts_last hA
      refine ⟨_, rfl, _, rfl, q, _, _, V.ref a, rfl, rfl, SqL.of hq', ha, a, _, rfl, pa, fun H2 q2 s2 hq2 hq2' => ?_⟩
      refine k H2 q2 (s1.trans s2) (s1.free hq2) ?_
      rw [hq2', ans_run, if_neg c, er]
      rcases hrun with ⟨_, _, p, h5, h6, _⟩ | ⟨h3, _⟩
      · rw [h5]
        have h7 : (p.warm, p.cure) = endP M wc ts := h6
        rw [← h7]
      · rw [hht] at hb
        rcases h3 with z | z
        · rw [show turnB M s ts = false from z] at hb
          cases hb
        · rw [show hotB M (trailT M wc ts) = true from z, Bool.and_comm] at hb
          cases hb
end
end Pw
end
section
set_option Elab.async false
set_option linter.all false
set_option maxRecDepth 100000
set_option maxHeartbeats 2000000
namespace Pw
/-! ### the request, call by call -/
theorem whole_id (c : List (List Int)) : PyKqv3.whole c = c := by
  unfold PyKqv3.whole
  split <;> rfl
theorem map_whole (cs : List (List (List Int))) : cs.map PyKqv3.whole = cs := by
  induction cs with
  | nil => rfl
  | cons c cs ih => rw [List.map_cons, whole_id, ih]
theorem shape_cases {p : Int} {n k : Nat} (h : PyKqv3.shape p = some (n, k)) : (p = 0 ∧ n = 5 ∧ k = 2) ∨ ((p = 1 ∨ p = 2 ∨ p = 3 ∨ p = 4 ∨ p = 6 ∨ p = 10 ∨ p = 11 ∨ p = 12 ∨ p = 14 ∨ p = 15 ∨ p = 16 ∨ p = 17) ∧ n = 1 ∧ k = 0) ∨
    ((p = 5 ∨ p = 7 ∨ p = 13 ∨ p = 18) ∧ n = 0 ∧ k = 0) ∨ ((p = 8 ∨ p = 9) ∧ n = 0 ∧ k = 1) := by
  unfold PyKqv3.shape at h
  by_cases h0 : p = 0
  · rw [if_pos h0] at h
    cases h
    omega
  rw [if_neg h0] at h
  by_cases h1 : p = 1
  · rw [if_pos h1] at h
    cases h
    omega
  rw [if_neg h1] at h
  by_cases h2 : p = 2
  · rw [if_pos h2] at h
    cases h
    omega
  rw [if_neg h2] at h
  by_cases h3 : p = 3
  · rw [if_pos h3] at h
    cases h
    omega
  rw [if_neg h3] at h
  by_cases h4 : p = 4
  · rw [if_pos h4] at h
    cases h
    omega
  rw [if_neg h4] at h
  by_cases h5 : p = 5
  · rw [if_pos h5] at h
    cases h
    omega
  rw [if_neg h5] at h
  by_cases h6 : p = 6
  · rw [if_pos h6] at h
    cases h
    omega
  rw [if_neg h6] at h
  by_cases h7 : p = 7
  · rw [if_pos h7] at h
    cases h
    omega
  rw [if_neg h7] at h
  by_cases h8 : p = 8
  · rw [if_pos h8] at h
    cases h
    omega
  rw [if_neg h8] at h
  by_cases h9 : p = 9
  · rw [if_pos h9] at h
    cases h
    omega
  rw [if_neg h9] at h
  by_cases h10 : p = 10
  · rw [if_pos h10] at h
    cases h
    omega
  rw [if_neg h10] at h
  by_cases h11 : p = 11
  · rw [if_pos h11] at h
    cases h
    omega
  rw [if_neg h11] at h
  by_cases h12 : p = 12
  · rw [if_pos h12] at h
    cases h
    omega
  rw [if_neg h12] at h
  by_cases h13 : p = 13
  · rw [if_pos h13] at h
    cases h
    omega
  rw [if_neg h13] at h
  by_cases h14 : p = 14
  · rw [if_pos h14] at h
    cases h
    omega
  rw [if_neg h14] at h
  by_cases h15 : p = 15
  · rw [if_pos h15] at h
    cases h
    omega
  rw [if_neg h15] at h
  by_cases h16 : p = 16
  · rw [if_pos h16] at h
    cases h
    omega
  rw [if_neg h16] at h
  by_cases h17 : p = 17
  · rw [if_pos h17] at h
    cases h
    omega
  rw [if_neg h17] at h
  by_cases h18 : p = 18
  · rw [if_pos h18] at h
    cases h
    omega
  rw [if_neg h18] at h
  cases h
theorem calls_cons {f : Nat} {t : List Int} {cs : List (List (List Int))} (h : PyFlat.calls PyKqv3.shape f t = some cs) :
    (t = [] ∧ cs = []) ∨ ∃ f' p r c t' cs', t = p :: r ∧ PyFlat.call PyKqv3.shape (p :: r) = some (c, t') ∧ PyFlat.calls PyKqv3.shape f' t' = some cs' ∧ cs = c :: cs' := by
  cases t with
  | nil =>
    rw [PyFlat.calls] at h
    cases h
    exact .inl ⟨rfl, rfl⟩
  | cons p r =>
    cases f with
    | zero =>
      rw [PyFlat.calls] at h
      cases h
    | succ f =>
      rw [PyFlat.calls] at h
      cases e : PyFlat.call PyKqv3.shape (p :: r) with
      | none => rw [e] at h; cases h
      | some q =>
        obtain ⟨c, t'⟩ := q
        rw [e] at h
        dsimp only at h
        cases e2 : PyFlat.calls PyKqv3.shape f t' with
        | none => rw [e2] at h; cases h
        | some cs' =>
          rw [e2] at h
          cases h
          exact .inr ⟨f, p, r, c, t', cs', rfl, e, e2, rfl⟩
theorem call_parts {p : Int} {r t' : List Int} {c : List (List Int)} (h : PyFlat.call PyKqv3.shape (p :: r) = some (c, t')) :
    ∃ n k rows, PyKqv3.shape p = some (n, k) ∧ n ≤ r.length ∧ PyFlat.rows k (r.drop n) = some (rows, t') ∧ c = (p :: r.take n) :: rows := by
  rw [PyFlat.call] at h
  cases e : PyKqv3.shape p with
  | none => rw [e] at h; cases h
  | some q =>
    obtain ⟨n, k⟩ := q
    rw [e] at h
    dsimp only at h
    split at h
    · cases h
    · rename_i hn
      cases e2 : PyFlat.rows k (r.drop n) with
      | none => rw [e2] at h; cases h
      | some q2 =>
        obtain ⟨rows, t⟩ := q2
        rw [e2] at h
        cases h
        exact ⟨n, k, rows, rfl, by omega, e2, rfl⟩
theorem played_eq : ∀ (cs : List Kqv3Neutral.Call_) (s : Kqv3Neutral.S), PyFlat.played Kqv3Neutral.step s cs = Kqv3Neutral.answersFrom s cs
  | [], _ => rfl
  | c :: cs, s => by
    show (Kqv3Neutral.step s c).2 :: PyFlat.played Kqv3Neutral.step (Kqv3Neutral.step s c).1 cs = (Kqv3Neutral.step s c).2 :: Kqv3Neutral.answersFrom (Kqv3Neutral.step s c).1 cs
    rw [played_eq cs]
theorem played_len : ∀ (cs : List Kqv3Neutral.Call_) (s : Kqv3Neutral.S), (PyFlat.played Kqv3Neutral.step s cs).length = cs.length
  | [], _ => rfl
  | c :: cs, s => by
    show (PyFlat.played Kqv3Neutral.step (Kqv3Neutral.step s c).1 cs).length + 1 = cs.length + 1
    rw [played_len cs]
theorem foldl_add : ∀ (l : List Nat) (a : Nat), l.foldl (fun x y : Nat => x + y) a = a + l.foldl (fun x y : Nat => x + y) 0
  | [], a => rfl
  | x :: l, a => by
    rw [List.foldl_cons, List.foldl_cons, foldl_add l (a + x), foldl_add l (0 + x)]
    omega
theorem told_len : ∀ (l : List (List Int)), (PyFlat.told l).length = (l.map List.length).foldl (fun x y : Nat => x + y) 0 + l.length
  | [] => rfl
  | a :: l => by
    have e : PyFlat.told (a :: l) = ((a.length : Int) :: a) ++ PyFlat.told l := rfl
    rw [e, List.length_append, told_len l, List.map_cons, List.foldl_cons, foldl_add _ (0 + a.length), List.length_cons, List.length_cons]
    omega
/-- what is known of a request that is asked -/
theorem asked_parts {ns : List Int} (h : PyKqv3.answers_asked ns = true) : ∃ cs, PyFlat.calls PyKqv3.shape ns.length ns = some cs ∧ PyInside.calls PyKqv3.bound cs = true ∧
    PyKqv3.answers ns = PyFlat.told (PyFlat.played Kqv3Neutral.step Kqv3Neutral.start cs) ∧ (PyKqv3.answers ns).length ≤ 1000200 := by
  unfold PyKqv3.answers_asked at h
  cases e : PyFlat.calls PyKqv3.shape ns.length ns with
  | none => rw [e] at h; cases h
  | some cs =>
    rw [e] at h
    dsimp only at h
    rw [map_whole] at h
    simp only [Bool.and_eq_true] at h
    obtain ⟨⟨⟨⟨h1, h2⟩, h3⟩, h4⟩, h5⟩ := h
    have ea : PyKqv3.answers ns = PyFlat.told (PyFlat.played Kqv3Neutral.step Kqv3Neutral.start cs) := by
      unfold PyKqv3.answers PyKqv3.calls
      rw [e]
      dsimp only
      rw [map_whole]
    refine ⟨cs, rfl, h3, ea, ?_⟩
    unfold Kqv3Neutral.asked at h4
    simp only [Bool.and_eq_true] at h4
    have hf := of_decide_eq_true h4.2
    have hl : cs.length ≤ 200 := of_decide_eq_true h2
    rw [ea, told_len, played_len, played_eq]
    have : ((Kqv3Neutral.answersFrom Kqv3Neutral.start cs).map List.length).foldl (fun x y : Nat => x + y) 0 < 1000000 := hf
    omega
theorem told_cons (c : Kqv3Neutral.Call_) (cs : List Kqv3Neutral.Call_) (s : Kqv3Neutral.S) : PyFlat.told (PyFlat.played Kqv3Neutral.step s (c :: cs)) =
    (((Kqv3Neutral.step s c).2.length : Int) :: (Kqv3Neutral.step s c).2) ++ PyFlat.told (PyFlat.played Kqv3Neutral.step (Kqv3Neutral.step s c).1 cs) := rfl
end Pw
end
section
set_option Elab.async false
set_option linter.all false
set_option maxRecDepth 100000
set_option maxHeartbeats 2000000
namespace Pw
open PySem PySem.Spec L2

/-! ### a heap without one object -/
noncomputable def er (q : Addr) (H : Hp) : Hp := fun a => if a = q then none else H a
theorem er_ne {q a : Addr} {H : Hp} (h : a ≠ q) : er q H a = H a := if_neg h
theorem er_self {q : Addr} {H : Hp} : er q H q = none := if_pos rfl
theorem er_same (q : Addr) (H : Hp) : Same (er q H) H := fun b o h => by
  by_cases e : b = q
  · subst e
    rw [er_self] at h
    cases h
  · rw [er_ne e] at h
    exact h
theorem er_none {q a : Addr} {H : Hp} (h : H a = none) : er q H a = none := by
  by_cases e : a = q
  · subst e
    exact er_self
  · rw [er_ne e]
    exact h
theorem er_sb {q r : Addr} {H H' : Hp} (s : Sb r H H') : Sb r (er q H) (er q H') := fun b o h n => by
  by_cases e : b = q
  · subst e
    rw [er_self] at h
    cases h
  · rw [er_ne e] at h ⊢
    exact s b o h n
theorem er_sbq {q : Addr} {H H' : Hp} (s : Sb q H H') : Same (er q H) (er q H') := fun b o h => by
  by_cases e : b = q
  · subst e
    rw [er_self] at h
    cases h
  · rw [er_ne e] at h ⊢
    exact s b o h e
theorem er_mono {q : Addr} {H H' : Hp} (s : Same H H') : Same (er q H) (er q H') := er_sbq fun b o h _ => s b o h
theorem er_new {q : Addr} {H H' : Hp} (h : H q = none) (s : Same H H') : Same H (er q H') := fun b o e => by
  rw [er_ne (ne_of_none e h)]
  exact s b o e
theorem er_upd {q : Addr} {H : Hp} {o : HO} : er q (upd H q o) = er q H := by
  funext a
  by_cases e : a = q
  · subst e
    rw [er_self, er_self]
  · rw [er_ne e, er_ne e, upd_ne e]
theorem FldAt.er {K : PySem.W.Frag} {H : Hp} {a q : Addr} {f : Str} {v : V} (h : FldAt K H a f v) (n : a ≠ q) : FldAt K (er q H) a f v := by
  obtain ⟨C, dx, fs, h1, h2, h3, h4⟩ := h
  exact ⟨C, dx, fs, by rw [er_ne n]; exact h1, h2, h3, h4⟩
theorem FldAt.neL {K : PySem.W.Frag} {H : Hp} {a q : Addr} {f : Str} {v : V} {xs : List V} (h : FldAt K H a f v) (hq : H q = some (.lst xs)) : a ≠ q := by
  obtain ⟨C, dx, fs, h1, _⟩ := h
  exact ne_of h1 hq (by intro z; cases z)
theorem FldAt.ne0 {K : PySem.W.Frag} {H : Hp} {a q : Addr} {f : Str} {v : V} (h : FldAt K H a f v) (hq : H q = none) : a ≠ q := by
  obtain ⟨C, dx, fs, h1, _⟩ := h
  exact ne_of_none h1 hq
theorem PartAt.er {K : PySem.W.Frag} {H : Hp} {a q : Addr} {wc : Nat × Nat} (h : PartAt K H a wc) (n : a ≠ q) : PartAt K (er q H) a wc := ⟨h.warmth.er n, h.cure.er n⟩

/-! ### a whole step -/
def nextM (M : Mo) (s : Nat) : List Nat := ((if M.step ≤ s then [s - M.step] else []) ++ [s, s + M.step]).filter fun x => decide (M.low ≤ x ∧ x ≤ M.high)
def spIsPointI (K : PySem.W.Frag) : Sp := fun vs H Q _ => ∃ (m : Addr) (M : Mo) (s : Int), vs = [.ref m, .int s] ∧ MouldAt K H m M ∧ ∀ H', Same H H' → Q (.bl (decide ((M.low : Int) ≤ s ∧ s ≤ (M.high : Int)))) H'
def spPoints (K : PySem.W.Frag) : Sp := fun vs H Q _ => ∃ (m : Addr) (M : Mo) (s : Nat), vs = [.ref m, nV s] ∧ MouldAt K H m M ∧ ∀ (H' : Hp) (q : Addr), Same H H' → H q = none → H' q = some (.lst ((nextM M s).map nV)) → Q (.ref q) H'
theorem nextM_int (M : Mo) (s : Nat) : (([(s : Int) - (M.step : Int), (s : Int), (s : Int) + (M.step : Int)]).filter fun x => decide ((M.low : Int) ≤ x ∧ x ≤ (M.high : Int))).map V.int = (nextM M s).map nV := by
  have key : ∀ l : List Nat, ((l.map fun n : Nat => (n : Int)).filter fun x => decide ((M.low : Int) ≤ x ∧ x ≤ (M.high : Int))).map V.int = (l.filter fun x => decide (M.low ≤ x ∧ x ≤ M.high)).map nV := by
    intro l
    induction l with
    | nil => rfl
    | cons a l ih =>
      rw [List.map_cons, List.filter_cons, List.filter_cons]
      by_cases c : M.low ≤ a ∧ a ≤ M.high
      · rw [if_pos (decide_eq_true (by omega)), if_pos (decide_eq_true c), List.map_cons, List.map_cons, ih]
        rfl
      · rw [if_neg (by rw [decide_eq_true_eq]; omega), if_neg (by rw [decide_eq_true_eq]; exact c), ih]
  unfold nextM
  by_cases h : M.step ≤ s
  · rw [if_pos h, ← key]
    have e : (s : Int) - (M.step : Int) = ((s - M.step : Nat) : Int) := by omega
    rw [e]
    rfl
  · rw [if_neg h, ← key, List.filter_cons, if_neg (by rw [decide_eq_true_eq]; omega)]
    rfl
theorem nextM_len (M : Mo) (s : Nat) : (nextM M s).length ≤ 3 := by
  unfold nextM
  refine Nat.le_trans (List.length_filter_le _ _) ?_
  by_cases h : M.step ≤ s
  · rw [if_pos h]
    exact Nat.le_refl _
  · rw [if_neg h]
    exact Nat.le_succ _

section
variable {P : Program} {w : World} {K : PySem.W.Frag} {mg : Str → Option Value} {base : Heap}
theorem has_is_pointI (D : Def K mg "is_point" s_is_point ["mould", "point"]) : Has P w K mg base "is_point" ["mould", "point"] 1 (spIsPointI K) := D.has fun f fd F => by
  refine F.ok sc_is_point (fun vs H Q E h => ?_) (fun cdv A outer s H vs Q E hr h => ?_)
  · obtain ⟨m, M, s, rfl, _⟩ := h
    rfl
  · obtain ⟨m, M, s, rfl, hM, k⟩ := h
    refine ⟨_, pss_one (ps_ret (pe_chain op_le op_le (pe_fl (pv 0)) (pv 1) (pe_fl (pv 0)))), ?_⟩
    refine ⟨_, rfl, m, _, rfl, hM.low, _, rfl, _, _, rfl, rfl, _, rfl, ?_⟩
    have k' := k H (Same.refl H)
    rw [Bool.decide_and] at k'
    by_cases hh : (M.low : Int) ≤ s
    · rw [if_pos (decide_eq_true hh)]
      rw [decide_eq_true hh, Bool.true_and] at k'
      exact ⟨_, rfl, m, _, rfl, hM.high, _, _, rfl, rfl, k'⟩
    · rw [if_neg (by rw [decide_eq_false hh]; decide)]
      rw [decide_eq_false hh, Bool.false_and] at k'
      exact k'
theorem sc_points_by_whole_steps : FnScope ["mould", "point", "others", "other"] ["mould", "point"] (defScope s_points_by_whole_steps) := ⟨rfl, rfl, rfl, by decide +kernel, rfl, by decide +kernel, by decide +kernel⟩
theorem has_points_by_whole_steps (h1 : Has P w K mg base "is_point" ["mould", "point"] 1 (spIsPointI K)) (D : Def K mg "points_by_whole_steps" s_points_by_whole_steps ["mould", "point"]) : Has P w K mg base "points_by_whole_steps" ["mould", "point"] 2 (spPoints K) := D.has fun f fd F => by
  refine F.ok sc_points_by_whole_steps (fun vs H Q E h => ?_) (fun cdv A outer s H vs Q E hr h => ?_)
  · obtain ⟨m, M, s, rfl, _⟩ := h
    rfl
  · obtain ⟨m, M, s, rfl, hM, k⟩ := h
    refine ⟨_, pss_cons (ps_set (i := 2) sc_points_by_whole_steps.nd rfl (Or.inl rfl) (pe_tup (pa_cons (pe_op op_sub (pv 1) (pe_fl (pv 0))) (pa_cons (pv 1) (pa_cons (pe_op op_add (pv 1) (pe_fl (pv 0))) pa_nil)))))
      (pss_one (ps_ret (pe_lc (te := tVar 3) (tt := tB (tCall (spIsPointI K) [] E0 (tCons (tVar 0) (tCons (tVar 3) tNil)))) rfl sc_points_by_whole_steps.nd (pi_tup (pv 2))
        (blkOk_by (own := [("other", 3)]) (by rfl)) (fun s H C cl fp => pg_name (i := 3) sc_points_by_whole_steps.nd rfl (Or.inl rfl) (Or.inr rfl))
        (fun _ _ _ _ _ => pts_one (pt_val (pe_callH h1 hr rfl (pa_cons (pv 0) (pa_cons (pv 3) pa_nil))))) (fun _ _ _ _ _ => pv 3)))), ?_⟩
    refine ⟨_, rfl, _, rfl, m, _, rfl, hM.step, _, _, rfl, rfl, _, rfl, _, rfl, _, rfl, m, _, rfl, hM.step, _, _, rfl, rfl, (by show 3 ≤ sizeLine; decide), fun T hT => ?_⟩
    generalize hxs : [(s : Int) - (M.step : Int), (s : Int), (s : Int) + (M.step : Int)] = xs
    have lxs : xs.length = 3 := by rw [← hxs]; rfl
    have exs : [V.int ((s : Int) - (M.step : Int)), nV s, V.int ((s : Int) + (M.step : Int))] = xs.map V.int := by rw [← hxs]; rfl
    rw [exs]
    have s1 : Same H (upd H T (.tup (xs.map V.int))) := Same.upd hT
    refine ⟨_, rfl, T, rfl, ⟨_, SqT.of upd_same⟩, fun D hD => ?_⟩
    refine lc_tup (K := K) (a := T) (xs := xs.map V.int)
      (fun i H' => Same (upd H T (.tup (xs.map V.int))) H' ∧ H' D = some (.lst (((xs.take i).filter fun x => decide ((M.low : Int) ≤ x ∧ x ≤ (M.high : Int))).map V.int)))
      ⟨Same.upd hD, upd_same⟩ (fun i H' _ ⟨s2, _⟩ => SqT.of (s2 _ _ upd_same)) ?_ ?_
    · rintro i x H' hx ⟨s2, hD'⟩
      obtain ⟨a, ha, rfl⟩ := at_map hx
      refine ⟨rfl, _, rfl, _, rfl, m, M, a, rfl, hM.same (s1.trans s2), fun H2 s3 => ⟨_, rfl, ?_⟩⟩
      have eT := take_snoc ha
      by_cases c : (M.low : Int) ≤ a ∧ a ≤ (M.high : Int)
      · rw [decide_eq_true c]
        refine iteT ?_
        refine ⟨_, rfl, _, s3 _ _ hD', ?_, Same.updU hD (s2.trans s3), ?_⟩
        · rw [List.length_map]
          refine Nat.lt_of_le_of_lt (List.length_filter_le _ _) ?_
          rw [List.length_take, lxs]
          exact Nat.lt_of_le_of_lt (Nat.min_le_right _ _) (by decide)
        · rw [upd_same, eT, List.filter_append, List.map_append, List.filter_cons, if_pos (decide_eq_true c)]
          rfl
      · rw [decide_eq_false c]
        refine iteF ?_
        refine ⟨s2.trans s3, ?_⟩
        rw [s3 _ _ hD', eT, List.filter_append, List.map_append, List.filter_cons, if_neg (by rw [decide_eq_true_eq]; exact c), List.filter_nil, List.map_nil, List.append_nil]
    · rintro H' ⟨s2, hD'⟩
      rw [List.length_map, List.take_length, ← hxs, nextM_int] at hD'
      exact k H' D (s1.trans s2) (s1.free hD) hD'
end
end Pw
end
section
set_option Elab.async false
set_option linter.all false
set_option maxRecDepth 100000
set_option maxHeartbeats 2000000
namespace Pw
/-! ### the ways, beside the specification -/
structure Wy where
  prog : List Nat
  s : Nat
  wc : Nat × Nat
def ext (M : Mo) (y : Wy) (x : Nat) : Wy := ⟨y.prog ++ [x], x, tickP M y.wc x⟩
def longer1 (M : Mo) (y : Wy) (l : List Nat) : List Wy := (l.map (ext M y)).filter fun z => decide (z.wc.1 ≤ M.most)
def longer (M : Mo) (ys : List Wy) : List Wy := ys.flatMap fun y => longer1 M y (nextM M y.s)
def curB (y : Wy) : Bool := decide (10000 ≤ y.wc.2)
def iterW (M : Mo) : Nat → List Wy → List Wy
  | 0, ys => ys
  | n + 1, ys => iterW M n (longer M ys)
def soonW (M : Mo) : Nat → List Wy → Option Wy
  | 0, ys => ys.find? curB
  | n + 1, ys => match ys.find? curB with
    | some y => some y
    | none => soonW M n (longer M ys)
def better (b : Option Wy) (y : Wy) : Option Wy := match b with
  | none => some y
  | some z => if z.wc.2 < y.wc.2 then some y else some z
def bestW (ys : List Wy) : Option Wy := ys.foldl better none
theorem longer1_len (M : Mo) (y : Wy) (l : List Nat) : (longer1 M y l).length ≤ l.length := by
  unfold longer1
  exact Nat.le_trans (List.length_filter_le _ _) (by rw [List.length_map]; exact Nat.le_refl _)
theorem longer_len (M : Mo) : ∀ ys : List Wy, (longer M ys).length ≤ 3 * ys.length
  | [] => Nat.zero_le _
  | y :: ys => by
    have e : longer M (y :: ys) = longer1 M y (nextM M y.s) ++ longer M ys := List.flatMap_cons
    have h1 := Nat.le_trans (longer1_len M y (nextM M y.s)) (nextM_len M y.s)
    have h2 := longer_len M ys
    rw [e, List.length_append, List.length_cons]
    omega
theorem longer_snoc (M : Mo) (ys : List Wy) (y : Wy) : longer M (ys ++ [y]) = longer M ys ++ longer1 M y (nextM M y.s) := by
  unfold longer
  rw [List.flatMap_append, List.flatMap_cons, List.flatMap_nil, List.append_nil]
theorem longer1_snoc (M : Mo) (y : Wy) (l : List Nat) (x : Nat) : longer1 M y (l ++ [x]) = longer1 M y l ++ (if (ext M y x).wc.1 ≤ M.most then [ext M y x] else []) := by
  unfold longer1
  rw [List.map_append, List.filter_append, List.map_cons, List.filter_cons]
  by_cases c : (ext M y x).wc.1 ≤ M.most
  · rw [if_pos (decide_eq_true c), if_pos c]
    rfl
  · rw [if_neg (by rw [decide_eq_true_eq]; exact c), if_neg c]
    rfl
theorem iterW_succ (M : Mo) : ∀ (n : Nat) (ys : List Wy), iterW M (n + 1) ys = longer M (iterW M n ys)
  | 0, ys => rfl
  | n + 1, ys => iterW_succ M n (longer M ys)
theorem iterW_len (M : Mo) : ∀ (n : Nat) (ys : List Wy), (iterW M n ys).length ≤ 3 ^ n * ys.length
  | 0, ys => by
    rw [Nat.pow_zero, Nat.one_mul]
    exact Nat.le_refl _
  | n + 1, ys => by
    rw [iterW_succ]
    refine Nat.le_trans (longer_len M _) ?_
    have := iterW_len M n ys
    rw [Nat.pow_succ, Nat.mul_comm (3 ^ n) 3, Nat.mul_assoc]
    exact Nat.mul_le_mul_left 3 this
theorem best_parts : ∀ (l : List Wy), (l = [] ∧ bestW l = none) ∨ ∃ z l1 l2, bestW l = some z ∧ l = l1 ++ z :: l2 ∧ (∀ y ∈ l1, y.wc.2 < z.wc.2) ∧ ∀ y ∈ l2, y.wc.2 ≤ z.wc.2 := by
  intro l
  generalize hr : l.reverse = r
  have hl : l = r.reverse := by rw [← hr, List.reverse_reverse]
  subst hl
  clear hr
  induction r with
  | nil => exact .inl ⟨rfl, rfl⟩
  | cons y r ih =>
    rw [List.reverse_cons]
    have e : bestW (r.reverse ++ [y]) = better (bestW r.reverse) y := by
      unfold bestW
      rw [List.foldl_append]
      rfl
    rw [e]
    refine .inr ?_
    rcases ih with ⟨h1, h2⟩ | ⟨z, l1, l2, h1, h2, h3, h4⟩
    · rw [h2, h1]
      exact ⟨y, [], [], rfl, rfl, fun _ h => (by cases h), fun _ h => (by cases h)⟩
    · rw [h1, h2]
      by_cases c : z.wc.2 < y.wc.2
      · refine ⟨y, l1 ++ z :: l2, [], if_pos c, rfl, fun u hu => ?_, fun _ h => by cases h⟩
        rcases List.mem_append.mp hu with g | g
        · have := h3 u g
          omega
        · rcases List.mem_cons.mp g with g | g
          · rw [g]
            exact c
          · have := h4 u g
            omega
      · refine ⟨z, l1, l2 ++ [y], if_neg c, by simp, h3, fun u hu => ?_⟩
        rcases List.mem_append.mp hu with g | g
        · exact h4 u g
        · rw [List.mem_singleton.mp g]
          omega
theorem find_best (l : List Wy) : ((l.map fun y => (y.wc.2, y.prog)).find? fun x => (l.map fun y => (y.wc.2, y.prog)).all fun y => decide (y.1 ≤ x.1)) = (bestW l).map fun y => (y.wc.2, y.prog) := by
  rcases best_parts l with ⟨h1, h2⟩ | ⟨z, l1, l2, h1, h2, h3, h4⟩
  · rw [h2, h1]
    rfl
  · rw [h1]
    have hz : ((l.map fun y => (y.wc.2, y.prog)).all fun y => decide (y.1 ≤ z.wc.2)) = true := by
      refine List.all_eq_true.mpr fun u hu => decide_eq_true ?_
      obtain ⟨v, hv, rfl⟩ := List.mem_map.mp hu
      rw [h2] at hv
      rcases List.mem_append.mp hv with g | g
      · exact Nat.le_of_lt (h3 v g)
      · rcases List.mem_cons.mp g with g | g
        · rw [g]
          exact Nat.le_refl _
        · exact h4 v g
    have hzm : (z.wc.2, z.prog) ∈ l.map fun y => (y.wc.2, y.prog) := List.mem_map.mpr ⟨z, by rw [h2]; simp, rfl⟩
    generalize hp : (fun x : Nat × List Nat => (l.map fun y => (y.wc.2, y.prog)).all fun y => decide (y.1 ≤ x.1)) = pr
    have hpz : pr (z.wc.2, z.prog) = true := by rw [← hp]; exact hz
    have hpn : ∀ y ∈ l1, pr (y.wc.2, y.prog) = false := fun y hy => by
      rw [← hp]
      refine Bool.eq_false_iff.mpr fun g => ?_
      have g1 := of_decide_eq_true (List.all_eq_true.mp g _ hzm)
      have g2 := h3 y hy
      dsimp only at g1
      omega
    clear hp
    rw [h2, List.map_append, List.map_cons, List.find?_append]
    have e1 : (l1.map fun y => (y.wc.2, y.prog)).find? pr = none := by
      rw [List.find?_eq_none]
      intro u hu
      obtain ⟨v, hv, rfl⟩ := List.mem_map.mp hu
      rw [hpn v hv]
      decide
    rw [e1, List.find?_cons, hpz]
    rfl

section
variable {M : Mo} {o : Kqv3.Oven}
theorem next_eq (m : Match M o) (s : Nat) : Kqv3.next o s = nextM M s := by
  unfold Kqv3.next nextM
  rw [m.step]
  refine List.filter_congr fun x hx => ?_
  unfold Kqv3.may
  rw [m.low, m.high, m.step, Bool.decide_and]
  have h : max s x - min s x ≤ M.step := by
    rcases List.mem_append.mp hx with g | g
    · by_cases c : M.step ≤ s
      · rw [if_pos c] at g
        have := List.mem_singleton.mp g
        omega
      · rw [if_neg c] at g
        cases g
    · rcases List.mem_cons.mp g with g | g
      · omega
      · have := List.mem_singleton.mp g
        omega
  rw [decide_eq_true h, Bool.and_true]
theorem next_may (s x : Nat) (h : x ∈ Kqv3.next o s) : Kqv3.may o s x = true := by
  unfold Kqv3.next at h
  exact (List.mem_filter.mp h).2
def lst : Nat → List Nat → Nat
  | s, [] => s
  | _, x :: l => lst x l
theorem programs_snoc (o : Kqv3.Oven) : ∀ (n s : Nat), Kqv3.programs o (n + 1) s = (Kqv3.programs o n s).flatMap fun l => (Kqv3.next o (lst s l)).map fun x => l ++ [x]
  | 0, s => by
    simp [Kqv3.programs, lst]
    induction Kqv3.next o s with
    | nil => rfl
    | cons a l ih => simp [ih]
  | n + 1, s => by
    have e1 : Kqv3.programs o (n + 1 + 1) s = (Kqv3.next o s).flatMap fun x => (Kqv3.programs o (n + 1) x).map fun l => x :: l := rfl
    have e2 : Kqv3.programs o (n + 1) s = (Kqv3.next o s).flatMap fun x => (Kqv3.programs o n x).map fun l => x :: l := rfl
    rw [e1, e2, List.flatMap_assoc]
    congr 1
    funext x
    rw [programs_snoc o n x, List.map_flatMap, List.flatMap_map]
    congr 1
    funext l
    rw [List.map_map]
    rfl
theorem run_snoc (o : Kqv3.Oven) : ∀ (l : List Nat) (x : Nat) (p : Kqv3.Part), Kqv3.run o (l ++ [x]) p = match Kqv3.run o l p with
    | none => none
    | some q => Kqv3.run o [x] q
  | [], x, p => rfl
  | s :: l, x, p => by
    rw [List.cons_append, Kqv3.run, Kqv3.run]
    by_cases c : Kqv3.may o p.set s = true
    · rw [if_pos c, if_pos c]
      dsimp only
      by_cases c2 : (Kqv3.tick o { p with set := s }).warm ≤ o.most
      · rw [if_pos c2, if_pos c2]
        exact run_snoc o l x _
      · rw [if_neg c2, if_neg c2]
    · rw [if_neg c, if_neg c]
theorem run_set (m : Match M o) : ∀ (l : List Nat) (p q : Kqv3.Part), Kqv3.run o l p = some q → q.set = lst p.set l
  | [], p, q, h => by
    cases h
    rfl
  | s :: l, p, q, h => by
    rw [Kqv3.run] at h
    by_cases c : Kqv3.may o p.set s = true
    · rw [if_pos c] at h
      dsimp only at h
      by_cases c2 : (Kqv3.tick o { p with set := s }).warm ≤ o.most
      · rw [if_pos c2] at h
        have := run_set m l _ q h
        rw [this, tick_eq m]
        rfl
      · rw [if_neg c2] at h
        cases h
    · rw [if_neg c] at h
      cases h
def wayOf (o : Kqv3.Oven) (p : Kqv3.Part) (l : List Nat) : Option Wy := (Kqv3.run o l p).map fun q => ⟨l, q.set, (q.warm, q.cure)⟩
def waysOf (o : Kqv3.Oven) (p : Kqv3.Part) (n : Nat) : List Wy := (Kqv3.programs o n p.set).filterMap (wayOf o p)
theorem fm_flat {α β γ : Type} (f : α → Option β) (g : β → List γ) : ∀ L : List α, (L.filterMap f).flatMap g = L.flatMap fun a => match f a with
    | none => []
    | some b => g b
  | [] => rfl
  | a :: L => by
    rw [List.flatMap_cons, ← fm_flat f g L, List.filterMap_cons]
    cases f a <;> rfl
theorem flat_fm {α β γ : Type} (h : α → List β) (f : β → Option γ) : ∀ L : List α, (L.flatMap h).filterMap f = L.flatMap fun a => (h a).filterMap f
  | [] => rfl
  | a :: L => by
    rw [List.flatMap_cons, List.filterMap_append, flat_fm h f L, List.flatMap_cons]
theorem ways_one (m : Match M o) (p q : Kqv3.Part) (l : List Nat) (h : Kqv3.run o l p = some q) : ∀ L : List Nat, (∀ x ∈ L, Kqv3.may o q.set x = true) → (L.map fun x => l ++ [x]).filterMap (wayOf o p) = longer1 M ⟨l, q.set, (q.warm, q.cure)⟩ L
  | [], _ => rfl
  | x :: L, hx => by
    have ih := ways_one m p q l h L fun y hy => hx y (List.mem_cons_of_mem _ hy)
    rw [List.map_cons, List.filterMap_cons, ih]
    have e : wayOf o p (l ++ [x]) = if (tickP M (q.warm, q.cure) x).1 ≤ M.most then some (ext M ⟨l, q.set, (q.warm, q.cure)⟩ x) else none := by
      unfold wayOf
      rw [run_snoc, h]
      dsimp only
      rw [Kqv3.run, if_pos (hx x List.mem_cons_self)]
      dsimp only
      have e2 : Kqv3.tick o { q with set := x } = ⟨(tickP M (q.warm, q.cure) x).1, x, (tickP M (q.warm, q.cure) x).2⟩ := tick_eq m _
      rw [e2, m.most]
      by_cases c : (tickP M (q.warm, q.cure) x).1 ≤ M.most
      · rw [if_pos c, if_pos c]
        rfl
      · rw [if_neg c, if_neg c]
        rfl
    rw [e]
    unfold longer1
    rw [List.map_cons, List.filter_cons]
    by_cases c : (tickP M (q.warm, q.cure) x).1 ≤ M.most
    · rw [if_pos c, if_pos (decide_eq_true (show (ext M ⟨l, q.set, (q.warm, q.cure)⟩ x).wc.1 ≤ M.most from c))]
    · rw [if_neg c, if_neg (show ¬ decide ((ext M ⟨l, q.set, (q.warm, q.cure)⟩ x).wc.1 ≤ M.most) = true from fun z => c (of_decide_eq_true z))]
theorem ways_succ (m : Match M o) (p : Kqv3.Part) (n : Nat) : waysOf o p (n + 1) = longer M (waysOf o p n) := by
  unfold waysOf longer
  rw [programs_snoc, flat_fm, fm_flat]
  congr 1
  funext l
  cases h : Kqv3.run o l p with
  | none =>
    have e : wayOf o p l = none := by unfold wayOf; rw [h]; rfl
    rw [e]
    dsimp only
    rw [List.filterMap_eq_nil_iff]
    intro y hy
    obtain ⟨x, _, rfl⟩ := List.mem_map.mp hy
    unfold wayOf
    rw [run_snoc, h]
    rfl
  | some q =>
    have e : wayOf o p l = some ⟨l, q.set, (q.warm, q.cure)⟩ := by unfold wayOf; rw [h]; rfl
    rw [e]
    dsimp only
    rw [ways_one m p q l h _ fun x hx => by rw [run_set m l p q h]; exact next_may _ _ hx, ← run_set m l p q h, next_eq m]
theorem ways_zero (p : Kqv3.Part) : waysOf o p 0 = [⟨[], p.set, (p.warm, p.cure)⟩] := rfl
theorem iter_ways (m : Match M o) (p : Kqv3.Part) : ∀ n, iterW M n [⟨[], p.set, (p.warm, p.cure)⟩] = waysOf o p n
  | 0 => rfl
  | n + 1 => by rw [iterW_succ, iter_ways m p n, ways_succ m]
theorem find_cured (p : Kqv3.Part) : ∀ L : List (List Nat), (L.find? fun l => match Kqv3.run o l p with
    | some q => decide (Kqv3.CURED ≤ q.cure)
    | none => false) = ((L.filterMap (wayOf o p)).find? curB).map Wy.prog
  | [] => rfl
  | l :: L => by
    rw [List.find?_cons, List.filterMap_cons]
    cases h : Kqv3.run o l p with
    | none =>
      have e : wayOf o p l = none := by unfold wayOf; rw [h]; rfl
      rw [e]
      dsimp only
      exact find_cured p L
    | some q =>
      have e : wayOf o p l = some ⟨l, q.set, (q.warm, q.cure)⟩ := by unfold wayOf; rw [h]; rfl
      rw [e]
      dsimp only
      rw [List.find?_cons]
      have e2 : curB ⟨l, q.set, (q.warm, q.cure)⟩ = decide (Kqv3.CURED ≤ q.cure) := rfl
      rw [e2]
      cases decide (Kqv3.CURED ≤ q.cure) with
      | true => rfl
      | false => exact find_cured p L
theorem soon_range (m : Match M o) (p : Kqv3.Part) (g : Nat → Option (List Nat)) (hg : ∀ k, g k = ((waysOf o p k).find? curB).map Wy.prog) : ∀ n k, (List.range' k (n + 1)).findSome? g = (soonW M n (waysOf o p k)).map Wy.prog
  | 0, k => by
    have es : soonW M 0 (waysOf o p k) = (waysOf o p k).find? curB := rfl
    rw [List.range'_succ, List.findSome?_cons, hg k, es]
    cases (waysOf o p k).find? curB <;> rfl
  | n + 1, k => by
    have es : soonW M (n + 1) (waysOf o p k) = match (waysOf o p k).find? curB with
      | some y => some y
      | none => soonW M n (longer M (waysOf o p k)) := rfl
    rw [List.range'_succ, List.findSome?_cons, soon_range m p g hg n (k + 1), hg k, es, ways_succ m]
    cases (waysOf o p k).find? curB <;> rfl
theorem soonest_eq (m : Match M o) (p : Kqv3.Part) (n : Nat) : Kqv3.soonest o p n = (soonW M n [⟨[], p.set, (p.warm, p.cure)⟩]).map Wy.prog := by
  unfold Kqv3.soonest
  rw [List.range_eq_range']
  exact soon_range m p _ (fun k => find_cured p _) n 0
theorem farthest_eq (m : Match M o) (p : Kqv3.Part) (n : Nat) : Kqv3.farthest o p n = (bestW (iterW M n [⟨[], p.set, (p.warm, p.cure)⟩])).map fun y => (y.wc.2, y.prog) := by
  unfold Kqv3.farthest
  dsimp only
  have e : ((Kqv3.programs o n p.set).filterMap fun l => (Kqv3.run o l p).map fun q => (q.cure, l)) = (waysOf o p n).map fun y => (y.wc.2, y.prog) := by
    unfold waysOf
    induction Kqv3.programs o n p.set with
    | nil => rfl
    | cons l L ih =>
      rw [List.filterMap_cons, List.filterMap_cons, ih]
      unfold wayOf
      cases Kqv3.run o l p <;> rfl
  rw [e, find_best, iter_ways m]
end
end Pw
end
section
set_option Elab.async false
set_option linter.all false
set_option maxRecDepth 100000
set_option maxHeartbeats 2000000
namespace Pw
open PySem PySem.Spec L2
theorem _root_.L2.Same.but {r : Addr} {H H' : Hp} (s : Same H H') : Sb r H H' := fun b o h _ => s b o h
structure AllAt {α : Type} (R : Addr → α → Prop) (as : List Addr) (xs : List α) : Prop where
  len : as.length = xs.length
  at_ : ∀ (i : Nat) (x : α), xs[i]? = some x → ∃ a, as[i]? = some a ∧ R a x
theorem AllAt.imp {α : Type} {R R' : Addr → α → Prop} {as : List Addr} {xs : List α} (h : AllAt R as xs) (k : ∀ a x, R a x → R' a x) : AllAt R' as xs :=
  ⟨h.len, fun i x e => let ⟨a, e1, e2⟩ := h.at_ i x e; ⟨a, e1, k a x e2⟩⟩
theorem AllAt.snoc {α : Type} {R : Addr → α → Prop} {as : List Addr} {xs : List α} {a : Addr} {y : α} (h : AllAt R as xs) (g : R a y) : AllAt R (as ++ [a]) (xs ++ [y]) :=
  ⟨by simp [h.len], fun i x e => by
    by_cases hi : i < xs.length
    · rw [List.getElem?_append_left hi] at e
      obtain ⟨b, e1, e2⟩ := h.at_ i x e
      exact ⟨b, by rw [List.getElem?_append_left (by rw [h.len]; exact hi)]; exact e1, e2⟩
    · have hl := (List.getElem?_eq_some_iff.mp e).1
      rw [List.length_append, List.length_singleton] at hl
      have ei : i = xs.length := by omega
      subst ei
      rw [List.getElem?_append_right (Nat.le_refl _), Nat.sub_self] at e
      have ex : y = x := Option.some.inj e
      subst ex
      exact ⟨a, by rw [← h.len, List.getElem?_append_right (Nat.le_refl _), Nat.sub_self]; rfl, g⟩⟩
theorem AllAt.get {α : Type} {R : Addr → α → Prop} {as : List Addr} {xs : List α} {i : Nat} {a : Addr} (h : AllAt R as xs) (ha : as[i]? = some a) : ∃ x, xs[i]? = some x ∧ R a x := by
  have hil : i < xs.length := by rw [← h.len]; exact (List.getElem?_eq_some_iff.mp ha).1
  obtain ⟨b, hb, r⟩ := h.at_ i xs[i] (by simp [hil])
  rw [ha] at hb
  cases hb
  exact ⟨_, by simp [hil], r⟩

/-! ### a way -/
structure ClW (K : PySem.W.Frag) (C : Addr) : Prop where
  cl : Cls K C
  n1 : NoAttr K C "programme"
  n2 : NoAttr K C "point"
  n3 : NoAttr K C "part"
structure WayAt (K : PySem.W.Frag) (H : Hp) (a : Addr) (y : Wy) : Prop where
  programme : ∃ l, FldAt K H a "programme" (.ref l) ∧ H l = some (.lst (y.prog.map nV))
  point : FldAt K H a "point" (nV y.s)
  part : ∃ p, FldAt K H a "part" (.ref p) ∧ PartAt K H p y.wc
theorem WayAt.same {K : PySem.W.Frag} {H H' : Hp} {a : Addr} {y : Wy} (s : Same H H') (h : WayAt K H a y) : WayAt K H' a y := by
  obtain ⟨⟨l, h1, h2⟩, h3, ⟨p, h4, h5⟩⟩ := h
  exact ⟨⟨l, h1.same s, s _ _ h2⟩, h3.same s, ⟨p, h4.same s, h5.same s⟩⟩
def spWay (K : PySem.W.Frag) : Sp := fun vs H Q _ => ∃ (p C dx l a : Addr) (s : Nat), vs = [.ref p, .ref l, nV s, .ref a] ∧ H p = some (.ins C dx []) ∧ ClW K C ∧
  ∀ H' : Hp, FldAt K H' p "programme" (.ref l) → FldAt K H' p "point" (nV s) → FldAt K H' p "part" (.ref a) → (∀ b o, H b = some o → b ≠ p → H' b = some o) → Q .non H'
def spLonger (K : PySem.W.Frag) : Sp := fun vs H Q _ => ∃ (m l : Addr) (M : Mo) (as : List Addr) (ys : List Wy), vs = [.ref m, .ref l] ∧ MouldAt K H m M ∧ MoOk M ∧ SqL K H l (as.map V.ref) ∧ AllAt (WayAt K H) as ys ∧ ys.length ≤ 1000 ∧ (∀ y ∈ ys, y.prog.length ≤ 100) ∧
  ∀ (H' : Hp) (q : Addr) (bs : List Addr), Same H H' → H q = none → H' q = some (.lst (bs.map V.ref)) → AllAt (WayAt K H') bs (longer M ys) → Q (.ref q) H'
def spFirst (K : PySem.W.Frag) : Sp := fun vs H Q _ => ∃ (l : Addr) (as : List Addr) (ys : List Wy), vs = [.ref l] ∧ SqL K H l (as.map V.ref) ∧ AllAt (WayAt K H) as ys ∧
  (∀ H' : Hp, Same H H' → ys.find? curB = none → Q .non H') ∧ (∀ (H' : Hp) (a : Addr) (y : Wy), Same H H' → ys.find? curB = some y → WayAt K H' a y → Q (.ref a) H')
def BestAt (K : PySem.W.Frag) (H : Hp) : Option Wy → V → Prop
  | none, v => v = .non
  | some z, v => ∃ a, v = .ref a ∧ WayAt K H a z
theorem BestAt.same {K : PySem.W.Frag} {H H' : Hp} {b : Option Wy} {v : V} (s : Same H H') (h : BestAt K H b v) : BestAt K H' b v := by
  cases b with
  | none => exact h
  | some z => exact let ⟨a, e, w⟩ := h; ⟨a, e, w.same s⟩
def spFurthest (K : PySem.W.Frag) : Sp := fun vs H Q _ => ∃ (l : Addr) (as : List Addr) (ys : List Wy), vs = [.ref l] ∧ SqL K H l (as.map V.ref) ∧ AllAt (WayAt K H) as ys ∧
  ∀ (H' : Hp) (v : V), Same H H' → BestAt K H' (bestW ys) v → Q v H'
def spSoonW (K : PySem.W.Frag) : Sp := fun vs H Q _ => ∃ (m p : Addr) (M : Mo) (wc : Nat × Nat) (s n : Nat), vs = [.ref m, .ref p, nV s, nV n] ∧ MouldAt K H m M ∧ MoOk M ∧ PartAt K H p wc ∧ n ≤ 6 ∧
  ∀ (H' : Hp) (v : V), Same H H' → BestAt K H' (soonW M n [⟨[], s, wc⟩]) v → Q v H'
def spFarW (K : PySem.W.Frag) : Sp := fun vs H Q _ => ∃ (m p : Addr) (M : Mo) (wc : Nat × Nat) (s n : Nat), vs = [.ref m, .ref p, nV s, nV n] ∧ MouldAt K H m M ∧ MoOk M ∧ PartAt K H p wc ∧ n ≤ 6 ∧
  ∀ (H' : Hp) (v : V), Same H H' → BestAt K H' (bestW (iterW M n [⟨[], s, wc⟩])) v → Q v H'
theorem iter_prog (M : Mo) {y0 : Wy} (h0 : y0.prog = []) : ∀ n, ∀ y ∈ iterW M n [y0], y.prog.length = n
  | 0, y, hy => by
    rw [List.mem_singleton.mp hy, h0]
    rfl
  | n + 1, y, hy => by
    rw [iterW_succ] at hy
    obtain ⟨u, hu, hy⟩ := List.mem_flatMap.mp hy
    obtain ⟨x, _, rfl⟩ := List.mem_map.mp (List.mem_filter.mp hy).1
    have := iter_prog M h0 n u hu
    show (u.prog ++ [x]).length = n + 1
    rw [List.length_append, this]
    rfl
theorem iter_few (M : Mo) (y0 : Wy) {n : Nat} (h : n ≤ 6) : (iterW M n [y0]).length ≤ 1000 := by
  refine Nat.le_trans (iterW_len M n [y0]) ?_
  rw [List.length_singleton, Nat.mul_one]
  exact Nat.le_trans (Nat.pow_le_pow_right (by decide) h) (by decide)

section
variable {P : Program} {w : World} {K : PySem.W.Frag} {mg : Str → Option Value} {base : Heap}
theorem sc_Way_init : FnScope ["self", "programme", "point", "part"] ["self", "programme", "point", "part"] (defScope s_Way_init) := ⟨rfl, rfl, rfl, by decide +kernel, rfl, by decide +kernel, by decide +kernel⟩
theorem has_Way {C : Addr} (D : CDef K mg "Way" "Way.__init__" C s_Way_init ["self", "programme", "point", "part"]) : CHas P w K mg base "Way" C ["self", "programme", "point", "part"] 1 (spWay K) := D.has fun f fd F => by
  refine F.ok sc_Way_init (fun vs H Q E h => ?_) (fun cdv A outer s H vs Q E hr h => ?_)
  · obtain ⟨p, C, dx, l, a, s, rfl, _⟩ := h
    rfl
  · obtain ⟨p, C, dx, l, a, s, rfl, hp, T, k⟩ := h
    refine ⟨_, pss_cons (ps_fld (pv 0) (pv 1) rfl) (pss_cons (ps_fld (pv 0) (pv 2) rfl) (pss_one (ps_fld (pv 0) (pv 3) rfl))), ?_⟩
    refine ⟨_, rfl, _, rfl, p, C, dx, [], rfl, hp, T.cl, T.n1, (by decide), ?_⟩
    refine ⟨_, rfl, _, rfl, p, C, dx, _, rfl, upd_same, T.cl, T.n2, (by show 1 < 1000; decide), ?_⟩
    rw [upd_upd]
    refine ⟨_, rfl, _, rfl, p, C, dx, _, rfl, upd_same, T.cl, T.n3, (by show 2 < 1000; decide), ?_⟩
    rw [upd_upd]
    exact k _ ⟨C, dx, _, upd_same, T.cl, T.n1, rfl⟩ ⟨C, dx, _, upd_same, T.cl, T.n2, rfl⟩ ⟨C, dx, _, upd_same, T.cl, T.n3, rfl⟩ fun b o e hb => by rw [upd_ne hb]; exact e

theorem sc_wml : FnScope ["mould", "ways", "longer", "way", "point", "part"] ["mould", "ways"] (defScope s_ways_a_minute_longer) := ⟨rfl, rfl, rfl, by decide +kernel, rfl, by decide +kernel, by decide +kernel⟩
theorem has_ways_a_minute_longer {C : Addr} (T : ClW K C) (h1 : Has P w K mg base "points_by_whole_steps" ["mould", "point"] 2 (spPoints K)) (h2 : Has P w K mg base "minute_later" ["mould", "part", "point"] 3 (spMinute K)) (h3 : Has P w K mg base "is_too_hot" ["mould", "part"] 1 (spHot1 K))
    (h4 : CHas P w K mg base "Way" C ["self", "programme", "point", "part"] 1 (spWay K)) (D : Def K mg "ways_a_minute_longer" s_ways_a_minute_longer ["mould", "ways"]) : Has P w K mg base "ways_a_minute_longer" ["mould", "ways"] 4 (spLonger K) := D.has fun f fd F => by
  refine F.ok sc_wml (fun vs H Q E h => ?_) (fun cdv A outer s H vs Q E hr h => ?_)
  · obtain ⟨m, l, M, as, ys, rfl, _⟩ := h
    rfl
  · obtain ⟨m, l, M, as, ys, rfl, hM, ok, hl, hA, hlen, hpl, k⟩ := h
    refine ⟨_, pss_cons (ps_set (i := 2) sc_wml.nd rfl (Or.inl rfl) (pe_lst pa_nil))
      (pss_cons (ps_for PassesOwn.never rfl (pi_list (pv 1)) (pg_name (i := 3) sc_wml.nd rfl (Or.inl rfl))
        (pss_one (ps_for PassesOwn.never rfl (pi_list (pe_callH h1 (hr.mono (by decide)) rfl (pa_cons (pv 0) (pa_cons (pe_fl (pv 3)) pa_nil)))) (pg_name (i := 4) sc_wml.nd rfl (Or.inl rfl))
          (pss_cons (ps_set (i := 5) sc_wml.nd rfl (Or.inl rfl) (pe_callH h2 hr rfl (pa_cons (pv 0) (pa_cons (pe_fl (pv 3)) (pa_cons (pv 4) pa_nil)))))
          (pss_one (ps_if (pt_not (pt_val (pe_callH h3 (hr.mono (by decide)) rfl (pa_cons (pv 0) (pa_cons (pv 5) pa_nil)))))
            (pss_one (ps_expr (pe_bm PySem.F.plainAttrs_list PySem.F.slot_list_append PySem.F.type_list_append mt_append (pv 2) (pa_cons (pe_makeH h4 (hr.mono (by decide)) rfl
              (pa_cons (pe_op op_cat (pe_fl (pv 3)) (pe_lst (pa_cons (pv 4) pa_nil))) (pa_cons (pv 4) (pa_cons (pv 5) pa_nil)))) pa_nil)))) pss_nil))))))
      (pss_one (ps_ret (pv 2)))), ?_⟩
    refine ⟨Nat.zero_le _, fun q hq => ?_⟩
    have s0 : Same H (upd H q (.lst [])) := Same.upd hq
    refine ⟨_, rfl, l, rfl, ⟨_, s0.seq hl⟩, for_list (K := K) (a := l) (xs := as.map V.ref)
      (fun i σ H' => ∃ (x y z : Option V) (bs : List Addr), σ = [some (.ref m), some (.ref l), some (.ref q), x, y, z] ∧ Same H H' ∧ H' q = some (.lst (bs.map V.ref)) ∧ AllAt (WayAt K (er q H')) bs (longer M (ys.take i)))
      ⟨none, none, none, [], rfl, s0, upd_same, ⟨rfl, fun i x e => by simp [longer] at e⟩⟩ (fun i σ H' _ ⟨_, _, _, _, _, s1, _⟩ => s1.seq hl) ?_ ?_⟩
    · rintro i v σ H' hi ⟨x0, y0, z0, bs, rfl, s1, hq', hB⟩
      obtain ⟨a, ha, rfl⟩ := at_map hi
      obtain ⟨u, hu, wu⟩ := hA.get ha
      have hup : u.prog.length ≤ 100 := hpl u (List.mem_of_getElem? hu)
      have hil : i < ys.length := (List.getElem?_eq_some_iff.mp hu).1
      have hll : (longer M (ys.take i)).length ≤ 3000 := by
        have := longer_len M (ys.take i)
        rw [List.length_take] at this
        omega
      refine ⟨_, rfl, _, rfl, a, _, rfl, (wu.same s1).point, m, M, u.s, rfl, hM.same s1, fun H1 pl s2 hpl0 hpl1 => ?_⟩
      have nqp : q ≠ pl := ne_of_none hq' hpl0
      refine ⟨pl, rfl, ⟨_, SqL.of hpl1⟩, for_list (K := K) (a := pl) (xs := (nextM M u.s).map nV)
        (fun j σ H2 => ∃ (y z : Option V) (bs : List Addr), σ = [some (.ref m), some (.ref l), some (.ref q), some (.ref a), y, z] ∧ Same H H2 ∧ Sb q H1 H2 ∧ H2 q = some (.lst (bs.map V.ref)) ∧
          AllAt (WayAt K (er q H2)) bs (longer M (ys.take i) ++ longer1 M u ((nextM M u.s).take j)))
        ⟨y0, z0, bs, rfl, s1.trans s2, Sb.refl _ _, s2 _ _ hq', ?_⟩ (fun j σ H2 _ ⟨_, _, _, _, _, sq, _⟩ => SqL.of (sq _ _ hpl1 nqp.symm)) ?_ ?_⟩
      · have e : longer1 M u ((nextM M u.s).take 0) = [] := rfl
        rw [e, List.append_nil]
        exact hB.imp fun a x h => h.same (er_mono s2)
      · rintro j v σ H2 hj ⟨y1, z1, bs1, rfl, s3, sq, hq2, hB2⟩
        obtain ⟨x, hx, rfl⟩ := at_map hj
        have wu3 := wu.same s3
        obtain ⟨p, fp, hp⟩ := wu3.part
        have hb1 : bs1.length ≤ 3003 := by
          rw [hB2.len, List.length_append]
          have h5 := longer1_len M u ((nextM M u.s).take j)
          have h6 := nextM_len M u.s
          rw [List.length_take] at h5
          omega
        refine ⟨_, rfl, _, rfl, a, _, rfl, fp, _, rfl, m, p, M, u.wc, x, rfl, hM.same s3, ok, hp, fun H3 b s4 hb => ?_⟩
        have s34 := s3.trans s4
        refine ⟨_, rfl, _, rfl, m, b, M, _, rfl, hM.same s34, hb, fun H4 s5 => ⟨_, rfl, ?_⟩⟩
        have s35 := s34.trans s5
        have s25 := s4.trans s5
        by_cases c : M.most < (tickP M u.wc x).1
        · rw [decide_eq_true c]
          refine iteF ?_
          refine ⟨some (nV x), some (.ref b), bs1, rfl, s35, sq.trans s25.but, s25 _ _ hq2, ?_⟩
          rw [take_snoc hx, longer1_snoc, if_neg (show ¬ (ext M u x).wc.1 ≤ M.most from fun z => absurd c (Nat.not_lt.mpr z)), List.append_nil]
          exact hB2.imp fun a x h => h.same (er_mono s25)
        · rw [decide_eq_false c]
          refine iteT ?_
          have wu4 := wu.same s35
          obtain ⟨pr, fpr, hpr⟩ := wu4.programme
          have hq4 := s25 _ _ hq2
          refine ⟨_, rfl, .inl ⟨rfl, _, SqL.of hq4⟩, _, rfl, a, _, rfl, fpr, _, rfl, (by show 1 ≤ sizeLine; decide), fun l1 hl1 => ?_⟩
          have t1 : Same H4 (upd H4 l1 (.lst [nV x])) := Same.upd hl1
          refine ⟨pr, l1, _, _, rfl, rfl, t1 _ _ hpr, upd_same, (by rw [List.length_map]; exact Nat.le_trans (show u.prog.length + 1 ≤ 101 by omega) (by decide)), fun l2 hl2 => ?_⟩
          have t2 := t1.trans (Same.upd (o := .lst (u.prog.map nV ++ [nV x])) hl2)
          refine ⟨_, rfl, _, rfl, ?_⟩
          intro nx dx hnx hdx hne
          refine ⟨nx, C, dx, l2, b, x, rfl, upd_same, T, fun H6 f1 f2 f3 kp => ⟨rfl, ?_⟩⟩
          have t3 := Same.made hnx hdx kp
          have t4 := t2.trans t3
          have hq6 := t4 _ _ hq4
          have nq2 : l2 ≠ q := (ne_of_none (t1 _ _ hq4) hl2).symm
          have nqx : nx ≠ q := (ne_of_none (t2 _ _ hq4) hnx).symm
          have hb6 : PartAt K H6 b (tickP M u.wc x) := (hb.same s5).same t4
          have nqb : b ≠ q := hb6.warmth.neL hq6
          refine ⟨q, _, _, rfl, rfl, hq6, (by rw [List.length_map]; exact Nat.lt_of_le_of_lt hb1 (by decide)), ?_⟩
          have eA : (bs1 ++ [nx]).map V.ref = bs1.map V.ref ++ [V.ref nx] := by simp
          refine ⟨some (nV x), some (.ref b), bs1 ++ [nx], rfl, Same.updU hq (s35.trans t4), ((sq.trans s25.but).trans t4.but).trans (Sb.upd _ _ _), (by rw [upd_same, eA]), ?_⟩
          rw [take_snoc hx, longer1_snoc, if_pos (show (ext M u x).wc.1 ≤ M.most from Nat.le_of_not_lt c), ← List.append_assoc, er_upd]
          refine (hB2.imp fun a x h => h.same (er_mono (s25.trans t4))).snoc ⟨⟨l2, f1.er nqx, ?_⟩, f2.er nqx, ⟨b, f3.er nqx, hb6.er nqb⟩⟩
          rw [er_ne nq2, t3 _ _ upd_same]
          show some (HO.lst (u.prog.map nV ++ [nV x])) = some (HO.lst ((u.prog ++ [x]).map nV))
          rw [List.map_append]
          rfl
      · rintro σ H2 ⟨y1, z1, bs1, rfl, s3, sq, hq2, hB2⟩
        rw [List.length_map, List.take_length] at hB2
        refine ⟨some (.ref a), y1, z1, bs1, rfl, s3, hq2, ?_⟩
        rw [take_snoc hu, longer_snoc]
        exact hB2
    · rintro σ H' ⟨x, y, z, bs, rfl, s1, hq', hB⟩
      rw [List.length_map, hA.len, List.take_length] at hB
      exact ⟨_, rfl, k H' q bs s1 hq hq' (hB.imp fun a x h => h.same (er_same _ _))⟩

theorem sc_first_cured : FnScope ["ways", "way"] ["ways"] (defScope s_first_cured) := ⟨rfl, rfl, rfl, by decide +kernel, rfl, by decide +kernel, by decide +kernel⟩
theorem has_first_cured (h1 : Has P w K mg base "is_cured" ["part"] 1 (spIsCured K)) (D : Def K mg "first_cured" s_first_cured ["ways"]) : Has P w K mg base "first_cured" ["ways"] 2 (spFirst K) := D.has fun f fd F => by
  refine F.ok sc_first_cured (fun vs H Q E h => ?_) (fun cdv A outer s H vs Q E hr h => ?_)
  · obtain ⟨l, as, ys, rfl, _⟩ := h
    rfl
  · obtain ⟨l, as, ys, rfl, hl, hA, kN, kY⟩ := h
    refine ⟨_, pss_cons (ps_for PassesOwn.never rfl (pi_list (pv 0)) (pg_name (i := 1) sc_first_cured.nd rfl (Or.inl rfl))
        (pss_one (ps_if (pt_val (pe_callH h1 hr rfl (pa_cons (pe_fl (pv 1)) pa_nil))) (pss_one (ps_ret (pv 1))) pss_nil)))
      (pss_one (ps_ret pe_non)), ?_⟩
    refine ⟨_, rfl, l, rfl, ⟨_, hl⟩, for_list (K := K) (a := l) (xs := as.map V.ref)
      (fun i σ H' => ∃ x : Option V, σ = [some (.ref l), x] ∧ Same H H' ∧ (ys.take i).find? curB = none)
      ⟨none, rfl, Same.refl _, rfl⟩ (fun i σ H' _ ⟨_, _, s1, _⟩ => s1.seq hl) ?_ ?_⟩
    · rintro i v σ H' hi ⟨x0, rfl, s1, hn⟩
      obtain ⟨a, ha, rfl⟩ := at_map hi
      obtain ⟨u, hu, wu⟩ := hA.get ha
      obtain ⟨p, fp, hp⟩ := (wu.same s1).part
      refine ⟨_, rfl, a, _, rfl, fp, p, _, rfl, hp, fun H2 s2 => ⟨_, rfl, ?_⟩⟩
      have s12 := s1.trans s2
      have eN : (ys.take (i + 1)).find? curB = if curB u = true then some u else none := by
        rw [take_snoc hu, List.find?_append, hn, List.find?_cons]
        cases curB u <;> rfl
      refine ite2 (fun c => ?_) (fun c => ?_)
      · refine ⟨_, rfl, kY H2 a u s12 ?_ (wu.same s12)⟩
        have e : ys = ys.take (i + 1) ++ ys.drop (i + 1) := (List.take_append_drop _ _).symm
        rw [e, List.find?_append, eN, if_pos (show curB u = true from c)]
        rfl
      · exact ⟨some (.ref a), rfl, s12, by rw [eN, if_neg (show ¬ curB u = true from c)]⟩
    · rintro σ H' ⟨x, rfl, s1, hn⟩
      rw [List.length_map, hA.len, List.take_length] at hn
      exact kN H' s1 hn

theorem sc_first_cured_furthest : FnScope ["ways", "best", "way"] ["ways"] (defScope s_first_cured_furthest) := ⟨rfl, rfl, rfl, by decide +kernel, rfl, by decide +kernel, by decide +kernel⟩
theorem best_snoc (l : List Wy) (y : Wy) : bestW (l ++ [y]) = better (bestW l) y := by
  unfold bestW
  rw [List.foldl_append]
  rfl
theorem has_first_cured_furthest (D : Def K mg "first_cured_furthest" s_first_cured_furthest ["ways"]) : Has P w K mg base "first_cured_furthest" ["ways"] 1 (spFurthest K) := D.has fun f fd F => by
  refine F.ok sc_first_cured_furthest (fun vs H Q E h => ?_) (fun cdv A outer s H vs Q E hr h => ?_)
  · obtain ⟨l, as, ys, rfl, _⟩ := h
    rfl
  · obtain ⟨l, as, ys, rfl, hl, hA, k⟩ := h
    refine ⟨_, pss_cons (ps_set (i := 1) sc_first_cured_furthest.nd rfl (Or.inl rfl) pe_non)
      (pss_cons (ps_for PassesOwn.never rfl (pi_list (pv 0)) (pg_name (i := 2) sc_first_cured_furthest.nd rfl (Or.inl rfl))
        (pss_one (ps_if (PW.pt (pw_or (pt_cmp (pc_isN (pv 1))) (pw_or1 (pt_cmpR op_gt (pe_fl (pe_fl (pv 2))) (pe_fl (pe_fl (pv 1))) (nomark _))))) (pss_one (ps_set (i := 1) sc_first_cured_furthest.nd rfl (Or.inl rfl) (pv 2))) pss_nil)))
      (pss_one (ps_ret (pv 1)))), ?_⟩
    refine ⟨_, rfl, l, rfl, ⟨_, hl⟩, for_list (K := K) (a := l) (xs := as.map V.ref)
      (fun i σ H' => ∃ (v : V) (x : Option V), σ = [some (.ref l), some v, x] ∧ Same H H' ∧ BestAt K H' (bestW (ys.take i)) v)
      ⟨.non, none, rfl, Same.refl _, rfl⟩ (fun i σ H' _ ⟨_, _, _, s1, _⟩ => s1.seq hl) ?_ ?_⟩
    · rintro i v σ H' hi ⟨b, x0, rfl, s1, hb⟩
      obtain ⟨a, ha, rfl⟩ := at_map hi
      obtain ⟨u, hu, wu⟩ := hA.get ha
      have wu1 := wu.same s1
      obtain ⟨p, fp, hp⟩ := wu1.part
      have eN : bestW (ys.take (i + 1)) = better (bestW (ys.take i)) u := by rw [take_snoc hu, best_snoc]
      refine ⟨_, rfl, _, rfl, ?_⟩
      cases hz : bestW (ys.take i) with
      | none =>
        rw [hz] at hb eN
        have hb : b = .non := hb
        subst hb
        refine iteT (iteT ?_)
        exact ⟨_, rfl, .ref a, some (.ref a), rfl, s1, by rw [eN]; exact ⟨a, rfl, wu1⟩⟩
      | some z =>
        rw [hz] at hb eN
        obtain ⟨c, rfl, wz⟩ := hb
        obtain ⟨p2, fp2, hp2⟩ := wz.part
        refine iteF ?_
        refine ⟨_, rfl, a, _, rfl, fp, p, _, rfl, hp.cure, _, rfl, c, _, rfl, fp2, p2, _, rfl, hp2.cure, _, _, rfl, rfl, _, rfl, ?_⟩
        refine ite2 (fun d => ?_) (fun d => ?_)
        · have d := of_decide_eq_true d
          exact ⟨_, rfl, .ref a, some (.ref a), rfl, s1, by rw [eN]; unfold better; dsimp only; rw [if_pos (by omega)]; exact ⟨a, rfl, wu1⟩⟩
        · exact ⟨.ref c, some (.ref a), rfl, s1, by rw [eN]; unfold better; dsimp only; rw [if_neg (fun z => d (decide_eq_true (by omega)))]; exact ⟨c, rfl, wz⟩⟩
    · rintro σ H' ⟨v, x, rfl, s1, hb⟩
      rw [List.length_map, hA.len, List.take_length] at hb
      exact ⟨_, rfl, k H' v s1 hb⟩

theorem sc_soonest_way : FnScope ["mould", "part", "point", "minutes", "ways", "turn", "way"] ["mould", "part", "point", "minutes"] (defScope s_soonest_way) := ⟨rfl, rfl, rfl, by decide +kernel, rfl, by decide +kernel, by decide +kernel⟩
theorem has_soonest_way {C : Addr} (T : ClW K C) (zrange : mg "range" = none) (h1 : Has P w K mg base "first_cured" ["ways"] 2 (spFirst K)) (h2 : Has P w K mg base "ways_a_minute_longer" ["mould", "ways"] 4 (spLonger K))
    (h4 : CHas P w K mg base "Way" C ["self", "programme", "point", "part"] 1 (spWay K)) (D : Def K mg "soonest_way" s_soonest_way ["mould", "part", "point", "minutes"]) : Has P w K mg base "soonest_way" ["mould", "part", "point", "minutes"] 5 (spSoonW K) := D.has fun f fd F => by
  refine F.ok sc_soonest_way (fun vs H Q E h => ?_) (fun cdv A outer s H vs Q E hr h => ?_)
  · obtain ⟨m, p, M, wc, s, n, rfl, _⟩ := h
    rfl
  · obtain ⟨m, p, M, wc, s, n, rfl, hM, ok, hp, hn, k⟩ := h
    refine ⟨_, pss_cons (ps_set (i := 4) sc_soonest_way.nd rfl (Or.inl rfl) (pe_lst (pa_cons (pe_makeH h4 (hr.mono (by decide)) rfl (pa_cons (pe_lst pa_nil) (pa_cons (pv 2) (pa_cons (pv 1) pa_nil)))) pa_nil)))
      (pss_cons (ps_for PassesOwn.never rfl (pi_range1 rfl zrange (pa_cons (pv 3) pa_nil)) (pg_name (i := 5) sc_soonest_way.nd rfl (Or.inl rfl))
        (pss_cons (ps_set (i := 6) sc_soonest_way.nd rfl (Or.inl rfl) (pe_callH h1 (hr.mono (by decide)) rfl (pa_cons (pv 4) pa_nil)))
        (pss_cons (ps_if (pt_cmp (pc_notN (pv 6))) (pss_one (ps_ret (pv 6))) pss_nil)
        (pss_one (ps_set (i := 4) sc_soonest_way.nd rfl (Or.inl rfl) (pe_callH h2 hr rfl (pa_cons (pv 0) (pa_cons (pv 4) pa_nil))))))))
      (pss_one (ps_ret (pe_callH h1 (hr.mono (by decide)) rfl (pa_cons (pv 4) pa_nil))))), ?_⟩
    refine ⟨Nat.zero_le _, fun l0 hl0 => ?_⟩
    refine ⟨_, rfl, _, rfl, ?_⟩
    intro nx dx hnx hdx hne
    refine ⟨nx, C, dx, l0, p, s, rfl, upd_same, T, fun H1 f1 f2 f3 kp => ⟨rfl, (by show 1 ≤ sizeLine; decide), fun q hq => ?_⟩⟩
    have t1 : Same H (upd H l0 (.lst [])) := Same.upd hl0
    have t2 := Same.made hnx hdx kp
    have t3 : Same H1 (upd H1 q (.lst [V.ref nx])) := Same.upd hq
    have t13 := (t1.trans t2).trans t3
    generalize hy0 : (⟨[], s, wc⟩ : Wy) = y0
    rw [hy0] at k
    have hp0 : y0.prog = [] := by rw [← hy0]
    have w0 : WayAt K (upd H1 q (.lst [V.ref nx])) nx y0 := by
      rw [← hy0]
      exact ⟨⟨l0, f1.same t3, t3 _ _ (t2 _ _ upd_same)⟩, f2.same t3, ⟨p, f3.same t3, hp.same t13⟩⟩
    refine ⟨_, rfl, (n : Int), rfl, by omega, by omega, for_range (lo := 0) (n := (n : Int).toNat)
      (fun i σ H' => ∃ (q : Addr) (as : List Addr) (x y : Option V), σ = [some (.ref m), some (.ref p), some (nV s), some (nV n), some (.ref q), x, y] ∧ Same H H' ∧ H' q = some (.lst (as.map V.ref)) ∧
        AllAt (WayAt K H') as (iterW M i [y0]) ∧ soonW M n [y0] = soonW M (n - i) (iterW M i [y0]))
      ⟨q, [nx], none, none, rfl, t13, upd_same, ⟨rfl, fun i x e => ?_⟩, rfl⟩ ?_ ?_⟩
    · match i, e with
      | 0, e =>
        have e : y0 = x := Option.some.inj e
        subst e
        exact ⟨nx, rfl, w0⟩
      | i + 1, e => cases e
    · rintro i σ H' hi ⟨q, as, x, y, rfl, s1, hq', hA, he⟩
      rw [Int.toNat_natCast] at hi
      obtain ⟨d, hd⟩ : ∃ d, n - i = d + 1 := ⟨n - i - 1, by omega⟩
      rw [hd] at he
      refine ⟨_, rfl, q, as, _, rfl, SqL.of hq', hA, fun H2 s2 hf => ?_, fun H2 a u s2 hf wu => ?_⟩
      · refine ⟨_, rfl, ?_⟩
        refine ⟨_, rfl, ?_⟩
        refine iteF ?_
        have s12 := s1.trans s2
        refine ⟨_, rfl, _, rfl, m, q, M, as, _, rfl, hM.same s12, ok, SqL.of (s2 _ _ hq'), hA.imp fun a x h => h.same s2, iter_few M y0 (by omega), fun y hy => (by rw [iter_prog M hp0 i y hy]; omega), fun H3 q2 bs s3 hq2 hq2' hB => ?_⟩
        refine ⟨q2, bs, _, _, rfl, s12.trans s3, hq2', by rw [iterW_succ]; exact hB, ?_⟩
        rw [he, show n - (i + 1) = d by omega, iterW_succ]
        show (match (iterW M i [y0]).find? curB with
          | some y => some y
          | none => soonW M d (longer M (iterW M i [y0]))) = _
        rw [hf]
      · refine ⟨_, rfl, ?_⟩
        refine ⟨_, rfl, ?_⟩
        refine iteT ?_
        refine ⟨_, rfl, k H2 _ (s1.trans s2) ?_⟩
        rw [he]
        show BestAt K H2 (match (iterW M i [y0]).find? curB with
          | some y => some y
          | none => soonW M d (longer M (iterW M i [y0]))) (.ref a)
        rw [hf]
        exact ⟨a, rfl, wu⟩
    · rintro σ H' ⟨q, as, x, y, rfl, s1, hq', hA, he⟩
      rw [Int.toNat_natCast] at he hA
      rw [Nat.sub_self] at he
      have he : soonW M n [y0] = (iterW M n [y0]).find? curB := he
      refine ⟨_, rfl, q, as, _, rfl, SqL.of hq', hA, fun H2 s2 hf => ?_, fun H2 a u s2 hf wu => ?_⟩
      · exact k H2 _ (s1.trans s2) (by rw [he, hf]; rfl)
      · exact k H2 _ (s1.trans s2) (by rw [he, hf]; exact ⟨a, rfl, wu⟩)

theorem sc_farthest_way : FnScope ["mould", "part", "point", "minutes", "ways", "turn"] ["mould", "part", "point", "minutes"] (defScope s_farthest_way) := ⟨rfl, rfl, rfl, by decide +kernel, rfl, by decide +kernel, by decide +kernel⟩
theorem has_farthest_way {C : Addr} (T : ClW K C) (zrange : mg "range" = none) (h1 : Has P w K mg base "first_cured_furthest" ["ways"] 1 (spFurthest K)) (h2 : Has P w K mg base "ways_a_minute_longer" ["mould", "ways"] 4 (spLonger K))
    (h4 : CHas P w K mg base "Way" C ["self", "programme", "point", "part"] 1 (spWay K)) (D : Def K mg "farthest_way" s_farthest_way ["mould", "part", "point", "minutes"]) : Has P w K mg base "farthest_way" ["mould", "part", "point", "minutes"] 5 (spFarW K) := D.has fun f fd F => by
  refine F.ok sc_farthest_way (fun vs H Q E h => ?_) (fun cdv A outer s H vs Q E hr h => ?_)
  · obtain ⟨m, p, M, wc, s, n, rfl, _⟩ := h
    rfl
  · obtain ⟨m, p, M, wc, s, n, rfl, hM, ok, hp, hn, k⟩ := h
    refine ⟨_, pss_cons (ps_set (i := 4) sc_farthest_way.nd rfl (Or.inl rfl) (pe_lst (pa_cons (pe_makeH h4 (hr.mono (by decide)) rfl (pa_cons (pe_lst pa_nil) (pa_cons (pv 2) (pa_cons (pv 1) pa_nil)))) pa_nil)))
      (pss_cons (ps_for PassesOwn.never rfl (pi_range1 rfl zrange (pa_cons (pv 3) pa_nil)) (pg_name (i := 5) sc_farthest_way.nd rfl (Or.inl rfl))
        (pss_one (ps_set (i := 4) sc_farthest_way.nd rfl (Or.inl rfl) (pe_callH h2 hr rfl (pa_cons (pv 0) (pa_cons (pv 4) pa_nil))))))
      (pss_one (ps_ret (pe_callH h1 (hr.mono (by decide)) rfl (pa_cons (pv 4) pa_nil))))), ?_⟩
    refine ⟨Nat.zero_le _, fun l0 hl0 => ?_⟩
    refine ⟨_, rfl, _, rfl, ?_⟩
    intro nx dx hnx hdx hne
    refine ⟨nx, C, dx, l0, p, s, rfl, upd_same, T, fun H1 f1 f2 f3 kp => ⟨rfl, (by show 1 ≤ sizeLine; decide), fun q hq => ?_⟩⟩
    have t1 : Same H (upd H l0 (.lst [])) := Same.upd hl0
    have t2 := Same.made hnx hdx kp
    have t3 : Same H1 (upd H1 q (.lst [V.ref nx])) := Same.upd hq
    have t13 := (t1.trans t2).trans t3
    generalize hy0 : (⟨[], s, wc⟩ : Wy) = y0
    rw [hy0] at k
    have hp0 : y0.prog = [] := by rw [← hy0]
    have w0 : WayAt K (upd H1 q (.lst [V.ref nx])) nx y0 := by
      rw [← hy0]
      exact ⟨⟨l0, f1.same t3, t3 _ _ (t2 _ _ upd_same)⟩, f2.same t3, ⟨p, f3.same t3, hp.same t13⟩⟩
    refine ⟨_, rfl, (n : Int), rfl, by omega, by omega, for_range (lo := 0) (n := (n : Int).toNat)
      (fun i σ H' => ∃ (q : Addr) (as : List Addr) (x : Option V), σ = [some (.ref m), some (.ref p), some (nV s), some (nV n), some (.ref q), x] ∧ Same H H' ∧ H' q = some (.lst (as.map V.ref)) ∧
        AllAt (WayAt K H') as (iterW M i [y0]))
      ⟨q, [nx], none, rfl, t13, upd_same, ⟨rfl, fun i x e => ?_⟩⟩ ?_ ?_⟩
    · match i, e with
      | 0, e =>
        have e : y0 = x := Option.some.inj e
        subst e
        exact ⟨nx, rfl, w0⟩
      | i + 1, e => cases e
    · rintro i σ H' hi ⟨q, as, x, rfl, s1, hq', hA⟩
      rw [Int.toNat_natCast] at hi
      refine ⟨_, rfl, _, rfl, m, q, M, as, _, rfl, hM.same s1, ok, SqL.of hq', hA, iter_few M y0 (by omega), fun y hy => (by rw [iter_prog M hp0 i y hy]; omega), fun H3 q2 bs s3 hq2 hq2' hB => ?_⟩
      exact ⟨q2, bs, _, rfl, s1.trans s3, hq2', by rw [iterW_succ]; exact hB⟩
    · rintro σ H' ⟨q, as, x, rfl, s1, hq', hA⟩
      rw [Int.toNat_natCast] at hA
      exact ⟨_, rfl, q, as, _, rfl, SqL.of hq', hA, fun H2 v s2 hb => k H2 v (s1.trans s2) hb⟩
end
end Pw
end
section
set_option Elab.async false
set_option linter.all false
set_option maxRecDepth 100000
set_option maxHeartbeats 2000000
namespace Pw
open PySem PySem.Spec L2
theorem tell_cons (l : List Nat) : (l.map fun (x : Nat) => (x : Int)).map V.int = l.map nV := (map_nV l).symm
theorem ans_soonest {ov : Kqv3.Oven} {n : Nat} : ansOf ov (.soonest n) = if 6 < n then [V.int (-22)] else match Kqv3.soonest ov ov.part n with
    | none => [V.int (-33)]
    | some l => nV l.length :: l.map nV := by
  unfold ansOf Kqv3.step
  dsimp only
  by_cases h : 6 < n
  · rw [if_pos h, if_pos h]
    rfl
  · rw [if_neg h, if_neg h]
    cases Kqv3.soonest ov ov.part n with
    | none => rfl
    | some l =>
      show V.int _ :: (l.map fun (x : Nat) => (x : Int)).map V.int = _
      rw [tell_cons]
      rfl
theorem ans_farthest {ov : Kqv3.Oven} {n : Nat} : ansOf ov (.farthest n) = if 6 < n then [V.int (-22)] else match Kqv3.farthest ov ov.part n with
    | none => [V.int (-33)]
    | some (c, l) => nV c :: l.map nV := by
  unfold ansOf Kqv3.step
  dsimp only
  by_cases h : 6 < n
  · rw [if_pos h, if_pos h]
    rfl
  · rw [if_neg h, if_neg h]
    cases Kqv3.farthest ov ov.part n with
    | none => rfl
    | some cl =>
      obtain ⟨c, l⟩ := cl
      show V.int _ :: (l.map fun (x : Nat) => (x : Int)).map V.int = _
      rw [tell_cons]
      rfl
theorem ans_rate {ov : Kqv3.Oven} {n : Nat} : ansOf ov (.rate n) = if 300 < n then [V.int (-22)] else [nV (Kqv3.rate ov.table n)] := by
  unfold ansOf Kqv3.step
  dsimp only
  by_cases h : 300 < n
  · rw [if_pos h, if_pos h]
    rfl
  · rw [if_neg h, if_neg h]
    rfl
theorem ans_next {ov : Kqv3.Oven} : ansOf ov .next = nV (Kqv3.next ov ov.part.set).length :: (Kqv3.next ov ov.part.set).map nV := by
  unfold ansOf Kqv3.step
  dsimp only
  show V.int _ :: ((Kqv3.next ov ov.part.set).map fun (x : Nat) => (x : Int)).map V.int = _
  rw [tell_cons]
  rfl
theorem ans_safe {ov : Kqv3.Oven} {n : Nat} : ansOf ov (.safe n) = if 300 < n then [V.int (-22)] else [if Kqv3.cool ov n ov.part = true then V.int 1 else V.int 0] := by
  unfold ansOf Kqv3.step
  dsimp only
  by_cases h : 300 < n
  · rw [if_pos h, if_pos h]
    rfl
  · rw [if_neg h, if_neg h]
    cases Kqv3.cool ov n ov.part <;> rfl
theorem ans_need {ov : Kqv3.Oven} {n : Nat} : ansOf ov (.need n) = if 60 < n then [V.int (-22)] else match Kqv3.need ov n with
    | none => [V.int (-33)]
    | some x => [nV x] := by
  unfold ansOf Kqv3.step
  dsimp only
  by_cases h : 60 < n
  · rw [if_pos h, if_pos h]
    rfl
  · rw [if_neg h, if_neg h]
    cases Kqv3.need ov n <;> rfl
theorem soonW_mem (M : Mo) : ∀ (n : Nat) (ys : List Wy) (y : Wy), soonW M n ys = some y → ∃ i, i ≤ n ∧ y ∈ iterW M i ys
  | 0, ys, y, h => ⟨0, Nat.le_refl _, List.mem_of_find?_eq_some h⟩
  | n + 1, ys, y, h => by
    rw [soonW] at h
    cases e : ys.find? curB with
    | some z =>
      rw [e] at h
      cases h
      exact ⟨0, Nat.zero_le _, List.mem_of_find?_eq_some e⟩
    | none =>
      rw [e] at h
      obtain ⟨i, hi, hm⟩ := soonW_mem M n (longer M ys) y h
      exact ⟨i + 1, Nat.succ_le_succ hi, hm⟩
theorem best_mem {l : List Wy} {y : Wy} (h : bestW l = some y) : y ∈ l := by
  rcases best_parts l with ⟨_, h2⟩ | ⟨z, l1, l2, h1, h2, _⟩
  · rw [h2] at h
    cases h
  · rw [h1] at h
    cases h
    rw [h2]
    simp

section
variable {P : Program} {w : World} {K : PySem.W.Frag} {mg : Str → Option Value} {base : Heap}
theorem sc_soonest : FnScope ["oven", "given", "minutes", "way"] ["oven", "given"] (defScope s_soonest) := ⟨rfl, rfl, rfl, by decide +kernel, rfl, by decide +kernel, by decide +kernel⟩
theorem has_soonest (zlen : mg "len" = none) (g1 : GInt mg "LONGEST_SEARCH" 6) (g2 : GInt mg "OUT_OF_BOUNDS" (-22)) (g3 : GInt mg "NOT_IN_TIME" (-33)) (h1 : Has P w K mg base "soonest_way" ["mould", "part", "point", "minutes"] 5 (spSoonW K))
    (D : Def K mg "soonest" s_soonest ["oven", "given"]) : Has P w K mg base "soonest" ["oven", "given"] 6 (spLook1 K .soonest) := D.has fun f fd F => by
  refine F.ok sc_soonest (fun vs H Q E h => ?_) (fun cdv A outer s H vs Q E hr h => ?_)
  · obtain ⟨o, g, M, wc, s, n, ov, rfl, _⟩ := h
    rfl
  · obtain ⟨o, g, M, wc, s, n, ov, rfl, hO, t, hg, k⟩ := h
    obtain ⟨⟨m, fm, hM⟩, ⟨p, fp, hP⟩, fs⟩ := hO
    refine ⟨_, pss_cons (ps_set (i := 2) sc_soonest.nd rfl (Or.inl rfl) (pe_ix ix_list (pv 1) pe_int (fun _ _ => rfl)))
      (pss_cons (ps_if (pt_cmpR op_gt (pv 2) (pe_gint g1 rfl) (nomark _)) (pss_one (ps_ret (pe_lst (pa_cons (pe_gint g2 rfl) pa_nil)))) pss_nil)
      (pss_cons (ps_set (i := 3) sc_soonest.nd rfl (Or.inl rfl) (pe_callH h1 hr rfl (pa_cons (pe_fl (pv 0)) (pa_cons (pe_fl (pv 0)) (pa_cons (pe_fl (pv 0)) (pa_cons (pv 2) pa_nil))))))
      (pss_cons (ps_if (pt_cmp (pc_isN (pv 3))) (pss_one (ps_ret (pe_lst (pa_cons (pe_gint g3 rfl) pa_nil)))) pss_nil)
      (pss_one (ps_ret (pe_op op_cat (pe_lst (pa_cons (pe_callB call_len_seq rfl zlen b_len (pa_cons (pe_fl (pv 3)) pa_nil)) pa_nil)) (pe_fl (pv 3)))))))), ?_⟩
    refine ⟨_, rfl, g, _, _, nV n, rfl, rfl, hg, rfl, ?_⟩
    refine ⟨_, rfl, _, _, rfl, rfl, _, rfl, ?_⟩
    refine ite2 (fun c => ?_) (fun c => ?_)
    · have c : 6 < n := by have := of_decide_eq_true c; omega
      refine ⟨(by show 1 ≤ sizeLine; decide), fun q hq => k _ q (Same.upd hq) hq ?_⟩
      rw [upd_same, ans_soonest, if_pos c]
    have c : ¬ 6 < n := fun z => c (decide_eq_true (by omega))
    have es := soonest_eq t.m ov.part n
    rw [t.part] at es
    have es : Kqv3.soonest ov ⟨wc.1, s, wc.2⟩ n = (soonW M n [⟨[], s, wc⟩]).map (·.prog) := es
    refine ⟨_, rfl, o, _, rfl, fm, _, rfl, o, _, rfl, fp, _, rfl, o, _, rfl, fs, _, rfl, m, p, M, wc, s, n, rfl, hM, t.ok, hP, by omega, fun H1 v s1 hb => ?_⟩
    refine ⟨_, rfl, _, rfl, ?_⟩
    cases hw : soonW M n [⟨[], s, wc⟩] with
    | none =>
      rw [hw] at hb es
      have hb : v = .non := hb
      subst hb
      refine iteT ?_
      refine ⟨(by show 1 ≤ sizeLine; decide), fun q hq => k _ q (s1.trans (Same.upd hq)) (s1.free hq) ?_⟩
      rw [upd_same, ans_soonest, if_neg c, t.part, es]
      rfl
    | some y =>
      rw [hw] at hb es
      obtain ⟨a, rfl, wy⟩ := hb
      obtain ⟨l, fl, hl⟩ := wy.programme
      have hyl : y.prog.length ≤ 6 := by
        obtain ⟨i, hi, hm⟩ := soonW_mem M n _ _ hw
        rw [iter_prog M rfl i y hm]
        omega
      refine iteF ?_
      refine ⟨_, rfl, a, _, rfl, fl, l, _, rfl, .inl (SqL.of hl), (by show 1 ≤ sizeLine; decide), fun l1 hl1 => ?_⟩
      have t1 := Same.upd (o := .lst [V.int ((y.prog.map nV).length : Int)]) hl1
      refine ⟨_, rfl, a, _, rfl, fl.same t1, l1, l, _, _, rfl, rfl, upd_same, t1 _ _ hl, (by rw [List.length_map]; exact Nat.le_trans (show 1 + y.prog.length ≤ 7 by omega) (by decide)), fun q hq => ?_⟩
      have s2 := s1.trans t1
      refine k _ q (s2.trans (Same.upd hq)) (s2.free hq) ?_
      rw [upd_same, ans_soonest, if_neg c, t.part, es, List.length_map]
      rfl

theorem sc_farthest : FnScope ["oven", "given", "minutes", "way"] ["oven", "given"] (defScope s_farthest) := ⟨rfl, rfl, rfl, by decide +kernel, rfl, by decide +kernel, by decide +kernel⟩
theorem has_farthest (g1 : GInt mg "LONGEST_SEARCH" 6) (g2 : GInt mg "OUT_OF_BOUNDS" (-22)) (g3 : GInt mg "NOT_IN_TIME" (-33)) (h1 : Has P w K mg base "farthest_way" ["mould", "part", "point", "minutes"] 5 (spFarW K))
    (D : Def K mg "farthest" s_farthest ["oven", "given"]) : Has P w K mg base "farthest" ["oven", "given"] 6 (spLook1 K .farthest) := D.has fun f fd F => by
  refine F.ok sc_farthest (fun vs H Q E h => ?_) (fun cdv A outer s H vs Q E hr h => ?_)
  · obtain ⟨o, g, M, wc, s, n, ov, rfl, _⟩ := h
    rfl
  · obtain ⟨o, g, M, wc, s, n, ov, rfl, hO, t, hg, k⟩ := h
    obtain ⟨⟨m, fm, hM⟩, ⟨p, fp, hP⟩, fs⟩ := hO
    refine ⟨_, pss_cons (ps_set (i := 2) sc_farthest.nd rfl (Or.inl rfl) (pe_ix ix_list (pv 1) pe_int (fun _ _ => rfl)))
      (pss_cons (ps_if (pt_cmpR op_gt (pv 2) (pe_gint g1 rfl) (nomark _)) (pss_one (ps_ret (pe_lst (pa_cons (pe_gint g2 rfl) pa_nil)))) pss_nil)
      (pss_cons (ps_set (i := 3) sc_farthest.nd rfl (Or.inl rfl) (pe_callH h1 hr rfl (pa_cons (pe_fl (pv 0)) (pa_cons (pe_fl (pv 0)) (pa_cons (pe_fl (pv 0)) (pa_cons (pv 2) pa_nil))))))
      (pss_cons (ps_if (pt_cmp (pc_isN (pv 3))) (pss_one (ps_ret (pe_lst (pa_cons (pe_gint g3 rfl) pa_nil)))) pss_nil)
      (pss_one (ps_ret (pe_op op_cat (pe_lst (pa_cons (pe_fl (pe_fl (pv 3))) pa_nil)) (pe_fl (pv 3)))))))), ?_⟩
    refine ⟨_, rfl, g, _, _, nV n, rfl, rfl, hg, rfl, ?_⟩
    refine ⟨_, rfl, _, _, rfl, rfl, _, rfl, ?_⟩
    refine ite2 (fun c => ?_) (fun c => ?_)
    · have c : 6 < n := by have := of_decide_eq_true c; omega
      refine ⟨(by show 1 ≤ sizeLine; decide), fun q hq => k _ q (Same.upd hq) hq ?_⟩
      rw [upd_same, ans_farthest, if_pos c]
    have c : ¬ 6 < n := fun z => c (decide_eq_true (by omega))
    have es := farthest_eq t.m ov.part n
    rw [t.part] at es
    have es : Kqv3.farthest ov ⟨wc.1, s, wc.2⟩ n = (bestW (iterW M n [⟨[], s, wc⟩])).map fun y => (y.wc.2, y.prog) := es
    refine ⟨_, rfl, o, _, rfl, fm, _, rfl, o, _, rfl, fp, _, rfl, o, _, rfl, fs, _, rfl, m, p, M, wc, s, n, rfl, hM, t.ok, hP, by omega, fun H1 v s1 hb => ?_⟩
    refine ⟨_, rfl, _, rfl, ?_⟩
    cases hw : bestW (iterW M n [⟨[], s, wc⟩]) with
    | none =>
      rw [hw] at hb es
      have hb : v = .non := hb
      subst hb
      refine iteT ?_
      refine ⟨(by show 1 ≤ sizeLine; decide), fun q hq => k _ q (s1.trans (Same.upd hq)) (s1.free hq) ?_⟩
      rw [upd_same, ans_farthest, if_neg c, t.part, es]
      rfl
    | some y =>
      rw [hw] at hb es
      obtain ⟨a, rfl, wy⟩ := hb
      obtain ⟨l, fl, hl⟩ := wy.programme
      obtain ⟨p2, fp2, hp2⟩ := wy.part
      have hyl : y.prog.length ≤ 6 := by
        rw [iter_prog M rfl n y (best_mem hw)]
        omega
      refine iteF ?_
      refine ⟨_, rfl, a, _, rfl, fp2, p2, _, rfl, hp2.cure, (by show 1 ≤ sizeLine; decide), fun l1 hl1 => ?_⟩
      have t1 := Same.upd (o := .lst [nV y.wc.2]) hl1
      refine ⟨_, rfl, a, _, rfl, fl.same t1, l1, l, _, _, rfl, rfl, upd_same, t1 _ _ hl, (by rw [List.length_map]; exact Nat.le_trans (show 1 + y.prog.length ≤ 7 by omega) (by decide)), fun q hq => ?_⟩
      have s2 := s1.trans t1
      refine k _ q (s2.trans (Same.upd hq)) (s2.free hq) ?_
      rw [upd_same, ans_farthest, if_neg c, t.part, es]
      rfl

theorem sc_rate : FnScope ["oven", "given", "warmth"] ["oven", "given"] (defScope s_rate) := ⟨rfl, rfl, rfl, by decide +kernel, rfl, by decide +kernel, by decide +kernel⟩
theorem has_rate (g1 : GInt mg "MOST_WARMTH" 300) (g2 : GInt mg "OUT_OF_BOUNDS" (-22)) (h1 : Has P w K mg base "rate_at" ["mould", "warmth"] 1 (spRate K))
    (D : Def K mg "rate" s_rate ["oven", "given"]) : Has P w K mg base "rate" ["oven", "given"] 2 (spLook1 K .rate) := D.has fun f fd F => by
  refine F.ok sc_rate (fun vs H Q E h => ?_) (fun cdv A outer s H vs Q E hr h => ?_)
  · obtain ⟨o, g, M, wc, s, n, ov, rfl, _⟩ := h
    rfl
  · obtain ⟨o, g, M, wc, s, n, ov, rfl, hO, t, hg, k⟩ := h
    obtain ⟨⟨m, fm, hM⟩, ⟨p, fp, hP⟩, fs⟩ := hO
    refine ⟨_, pss_cons (ps_set (i := 2) sc_rate.nd rfl (Or.inl rfl) (pe_ix ix_list (pv 1) pe_int (fun _ _ => rfl)))
      (pss_cons (ps_if (pt_cmpR op_gt (pv 2) (pe_gint g1 rfl) (nomark _)) (pss_one (ps_ret (pe_lst (pa_cons (pe_gint g2 rfl) pa_nil)))) pss_nil)
      (pss_one (ps_ret (pe_lst (pa_cons (pe_callH h1 hr rfl (pa_cons (pe_fl (pv 0)) (pa_cons (pv 2) pa_nil))) pa_nil))))), ?_⟩
    refine ⟨_, rfl, g, _, _, nV n, rfl, rfl, hg, rfl, ?_⟩
    refine ⟨_, rfl, _, _, rfl, rfl, _, rfl, ?_⟩
    refine ite2 (fun c => ?_) (fun c => ?_)
    · have c : 300 < n := by have := of_decide_eq_true c; omega
      refine ⟨(by show 1 ≤ sizeLine; decide), fun q hq => k _ q (Same.upd hq) hq ?_⟩
      rw [upd_same, ans_rate, if_pos c]
    have c : ¬ 300 < n := fun z => c (decide_eq_true (by omega))
    refine ⟨_, rfl, o, _, rfl, fm, _, rfl, m, M, n, rfl, hM, t.ok.len, fun H1 s1 => ⟨(by show 1 ≤ sizeLine; decide), fun q hq => k _ q (s1.trans (Same.upd hq)) (s1.free hq) ?_⟩⟩
    rw [upd_same, ans_rate, if_neg c, t.m.table]

theorem sc_next_points : FnScope ["oven", "given", "points"] ["oven", "given"] (defScope s_next_points) := ⟨rfl, rfl, rfl, by decide +kernel, rfl, by decide +kernel, by decide +kernel⟩
theorem has_next_points (zlen : mg "len" = none) (h1 : Has P w K mg base "points_by_whole_steps" ["mould", "point"] 2 (spPoints K))
    (D : Def K mg "next_points" s_next_points ["oven", "given"]) : Has P w K mg base "next_points" ["oven", "given"] 3 (spLook0 K .next) := D.has fun f fd F => by
  refine F.ok sc_next_points (fun vs H Q E h => ?_) (fun cdv A outer s H vs Q E hr h => ?_)
  · obtain ⟨o, g, M, wc, s, ov, rfl, _⟩ := h
    rfl
  · obtain ⟨o, g, M, wc, s, ov, rfl, hO, t, k⟩ := h
    obtain ⟨⟨m, fm, hM⟩, ⟨p, fp, hP⟩, fs⟩ := hO
    refine ⟨_, pss_cons (ps_set (i := 2) sc_next_points.nd rfl (Or.inl rfl) (pe_callH h1 hr rfl (pa_cons (pe_fl (pv 0)) (pa_cons (pe_fl (pv 0)) pa_nil))))
      (pss_one (ps_ret (pe_op op_cat (pe_lst (pa_cons (pe_callB call_len_seq rfl zlen b_len (pa_cons (pv 2) pa_nil)) pa_nil)) (pv 2)))), ?_⟩
    refine ⟨_, rfl, o, _, rfl, fm, _, rfl, o, _, rfl, fs, m, M, s, rfl, hM, fun H1 l s1 hl0 hl => ?_⟩
    refine ⟨_, rfl, l, _, rfl, .inl (SqL.of hl), (by show 1 ≤ sizeLine; decide), fun l1 hl1 => ?_⟩
    have t1 := Same.upd (o := .lst [V.int (((nextM M s).map nV).length : Int)]) hl1
    refine ⟨_, rfl, l1, l, _, _, rfl, rfl, upd_same, t1 _ _ hl, (by rw [List.length_map]; exact Nat.le_trans (show 1 + (nextM M s).length ≤ 4 by have := nextM_len M s; omega) (by decide)), fun q hq => ?_⟩
    have s2 := s1.trans t1
    refine k _ q (s2.trans (Same.upd hq)) (s2.free hq) ?_
    rw [upd_same, ans_next, next_eq t.m, t.part, List.length_map]
    rfl

theorem sc_safe : FnScope ["oven", "given", "minutes"] ["oven", "given"] (defScope s_safe) := ⟨rfl, rfl, rfl, by decide +kernel, rfl, by decide +kernel, by decide +kernel⟩
theorem has_safe (g1 : GInt mg "MOST_MINUTES" 300) (g2 : GInt mg "OUT_OF_BOUNDS" (-22)) (h1 : Has P w K mg base "course_held" ["oven", "minutes"] 5 (spHeld K)) (h2 : Has P w K mg base "is_ever_too_hot" ["mould", "parts"] 2 (spTooHot K))
    (D : Def K mg "safe" s_safe ["oven", "given"]) : Has P w K mg base "safe" ["oven", "given"] 6 (spLook1 K .safe) := D.has fun f fd F => by
  refine F.ok sc_safe (fun vs H Q E h => ?_) (fun cdv A outer s H vs Q E hr h => ?_)
  · obtain ⟨o, g, M, wc, s, n, ov, rfl, _⟩ := h
    rfl
  · obtain ⟨o, g, M, wc, s, n, ov, rfl, hO, t, hg, k⟩ := h
    have hO' := hO
    obtain ⟨⟨m, fm, hM⟩, ⟨p, fp, hP⟩, fs⟩ := hO'
    refine ⟨_, pss_cons (ps_set (i := 2) sc_safe.nd rfl (Or.inl rfl) (pe_ix ix_list (pv 1) pe_int (fun _ _ => rfl)))
      (pss_cons (ps_if (pt_cmpR op_gt (pv 2) (pe_gint g1 rfl) (nomark _)) (pss_one (ps_ret (pe_lst (pa_cons (pe_gint g2 rfl) pa_nil)))) pss_nil)
      (pss_one (ps_ret (pe_lst (pa_cons (pe_ifExp (pt_val (pe_callH h2 (hr.mono (by decide)) rfl (pa_cons (pe_fl (pv 0)) (pa_cons (pe_callH h1 hr rfl (pa_cons (pv 0) (pa_cons (pv 2) pa_nil))) pa_nil)))) pe_int pe_int) pa_nil))))), ?_⟩
    refine ⟨_, rfl, g, _, _, nV n, rfl, rfl, hg, rfl, ?_⟩
    refine ⟨_, rfl, _, _, rfl, rfl, _, rfl, ?_⟩
    refine ite2 (fun c => ?_) (fun c => ?_)
    · have c : 300 < n := by have := of_decide_eq_true c; omega
      refine ⟨(by show 1 ≤ sizeLine; decide), fun q hq => k _ q (Same.upd hq) hq ?_⟩
      rw [upd_same, ans_safe, if_pos c]
    have c : ¬ 300 < n := fun z => c (decide_eq_true (by omega))
    refine ⟨_, rfl, o, _, rfl, fm, _, rfl, _, rfl, o, M, wc, s, n, rfl, hO, t.ok, by omega, fun H1 q as s1 hq hq' hA => ?_⟩
    refine ⟨m, q, M, as, _, rfl, hM.same s1, SqL.of hq', hA, (by rw [trail_len, List.length_replicate]; omega), fun H2 s2 => ⟨_, rfl, ?_⟩⟩
    have s12 := s1.trans s2
    have ec := cool_eq t.m n ov.part
    have hh := hot_trail (l := List.replicate n s) t.hot
    rw [t.part] at ec
    have ec : Kqv3.cool ov n ⟨wc.1, s, wc.2⟩ = !hotB M (trail M wc (List.replicate n s)) := by rw [hh]; exact ec
    show if hotB M (trail M wc (List.replicate n s)) = true then _ else _
    have fin : ∀ (q : Addr) (v : V), H2 q = none → v = (if Kqv3.cool ov n ov.part = true then V.int 1 else V.int 0) → Q (.ref q) (upd H2 q (.lst [v])) := fun q v hq e => by
      refine k _ q (s12.trans (Same.upd hq)) (s12.free hq) ?_
      rw [upd_same, ans_safe, if_neg c, e]
    refine ite2 (fun d => ?_) (fun d => ?_)
    · exact ⟨(by show 1 ≤ sizeLine; decide), fun q hq => fin q _ hq (by rw [t.part, ec, d]; rfl)⟩
    · rw [Bool.not_eq_true] at d
      exact ⟨(by show 1 ≤ sizeLine; decide), fun q hq => fin q _ hq (by rw [t.part, ec, d]; rfl)⟩

def needB (ov : Kqv3.Oven) (n x : Nat) : Bool := decide (Kqv3.CURED ≤ (Kqv3.after ov n { ov.part with set := x }).cure) && Kqv3.cool ov n { ov.part with set := x }
theorem need_some {ov : Kqv3.Oven} {n i : Nat} (hi : i < ov.high - ov.low + 1) (h : needB ov n (ov.low + i) = true) (hb : ∀ j, j < i → needB ov n (ov.low + j) = false) : Kqv3.need ov n = some (ov.low + i) := by
  unfold Kqv3.need
  rw [List.find?_map]
  have := find_first (f := fun i => needB ov n (ov.low + i)) hi h hb
  show Option.map (fun i => ov.low + i) ((List.range (ov.high - ov.low + 1)).find? fun i => needB ov n (ov.low + i)) = _
  rw [this]
  rfl
theorem need_none {ov : Kqv3.Oven} {n : Nat} (hb : ∀ j, j < ov.high - ov.low + 1 → needB ov n (ov.low + j) = false) : Kqv3.need ov n = none := by
  unfold Kqv3.need
  rw [List.find?_map]
  have := find_none (f := fun i => needB ov n (ov.low + i)) hb
  show Option.map (fun i => ov.low + i) ((List.range (ov.high - ov.low + 1)).find? fun i => needB ov n (ov.low + i)) = _
  rw [this]
  rfl
theorem need_eq {M : Mo} {wc : Nat × Nat} {s : Nat} {ov : Kqv3.Oven} (t : Stt M wc s ov) (n x : Nat) : needB ov n x = (decide (10000 ≤ (endP M wc (List.replicate n x)).2) && !hotB M (trail M wc (List.replicate n x))) := by
  have e1 := endP_rep t.m n ⟨wc.1, x, wc.2⟩
  have e2 := cool_eq t.m n ⟨wc.1, x, wc.2⟩
  have e1 : endP M wc (List.replicate n x) = ((Kqv3.after ov n ⟨wc.1, x, wc.2⟩).warm, (Kqv3.after ov n ⟨wc.1, x, wc.2⟩).cure) := e1
  have e2 : Kqv3.cool ov n ⟨wc.1, x, wc.2⟩ = !hotB M (trailT M wc (List.replicate n x)) := e2
  unfold needB
  rw [t.part, e1, hot_trail t.hot, ← e2]
  rfl
theorem sc_need : FnScope ["oven", "given", "minutes", "point", "parts"] ["oven", "given"] (defScope s_need) := ⟨rfl, rfl, rfl, by decide +kernel, rfl, by decide +kernel, by decide +kernel⟩
theorem has_need (zrange : mg "range" = none) (g1 : GInt mg "LONGEST_NEED" 60) (g2 : GInt mg "OUT_OF_BOUNDS" (-22)) (g3 : GInt mg "NOT_IN_TIME" (-33)) (h1 : Has P w K mg base "course" ["mould", "part", "programme"] 4 (spCourse K)) (h2 : Has P w K mg base "is_cured" ["part"] 1 (spIsCured K))
    (h3 : Has P w K mg base "is_ever_too_hot" ["mould", "parts"] 2 (spTooHot K)) (D : Def K mg "need" s_need ["oven", "given"]) : Has P w K mg base "need" ["oven", "given"] 5 (spLook1 K .need) := D.has fun f fd F => by
  refine F.ok sc_need (fun vs H Q E h => ?_) (fun cdv A outer s H vs Q E hr h => ?_)
  · obtain ⟨o, g, M, wc, s, n, ov, rfl, _⟩ := h
    rfl
  · obtain ⟨o, g, M, wc, s, n, ov, rfl, hO, t, hg, k⟩ := h
    obtain ⟨⟨m, fm, hM⟩, ⟨p, fp, hP⟩, fs⟩ := hO
    refine ⟨_, pss_cons (ps_set (i := 2) sc_need.nd rfl (Or.inl rfl) (pe_ix ix_list (pv 1) pe_int (fun _ _ => rfl)))
      (pss_cons (ps_if (pt_cmpR op_gt (pv 2) (pe_gint g1 rfl) (nomark _)) (pss_one (ps_ret (pe_lst (pa_cons (pe_gint g2 rfl) pa_nil)))) pss_nil)
      (pss_cons (ps_for PassesOwn.never rfl (pi_range2 rfl zrange (pa_cons (pe_fl (pe_fl (pv 0))) (pa_cons (pe_op op_add (pe_fl (pe_fl (pv 0))) pe_int) pa_nil))) (pg_name (i := 3) sc_need.nd rfl (Or.inl rfl))
        (pss_cons (ps_set (i := 4) sc_need.nd rfl (Or.inl rfl) (pe_callH h1 hr rfl (pa_cons (pe_fl (pv 0)) (pa_cons (pe_fl (pv 0)) (pa_cons (pe_op op_rep (pe_lst (pa_cons (pv 3) pa_nil)) (pv 2)) pa_nil)))))
        (pss_one (ps_if (PW.pt (pw_and (pt_val (pe_callH h2 (hr.mono (by decide)) rfl (pa_cons (pe_ix ix_list (pv 4) (pe_un un_neg pe_int) (fun _ _ => rfl)) pa_nil)))
          (pw_and1 (pt_not (pt_val (pe_callH h3 (hr.mono (by decide)) rfl (pa_cons (pe_fl (pv 0)) (pa_cons (pv 4) pa_nil)))))))) (pss_one (ps_ret (pe_lst (pa_cons (pv 3) pa_nil)))) pss_nil))))
      (pss_one (ps_ret (pe_lst (pa_cons (pe_gint g3 rfl) pa_nil)))))), ?_⟩
    refine ⟨_, rfl, g, _, _, nV n, rfl, rfl, hg, rfl, ?_⟩
    refine ⟨_, rfl, _, _, rfl, rfl, _, rfl, ?_⟩
    refine ite2 (fun c => ?_) (fun c => ?_)
    · have c : 60 < n := by have := of_decide_eq_true c; omega
      refine ⟨(by show 1 ≤ sizeLine; decide), fun q hq => k _ q (Same.upd hq) hq ?_⟩
      rw [upd_same, ans_need, if_pos c]
    have c : ¬ 60 < n := fun z => c (decide_eq_true (by omega))
    have l1 := t.ok.low
    have l2 := t.ok.high
    have eN : ((M.high : Int) + 1 - (M.low : Int)).toNat = ov.high - ov.low + 1 := by
      rw [t.m.high, t.m.low]
      omega
    refine ⟨_, rfl, o, _, rfl, fm, m, _, rfl, hM.low, _, rfl, o, _, rfl, fm, m, _, rfl, hM.high, _, _, rfl, rfl, _, _, rfl, ⟨by omega, by omega, by omega, by omega⟩, for_range (lo := (M.low : Int)) (n := ((M.high : Int) + 1 - (M.low : Int)).toNat)
      (fun i σ H' => ∃ (x y : Option V), σ = [some (.ref o), some (.ref g), some (nV n), x, y] ∧ Same H H' ∧ ∀ j, j < i → needB ov n (ov.low + j) = false)
      ⟨none, none, rfl, Same.refl _, fun j hj => absurd hj (Nat.not_lt_zero _)⟩ ?_ ?_⟩
    · rintro i σ H' hi ⟨x0, y0, rfl, s1, hb⟩
      rw [eN] at hi
      have ev : V.int ((M.low : Int) + (i : Int)) = nV (M.low + i) := by
        show V.int _ = V.int _
        congr 1
      rw [ev]
      generalize hx : M.low + i = x
      refine ⟨_, rfl, o, _, rfl, fm.same s1, _, rfl, o, _, rfl, fp.same s1, _, rfl, (by show 1 ≤ sizeLine; decide), fun l hl => ?_⟩
      refine ⟨_, rfl, l, _, _, rfl, rfl, upd_same, by omega, by omega, (by rw [Int.toNat_natCast]; exact Nat.le_trans (show [nV x].length * n ≤ 1000 by simp; omega) (by decide)), fun lb hlb => ?_⟩
      have u1 : Same H (upd H' l (.lst [nV x])) := s1.trans (Same.upd hl)
      have u2 : Same H (upd (upd H' l (.lst [nV x])) lb (.lst (List.replicate (n : Int).toNat [nV x]).flatten)) := u1.trans (Same.upd hlb)
      refine ⟨m, p, lb, M, wc, List.replicate n x, rfl, hM.same u2, t.ok, hP.same u2, SqL.of (by rw [upd_same, Int.toNat_natCast, rep_flat, List.map_replicate]), (by rw [List.length_replicate]; omega), fun H2 q as s3 hq hq' hA => ?_⟩
      obtain ⟨a, ha, pa⟩ := parts_last hA
      have s4 := u2.trans s3
      refine ⟨_, rfl, _, rfl, q, _, _, V.ref a, rfl, rfl, SqL.of hq', ha, a, _, rfl, pa, fun H3 s5 => ⟨_, rfl, ?_⟩⟩
      have s6 := s4.trans s5
      have eB := need_eq t n x
      have nextI : needB ov n (ov.low + i) = false → ∀ j, j < i + 1 → needB ov n (ov.low + j) = false := fun e j hj => by
        by_cases ej : j = i
        · subst ej
          exact e
        · exact hb j (by omega)
      have exi : ov.low + i = x := by rw [t.m.low]; exact hx
      by_cases c1 : 10000 ≤ (endP M wc (List.replicate n x)).2
      case neg =>
        rw [decide_eq_false c1] at eB ⊢
        refine iteF (iteF ?_)
        exact ⟨some (nV x), some (.ref q), rfl, s6, nextI (by rw [exi, eB]; rfl)⟩
      rw [decide_eq_true c1] at eB ⊢
      refine iteT ?_
      refine ⟨_, rfl, o, _, rfl, fm.same s6, _, rfl, m, q, M, as, _, rfl, hM.same s6, SqL.of (s5 _ _ hq'), hA.same s5, (by rw [trail_len, List.length_replicate]; omega), fun H4 s7 => ⟨_, rfl, ?_⟩⟩
      have s8 := s6.trans s7
      show if (!hotB M (trail M wc (List.replicate n x))) = true then _ else _
      refine ite2 (fun d => ?_) (fun d => ?_)
      · refine ⟨_, rfl, (by show 1 ≤ sizeLine; decide), fun q2 hq2 => ?_⟩
        refine k _ q2 (s8.trans (Same.upd hq2)) (s8.free hq2) ?_
        rw [upd_same, ans_need, if_neg c, need_some hi (by rw [exi, eB, d]; rfl) hb, exi]
      · rw [Bool.not_eq_true] at d
        exact ⟨some (nV x), some (.ref q), rfl, s8, nextI (by rw [exi, eB, d]; rfl)⟩
    · rintro σ H' ⟨x, y, rfl, s2, hb⟩
      rw [eN] at hb
      refine ⟨(by show 1 ≤ sizeLine; decide), fun q2 hq2 => ?_⟩
      refine k _ q2 (s2.trans (Same.upd hq2)) (s2.free hq2) ?_
      rw [upd_same, ans_need, if_neg c, need_none hb]
end
end Pw
end
section
set_option Elab.async false
set_option linter.all false
set_option maxRecDepth 100000
set_option maxHeartbeats 2000000
namespace Pw
open PySem PySem.Spec L2
/-! ### minutes that go by, beside the specification -/
theorem take_app_take {α : Type} : ∀ (A B : List α) (n m : Nat), n ≤ m → (A ++ B.take m).take n = (A ++ B).take n
  | [], B, n, m, h => by
    rw [List.nil_append, List.nil_append, List.take_take, Nat.min_eq_left h]
  | a :: A, B, 0, m, h => rfl
  | a :: A, B, n + 1, m, h => by
    rw [List.cons_append, List.cons_append, List.take_succ_cons, List.take_succ_cons, take_app_take A B n m (by omega)]
theorem follows_eq {M : Mo} : ∀ (l : List Nat) (o : Kqv3.Oven) (wc : Nat × Nat) (s : Nat), Match M o → o.past.length ≤ 100 → o.part = ⟨wc.1, s, wc.2⟩ →
    Kqv3.follows l o = { o with part := ⟨(endP M wc l).1, lst s l, (endP M wc l).2⟩, minute := o.minute + l.length, past := (((trailT M wc l).map (·.1)).reverse ++ o.past).take 100 }
  | [], o, wc, s, m, hp, h => by
    show o = _
    have e : (([] : List Nat) ++ o.past).take 100 = o.past := List.take_of_length_le hp
    have e1 : (((trailT M wc []).map (·.1)).reverse ++ o.past).take 100 = o.past := e
    have e2 : (⟨(endP M wc []).1, lst s [], (endP M wc []).2⟩ : Kqv3.Part) = o.part := h.symm
    rw [e1, e2]
    rfl
  | x :: l, o, wc, s, m, hp, h => by
    have mx : Match M { o with part := { o.part with set := x } } := ⟨m.lag, m.most, m.step, m.low, m.high, m.table⟩
    have et : Kqv3.tick { o with part := { o.part with set := x } } { o.part with set := x } = ⟨(tickP M wc x).1, x, (tickP M wc x).2⟩ := by
      rw [tick_eq mx, h]
    have e1 : Kqv3.passes 1 { o with part := { o.part with set := x } } = { o with part := ⟨(tickP M wc x).1, x, (tickP M wc x).2⟩, minute := o.minute + 1, past := ((tickP M wc x).1 :: o.past).take 100 } := by
      show ({ o with part := Kqv3.tick { o with part := { o.part with set := x } } { o.part with set := x }, minute := o.minute + 1, past := ((Kqv3.tick { o with part := { o.part with set := x } } { o.part with set := x }).warm :: o.past).take 100 } : Kqv3.Oven) = _
      rw [et]
    show Kqv3.follows l (Kqv3.passes 1 { o with part := { o.part with set := x } }) = _
    rw [e1]
    refine (follows_eq (M := M) l _ (tickP M wc x) x ?_ ?_ ?_).trans ?_
    · exact ⟨m.lag, m.most, m.step, m.low, m.high, m.table⟩
    · show (List.take 100 ((tickP M wc x).1 :: o.past)).length ≤ 100
      rw [List.length_take]
      exact Nat.min_le_left _ _
    · rfl
    have ep : (((trailT M (tickP M wc x) l).map (·.1)).reverse ++ ((tickP M wc x).1 :: o.past).take 100).take 100 = (((trailT M wc (x :: l)).map (·.1)).reverse ++ o.past).take 100 := by
      rw [take_app_take _ _ 100 100 (Nat.le_refl _)]
      show _ = (((tickP M wc x).1 :: (trailT M (tickP M wc x) l).map (·.1)).reverse ++ o.past).take 100
      rw [List.reverse_cons, List.append_assoc]
      rfl
    dsimp only
    rw [ep]
    have em : o.minute + 1 + l.length = o.minute + (x :: l).length := by rw [List.length_cons]; omega
    rw [em]
    rfl
theorem passes_eq : ∀ (n : Nat) (o : Kqv3.Oven), Kqv3.passes n o = Kqv3.follows (List.replicate n o.part.set) o
  | 0, o => rfl
  | n + 1, o => by
    rw [List.replicate_succ]
    exact passes_eq n { o with part := Kqv3.tick o o.part, minute := o.minute + 1, past := ((Kqv3.tick o o.part).warm :: o.past).take Kqv3.LOG }
theorem turn_rep {M : Mo} {s : Nat} (h : M.low ≤ s ∧ s ≤ M.high) : ∀ n, turnB M s (List.replicate n s) = true
  | 0 => rfl
  | n + 1 => by
    rw [List.replicate_succ, turnB, turn_rep h n, decide_eq_true h, decide_eq_true (show max s s - min s s ≤ M.step by omega)]
    rfl
theorem turn_last {M : Mo} : ∀ (l : List Nat) (s : Nat), M.low ≤ s ∧ s ≤ M.high → turnB M s l = true → M.low ≤ lst s l ∧ lst s l ≤ M.high
  | [], s, h, _ => h
  | x :: l, s, h, ht => by
    rw [turnB] at ht
    simp only [Bool.and_eq_true, decide_eq_true_eq] at ht
    exact turn_last l x ht.1.1 ht.2
theorem lst_snoc : ∀ (l : List Nat) (s x : Nat), lst s (l ++ [x]) = x
  | [], s, x => rfl
  | y :: l, s, x => lst_snoc l y x
theorem lst_last {l : List Nat} {s : Nat} (h : l ≠ []) : atI (l.map nV) (-1) = some (nV (lst s l)) := by
  obtain ⟨l', x, rfl⟩ : ∃ l' x, l = l' ++ [x] := ⟨l.dropLast, l.getLast h, (List.dropLast_concat_getLast h).symm⟩
  rw [lst_snoc, List.map_append]
  exact atI_last _ _
theorem lst_rep (s : Nat) : ∀ n, lst s (List.replicate n s) = s
  | 0 => rfl
  | n + 1 => lst_rep s n
theorem end_hot {M : Mo} : ∀ (l : List Nat) (wc : Nat × Nat), wc.1 ≤ M.most → hotB M (trailT M wc l) = false → (endP M wc l).1 ≤ M.most
  | [], wc, h, _ => h
  | x :: l, wc, h, hh => by
    have eh : hotB M (trailT M wc (x :: l)) = (decide (M.most < (tickP M wc x).1) || hotB M (trailT M (tickP M wc x) l)) := rfl
    rw [eh, Bool.or_eq_false_iff] at hh
    exact end_hot l (tickP M wc x) (Nat.le_of_not_lt (of_decide_eq_false hh.1)) hh.2
theorem end_cure {M : Mo} : ∀ (l : List Nat) (wc : Nat × Nat), wc.2 ≤ 10000 → (endP M wc l).2 ≤ 10000
  | [], wc, h => h
  | x :: l, wc, h => end_cure l (tickP M wc x) (by unfold tickP; exact Nat.min_le_left _ _)
/-- what a programme that does leaves -/
theorem run_some {M : Mo} {wc : Nat × Nat} {s : Nat} {ov : Kqv3.Oven} (t : Stt M wc s ov) {l : List Nat} (h : (turnB M s l && !hotB M (trail M wc l)) = true) :
    Kqv3.run ov l ov.part = some ⟨(endP M wc l).1, lst s l, (endP M wc l).2⟩ := by
  rw [hot_trail t.hot, Bool.and_eq_true] at h
  have hr := run_eq t.m l ov.part
  rw [t.part] at hr ⊢
  rcases hr with ⟨_, _, q, h3, h4, _⟩ | ⟨h3, _⟩
  · rw [h3]
    have e := run_set t.m l _ q h3
    have h4 : (q.warm, q.cure) = endP M wc l := h4
    rw [← h4]
    have e : q.set = lst s l := e
    rw [← e]
  · rcases h3 with z | z
    · have z : turnB M s l = false := z
      rw [z] at h
      cases h.1
    · have z : hotB M (trailT M wc l) = true := z
      rw [z] at h
      cases h.2
theorem run_none {M : Mo} {wc : Nat × Nat} {s : Nat} {ov : Kqv3.Oven} (t : Stt M wc s ov) {l : List Nat} (h : (turnB M s l && !hotB M (trail M wc l)) = false) : Kqv3.run ov l ov.part = none := by
  rw [hot_trail t.hot] at h
  have hr := run_eq t.m l ov.part
  rw [t.part] at hr ⊢
  rcases hr with ⟨h1, h2, _⟩ | ⟨_, h3⟩
  · have h1 : turnB M s l = true := h1
    have h2 : hotB M (trailT M wc l) = false := h2
    rw [h1, h2] at h
    cases h
  · exact h3
theorem stt_follows {M : Mo} {wc : Nat × Nat} {s : Nat} {ov : Kqv3.Oven} (t : Stt M wc s ov) (hp : ov.past.length ≤ 100) {l : List Nat} (h : (turnB M s l && !hotB M (trail M wc l)) = true) :
    Stt M (endP M wc l) (lst s l) (Kqv3.follows l ov) := by
  rw [follows_eq l ov wc s t.m hp t.part]
  rw [hot_trail t.hot, Bool.and_eq_true] at h
  refine ⟨⟨t.m.lag, t.m.most, t.m.step, t.m.low, t.m.high, t.m.table⟩, rfl, t.ok, end_hot l wc t.hot ?_, end_cure l wc t.cure, turn_last l s t.pt h.1⟩
  have := h.2
  cases e : hotB M (trailT M wc l) with
  | false => rfl
  | true =>
    rw [e] at this
    cases this
theorem cool_run {M : Mo} {wc : Nat × Nat} {s : Nat} {ov : Kqv3.Oven} (t : Stt M wc s ov) (n : Nat) : (turnB M s (List.replicate n s) && !hotB M (trail M wc (List.replicate n s))) = Kqv3.cool ov n ov.part := by
  have ec := cool_eq t.m n ov.part
  rw [t.part] at ec ⊢
  rw [hot_trail t.hot, turn_rep t.pt, Bool.true_and]
  exact ec.symm
theorem cut_last (l : List V) : cutV l (some (-100)) none = l.drop (l.length - 100) := by
  have e : HT.sIx l.length 0 (some (-100)) = l.length - 100 := by
    show (if (-100 : Int) < 0 then ((-100 : Int) + (l.length : Int)).toNat else min (-100 : Int).toNat l.length) = _
    rw [if_pos (by decide)]
    omega
  unfold cutV
  rw [e, HT.sIx_none, List.take_of_length_le (by rw [List.length_drop]; omega)]
theorem at_back {l : List Nat} {n : Nat} (h : n < l.length) : atI (l.map nV) (-1 - (n : Int)) = some (nV (l[l.length - 1 - n]'(by omega))) ∧ l.reverse[n]? = some (l[l.length - 1 - n]'(by omega)) := by
  constructor
  · unfold atI
    have e : ixN (l.map nV).length (-1 - (n : Int)) = some (l.length - 1 - n) := by
      unfold ixN
      rw [List.length_map]
      rw [if_neg (by omega), if_pos (by omega)]
      congr 1
      omega
    rw [e]
    show (l.map nV)[l.length - 1 - n]? = _
    rw [List.getElem?_map, List.getElem?_eq_getElem (by omega)]
    rfl
  · rw [List.getElem?_reverse h, List.getElem?_eq_getElem]
theorem past_eq (A ws : List Nat) : (A.reverse ++ ws.reverse).take 100 = ((ws ++ A).drop ((ws ++ A).length - 100)).reverse := by
  rw [← List.reverse_append, List.take_reverse]
end Pw
end
section
set_option Elab.async false
set_option linter.all false
set_option maxRecDepth 100000
set_option maxHeartbeats 2000000
namespace Pw
open PySem PySem.Spec L2
/-! ### the oven with all its fields -/
structure ClO (K : PySem.W.Frag) (C : Addr) : Prop where
  cl : Cls K C
  n1 : NoAttr K C "mould"
  n2 : NoAttr K C "part"
  n3 : NoAttr K C "point"
  n4 : NoAttr K C "minutes"
  n5 : NoAttr K C "log"
def oF (mv pv : V) (s n : Nat) (lg : Addr) : List (Str × V) := [("mould", mv), ("part", pv), ("point", nV s), ("minutes", nV n), ("log", .ref lg)]
structure OvB (K : PySem.W.Frag) (C : Addr) (G : Hp) (o : Addr) (ov : Kqv3.Oven) (dx m p lg : Addr) (M : Mo) (wc : Nat × Nat) (s : Nat) (ws : List Nat) : Prop where
  obj : G o = some (.ins C dx (oF (.ref m) (.ref p) s ov.minute lg))
  mould : MouldAt K G m M
  part : PartAt K G p wc
  stt : Stt M wc s ov
  log : G lg = some (.lst (ws.map nV))
  past : ov.past = ws.reverse
  few : ws.length ≤ 100
def OvAt (K : PySem.W.Frag) (C : Addr) (G : Hp) (o : Addr) (ov : Kqv3.Oven) : Prop := ∃ dx m p lg M wc s ws, OvB K C G o ov dx m p lg M wc s ws
def StAt (K : PySem.W.Frag) (C : Addr) (G : Hp) (o : Addr) : Option Kqv3.Oven → Prop
  | none => ∃ dx pv s n lg, G o = some (.ins C dx (oF .non pv s n lg))
  | some ov => OvAt K C G o ov
section
variable {K : PySem.W.Frag} {C : Addr} {G G' H H' : Hp} {o m p lg dx t r : Addr} {ov : Kqv3.Oven} {M : Mo} {wc : Nat × Nat} {s : Nat} {ws : List Nat}
theorem OvB.same (e : Same G G') (h : OvB K C G o ov dx m p lg M wc s ws) : OvB K C G' o ov dx m p lg M wc s ws :=
  ⟨e _ _ h.obj, h.mould.same e, h.part.same e, h.stt, e _ _ h.log, h.past, h.few⟩
theorem OvAt.same (e : Same G G') (h : OvAt K C G o ov) : OvAt K C G' o ov :=
  let ⟨dx, m, p, lg, M, wc, s, ws, B⟩ := h; ⟨dx, m, p, lg, M, wc, s, ws, B.same e⟩
theorem StAt.same {st : Option Kqv3.Oven} (e : Same G G') (h : StAt K C G o st) : StAt K C G' o st := by
  cases st with
  | none => exact let ⟨dx, pv, s, n, lg, q⟩ := h; ⟨dx, pv, s, n, lg, e _ _ q⟩
  | some ov => exact OvAt.same e h
theorem StAt.obj {st : Option Kqv3.Oven} (h : StAt K C G o st) : ∃ dx mv pv s n lg, G o = some (.ins C dx (oF mv pv s n lg)) := by
  cases st with
  | none => exact let ⟨dx, pv, s, n, lg, q⟩ := h; ⟨dx, _, pv, s, n, lg, q⟩
  | some ov => exact let ⟨dx, m, p, lg, M, wc, s, ws, B⟩ := h; ⟨dx, _, _, s, _, lg, B.obj⟩
theorem OvB.fm (T : ClO K C) (h : OvB K C G o ov dx m p lg M wc s ws) : FldAt K G o "mould" (.ref m) := ⟨C, dx, _, h.obj, T.cl, T.n1, rfl⟩
theorem OvB.fp (T : ClO K C) (h : OvB K C G o ov dx m p lg M wc s ws) : FldAt K G o "part" (.ref p) := ⟨C, dx, _, h.obj, T.cl, T.n2, rfl⟩
theorem OvB.fs (T : ClO K C) (h : OvB K C G o ov dx m p lg M wc s ws) : FldAt K G o "point" (nV s) := ⟨C, dx, _, h.obj, T.cl, T.n3, rfl⟩
theorem OvB.fn (T : ClO K C) (h : OvB K C G o ov dx m p lg M wc s ws) : FldAt K G o "minutes" (nV ov.minute) := ⟨C, dx, _, h.obj, T.cl, T.n4, rfl⟩
theorem OvB.fg (T : ClO K C) (h : OvB K C G o ov dx m p lg M wc s ws) : FldAt K G o "log" (.ref lg) := ⟨C, dx, _, h.obj, T.cl, T.n5, rfl⟩
theorem OvB.ovR (T : ClO K C) (h : OvB K C G o ov dx m p lg M wc s ws) : OvR K G o M wc s := ⟨⟨m, h.fm T, h.mould⟩, ⟨p, h.fp T, h.part⟩, h.fs T⟩
theorem MouldAt.sb {mv pv : V} {n : Nat} (hr : G o = some (.ins C dx (oF mv pv s n lg))) (e : Sb o G G') (h : MouldAt K G m M) : MouldAt K G' m M := by
  obtain ⟨h1, h2, h3, h4, h5, ⟨l6, h6, g6⟩, ⟨l7, h7, g7⟩⟩ := h
  exact ⟨h1.sb hr rfl e, h2.sb hr rfl e, h3.sb hr rfl e, h4.sb hr rfl e, h5.sb hr rfl e, ⟨l6, h6.sb hr rfl e, e.seq hr g6⟩, ⟨l7, h7.sb hr rfl e, e.seq hr g7⟩⟩
theorem PartAt.sb {mv pv : V} {n : Nat} (hr : G o = some (.ins C dx (oF mv pv s n lg))) (e : Sb o G G') (h : PartAt K G p wc) : PartAt K G' p wc := ⟨h.warmth.sb hr rfl e, h.cure.sb hr rfl e⟩
theorem PartsAt.sb {mv pv : V} {n : Nat} {as : List Addr} {tr : List (Nat × Nat)} (hr : G o = some (.ins C dx (oF mv pv s n lg))) (e : Sb o G G') (h : PartsAt K G as tr) : PartsAt K G' as tr :=
  ⟨h.len, fun i wc q => let ⟨a, e1, e2⟩ := h.at_ i wc q; ⟨a, e1, e2.sb hr e⟩⟩
theorem PartsAt.tail {as : List Addr} {x : Nat × Nat} {tr : List (Nat × Nat)} (h : PartsAt K G as (x :: tr)) : PartsAt K G (as.drop 1) tr :=
  ⟨by rw [List.length_drop, h.len]; rfl, fun i wc q => by
    obtain ⟨a, e1, e2⟩ := h.at_ (i + 1) wc q
    exact ⟨a, by rw [List.getElem?_drop, Nat.add_comm]; exact e1, e2⟩⟩

/-! ### beside the list that is told and the reader -/
noncomputable def er2 (t r : Addr) (H : Hp) : Hp := er t (er r H)
theorem er2_same (t r : Addr) (H : Hp) : Same (er2 t r H) H := (er_same _ _).trans (er_same _ _)
theorem er2_sb (e : Sb o H H') : Sb o (er2 t r H) (er2 t r H') := er_sb (er_sb e)
theorem er2_mono (e : Same H H') : Same (er2 t r H) (er2 t r H') := er_mono (er_mono e)
theorem er2_ne {a : Addr} (h1 : a ≠ t) (h2 : a ≠ r) : er2 t r H a = H a := (er_ne h1).trans (er_ne h2)
theorem er2_out {a : Addr} {x : HO} (h : er2 t r H a = some x) : a ≠ t ∧ a ≠ r := by
  refine ⟨fun z => ?_, fun z => ?_⟩
  · subst z
    rw [er2, er_self] at h
    cases h
  · subst z
    rw [er2, er_none er_self] at h
    cases h
theorem er2_old {a : Addr} {x : HO} (h : er2 t r H a = some x) : er2 t r H' a = H' a := er2_ne (er2_out h).1 (er2_out h).2
/-- a list, and a reader -/
structure TR (H : Hp) (t r : Addr) : Prop where
  l : ∃ xs, H t = some (.lst xs)
  r : ∃ C dx a j, H r = some (.ins C dx (rF a j))
theorem TR.same (e : Same H H') (h : TR H t r) : TR H' t r := by
  obtain ⟨⟨xs, h1⟩, C, dx, a, j, h2⟩ := h
  exact ⟨⟨xs, e _ _ h1⟩, C, dx, a, j, e _ _ h2⟩
theorem TR.sb (e : Sb o H H') (n1 : o ≠ t) (n2 : o ≠ r) (h : TR H t r) : TR H' t r := by
  obtain ⟨⟨xs, h1⟩, C, dx, a, j, h2⟩ := h
  exact ⟨⟨xs, e _ _ h1 n1.symm⟩, C, dx, a, j, e _ _ h2 n2.symm⟩
theorem TR.new {a : Addr} (h : TR H t r) (e : H a = none) : a ≠ t ∧ a ≠ r := by
  obtain ⟨⟨xs, h1⟩, C, dx, b, j, h2⟩ := h
  exact ⟨(ne_of_none h1 e).symm, (ne_of_none h2 e).symm⟩
theorem TR.fld {a : Addr} {f : Str} {v : V} (h : TR H t r) (e : FldAt K H a f v) (hf : ∀ b j, (rF b j).lookup f = none) : FldAt K (er2 t r H) a f v := by
  obtain ⟨⟨xs, h1⟩, C, dx, b, j, h2⟩ := h
  obtain ⟨C', dx', fs, e1, e2, e3, e4⟩ := e
  have n1 : a ≠ t := ne_of e1 h1 (by intro z; cases z)
  have n2 : a ≠ r := fun z => by
    subst z
    rw [e1] at h2
    cases h2
    rw [hf] at e4
    cases e4
  exact ⟨C', dx', fs, by rw [er2_ne n1 n2]; exact e1, e2, e3, e4⟩
theorem TR.part (h : TR H t r) (e : PartAt K H p wc) : PartAt K (er2 t r H) p wc := ⟨h.fld e.warmth fun _ _ => rfl, h.fld e.cure fun _ _ => rfl⟩
theorem OvB.put (B : OvB K C (er2 t r H) o ov dx m p lg M wc s ws) (e : Sb o H H') {p' lg' : Addr} {wc' : Nat × Nat} {s' : Nat} {ws' : List Nat} {ov' : Kqv3.Oven} (eo : H' o = some (.ins C dx (oF (.ref m) (.ref p') s' ov'.minute lg')))
    (hP : PartAt K (er2 t r H') p' wc') (hS : Stt M wc' s' ov') (hl : er2 t r H' lg' = some (.lst (ws'.map nV))) (hp : ov'.past = ws'.reverse) (hf : ws'.length ≤ 100) : OvAt K C (er2 t r H') o ov' :=
  ⟨dx, m, p', lg', M, wc', s', ws', ⟨by rw [er2_old B.obj]; exact eo, B.mould.sb B.obj (er2_sb e), hP, hS, hl, hp, hf⟩⟩
theorem OvB.part2 (B : OvB K C (er2 t r H) o ov dx m p lg M wc s ws) (e : Sb o H H') : PartAt K (er2 t r H') p wc := B.part.sb B.obj (er2_sb e)
theorem OvB.log2 (B : OvB K C (er2 t r H) o ov dx m p lg M wc s ws) (e : Sb o H H') : er2 t r H' lg = some (.lst (ws.map nV)) := er2_sb e _ _ B.log (ne_of B.log B.obj (by intro z; cases z))
end

/-! ### the promises -/
def Post (K : PySem.W.Frag) (C t r o : Addr) (H : Hp) (Q : VK) (st : Option Kqv3.Oven) (ans : List V) : Prop :=
  ∀ (H' : Hp) (q : Addr), Sb o H H' → H q = none → StAt K C (er2 t r H') o st → H' q = some (.lst ans) → Q (.ref q) H'
theorem Post.keep {K : PySem.W.Frag} {C t r o : Addr} {H H' : Hp} {Q : VK} {st : Option Kqv3.Oven} {ans xs : List V} {q : Addr} (k : Post K C t r o H Q st ans) (h : StAt K C (er2 t r H) o st) (e : Same H H') (hq : H' q = none) (he : xs = ans := by rfl) : Q (.ref q) (upd H' q (.lst xs)) :=
  k _ q (e.trans (Same.upd hq)).but (e.free hq) (h.same (er2_mono (e.trans (Same.upd hq)))) (by rw [upd_same, he])
def spAct1 (K : PySem.W.Frag) (C : Addr) (c : Nat → Kqv3.Call) : Sp := fun vs H Q _ => ∃ (o g t r : Addr) (n : Nat) (ov : Kqv3.Oven), vs = [.ref o, .ref g] ∧ TR H t r ∧ OvAt K C (er2 t r H) o ov ∧ SqL K H g [nV n] ∧
  Post K C t r o H Q (Kqv3.step (some ov) (c n)).1 (ansOf ov (c n))
def spAct0 (K : PySem.W.Frag) (C : Addr) (c : Kqv3.Call) : Sp := fun vs H Q _ => ∃ (o g t r : Addr) (ov : Kqv3.Oven), vs = [.ref o, .ref g] ∧ TR H t r ∧ OvAt K C (er2 t r H) o ov ∧
  Post K C t r o H Q (Kqv3.step (some ov) c).1 (ansOf ov c)
def spActL (K : PySem.W.Frag) (C : Addr) (c : List Nat → Kqv3.Call) : Sp := fun vs H Q _ => ∃ (o g l t r : Addr) (ts : List Nat) (ov : Kqv3.Oven), vs = [.ref o, .ref g] ∧ TR H t r ∧ OvAt K C (er2 t r H) o ov ∧ SqL K H g [.ref l] ∧ SqL K H l (ts.map nV) ∧ ts.length ≤ 60 ∧
  Post K C t r o H Q (Kqv3.step (some ov) (c ts)).1 (ansOf ov (c ts))
def spStart (K : PySem.W.Frag) (C : Addr) : Sp := fun vs H Q _ => ∃ (o g l1 l2 t r : Addr) (M : Mo) (st : Option Kqv3.Oven), vs = [.ref o, .ref g] ∧ TR H t r ∧ StAt K C (er2 t r H) o st ∧
  SqL K H g [nV M.lag, nV M.most, nV M.step, nV M.low, nV M.high, .ref l1, .ref l2] ∧ SqL K (er2 t r H) l1 (M.warms.map nV) ∧ SqL K (er2 t r H) l2 (M.rates.map nV) ∧
  Post K C t r o H Q (Kqv3.step st (.start M.lag M.most M.step M.low M.high M.warms M.rates)).1 ((Kqv3Neutral.tell (Kqv3.step st (.start M.lag M.most M.step M.low M.high M.warms M.rates)).2).map V.int)
def spOven (K : PySem.W.Frag) (C : Addr) : Sp := fun vs H Q _ => ∃ (p dx : Addr), vs = [.ref p] ∧ H p = some (.ins C dx []) ∧ ∀ (H' : Hp) (lg : Addr), H' p = some (.ins C dx (oF .non .non 0 0 lg)) → Sb p H H' → Q .non H'
def spCarry (K : PySem.W.Frag) (C : Addr) : Sp := fun vs H Q _ => ∃ (o l t r : Addr) (ts : List Nat) (ov : Kqv3.Oven), vs = [.ref o, .ref l] ∧ TR H t r ∧ OvAt K C (er2 t r H) o ov ∧ SqL K H l (ts.map nV) ∧ ts.length ≤ 300 ∧ ts ≠ [] ∧
  (Kqv3.run ov ts ov.part = none → Post K C t r o H Q (some ov) [V.int (-62)]) ∧ (∀ p, Kqv3.run ov ts ov.part = some p → Post K C t r o H Q (some (Kqv3.follows ts ov)) [nV p.warm, nV p.cure])

section
variable {P : Program} {w : World} {K : PySem.W.Frag} {mg : Str → Option Value} {base : Heap}
theorem sc_Oven_init : FnScope ["self"] ["self"] (defScope s_Oven_init) := ⟨rfl, rfl, rfl, by decide +kernel, rfl, by decide +kernel, by decide +kernel⟩
theorem has_Oven {C : Addr} (T : ClO K C) (D : CDef K mg "Oven" "Oven.__init__" C s_Oven_init ["self"]) : CHas P w K mg base "Oven" C ["self"] 1 (spOven K C) := D.has fun f fd F => by
  refine F.ok sc_Oven_init (fun vs H Q E h => ?_) (fun cdv A outer s H vs Q E hr h => ?_)
  · obtain ⟨p, dx, rfl, _⟩ := h
    rfl
  · obtain ⟨p, dx, rfl, hp, k⟩ := h
    refine ⟨_, pss_cons (ps_fld (pv 0) pe_non rfl) (pss_cons (ps_fld (pv 0) pe_non rfl) (pss_cons (ps_fld (pv 0) pe_int rfl) (pss_cons (ps_fld (pv 0) pe_int rfl) (pss_one (ps_fld (pv 0) (pe_lst pa_nil) rfl))))), ?_⟩
    refine ⟨_, rfl, p, C, dx, [], rfl, hp, T.cl, T.n1, (by decide), ?_⟩
    refine ⟨_, rfl, p, C, dx, _, rfl, upd_same, T.cl, T.n2, (by show 1 < 1000; decide), ?_⟩
    rw [upd_upd]
    refine ⟨_, rfl, p, C, dx, _, rfl, upd_same, T.cl, T.n3, (by show 2 < 1000; decide), ?_⟩
    rw [upd_upd]
    refine ⟨_, rfl, p, C, dx, _, rfl, upd_same, T.cl, T.n4, (by show 3 < 1000; decide), ?_⟩
    rw [upd_upd]
    refine ⟨Nat.zero_le _, fun lg hlg => ?_⟩
    have n : p ≠ lg := ne_of_none upd_same hlg
    refine ⟨_, rfl, p, C, dx, _, rfl, (by rw [upd_ne n]; exact upd_same), T.cl, T.n5, (by show 4 < 1000; decide), ?_⟩
    exact k _ lg upd_same (((Sb.upd _ _ _).trans (Same.upd hlg).but).trans (Sb.upd _ _ _))

theorem ans_set {ov : Kqv3.Oven} {x : Nat} : (Kqv3.step (some ov) (.set x) = if x < ov.low ∨ ov.high < x then (some ov, .num (-22)) else if Kqv3.may ov ov.part.set x = false then (some ov, .num (-13)) else (some { ov with part := { ov.part with set := x } }, .num ov.part.set)) := rfl
theorem sc_set_to : FnScope ["oven", "given", "point", "before"] ["oven", "given"] (defScope s_set_to) := ⟨rfl, rfl, rfl, by decide +kernel, rfl, by decide +kernel, by decide +kernel⟩
theorem has_set_to {C : Addr} (T : ClO K C) (g1 : GInt mg "OUT_OF_BOUNDS" (-22)) (g2 : GInt mg "MAY_NOT_GO" (-13)) (h1 : Has P w K mg base "is_point" ["mould", "point"] 1 (spIsPoint K)) (h2 : Has P w K mg base "may_go" ["mould", "point", "other"] 1 (spMayGo K))
    (D : Def K mg "set_to" s_set_to ["oven", "given"]) : Has P w K mg base "set_to" ["oven", "given"] 2 (spAct1 K C .set) := D.has fun f fd F => by
  refine F.ok sc_set_to (fun vs H Q E h => ?_) (fun cdv A outer s H vs Q E hr h => ?_)
  · obtain ⟨o, g, t, r, n, ov, rfl, _⟩ := h
    rfl
  · obtain ⟨o, g, t, r, x, ov, rfl, hT, hO, hg, k⟩ := h
    have hO' := hO
    obtain ⟨dx, m, p, lg, M, wc, s, ws, B0⟩ := hO'
    have B := B0.same (er2_same t r H)
    have st := B0.stt
    refine ⟨_, pss_cons (ps_set (i := 2) sc_set_to.nd rfl (Or.inl rfl) (pe_ix ix_list (pv 1) pe_int (fun _ _ => rfl)))
      (pss_cons (ps_set (i := 3) sc_set_to.nd rfl (Or.inl rfl) (pe_fl (pv 0)))
      (pss_cons (ps_if (pt_not (pt_val (pe_callH h1 hr rfl (pa_cons (pe_fl (pv 0)) (pa_cons (pv 2) pa_nil))))) (pss_one (ps_ret (pe_lst (pa_cons (pe_gint g1 rfl) pa_nil)))) pss_nil)
      (pss_cons (ps_if (pt_not (pt_val (pe_callH h2 hr rfl (pa_cons (pe_fl (pv 0)) (pa_cons (pv 3) (pa_cons (pv 2) pa_nil)))))) (pss_one (ps_ret (pe_lst (pa_cons (pe_gint g2 rfl) pa_nil)))) pss_nil)
      (pss_cons (ps_fld (pv 0) (pv 2) rfl)
      (pss_one (ps_ret (pe_lst (pa_cons (pv 3) pa_nil)))))))), ?_⟩
    unfold ansOf at k
    rw [ans_set] at k
    have hlo := st.m.low
    have hhi := st.m.high
    refine ⟨_, rfl, g, _, _, nV x, rfl, rfl, hg, rfl, ?_⟩
    refine ⟨_, rfl, o, _, rfl, B.fs T, ?_⟩
    refine ⟨_, rfl, o, _, rfl, B.fm T, _, rfl, m, M, x, rfl, B.mould, fun H1 s1 => ⟨_, rfl, ?_⟩⟩
    by_cases c1 : M.low ≤ x ∧ x ≤ M.high
    case neg =>
      rw [if_pos (by omega)] at k
      rw [decide_eq_false c1]
      exact iteT ⟨(by show 1 ≤ sizeLine; decide), fun q hq => k.keep hO s1 hq⟩
    rw [if_neg (by omega)] at k
    rw [decide_eq_true c1]
    refine iteF ?_
    refine ⟨_, rfl, o, _, rfl, (B.same s1).fm T, _, rfl, _, rfl, m, M, s, x, rfl, B.mould.same s1, fun H2 s2 => ⟨_, rfl, ?_⟩⟩
    have s12 := s1.trans s2
    have es : ov.part.set = s := by rw [st.part]
    have em : Kqv3.may ov ov.part.set x = decide (max s x - min s x ≤ M.step) := by
      unfold Kqv3.may
      rw [st.m.low, st.m.high, st.m.step, decide_eq_true c1.1, decide_eq_true c1.2, es]
      rfl
    rw [em] at k
    by_cases c2 : max s x - min s x ≤ M.step
    case neg =>
      rw [decide_eq_false c2, if_pos rfl] at k
      rw [decide_eq_false c2]
      exact iteT ⟨(by show 1 ≤ sizeLine; decide), fun q hq => k.keep hO s12 hq⟩
    rw [decide_eq_true c2, if_neg (by decide)] at k
    rw [decide_eq_true c2]
    refine iteF ?_
    refine ⟨_, rfl, _, rfl, o, C, dx, _, rfl, (B.same s12).obj, T.cl, T.n3, (by show 5 < 1000; decide), ?_⟩
    refine ⟨_, rfl, (by show 1 ≤ sizeLine; decide), fun q hq => ?_⟩
    have sb := (s12.but.trans (Sb.upd o H2 (.ins C dx (oF (.ref m) (.ref p) x ov.minute lg)))).trans (Same.upd (o := .lst [nV s]) hq).but
    have nq : o ≠ q := ne_of_none upd_same hq
    refine k _ q sb (((s12.but.trans (Sb.upd o H2 (.ins C dx (oF (.ref m) (.ref p) x ov.minute lg)))).free nq.symm hq)) (B0.put sb (wc' := wc) (s' := x) (ws' := ws) (by rw [upd_ne nq]; exact upd_same) (B0.part2 sb) ?_ (B0.log2 sb) B0.past B0.few) ?_
    · exact ⟨⟨st.m.lag, st.m.most, st.m.step, st.m.low, st.m.high, st.m.table⟩, by show Kqv3.Part.mk _ _ _ = _; rw [st.part], st.ok, st.hot, st.cure, c1⟩
    · rw [upd_same, es]
      rfl

theorem sc_new_part : FnScope ["oven", "given", "fresh", "cure"] ["oven", "given"] (defScope s_new_part) := ⟨rfl, rfl, rfl, by decide +kernel, rfl, by decide +kernel, by decide +kernel⟩
theorem ans_part {ov : Kqv3.Oven} {x : Nat} : (Kqv3.step (some ov) (.part x) = if ov.most < x then (some ov, .num (-22)) else (some { ov with part := ⟨x, ov.part.set, 0⟩ }, .num ov.part.cure)) := rfl
theorem has_new_part {C CP : Addr} (T : ClO K C) (TP : ClP K CP) (g1 : GInt mg "OUT_OF_BOUNDS" (-22)) (h1 : CHas P w K mg base "Part" CP ["self", "warmth", "cure"] 1 (spPart K)) (h2 : Has P w K mg base "is_too_hot" ["mould", "part"] 1 (spHot1 K))
    (D : Def K mg "new_part" s_new_part ["oven", "given"]) : Has P w K mg base "new_part" ["oven", "given"] 3 (spAct1 K C .part) := D.has fun f fd F => by
  refine F.ok sc_new_part (fun vs H Q E h => ?_) (fun cdv A outer s H vs Q E hr h => ?_)
  · obtain ⟨o, g, t, r, n, ov, rfl, _⟩ := h
    rfl
  · obtain ⟨o, g, t, r, x, ov, rfl, hT, hO, hg, k⟩ := h
    have hO' := hO
    obtain ⟨dx, m, p, lg, M, wc, s, ws, B0⟩ := hO'
    have B := B0.same (er2_same t r H)
    have st := B0.stt
    refine ⟨_, pss_cons (ps_set (i := 2) sc_new_part.nd rfl (Or.inl rfl) (pe_makeH h1 hr rfl (pa_cons (pe_ix ix_list (pv 1) pe_int (fun _ _ => rfl)) (pa_cons pe_int pa_nil))))
      (pss_cons (ps_if (pt_val (pe_callH h2 (hr.mono (by decide)) rfl (pa_cons (pe_fl (pv 0)) (pa_cons (pv 2) pa_nil)))) (pss_one (ps_ret (pe_lst (pa_cons (pe_gint g1 rfl) pa_nil)))) pss_nil)
      (pss_cons (ps_set (i := 3) sc_new_part.nd rfl (Or.inl rfl) (pe_fl (pe_fl (pv 0))))
      (pss_cons (ps_fld (pv 0) (pv 2) rfl)
      (pss_one (ps_ret (pe_lst (pa_cons (pv 3) pa_nil))))))), ?_⟩
    unfold ansOf at k
    rw [ans_part] at k
    have hmo := st.m.most
    refine ⟨_, rfl, g, _, _, nV x, rfl, rfl, hg, rfl, ?_⟩
    intro nx dp hnx hdp hne
    refine ⟨nx, CP, dp, (x, 0), rfl, upd_same, TP, fun H1 hP kp => ⟨rfl, ?_⟩⟩
    have s1 := Same.made hnx hdp kp
    refine ⟨_, rfl, o, _, rfl, (B.same s1).fm T, _, rfl, m, nx, M, _, rfl, B.mould.same s1, hP, fun H2 s2 => ⟨_, rfl, ?_⟩⟩
    have s12 := s1.trans s2
    have B2 := B.same s12
    by_cases c : M.most < x
    · rw [if_pos (show ov.most < x by omega)] at k
      rw [decide_eq_true (show M.most < ((x, 0) : Nat × Nat).1 from c)]
      exact iteT ⟨(by show 1 ≤ sizeLine; decide), fun q hq => k.keep hO s12 hq⟩
    rw [if_neg (show ¬ ov.most < x by omega)] at k
    rw [decide_eq_false (show ¬ M.most < ((x, 0) : Nat × Nat).1 from c)]
    refine iteF ?_
    refine ⟨_, rfl, o, _, rfl, B2.fp T, p, _, rfl, B2.part.cure, ?_⟩
    refine ⟨_, rfl, _, rfl, o, C, dx, _, rfl, B2.obj, T.cl, T.n2, (by show 5 < 1000; decide), ?_⟩
    refine ⟨_, rfl, (by show 1 ≤ sizeLine; decide), fun q hq => ?_⟩
    have sb := (s12.but.trans (Sb.upd o H2 (.ins C dx (oF (.ref m) (.ref nx) s ov.minute lg)))).trans (Same.upd (o := .lst [nV wc.2]) hq).but
    have nq : o ≠ q := ne_of_none upd_same hq
    have no := er2_out B0.obj
    have hP4 := ((hP.same s2).sb B2.obj (Sb.upd o H2 (.ins C dx (oF (.ref m) (.ref nx) s ov.minute lg)))).same (Same.upd (o := .lst [nV wc.2]) hq)
    refine k _ q sb (((s12.but.trans (Sb.upd o H2 (.ins C dx (oF (.ref m) (.ref nx) s ov.minute lg)))).free nq.symm hq)) (B0.put sb (wc' := (x, 0)) (s' := s) (ws' := ws) (by rw [upd_ne nq]; exact upd_same) ((hT.sb sb no.1 no.2).part hP4) ?_ (B0.log2 sb) B0.past B0.few) ?_
    · exact ⟨⟨st.m.lag, st.m.most, st.m.step, st.m.low, st.m.high, st.m.table⟩, by show Kqv3.Part.mk _ _ _ = _; rw [st.part], st.ok, Nat.le_of_not_lt c, Nat.zero_le _, st.pt⟩
    · rw [upd_same, st.part]
      rfl

theorem sc_carry_out : FnScope ["oven", "programme", "parts", "warmths", "part"] ["oven", "programme"] (defScope s_carry_out) := ⟨rfl, rfl, rfl, by decide +kernel, rfl, by decide +kernel, by decide +kernel⟩
theorem has_carry_out {C : Addr} (T : ClO K C) (zlen : mg "len" = none) (g1 : GInt mg "DOES_NOT_DO" (-62)) (g2 : GInt mg "LONGEST_LOG" 100) (h1 : Has P w K mg base "course_that_does" ["oven", "programme"] 5 (spDoes K)) (h2 : Has P w K mg base "told_of" ["part"] 1 (spTold K))
    (D : Def K mg "carry_out" s_carry_out ["oven", "programme"]) : Has P w K mg base "carry_out" ["oven", "programme"] 6 (spCarry K C) := D.has fun f fd F => by
  refine F.ok sc_carry_out (fun vs H Q E h => ?_) (fun cdv A outer s H vs Q E hr h => ?_)
  · obtain ⟨o, l, t, r, ts, ov, rfl, _⟩ := h
    rfl
  · obtain ⟨o, l, t, r, ts, ov, rfl, hT, hO, hl, hlen, hne, kN, kY⟩ := h
    have hO' := hO
    obtain ⟨dx, m, p, lg, M, wc, s, ws, B0⟩ := hO'
    have B := B0.same (er2_same t r H)
    have st := B0.stt
    refine ⟨_, pss_cons (ps_set (i := 2) sc_carry_out.nd rfl (Or.inl rfl) (pe_callH h1 hr rfl (pa_cons (pv 0) (pa_cons (pv 1) pa_nil))))
      (pss_cons (ps_if (pt_cmp (pc_isN (pv 2))) (pss_one (ps_ret (pe_lst (pa_cons (pe_gint g1 rfl) pa_nil)))) pss_nil)
      (pss_cons (ps_fld (pv 0) (pe_ix ix_list (pv 2) (pe_un un_neg pe_int) (fun _ _ => rfl)) rfl)
      (pss_cons (ps_fld (pv 0) (pe_ix ix_list (pv 1) (pe_un un_neg pe_int) (fun _ _ => rfl)) rfl)
      (pss_cons (ps_fldaug (pv 0) (pe_callB call_len_seq rfl zlen b_len (pa_cons (pv 1) pa_nil)) in_add)
      (pss_cons (ps_setLc (i := 3) (te := tFl K (tVar 4) "warmth") rfl sc_carry_out.nd rfl rfl rfl (pi_list (pe_slice sl_list (pv 2) (po_some pe_int) po_none))
        (blkOk_by (own := [("part", 4)]) (by rfl)) (fun s H C cl fp => pg_name (i := 4) sc_carry_out.nd rfl (Or.inl rfl) (Or.inr rfl))
        (fun _ _ _ _ _ => pts_nil) (fun _ _ _ _ _ => pe_fl (pv 4)))
      (pss_cons (ps_fld (pv 0) (pe_slice sl_list (pe_op op_cat (pe_fl (pv 0)) (pv 3)) (po_some (pe_un un_neg (pe_gint g2 rfl))) po_none) rfl)
      (pss_one (ps_ret (pe_callH h2 (hr.mono (by decide)) rfl (pa_cons (pe_fl (pv 0)) pa_nil)))))))))), ?_⟩
    refine ⟨_, rfl, _, rfl, o, l, M, wc, s, ts, rfl, B.ovR T, st.ok, hl, by omega, fun H1 s1 hb => ?_, fun H1 q as s1 hb hq hq' hA => ?_⟩
    · refine ⟨_, rfl, _, rfl, ?_⟩
      refine iteT ?_
      exact ⟨(by show 1 ≤ sizeLine; decide), fun q hq => (kN (run_none st hb)).keep hO s1 hq⟩
    have k := kY _ (run_some st hb)
    refine ⟨_, rfl, _, rfl, ?_⟩
    refine iteF ?_
    have B1 := B.same s1
    obtain ⟨a, ha, pa⟩ := parts_last hA
    refine ⟨_, rfl, _, rfl, q, _, _, V.ref a, rfl, rfl, SqL.of hq', ha, _, rfl, o, C, dx, _, rfl, B1.obj, T.cl, T.n2, (by show 5 < 1000; decide), ?_⟩
    have hl1 := (Sb.upd o H1 (.ins C dx (oF (.ref m) (.ref a) s ov.minute lg))).seq B1.obj (s1.seq hl)
    refine ⟨_, rfl, _, rfl, l, _, _, nV (lst s ts), rfl, rfl, hl1, lst_last hne, _, rfl, o, C, dx, _, rfl, upd_same, T.cl, T.n3, (by show 5 < 1000; decide), ?_⟩
    rw [upd_upd]
    have hl2 := (Sb.upd o H1 (.ins C dx (oF (.ref m) (.ref a) (lst s ts) ov.minute lg))).seq B1.obj (s1.seq hl)
    refine ⟨_, rfl, o, C, dx, _, _, rfl, upd_same, T.cl, T.n4, rfl, _, rfl, l, _, rfl, .inl hl2, _, _, rfl, rfl, dx, _, upd_same, (by show 5 < 1000; decide), ?_⟩
    rw [upd_upd]
    have em : V.int ((ov.minute : Int) + ((ts.map nV).length : Int)) = nV (ov.minute + ts.length) := by
      rw [List.length_map]
      show V.int _ = V.int _
      congr 1
    generalize hHc : upd H1 o _ = Hc
    have eHc : Hc o = some (.ins C dx (oF (.ref m) (.ref a) (lst s ts) (ov.minute + ts.length) lg)) := by
      rw [← hHc, upd_same]
      unfold oF
      rw [← em]
      rfl
    have sc : Sb o H1 Hc := by
      rw [← hHc]
      exact Sb.upd _ _ _
    have noq : q ≠ o := ne_of hq' B1.obj (by intro z; cases z)
    have hqc := sc _ _ hq' noq
    have hAc := hA.sb B1.obj sc
    rw [trail_cons] at hAc
    have hAt := hAc.tail
    refine ⟨_, rfl, _, rfl, q, _, rfl, SqL.of hqc, fun lp hlp => ?_⟩
    rw [drop1_cut, ← List.map_drop]
    have s2 : Same Hc (upd Hc lp (.lst ((as.drop 1).map V.ref))) := Same.upd hlp
    refine ⟨lp, rfl, ⟨_, SqL.of upd_same⟩, fun D hD => ?_⟩
    generalize htr : trailT M wc ts = tr at hAt
    have ltr : tr.length ≤ 300 := by
      have h7 := trail_len M ts wc
      rw [trail_cons, htr, List.length_cons] at h7
      omega
    have hAd := hAt.same s2
    have lAs : (as.drop 1).length = tr.length := hAt.len
    generalize hHd : upd Hc lp (.lst ((as.drop 1).map V.ref)) = Hd at s2 hD hAd
    have hlpd : Hd lp = some (.lst ((as.drop 1).map V.ref)) := by rw [← hHd]; exact upd_same
    refine lc_list (K := K) (a := lp) (xs := (as.drop 1).map V.ref)
      (fun i H' => Same Hd H' ∧ H' D = some (.lst (((tr.take i).map fun wc => wc.1).map nV)))
      ⟨Same.upd hD, upd_same⟩ (fun i H' _ ⟨s3, _⟩ => SqL.of (s3 _ _ hlpd)) ?_ ?_
    · rintro i x H' hx ⟨s3, hD'⟩
      obtain ⟨b, hb, rfl⟩ := at_map hx
      have hil : i < tr.length := by rw [← lAs]; exact (List.getElem?_eq_some_iff.mp hb).1
      have hti : tr[i]? = some tr[i] := by simp [hil]
      obtain ⟨b', hb', pb⟩ := hAd.at_ i tr[i] hti
      rw [hb] at hb'
      have eb : b = b' := Option.some.inj hb'
      subst eb
      refine ⟨rfl, _, rfl, b, _, rfl, (pb.same s3).warmth, _, hD', ?_, Same.updU hD s3, ?_⟩
      · rw [List.length_map, List.length_map, List.length_take]
        exact Nat.lt_of_le_of_lt (Nat.min_le_right _ _) (Nat.lt_of_le_of_lt ltr (by decide))
      · rw [upd_same, take_snoc hti, List.map_append, List.map_append]
        rfl
    · rintro H2 ⟨s3, hD'⟩
      rw [List.length_map, lAs, List.take_length] at hD'
      have s23 := s2.trans s3
      have eo2 := s23 _ _ eHc
      have nlo : lg ≠ o := ne_of B1.log B1.obj (by intro z; cases z)
      have hlg2 := s23 _ _ (sc _ _ B1.log nlo)
      refine ⟨_, rfl, o, _, rfl, ⟨C, dx, _, eo2, T.cl, T.n5, rfl⟩, _, rfl, lg, D, _, _, rfl, rfl, hlg2, hD', ?_, fun lc hlc => ?_⟩
      · rw [List.length_map, List.length_map, List.length_map]
        exact Nat.le_trans (Nat.add_le_add B0.few ltr) (by decide)
      have eC : ws.map nV ++ (tr.map fun wc => wc.1).map nV = (ws ++ tr.map fun wc => wc.1).map nV := by rw [List.map_append]
      rw [eC]
      have s4 : Same H2 (upd H2 lc (.lst ((ws ++ tr.map fun wc => wc.1).map nV))) := Same.upd hlc
      refine ⟨_, rfl, _, rfl, lc, _, rfl, SqL.of upd_same, fun ld hld => ?_⟩
      have eD : cutV ((ws ++ tr.map fun wc => wc.1).map nV) (some (-100)) none = ((ws ++ tr.map fun wc => wc.1).drop ((ws ++ tr.map fun wc => wc.1).length - 100)).map nV := by rw [cut_last, List.length_map, List.map_drop]
      rw [show cutV ((ws ++ tr.map fun wc => wc.1).map nV) (some (-(100 : Int))) none = _ from eD]
      generalize hws : (ws ++ tr.map fun wc => wc.1).drop ((ws ++ tr.map fun wc => wc.1).length - 100) = ws'
      have s5 := s4.trans (Same.upd (o := .lst (ws'.map nV)) hld)
      have eo5 := s5 _ _ eo2
      refine ⟨_, rfl, o, C, dx, _, rfl, eo5, T.cl, T.n5, (by show 5 < 1000; decide), ?_⟩
      generalize hHe : upd (upd H2 lc (.lst ((ws ++ tr.map fun wc => wc.1).map nV))) ld (.lst (ws'.map nV)) = He at s5 eo5
      have hldE : He ld = some (.lst (ws'.map nV)) := by rw [← hHe]; exact upd_same
      have sF : Sb o He (upd He o (.ins C dx (oF (.ref m) (.ref a) (lst s ts) (ov.minute + ts.length) ld))) := Sb.upd _ _ _
      have nld : ld ≠ o := ne_of hldE eo5 (by intro z; cases z)
      have hldF := sF _ _ hldE nld
      have paF : PartAt K (upd He o (.ins C dx (oF (.ref m) (.ref a) (lst s ts) (ov.minute + ts.length) ld))) a (endP M wc ts) := ((pa.sb B1.obj sc).same (s23.trans s5)).sb eo5 sF
      refine ⟨_, rfl, o, _, rfl, ⟨C, dx, _, upd_same, T.cl, T.n2, rfl⟩, a, _, rfl, paF, fun H9 q9 s9 hq9 hq9' => ?_⟩
      have sb0 : Sb o H (upd He o (.ins C dx (oF (.ref m) (.ref a) (lst s ts) (ov.minute + ts.length) ld))) := ((s1.but.trans sc).trans (s23.trans s5).but).trans sF
      have sb : Sb o H H9 := sb0.trans s9.but
      have no := er2_out B0.obj
      have hTR := hT.sb sb no.1 no.2
      have hfol := follows_eq ts ov wc s st.m (by rw [B0.past, List.length_reverse]; exact B0.few) st.part
      have nldt := hT.new (a := ld) (by
        cases e : H ld with
        | none => rfl
        | some x =>
          have h5 := (((s1.but.trans sc).trans (s23.trans s4).but) _ _ e nld)
          rw [hld] at h5
          cases h5)
      refine k H9 q9 sb (sb0.free (ne_of_none upd_same hq9).symm hq9) (B0.put sb (wc' := endP M wc ts) (s' := lst s ts) (ws' := ws') (lg' := ld) (p' := a) ?_ (hTR.part (paF.same s9)) (stt_follows st (by rw [B0.past, List.length_reverse]; exact B0.few) hb) ?_ ?_ ?_) hq9'
      · rw [s9 _ _ upd_same, hfol]
        rfl
      · rw [er2_ne nldt.1 nldt.2, s9 _ _ hldF]
      · rw [hfol]
        show (((trailT M wc ts).map (·.1)).reverse ++ ov.past).take 100 = ws'.reverse
        rw [B0.past, past_eq, htr, hws]
      · rw [← hws, List.length_drop]
        omega

theorem sc_pass_by : FnScope ["oven", "given", "minutes"] ["oven", "given"] (defScope s_pass_by) := ⟨rfl, rfl, rfl, by decide +kernel, rfl, by decide +kernel, by decide +kernel⟩
theorem ans_pass {ov : Kqv3.Oven} {n : Nat} : (Kqv3.step (some ov) (.pass n) = if n = 0 ∨ 300 < n then (some ov, .num (-22)) else if Kqv3.cool ov n ov.part = false then (some ov, .num (-62)) else (some (Kqv3.passes n ov), .some_ (Kqv3.after ov n ov.part).warm [(Kqv3.after ov n ov.part).cure])) := rfl
theorem has_pass_by {C : Addr} (T : ClO K C) (g1 : GInt mg "MOST_MINUTES" 300) (g2 : GInt mg "OUT_OF_BOUNDS" (-22)) (h1 : Has P w K mg base "carry_out" ["oven", "programme"] 6 (spCarry K C))
    (D : Def K mg "pass_by" s_pass_by ["oven", "given"]) : Has P w K mg base "pass_by" ["oven", "given"] 7 (spAct1 K C .pass) := D.has fun f fd F => by
  refine F.ok sc_pass_by (fun vs H Q E h => ?_) (fun cdv A outer s H vs Q E hr h => ?_)
  · obtain ⟨o, g, t, r, n, ov, rfl, _⟩ := h
    rfl
  · obtain ⟨o, g, t, r, n, ov, rfl, hT, hO, hg, k⟩ := h
    have hO' := hO
    obtain ⟨dx, m, p, lg, M, wc, s, ws, B0⟩ := hO'
    have B := B0.same (er2_same t r H)
    have st := B0.stt
    refine ⟨_, pss_cons (ps_set (i := 2) sc_pass_by.nd rfl (Or.inl rfl) (pe_ix ix_list (pv 1) pe_int (fun _ _ => rfl)))
      (pss_cons (ps_if (pt_not (pt_chain op_le op_le pe_int (pv 2) (pe_gint g1 rfl))) (pss_one (ps_ret (pe_lst (pa_cons (pe_gint g2 rfl) pa_nil)))) pss_nil)
      (pss_one (ps_ret (pe_callH h1 hr rfl (pa_cons (pv 0) (pa_cons (pe_op op_rep (pe_lst (pa_cons (pe_fl (pv 0)) pa_nil)) (pv 2)) pa_nil)))))), ?_⟩
    unfold ansOf at k
    rw [ans_pass] at k
    refine ⟨_, rfl, g, _, _, nV n, rfl, rfl, hg, rfl, ?_⟩
    refine ⟨_, rfl, _, _, rfl, rfl, _, rfl, ?_⟩
    refine chain_II ?_
    by_cases c1 : 1 ≤ n ∧ n ≤ 300
    case neg =>
      rw [if_pos (by omega)] at k
      have e1 : (decide ((1 : Int) ≤ (n : Int)) && decide ((n : Int) ≤ 300)) = false := by
        rw [← Bool.decide_and]
        exact decide_eq_false (by omega)
      rw [e1]
      exact iteT ⟨(by show 1 ≤ sizeLine; decide), fun q hq => k.keep hO (Same.refl _) hq⟩
    rw [if_neg (by omega)] at k
    have e1 : (decide ((1 : Int) ≤ (n : Int)) && decide ((n : Int) ≤ 300)) = true := by
      rw [← Bool.decide_and]
      exact decide_eq_true (by omega)
    rw [e1]
    refine iteF ?_
    refine ⟨_, rfl, _, rfl, o, _, rfl, B.fs T, (by show 1 ≤ sizeLine; decide), fun l hl => ?_⟩
    refine ⟨_, rfl, l, _, _, rfl, rfl, upd_same, by omega, by omega, (by rw [Int.toNat_natCast]; exact Nat.le_trans (show [nV s].length * n ≤ 1000 by simp; omega) (by decide)), fun l2 hl2 => ?_⟩
    have s1 : Same H (upd H l (.lst [nV s])) := Same.upd hl
    have s2 : Same H (upd (upd H l (.lst [nV s])) l2 (.lst (List.replicate (n : Int).toNat [nV s]).flatten)) := s1.trans (Same.upd hl2)
    have eset : ov.part.set = s := by rw [st.part]
    refine ⟨o, l2, t, r, List.replicate n s, ov, rfl, hT.same s2, hO.same (er2_mono s2), SqL.of (by rw [upd_same, Int.toNat_natCast, rep_flat, List.map_replicate]), (by rw [List.length_replicate]; omega), (by
      intro z
      have := congrArg List.length z
      rw [List.length_replicate] at this
      exact absurd this (by show ¬ n = 0; omega)), fun hr => ?_, fun pp hr => ?_⟩
    · have hc : Kqv3.cool ov n ov.part = false := by
        cases e : Kqv3.cool ov n ov.part with
        | false => rfl
        | true =>
          rw [run_some st ((cool_run st n).trans e)] at hr
          cases hr
      rw [if_pos hc] at k
      exact fun H' q e z a b => k H' q (s2.but.trans e) (s2.free z) a b
    · have hc : Kqv3.cool ov n ov.part = true := by
        cases e : Kqv3.cool ov n ov.part with
        | true => rfl
        | false =>
          rw [run_none st ((cool_run st n).trans e)] at hr
          cases hr
      rw [hc, if_neg (by decide), passes_eq, eset] at k
      rw [run_some st ((cool_run st n).trans hc)] at hr
      cases hr
      have ea := after_pair st n
      refine fun H' q e z a b => k H' q (s2.but.trans e) (s2.free z) a ?_
      rw [b, ea]
      rfl

theorem sc_follow : FnScope ["oven", "given", "programme"] ["oven", "given"] (defScope s_follow) := ⟨rfl, rfl, rfl, by decide +kernel, rfl, by decide +kernel, by decide +kernel⟩
theorem ans_follow {ov : Kqv3.Oven} {l : List Nat} : (Kqv3.step (some ov) (.follow l) = if l = [] ∨ 30 < l.length then (some ov, .num (-22)) else (match Kqv3.run ov l ov.part with
    | none => (some ov, .num (-62))
    | some p => (some (Kqv3.follows l ov), .some_ p.warm [p.cure]))) := rfl
theorem has_follow {C : Addr} (zlen : mg "len" = none) (g1 : GInt mg "LONGEST_PROGRAMME" 30) (g2 : GInt mg "OUT_OF_BOUNDS" (-22)) (h1 : Has P w K mg base "carry_out" ["oven", "programme"] 6 (spCarry K C))
    (D : Def K mg "follow" s_follow ["oven", "given"]) : Has P w K mg base "follow" ["oven", "given"] 7 (spActL K C .follow) := D.has fun f fd F => by
  refine F.ok sc_follow (fun vs H Q E h => ?_) (fun cdv A outer s H vs Q E hr h => ?_)
  · obtain ⟨o, g, l, t, r, ts, ov, rfl, _⟩ := h
    rfl
  · obtain ⟨o, g, l, t, r, ts, ov, rfl, hT, hO, hg, hl, hlen, k⟩ := h
    refine ⟨_, pss_cons (ps_set (i := 2) sc_follow.nd rfl (Or.inl rfl) (pe_ix ix_list (pv 1) pe_int (fun _ _ => rfl)))
      (pss_cons (ps_if (pt_not (pt_chain op_le op_le pe_int (pe_callB call_len_seq rfl zlen b_len (pa_cons (pv 2) pa_nil)) (pe_gint g1 rfl))) (pss_one (ps_ret (pe_lst (pa_cons (pe_gint g2 rfl) pa_nil)))) pss_nil)
      (pss_one (ps_ret (pe_callH h1 hr rfl (pa_cons (pv 0) (pa_cons (pv 2) pa_nil)))))), ?_⟩
    unfold ansOf at k
    rw [ans_follow] at k
    refine ⟨_, rfl, g, _, _, V.ref l, rfl, rfl, hg, rfl, ?_⟩
    refine ⟨_, rfl, l, _, rfl, .inl hl, _, _, rfl, rfl, _, rfl, ?_⟩
    refine chain_II ?_
    rw [List.length_map]
    have en : ts = [] ↔ ts.length = 0 := List.length_eq_zero_iff.symm
    by_cases c1 : 1 ≤ ts.length ∧ ts.length ≤ 30
    case neg =>
      rw [if_pos (by rw [en]; omega)] at k
      have e1 : (decide ((1 : Int) ≤ (ts.length : Int)) && decide ((ts.length : Int) ≤ 30)) = false := by
        rw [← Bool.decide_and]
        exact decide_eq_false (by omega)
      rw [e1]
      exact iteT ⟨(by show 1 ≤ sizeLine; decide), fun q hq => k.keep hO (Same.refl _) hq⟩
    rw [if_neg (by rw [en]; omega)] at k
    have e1 : (decide ((1 : Int) ≤ (ts.length : Int)) && decide ((ts.length : Int) ≤ 30)) = true := by
      rw [← Bool.decide_and]
      exact decide_eq_true (by omega)
    rw [e1]
    refine iteF ?_
    refine ⟨_, rfl, _, rfl, o, l, t, r, ts, ov, rfl, hT, hO, hl, by omega, (by rw [Ne, en]; omega), fun hr => ?_, fun pp hr => ?_⟩
    · rw [hr] at k
      exact k
    · rw [hr] at k
      exact k

theorem sc_look_back : FnScope ["oven", "given", "back"] ["oven", "given"] (defScope s_look_back) := ⟨rfl, rfl, rfl, by decide +kernel, rfl, by decide +kernel, by decide +kernel⟩
theorem ans_log {ov : Kqv3.Oven} {n : Nat} : ansOf ov (.log n) = match ov.past[n]? with
    | none => [V.int (-6)]
    | some w => [nV w] := by
  unfold ansOf Kqv3.step
  dsimp only
  cases ov.past[n]? <;> rfl
theorem has_look_back {C : Addr} (T : ClO K C) (zlen : mg "len" = none) (g1 : GInt mg "NONE_SO_FAR_BACK" (-6)) (D : Def K mg "look_back" s_look_back ["oven", "given"]) : Has P w K mg base "look_back" ["oven", "given"] 1 (spAct1 K C .log) := D.has fun f fd F => by
  refine F.ok sc_look_back (fun vs H Q E h => ?_) (fun cdv A outer s H vs Q E hr h => ?_)
  · obtain ⟨o, g, t, r, n, ov, rfl, _⟩ := h
    rfl
  · obtain ⟨o, g, t, r, n, ov, rfl, hT, hO, hg, k⟩ := h
    have hO' := hO
    obtain ⟨dx, m, p, lg, M, wc, s, ws, B0⟩ := hO'
    have B := B0.same (er2_same t r H)
    refine ⟨_, pss_cons (ps_set (i := 2) sc_look_back.nd rfl (Or.inl rfl) (pe_ix ix_list (pv 1) pe_int (fun _ _ => rfl)))
      (pss_cons (ps_if (pt_cmpR op_ge (pv 2) (pe_callB call_len_seq rfl zlen b_len (pa_cons (pe_fl (pv 0)) pa_nil)) (nomark _)) (pss_one (ps_ret (pe_lst (pa_cons (pe_gint g1 rfl) pa_nil)))) pss_nil)
      (pss_one (ps_ret (pe_lst (pa_cons (pe_ix ix_list (pe_fl (pv 0)) (pe_op op_sub (pe_un un_neg pe_int) (pv 2)) (fun _ _ => rfl)) pa_nil))))), ?_⟩
    rw [ans_log, B0.past] at k
    refine ⟨_, rfl, g, _, _, nV n, rfl, rfl, hg, rfl, ?_⟩
    refine ⟨_, rfl, _, rfl, o, _, rfl, B.fg T, lg, _, rfl, .inl (SqL.of B.log), _, _, rfl, rfl, _, rfl, ?_⟩
    refine ite2 (fun c => ?_) (fun c => ?_)
    · have c : ws.length ≤ n := by have := of_decide_eq_true c; rw [List.length_map] at this; omega
      rw [List.getElem?_eq_none (by rw [List.length_reverse]; exact c)] at k
      exact ⟨(by show 1 ≤ sizeLine; decide), fun q hq => k.keep hO (Same.refl _) hq⟩
    · have c : n < ws.length := Nat.lt_of_not_le fun z => c (decide_eq_true (by rw [List.length_map]; omega))
      obtain ⟨e1, e2⟩ := at_back c
      rw [e2] at k
      refine ⟨_, rfl, o, _, rfl, B.fg T, _, rfl, _, rfl, _, _, rfl, rfl, lg, _, _, _, rfl, rfl, SqL.of B.log, e1, (by show 1 ≤ sizeLine; decide), fun q hq => k.keep hO (Same.refl _) hq⟩

theorem sc_state : FnScope ["oven", "given"] ["oven", "given"] (defScope s_state) := ⟨rfl, rfl, rfl, by decide +kernel, rfl, by decide +kernel, by decide +kernel⟩
theorem ans_state {ov : Kqv3.Oven} : ansOf ov .state = [nV ov.minute, nV ov.part.warm, nV ov.part.set, nV ov.part.cure, nV ov.past.length] := rfl
theorem has_state {C : Addr} (T : ClO K C) (zlen : mg "len" = none) (D : Def K mg "state" s_state ["oven", "given"]) : Has P w K mg base "state" ["oven", "given"] 1 (spAct0 K C .state) := D.has fun f fd F => by
  refine F.ok sc_state (fun vs H Q E h => ?_) (fun cdv A outer s H vs Q E hr h => ?_)
  · obtain ⟨o, g, t, r, ov, rfl, _⟩ := h
    rfl
  · obtain ⟨o, g, t, r, ov, rfl, hT, hO, k⟩ := h
    have hO' := hO
    obtain ⟨dx, m, p, lg, M, wc, s, ws, B0⟩ := hO'
    have B := B0.same (er2_same t r H)
    refine ⟨_, pss_one (ps_ret (pe_lst (pa_cons (pe_fl (pv 0)) (pa_cons (pe_fl (pe_fl (pv 0))) (pa_cons (pe_fl (pv 0)) (pa_cons (pe_fl (pe_fl (pv 0))) (pa_cons (pe_callB call_len_seq rfl zlen b_len (pa_cons (pe_fl (pv 0)) pa_nil)) pa_nil))))))), ?_⟩
    rw [ans_state, B0.past, B0.stt.part, List.length_reverse] at k
    refine ⟨_, rfl, o, _, rfl, B.fn T, _, rfl, o, _, rfl, B.fp T, p, _, rfl, B.part.warmth, _, rfl, o, _, rfl, B.fs T, _, rfl, o, _, rfl, B.fp T, p, _, rfl, B.part.cure, _, rfl, o, _, rfl, B.fg T, lg, _, rfl, .inl (SqL.of B.log), (by show 5 ≤ sizeLine; decide), fun q hq => k.keep hO (Same.refl _) hq (by rw [List.length_map]; rfl)⟩

theorem told_start {M : Mo} (st : Option Kqv3.Oven) : Kqv3.step st (.start M.lag M.most M.step M.low M.high M.warms M.rates) = if toldB M = false then (st, .num (-22)) else (some ⟨M.lag, M.most, M.step, M.low, M.high, M.warms.zip M.rates, ⟨M.low, M.low, 0⟩, 0, []⟩, .num 0) := by
  have e : Kqv3.step st (.start M.lag M.most M.step M.low M.high M.warms M.rates) = if M.lag = 0 ∨ 50 < M.lag ∨ 300 < M.most ∨ M.step = 0 ∨ 100 < M.step ∨ M.high < M.low ∨ 300 < M.high ∨ M.most < M.low ∨ Kqv3.okTable M.warms M.rates = false then (st, .num (-22))
      else (some ⟨M.lag, M.most, M.step, M.low, M.high, M.warms.zip M.rates, ⟨M.low, M.low, 0⟩, 0, []⟩, .num 0) := by
    cases st <;> rfl
  rw [e]
  have hiff : (M.lag = 0 ∨ 50 < M.lag ∨ 300 < M.most ∨ M.step = 0 ∨ 100 < M.step ∨ M.high < M.low ∨ 300 < M.high ∨ M.most < M.low ∨ Kqv3.okTable M.warms M.rates = false) ↔ toldB M = false := by
    unfold toldB
    generalize Kqv3.okTable M.warms M.rates = b
    cases b with
    | false => simp
    | true =>
      simp only [Bool.and_true, Bool.and_eq_false_iff, decide_eq_false_iff_not, reduceCtorEq, or_false]
      omega
  by_cases c : toldB M = false
  · rw [if_pos c, if_pos (hiff.mpr c)]
  · rw [if_neg c, if_neg (fun z => c (hiff.mp z))]
theorem told_ok {M : Mo} (h : toldB M = true) : MoOk M ∧ M.low ≤ M.most := by
  unfold toldB at h
  simp only [Bool.and_eq_true, decide_eq_true_eq] at h
  obtain ⟨⟨⟨⟨⟨⟨h1, h2⟩, h3⟩, h4⟩, h5⟩, h6⟩, h7⟩ := h
  refine ⟨⟨h1.1, h1.2, ?_, h5, h4⟩, h6⟩
  unfold Kqv3.okTable at h7
  simp only [Bool.and_eq_true, decide_eq_true_eq] at h7
  exact h7.1.1.1.1.1
theorem sc_start : FnScope ["oven", "given", "mould"] ["oven", "given"] (defScope s_start) := ⟨rfl, rfl, rfl, by decide +kernel, rfl, by decide +kernel, by decide +kernel⟩
theorem has_start {C CM CP : Addr} (T : ClO K C) (TM : ClM K CM) (TP : ClP K CP) (g1 : GInt mg "OUT_OF_BOUNDS" (-22)) (h1 : CHas P w K mg base "Mould" CM ["self", "lag", "most", "step", "low", "high", "warms", "rates"] 1 (spMould K))
    (h2 : Has P w K mg base "is_as_told" ["mould"] 2 (spIsAsTold K)) (h3 : CHas P w K mg base "Part" CP ["self", "warmth", "cure"] 1 (spPart K))
    (D : Def K mg "start" s_start ["oven", "given"]) : Has P w K mg base "start" ["oven", "given"] 3 (spStart K C) := D.has fun f fd F => by
  refine F.ok sc_start (fun vs H Q E h => ?_) (fun cdv A outer s H vs Q E hr h => ?_)
  · obtain ⟨o, g, l1, l2, t, r, M, st, rfl, _⟩ := h
    rfl
  · obtain ⟨o, g, l1, l2, t, r, M, st, rfl, hT, hO, hg, hl1, hl2, k⟩ := h
    refine ⟨_, pss_cons (ps_set (i := 2) sc_start.nd rfl (Or.inl rfl) (pe_makeH h1 hr rfl (pa_cons (pe_ix ix_list (pv 1) pe_int (fun _ _ => rfl)) (pa_cons (pe_ix ix_list (pv 1) pe_int (fun _ _ => rfl)) (pa_cons (pe_ix ix_list (pv 1) pe_int (fun _ _ => rfl)) (pa_cons (pe_ix ix_list (pv 1) pe_int (fun _ _ => rfl))
        (pa_cons (pe_ix ix_list (pv 1) pe_int (fun _ _ => rfl)) (pa_cons (pe_ix ix_list (pv 1) pe_int (fun _ _ => rfl)) (pa_cons (pe_ix ix_list (pv 1) pe_int (fun _ _ => rfl)) pa_nil)))))))))
      (pss_cons (ps_if (pt_not (pt_val (pe_callH h2 hr rfl (pa_cons (pv 2) pa_nil)))) (pss_one (ps_ret (pe_lst (pa_cons (pe_gint g1 rfl) pa_nil)))) pss_nil)
      (pss_cons (ps_fld (pv 0) (pv 2) rfl)
      (pss_cons (ps_fld (pv 0) (pe_makeH h3 hr rfl (pa_cons (pe_fl (pv 2)) (pa_cons pe_int pa_nil))) rfl)
      (pss_cons (ps_fld (pv 0) (pe_fl (pv 2)) rfl)
      (pss_cons (ps_fld (pv 0) pe_int rfl)
      (pss_cons (ps_fld (pv 0) (pe_lst pa_nil) rfl)
      (pss_one (ps_ret (pe_lst (pa_cons pe_int pa_nil)))))))))), ?_⟩
    rw [told_start] at k
    have e2 := er2_same t r H
    refine ⟨_, rfl, g, _, _, nV M.lag, rfl, rfl, hg, rfl, _, rfl, g, _, _, nV M.most, rfl, rfl, hg, rfl, _, rfl, g, _, _, nV M.step, rfl, rfl, hg, rfl, _, rfl, g, _, _, nV M.low, rfl, rfl, hg, rfl, _, rfl, g, _, _, nV M.high, rfl, rfl, hg, rfl,
      _, rfl, g, _, _, V.ref l1, rfl, rfl, hg, rfl, _, rfl, g, _, _, V.ref l2, rfl, rfl, hg, rfl, ?_⟩
    intro mx dm hmx hdm hne
    have mkS : Same H (upd (upd H dm (.own mx)) mx (.ins CM dm [])) := (Same.upd hdm).trans (Same.upd (by rw [upd_ne hne.symm]; exact hmx))
    refine ⟨mx, CM, dm, l1, l2, M, rfl, upd_same, TM, mkS.seq (e2.seq hl1), mkS.seq (e2.seq hl2), fun H1 hM fw fr kp => ⟨rfl, ?_⟩⟩
    have s1 := Same.made hmx hdm kp
    refine ⟨_, rfl, mx, M, rfl, hM, fun H2 s2 => ⟨_, rfl, ?_⟩⟩
    have s12 := s1.trans s2
    cases htb : toldB M with
    | false =>
      rw [htb, if_pos rfl] at k
      exact iteT ⟨(by show 1 ≤ sizeLine; decide), fun q hq => k.keep hO s12 hq⟩
    | true =>
      rw [htb, if_neg (by decide)] at k
      obtain ⟨ok, hmost⟩ := told_ok htb
      refine iteF ?_
      obtain ⟨dx, mv, pv0, s0, n0, lg0, eo⟩ := hO.obj
      have no := er2_out eo
      have eo2 : H2 o = some (.ins C dx (oF mv pv0 s0 n0 lg0)) := s12 _ _ (e2 _ _ eo)
      have hM2 := hM.same s2
      refine ⟨_, rfl, _, rfl, o, C, dx, _, rfl, eo2, T.cl, T.n1, (by show 5 < 1000; decide), ?_⟩
      generalize hH3 : upd H2 o _ = H3
      have eo3 : H3 o = some (.ins C dx (oF (.ref mx) pv0 s0 n0 lg0)) := by
        rw [← hH3]
        exact upd_same
      have s3 : Sb o H2 H3 := by
        rw [← hH3]
        exact Sb.upd _ _ _
      have hM3 := hM2.sb eo2 s3
      refine ⟨_, rfl, mx, _, rfl, hM3.low, ?_⟩
      intro px dp hpx hdp hne2
      refine ⟨px, CP, dp, (M.low, 0), rfl, upd_same, TP, fun H4 hP kp2 => ⟨rfl, ?_⟩⟩
      have s4 := Same.made hpx hdp kp2
      have eo4 := s4 _ _ eo3
      refine ⟨_, rfl, o, C, dx, _, rfl, eo4, T.cl, T.n2, (by show 5 < 1000; decide), ?_⟩
      have sF : Sb o H4 (upd H4 o (.ins C dx (oF (.ref mx) (.ref px) s0 n0 lg0))) := Sb.upd _ _ _
      refine ⟨_, rfl, mx, _, rfl, ((hM3.same s4).sb eo4 sF).low, _, rfl, o, C, dx, _, rfl, upd_same, T.cl, T.n3, (by show 5 < 1000; decide), ?_⟩
      rw [upd_upd]
      refine ⟨_, rfl, o, C, dx, _, rfl, upd_same, T.cl, T.n4, (by show 5 < 1000; decide), ?_⟩
      rw [upd_upd]
      refine ⟨Nat.zero_le _, fun lg hlg => ?_⟩
      have nlg : o ≠ lg := ne_of_none upd_same hlg
      refine ⟨_, rfl, o, C, dx, _, rfl, (by rw [upd_ne nlg]; exact upd_same), T.cl, T.n5, (by show 5 < 1000; decide), ?_⟩
      refine ⟨(by show 1 ≤ sizeLine; decide), fun q hq => ?_⟩
      generalize hH5 : upd H4 o _ = H5 at hlg hq ⊢
      have s5 : Sb o H4 H5 := by
        rw [← hH5]
        exact Sb.upd _ _ _
      have s6 : Same H5 (upd H5 lg (.lst [])) := Same.upd hlg
      generalize hH7 : upd (upd H5 lg (.lst [])) o _ = H7 at hq ⊢
      have eo7 : H7 o = some (.ins C dx (oF (.ref mx) (.ref px) M.low 0 lg)) := by
        rw [← hH7]
        exact upd_same
      have s7 : Sb o (upd H5 lg (.lst [])) H7 := by
        rw [← hH7]
        exact Sb.upd _ _ _
      have s8 : Same H7 (upd H7 q (.lst [V.int 0])) := Same.upd hq
      have sA : Sb o H H4 := (s12.but.trans s3).trans s4.but
      have sB : Sb o H5 (upd H7 q (.lst [V.int 0])) := (s6.but.trans s7).trans s8.but
      have sb : Sb o H (upd H7 q (.lst [V.int 0])) := (sA.trans s5).trans sB
      have s49 : Sb o H4 (upd H7 q (.lst [V.int 0])) := s5.trans sB
      have hTR := hT.sb sb no.1 no.2
      have hM9 := (hM3.same s4).sb eo4 s49
      have hP9 := hP.sb eo4 s49
      have fw9 : FldAt K (upd H7 q (.lst [V.int 0])) mx "warms" (.ref l1) := ((((fw.same s2).sb eo2 rfl s3).same s4).sb eo4 rfl s49)
      have fr9 : FldAt K (upd H7 q (.lst [V.int 0])) mx "rates" (.ref l2) := ((((fr.same s2).sb eo2 rfl s3).same s4).sb eo4 rfl s49)
      have nlgt := hT.new (a := lg) (by
        cases e : H lg with
        | none => rfl
        | some x =>
          have h5 := (sA.trans s5) _ _ e nlg.symm
          rw [hlg] at h5
          cases h5)
      refine k _ q sb ((((sA.trans s5).trans s6.but).trans s7).free (ne_of_none eo7 hq).symm hq) ⟨dx, mx, px, lg, M, (M.low, 0), M.low, [], ?_⟩ ?_
      · refine ⟨by rw [er2_old eo, s8 _ _ eo7], ?_, hTR.part hP9, ⟨⟨rfl, rfl, rfl, rfl, rfl, rfl⟩, rfl, ok, hmost, Nat.zero_le _, Nat.le_refl _, ok.low⟩, ?_, rfl, by decide⟩
        · exact ⟨hTR.fld hM9.lag fun _ _ => rfl, hTR.fld hM9.most fun _ _ => rfl, hTR.fld hM9.step fun _ _ => rfl, hTR.fld hM9.low fun _ _ => rfl, hTR.fld hM9.high fun _ _ => rfl,
            ⟨l1, hTR.fld fw9 fun _ _ => rfl, (er2_sb sb).seq eo hl1⟩, ⟨l2, hTR.fld fr9 fun _ _ => rfl, (er2_sb sb).seq eo hl2⟩⟩
        · rw [er2_ne nlgt.1 nlgt.2, s8 _ _ (s7 _ _ upd_same nlg.symm)]
          rfl
      · rw [upd_same]
        rfl
end
end Pw
end
section
set_option Elab.async false
set_option linter.all false
set_option maxRecDepth 100000
set_option maxHeartbeats 2000000
namespace Pw
open PySem PySem.Spec L2
/-! ### the calls by their numbers -/
def num : Kqv3.Call → Nat
  | .start .. => 0
  | .set _ => 1
  | .pass _ => 2
  | .would _ => 3
  | .hottest _ => 4
  | .left => 5
  | .cooled _ => 6
  | .cured => 7
  | .run _ => 8
  | .follow _ => 9
  | .soonest _ => 10
  | .farthest _ => 11
  | .rate _ => 12
  | .next => 13
  | .part _ => 14
  | .log _ => 15
  | .safe _ => 16
  | .need _ => 17
  | .state => 18
def GivenAt (K : PySem.W.Frag) (G : Hp) (g : Addr) : Kqv3.Call → Prop
  | .start a b d e f ws rs => ∃ l1 l2, SqL K G g [nV a, nV b, nV d, nV e, nV f, .ref l1, .ref l2] ∧ SqL K G l1 (ws.map nV) ∧ SqL K G l2 (rs.map nV)
  | .run l => ∃ l1, SqL K G g [.ref l1] ∧ SqL K G l1 (l.map nV) ∧ l.length ≤ 60
  | .follow l => ∃ l1, SqL K G g [.ref l1] ∧ SqL K G l1 (l.map nV) ∧ l.length ≤ 60
  | .left => True
  | .cured => True
  | .next => True
  | .state => True
  | .set n => SqL K G g [nV n]
  | .pass n => SqL K G g [nV n]
  | .would n => SqL K G g [nV n]
  | .hottest n => SqL K G g [nV n]
  | .cooled n => SqL K G g [nV n]
  | .soonest n => SqL K G g [nV n]
  | .farthest n => SqL K G g [nV n]
  | .rate n => SqL K G g [nV n]
  | .part n => SqL K G g [nV n]
  | .log n => SqL K G g [nV n]
  | .safe n => SqL K G g [nV n]
  | .need n => SqL K G g [nV n]
def tellV (st : Option Kqv3.Oven) (x : Kqv3.Call) : List V := (Kqv3Neutral.tell (Kqv3.step st x).2).map V.int
def spCall (K : PySem.W.Frag) (C : Addr) (c : Nat) : Sp := fun vs H Q _ => ∃ (o g t r : Addr) (st : Option Kqv3.Oven) (x : Kqv3.Call), vs = [.ref o, .ref g] ∧ TR H t r ∧ StAt K C (er2 t r H) o st ∧ num x = c ∧ (c = 0 ∨ st ≠ none) ∧ GivenAt K (er2 t r H) g x ∧
  Post K C t r o H Q (Kqv3.step st x).1 (tellV st x)
def spAnswer (K : PySem.W.Frag) (C : Addr) : Sp := fun vs H Q _ => ∃ (o g t r : Addr) (st : Option Kqv3.Oven) (x : Kqv3.Call), vs = [.ref o, nV (num x), .ref g] ∧ TR H t r ∧ StAt K C (er2 t r H) o st ∧ GivenAt K (er2 t r H) g x ∧
  Post K C t r o H Q (Kqv3.step st x).1 (tellV st x)
def spAns (K : PySem.W.Frag) : Sp := fun vs H Q _ => ∃ (a : Addr) (ns : List Int), vs = [.ref a] ∧ SqL K H a (ns.map V.int) ∧ ns.length ≤ 30000 ∧ PyKqv3.answers_asked ns = true ∧
  ∀ (H' : Hp) (q : Addr), H' q = some (.lst ((PyKqv3.answers ns).map V.int)) → Q (.ref q) H'
section
variable {P : Program} {w : World} {K : PySem.W.Frag} {mg : Str → Option Value} {base : Heap}
theorem Has.imp {x : Str} {ps : List Str} {k : Nat} {sp sp' : Sp} (h : Has P w K mg base x ps k sp) (e : ∀ vs H Q E, sp' vs H Q E → sp vs H Q E) : Has P w K mg base x ps k sp' :=
  let ⟨f, fd, a, b, c, F⟩ := h; ⟨f, fd, a, b, c, F.imp e⟩
theorem Has.mono {x : Str} {ps : List Str} {j k : Nat} {sp : Sp} (h : Has P w K mg base x ps j sp) (e : j ≤ k) : Has P w K mg base x ps k sp :=
  let ⟨f, fd, a, b, c, F⟩ := h; ⟨f, fd, a, b, c, F.mono e⟩
theorem look1 {C : Addr} (T : ClO K C) {x : Str} {ps : List Str} {k : Nat} {c : Nat → Kqv3.Call} (hs : ∀ ov n, (Kqv3.step (some ov) (c n)).1 = some ov) (h : Has P w K mg base x ps k (spLook1 K c)) : Has P w K mg base x ps k (spAct1 K C c) := h.imp fun vs H Q E ⟨o, g, t, r, n, ov, hv, hT, hO, hg, q⟩ => by
  obtain ⟨dx, m, p, lg, M, wc, s, ws, B⟩ := id hO
  rw [hs] at q
  exact ⟨o, g, M, wc, s, n, ov, hv, (B.same (er2_same t r H)).ovR T, B.stt, hg, fun H' b e hb hb' => q H' b e.but hb (OvAt.same (er2_mono e) hO) hb'⟩
theorem look0 {C : Addr} (T : ClO K C) {x : Str} {ps : List Str} {k : Nat} {c : Kqv3.Call} (hs : ∀ ov, (Kqv3.step (some ov) c).1 = some ov) (h : Has P w K mg base x ps k (spLook0 K c)) : Has P w K mg base x ps k (spAct0 K C c) := h.imp fun vs H Q E ⟨o, g, t, r, ov, hv, hT, hO, q⟩ => by
  obtain ⟨dx, m, p, lg, M, wc, s, ws, B⟩ := id hO
  rw [hs] at q
  exact ⟨o, g, M, wc, s, ov, hv, (B.same (er2_same t r H)).ovR T, B.stt, fun H' b e hb hb' => q H' b e.but hb (OvAt.same (er2_mono e) hO) hb'⟩
theorem lookL {C : Addr} (T : ClO K C) {x : Str} {ps : List Str} {k : Nat} {c : List Nat → Kqv3.Call} (hs : ∀ ov n, (Kqv3.step (some ov) (c n)).1 = some ov) (h : Has P w K mg base x ps k (spLookL K c)) : Has P w K mg base x ps k (spActL K C c) := h.imp fun vs H Q E ⟨o, g, l, t, r, ts, ov, hv, hT, hO, hg, hl, hn, q⟩ => by
  obtain ⟨dx, m, p, lg, M, wc, s, ws, B⟩ := id hO
  rw [hs] at q
  exact ⟨o, g, l, M, wc, s, ts, ov, hv, (B.same (er2_same t r H)).ovR T, B.stt, hg, hl, hn, fun H' b e hb hb' => q H' b e.but hb (OvAt.same (er2_mono e) hO) hb'⟩
theorem call1 {C : Addr} {x : Str} {ps : List Str} {k i : Nat} {c : Nat → Kqv3.Call} (h : Has P w K mg base x ps k (spAct1 K C c)) (hi : i ≠ 0) (hx : ∀ x, num x = i → ∃ n, x = c n) (hg : ∀ G g n, GivenAt K G g (c n) → SqL K G g [nV n]) :
    Has P w K mg base x ps k (spCall K C i) := h.imp fun vs H Q E ⟨o, g, t, r, st, x, hv, hT, hS, hn, h0, hG, q⟩ => by
  obtain ⟨n, rfl⟩ := hx x hn
  cases st with
  | none => exact absurd rfl (h0.resolve_left hi)
  | some ov => exact ⟨o, g, t, r, n, ov, hv, hT, hS, (er2_same t r H).seq (hg _ _ _ hG), q⟩
theorem call0 {C : Addr} {x : Str} {ps : List Str} {k i : Nat} {c : Kqv3.Call} (h : Has P w K mg base x ps k (spAct0 K C c)) (hi : i ≠ 0) (hx : ∀ x, num x = i → x = c) :
    Has P w K mg base x ps k (spCall K C i) := h.imp fun vs H Q E ⟨o, g, t, r, st, x, hv, hT, hS, hn, h0, hG, q⟩ => by
  obtain rfl := hx x hn
  cases st with
  | none => exact absurd rfl (h0.resolve_left hi)
  | some ov => exact ⟨o, g, t, r, ov, hv, hT, hS, q⟩
theorem callL {C : Addr} {x : Str} {ps : List Str} {k i : Nat} {c : List Nat → Kqv3.Call} (h : Has P w K mg base x ps k (spActL K C c)) (hi : i ≠ 0) (hx : ∀ x, num x = i → ∃ n, x = c n) (hg : ∀ G g l, GivenAt K G g (c l) → ∃ l1, SqL K G g [.ref l1] ∧ SqL K G l1 (l.map nV) ∧ l.length ≤ 60) :
    Has P w K mg base x ps k (spCall K C i) := h.imp fun vs H Q E ⟨o, g, t, r, st, x, hv, hT, hS, hn, h0, hG, q⟩ => by
  obtain ⟨l, rfl⟩ := hx x hn
  obtain ⟨l1, g1, g2, g3⟩ := hg _ _ _ hG
  cases st with
  | none => exact absurd rfl (h0.resolve_left hi)
  | some ov => exact ⟨o, g, l1, t, r, l, ov, hv, hT, hS, (er2_same t r H).seq g1, (er2_same t r H).seq g2, g3, q⟩
theorem callS {C : Addr} {x : Str} {ps : List Str} {k : Nat} (h : Has P w K mg base x ps k (spStart K C)) : Has P w K mg base x ps k (spCall K C 0) := h.imp fun vs H Q E ⟨o, g, t, r, st, x, hv, hT, hS, hn, h0, hG, q⟩ => by
  cases x with
  | start a b d e f ws rs =>
    obtain ⟨l1, l2, g1, g2, g3⟩ := hG
    exact ⟨o, g, l1, l2, t, r, ⟨a, b, d, e, f, ws, rs⟩, st, hv, hT, hS, (er2_same t r H).seq g1, g2, g3, q⟩
  | _ => cases hn
/-- the table of the calls -/
def CallsAt (P : Program) (w : World) (K : PySem.W.Frag) (mg : Str → Option Value) (base : Heap) (C : Addr) : Prop := ∃ (a : Addr) (fs : List Addr), mg "CALLS" = some (.ref a) ∧ KTup K a (fs.map V.ref) ∧
  ∀ c, c < 19 → ∃ f fd, fs[c]? = some f ∧ PySem.W.keepIn K (.ref f) = true ∧ Binds K fd ["oven", "given"] [] ∧ FnOk P w K mg base CX0 7 f fd ["oven", "given"] (spCall K C c)
theorem Has.at {x : Str} {ps : List Str} {k : Nat} {sp : Sp} {r : Addr} (h : Has P w K mg base x ps k sp) (e : mg x = some (.ref r)) (hk : k ≤ 7) : ∃ fd, PySem.W.keepIn K (.ref r) = true ∧ Binds K fd ps [] ∧ FnOk P w K mg base CX0 7 r fd ps sp := by
  obtain ⟨f, fd, a, b, c, F⟩ := h
  rw [e] at a
  cases a
  exact ⟨fd, b, c, F.mono hk⟩
theorem num_lt (x : Kqv3.Call) : num x < 19 := by cases x <;> simp [num]
theorem step_none {x : Kqv3.Call} (h : num x ≠ 0) : Kqv3.step none x = (none, .num (-11)) := by
  cases x with
  | start => exact absurd rfl h
  | _ => rfl
theorem sc_answer : FnScope ["oven", "call", "given", "ask"] ["oven", "call", "given"] (defScope s_answer) := ⟨rfl, rfl, rfl, by decide +kernel, rfl, by decide +kernel, by decide +kernel⟩
theorem has_answer {C : Addr} (T : ClO K C) (g0 : GInt mg "START" 0) (g1 : GInt mg "NOT_STARTED" (-11)) (hC : CallsAt P w K mg base C) (D : Def K mg "answer" s_answer ["oven", "call", "given"]) : Has P w K mg base "answer" ["oven", "call", "given"] 8 (spAnswer K C) := D.has fun f fd F => by
  refine F.ok sc_answer (fun vs H Q E h => ?_) (fun cdv A outer s H vs Q E hr h => ?_)
  · obtain ⟨o, g, t, r, st, x, rfl, _⟩ := h
    rfl
  · obtain ⟨o, g, t, r, st, x, rfl, hT, hS, hG, k⟩ := h
    obtain ⟨sa, fs, hmS, hST, hF⟩ := hC
    obtain ⟨fc, fdc, hfc, hkp, hbi, hFn⟩ := hF (num x) (num_lt x)
    refine ⟨_, pss_cons (ps_if (PW.pt (pw_and (pt_cmpR op_ne (pv 1) (pe_gint g0 rfl) (nomark _)) (pw_and1 (pt_cmp (pc_isN (pe_fl (pv 0))))))) (pss_one (ps_ret (pe_lst (pa_cons (pe_gint g1 rfl) pa_nil)))) pss_nil)
      (pss_cons (ps_set (i := 3) sc_answer.nd rfl (Or.inl rfl) (pe_ix ix_tup (pe_glob (v := .ref sa) rfl hmS rfl) (pv 1) (fun _ _ => rfl)))
      (pss_one (ps_ret (pe_callV (i := 3) rfl (Or.inl rfl) (pa_cons (pv 0) (pa_cons (pv 2) pa_nil)))))), ?_⟩
    have rest : (num x = 0 ∨ st ≠ none) → ∃ v, [some (V.ref o), some (nV (num x)), some (V.ref g), none][1]? = some (some v) ∧ rIxT K (V.ref sa) v H fun v H' => gName 3 v [some (V.ref o), some (nV (num x)), some (V.ref g), none] H' fun σ H' =>
        tCallV (cxOf CX0 P w K mg base ["oven", "call", "given", "ask"] "answer" (defScope s_answer) f cdv A outer s H E).nox 3 (tCons (tVar 0) (tCons (tVar 2) tNil)) σ H' Q := fun h0 => by
      refine ⟨_, rfl, sa, _, _, V.ref fc, rfl, rfl, hST.seq, atI_nat (by rw [List.getElem?_map, hfc]; rfl), ?_⟩
      exact ⟨fc, fdc, _, _, _, rfl, hkp, hbi, hFn, hr, _, rfl, _, rfl, o, g, t, r, st, x, rfl, hT, hS, rfl, h0, hG, k⟩
    refine ⟨_, rfl, rfl, _, rfl, ?_⟩
    by_cases c0 : num x = 0
    · have e : decide (V.int ((num x : Nat) : Int) = V.int 0) = true := decide_eq_true (by rw [c0]; rfl)
      show if (!decide (V.int ((num x : Nat) : Int) = V.int 0)) = true then _ else _
      rw [e]
      exact iteF (iteF (rest (.inl c0)))
    · have e : decide (V.int ((num x : Nat) : Int) = V.int 0) = false := decide_eq_false (by
        intro z
        have := V.int.inj z
        omega)
      show if (!decide (V.int ((num x : Nat) : Int) = V.int 0)) = true then _ else _
      rw [e]
      refine iteT ?_
      cases st with
      | none =>
        obtain ⟨dx, pv0, s0, n0, lg, eo⟩ := id hS
        have eo' := er2_same t r H _ _ eo
        refine ⟨_, rfl, o, _, rfl, ⟨C, dx, _, eo', T.cl, T.n1, rfl⟩, _, rfl, ?_⟩
        refine iteT ?_
        have e1 := step_none c0
        have e2 : tellV none x = [V.int (-11)] := by unfold tellV; rw [e1]; rfl
        rw [e1, e2] at k
        exact ⟨(by show 1 ≤ sizeLine; decide), fun q hq => k.keep hS (Same.refl _) hq⟩
      | some ov =>
        obtain ⟨dx, m, p, lg, M, wc, s, ws, B0⟩ := id hS
        have B := B0.same (er2_same t r H)
        refine ⟨_, rfl, o, _, rfl, B.fm T, _, rfl, ?_⟩
        refine iteF ?_
        exact rest (.inr (by intro z; cases z))
end

/-! ### a call as it is written -/
def castL (l : List Nat) : List Int := l.map fun x : Nat => (x : Int)
def Arg : Kqv3.Call → List Int → List (List Int) → Prop
  | .start a b d e f ws rs, xs, rows => xs = [(a : Int), (b : Int), (d : Int), (e : Int), (f : Int)] ∧ rows = [castL ws, castL rs]
  | .run l, xs, rows => xs = [] ∧ rows = [castL l] ∧ l.length ≤ 60
  | .follow l, xs, rows => xs = [] ∧ rows = [castL l] ∧ l.length ≤ 60
  | .left, xs, rows => xs = [] ∧ rows = []
  | .cured, xs, rows => xs = [] ∧ rows = []
  | .next, xs, rows => xs = [] ∧ rows = []
  | .state, xs, rows => xs = [] ∧ rows = []
  | .set n, xs, rows => xs = [(n : Int)] ∧ rows = []
  | .pass n, xs, rows => xs = [(n : Int)] ∧ rows = []
  | .would n, xs, rows => xs = [(n : Int)] ∧ rows = []
  | .hottest n, xs, rows => xs = [(n : Int)] ∧ rows = []
  | .cooled n, xs, rows => xs = [(n : Int)] ∧ rows = []
  | .soonest n, xs, rows => xs = [(n : Int)] ∧ rows = []
  | .farthest n, xs, rows => xs = [(n : Int)] ∧ rows = []
  | .rate n, xs, rows => xs = [(n : Int)] ∧ rows = []
  | .part n, xs, rows => xs = [(n : Int)] ∧ rows = []
  | .log n, xs, rows => xs = [(n : Int)] ∧ rows = []
  | .safe n, xs, rows => xs = [(n : Int)] ∧ rows = []
  | .need n, xs, rows => xs = [(n : Int)] ∧ rows = []
theorem nat_of {z : Int} (h : Kqv3Neutral.natural z 32 = true) : z = ((Kqv3Neutral.n z : Nat) : Int) := by
  unfold Kqv3Neutral.natural at h
  rw [Bool.and_eq_true] at h
  have := of_decide_eq_true h.1
  unfold Kqv3Neutral.n
  omega
theorem row_of {r : List Int} (h : (r.all (fun (z : Int) => Kqv3Neutral.natural z 32) && decide (r.length ≤ 60)) = true) : r = castL (r.map Kqv3Neutral.n) ∧ (r.map Kqv3Neutral.n).length ≤ 60 := by
  rw [Bool.and_eq_true] at h
  refine ⟨?_, by rw [List.length_map]; exact of_decide_eq_true h.2⟩
  have h1 := List.all_eq_true.mp h.1
  clear h
  induction r with
  | nil => rfl
  | cons z r ih =>
    have e := nat_of (h1 z List.mem_cons_self)
    have e2 := ih fun y hy => h1 y (List.mem_cons_of_mem _ hy)
    show z :: r = ((Kqv3Neutral.n z : Nat) : Int) :: castL (r.map Kqv3Neutral.n)
    rw [← e, ← e2]
theorem asked_call {p : Int} {xs : List Int} {rows : List (List Int)} (h : Kqv3Neutral.asked1 ((p :: xs) :: rows) = true) : ∃ x, Kqv3Neutral.callOf ((p :: xs) :: rows) = some x ∧ p = ((num x : Nat) : Int) ∧ Arg x xs rows := by
  generalize hc : (p :: xs) :: rows = c at h ⊢
  unfold Kqv3Neutral.asked1 at h
  split at h
  · cases hc
    simp only [Bool.and_eq_true] at h
    obtain ⟨⟨⟨⟨⟨⟨h1, h2⟩, h3⟩, h4⟩, h5⟩, h6⟩, h7⟩ := h
    have r1 := row_of (by rw [Bool.and_eq_true]; exact h6)
    have r2 := row_of (by rw [Bool.and_eq_true]; exact h7)
    exact ⟨_, rfl, rfl, by rw [← nat_of h1, ← nat_of h2, ← nat_of h3, ← nat_of h4, ← nat_of h5], by rw [← r1.1, ← r2.1]⟩
  · cases hc
    exact ⟨_, rfl, rfl, by rw [← nat_of h], rfl⟩
  · cases hc
    exact ⟨_, rfl, rfl, by rw [← nat_of h], rfl⟩
  · cases hc
    exact ⟨_, rfl, rfl, by rw [← nat_of h], rfl⟩
  · cases hc
    exact ⟨_, rfl, rfl, by rw [← nat_of h], rfl⟩
  · cases hc
    exact ⟨_, rfl, rfl, rfl, rfl⟩
  · cases hc
    exact ⟨_, rfl, rfl, by rw [← nat_of h], rfl⟩
  · cases hc
    exact ⟨_, rfl, rfl, rfl, rfl⟩
  · cases hc
    have r1 := row_of h
    exact ⟨_, rfl, rfl, rfl, by rw [← r1.1], r1.2⟩
  · cases hc
    have r1 := row_of h
    exact ⟨_, rfl, rfl, rfl, by rw [← r1.1], r1.2⟩
  · cases hc
    exact ⟨_, rfl, rfl, by rw [← nat_of h], rfl⟩
  · cases hc
    exact ⟨_, rfl, rfl, by rw [← nat_of h], rfl⟩
  · cases hc
    exact ⟨_, rfl, rfl, by rw [← nat_of h], rfl⟩
  · cases hc
    exact ⟨_, rfl, rfl, rfl, rfl⟩
  · cases hc
    exact ⟨_, rfl, rfl, by rw [← nat_of h], rfl⟩
  · cases hc
    exact ⟨_, rfl, rfl, by rw [← nat_of h], rfl⟩
  · cases hc
    exact ⟨_, rfl, rfl, by rw [← nat_of h], rfl⟩
  · cases hc
    exact ⟨_, rfl, rfl, by rw [← nat_of h], rfl⟩
  · cases hc
    exact ⟨_, rfl, rfl, rfl, rfl⟩
  · cases h
theorem castL_nV (l : List Nat) : (castL l).map V.int = l.map nV := (map_nV l).symm
theorem rows_one {G : Hp} {ls : List Addr} {r1 : List Int} (h : RowsAt G ls [r1]) : ∃ l1, ls = [l1] ∧ G l1 = some (.lst (r1.map V.int)) := by
  obtain ⟨l, e1, e2⟩ := h.at_ 0 r1 rfl
  have hl := h.len
  match ls, hl, e1 with
  | [a], _, e1 =>
    cases e1
    exact ⟨_, rfl, e2⟩
theorem rows_two {G : Hp} {ls : List Addr} {r1 r2 : List Int} (h : RowsAt G ls [r1, r2]) : ∃ l1 l2, ls = [l1, l2] ∧ G l1 = some (.lst (r1.map V.int)) ∧ G l2 = some (.lst (r2.map V.int)) := by
  obtain ⟨l, e1, e2⟩ := h.at_ 0 r1 rfl
  obtain ⟨l', e3, e4⟩ := h.at_ 1 r2 rfl
  have hl := h.len
  match ls, hl, e1, e3 with
  | [a, b], _, e1, e3 =>
    cases e1
    cases e3
    exact ⟨_, _, rfl, e2, e4⟩
theorem rows_nil {G : Hp} {ls : List Addr} (h : RowsAt G ls []) : ls = [] := List.length_eq_zero_iff.mp h.len
theorem given_of {K : PySem.W.Frag} {G : Hp} {g : Addr} {ls : List Addr} {x : Kqv3.Call} {xs : List Int} {rows : List (List Int)} (A : Arg x xs rows) (hg : G g = some (.lst (xs.map V.int ++ ls.map V.ref))) (hR : RowsAt G ls rows) : GivenAt K G g x := by
  have one : ∀ n : Nat, xs = [(n : Int)] ∧ rows = [] → SqL K G g [nV n] := fun n A => by
    obtain ⟨rfl, rfl⟩ := A
    obtain rfl := rows_nil hR
    exact SqL.of hg
  have row : ∀ l : List Nat, xs = [] ∧ rows = [castL l] ∧ l.length ≤ 60 → ∃ l1, SqL K G g [.ref l1] ∧ SqL K G l1 (l.map nV) ∧ l.length ≤ 60 := fun l A => by
    obtain ⟨rfl, rfl, h⟩ := A
    obtain ⟨l1, rfl, h1⟩ := rows_one hR
    rw [castL_nV] at h1
    exact ⟨l1, SqL.of hg, SqL.of h1, h⟩
  cases x with
  | start a b d e f ws rs =>
    obtain ⟨rfl, rfl⟩ := A
    obtain ⟨l1, l2, rfl, h1, h2⟩ := rows_two hR
    rw [castL_nV] at h1 h2
    exact ⟨l1, l2, SqL.of hg, SqL.of h1, SqL.of h2⟩
  | run l => exact row l A
  | follow l => exact row l A
  | left => trivial
  | cured => trivial
  | next => trivial
  | state => trivial
  | set n => exact one n A
  | pass n => exact one n A
  | would n => exact one n A
  | hottest n => exact one n A
  | cooled n => exact one n A
  | soonest n => exact one n A
  | farthest n => exact one n A
  | rate n => exact one n A
  | part n => exact one n A
  | log n => exact one n A
  | safe n => exact one n A
  | need n => exact one n A
/-- what is known of a request that is asked -/
theorem asked_all {ns : List Int} (h : PyKqv3.answers_asked ns = true) : ∃ cs, PyFlat.calls PyKqv3.shape ns.length ns = some cs ∧ (∀ c ∈ cs, Kqv3Neutral.asked1 c = true) ∧
    PyKqv3.answers ns = PyFlat.told (PyFlat.played Kqv3Neutral.step Kqv3Neutral.start cs) ∧ (PyKqv3.answers ns).length ≤ 1000200 := by
  obtain ⟨cs, h1, _, h3, h4⟩ := asked_parts h
  refine ⟨cs, h1, ?_, h3, h4⟩
  unfold PyKqv3.answers_asked at h
  rw [h1] at h
  dsimp only at h
  rw [map_whole] at h
  simp only [Bool.and_eq_true] at h
  have h5 := h.1.2
  unfold Kqv3Neutral.asked at h5
  simp only [Bool.and_eq_true] at h5
  exact fun c hc => List.all_eq_true.mp h5.1.2.1 c hc
theorem er2_sbr {t r : Addr} {H H' : Hp} (e : Sb r H H') : Same (er2 t r H) (er2 t r H') := er_mono (er_sbq e)
theorem er2_updt {t r : Addr} {H : Hp} {x : HO} : er2 t r (upd H t x) = er2 t r H := by
  funext a
  by_cases e : a = t
  · subst e
    rw [er2, er2, er_self, er_self]
  · by_cases e2 : a = r
    · subst e2
      rw [er2, er2, er_none er_self, er_none er_self]
    · rw [er2_ne e e2, er2_ne e e2, upd_ne e]

section
variable {P : Program} {w : World} {K : PySem.W.Frag} {mg : Str → Option Value} {base : Heap}
theorem sc_answers : FnScope ["calls", "oven", "reader", "told", "call", "numbers"] ["calls"] (defScope s_answers) := ⟨rfl, rfl, rfl, by decide +kernel, rfl, by decide +kernel, by decide +kernel⟩
theorem ok_answers {C CR : Addr} (T : ClO K C) (TRd : ClR K CR) (zlen : mg "len" = none) (h1 : CHas P w K mg base "Oven" C ["self"] 1 (spOven K C)) (h2 : CHas P w K mg base "Reader" CR ["self", "calls"] 1 (spReader K CR))
    (h3 : MHas P w K mg base CR "is_at_end" ["self"] 1 (spAtEnd K CR)) (h4 : MHas P w K mg base CR "read_number" ["self"] 1 (spRN K CR)) (h5 : MHas P w K mg base CR "read_given" ["self", "call"] 3 (spRG K CR)) (h6 : Has P w K mg base "answer" ["oven", "call", "given"] 8 (spAnswer K C))
    {f : Addr} {fd : FuncData} (F : Fun K "answers" "answers" s_answers f fd) : FnOk P w K mg base CX0 9 f fd ["calls"] (spAns K) := by
  refine F.ok sc_answers (fun vs H Q E h => ?_) (fun cdv A outer s H vs Q E hr h => ?_)
  · obtain ⟨a, ns, rfl, _⟩ := h
    rfl
  · obtain ⟨a, ns, rfl, hl, hlen, hask, k⟩ := h
    obtain ⟨cs0, hcs0, hall0, hans, hshort⟩ := asked_all hask
    refine ⟨_, pss_cons (ps_set (i := 1) sc_answers.nd rfl (Or.inl rfl) (pe_makeH0 h1 (hr.mono (by decide)) rfl))
      (pss_cons (ps_set (i := 2) sc_answers.nd rfl (Or.inl rfl) (pe_makeH h2 (hr.mono (by decide)) rfl (pa_cons (pv 0) pa_nil)))
      (pss_cons (ps_set (i := 3) sc_answers.nd rfl (Or.inl rfl) (pe_lst pa_nil))
      (pss_cons (ps_while PassesOwn.never (pt_not (pt_val (pe_methH0 (pv 2) TRd.cl h3 (hr.mono (by decide)))))
        (pss_cons (ps_set (i := 4) sc_answers.nd rfl (Or.inl rfl) (pe_methH0 (pv 2) TRd.cl h4 (hr.mono (by decide))))
        (pss_cons (ps_set (i := 5) sc_answers.nd rfl (Or.inl rfl) (pe_callH h6 hr rfl (pa_cons (pv 1) (pa_cons (pv 4) (pa_cons (pe_methH (pv 2) TRd.cl h5 (hr.mono (by decide)) (pa_cons (pv 4) pa_nil)) pa_nil)))))
        (pss_cons (ps_expr (pe_bm PySem.F.plainAttrs_list PySem.F.slot_list_append PySem.F.type_list_append mt_append (pv 3) (pa_cons (pe_callB call_len_seq rfl zlen b_len (pa_cons (pv 5) pa_nil)) pa_nil)))
        (pss_one (ps_expr (pe_bm PySem.F.plainAttrs_list PySem.F.slot_list_extend PySem.F.type_list_extend mt_extend (pv 3) (pa_cons (pv 5) pa_nil))))))))
      (pss_one (ps_ret (pv 3)))))), ?_⟩
    intro o dx hox hdx hne
    refine ⟨o, dx, rfl, upd_same, fun H1 lg hob sb1 => ⟨rfl, ?_⟩⟩
    have s1 : Same H H1 := Same.made hox hdx sb1
    refine ⟨_, rfl, ?_⟩
    intro r dr hrx hdr hne2
    refine ⟨r, dr, a, rfl, upd_same, fun H2 hR0 sb2 => ⟨rfl, ?_⟩⟩
    have s2 : Same H1 H2 := Same.made hrx hdr sb2
    refine ⟨Nat.zero_le _, fun t ht => ?_⟩
    have s3 : Same H2 (upd H2 t (.lst [])) := Same.upd ht
    have s13 := (s1.trans s2).trans s3
    have hR3 : RdAt CR (upd H2 t (.lst [])) r a 0 := by
      obtain ⟨dy, e⟩ := hR0
      exact ⟨dy, s3 _ _ e⟩
    have ho2 := s2 _ _ hob
    have not_ : o ≠ t := ne_of_none ho2 ht
    have nor : o ≠ r := ne_of_none hob hrx
    refine ⟨fun m σ H' => ∃ (x y : Option V) (j fu : Nat) (st : Option Kqv3.Oven) (cs : List (List (List Int))) (done : List Int), σ = [some (.ref a), some (.ref o), some (.ref r), some (.ref t), x, y] ∧ SqL K H' a (ns.map V.int) ∧ RdAt CR H' r a j ∧
      H' t = some (.lst (done.map V.int)) ∧ StAt K C (er2 t r H') o st ∧ PyFlat.calls PyKqv3.shape fu (ns.drop j) = some cs ∧ (∀ c ∈ cs, Kqv3Neutral.asked1 c = true) ∧ PyKqv3.answers ns = done ++ PyFlat.told (PyFlat.played Kqv3Neutral.step st cs) ∧ m = cs.length,
      ⟨cs0.length, none, none, 0, ns.length, none, cs0, [], rfl, s13.seq hl, hR3, upd_same, ?_, hcs0, hall0, hans, rfl⟩, ?_⟩
    · exact ⟨dx, .non, 0, 0, lg, by rw [er2_ne not_ nor, s3 _ _ ho2]⟩
    rintro m σ H' ⟨x0, y0, j, fu, st, cs, done, rfl, hl', hR', ht', hS', hcs, hall, hans', rfl⟩
    obtain ⟨dy, er0⟩ := id hR'
    have ntr : t ≠ r := ne_of ht' er0 (by intro z; cases z)
    refine ⟨_, rfl, r, dy, _, rfl, er0, rfl, r, a, j, ns, rfl, hR', hl', fun H3 s4 => ⟨_, rfl, ?_⟩⟩
    rcases calls_cons hcs with ⟨hd, rfl⟩ | ⟨f', p, r', c, t', cs', hd, hcall, hcs', rfl⟩
    · have hj : ns.length ≤ j := by
        have := congrArg List.length hd
        rw [List.length_drop, List.length_nil] at this
        omega
      rw [decide_eq_true hj]
      refine iteF ?_
      refine ⟨_, rfl, k H3 t ?_⟩
      rw [s4 _ _ ht', hans']
      show _ = some (HO.lst ((done ++ []).map V.int))
      rw [List.append_nil]
    · have hj : j < ns.length := by
        have := congrArg List.length hd
        rw [List.length_drop, List.length_cons] at this
        omega
      rw [decide_eq_false (by omega)]
      refine iteT ?_
      obtain ⟨n, kk, rows, hsh, hn, hrows, rfl⟩ := call_parts hcall
      obtain ⟨x, hcx, hpx, hArg⟩ := asked_call (hall _ List.mem_cons_self)
      subst hpx
      have hx : ns[j]? = some ((num x : Nat) : Int) := by
        have := congrArg (fun l => l[0]?) hd
        simpa using this
      have hd1 : ns.drop (j + 1) = r' := by rw [← List.drop_drop, hd]; rfl
      have hnk : n ≤ 5 ∧ kk ≤ 2 := by
        rcases shape_cases hsh with ⟨_, h7, h8⟩ | ⟨_, h7, h8⟩ | ⟨_, h7, h8⟩ | ⟨_, h7, h8⟩ <;> omega
      have estep : Kqv3Neutral.step st ((((num x : Nat) : Int) :: r'.take n) :: rows) = ((Kqv3.step st x).1, Kqv3Neutral.tell (Kqv3.step st x).2) := by
        unfold Kqv3Neutral.step
        rw [hcx]
      have ans2 := hans'
      rw [told_cons, estep] at ans2
      dsimp only at ans2
      generalize htl : Kqv3Neutral.tell (Kqv3.step st x).2 = tl at ans2 estep
      have eTV : tellV st x = tl.map V.int := by unfold tellV; rw [htl]
      have hlong : done.length + 1 + tl.length ≤ 1000200 := by
        rw [ans2, List.length_append, List.length_append, List.length_cons] at hshort
        omega
      refine ⟨fun σ H'' => ∃ (x y : Option V) (j fu : Nat) (st : Option Kqv3.Oven) (cs : List (List (List Int))) (done : List Int), σ = [some (.ref a), some (.ref o), some (.ref r), some (.ref t), x, y] ∧ SqL K H'' a (ns.map V.int) ∧ RdAt CR H'' r a j ∧
        H'' t = some (.lst (done.map V.int)) ∧ StAt K C (er2 t r H'') o st ∧ PyFlat.calls PyKqv3.shape fu (ns.drop j) = some cs ∧ (∀ c ∈ cs, Kqv3Neutral.asked1 c = true) ∧ PyKqv3.answers ns = done ++ PyFlat.told (PyFlat.played Kqv3Neutral.step st cs) ∧ cs'.length = cs.length,
        fun σ' H'' hW => ⟨cs'.length, by rw [List.length_cons]; omega, hW⟩, ?_⟩
      have hR3 : RdAt CR H3 r a j := ⟨dy, s4 _ _ er0⟩
      refine ⟨_, rfl, r, dy, _, rfl, s4 _ _ er0, rfl, r, a, j, ns, _, rfl, hR3, s4.seq hl', hx, fun H4 s5 hR4 => ?_⟩
      obtain ⟨d4, er4⟩ := id hR4
      have hl4 := hR3.seq s5 (s4.seq hl')
      have ht4 := s5 _ _ (s4 _ _ ht') ntr
      refine ⟨_, rfl, _, rfl, _, rfl, r, d4, _, rfl, er4, rfl, _, rfl, r, a, j + 1, ns, num x, n, kk, r', t', rows, rfl, hR4, hl4, hlen, hsh, hnk.1, hnk.2, hd1, hn, hrows, fun H5 g ls j' s6 hR5 hd5 hg0 hg5 hA hfr => ?_⟩
      obtain ⟨d5, er5⟩ := id hR5
      have ht5 := s6 _ _ ht4 ntr
      have hl5 := hR4.seq s6 hl4
      have hT4 : TR H4 t r := ⟨⟨_, ht4⟩, _, _, _, _, er4⟩
      have hT5 : TR H5 t r := ⟨⟨_, ht5⟩, _, _, _, _, er5⟩
      have hS5 : StAt K C (er2 t r H5) o st := hS'.same (er2_sbr ((s4.but.trans s5).trans s6))
      have ng := hT4.new hg0
      have hgE : er2 t r H5 g = some (.lst ((r'.take n).map V.int ++ ls.map V.ref)) := by rw [er2_ne ng.1 ng.2]; exact hg5
      have hAE : RowsAt (er2 t r H5) ls rows := hA.keep fun l xs hl0 hl1 => by
        have nl := hT4.new (hfr l hl0)
        rw [er2_ne nl.1 nl.2]
        exact hl1
      refine ⟨o, g, t, r, st, x, rfl, hT5, hS5, given_of hArg hgE hAE, fun H6 q s7 hq0 hS6 hq6 => ?_⟩
      rw [eTV] at hq6
      have ntq : t ≠ q := ne_of_none ht5 hq0
      have ht6 := s7 _ _ ht5 not_.symm
      have er6 := s7 _ _ er5 nor.symm
      obtain ⟨dxo, mv, pv0, s0, n0, lg0, eo5⟩ := hS5.obj
      have hl6 := s7.seq (er2_same t r H5 _ _ eo5) hl5
      refine ⟨_, rfl, .inl ⟨rfl, _, SqL.of ht6⟩, _, rfl, q, _, rfl, .inl (SqL.of hq6), t, _, _, rfl, rfl, ht6, (by rw [List.length_map]; exact Nat.lt_of_lt_of_le (show done.length < 1000200 by omega) (by decide)), ?_⟩
      refine ⟨_, rfl, .inl ⟨rfl, _, SqL.of upd_same⟩, _, rfl, t, q, _, _, rfl, rfl, upd_same, (by rw [upd_ne ntq.symm]; exact hq6), (by rw [List.length_append, List.length_map, List.length_map]; exact Nat.le_trans (show done.length + 1 + tl.length ≤ 1000200 from hlong) (by decide)), ?_⟩
      rw [upd_upd]
      have eT : done.map V.int ++ [V.int ((tl.map V.int).length : Int)] ++ tl.map V.int = (done ++ ((tl.length : Int) :: tl)).map V.int := by
        rw [List.map_append, List.map_cons, List.length_map, List.append_assoc]
        rfl
      rw [eT]
      have sLast : ∀ (xs : List V), SqL K H6 a xs → a ≠ t → SqL K (upd H6 t (.lst ((done ++ ((tl.length : Int) :: tl)).map V.int))) a xs := fun xs h n => by
        rcases h with (h | ⟨u, h⟩) | h
        · exact .inl (.inl (by rw [upd_ne n]; exact h))
        · exact .inl (.inr ⟨u, by rw [upd_ne n]; exact h⟩)
        · exact .inr h
      refine ⟨some (nV (num x)), some (.ref q), j', f', (Kqv3.step st x).1, cs', done ++ ((tl.length : Int) :: tl), rfl, ?_, ⟨d5, ?_⟩, upd_same, ?_, ?_, ?_, ?_, rfl⟩
      · rcases hl with (h | ⟨u, h⟩) | h
        · exact sLast _ hl6 (ne_of_none h ((s1.trans s2).free ht))
        · exact sLast _ hl6 (ne_of_none h ((s1.trans s2).free ht))
        · exact .inr h
      · rw [upd_ne ntr.symm]
        exact er6
      · rw [er2_updt]
        exact hS6
      · rw [hd5]
        exact hcs'
      · exact fun c hc => hall c (List.mem_cons_of_mem _ hc)
      · rw [ans2, List.append_assoc]
end
end Pw
end
section
set_option Elab.async false
set_option linter.all false
set_option maxRecDepth 100000
set_option maxHeartbeats 2000000
namespace Pw
open PySem PySem.Spec L2
structure Txt (K : PySem.W.Frag) (mg : Str → Option Value) (cMould cPart cReader cWay cOven : Addr) : Prop where
  cl_Mould : Cls K cMould
  n_Mould_lag : NoAttr K cMould "lag"
  n_Mould_most : NoAttr K cMould "most"
  n_Mould_step : NoAttr K cMould "step"
  n_Mould_low : NoAttr K cMould "low"
  n_Mould_high : NoAttr K cMould "high"
  n_Mould_warms : NoAttr K cMould "warms"
  n_Mould_rates : NoAttr K cMould "rates"
  c_Mould : CDef K mg "Mould" "Mould.__init__" cMould s_Mould_init ["self", "lag", "most", "step", "low", "high", "warms", "rates"]
  cl_Part : Cls K cPart
  n_Part_warmth : NoAttr K cPart "warmth"
  n_Part_cure : NoAttr K cPart "cure"
  c_Part : CDef K mg "Part" "Part.__init__" cPart s_Part_init ["self", "warmth", "cure"]
  cl_Reader : Cls K cReader
  n_Reader_calls : NoAttr K cReader "calls"
  n_Reader_place : NoAttr K cReader "place"
  c_Reader : CDef K mg "Reader" "Reader.__init__" cReader s_Reader_init ["self", "calls"]
  m_Reader_is_at_end : MDef K cReader "is_at_end" "Reader.is_at_end" s_Reader_is_at_end ["self"]
  m_Reader_read_number : MDef K cReader "read_number" "Reader.read_number" s_Reader_read_number ["self"]
  m_Reader_read_row : MDef K cReader "read_row" "Reader.read_row" s_Reader_read_row ["self"]
  m_Reader_read_given : MDef K cReader "read_given" "Reader.read_given" s_Reader_read_given ["self", "call"]
  cl_Way : Cls K cWay
  n_Way_programme : NoAttr K cWay "programme"
  n_Way_point : NoAttr K cWay "point"
  n_Way_part : NoAttr K cWay "part"
  c_Way : CDef K mg "Way" "Way.__init__" cWay s_Way_init ["self", "programme", "point", "part"]
  cl_Oven : Cls K cOven
  n_Oven_mould : NoAttr K cOven "mould"
  n_Oven_part : NoAttr K cOven "part"
  n_Oven_point : NoAttr K cOven "point"
  n_Oven_minutes : NoAttr K cOven "minutes"
  n_Oven_log : NoAttr K cOven "log"
  c_Oven : CDef K mg "Oven" "Oven.__init__" cOven s_Oven_init ["self"]
  d_is_as_told : Def K mg "is_as_told" s_is_as_told ["mould"]
  d_is_table : Def K mg "is_table" s_is_table ["warms", "rates"]
  d_rate_at : Def K mg "rate_at" s_rate_at ["mould", "warmth"]
  d_is_point : Def K mg "is_point" s_is_point ["mould", "point"]
  d_may_go : Def K mg "may_go" s_may_go ["mould", "point", "other"]
  d_points_by_whole_steps : Def K mg "points_by_whole_steps" s_points_by_whole_steps ["mould", "point"]
  d_may_come_in_turn : Def K mg "may_come_in_turn" s_may_come_in_turn ["mould", "point", "programme"]
  d_is_cured : Def K mg "is_cured" s_is_cured ["part"]
  d_is_too_hot : Def K mg "is_too_hot" s_is_too_hot ["mould", "part"]
  d_warmth_later : Def K mg "warmth_later" s_warmth_later ["mould", "warmth", "point"]
  d_minute_later : Def K mg "minute_later" s_minute_later ["mould", "part", "point"]
  d_course : Def K mg "course" s_course ["mould", "part", "programme"]
  d_is_ever_too_hot : Def K mg "is_ever_too_hot" s_is_ever_too_hot ["mould", "parts"]
  d_ways_a_minute_longer : Def K mg "ways_a_minute_longer" s_ways_a_minute_longer ["mould", "ways"]
  d_first_cured : Def K mg "first_cured" s_first_cured ["ways"]
  d_first_cured_furthest : Def K mg "first_cured_furthest" s_first_cured_furthest ["ways"]
  d_soonest_way : Def K mg "soonest_way" s_soonest_way ["mould", "part", "point", "minutes"]
  d_farthest_way : Def K mg "farthest_way" s_farthest_way ["mould", "part", "point", "minutes"]
  d_course_held : Def K mg "course_held" s_course_held ["oven", "minutes"]
  d_course_that_does : Def K mg "course_that_does" s_course_that_does ["oven", "programme"]
  d_carry_out : Def K mg "carry_out" s_carry_out ["oven", "programme"]
  d_told_of : Def K mg "told_of" s_told_of ["part"]
  d_start : Def K mg "start" s_start ["oven", "given"]
  d_set_to : Def K mg "set_to" s_set_to ["oven", "given"]
  d_pass_by : Def K mg "pass_by" s_pass_by ["oven", "given"]
  d_would : Def K mg "would" s_would ["oven", "given"]
  d_hottest : Def K mg "hottest" s_hottest ["oven", "given"]
  d_left : Def K mg "left" s_left ["oven", "given"]
  d_cooled : Def K mg "cooled" s_cooled ["oven", "given"]
  d_cured : Def K mg "cured" s_cured ["oven", "given"]
  d_run : Def K mg "run" s_run ["oven", "given"]
  d_follow : Def K mg "follow" s_follow ["oven", "given"]
  d_soonest : Def K mg "soonest" s_soonest ["oven", "given"]
  d_farthest : Def K mg "farthest" s_farthest ["oven", "given"]
  d_rate : Def K mg "rate" s_rate ["oven", "given"]
  d_next_points : Def K mg "next_points" s_next_points ["oven", "given"]
  d_new_part : Def K mg "new_part" s_new_part ["oven", "given"]
  d_look_back : Def K mg "look_back" s_look_back ["oven", "given"]
  d_safe : Def K mg "safe" s_safe ["oven", "given"]
  d_need : Def K mg "need" s_need ["oven", "given"]
  d_state : Def K mg "state" s_state ["oven", "given"]
  d_answer : Def K mg "answer" s_answer ["oven", "call", "given"]
  d_answers : Def K mg "answers" s_answers ["calls"]
  g_MOST_LAG : GInt mg "MOST_LAG" 50
  g_MOST_STEP : GInt mg "MOST_STEP" 100
  g_MOST_WARMTH : GInt mg "MOST_WARMTH" 300
  g_MOST_RATE : GInt mg "MOST_RATE" 10000
  g_MOST_ROWS : GInt mg "MOST_ROWS" 8
  g_FULL_CURE : GInt mg "FULL_CURE" 10000
  g_NONE_SO_FAR_BACK : GInt mg "NONE_SO_FAR_BACK" (-6)
  g_NOT_STARTED : GInt mg "NOT_STARTED" (-11)
  g_MAY_NOT_GO : GInt mg "MAY_NOT_GO" (-13)
  g_OUT_OF_BOUNDS : GInt mg "OUT_OF_BOUNDS" (-22)
  g_NOT_IN_TIME : GInt mg "NOT_IN_TIME" (-33)
  g_DOES_NOT_DO : GInt mg "DOES_NOT_DO" (-62)
  g_START : GInt mg "START" 0
  g_MOST_MINUTES : GInt mg "MOST_MINUTES" 300
  g_LONGEST_PROGRAMME : GInt mg "LONGEST_PROGRAMME" 30
  g_LONGEST_SEARCH : GInt mg "LONGEST_SEARCH" 6
  g_LONGEST_NEED : GInt mg "LONGEST_NEED" 60
  g_LONGEST_LOG : GInt mg "LONGEST_LOG" 100
  z_abs : mg "abs" = none
  z_all : mg "all" = none
  z_any : mg "any" = none
  z_enumerate : mg "enumerate" = none
  z_len : mg "len" = none
  z_max : mg "max" = none
  z_min : mg "min" = none
  z_range : mg "range" = none
  z_zip : mg "zip" = none
  t_SHAPES : ∃ (a : Addr) (rs : List Addr), mg "SHAPES" = some (.ref a) ∧ KTup K a (rs.map V.ref) ∧ ∃ r0 r1 r2 r3 r4 r5 r6 r7 r8 r9 r10 r11 r12 r13 r14 r15 r16 r17 r18, rs = [r0, r1, r2, r3, r4, r5, r6, r7, r8, r9, r10, r11, r12, r13, r14, r15, r16, r17, r18] ∧ KTup K r0 [nV 5, nV 2] ∧ KTup K r1 [nV 1, nV 0] ∧ KTup K r2 [nV 1, nV 0] ∧ KTup K r3 [nV 1, nV 0] ∧ KTup K r4 [nV 1, nV 0] ∧ KTup K r5 [nV 0, nV 0] ∧ KTup K r6 [nV 1, nV 0] ∧ KTup K r7 [nV 0, nV 0] ∧ KTup K r8 [nV 0, nV 1] ∧ KTup K r9 [nV 0, nV 1] ∧ KTup K r10 [nV 1, nV 0] ∧ KTup K r11 [nV 1, nV 0] ∧ KTup K r12 [nV 1, nV 0] ∧ KTup K r13 [nV 0, nV 0] ∧ KTup K r14 [nV 1, nV 0] ∧ KTup K r15 [nV 1, nV 0] ∧ KTup K r16 [nV 1, nV 0] ∧ KTup K r17 [nV 1, nV 0] ∧ KTup K r18 [nV 0, nV 0]
  t_CALLS : ∃ (a : Addr) (fs : List Addr), mg "CALLS" = some (.ref a) ∧ KTup K a (fs.map V.ref) ∧ ∃ r0 r1 r2 r3 r4 r5 r6 r7 r8 r9 r10 r11 r12 r13 r14 r15 r16 r17 r18, fs = [r0, r1, r2, r3, r4, r5, r6, r7, r8, r9, r10, r11, r12, r13, r14, r15, r16, r17, r18] ∧ mg "start" = some (.ref r0) ∧ mg "set_to" = some (.ref r1) ∧ mg "pass_by" = some (.ref r2) ∧ mg "would" = some (.ref r3) ∧ mg "hottest" = some (.ref r4) ∧ mg "left" = some (.ref r5) ∧ mg "cooled" = some (.ref r6) ∧ mg "cured" = some (.ref r7) ∧ mg "run" = some (.ref r8) ∧ mg "follow" = some (.ref r9) ∧ mg "soonest" = some (.ref r10) ∧ mg "farthest" = some (.ref r11) ∧ mg "rate" = some (.ref r12) ∧ mg "next_points" = some (.ref r13) ∧ mg "new_part" = some (.ref r14) ∧ mg "look_back" = some (.ref r15) ∧ mg "safe" = some (.ref r16) ∧ mg "need" = some (.ref r17) ∧ mg "state" = some (.ref r18)
theorem txt_mk {K : PySem.W.Frag} {h : Heap} {mg : Str → Option Value} (X : K.In h) (G : h.Ns mainGlobals mg)
    {cMould : Addr}
    {f_Mould_init : Addr} {od_Mould_init an_Mould_init : Option Addr} {sl_Mould_init : Array (Option Value)} {oc_Mould_init kV_Mould_init dc_Mould_init pm_Mould_init cd_Mould_init ct_Mould_init : Value}
    {cPart : Addr}
    {f_Part_init : Addr} {od_Part_init an_Part_init : Option Addr} {sl_Part_init : Array (Option Value)} {oc_Part_init kV_Part_init dc_Part_init pm_Part_init cd_Part_init ct_Part_init : Value}
    {cReader : Addr}
    {f_Reader_init : Addr} {od_Reader_init an_Reader_init : Option Addr} {sl_Reader_init : Array (Option Value)} {oc_Reader_init kV_Reader_init dc_Reader_init pm_Reader_init cd_Reader_init ct_Reader_init : Value}
    {f_Reader_is_at_end : Addr} {od_Reader_is_at_end an_Reader_is_at_end : Option Addr} {sl_Reader_is_at_end : Array (Option Value)} {oc_Reader_is_at_end kV_Reader_is_at_end dc_Reader_is_at_end pm_Reader_is_at_end cd_Reader_is_at_end ct_Reader_is_at_end : Value}
    {f_Reader_read_number : Addr} {od_Reader_read_number an_Reader_read_number : Option Addr} {sl_Reader_read_number : Array (Option Value)} {oc_Reader_read_number kV_Reader_read_number dc_Reader_read_number pm_Reader_read_number cd_Reader_read_number ct_Reader_read_number : Value}
    {f_Reader_read_row : Addr} {od_Reader_read_row an_Reader_read_row : Option Addr} {sl_Reader_read_row : Array (Option Value)} {oc_Reader_read_row kV_Reader_read_row dc_Reader_read_row pm_Reader_read_row cd_Reader_read_row ct_Reader_read_row : Value}
    {f_Reader_read_given : Addr} {od_Reader_read_given an_Reader_read_given : Option Addr} {sl_Reader_read_given : Array (Option Value)} {oc_Reader_read_given kV_Reader_read_given dc_Reader_read_given pm_Reader_read_given cd_Reader_read_given ct_Reader_read_given : Value}
    {cWay : Addr}
    {f_Way_init : Addr} {od_Way_init an_Way_init : Option Addr} {sl_Way_init : Array (Option Value)} {oc_Way_init kV_Way_init dc_Way_init pm_Way_init cd_Way_init ct_Way_init : Value}
    {cOven : Addr}
    {f_Oven_init : Addr} {od_Oven_init an_Oven_init : Option Addr} {sl_Oven_init : Array (Option Value)} {oc_Oven_init kV_Oven_init dc_Oven_init pm_Oven_init cd_Oven_init ct_Oven_init : Value}
    {f_is_as_told : Addr} {od_is_as_told an_is_as_told : Option Addr} {sl_is_as_told : Array (Option Value)} {oc_is_as_told kV_is_as_told dc_is_as_told pm_is_as_told cd_is_as_told ct_is_as_told : Value}
    {f_is_table : Addr} {od_is_table an_is_table : Option Addr} {sl_is_table : Array (Option Value)} {oc_is_table kV_is_table dc_is_table pm_is_table cd_is_table ct_is_table : Value}
    {f_rate_at : Addr} {od_rate_at an_rate_at : Option Addr} {sl_rate_at : Array (Option Value)} {oc_rate_at kV_rate_at dc_rate_at pm_rate_at cd_rate_at ct_rate_at : Value}
    {f_is_point : Addr} {od_is_point an_is_point : Option Addr} {sl_is_point : Array (Option Value)} {oc_is_point kV_is_point dc_is_point pm_is_point cd_is_point ct_is_point : Value}
    {f_may_go : Addr} {od_may_go an_may_go : Option Addr} {sl_may_go : Array (Option Value)} {oc_may_go kV_may_go dc_may_go pm_may_go cd_may_go ct_may_go : Value}
    {f_points_by_whole_steps : Addr} {od_points_by_whole_steps an_points_by_whole_steps : Option Addr} {sl_points_by_whole_steps : Array (Option Value)} {oc_points_by_whole_steps kV_points_by_whole_steps dc_points_by_whole_steps pm_points_by_whole_steps cd_points_by_whole_steps ct_points_by_whole_steps : Value}
    {f_may_come_in_turn : Addr} {od_may_come_in_turn an_may_come_in_turn : Option Addr} {sl_may_come_in_turn : Array (Option Value)} {oc_may_come_in_turn kV_may_come_in_turn dc_may_come_in_turn pm_may_come_in_turn cd_may_come_in_turn ct_may_come_in_turn : Value}
    {f_is_cured : Addr} {od_is_cured an_is_cured : Option Addr} {sl_is_cured : Array (Option Value)} {oc_is_cured kV_is_cured dc_is_cured pm_is_cured cd_is_cured ct_is_cured : Value}
    {f_is_too_hot : Addr} {od_is_too_hot an_is_too_hot : Option Addr} {sl_is_too_hot : Array (Option Value)} {oc_is_too_hot kV_is_too_hot dc_is_too_hot pm_is_too_hot cd_is_too_hot ct_is_too_hot : Value}
    {f_warmth_later : Addr} {od_warmth_later an_warmth_later : Option Addr} {sl_warmth_later : Array (Option Value)} {oc_warmth_later kV_warmth_later dc_warmth_later pm_warmth_later cd_warmth_later ct_warmth_later : Value}
    {f_minute_later : Addr} {od_minute_later an_minute_later : Option Addr} {sl_minute_later : Array (Option Value)} {oc_minute_later kV_minute_later dc_minute_later pm_minute_later cd_minute_later ct_minute_later : Value}
    {f_course : Addr} {od_course an_course : Option Addr} {sl_course : Array (Option Value)} {oc_course kV_course dc_course pm_course cd_course ct_course : Value}
    {f_is_ever_too_hot : Addr} {od_is_ever_too_hot an_is_ever_too_hot : Option Addr} {sl_is_ever_too_hot : Array (Option Value)} {oc_is_ever_too_hot kV_is_ever_too_hot dc_is_ever_too_hot pm_is_ever_too_hot cd_is_ever_too_hot ct_is_ever_too_hot : Value}
    {f_ways_a_minute_longer : Addr} {od_ways_a_minute_longer an_ways_a_minute_longer : Option Addr} {sl_ways_a_minute_longer : Array (Option Value)} {oc_ways_a_minute_longer kV_ways_a_minute_longer dc_ways_a_minute_longer pm_ways_a_minute_longer cd_ways_a_minute_longer ct_ways_a_minute_longer : Value}
    {f_first_cured : Addr} {od_first_cured an_first_cured : Option Addr} {sl_first_cured : Array (Option Value)} {oc_first_cured kV_first_cured dc_first_cured pm_first_cured cd_first_cured ct_first_cured : Value}
    {f_first_cured_furthest : Addr} {od_first_cured_furthest an_first_cured_furthest : Option Addr} {sl_first_cured_furthest : Array (Option Value)} {oc_first_cured_furthest kV_first_cured_furthest dc_first_cured_furthest pm_first_cured_furthest cd_first_cured_furthest ct_first_cured_furthest : Value}
    {f_soonest_way : Addr} {od_soonest_way an_soonest_way : Option Addr} {sl_soonest_way : Array (Option Value)} {oc_soonest_way kV_soonest_way dc_soonest_way pm_soonest_way cd_soonest_way ct_soonest_way : Value}
    {f_farthest_way : Addr} {od_farthest_way an_farthest_way : Option Addr} {sl_farthest_way : Array (Option Value)} {oc_farthest_way kV_farthest_way dc_farthest_way pm_farthest_way cd_farthest_way ct_farthest_way : Value}
    {f_course_held : Addr} {od_course_held an_course_held : Option Addr} {sl_course_held : Array (Option Value)} {oc_course_held kV_course_held dc_course_held pm_course_held cd_course_held ct_course_held : Value}
    {f_course_that_does : Addr} {od_course_that_does an_course_that_does : Option Addr} {sl_course_that_does : Array (Option Value)} {oc_course_that_does kV_course_that_does dc_course_that_does pm_course_that_does cd_course_that_does ct_course_that_does : Value}
    {f_carry_out : Addr} {od_carry_out an_carry_out : Option Addr} {sl_carry_out : Array (Option Value)} {oc_carry_out kV_carry_out dc_carry_out pm_carry_out cd_carry_out ct_carry_out : Value}
    {f_told_of : Addr} {od_told_of an_told_of : Option Addr} {sl_told_of : Array (Option Value)} {oc_told_of kV_told_of dc_told_of pm_told_of cd_told_of ct_told_of : Value}
    {f_start : Addr} {od_start an_start : Option Addr} {sl_start : Array (Option Value)} {oc_start kV_start dc_start pm_start cd_start ct_start : Value}
    {f_set_to : Addr} {od_set_to an_set_to : Option Addr} {sl_set_to : Array (Option Value)} {oc_set_to kV_set_to dc_set_to pm_set_to cd_set_to ct_set_to : Value}
    {f_pass_by : Addr} {od_pass_by an_pass_by : Option Addr} {sl_pass_by : Array (Option Value)} {oc_pass_by kV_pass_by dc_pass_by pm_pass_by cd_pass_by ct_pass_by : Value}
    {f_would : Addr} {od_would an_would : Option Addr} {sl_would : Array (Option Value)} {oc_would kV_would dc_would pm_would cd_would ct_would : Value}
    {f_hottest : Addr} {od_hottest an_hottest : Option Addr} {sl_hottest : Array (Option Value)} {oc_hottest kV_hottest dc_hottest pm_hottest cd_hottest ct_hottest : Value}
    {f_left : Addr} {od_left an_left : Option Addr} {sl_left : Array (Option Value)} {oc_left kV_left dc_left pm_left cd_left ct_left : Value}
    {f_cooled : Addr} {od_cooled an_cooled : Option Addr} {sl_cooled : Array (Option Value)} {oc_cooled kV_cooled dc_cooled pm_cooled cd_cooled ct_cooled : Value}
    {f_cured : Addr} {od_cured an_cured : Option Addr} {sl_cured : Array (Option Value)} {oc_cured kV_cured dc_cured pm_cured cd_cured ct_cured : Value}
    {f_run : Addr} {od_run an_run : Option Addr} {sl_run : Array (Option Value)} {oc_run kV_run dc_run pm_run cd_run ct_run : Value}
    {f_follow : Addr} {od_follow an_follow : Option Addr} {sl_follow : Array (Option Value)} {oc_follow kV_follow dc_follow pm_follow cd_follow ct_follow : Value}
    {f_soonest : Addr} {od_soonest an_soonest : Option Addr} {sl_soonest : Array (Option Value)} {oc_soonest kV_soonest dc_soonest pm_soonest cd_soonest ct_soonest : Value}
    {f_farthest : Addr} {od_farthest an_farthest : Option Addr} {sl_farthest : Array (Option Value)} {oc_farthest kV_farthest dc_farthest pm_farthest cd_farthest ct_farthest : Value}
    {f_rate : Addr} {od_rate an_rate : Option Addr} {sl_rate : Array (Option Value)} {oc_rate kV_rate dc_rate pm_rate cd_rate ct_rate : Value}
    {f_next_points : Addr} {od_next_points an_next_points : Option Addr} {sl_next_points : Array (Option Value)} {oc_next_points kV_next_points dc_next_points pm_next_points cd_next_points ct_next_points : Value}
    {f_new_part : Addr} {od_new_part an_new_part : Option Addr} {sl_new_part : Array (Option Value)} {oc_new_part kV_new_part dc_new_part pm_new_part cd_new_part ct_new_part : Value}
    {f_look_back : Addr} {od_look_back an_look_back : Option Addr} {sl_look_back : Array (Option Value)} {oc_look_back kV_look_back dc_look_back pm_look_back cd_look_back ct_look_back : Value}
    {f_safe : Addr} {od_safe an_safe : Option Addr} {sl_safe : Array (Option Value)} {oc_safe kV_safe dc_safe pm_safe cd_safe ct_safe : Value}
    {f_need : Addr} {od_need an_need : Option Addr} {sl_need : Array (Option Value)} {oc_need kV_need dc_need pm_need cd_need ct_need : Value}
    {f_state : Addr} {od_state an_state : Option Addr} {sl_state : Array (Option Value)} {oc_state kV_state dc_state pm_state cd_state ct_state : Value}
    {f_answer : Addr} {od_answer an_answer : Option Addr} {sl_answer : Array (Option Value)} {oc_answer kV_answer dc_answer pm_answer cd_answer ct_answer : Value}
    {f_answers : Addr} {od_answers an_answers : Option Addr} {sl_answers : Array (Option Value)} {oc_answers kV_answers dc_answers pm_answers cd_answers ct_answers : Value}
    {t_MOST_LAG : Tok}
    {t_MOST_STEP : Tok}
    {t_MOST_WARMTH : Tok}
    {t_MOST_RATE : Tok}
    {t_MOST_ROWS : Tok}
    {t_FULL_CURE : Tok}
    {t_NONE_SO_FAR_BACK : Tok}
    {t_NOT_STARTED : Tok}
    {t_MAY_NOT_GO : Tok}
    {t_OUT_OF_BOUNDS : Tok}
    {t_NOT_IN_TIME : Tok}
    {t_DOES_NOT_DO : Tok}
    {t_START : Tok}
    {t_MOST_MINUTES : Tok}
    {t_LONGEST_PROGRAMME : Tok}
    {t_LONGEST_SEARCH : Tok}
    {t_LONGEST_NEED : Tok}
    {t_LONGEST_LOG : Tok}
    {tu_SHAPES tu_SHAPES_0 tu_SHAPES_1 tu_SHAPES_2 tu_SHAPES_3 tu_SHAPES_4 tu_SHAPES_5 tu_SHAPES_6 tu_SHAPES_7 tu_SHAPES_8 tu_SHAPES_9 tu_SHAPES_10 tu_SHAPES_11 tu_SHAPES_12 tu_SHAPES_13 tu_SHAPES_14 tu_SHAPES_15 tu_SHAPES_16 tu_SHAPES_17 tu_SHAPES_18 : Addr} {tq_SHAPES tq_SHAPES_0 tq_SHAPES_1 tq_SHAPES_2 tq_SHAPES_3 tq_SHAPES_4 tq_SHAPES_5 tq_SHAPES_6 tq_SHAPES_7 tq_SHAPES_8 tq_SHAPES_9 tq_SHAPES_10 tq_SHAPES_11 tq_SHAPES_12 tq_SHAPES_13 tq_SHAPES_14 tq_SHAPES_15 tq_SHAPES_16 tq_SHAPES_17 tq_SHAPES_18 : Nat} {td_SHAPES td_SHAPES_0 td_SHAPES_1 td_SHAPES_2 td_SHAPES_3 td_SHAPES_4 td_SHAPES_5 td_SHAPES_6 td_SHAPES_7 td_SHAPES_8 td_SHAPES_9 td_SHAPES_10 td_SHAPES_11 td_SHAPES_12 td_SHAPES_13 td_SHAPES_14 td_SHAPES_15 td_SHAPES_16 td_SHAPES_17 td_SHAPES_18 : Option Addr} {ts_SHAPES ts_SHAPES_0 ts_SHAPES_1 ts_SHAPES_2 ts_SHAPES_3 ts_SHAPES_4 ts_SHAPES_5 ts_SHAPES_6 ts_SHAPES_7 ts_SHAPES_8 ts_SHAPES_9 ts_SHAPES_10 ts_SHAPES_11 ts_SHAPES_12 ts_SHAPES_13 ts_SHAPES_14 ts_SHAPES_15 ts_SHAPES_16 ts_SHAPES_17 ts_SHAPES_18 : Array (Option Value)}
    {tt_SHAPES_0_0 : Tok} {tt_SHAPES_0_1 : Tok}
    {tt_SHAPES_1_0 : Tok} {tt_SHAPES_1_1 : Tok}
    {tt_SHAPES_2_0 : Tok} {tt_SHAPES_2_1 : Tok}
    {tt_SHAPES_3_0 : Tok} {tt_SHAPES_3_1 : Tok}
    {tt_SHAPES_4_0 : Tok} {tt_SHAPES_4_1 : Tok}
    {tt_SHAPES_5_0 : Tok} {tt_SHAPES_5_1 : Tok}
    {tt_SHAPES_6_0 : Tok} {tt_SHAPES_6_1 : Tok}
    {tt_SHAPES_7_0 : Tok} {tt_SHAPES_7_1 : Tok}
    {tt_SHAPES_8_0 : Tok} {tt_SHAPES_8_1 : Tok}
    {tt_SHAPES_9_0 : Tok} {tt_SHAPES_9_1 : Tok}
    {tt_SHAPES_10_0 : Tok} {tt_SHAPES_10_1 : Tok}
    {tt_SHAPES_11_0 : Tok} {tt_SHAPES_11_1 : Tok}
    {tt_SHAPES_12_0 : Tok} {tt_SHAPES_12_1 : Tok}
    {tt_SHAPES_13_0 : Tok} {tt_SHAPES_13_1 : Tok}
    {tt_SHAPES_14_0 : Tok} {tt_SHAPES_14_1 : Tok}
    {tt_SHAPES_15_0 : Tok} {tt_SHAPES_15_1 : Tok}
    {tt_SHAPES_16_0 : Tok} {tt_SHAPES_16_1 : Tok}
    {tt_SHAPES_17_0 : Tok} {tt_SHAPES_17_1 : Tok}
    {tt_SHAPES_18_0 : Tok} {tt_SHAPES_18_1 : Tok}
    {tu_CALLS : Addr} {tq_CALLS : Nat} {td_CALLS : Option Addr} {ts_CALLS : Array (Option Value)}
    (a_Mould : PySem.W.nsIn K mainGlobals "Mould" = some (some (.ref cMould)))
    (a_Mould_init : PySem.W.findIn K (.ref cMould) "__init__" = some (some (.ref f_Mould_init)))
    (i_Mould_init : PySem.W.isFn K (.ref f_Mould_init) = true)
    (l_Mould_init : K.lookup f_Mould_init = some ⟨oc_Mould_init, od_Mould_init, .func (PySem.W.fnOf "__init__" "Mould.__init__" (defArgs s_Mould_init) (defBody s_Mould_init) (defScope s_Mould_init) .none kV_Mould_init dc_Mould_init pm_Mould_init an_Mould_init cd_Mould_init ct_Mould_init), sl_Mould_init⟩)
    (k1_Mould_init : PySem.W.codeIn K cd_Mould_init "Mould.__init__" = true)
    (k2_Mould_init : PySem.W.keepIn K (.ref f_Mould_init) = true)
    (pg_Mould : PySem.W.plainGet K cMould Str.empty = true)
    (hd_Mould : PySem.W.hasDictIn K cMould = true)
    (po_Mould : PySem.W.plainOver K cMould = true)
    (sa_Mould : PySem.W.findIn K (.ref cMould) "__setattr__" = some (some (.builtin "object.__setattr__")))
    (mk_Mould : PySem.W.makesIn K cMould = true)
    (kc_Mould : PySem.W.keepIn K (.ref cMould) = true)
    (n_Mould_lag : PySem.W.findIn K (.ref cMould) "lag" = some none)
    (n_Mould_most : PySem.W.findIn K (.ref cMould) "most" = some none)
    (n_Mould_step : PySem.W.findIn K (.ref cMould) "step" = some none)
    (n_Mould_low : PySem.W.findIn K (.ref cMould) "low" = some none)
    (n_Mould_high : PySem.W.findIn K (.ref cMould) "high" = some none)
    (n_Mould_warms : PySem.W.findIn K (.ref cMould) "warms" = some none)
    (n_Mould_rates : PySem.W.findIn K (.ref cMould) "rates" = some none)
    (a_Part : PySem.W.nsIn K mainGlobals "Part" = some (some (.ref cPart)))
    (a_Part_init : PySem.W.findIn K (.ref cPart) "__init__" = some (some (.ref f_Part_init)))
    (i_Part_init : PySem.W.isFn K (.ref f_Part_init) = true)
    (l_Part_init : K.lookup f_Part_init = some ⟨oc_Part_init, od_Part_init, .func (PySem.W.fnOf "__init__" "Part.__init__" (defArgs s_Part_init) (defBody s_Part_init) (defScope s_Part_init) .none kV_Part_init dc_Part_init pm_Part_init an_Part_init cd_Part_init ct_Part_init), sl_Part_init⟩)
    (k1_Part_init : PySem.W.codeIn K cd_Part_init "Part.__init__" = true)
    (k2_Part_init : PySem.W.keepIn K (.ref f_Part_init) = true)
    (pg_Part : PySem.W.plainGet K cPart Str.empty = true)
    (hd_Part : PySem.W.hasDictIn K cPart = true)
    (po_Part : PySem.W.plainOver K cPart = true)
    (sa_Part : PySem.W.findIn K (.ref cPart) "__setattr__" = some (some (.builtin "object.__setattr__")))
    (mk_Part : PySem.W.makesIn K cPart = true)
    (kc_Part : PySem.W.keepIn K (.ref cPart) = true)
    (n_Part_warmth : PySem.W.findIn K (.ref cPart) "warmth" = some none)
    (n_Part_cure : PySem.W.findIn K (.ref cPart) "cure" = some none)
    (a_Reader : PySem.W.nsIn K mainGlobals "Reader" = some (some (.ref cReader)))
    (a_Reader_init : PySem.W.findIn K (.ref cReader) "__init__" = some (some (.ref f_Reader_init)))
    (i_Reader_init : PySem.W.isFn K (.ref f_Reader_init) = true)
    (l_Reader_init : K.lookup f_Reader_init = some ⟨oc_Reader_init, od_Reader_init, .func (PySem.W.fnOf "__init__" "Reader.__init__" (defArgs s_Reader_init) (defBody s_Reader_init) (defScope s_Reader_init) .none kV_Reader_init dc_Reader_init pm_Reader_init an_Reader_init cd_Reader_init ct_Reader_init), sl_Reader_init⟩)
    (k1_Reader_init : PySem.W.codeIn K cd_Reader_init "Reader.__init__" = true)
    (k2_Reader_init : PySem.W.keepIn K (.ref f_Reader_init) = true)
    (a_Reader_is_at_end : PySem.W.findIn K (.ref cReader) "is_at_end" = some (some (.ref f_Reader_is_at_end)))
    (i_Reader_is_at_end : PySem.W.isFn K (.ref f_Reader_is_at_end) = true)
    (l_Reader_is_at_end : K.lookup f_Reader_is_at_end = some ⟨oc_Reader_is_at_end, od_Reader_is_at_end, .func (PySem.W.fnOf "is_at_end" "Reader.is_at_end" (defArgs s_Reader_is_at_end) (defBody s_Reader_is_at_end) (defScope s_Reader_is_at_end) .none kV_Reader_is_at_end dc_Reader_is_at_end pm_Reader_is_at_end an_Reader_is_at_end cd_Reader_is_at_end ct_Reader_is_at_end), sl_Reader_is_at_end⟩)
    (k1_Reader_is_at_end : PySem.W.codeIn K cd_Reader_is_at_end "Reader.is_at_end" = true)
    (k2_Reader_is_at_end : PySem.W.keepIn K (.ref f_Reader_is_at_end) = true)
    (a_Reader_read_number : PySem.W.findIn K (.ref cReader) "read_number" = some (some (.ref f_Reader_read_number)))
    (i_Reader_read_number : PySem.W.isFn K (.ref f_Reader_read_number) = true)
    (l_Reader_read_number : K.lookup f_Reader_read_number = some ⟨oc_Reader_read_number, od_Reader_read_number, .func (PySem.W.fnOf "read_number" "Reader.read_number" (defArgs s_Reader_read_number) (defBody s_Reader_read_number) (defScope s_Reader_read_number) .none kV_Reader_read_number dc_Reader_read_number pm_Reader_read_number an_Reader_read_number cd_Reader_read_number ct_Reader_read_number), sl_Reader_read_number⟩)
    (k1_Reader_read_number : PySem.W.codeIn K cd_Reader_read_number "Reader.read_number" = true)
    (k2_Reader_read_number : PySem.W.keepIn K (.ref f_Reader_read_number) = true)
    (a_Reader_read_row : PySem.W.findIn K (.ref cReader) "read_row" = some (some (.ref f_Reader_read_row)))
    (i_Reader_read_row : PySem.W.isFn K (.ref f_Reader_read_row) = true)
    (l_Reader_read_row : K.lookup f_Reader_read_row = some ⟨oc_Reader_read_row, od_Reader_read_row, .func (PySem.W.fnOf "read_row" "Reader.read_row" (defArgs s_Reader_read_row) (defBody s_Reader_read_row) (defScope s_Reader_read_row) .none kV_Reader_read_row dc_Reader_read_row pm_Reader_read_row an_Reader_read_row cd_Reader_read_row ct_Reader_read_row), sl_Reader_read_row⟩)
    (k1_Reader_read_row : PySem.W.codeIn K cd_Reader_read_row "Reader.read_row" = true)
    (k2_Reader_read_row : PySem.W.keepIn K (.ref f_Reader_read_row) = true)
    (a_Reader_read_given : PySem.W.findIn K (.ref cReader) "read_given" = some (some (.ref f_Reader_read_given)))
    (i_Reader_read_given : PySem.W.isFn K (.ref f_Reader_read_given) = true)
    (l_Reader_read_given : K.lookup f_Reader_read_given = some ⟨oc_Reader_read_given, od_Reader_read_given, .func (PySem.W.fnOf "read_given" "Reader.read_given" (defArgs s_Reader_read_given) (defBody s_Reader_read_given) (defScope s_Reader_read_given) .none kV_Reader_read_given dc_Reader_read_given pm_Reader_read_given an_Reader_read_given cd_Reader_read_given ct_Reader_read_given), sl_Reader_read_given⟩)
    (k1_Reader_read_given : PySem.W.codeIn K cd_Reader_read_given "Reader.read_given" = true)
    (k2_Reader_read_given : PySem.W.keepIn K (.ref f_Reader_read_given) = true)
    (pg_Reader : PySem.W.plainGet K cReader Str.empty = true)
    (hd_Reader : PySem.W.hasDictIn K cReader = true)
    (po_Reader : PySem.W.plainOver K cReader = true)
    (sa_Reader : PySem.W.findIn K (.ref cReader) "__setattr__" = some (some (.builtin "object.__setattr__")))
    (mk_Reader : PySem.W.makesIn K cReader = true)
    (kc_Reader : PySem.W.keepIn K (.ref cReader) = true)
    (n_Reader_calls : PySem.W.findIn K (.ref cReader) "calls" = some none)
    (n_Reader_place : PySem.W.findIn K (.ref cReader) "place" = some none)
    (a_Way : PySem.W.nsIn K mainGlobals "Way" = some (some (.ref cWay)))
    (a_Way_init : PySem.W.findIn K (.ref cWay) "__init__" = some (some (.ref f_Way_init)))
    (i_Way_init : PySem.W.isFn K (.ref f_Way_init) = true)
    (l_Way_init : K.lookup f_Way_init = some ⟨oc_Way_init, od_Way_init, .func (PySem.W.fnOf "__init__" "Way.__init__" (defArgs s_Way_init) (defBody s_Way_init) (defScope s_Way_init) .none kV_Way_init dc_Way_init pm_Way_init an_Way_init cd_Way_init ct_Way_init), sl_Way_init⟩)
    (k1_Way_init : PySem.W.codeIn K cd_Way_init "Way.__init__" = true)
    (k2_Way_init : PySem.W.keepIn K (.ref f_Way_init) = true)
    (pg_Way : PySem.W.plainGet K cWay Str.empty = true)
    (hd_Way : PySem.W.hasDictIn K cWay = true)
    (po_Way : PySem.W.plainOver K cWay = true)
    (sa_Way : PySem.W.findIn K (.ref cWay) "__setattr__" = some (some (.builtin "object.__setattr__")))
    (mk_Way : PySem.W.makesIn K cWay = true)
    (kc_Way : PySem.W.keepIn K (.ref cWay) = true)
    (n_Way_programme : PySem.W.findIn K (.ref cWay) "programme" = some none)
    (n_Way_point : PySem.W.findIn K (.ref cWay) "point" = some none)
    (n_Way_part : PySem.W.findIn K (.ref cWay) "part" = some none)
    (a_Oven : PySem.W.nsIn K mainGlobals "Oven" = some (some (.ref cOven)))
    (a_Oven_init : PySem.W.findIn K (.ref cOven) "__init__" = some (some (.ref f_Oven_init)))
    (i_Oven_init : PySem.W.isFn K (.ref f_Oven_init) = true)
    (l_Oven_init : K.lookup f_Oven_init = some ⟨oc_Oven_init, od_Oven_init, .func (PySem.W.fnOf "__init__" "Oven.__init__" (defArgs s_Oven_init) (defBody s_Oven_init) (defScope s_Oven_init) .none kV_Oven_init dc_Oven_init pm_Oven_init an_Oven_init cd_Oven_init ct_Oven_init), sl_Oven_init⟩)
    (k1_Oven_init : PySem.W.codeIn K cd_Oven_init "Oven.__init__" = true)
    (k2_Oven_init : PySem.W.keepIn K (.ref f_Oven_init) = true)
    (pg_Oven : PySem.W.plainGet K cOven Str.empty = true)
    (hd_Oven : PySem.W.hasDictIn K cOven = true)
    (po_Oven : PySem.W.plainOver K cOven = true)
    (sa_Oven : PySem.W.findIn K (.ref cOven) "__setattr__" = some (some (.builtin "object.__setattr__")))
    (mk_Oven : PySem.W.makesIn K cOven = true)
    (kc_Oven : PySem.W.keepIn K (.ref cOven) = true)
    (n_Oven_mould : PySem.W.findIn K (.ref cOven) "mould" = some none)
    (n_Oven_part : PySem.W.findIn K (.ref cOven) "part" = some none)
    (n_Oven_point : PySem.W.findIn K (.ref cOven) "point" = some none)
    (n_Oven_minutes : PySem.W.findIn K (.ref cOven) "minutes" = some none)
    (n_Oven_log : PySem.W.findIn K (.ref cOven) "log" = some none)
    (a_is_as_told : PySem.W.nsIn K mainGlobals "is_as_told" = some (some (.ref f_is_as_told)))
    (l_is_as_told : K.lookup f_is_as_told = some ⟨oc_is_as_told, od_is_as_told, .func (PySem.W.fnOf "is_as_told" "is_as_told" (defArgs s_is_as_told) (defBody s_is_as_told) (defScope s_is_as_told) .none kV_is_as_told dc_is_as_told pm_is_as_told an_is_as_told cd_is_as_told ct_is_as_told), sl_is_as_told⟩)
    (k1_is_as_told : PySem.W.codeIn K cd_is_as_told "is_as_told" = true)
    (k2_is_as_told : PySem.W.keepIn K (.ref f_is_as_told) = true)
    (a_is_table : PySem.W.nsIn K mainGlobals "is_table" = some (some (.ref f_is_table)))
    (l_is_table : K.lookup f_is_table = some ⟨oc_is_table, od_is_table, .func (PySem.W.fnOf "is_table" "is_table" (defArgs s_is_table) (defBody s_is_table) (defScope s_is_table) .none kV_is_table dc_is_table pm_is_table an_is_table cd_is_table ct_is_table), sl_is_table⟩)
    (k1_is_table : PySem.W.codeIn K cd_is_table "is_table" = true)
    (k2_is_table : PySem.W.keepIn K (.ref f_is_table) = true)
    (a_rate_at : PySem.W.nsIn K mainGlobals "rate_at" = some (some (.ref f_rate_at)))
    (l_rate_at : K.lookup f_rate_at = some ⟨oc_rate_at, od_rate_at, .func (PySem.W.fnOf "rate_at" "rate_at" (defArgs s_rate_at) (defBody s_rate_at) (defScope s_rate_at) .none kV_rate_at dc_rate_at pm_rate_at an_rate_at cd_rate_at ct_rate_at), sl_rate_at⟩)
    (k1_rate_at : PySem.W.codeIn K cd_rate_at "rate_at" = true)
    (k2_rate_at : PySem.W.keepIn K (.ref f_rate_at) = true)
    (a_is_point : PySem.W.nsIn K mainGlobals "is_point" = some (some (.ref f_is_point)))
    (l_is_point : K.lookup f_is_point = some ⟨oc_is_point, od_is_point, .func (PySem.W.fnOf "is_point" "is_point" (defArgs s_is_point) (defBody s_is_point) (defScope s_is_point) .none kV_is_point dc_is_point pm_is_point an_is_point cd_is_point ct_is_point), sl_is_point⟩)
    (k1_is_point : PySem.W.codeIn K cd_is_point "is_point" = true)
    (k2_is_point : PySem.W.keepIn K (.ref f_is_point) = true)
    (a_may_go : PySem.W.nsIn K mainGlobals "may_go" = some (some (.ref f_may_go)))
    (l_may_go : K.lookup f_may_go = some ⟨oc_may_go, od_may_go, .func (PySem.W.fnOf "may_go" "may_go" (defArgs s_may_go) (defBody s_may_go) (defScope s_may_go) .none kV_may_go dc_may_go pm_may_go an_may_go cd_may_go ct_may_go), sl_may_go⟩)
    (k1_may_go : PySem.W.codeIn K cd_may_go "may_go" = true)
    (k2_may_go : PySem.W.keepIn K (.ref f_may_go) = true)
    (a_points_by_whole_steps : PySem.W.nsIn K mainGlobals "points_by_whole_steps" = some (some (.ref f_points_by_whole_steps)))
    (l_points_by_whole_steps : K.lookup f_points_by_whole_steps = some ⟨oc_points_by_whole_steps, od_points_by_whole_steps, .func (PySem.W.fnOf "points_by_whole_steps" "points_by_whole_steps" (defArgs s_points_by_whole_steps) (defBody s_points_by_whole_steps) (defScope s_points_by_whole_steps) .none kV_points_by_whole_steps dc_points_by_whole_steps pm_points_by_whole_steps an_points_by_whole_steps cd_points_by_whole_steps ct_points_by_whole_steps), sl_points_by_whole_steps⟩)
    (k1_points_by_whole_steps : PySem.W.codeIn K cd_points_by_whole_steps "points_by_whole_steps" = true)
    (k2_points_by_whole_steps : PySem.W.keepIn K (.ref f_points_by_whole_steps) = true)
    (a_may_come_in_turn : PySem.W.nsIn K mainGlobals "may_come_in_turn" = some (some (.ref f_may_come_in_turn)))
    (l_may_come_in_turn : K.lookup f_may_come_in_turn = some ⟨oc_may_come_in_turn, od_may_come_in_turn, .func (PySem.W.fnOf "may_come_in_turn" "may_come_in_turn" (defArgs s_may_come_in_turn) (defBody s_may_come_in_turn) (defScope s_may_come_in_turn) .none kV_may_come_in_turn dc_may_come_in_turn pm_may_come_in_turn an_may_come_in_turn cd_may_come_in_turn ct_may_come_in_turn), sl_may_come_in_turn⟩)
    (k1_may_come_in_turn : PySem.W.codeIn K cd_may_come_in_turn "may_come_in_turn" = true)
    (k2_may_come_in_turn : PySem.W.keepIn K (.ref f_may_come_in_turn) = true)
    (a_is_cured : PySem.W.nsIn K mainGlobals "is_cured" = some (some (.ref f_is_cured)))
    (l_is_cured : K.lookup f_is_cured = some ⟨oc_is_cured, od_is_cured, .func (PySem.W.fnOf "is_cured" "is_cured" (defArgs s_is_cured) (defBody s_is_cured) (defScope s_is_cured) .none kV_is_cured dc_is_cured pm_is_cured an_is_cured cd_is_cured ct_is_cured), sl_is_cured⟩)
    (k1_is_cured : PySem.W.codeIn K cd_is_cured "is_cured" = true)
    (k2_is_cured : PySem.W.keepIn K (.ref f_is_cured) = true)
    (a_is_too_hot : PySem.W.nsIn K mainGlobals "is_too_hot" = some (some (.ref f_is_too_hot)))
    (l_is_too_hot : K.lookup f_is_too_hot = some ⟨oc_is_too_hot, od_is_too_hot, .func (PySem.W.fnOf "is_too_hot" "is_too_hot" (defArgs s_is_too_hot) (defBody s_is_too_hot) (defScope s_is_too_hot) .none kV_is_too_hot dc_is_too_hot pm_is_too_hot an_is_too_hot cd_is_too_hot ct_is_too_hot), sl_is_too_hot⟩)
    (k1_is_too_hot : PySem.W.codeIn K cd_is_too_hot "is_too_hot" = true)
    (k2_is_too_hot : PySem.W.keepIn K (.ref f_is_too_hot) = true)
    (a_warmth_later : PySem.W.nsIn K mainGlobals "warmth_later" = some (some (.ref f_warmth_later)))
    (l_warmth_later : K.lookup f_warmth_later = some ⟨oc_warmth_later, od_warmth_later, .func (PySem.W.fnOf "warmth_later" "warmth_later" (defArgs s_warmth_later) (defBody s_warmth_later) (defScope s_warmth_later) .none kV_warmth_later dc_warmth_later pm_warmth_later an_warmth_later cd_warmth_later ct_warmth_later), sl_warmth_later⟩)
    (k1_warmth_later : PySem.W.codeIn K cd_warmth_later "warmth_later" = true)
    (k2_warmth_later : PySem.W.keepIn K (.ref f_warmth_later) = true)
    (a_minute_later : PySem.W.nsIn K mainGlobals "minute_later" = some (some (.ref f_minute_later)))
    (l_minute_later : K.lookup f_minute_later = some ⟨oc_minute_later, od_minute_later, .func (PySem.W.fnOf "minute_later" "minute_later" (defArgs s_minute_later) (defBody s_minute_later) (defScope s_minute_later) .none kV_minute_later dc_minute_later pm_minute_later an_minute_later cd_minute_later ct_minute_later), sl_minute_later⟩)
    (k1_minute_later : PySem.W.codeIn K cd_minute_later "minute_later" = true)
    (k2_minute_later : PySem.W.keepIn K (.ref f_minute_later) = true)
    (a_course : PySem.W.nsIn K mainGlobals "course" = some (some (.ref f_course)))
    (l_course : K.lookup f_course = some ⟨oc_course, od_course, .func (PySem.W.fnOf "course" "course" (defArgs s_course) (defBody s_course) (defScope s_course) .none kV_course dc_course pm_course an_course cd_course ct_course), sl_course⟩)
    (k1_course : PySem.W.codeIn K cd_course "course" = true)
    (k2_course : PySem.W.keepIn K (.ref f_course) = true)
    (a_is_ever_too_hot : PySem.W.nsIn K mainGlobals "is_ever_too_hot" = some (some (.ref f_is_ever_too_hot)))
    (l_is_ever_too_hot : K.lookup f_is_ever_too_hot = some ⟨oc_is_ever_too_hot, od_is_ever_too_hot, .func (PySem.W.fnOf "is_ever_too_hot" "is_ever_too_hot" (defArgs s_is_ever_too_hot) (defBody s_is_ever_too_hot) (defScope s_is_ever_too_hot) .none kV_is_ever_too_hot dc_is_ever_too_hot pm_is_ever_too_hot an_is_ever_too_hot cd_is_ever_too_hot ct_is_ever_too_hot), sl_is_ever_too_hot⟩)
    (k1_is_ever_too_hot : PySem.W.codeIn K cd_is_ever_too_hot "is_ever_too_hot" = true)
    (k2_is_ever_too_hot : PySem.W.keepIn K (.ref f_is_ever_too_hot) = true)
    (a_ways_a_minute_longer : PySem.W.nsIn K mainGlobals "ways_a_minute_longer" = some (some (.ref f_ways_a_minute_longer)))
    (l_ways_a_minute_longer : K.lookup f_ways_a_minute_longer = some ⟨oc_ways_a_minute_longer, od_ways_a_minute_longer, .func (PySem.W.fnOf "ways_a_minute_longer" "ways_a_minute_longer" (defArgs s_ways_a_minute_longer) (defBody s_ways_a_minute_longer) (defScope s_ways_a_minute_longer) .none kV_ways_a_minute_longer dc_ways_a_minute_longer pm_ways_a_minute_longer an_ways_a_minute_longer cd_ways_a_minute_longer ct_ways_a_minute_longer), sl_ways_a_minute_longer⟩)
    (k1_ways_a_minute_longer : PySem.W.codeIn K cd_ways_a_minute_longer "ways_a_minute_longer" = true)
    (k2_ways_a_minute_longer : PySem.W.keepIn K (.ref f_ways_a_minute_longer) = true)
    (a_first_cured : PySem.W.nsIn K mainGlobals "first_cured" = some (some (.ref f_first_cured)))
    (l_first_cured : K.lookup f_first_cured = some ⟨oc_first_cured, od_first_cured, .func (PySem.W.fnOf "first_cured" "first_cured" (defArgs s_first_cured) (defBody s_first_cured) (defScope s_first_cured) .none kV_first_cured dc_first_cured pm_first_cured an_first_cured cd_first_cured ct_first_cured), sl_first_cured⟩)
    (k1_first_cured : PySem.W.codeIn K cd_first_cured "first_cured" = true)
    (k2_first_cured : PySem.W.keepIn K (.ref f_first_cured) = true)
    (a_first_cured_furthest : PySem.W.nsIn K mainGlobals "first_cured_furthest" = some (some (.ref f_first_cured_furthest)))
    (l_first_cured_furthest : K.lookup f_first_cured_furthest = some ⟨oc_first_cured_furthest, od_first_cured_furthest, .func (PySem.W.fnOf "first_cured_furthest" "first_cured_furthest" (defArgs s_first_cured_furthest) (defBody s_first_cured_furthest) (defScope s_first_cured_furthest) .none kV_first_cured_furthest dc_first_cured_furthest pm_first_cured_furthest an_first_cured_furthest cd_first_cured_furthest ct_first_cured_furthest), sl_first_cured_furthest⟩)
    (k1_first_cured_furthest : PySem.W.codeIn K cd_first_cured_furthest "first_cured_furthest" = true)
    (k2_first_cured_furthest : PySem.W.keepIn K (.ref f_first_cured_furthest) = true)
    (a_soonest_way : PySem.W.nsIn K mainGlobals "soonest_way" = some (some (.ref f_soonest_way)))
    (l_soonest_way : K.lookup f_soonest_way = some ⟨oc_soonest_way, od_soonest_way, .func (PySem.W.fnOf "soonest_way" "soonest_way" (defArgs s_soonest_way) (defBody s_soonest_way) (defScope s_soonest_way) .none kV_soonest_way dc_soonest_way pm_soonest_way an_soonest_way cd_soonest_way ct_soonest_way), sl_soonest_way⟩)
    (k1_soonest_way : PySem.W.codeIn K cd_soonest_way "soonest_way" = true)
    (k2_soonest_way : PySem.W.keepIn K (.ref f_soonest_way) = true)
    (a_farthest_way : PySem.W.nsIn K mainGlobals "farthest_way" = some (some (.ref f_farthest_way)))
    (l_farthest_way : K.lookup f_farthest_way = some ⟨oc_farthest_way, od_farthest_way, .func (PySem.W.fnOf "farthest_way" "farthest_way" (defArgs s_farthest_way) (defBody s_farthest_way) (defScope s_farthest_way) .none kV_farthest_way dc_farthest_way pm_farthest_way an_farthest_way cd_farthest_way ct_farthest_way), sl_farthest_way⟩)
    (k1_farthest_way : PySem.W.codeIn K cd_farthest_way "farthest_way" = true)
    (k2_farthest_way : PySem.W.keepIn K (.ref f_farthest_way) = true)
    (a_course_held : PySem.W.nsIn K mainGlobals "course_held" = some (some (.ref f_course_held)))
    (l_course_held : K.lookup f_course_held = some ⟨oc_course_held, od_course_held, .func (PySem.W.fnOf "course_held" "course_held" (defArgs s_course_held) (defBody s_course_held) (defScope s_course_held) .none kV_course_held dc_course_held pm_course_held an_course_held cd_course_held ct_course_held), sl_course_held⟩)
    (k1_course_held : PySem.W.codeIn K cd_course_held "course_held" = true)
    (k2_course_held : PySem.W.keepIn K (.ref f_course_held) = true)
    (a_course_that_does : PySem.W.nsIn K mainGlobals "course_that_does" = some (some (.ref f_course_that_does)))
    (l_course_that_does : K.lookup f_course_that_does = some ⟨oc_course_that_does, od_course_that_does, .func (PySem.W.fnOf "course_that_does" "course_that_does" (defArgs s_course_that_does) (defBody s_course_that_does) (defScope s_course_that_does) .none kV_course_that_does dc_course_that_does pm_course_that_does an_course_that_does cd_course_that_does ct_course_that_does), sl_course_that_does⟩)
    (k1_course_that_does : PySem.W.codeIn K cd_course_that_does "course_that_does" = true)
    (k2_course_that_does : PySem.W.keepIn K (.ref f_course_that_does) = true)
    (a_carry_out : PySem.W.nsIn K mainGlobals "carry_out" = some (some (.ref f_carry_out)))
    (l_carry_out : K.lookup f_carry_out = some ⟨oc_carry_out, od_carry_out, .func (PySem.W.fnOf "carry_out" "carry_out" (defArgs s_carry_out) (defBody s_carry_out) (defScope s_carry_out) .none kV_carry_out dc_carry_out pm_carry_out an_carry_out cd_carry_out ct_carry_out), sl_carry_out⟩)
    (k1_carry_out : PySem.W.codeIn K cd_carry_out "carry_out" = true)
    (k2_carry_out : PySem.W.keepIn K (.ref f_carry_out) = true)
    (a_told_of : PySem.W.nsIn K mainGlobals "told_of" = some (some (.ref f_told_of)))
    (l_told_of : K.lookup f_told_of = some ⟨oc_told_of, od_told_of, .func (PySem.W.fnOf "told_of" "told_of" (defArgs s_told_of) (defBody s_told_of) (defScope s_told_of) .none kV_told_of dc_told_of pm_told_of an_told_of cd_told_of ct_told_of), sl_told_of⟩)
    (k1_told_of : PySem.W.codeIn K cd_told_of "told_of" = true)
    (k2_told_of : PySem.W.keepIn K (.ref f_told_of) = true)
    (a_start : PySem.W.nsIn K mainGlobals "start" = some (some (.ref f_start)))
    (l_start : K.lookup f_start = some ⟨oc_start, od_start, .func (PySem.W.fnOf "start" "start" (defArgs s_start) (defBody s_start) (defScope s_start) .none kV_start dc_start pm_start an_start cd_start ct_start), sl_start⟩)
    (k1_start : PySem.W.codeIn K cd_start "start" = true)
    (k2_start : PySem.W.keepIn K (.ref f_start) = true)
    (a_set_to : PySem.W.nsIn K mainGlobals "set_to" = some (some (.ref f_set_to)))
    (l_set_to : K.lookup f_set_to = some ⟨oc_set_to, od_set_to, .func (PySem.W.fnOf "set_to" "set_to" (defArgs s_set_to) (defBody s_set_to) (defScope s_set_to) .none kV_set_to dc_set_to pm_set_to an_set_to cd_set_to ct_set_to), sl_set_to⟩)
    (k1_set_to : PySem.W.codeIn K cd_set_to "set_to" = true)
    (k2_set_to : PySem.W.keepIn K (.ref f_set_to) = true)
    (a_pass_by : PySem.W.nsIn K mainGlobals "pass_by" = some (some (.ref f_pass_by)))
    (l_pass_by : K.lookup f_pass_by = some ⟨oc_pass_by, od_pass_by, .func (PySem.W.fnOf "pass_by" "pass_by" (defArgs s_pass_by) (defBody s_pass_by) (defScope s_pass_by) .none kV_pass_by dc_pass_by pm_pass_by an_pass_by cd_pass_by ct_pass_by), sl_pass_by⟩)
    (k1_pass_by : PySem.W.codeIn K cd_pass_by "pass_by" = true)
    (k2_pass_by : PySem.W.keepIn K (.ref f_pass_by) = true)
    (a_would : PySem.W.nsIn K mainGlobals "would" = some (some (.ref f_would)))
    (l_would : K.lookup f_would = some ⟨oc_would, od_would, .func (PySem.W.fnOf "would" "would" (defArgs s_would) (defBody s_would) (defScope s_would) .none kV_would dc_would pm_would an_would cd_would ct_would), sl_would⟩)
    (k1_would : PySem.W.codeIn K cd_would "would" = true)
    (k2_would : PySem.W.keepIn K (.ref f_would) = true)
    (a_hottest : PySem.W.nsIn K mainGlobals "hottest" = some (some (.ref f_hottest)))
    (l_hottest : K.lookup f_hottest = some ⟨oc_hottest, od_hottest, .func (PySem.W.fnOf "hottest" "hottest" (defArgs s_hottest) (defBody s_hottest) (defScope s_hottest) .none kV_hottest dc_hottest pm_hottest an_hottest cd_hottest ct_hottest), sl_hottest⟩)
    (k1_hottest : PySem.W.codeIn K cd_hottest "hottest" = true)
    (k2_hottest : PySem.W.keepIn K (.ref f_hottest) = true)
    (a_left : PySem.W.nsIn K mainGlobals "left" = some (some (.ref f_left)))
    (l_left : K.lookup f_left = some ⟨oc_left, od_left, .func (PySem.W.fnOf "left" "left" (defArgs s_left) (defBody s_left) (defScope s_left) .none kV_left dc_left pm_left an_left cd_left ct_left), sl_left⟩)
    (k1_left : PySem.W.codeIn K cd_left "left" = true)
    (k2_left : PySem.W.keepIn K (.ref f_left) = true)
    (a_cooled : PySem.W.nsIn K mainGlobals "cooled" = some (some (.ref f_cooled)))
    (l_cooled : K.lookup f_cooled = some ⟨oc_cooled, od_cooled, .func (PySem.W.fnOf "cooled" "cooled" (defArgs s_cooled) (defBody s_cooled) (defScope s_cooled) .none kV_cooled dc_cooled pm_cooled an_cooled cd_cooled ct_cooled), sl_cooled⟩)
    (k1_cooled : PySem.W.codeIn K cd_cooled "cooled" = true)
    (k2_cooled : PySem.W.keepIn K (.ref f_cooled) = true)
    (a_cured : PySem.W.nsIn K mainGlobals "cured" = some (some (.ref f_cured)))
    (l_cured : K.lookup f_cured = some ⟨oc_cured, od_cured, .func (PySem.W.fnOf "cured" "cured" (defArgs s_cured) (defBody s_cured) (defScope s_cured) .none kV_cured dc_cured pm_cured an_cured cd_cured ct_cured), sl_cured⟩)
    (k1_cured : PySem.W.codeIn K cd_cured "cured" = true)
    (k2_cured : PySem.W.keepIn K (.ref f_cured) = true)
    (a_run : PySem.W.nsIn K mainGlobals "run" = some (some (.ref f_run)))
    (l_run : K.lookup f_run = some ⟨oc_run, od_run, .func (PySem.W.fnOf "run" "run" (defArgs s_run) (defBody s_run) (defScope s_run) .none kV_run dc_run pm_run an_run cd_run ct_run), sl_run⟩)
    (k1_run : PySem.W.codeIn K cd_run "run" = true)
    (k2_run : PySem.W.keepIn K (.ref f_run) = true)
    (a_follow : PySem.W.nsIn K mainGlobals "follow" = some (some (.ref f_follow)))
    (l_follow : K.lookup f_follow = some ⟨oc_follow, od_follow, .func (PySem.W.fnOf "follow" "follow" (defArgs s_follow) (defBody s_follow) (defScope s_follow) .none kV_follow dc_follow pm_follow an_follow cd_follow ct_follow), sl_follow⟩)
    (k1_follow : PySem.W.codeIn K cd_follow "follow" = true)
    (k2_follow : PySem.W.keepIn K (.ref f_follow) = true)
    (a_soonest : PySem.W.nsIn K mainGlobals "soonest" = some (some (.ref f_soonest)))
    (l_soonest : K.lookup f_soonest = some ⟨oc_soonest, od_soonest, .func (PySem.W.fnOf "soonest" "soonest" (defArgs s_soonest) (defBody s_soonest) (defScope s_soonest) .none kV_soonest dc_soonest pm_soonest an_soonest cd_soonest ct_soonest), sl_soonest⟩)
    (k1_soonest : PySem.W.codeIn K cd_soonest "soonest" = true)
    (k2_soonest : PySem.W.keepIn K (.ref f_soonest) = true)
    (a_farthest : PySem.W.nsIn K mainGlobals "farthest" = some (some (.ref f_farthest)))
    (l_farthest : K.lookup f_farthest = some ⟨oc_farthest, od_farthest, .func (PySem.W.fnOf "farthest" "farthest" (defArgs s_farthest) (defBody s_farthest) (defScope s_farthest) .none kV_farthest dc_farthest pm_farthest an_farthest cd_farthest ct_farthest), sl_farthest⟩)
    (k1_farthest : PySem.W.codeIn K cd_farthest "farthest" = true)
    (k2_farthest : PySem.W.keepIn K (.ref f_farthest) = true)
    (a_rate : PySem.W.nsIn K mainGlobals "rate" = some (some (.ref f_rate)))
    (l_rate : K.lookup f_rate = some ⟨oc_rate, od_rate, .func (PySem.W.fnOf "rate" "rate" (defArgs s_rate) (defBody s_rate) (defScope s_rate) .none kV_rate dc_rate pm_rate an_rate cd_rate ct_rate), sl_rate⟩)
    (k1_rate : PySem.W.codeIn K cd_rate "rate" = true)
    (k2_rate : PySem.W.keepIn K (.ref f_rate) = true)
    (a_next_points : PySem.W.nsIn K mainGlobals "next_points" = some (some (.ref f_next_points)))
    (l_next_points : K.lookup f_next_points = some ⟨oc_next_points, od_next_points, .func (PySem.W.fnOf "next_points" "next_points" (defArgs s_next_points) (defBody s_next_points) (defScope s_next_points) .none kV_next_points dc_next_points pm_next_points an_next_points cd_next_points ct_next_points), sl_next_points⟩)
    (k1_next_points : PySem.W.codeIn K cd_next_points "next_points" = true)
    (k2_next_points : PySem.W.keepIn K (.ref f_next_points) = true)
    (a_new_part : PySem.W.nsIn K mainGlobals "new_part" = some (some (.ref f_new_part)))
    (l_new_part : K.lookup f_new_part = some ⟨oc_new_part, od_new_part, .func (PySem.W.fnOf "new_part" "new_part" (defArgs s_new_part) (defBody s_new_part) (defScope s_new_part) .none kV_new_part dc_new_part pm_new_part an_new_part cd_new_part ct_new_part), sl_new_part⟩)
    (k1_new_part : PySem.W.codeIn K cd_new_part "new_part" = true)
    (k2_new_part : PySem.W.keepIn K (.ref f_new_part) = true)
    (a_look_back : PySem.W.nsIn K mainGlobals "look_back" = some (some (.ref f_look_back)))
    (l_look_back : K.lookup f_look_back = some ⟨oc_look_back, od_look_back, .func (PySem.W.fnOf "look_back" "look_back" (defArgs s_look_back) (defBody s_look_back) (defScope s_look_back) .none kV_look_back dc_look_back pm_look_back an_look_back cd_look_back ct_look_back), sl_look_back⟩)
    (k1_look_back : PySem.W.codeIn K cd_look_back "look_back" = true)
    (k2_look_back : PySem.W.keepIn K (.ref f_look_back) = true)
    (a_safe : PySem.W.nsIn K mainGlobals "safe" = some (some (.ref f_safe)))
    (l_safe : K.lookup f_safe = some ⟨oc_safe, od_safe, .func (PySem.W.fnOf "safe" "safe" (defArgs s_safe) (defBody s_safe) (defScope s_safe) .none kV_safe dc_safe pm_safe an_safe cd_safe ct_safe), sl_safe⟩)
    (k1_safe : PySem.W.codeIn K cd_safe "safe" = true)
    (k2_safe : PySem.W.keepIn K (.ref f_safe) = true)
    (a_need : PySem.W.nsIn K mainGlobals "need" = some (some (.ref f_need)))
    (l_need : K.lookup f_need = some ⟨oc_need, od_need, .func (PySem.W.fnOf "need" "need" (defArgs s_need) (defBody s_need) (defScope s_need) .none kV_need dc_need pm_need an_need cd_need ct_need), sl_need⟩)
    (k1_need : PySem.W.codeIn K cd_need "need" = true)
    (k2_need : PySem.W.keepIn K (.ref f_need) = true)
    (a_state : PySem.W.nsIn K mainGlobals "state" = some (some (.ref f_state)))
    (l_state : K.lookup f_state = some ⟨oc_state, od_state, .func (PySem.W.fnOf "state" "state" (defArgs s_state) (defBody s_state) (defScope s_state) .none kV_state dc_state pm_state an_state cd_state ct_state), sl_state⟩)
    (k1_state : PySem.W.codeIn K cd_state "state" = true)
    (k2_state : PySem.W.keepIn K (.ref f_state) = true)
    (a_answer : PySem.W.nsIn K mainGlobals "answer" = some (some (.ref f_answer)))
    (l_answer : K.lookup f_answer = some ⟨oc_answer, od_answer, .func (PySem.W.fnOf "answer" "answer" (defArgs s_answer) (defBody s_answer) (defScope s_answer) .none kV_answer dc_answer pm_answer an_answer cd_answer ct_answer), sl_answer⟩)
    (k1_answer : PySem.W.codeIn K cd_answer "answer" = true)
    (k2_answer : PySem.W.keepIn K (.ref f_answer) = true)
    (a_answers : PySem.W.nsIn K mainGlobals "answers" = some (some (.ref f_answers)))
    (l_answers : K.lookup f_answers = some ⟨oc_answers, od_answers, .func (PySem.W.fnOf "answers" "answers" (defArgs s_answers) (defBody s_answers) (defScope s_answers) .none kV_answers dc_answers pm_answers an_answers cd_answers ct_answers), sl_answers⟩)
    (k1_answers : PySem.W.codeIn K cd_answers "answers" = true)
    (k2_answers : PySem.W.keepIn K (.ref f_answers) = true)
    (g_MOST_LAG : PySem.W.nsIn K mainGlobals "MOST_LAG" = some (some (.int 50 t_MOST_LAG)))
    (g_MOST_STEP : PySem.W.nsIn K mainGlobals "MOST_STEP" = some (some (.int 100 t_MOST_STEP)))
    (g_MOST_WARMTH : PySem.W.nsIn K mainGlobals "MOST_WARMTH" = some (some (.int 300 t_MOST_WARMTH)))
    (g_MOST_RATE : PySem.W.nsIn K mainGlobals "MOST_RATE" = some (some (.int 10000 t_MOST_RATE)))
    (g_MOST_ROWS : PySem.W.nsIn K mainGlobals "MOST_ROWS" = some (some (.int 8 t_MOST_ROWS)))
    (g_FULL_CURE : PySem.W.nsIn K mainGlobals "FULL_CURE" = some (some (.int 10000 t_FULL_CURE)))
    (g_NONE_SO_FAR_BACK : PySem.W.nsIn K mainGlobals "NONE_SO_FAR_BACK" = some (some (.int (-6) t_NONE_SO_FAR_BACK)))
    (g_NOT_STARTED : PySem.W.nsIn K mainGlobals "NOT_STARTED" = some (some (.int (-11) t_NOT_STARTED)))
    (g_MAY_NOT_GO : PySem.W.nsIn K mainGlobals "MAY_NOT_GO" = some (some (.int (-13) t_MAY_NOT_GO)))
    (g_OUT_OF_BOUNDS : PySem.W.nsIn K mainGlobals "OUT_OF_BOUNDS" = some (some (.int (-22) t_OUT_OF_BOUNDS)))
    (g_NOT_IN_TIME : PySem.W.nsIn K mainGlobals "NOT_IN_TIME" = some (some (.int (-33) t_NOT_IN_TIME)))
    (g_DOES_NOT_DO : PySem.W.nsIn K mainGlobals "DOES_NOT_DO" = some (some (.int (-62) t_DOES_NOT_DO)))
    (g_START : PySem.W.nsIn K mainGlobals "START" = some (some (.int 0 t_START)))
    (g_MOST_MINUTES : PySem.W.nsIn K mainGlobals "MOST_MINUTES" = some (some (.int 300 t_MOST_MINUTES)))
    (g_LONGEST_PROGRAMME : PySem.W.nsIn K mainGlobals "LONGEST_PROGRAMME" = some (some (.int 30 t_LONGEST_PROGRAMME)))
    (g_LONGEST_SEARCH : PySem.W.nsIn K mainGlobals "LONGEST_SEARCH" = some (some (.int 6 t_LONGEST_SEARCH)))
    (g_LONGEST_NEED : PySem.W.nsIn K mainGlobals "LONGEST_NEED" = some (some (.int 60 t_LONGEST_NEED)))
    (g_LONGEST_LOG : PySem.W.nsIn K mainGlobals "LONGEST_LOG" = some (some (.int 100 t_LONGEST_LOG)))
    (z_abs : PySem.W.nsIn K mainGlobals "abs" = some none)
    (z_all : PySem.W.nsIn K mainGlobals "all" = some none)
    (z_any : PySem.W.nsIn K mainGlobals "any" = some none)
    (z_enumerate : PySem.W.nsIn K mainGlobals "enumerate" = some none)
    (z_len : PySem.W.nsIn K mainGlobals "len" = some none)
    (z_max : PySem.W.nsIn K mainGlobals "max" = some none)
    (z_min : PySem.W.nsIn K mainGlobals "min" = some none)
    (z_range : PySem.W.nsIn K mainGlobals "range" = some none)
    (z_zip : PySem.W.nsIn K mainGlobals "zip" = some none)
    (ta_SHAPES : PySem.W.nsIn K mainGlobals "SHAPES" = some (some (.ref tu_SHAPES)))
    (tl_SHAPES : K.lookup tu_SHAPES = some ⟨.type "tuple", td_SHAPES, .seq #[.ref tu_SHAPES_0, .ref tu_SHAPES_1, .ref tu_SHAPES_2, .ref tu_SHAPES_3, .ref tu_SHAPES_4, .ref tu_SHAPES_5, .ref tu_SHAPES_6, .ref tu_SHAPES_7, .ref tu_SHAPES_8, .ref tu_SHAPES_9, .ref tu_SHAPES_10, .ref tu_SHAPES_11, .ref tu_SHAPES_12, .ref tu_SHAPES_13, .ref tu_SHAPES_14, .ref tu_SHAPES_15, .ref tu_SHAPES_16, .ref tu_SHAPES_17, .ref tu_SHAPES_18] tq_SHAPES, ts_SHAPES⟩)
    (tl_SHAPES_0 : K.lookup tu_SHAPES_0 = some ⟨.type "tuple", td_SHAPES_0, .seq #[.int 5 tt_SHAPES_0_0, .int 2 tt_SHAPES_0_1] tq_SHAPES_0, ts_SHAPES_0⟩)
    (tl_SHAPES_1 : K.lookup tu_SHAPES_1 = some ⟨.type "tuple", td_SHAPES_1, .seq #[.int 1 tt_SHAPES_1_0, .int 0 tt_SHAPES_1_1] tq_SHAPES_1, ts_SHAPES_1⟩)
    (tl_SHAPES_2 : K.lookup tu_SHAPES_2 = some ⟨.type "tuple", td_SHAPES_2, .seq #[.int 1 tt_SHAPES_2_0, .int 0 tt_SHAPES_2_1] tq_SHAPES_2, ts_SHAPES_2⟩)
    (tl_SHAPES_3 : K.lookup tu_SHAPES_3 = some ⟨.type "tuple", td_SHAPES_3, .seq #[.int 1 tt_SHAPES_3_0, .int 0 tt_SHAPES_3_1] tq_SHAPES_3, ts_SHAPES_3⟩)
    (tl_SHAPES_4 : K.lookup tu_SHAPES_4 = some ⟨.type "tuple", td_SHAPES_4, .seq #[.int 1 tt_SHAPES_4_0, .int 0 tt_SHAPES_4_1] tq_SHAPES_4, ts_SHAPES_4⟩)
    (tl_SHAPES_5 : K.lookup tu_SHAPES_5 = some ⟨.type "tuple", td_SHAPES_5, .seq #[.int 0 tt_SHAPES_5_0, .int 0 tt_SHAPES_5_1] tq_SHAPES_5, ts_SHAPES_5⟩)
    (tl_SHAPES_6 : K.lookup tu_SHAPES_6 = some ⟨.type "tuple", td_SHAPES_6, .seq #[.int 1 tt_SHAPES_6_0, .int 0 tt_SHAPES_6_1] tq_SHAPES_6, ts_SHAPES_6⟩)
    (tl_SHAPES_7 : K.lookup tu_SHAPES_7 = some ⟨.type "tuple", td_SHAPES_7, .seq #[.int 0 tt_SHAPES_7_0, .int 0 tt_SHAPES_7_1] tq_SHAPES_7, ts_SHAPES_7⟩)
    (tl_SHAPES_8 : K.lookup tu_SHAPES_8 = some ⟨.type "tuple", td_SHAPES_8, .seq #[.int 0 tt_SHAPES_8_0, .int 1 tt_SHAPES_8_1] tq_SHAPES_8, ts_SHAPES_8⟩)
    (tl_SHAPES_9 : K.lookup tu_SHAPES_9 = some ⟨.type "tuple", td_SHAPES_9, .seq #[.int 0 tt_SHAPES_9_0, .int 1 tt_SHAPES_9_1] tq_SHAPES_9, ts_SHAPES_9⟩)
    (tl_SHAPES_10 : K.lookup tu_SHAPES_10 = some ⟨.type "tuple", td_SHAPES_10, .seq #[.int 1 tt_SHAPES_10_0, .int 0 tt_SHAPES_10_1] tq_SHAPES_10, ts_SHAPES_10⟩)
    (tl_SHAPES_11 : K.lookup tu_SHAPES_11 = some ⟨.type "tuple", td_SHAPES_11, .seq #[.int 1 tt_SHAPES_11_0, .int 0 tt_SHAPES_11_1] tq_SHAPES_11, ts_SHAPES_11⟩)
    (tl_SHAPES_12 : K.lookup tu_SHAPES_12 = some ⟨.type "tuple", td_SHAPES_12, .seq #[.int 1 tt_SHAPES_12_0, .int 0 tt_SHAPES_12_1] tq_SHAPES_12, ts_SHAPES_12⟩)
    (tl_SHAPES_13 : K.lookup tu_SHAPES_13 = some ⟨.type "tuple", td_SHAPES_13, .seq #[.int 0 tt_SHAPES_13_0, .int 0 tt_SHAPES_13_1] tq_SHAPES_13, ts_SHAPES_13⟩)
    (tl_SHAPES_14 : K.lookup tu_SHAPES_14 = some ⟨.type "tuple", td_SHAPES_14, .seq #[.int 1 tt_SHAPES_14_0, .int 0 tt_SHAPES_14_1] tq_SHAPES_14, ts_SHAPES_14⟩)
    (tl_SHAPES_15 : K.lookup tu_SHAPES_15 = some ⟨.type "tuple", td_SHAPES_15, .seq #[.int 1 tt_SHAPES_15_0, .int 0 tt_SHAPES_15_1] tq_SHAPES_15, ts_SHAPES_15⟩)
    (tl_SHAPES_16 : K.lookup tu_SHAPES_16 = some ⟨.type "tuple", td_SHAPES_16, .seq #[.int 1 tt_SHAPES_16_0, .int 0 tt_SHAPES_16_1] tq_SHAPES_16, ts_SHAPES_16⟩)
    (tl_SHAPES_17 : K.lookup tu_SHAPES_17 = some ⟨.type "tuple", td_SHAPES_17, .seq #[.int 1 tt_SHAPES_17_0, .int 0 tt_SHAPES_17_1] tq_SHAPES_17, ts_SHAPES_17⟩)
    (tl_SHAPES_18 : K.lookup tu_SHAPES_18 = some ⟨.type "tuple", td_SHAPES_18, .seq #[.int 0 tt_SHAPES_18_0, .int 0 tt_SHAPES_18_1] tq_SHAPES_18, ts_SHAPES_18⟩)
    (ta_CALLS : PySem.W.nsIn K mainGlobals "CALLS" = some (some (.ref tu_CALLS)))
    (tl_CALLS : K.lookup tu_CALLS = some ⟨.type "tuple", td_CALLS, .seq #[.ref f_start, .ref f_set_to, .ref f_pass_by, .ref f_would, .ref f_hottest, .ref f_left, .ref f_cooled, .ref f_cured, .ref f_run, .ref f_follow, .ref f_soonest, .ref f_farthest, .ref f_rate, .ref f_next_points, .ref f_new_part, .ref f_look_back, .ref f_safe, .ref f_need, .ref f_state] tq_CALLS, ts_CALLS⟩)
    : ∃ xcMould xcPart xcReader xcWay xcOven, Txt K mg xcMould xcPart xcReader xcWay xcOven := by
  refine ⟨cMould, cPart, cReader, cWay, cOven, ?_, ?_, ?_, ?_, ?_, ?_, ?_, ?_, ?_, ?_, ?_, ?_, ?_, ?_, ?_, ?_, ?_, ?_, ?_, ?_, ?_, ?_, ?_, ?_, ?_, ?_, ?_, ?_, ?_, ?_, ?_, ?_, ?_, ?_, ?_, ?_, ?_, ?_, ?_, ?_, ?_, ?_, ?_, ?_, ?_, ?_, ?_, ?_, ?_, ?_, ?_, ?_, ?_, ?_, ?_, ?_, ?_, ?_, ?_, ?_, ?_, ?_, ?_, ?_, ?_, ?_, ?_, ?_, ?_, ?_, ?_, ?_, ?_, ?_, ?_, ?_, ?_, ?_, ?_, ?_, ?_, ?_, ?_, ?_, ?_, ?_, ?_, ?_, ?_, ?_, ?_, ?_, ?_, ?_, ?_, ?_, ?_, ?_, ?_, ?_, ?_, ?_, ?_, ?_, ?_⟩
  · exact ⟨pg_Mould, hd_Mould, po_Mould, sa_Mould⟩
  · exact n_Mould_lag
  · exact n_Mould_most
  · exact n_Mould_step
  · exact n_Mould_low
  · exact n_Mould_high
  · exact n_Mould_warms
  · exact n_Mould_rates
  · exact ⟨_, _, fun_mk l_Mould_init k1_Mould_init k2_Mould_init, PySem.W.mg_of X G a_Mould, ⟨mk_Mould, a_Mould_init, i_Mould_init, kc_Mould⟩, (fun_mk l_Mould_init k1_Mould_init k2_Mould_init).binds (ps := ["self", "lag", "most", "step", "low", "high", "warms", "rates"]) fun _ _ _ _ _ _ us hl => match us, hl with | [_, _, _, _, _, _, _, _], _ => rfl⟩
  · exact ⟨pg_Part, hd_Part, po_Part, sa_Part⟩
  · exact n_Part_warmth
  · exact n_Part_cure
  · exact ⟨_, _, fun_mk l_Part_init k1_Part_init k2_Part_init, PySem.W.mg_of X G a_Part, ⟨mk_Part, a_Part_init, i_Part_init, kc_Part⟩, (fun_mk l_Part_init k1_Part_init k2_Part_init).binds (ps := ["self", "warmth", "cure"]) fun _ _ _ _ _ _ us hl => match us, hl with | [_, _, _], _ => rfl⟩
  · exact ⟨pg_Reader, hd_Reader, po_Reader, sa_Reader⟩
  · exact n_Reader_calls
  · exact n_Reader_place
  · exact ⟨_, _, fun_mk l_Reader_init k1_Reader_init k2_Reader_init, PySem.W.mg_of X G a_Reader, ⟨mk_Reader, a_Reader_init, i_Reader_init, kc_Reader⟩, (fun_mk l_Reader_init k1_Reader_init k2_Reader_init).binds (ps := ["self", "calls"]) fun _ _ _ _ _ _ us hl => match us, hl with | [_, _], _ => rfl⟩
  · exact ⟨_, _, fun_mk l_Reader_is_at_end k1_Reader_is_at_end k2_Reader_is_at_end, ⟨a_Reader_is_at_end, i_Reader_is_at_end, k2_Reader_is_at_end⟩, (fun_mk l_Reader_is_at_end k1_Reader_is_at_end k2_Reader_is_at_end).binds (ps := ["self"]) fun _ _ _ _ _ _ us hl => match us, hl with | [_], _ => rfl⟩
  · exact ⟨_, _, fun_mk l_Reader_read_number k1_Reader_read_number k2_Reader_read_number, ⟨a_Reader_read_number, i_Reader_read_number, k2_Reader_read_number⟩, (fun_mk l_Reader_read_number k1_Reader_read_number k2_Reader_read_number).binds (ps := ["self"]) fun _ _ _ _ _ _ us hl => match us, hl with | [_], _ => rfl⟩
  · exact ⟨_, _, fun_mk l_Reader_read_row k1_Reader_read_row k2_Reader_read_row, ⟨a_Reader_read_row, i_Reader_read_row, k2_Reader_read_row⟩, (fun_mk l_Reader_read_row k1_Reader_read_row k2_Reader_read_row).binds (ps := ["self"]) fun _ _ _ _ _ _ us hl => match us, hl with | [_], _ => rfl⟩
  · exact ⟨_, _, fun_mk l_Reader_read_given k1_Reader_read_given k2_Reader_read_given, ⟨a_Reader_read_given, i_Reader_read_given, k2_Reader_read_given⟩, (fun_mk l_Reader_read_given k1_Reader_read_given k2_Reader_read_given).binds (ps := ["self", "call"]) fun _ _ _ _ _ _ us hl => match us, hl with | [_, _], _ => rfl⟩
  · exact ⟨pg_Way, hd_Way, po_Way, sa_Way⟩
  · exact n_Way_programme
  · exact n_Way_point
  · exact n_Way_part
  · exact ⟨_, _, fun_mk l_Way_init k1_Way_init k2_Way_init, PySem.W.mg_of X G a_Way, ⟨mk_Way, a_Way_init, i_Way_init, kc_Way⟩, (fun_mk l_Way_init k1_Way_init k2_Way_init).binds (ps := ["self", "programme", "point", "part"]) fun _ _ _ _ _ _ us hl => match us, hl with | [_, _, _, _], _ => rfl⟩
  · exact ⟨pg_Oven, hd_Oven, po_Oven, sa_Oven⟩
  · exact n_Oven_mould
  · exact n_Oven_part
  · exact n_Oven_point
  · exact n_Oven_minutes
  · exact n_Oven_log
  · exact ⟨_, _, fun_mk l_Oven_init k1_Oven_init k2_Oven_init, PySem.W.mg_of X G a_Oven, ⟨mk_Oven, a_Oven_init, i_Oven_init, kc_Oven⟩, (fun_mk l_Oven_init k1_Oven_init k2_Oven_init).binds (ps := ["self"]) fun _ _ _ _ _ _ us hl => match us, hl with | [_], _ => rfl⟩
  · exact ⟨_, _, fun_mk l_is_as_told k1_is_as_told k2_is_as_told, PySem.W.mg_of X G a_is_as_told, (fun_mk l_is_as_told k1_is_as_told k2_is_as_told).binds (ps := ["mould"]) fun _ _ _ _ _ _ us hl => match us, hl with | [_], _ => rfl⟩
  · exact ⟨_, _, fun_mk l_is_table k1_is_table k2_is_table, PySem.W.mg_of X G a_is_table, (fun_mk l_is_table k1_is_table k2_is_table).binds (ps := ["warms", "rates"]) fun _ _ _ _ _ _ us hl => match us, hl with | [_, _], _ => rfl⟩
  · exact ⟨_, _, fun_mk l_rate_at k1_rate_at k2_rate_at, PySem.W.mg_of X G a_rate_at, (fun_mk l_rate_at k1_rate_at k2_rate_at).binds (ps := ["mould", "warmth"]) fun _ _ _ _ _ _ us hl => match us, hl with | [_, _], _ => rfl⟩
  · exact ⟨_, _, fun_mk l_is_point k1_is_point k2_is_point, PySem.W.mg_of X G a_is_point, (fun_mk l_is_point k1_is_point k2_is_point).binds (ps := ["mould", "point"]) fun _ _ _ _ _ _ us hl => match us, hl with | [_, _], _ => rfl⟩
  · exact ⟨_, _, fun_mk l_may_go k1_may_go k2_may_go, PySem.W.mg_of X G a_may_go, (fun_mk l_may_go k1_may_go k2_may_go).binds (ps := ["mould", "point", "other"]) fun _ _ _ _ _ _ us hl => match us, hl with | [_, _, _], _ => rfl⟩
  · exact ⟨_, _, fun_mk l_points_by_whole_steps k1_points_by_whole_steps k2_points_by_whole_steps, PySem.W.mg_of X G a_points_by_whole_steps, (fun_mk l_points_by_whole_steps k1_points_by_whole_steps k2_points_by_whole_steps).binds (ps := ["mould", "point"]) fun _ _ _ _ _ _ us hl => match us, hl with | [_, _], _ => rfl⟩
  · exact ⟨_, _, fun_mk l_may_come_in_turn k1_may_come_in_turn k2_may_come_in_turn, PySem.W.mg_of X G a_may_come_in_turn, (fun_mk l_may_come_in_turn k1_may_come_in_turn k2_may_come_in_turn).binds (ps := ["mould", "point", "programme"]) fun _ _ _ _ _ _ us hl => match us, hl with | [_, _, _], _ => rfl⟩
  · exact ⟨_, _, fun_mk l_is_cured k1_is_cured k2_is_cured, PySem.W.mg_of X G a_is_cured, (fun_mk l_is_cured k1_is_cured k2_is_cured).binds (ps := ["part"]) fun _ _ _ _ _ _ us hl => match us, hl with | [_], _ => rfl⟩
  · exact ⟨_, _, fun_mk l_is_too_hot k1_is_too_hot k2_is_too_hot, PySem.W.mg_of X G a_is_too_hot, (fun_mk l_is_too_hot k1_is_too_hot k2_is_too_hot).binds (ps := ["mould", "part"]) fun _ _ _ _ _ _ us hl => match us, hl with | [_, _], _ => rfl⟩
  · exact ⟨_, _, fun_mk l_warmth_later k1_warmth_later k2_warmth_later, PySem.W.mg_of X G a_warmth_later, (fun_mk l_warmth_later k1_warmth_later k2_warmth_later).binds (ps := ["mould", "warmth", "point"]) fun _ _ _ _ _ _ us hl => match us, hl with | [_, _, _], _ => rfl⟩
  · exact ⟨_, _, fun_mk l_minute_later k1_minute_later k2_minute_later, PySem.W.mg_of X G a_minute_later, (fun_mk l_minute_later k1_minute_later k2_minute_later).binds (ps := ["mould", "part", "point"]) fun _ _ _ _ _ _ us hl => match us, hl with | [_, _, _], _ => rfl⟩
  · exact ⟨_, _, fun_mk l_course k1_course k2_course, PySem.W.mg_of X G a_course, (fun_mk l_course k1_course k2_course).binds (ps := ["mould", "part", "programme"]) fun _ _ _ _ _ _ us hl => match us, hl with | [_, _, _], _ => rfl⟩
  · exact ⟨_, _, fun_mk l_is_ever_too_hot k1_is_ever_too_hot k2_is_ever_too_hot, PySem.W.mg_of X G a_is_ever_too_hot, (fun_mk l_is_ever_too_hot k1_is_ever_too_hot k2_is_ever_too_hot).binds (ps := ["mould", "parts"]) fun _ _ _ _ _ _ us hl => match us, hl with | [_, _], _ => rfl⟩
  · exact ⟨_, _, fun_mk l_ways_a_minute_longer k1_ways_a_minute_longer k2_ways_a_minute_longer, PySem.W.mg_of X G a_ways_a_minute_longer, (fun_mk l_ways_a_minute_longer k1_ways_a_minute_longer k2_ways_a_minute_longer).binds (ps := ["mould", "ways"]) fun _ _ _ _ _ _ us hl => match us, hl with | [_, _], _ => rfl⟩
  · exact ⟨_, _, fun_mk l_first_cured k1_first_cured k2_first_cured, PySem.W.mg_of X G a_first_cured, (fun_mk l_first_cured k1_first_cured k2_first_cured).binds (ps := ["ways"]) fun _ _ _ _ _ _ us hl => match us, hl with | [_], _ => rfl⟩
  · exact ⟨_, _, fun_mk l_first_cured_furthest k1_first_cured_furthest k2_first_cured_furthest, PySem.W.mg_of X G a_first_cured_furthest, (fun_mk l_first_cured_furthest k1_first_cured_furthest k2_first_cured_furthest).binds (ps := ["ways"]) fun _ _ _ _ _ _ us hl => match us, hl with | [_], _ => rfl⟩
  · exact ⟨_, _, fun_mk l_soonest_way k1_soonest_way k2_soonest_way, PySem.W.mg_of X G a_soonest_way, (fun_mk l_soonest_way k1_soonest_way k2_soonest_way).binds (ps := ["mould", "part", "point", "minutes"]) fun _ _ _ _ _ _ us hl => match us, hl with | [_, _, _, _], _ => rfl⟩
  · exact ⟨_, _, fun_mk l_farthest_way k1_farthest_way k2_farthest_way, PySem.W.mg_of X G a_farthest_way, (fun_mk l_farthest_way k1_farthest_way k2_farthest_way).binds (ps := ["mould", "part", "point", "minutes"]) fun _ _ _ _ _ _ us hl => match us, hl with | [_, _, _, _], _ => rfl⟩
  · exact ⟨_, _, fun_mk l_course_held k1_course_held k2_course_held, PySem.W.mg_of X G a_course_held, (fun_mk l_course_held k1_course_held k2_course_held).binds (ps := ["oven", "minutes"]) fun _ _ _ _ _ _ us hl => match us, hl with | [_, _], _ => rfl⟩
  · exact ⟨_, _, fun_mk l_course_that_does k1_course_that_does k2_course_that_does, PySem.W.mg_of X G a_course_that_does, (fun_mk l_course_that_does k1_course_that_does k2_course_that_does).binds (ps := ["oven", "programme"]) fun _ _ _ _ _ _ us hl => match us, hl with | [_, _], _ => rfl⟩
  · exact ⟨_, _, fun_mk l_carry_out k1_carry_out k2_carry_out, PySem.W.mg_of X G a_carry_out, (fun_mk l_carry_out k1_carry_out k2_carry_out).binds (ps := ["oven", "programme"]) fun _ _ _ _ _ _ us hl => match us, hl with | [_, _], _ => rfl⟩
  · exact ⟨_, _, fun_mk l_told_of k1_told_of k2_told_of, PySem.W.mg_of X G a_told_of, (fun_mk l_told_of k1_told_of k2_told_of).binds (ps := ["part"]) fun _ _ _ _ _ _ us hl => match us, hl with | [_], _ => rfl⟩
  · exact ⟨_, _, fun_mk l_start k1_start k2_start, PySem.W.mg_of X G a_start, (fun_mk l_start k1_start k2_start).binds (ps := ["oven", "given"]) fun _ _ _ _ _ _ us hl => match us, hl with | [_, _], _ => rfl⟩
  · exact ⟨_, _, fun_mk l_set_to k1_set_to k2_set_to, PySem.W.mg_of X G a_set_to, (fun_mk l_set_to k1_set_to k2_set_to).binds (ps := ["oven", "given"]) fun _ _ _ _ _ _ us hl => match us, hl with | [_, _], _ => rfl⟩
  · exact ⟨_, _, fun_mk l_pass_by k1_pass_by k2_pass_by, PySem.W.mg_of X G a_pass_by, (fun_mk l_pass_by k1_pass_by k2_pass_by).binds (ps := ["oven", "given"]) fun _ _ _ _ _ _ us hl => match us, hl with | [_, _], _ => rfl⟩
  · exact ⟨_, _, fun_mk l_would k1_would k2_would, PySem.W.mg_of X G a_would, (fun_mk l_would k1_would k2_would).binds (ps := ["oven", "given"]) fun _ _ _ _ _ _ us hl => match us, hl with | [_, _], _ => rfl⟩
  · exact ⟨_, _, fun_mk l_hottest k1_hottest k2_hottest, PySem.W.mg_of X G a_hottest, (fun_mk l_hottest k1_hottest k2_hottest).binds (ps := ["oven", "given"]) fun _ _ _ _ _ _ us hl => match us, hl with | [_, _], _ => rfl⟩
  · exact ⟨_, _, fun_mk l_left k1_left k2_left, PySem.W.mg_of X G a_left, (fun_mk l_left k1_left k2_left).binds (ps := ["oven", "given"]) fun _ _ _ _ _ _ us hl => match us, hl with | [_, _], _ => rfl⟩
  · exact ⟨_, _, fun_mk l_cooled k1_cooled k2_cooled, PySem.W.mg_of X G a_cooled, (fun_mk l_cooled k1_cooled k2_cooled).binds (ps := ["oven", "given"]) fun _ _ _ _ _ _ us hl => match us, hl with | [_, _], _ => rfl⟩
  · exact ⟨_, _, fun_mk l_cured k1_cured k2_cured, PySem.W.mg_of X G a_cured, (fun_mk l_cured k1_cured k2_cured).binds (ps := ["oven", "given"]) fun _ _ _ _ _ _ us hl => match us, hl with | [_, _], _ => rfl⟩
  · exact ⟨_, _, fun_mk l_run k1_run k2_run, PySem.W.mg_of X G a_run, (fun_mk l_run k1_run k2_run).binds (ps := ["oven", "given"]) fun _ _ _ _ _ _ us hl => match us, hl with | [_, _], _ => rfl⟩
  · exact ⟨_, _, fun_mk l_follow k1_follow k2_follow, PySem.W.mg_of X G a_follow, (fun_mk l_follow k1_follow k2_follow).binds (ps := ["oven", "given"]) fun _ _ _ _ _ _ us hl => match us, hl with | [_, _], _ => rfl⟩
  · exact ⟨_, _, fun_mk l_soonest k1_soonest k2_soonest, PySem.W.mg_of X G a_soonest, (fun_mk l_soonest k1_soonest k2_soonest).binds (ps := ["oven", "given"]) fun _ _ _ _ _ _ us hl => match us, hl with | [_, _], _ => rfl⟩
  · exact ⟨_, _, fun_mk l_farthest k1_farthest k2_farthest, PySem.W.mg_of X G a_farthest, (fun_mk l_farthest k1_farthest k2_farthest).binds (ps := ["oven", "given"]) fun _ _ _ _ _ _ us hl => match us, hl with | [_, _], _ => rfl⟩
  · exact ⟨_, _, fun_mk l_rate k1_rate k2_rate, PySem.W.mg_of X G a_rate, (fun_mk l_rate k1_rate k2_rate).binds (ps := ["oven", "given"]) fun _ _ _ _ _ _ us hl => match us, hl with | [_, _], _ => rfl⟩
  · exact ⟨_, _, fun_mk l_next_points k1_next_points k2_next_points, PySem.W.mg_of X G a_next_points, (fun_mk l_next_points k1_next_points k2_next_points).binds (ps := ["oven", "given"]) fun _ _ _ _ _ _ us hl => match us, hl with | [_, _], _ => rfl⟩
  · exact ⟨_, _, fun_mk l_new_part k1_new_part k2_new_part, PySem.W.mg_of X G a_new_part, (fun_mk l_new_part k1_new_part k2_new_part).binds (ps := ["oven", "given"]) fun _ _ _ _ _ _ us hl => match us, hl with | [_, _], _ => rfl⟩
  · exact ⟨_, _, fun_mk l_look_back k1_look_back k2_look_back, PySem.W.mg_of X G a_look_back, (fun_mk l_look_back k1_look_back k2_look_back).binds (ps := ["oven", "given"]) fun _ _ _ _ _ _ us hl => match us, hl with | [_, _], _ => rfl⟩
  · exact ⟨_, _, fun_mk l_safe k1_safe k2_safe, PySem.W.mg_of X G a_safe, (fun_mk l_safe k1_safe k2_safe).binds (ps := ["oven", "given"]) fun _ _ _ _ _ _ us hl => match us, hl with | [_, _], _ => rfl⟩
  · exact ⟨_, _, fun_mk l_need k1_need k2_need, PySem.W.mg_of X G a_need, (fun_mk l_need k1_need k2_need).binds (ps := ["oven", "given"]) fun _ _ _ _ _ _ us hl => match us, hl with | [_, _], _ => rfl⟩
  · exact ⟨_, _, fun_mk l_state k1_state k2_state, PySem.W.mg_of X G a_state, (fun_mk l_state k1_state k2_state).binds (ps := ["oven", "given"]) fun _ _ _ _ _ _ us hl => match us, hl with | [_, _], _ => rfl⟩
  · exact ⟨_, _, fun_mk l_answer k1_answer k2_answer, PySem.W.mg_of X G a_answer, (fun_mk l_answer k1_answer k2_answer).binds (ps := ["oven", "call", "given"]) fun _ _ _ _ _ _ us hl => match us, hl with | [_, _, _], _ => rfl⟩
  · exact ⟨_, _, fun_mk l_answers k1_answers k2_answers, PySem.W.mg_of X G a_answers, (fun_mk l_answers k1_answers k2_answers).binds (ps := ["calls"]) fun _ _ _ _ _ _ us hl => match us, hl with | [_], _ => rfl⟩
  · exact ⟨_, PySem.W.mg_of X G g_MOST_LAG⟩
  · exact ⟨_, PySem.W.mg_of X G g_MOST_STEP⟩
  · exact ⟨_, PySem.W.mg_of X G g_MOST_WARMTH⟩
  · exact ⟨_, PySem.W.mg_of X G g_MOST_RATE⟩
  · exact ⟨_, PySem.W.mg_of X G g_MOST_ROWS⟩
  · exact ⟨_, PySem.W.mg_of X G g_FULL_CURE⟩
  · exact ⟨_, PySem.W.mg_of X G g_NONE_SO_FAR_BACK⟩
  · exact ⟨_, PySem.W.mg_of X G g_NOT_STARTED⟩
  · exact ⟨_, PySem.W.mg_of X G g_MAY_NOT_GO⟩
  · exact ⟨_, PySem.W.mg_of X G g_OUT_OF_BOUNDS⟩
  · exact ⟨_, PySem.W.mg_of X G g_NOT_IN_TIME⟩
  · exact ⟨_, PySem.W.mg_of X G g_DOES_NOT_DO⟩
  · exact ⟨_, PySem.W.mg_of X G g_START⟩
  · exact ⟨_, PySem.W.mg_of X G g_MOST_MINUTES⟩
  · exact ⟨_, PySem.W.mg_of X G g_LONGEST_PROGRAMME⟩
  · exact ⟨_, PySem.W.mg_of X G g_LONGEST_SEARCH⟩
  · exact ⟨_, PySem.W.mg_of X G g_LONGEST_NEED⟩
  · exact ⟨_, PySem.W.mg_of X G g_LONGEST_LOG⟩
  · exact PySem.W.mg_none_of X G z_abs
  · exact PySem.W.mg_none_of X G z_all
  · exact PySem.W.mg_none_of X G z_any
  · exact PySem.W.mg_none_of X G z_enumerate
  · exact PySem.W.mg_none_of X G z_len
  · exact PySem.W.mg_none_of X G z_max
  · exact PySem.W.mg_none_of X G z_min
  · exact PySem.W.mg_none_of X G z_range
  · exact PySem.W.mg_none_of X G z_zip
  · exact ⟨tu_SHAPES, [tu_SHAPES_0, tu_SHAPES_1, tu_SHAPES_2, tu_SHAPES_3, tu_SHAPES_4, tu_SHAPES_5, tu_SHAPES_6, tu_SHAPES_7, tu_SHAPES_8, tu_SHAPES_9, tu_SHAPES_10, tu_SHAPES_11, tu_SHAPES_12, tu_SHAPES_13, tu_SHAPES_14, tu_SHAPES_15, tu_SHAPES_16, tu_SHAPES_17, tu_SHAPES_18], PySem.W.mg_of X G ta_SHAPES, ⟨_, _, _, tl_SHAPES, rfl, rfl, by show 19 ≤ sizeLine; decide, .cons rfl (.cons rfl (.cons rfl (.cons rfl (.cons rfl (.cons rfl (.cons rfl (.cons rfl (.cons rfl (.cons rfl (.cons rfl (.cons rfl (.cons rfl (.cons rfl (.cons rfl (.cons rfl (.cons rfl (.cons rfl (.cons rfl (.nil)))))))))))))))))))⟩, tu_SHAPES_0, tu_SHAPES_1, tu_SHAPES_2, tu_SHAPES_3, tu_SHAPES_4, tu_SHAPES_5, tu_SHAPES_6, tu_SHAPES_7, tu_SHAPES_8, tu_SHAPES_9, tu_SHAPES_10, tu_SHAPES_11, tu_SHAPES_12, tu_SHAPES_13, tu_SHAPES_14, tu_SHAPES_15, tu_SHAPES_16, tu_SHAPES_17, tu_SHAPES_18, rfl, ⟨_, _, _, tl_SHAPES_0, rfl, rfl, by show 2 ≤ sizeLine; decide, .cons ⟨_, rfl⟩ (.cons ⟨_, rfl⟩ (.nil))⟩, ⟨_, _, _, tl_SHAPES_1, rfl, rfl, by show 2 ≤ sizeLine; decide, .cons ⟨_, rfl⟩ (.cons ⟨_, rfl⟩ (.nil))⟩, ⟨_, _, _, tl_SHAPES_2, rfl, rfl, by show 2 ≤ sizeLine; decide, .cons ⟨_, rfl⟩ (.cons ⟨_, rfl⟩ (.nil))⟩, ⟨_, _, _, tl_SHAPES_3, rfl, rfl, by show 2 ≤ sizeLine; decide, .cons ⟨_, rfl⟩ (.cons ⟨_, rfl⟩ (.nil))⟩, ⟨_, _, _, tl_SHAPES_4, rfl, rfl, by show 2 ≤ sizeLine; decide, .cons ⟨_, rfl⟩ (.cons ⟨_, rfl⟩ (.nil))⟩, ⟨_, _, _, tl_SHAPES_5, rfl, rfl, by show 2 ≤ sizeLine; decide, .cons ⟨_, rfl⟩ (.cons ⟨_, rfl⟩ (.nil))⟩, ⟨_, _, _, tl_SHAPES_6, rfl, rfl, by show 2 ≤ sizeLine; decide, .cons ⟨_, rfl⟩ (.cons ⟨_, rfl⟩ (.nil))⟩, ⟨_, _, _, tl_SHAPES_7, rfl, rfl, by show 2 ≤ sizeLine; decide, .cons ⟨_, rfl⟩ (.cons ⟨_, rfl⟩ (.nil))⟩, ⟨_, _, _, tl_SHAPES_8, rfl, rfl, by show 2 ≤ sizeLine; decide, .cons ⟨_, rfl⟩ (.cons ⟨_, rfl⟩ (.nil))⟩, ⟨_, _, _, tl_SHAPES_9, rfl, rfl, by show 2 ≤ sizeLine; decide, .cons ⟨_, rfl⟩ (.cons ⟨_, rfl⟩ (.nil))⟩, ⟨_, _, _, tl_SHAPES_10, rfl, rfl, by show 2 ≤ sizeLine; decide, .cons ⟨_, rfl⟩ (.cons ⟨_, rfl⟩ (.nil))⟩, ⟨_, _, _, tl_SHAPES_11, rfl, rfl, by show 2 ≤ sizeLine; decide, .cons ⟨_, rfl⟩ (.cons ⟨_, rfl⟩ (.nil))⟩, ⟨_, _, _, tl_SHAPES_12, rfl, rfl, by show 2 ≤ sizeLine; decide, .cons ⟨_, rfl⟩ (.cons ⟨_, rfl⟩ (.nil))⟩, ⟨_, _, _, tl_SHAPES_13, rfl, rfl, by show 2 ≤ sizeLine; decide, .cons ⟨_, rfl⟩ (.cons ⟨_, rfl⟩ (.nil))⟩, ⟨_, _, _, tl_SHAPES_14, rfl, rfl, by show 2 ≤ sizeLine; decide, .cons ⟨_, rfl⟩ (.cons ⟨_, rfl⟩ (.nil))⟩, ⟨_, _, _, tl_SHAPES_15, rfl, rfl, by show 2 ≤ sizeLine; decide, .cons ⟨_, rfl⟩ (.cons ⟨_, rfl⟩ (.nil))⟩, ⟨_, _, _, tl_SHAPES_16, rfl, rfl, by show 2 ≤ sizeLine; decide, .cons ⟨_, rfl⟩ (.cons ⟨_, rfl⟩ (.nil))⟩, ⟨_, _, _, tl_SHAPES_17, rfl, rfl, by show 2 ≤ sizeLine; decide, .cons ⟨_, rfl⟩ (.cons ⟨_, rfl⟩ (.nil))⟩, ⟨_, _, _, tl_SHAPES_18, rfl, rfl, by show 2 ≤ sizeLine; decide, .cons ⟨_, rfl⟩ (.cons ⟨_, rfl⟩ (.nil))⟩⟩
  · exact ⟨tu_CALLS, [f_start, f_set_to, f_pass_by, f_would, f_hottest, f_left, f_cooled, f_cured, f_run, f_follow, f_soonest, f_farthest, f_rate, f_next_points, f_new_part, f_look_back, f_safe, f_need, f_state], PySem.W.mg_of X G ta_CALLS, ⟨_, _, _, tl_CALLS, rfl, rfl, by show 19 ≤ sizeLine; decide, .cons rfl (.cons rfl (.cons rfl (.cons rfl (.cons rfl (.cons rfl (.cons rfl (.cons rfl (.cons rfl (.cons rfl (.cons rfl (.cons rfl (.cons rfl (.cons rfl (.cons rfl (.cons rfl (.cons rfl (.cons rfl (.cons rfl (.nil)))))))))))))))))))⟩, f_start, f_set_to, f_pass_by, f_would, f_hottest, f_left, f_cooled, f_cured, f_run, f_follow, f_soonest, f_farthest, f_rate, f_next_points, f_new_part, f_look_back, f_safe, f_need, f_state, rfl, PySem.W.mg_of X G a_start, PySem.W.mg_of X G a_set_to, PySem.W.mg_of X G a_pass_by, PySem.W.mg_of X G a_would, PySem.W.mg_of X G a_hottest, PySem.W.mg_of X G a_left, PySem.W.mg_of X G a_cooled, PySem.W.mg_of X G a_cured, PySem.W.mg_of X G a_run, PySem.W.mg_of X G a_follow, PySem.W.mg_of X G a_soonest, PySem.W.mg_of X G a_farthest, PySem.W.mg_of X G a_rate, PySem.W.mg_of X G a_next_points, PySem.W.mg_of X G a_new_part, PySem.W.mg_of X G a_look_back, PySem.W.mg_of X G a_safe, PySem.W.mg_of X G a_need, PySem.W.mg_of X G a_state⟩
end Pw
end
section
set_option Elab.async false
set_option linter.all false
set_option maxRecDepth 100000
set_option maxHeartbeats 2000000
namespace Pw
open PySem PySem.Spec L2
section
variable {P : Program} {w : World} {K : PySem.W.Frag} {mg : Str → Option Value} {base : Heap} {cMould cPart cReader cWay cOven : Addr}
theorem shapes_of (T : Txt K mg cMould cPart cReader cWay cOven) : Shapes K mg := by
  obtain ⟨a, rs, hm, hk, r0, r1, r2, r3, r4, r5, r6, r7, r8, r9, r10, r11, r12, r13, r14, r15, r16, r17, r18, rfl, k0, k1, k2, k3, k4, k5, k6, k7, k8, k9, k10, k11, k12, k13, k14, k15, k16, k17, k18⟩ := T.t_SHAPES
  refine ⟨a, _, hm, hk, fun c n k h => ?_⟩
  rcases shape_cases h with ⟨e, rfl, rfl⟩ | ⟨e, rfl, rfl⟩ | ⟨e, rfl, rfl⟩ | ⟨e, rfl, rfl⟩
  · obtain rfl : c = 0 := by omega
    exact ⟨_, rfl, k0⟩
  · rcases e with e | e | e | e | e | e | e | e | e | e | e | e
    · obtain rfl : c = 1 := by omega
      exact ⟨_, rfl, k1⟩
    · obtain rfl : c = 2 := by omega
      exact ⟨_, rfl, k2⟩
    · obtain rfl : c = 3 := by omega
      exact ⟨_, rfl, k3⟩
    · obtain rfl : c = 4 := by omega
      exact ⟨_, rfl, k4⟩
    · obtain rfl : c = 6 := by omega
      exact ⟨_, rfl, k6⟩
    · obtain rfl : c = 10 := by omega
      exact ⟨_, rfl, k10⟩
    · obtain rfl : c = 11 := by omega
      exact ⟨_, rfl, k11⟩
    · obtain rfl : c = 12 := by omega
      exact ⟨_, rfl, k12⟩
    · obtain rfl : c = 14 := by omega
      exact ⟨_, rfl, k14⟩
    · obtain rfl : c = 15 := by omega
      exact ⟨_, rfl, k15⟩
    · obtain rfl : c = 16 := by omega
      exact ⟨_, rfl, k16⟩
    · obtain rfl : c = 17 := by omega
      exact ⟨_, rfl, k17⟩
  · rcases e with e | e | e | e
    · obtain rfl : c = 5 := by omega
      exact ⟨_, rfl, k5⟩
    · obtain rfl : c = 7 := by omega
      exact ⟨_, rfl, k7⟩
    · obtain rfl : c = 13 := by omega
      exact ⟨_, rfl, k13⟩
    · obtain rfl : c = 18 := by omega
      exact ⟨_, rfl, k18⟩
  · rcases e with e | e
    · obtain rfl : c = 8 := by omega
      exact ⟨_, rfl, k8⟩
    · obtain rfl : c = 9 := by omega
      exact ⟨_, rfl, k9⟩
theorem calls_of (T : Txt K mg cMould cPart cReader cWay cOven)
    (h0 : Has P w K mg base "start" ["oven", "given"] 7 (spCall K cOven 0))
    (h1 : Has P w K mg base "set_to" ["oven", "given"] 7 (spCall K cOven 1))
    (h2 : Has P w K mg base "pass_by" ["oven", "given"] 7 (spCall K cOven 2))
    (h3 : Has P w K mg base "would" ["oven", "given"] 7 (spCall K cOven 3))
    (h4 : Has P w K mg base "hottest" ["oven", "given"] 7 (spCall K cOven 4))
    (h5 : Has P w K mg base "left" ["oven", "given"] 7 (spCall K cOven 5))
    (h6 : Has P w K mg base "cooled" ["oven", "given"] 7 (spCall K cOven 6))
    (h7 : Has P w K mg base "cured" ["oven", "given"] 7 (spCall K cOven 7))
    (h8 : Has P w K mg base "run" ["oven", "given"] 7 (spCall K cOven 8))
    (h9 : Has P w K mg base "follow" ["oven", "given"] 7 (spCall K cOven 9))
    (h10 : Has P w K mg base "soonest" ["oven", "given"] 7 (spCall K cOven 10))
    (h11 : Has P w K mg base "farthest" ["oven", "given"] 7 (spCall K cOven 11))
    (h12 : Has P w K mg base "rate" ["oven", "given"] 7 (spCall K cOven 12))
    (h13 : Has P w K mg base "next_points" ["oven", "given"] 7 (spCall K cOven 13))
    (h14 : Has P w K mg base "new_part" ["oven", "given"] 7 (spCall K cOven 14))
    (h15 : Has P w K mg base "look_back" ["oven", "given"] 7 (spCall K cOven 15))
    (h16 : Has P w K mg base "safe" ["oven", "given"] 7 (spCall K cOven 16))
    (h17 : Has P w K mg base "need" ["oven", "given"] 7 (spCall K cOven 17))
    (h18 : Has P w K mg base "state" ["oven", "given"] 7 (spCall K cOven 18))
    : CallsAt P w K mg base cOven := by
  obtain ⟨a, fs, hm, hk, r0, r1, r2, r3, r4, r5, r6, r7, r8, r9, r10, r11, r12, r13, r14, r15, r16, r17, r18, rfl, k0, k1, k2, k3, k4, k5, k6, k7, k8, k9, k10, k11, k12, k13, k14, k15, k16, k17, k18⟩ := T.t_CALLS
  refine ⟨a, _, hm, hk, fun c hc => ?_⟩
  match c, hc with
  | 0, _ => exact let ⟨fd, p, q, F⟩ := h0.at k0 (Nat.le_refl _); ⟨_, fd, rfl, p, q, F⟩
  | 1, _ => exact let ⟨fd, p, q, F⟩ := h1.at k1 (Nat.le_refl _); ⟨_, fd, rfl, p, q, F⟩
  | 2, _ => exact let ⟨fd, p, q, F⟩ := h2.at k2 (Nat.le_refl _); ⟨_, fd, rfl, p, q, F⟩
  | 3, _ => exact let ⟨fd, p, q, F⟩ := h3.at k3 (Nat.le_refl _); ⟨_, fd, rfl, p, q, F⟩
  | 4, _ => exact let ⟨fd, p, q, F⟩ := h4.at k4 (Nat.le_refl _); ⟨_, fd, rfl, p, q, F⟩
  | 5, _ => exact let ⟨fd, p, q, F⟩ := h5.at k5 (Nat.le_refl _); ⟨_, fd, rfl, p, q, F⟩
  | 6, _ => exact let ⟨fd, p, q, F⟩ := h6.at k6 (Nat.le_refl _); ⟨_, fd, rfl, p, q, F⟩
  | 7, _ => exact let ⟨fd, p, q, F⟩ := h7.at k7 (Nat.le_refl _); ⟨_, fd, rfl, p, q, F⟩
  | 8, _ => exact let ⟨fd, p, q, F⟩ := h8.at k8 (Nat.le_refl _); ⟨_, fd, rfl, p, q, F⟩
  | 9, _ => exact let ⟨fd, p, q, F⟩ := h9.at k9 (Nat.le_refl _); ⟨_, fd, rfl, p, q, F⟩
  | 10, _ => exact let ⟨fd, p, q, F⟩ := h10.at k10 (Nat.le_refl _); ⟨_, fd, rfl, p, q, F⟩
  | 11, _ => exact let ⟨fd, p, q, F⟩ := h11.at k11 (Nat.le_refl _); ⟨_, fd, rfl, p, q, F⟩
  | 12, _ => exact let ⟨fd, p, q, F⟩ := h12.at k12 (Nat.le_refl _); ⟨_, fd, rfl, p, q, F⟩
  | 13, _ => exact let ⟨fd, p, q, F⟩ := h13.at k13 (Nat.le_refl _); ⟨_, fd, rfl, p, q, F⟩
  | 14, _ => exact let ⟨fd, p, q, F⟩ := h14.at k14 (Nat.le_refl _); ⟨_, fd, rfl, p, q, F⟩
  | 15, _ => exact let ⟨fd, p, q, F⟩ := h15.at k15 (Nat.le_refl _); ⟨_, fd, rfl, p, q, F⟩
  | 16, _ => exact let ⟨fd, p, q, F⟩ := h16.at k16 (Nat.le_refl _); ⟨_, fd, rfl, p, q, F⟩
  | 17, _ => exact let ⟨fd, p, q, F⟩ := h17.at k17 (Nat.le_refl _); ⟨_, fd, rfl, p, q, F⟩
  | 18, _ => exact let ⟨fd, p, q, F⟩ := h18.at k18 (Nat.le_refl _); ⟨_, fd, rfl, p, q, F⟩
  | n + 19, h => exact absurd h (by omega)
theorem has_all (T : Txt K mg cMould cPart cReader cWay cOven) {f : Addr} {fd : FuncData} (F : Fun K "answers" "answers" s_answers f fd) : FnOk P w K mg base CX0 9 f fd ["calls"] (spAns K) := by
  have clM : ClM K cMould := ⟨T.cl_Mould, T.n_Mould_lag, T.n_Mould_most, T.n_Mould_step, T.n_Mould_low, T.n_Mould_high, T.n_Mould_warms, T.n_Mould_rates⟩
  have clP : ClP K cPart := ⟨T.cl_Part, T.n_Part_warmth, T.n_Part_cure⟩
  have clR : ClR K cReader := ⟨T.cl_Reader, T.n_Reader_calls, T.n_Reader_place⟩
  have clW : ClW K cWay := ⟨T.cl_Way, T.n_Way_programme, T.n_Way_point, T.n_Way_part⟩
  have clO : ClO K cOven := ⟨T.cl_Oven, T.n_Oven_mould, T.n_Oven_part, T.n_Oven_point, T.n_Oven_minutes, T.n_Oven_log⟩
  have mMould := has_Mould (P := P) (w := w) (base := base) T.c_Mould
  have mPart := has_Part (P := P) (w := w) (base := base) T.c_Part
  have mWay := has_Way (P := P) (w := w) (base := base) T.c_Way
  have mReader := has_Reader (P := P) (w := w) (base := base) clR T.c_Reader
  have mOven := has_Oven (P := P) (w := w) (base := base) clO T.c_Oven
  have pAtEnd := has_is_at_end (P := P) (w := w) (base := base) clR T.z_len T.m_Reader_is_at_end
  have pRN := has_read_number (mg := mg) (P := P) (w := w) (base := base) clR T.m_Reader_read_number
  have pRR := has_read_row clR pRN T.m_Reader_read_row
  have pRG := has_read_given clR T.z_range (shapes_of T) pRN pRR T.m_Reader_read_given
  have pTable := has_is_table (P := P) (w := w) (base := base) T.z_len T.z_max T.z_all T.z_zip T.g_MOST_ROWS T.g_MOST_WARMTH T.g_MOST_RATE T.d_is_table
  have pTold := has_is_as_told T.g_MOST_LAG T.g_MOST_STEP T.g_MOST_WARMTH pTable T.d_is_as_told
  have pRate := has_rate_at (P := P) (w := w) (base := base) T.z_zip T.d_rate_at
  have pPoint := has_is_point (P := P) (w := w) (base := base) T.d_is_point
  have pPointI := has_is_pointI (P := P) (w := w) (base := base) T.d_is_point
  have pMayGo := has_may_go (P := P) (w := w) (base := base) T.z_abs T.d_may_go
  have pSteps := has_points_by_whole_steps pPointI T.d_points_by_whole_steps
  have pTurn := has_may_come_in_turn pPoint pMayGo T.d_may_come_in_turn
  have pCured := has_is_cured (P := P) (w := w) (base := base) T.g_FULL_CURE T.d_is_cured
  have pHot := has_is_too_hot (P := P) (w := w) (base := base) T.d_is_too_hot
  have pLater := has_warmth_later (P := P) (w := w) (base := base) T.z_abs T.d_warmth_later
  have pMinute := has_minute_later clP T.z_min T.g_FULL_CURE pLater pRate mPart T.d_minute_later
  have pCourse := has_course pMinute T.d_course
  have pEver := has_is_ever_too_hot T.z_any pHot T.d_is_ever_too_hot
  have pLonger := has_ways_a_minute_longer clW pSteps pMinute pHot mWay T.d_ways_a_minute_longer
  have pFirst := has_first_cured pCured T.d_first_cured
  have pFurthest := has_first_cured_furthest (P := P) (w := w) (base := base) T.d_first_cured_furthest
  have pSoonW := has_soonest_way clW T.z_range pFirst pLonger mWay T.d_soonest_way
  have pFarW := has_farthest_way clW T.z_range pFurthest pLonger mWay T.d_farthest_way
  have pHeld := has_course_held pCourse T.d_course_held
  have pDoes := has_course_that_does pTurn pCourse pEver T.d_course_that_does
  have pToldOf := has_told_of (P := P) (w := w) (base := base) T.d_told_of
  have pCarry := has_carry_out clO T.z_len T.g_DOES_NOT_DO T.g_LONGEST_LOG pDoes pToldOf T.d_carry_out
  have h0 := callS (has_start clO clM clP T.g_OUT_OF_BOUNDS mMould pTold mPart T.d_start)
  have h1 := call1 (i := 1) (has_set_to clO T.g_OUT_OF_BOUNDS T.g_MAY_NOT_GO pPoint pMayGo T.d_set_to) (by decide) (fun x h => by cases x <;> first | exact ⟨_, rfl⟩ | cases h) (fun _ _ _ h => h)
  have h2 := call1 (i := 2) (has_pass_by clO T.g_MOST_MINUTES T.g_OUT_OF_BOUNDS pCarry T.d_pass_by) (by decide) (fun x h => by cases x <;> first | exact ⟨_, rfl⟩ | cases h) (fun _ _ _ h => h)
  have h3 := call1 (i := 3) (look1 clO (fun _ _ => rfl) (has_would T.g_MOST_MINUTES T.g_OUT_OF_BOUNDS pHeld pToldOf T.d_would)) (by decide) (fun x h => by cases x <;> first | exact ⟨_, rfl⟩ | cases h) (fun _ _ _ h => h)
  have h4 := call1 (i := 4) (look1 clO (fun _ _ => rfl) (has_hottest T.z_max T.g_MOST_MINUTES T.g_OUT_OF_BOUNDS pHeld T.d_hottest)) (by decide) (fun x h => by cases x <;> first | exact ⟨_, rfl⟩ | cases h) (fun _ _ _ h => h)
  have h5 := call0 (i := 5) (look0 clO (fun _ => rfl) (has_left T.z_enumerate T.g_MOST_MINUTES T.g_NOT_IN_TIME pHeld pCured T.d_left)) (by decide) (fun x h => by cases x <;> first | rfl | cases h)
  have h6 := call1 (i := 6) (look1 clO (fun _ _ => rfl) (has_cooled T.z_enumerate T.g_MOST_WARMTH T.g_MOST_MINUTES T.g_NOT_IN_TIME T.g_OUT_OF_BOUNDS pHeld T.d_cooled)) (by decide) (fun x h => by cases x <;> first | exact ⟨_, rfl⟩ | cases h) (fun _ _ _ h => h)
  have h7 := call0 (i := 7) (look0 clO (fun _ => rfl) (has_cured pCured T.d_cured)) (by decide) (fun x h => by cases x <;> first | rfl | cases h)
  have h8 := callL (i := 8) (lookL clO (fun _ _ => rfl) (has_run T.z_len T.g_LONGEST_PROGRAMME T.g_OUT_OF_BOUNDS T.g_DOES_NOT_DO pDoes pToldOf T.d_run)) (by decide) (fun x h => by cases x <;> first | exact ⟨_, rfl⟩ | cases h) (fun _ _ _ h => h)
  have h9 := callL (i := 9) (has_follow T.z_len T.g_LONGEST_PROGRAMME T.g_OUT_OF_BOUNDS pCarry T.d_follow) (by decide) (fun x h => by cases x <;> first | exact ⟨_, rfl⟩ | cases h) (fun _ _ _ h => h)
  have h10 := call1 (i := 10) (look1 clO (fun _ _ => rfl) (has_soonest T.z_len T.g_LONGEST_SEARCH T.g_OUT_OF_BOUNDS T.g_NOT_IN_TIME pSoonW T.d_soonest)) (by decide) (fun x h => by cases x <;> first | exact ⟨_, rfl⟩ | cases h) (fun _ _ _ h => h)
  have h11 := call1 (i := 11) (look1 clO (fun _ _ => rfl) (has_farthest T.g_LONGEST_SEARCH T.g_OUT_OF_BOUNDS T.g_NOT_IN_TIME pFarW T.d_farthest)) (by decide) (fun x h => by cases x <;> first | exact ⟨_, rfl⟩ | cases h) (fun _ _ _ h => h)
  have h12 := call1 (i := 12) (look1 clO (fun _ _ => rfl) (has_rate T.g_MOST_WARMTH T.g_OUT_OF_BOUNDS pRate T.d_rate)) (by decide) (fun x h => by cases x <;> first | exact ⟨_, rfl⟩ | cases h) (fun _ _ _ h => h)
  have h13 := call0 (i := 13) (look0 clO (fun _ => rfl) (has_next_points T.z_len pSteps T.d_next_points)) (by decide) (fun x h => by cases x <;> first | rfl | cases h)
  have h14 := call1 (i := 14) (has_new_part clO clP T.g_OUT_OF_BOUNDS mPart pHot T.d_new_part) (by decide) (fun x h => by cases x <;> first | exact ⟨_, rfl⟩ | cases h) (fun _ _ _ h => h)
  have h15 := call1 (i := 15) (has_look_back (P := P) (w := w) (base := base) clO T.z_len T.g_NONE_SO_FAR_BACK T.d_look_back) (by decide) (fun x h => by cases x <;> first | exact ⟨_, rfl⟩ | cases h) (fun _ _ _ h => h)
  have h16 := call1 (i := 16) (look1 clO (fun _ _ => rfl) (has_safe T.g_MOST_MINUTES T.g_OUT_OF_BOUNDS pHeld pEver T.d_safe)) (by decide) (fun x h => by cases x <;> first | exact ⟨_, rfl⟩ | cases h) (fun _ _ _ h => h)
  have h17 := call1 (i := 17) (look1 clO (fun _ _ => rfl) (has_need T.z_range T.g_LONGEST_NEED T.g_OUT_OF_BOUNDS T.g_NOT_IN_TIME pCourse pCured pEver T.d_need)) (by decide) (fun x h => by cases x <;> first | exact ⟨_, rfl⟩ | cases h) (fun _ _ _ h => h)
  have h18 := call0 (i := 18) (has_state (P := P) (w := w) (base := base) clO T.z_len T.d_state) (by decide) (fun x h => by cases x <;> first | rfl | cases h)
  have pCalls := calls_of T (h0.mono (by decide)) (h1.mono (by decide)) (h2.mono (by decide)) (h3.mono (by decide)) (h4.mono (by decide)) (h5.mono (by decide)) (h6.mono (by decide)) (h7.mono (by decide)) (h8.mono (by decide)) (h9.mono (by decide)) (h10.mono (by decide)) (h11.mono (by decide)) (h12.mono (by decide)) (h13.mono (by decide)) (h14.mono (by decide)) (h15.mono (by decide)) (h16.mono (by decide)) (h17.mono (by decide)) (h18.mono (by decide))
  have pAnswer := has_answer clO T.g_START T.g_NOT_STARTED pCalls T.d_answer
  exact ok_answers clO clR T.z_len mOven mReader pAtEnd pRN pRG pAnswer F
end
theorem all {P : Program} {w : World} {K : PySem.W.Frag} {mg : Str → Option Value} {fa : Addr} (hfa : mg "answers" = some (.ref fa)) (hT : ∃ cMould cPart cReader cWay cOven, Txt K mg cMould cPart cReader cWay cOven) :
    ∃ fd : FuncData, (∀ (s : Shared) (us : List Value), us.length = (["calls"] : List Str).length → BindsTo s fd ⟨us, []⟩ ((["calls"] : List Str).zip us)) ∧ ∀ base : Heap, K.In base → base.Ns mainGlobals mg → FnOk P w K mg base CX0 30 fa fd ["calls"] (spAns K) := by
  obtain ⟨cMould, cPart, cReader, cWay, cOven, T⟩ := hT
  obtain ⟨f, fd, F, hm, hb⟩ := T.d_answers
  rw [hfa] at hm
  cases hm
  refine ⟨fd, fun s us hu => ?_, fun base _ _ => ?_⟩
  · obtain ⟨oc, od, kV, doc, pm, an, cdv, ct, osl, rfl, lk, hcd⟩ := F.ex
    exact match us, hu with
    | [_], _ => .of_eq rfl
  · exact (has_all T F).mono (by decide)
end Pw
end
set_option Elab.async false
set_option linter.all false
def PySem.W.Fast.tw4311906688079108367 : Nat := 0
def PySem.W.Fast.tw11991781430830112590 : Nat := 0
def PySem.W.Fast.tw8119367796062469185 : Nat := 0
def PySem.W.Fast.tw16553011160295228140 : Nat := 0
def PySem.W.Fast.tw199100526532918975 : Nat := 0
def PySem.W.Fast.tw8021900080280425613 : Nat := 0
def PySem.W.Fast.tw7637302313746653481 : Nat := 0
open PySem PySem.W PyProof.Rows
set_option maxRecDepth 100000 in
set_option maxHeartbeats 0 in
theorem PySem.Challenge.cw_curedsteps_s01_answers_holds : PySem.Challenge.rw_curedsteps_s01_answers.Holds := by
  w_on; k_headS; (case hw => exact ⟨[.list [.int 5]], by decide +kernel, by decide +kernel⟩)
  k_fillS
  refine L2.walk_specK (r := PySem.Challenge.rw_curedsteps_s01_answers) (k := 30) (CX := L2.CX0) (ps := ["calls"]) (sp := Pw.spAns) (by decide +kernel) rfl rfl ⟨rfl, by decide, by decide⟩ (fun w h Y => PySem.W.kIn_of Y) ?F ?S (fun _ _ _ _ z => z)
  case F =>
    intro w mg fa h Y KX G hmg
    refine Pw.all hmg ?T
    refine' Pw.txt_mk KX G ?a_Mould ?a_Mould_init ?i_Mould_init ?l_Mould_init ?k1_Mould_init ?k2_Mould_init ?pg_Mould ?hd_Mould ?po_Mould ?sa_Mould ?mk_Mould ?kc_Mould ?n_Mould_lag ?n_Mould_most ?n_Mould_step ?n_Mould_low ?n_Mould_high ?n_Mould_warms ?n_Mould_rates ?a_Part ?a_Part_init ?i_Part_init ?l_Part_init ?k1_Part_init ?k2_Part_init ?pg_Part ?hd_Part ?po_Part ?sa_Part ?mk_Part ?kc_Part ?n_Part_warmth ?n_Part_cure ?a_Reader ?a_Reader_init ?i_Reader_init ?l_Reader_init ?k1_Reader_init ?k2_Reader_init ?a_Reader_is_at_end ?i_Reader_is_at_end ?l_Reader_is_at_end ?k1_Reader_is_at_end ?k2_Reader_is_at_end ?a_Reader_read_number ?i_Reader_read_number ?l_Reader_read_number ?k1_Reader_read_number ?k2_Reader_read_number ?a_Reader_read_row ?i_Reader_read_row ?l_Reader_read_row ?k1_Reader_read_row ?k2_Reader_read_row ?a_Reader_read_given ?i_Reader_read_given ?l_Reader_read_given ?k1_Reader_read_given ?k2_Reader_read_given ?pg_Reader ?hd_Reader ?po_Reader ?sa_Reader ?mk_Reader ?kc_Reader ?n_Reader_calls ?n_Reader_place ?a_Way ?a_Way_init ?i_Way_init ?l_Way_init ?k1_Way_init ?k2_Way_init ?pg_Way ?hd_Way ?po_Way ?sa_Way ?mk_Way ?kc_Way ?n_Way_programme ?n_Way_point ?n_Way_part ?a_Oven ?a_Oven_init ?i_Oven_init ?l_Oven_init ?k1_Oven_init ?k2_Oven_init ?pg_Oven ?hd_Oven ?po_Oven ?sa_Oven ?mk_Oven ?kc_Oven ?n_Oven_mould ?n_Oven_part ?n_Oven_point ?n_Oven_minutes ?n_Oven_log ?a_is_as_told ?l_is_as_told ?k1_is_as_told ?k2_is_as_told ?a_is_table ?l_is_table ?k1_is_table ?k2_is_table ?a_rate_at ?l_rate_at ?k1_rate_at ?k2_rate_at ?a_is_point ?l_is_point ?k1_is_point ?k2_is_point ?a_may_go ?l_may_go ?k1_may_go ?k2_may_go ?a_points_by_whole_steps ?l_points_by_whole_steps ?k1_points_by_whole_steps ?k2_points_by_whole_steps ?a_may_come_in_turn ?l_may_come_in_turn ?k1_may_come_in_turn ?k2_may_come_in_turn ?a_is_cured ?l_is_cured ?k1_is_cured ?k2_is_cured ?a_is_too_hot ?l_is_too_hot ?k1_is_too_hot ?k2_is_too_hot ?a_warmth_later ?l_warmth_later ?k1_warmth_later ?k2_warmth_later ?a_minute_later ?l_minute_later ?k1_minute_later ?k2_minute_later ?a_course ?l_course ?k1_course ?k2_course ?a_is_ever_too_hot ?l_is_ever_too_hot ?k1_is_ever_too_hot ?k2_is_ever_too_hot ?a_ways_a_minute_longer ?l_ways_a_minute_longer ?k1_ways_a_minute_longer ?k2_ways_a_minute_longer ?a_first_cured ?l_first_cured ?k1_first_cured ?k2_first_cured ?a_first_cured_furthest ?l_first_cured_furthest ?k1_first_cured_furthest ?k2_first_cured_furthest ?a_soonest_way ?l_soonest_way ?k1_soonest_way ?k2_soonest_way ?a_farthest_way ?l_farthest_way ?k1_farthest_way ?k2_farthest_way ?a_course_held ?l_course_held ?k1_course_held ?k2_course_held ?a_course_that_does ?l_course_that_does ?k1_course_that_does ?k2_course_that_does ?a_carry_out ?l_carry_out ?k1_carry_out ?k2_carry_out ?a_told_of ?l_told_of ?k1_told_of ?k2_told_of ?a_start ?l_start ?k1_start ?k2_start ?a_set_to ?l_set_to ?k1_set_to ?k2_set_to ?a_pass_by ?l_pass_by ?k1_pass_by ?k2_pass_by ?a_would ?l_would ?k1_would ?k2_would ?a_hottest ?l_hottest ?k1_hottest ?k2_hottest ?a_left ?l_left ?k1_left ?k2_left ?a_cooled ?l_cooled ?k1_cooled ?k2_cooled ?a_cured ?l_cured ?k1_cured ?k2_cured ?a_run ?l_run ?k1_run ?k2_run ?a_follow ?l_follow ?k1_follow ?k2_follow ?a_soonest ?l_soonest ?k1_soonest ?k2_soonest ?a_farthest ?l_farthest ?k1_farthest ?k2_farthest ?a_rate ?l_rate ?k1_rate ?k2_rate ?a_next_points ?l_next_points ?k1_next_points ?k2_next_points ?a_new_part ?l_new_part ?k1_new_part ?k2_new_part ?a_look_back ?l_look_back ?k1_look_back ?k2_look_back ?a_safe ?l_safe ?k1_safe ?k2_safe ?a_need ?l_need ?k1_need ?k2_need ?a_state ?l_state ?k1_state ?k2_state ?a_answer ?l_answer ?k1_answer ?k2_answer ?a_answers ?l_answers ?k1_answers ?k2_answers ?g_MOST_LAG ?g_MOST_STEP ?g_MOST_WARMTH ?g_MOST_RATE ?g_MOST_ROWS ?g_FULL_CURE ?g_NONE_SO_FAR_BACK ?g_NOT_STARTED ?g_MAY_NOT_GO ?g_OUT_OF_BOUNDS ?g_NOT_IN_TIME ?g_DOES_NOT_DO ?g_START ?g_MOST_MINUTES ?g_LONGEST_PROGRAMME ?g_LONGEST_SEARCH ?g_LONGEST_NEED ?g_LONGEST_LOG ?z_abs ?z_all ?z_any ?z_enumerate ?z_len ?z_max ?z_min ?z_range ?z_zip ?ta_SHAPES ?tl_SHAPES ?tl_SHAPES_0 ?tl_SHAPES_1 ?tl_SHAPES_2 ?tl_SHAPES_3 ?tl_SHAPES_4 ?tl_SHAPES_5 ?tl_SHAPES_6 ?tl_SHAPES_7 ?tl_SHAPES_8 ?tl_SHAPES_9 ?tl_SHAPES_10 ?tl_SHAPES_11 ?tl_SHAPES_12 ?tl_SHAPES_13 ?tl_SHAPES_14 ?tl_SHAPES_15 ?tl_SHAPES_16 ?tl_SHAPES_17 ?tl_SHAPES_18 ?ta_CALLS ?tl_CALLS
    (case a_Mould => k_is)
    (case a_Mould_init => k_is)
    (case i_Mould_init => k_is)
    (case l_Mould_init => k_is)
    (case k1_Mould_init => k_is)
    (case k2_Mould_init => k_is)
    (case pg_Mould => k_is)
    (case hd_Mould => k_is)
    (case po_Mould => k_is)
    (case sa_Mould => k_is)
    (case mk_Mould => k_is)
    (case kc_Mould => k_is)
    (case n_Mould_lag => k_is)
    (case n_Mould_most => k_is)
    (case n_Mould_step => k_is)
    (case n_Mould_low => k_is)
    (case n_Mould_high => k_is)
    (case n_Mould_warms => k_is)
    (case n_Mould_rates => k_is)
    (case a_Part => k_is)
    (case a_Part_init => k_is)
    (case i_Part_init => k_is)
    (case l_Part_init => k_is)
    (case k1_Part_init => k_is)
    (case k2_Part_init => k_is)
    (case pg_Part => k_is)
    (case hd_Part => k_is)
    (case po_Part => k_is)
    (case sa_Part => k_is)
    (case mk_Part => k_is)
    (case kc_Part => k_is)
    (case n_Part_warmth => k_is)
    (case n_Part_cure => k_is)
    (case a_Reader => k_is)
    (case a_Reader_init => k_is)
    (case i_Reader_init => k_is)
    (case l_Reader_init => k_is)
    (case k1_Reader_init => k_is)
    (case k2_Reader_init => k_is)
    (case a_Reader_is_at_end => k_is)
    (case i_Reader_is_at_end => k_is)
    (case l_Reader_is_at_end => k_is)
    (case k1_Reader_is_at_end => k_is)
    (case k2_Reader_is_at_end => k_is)
    (case a_Reader_read_number => k_is)
    (case i_Reader_read_number => k_is)
    (case l_Reader_read_number => k_is)
    (case k1_Reader_read_number => k_is)
    (case k2_Reader_read_number => k_is)
    (case a_Reader_read_row => k_is)
    (case i_Reader_read_row => k_is)
    (case l_Reader_read_row => k_is)
    (case k1_Reader_read_row => k_is)
    (case k2_Reader_read_row => k_is)
    (case a_Reader_read_given => k_is)
    (case i_Reader_read_given => k_is)
    (case l_Reader_read_given => k_is)
    (case k1_Reader_read_given => k_is)
    (case k2_Reader_read_given => k_is)
    (case pg_Reader => k_is)
    (case hd_Reader => k_is)
    (case po_Reader => k_is)
    (case sa_Reader => k_is)
    (case mk_Reader => k_is)
    (case kc_Reader => k_is)
    (case n_Reader_calls => k_is)
    (case n_Reader_place => k_is)
    (case a_Way => k_is)
    (case a_Way_init => k_is)
    (case i_Way_init => k_is)
    (case l_Way_init => k_is)
    (case k1_Way_init => k_is)
    (case k2_Way_init => k_is)
    (case pg_Way => k_is)
    (case hd_Way => k_is)
    (case po_Way => k_is)
    (case sa_Way => k_is)
    (case mk_Way => k_is)
    (case kc_Way => k_is)
    (case n_Way_programme => k_is)
    (case n_Way_point => k_is)
    (case n_Way_part => k_is)
    (case a_Oven => k_is)
    (case a_Oven_init => k_is)
    (case i_Oven_init => k_is)
    (case l_Oven_init => k_is)
    (case k1_Oven_init => k_is)
    (case k2_Oven_init => k_is)
    (case pg_Oven => k_is)
    (case hd_Oven => k_is)
    (case po_Oven => k_is)
    (case sa_Oven => k_is)
    (case mk_Oven => k_is)
    (case kc_Oven => k_is)
    (case n_Oven_mould => k_is)
    (case n_Oven_part => k_is)
    (case n_Oven_point => k_is)
    (case n_Oven_minutes => k_is)
    (case n_Oven_log => k_is)
    (case a_is_as_told => k_is)
    (case l_is_as_told => k_is)
    (case k1_is_as_told => k_is)
    (case k2_is_as_told => k_is)
    (case a_is_table => k_is)
    (case l_is_table => k_is)
    (case k1_is_table => k_is)
    (case k2_is_table => k_is)
    (case a_rate_at => k_is)
    (case l_rate_at => k_is)
    (case k1_rate_at => k_is)
    (case k2_rate_at => k_is)
    (case a_is_point => k_is)
    (case l_is_point => k_is)
    (case k1_is_point => k_is)
    (case k2_is_point => k_is)
    (case a_may_go => k_is)
    (case l_may_go => k_is)
    (case k1_may_go => k_is)
    (case k2_may_go => k_is)
    (case a_points_by_whole_steps => k_is)
    (case l_points_by_whole_steps => k_is)
    (case k1_points_by_whole_steps => k_is)
    (case k2_points_by_whole_steps => k_is)
    (case a_may_come_in_turn => k_is)
    (case l_may_come_in_turn => k_is)
    (case k1_may_come_in_turn => k_is)
    (case k2_may_come_in_turn => k_is)
    (case a_is_cured => k_is)
    (case l_is_cured => k_is)
    (case k1_is_cured => k_is)
    (case k2_is_cured => k_is)
    (case a_is_too_hot => k_is)
    (case l_is_too_hot => k_is)
    (case k1_is_too_hot => k_is)
    (case k2_is_too_hot => k_is)
    (case a_warmth_later => k_is)
    (case l_warmth_later => k_is)
    (case k1_warmth_later => k_is)
    (case k2_warmth_later => k_is)
    (case a_minute_later => k_is)
    (case l_minute_later => k_is)
    (case k1_minute_later => k_is)
    (case k2_minute_later => k_is)
    (case a_course => k_is)
    (case l_course => k_is)
    (case k1_course => k_is)
    (case k2_course => k_is)
    (case a_is_ever_too_hot => k_is)
    (case l_is_ever_too_hot => k_is)
    (case k1_is_ever_too_hot => k_is)
    (case k2_is_ever_too_hot => k_is)
    (case a_ways_a_minute_longer => k_is)
    (case l_ways_a_minute_longer => k_is)
    (case k1_ways_a_minute_longer => k_is)
    (case k2_ways_a_minute_longer => k_is)
    (case a_first_cured => k_is)
    (case l_first_cured => k_is)
    (case k1_first_cured => k_is)
    (case k2_first_cured => k_is)
    (case a_first_cured_furthest => k_is)
    (case l_first_cured_furthest => k_is)
    (case k1_first_cured_furthest => k_is)
    (case k2_first_cured_furthest => k_is)
    (case a_soonest_way => k_is)
    (case l_soonest_way => k_is)
    (case k1_soonest_way => k_is)
    (case k2_soonest_way => k_is)
    (case a_farthest_way => k_is)
    (case l_farthest_way => k_is)
    (case k1_farthest_way => k_is)
    (case k2_farthest_way => k_is)
    (case a_course_held => k_is)
    (case l_course_held => k_is)
    (case k1_course_held => k_is)
    (case k2_course_held => k_is)
    (case a_course_that_does => k_is)
    (case l_course_that_does => k_is)
    (case k1_course_that_does => k_is)
    (case k2_course_that_does => k_is)
    (case a_carry_out => k_is)
    (case l_carry_out => k_is)
    (case k1_carry_out => k_is)
    (case k2_carry_out => k_is)
    (case a_told_of => k_is)
    (case l_told_of => k_is)
    (case k1_told_of => k_is)
    (case k2_told_of => k_is)
    (case a_start => k_is)
    (case l_start => k_is)
    (case k1_start => k_is)
    (case k2_start => k_is)
    (case a_set_to => k_is)
    (case l_set_to => k_is)
    (case k1_set_to => k_is)
    (case k2_set_to => k_is)
    (case a_pass_by => k_is)
    (case l_pass_by => k_is)
    (case k1_pass_by => k_is)
    (case k2_pass_by => k_is)
    (case a_would => k_is)
    (case l_would => k_is)
    (case k1_would => k_is)
    (case k2_would => k_is)
    (case a_hottest => k_is)
    (case l_hottest => k_is)
    (case k1_hottest => k_is)
    (case k2_hottest => k_is)
    (case a_left => k_is)
    (case l_left => k_is)
    (case k1_left => k_is)
    (case k2_left => k_is)
    (case a_cooled => k_is)
    (case l_cooled => k_is)
    (case k1_cooled => k_is)
    (case k2_cooled => k_is)
    (case a_cured => k_is)
    (case l_cured => k_is)
    (case k1_cured => k_is)
    (case k2_cured => k_is)
    (case a_run => k_is)
    (case l_run => k_is)
    (case k1_run => k_is)
    (case k2_run => k_is)
    (case a_follow => k_is)
    (case l_follow => k_is)
    (case k1_follow => k_is)
    (case k2_follow => k_is)
    (case a_soonest => k_is)
    (case l_soonest => k_is)
    (case k1_soonest => k_is)
    (case k2_soonest => k_is)
    (case a_farthest => k_is)
    (case l_farthest => k_is)
    (case k1_farthest => k_is)
    (case k2_farthest => k_is)
    (case a_rate => k_is)
    (case l_rate => k_is)
    (case k1_rate => k_is)
    (case k2_rate => k_is)
    (case a_next_points => k_is)
    (case l_next_points => k_is)
    (case k1_next_points => k_is)
    (case k2_next_points => k_is)
    (case a_new_part => k_is)
    (case l_new_part => k_is)
    (case k1_new_part => k_is)
    (case k2_new_part => k_is)
    (case a_look_back => k_is)
    (case l_look_back => k_is)
    (case k1_look_back => k_is)
    (case k2_look_back => k_is)
    (case a_safe => k_is)
    (case l_safe => k_is)
    (case k1_safe => k_is)
    (case k2_safe => k_is)
    (case a_need => k_is)
    (case l_need => k_is)
    (case k1_need => k_is)
    (case k2_need => k_is)
    (case a_state => k_is)
    (case l_state => k_is)
    (case k1_state => k_is)
    (case k2_state => k_is)
    (case a_answer => k_is)
    (case l_answer => k_is)
    (case k1_answer => k_is)
    (case k2_answer => k_is)
    (case a_answers => k_is)
    (case l_answers => k_is)
    (case k1_answers => k_is)
    (case k2_answers => k_is)
    (case g_MOST_LAG => k_is)
    (case g_MOST_STEP => k_is)
    (case g_MOST_WARMTH => k_is)
    (case g_MOST_RATE => k_is)
    (case g_MOST_ROWS => k_is)
    (case g_FULL_CURE => k_is)
    (case g_NONE_SO_FAR_BACK => k_is)
    (case g_NOT_STARTED => k_is)
    (case g_MAY_NOT_GO => k_is)
    (case g_OUT_OF_BOUNDS => k_is)
    (case g_NOT_IN_TIME => k_is)
    (case g_DOES_NOT_DO => k_is)
    (case g_START => k_is)
    (case g_MOST_MINUTES => k_is)
    (case g_LONGEST_PROGRAMME => k_is)
    (case g_LONGEST_SEARCH => k_is)
    (case g_LONGEST_NEED => k_is)
    (case g_LONGEST_LOG => k_is)
    (case z_abs => k_is)
    (case z_all => k_is)
    (case z_any => k_is)
    (case z_enumerate => k_is)
    (case z_len => k_is)
    (case z_max => k_is)
    (case z_min => k_is)
    (case z_range => k_is)
    (case z_zip => k_is)
    (case ta_SHAPES => k_is)
    (case tl_SHAPES => k_is)
    (case tl_SHAPES_0 => k_is)
    (case tl_SHAPES_1 => k_is)
    (case tl_SHAPES_2 => k_is)
    (case tl_SHAPES_3 => k_is)
    (case tl_SHAPES_4 => k_is)
    (case tl_SHAPES_5 => k_is)
    (case tl_SHAPES_6 => k_is)
    (case tl_SHAPES_7 => k_is)
    (case tl_SHAPES_8 => k_is)
    (case tl_SHAPES_9 => k_is)
    (case tl_SHAPES_10 => k_is)
    (case tl_SHAPES_11 => k_is)
    (case tl_SHAPES_12 => k_is)
    (case tl_SHAPES_13 => k_is)
    (case tl_SHAPES_14 => k_is)
    (case tl_SHAPES_15 => k_is)
    (case tl_SHAPES_16 => k_is)
    (case tl_SHAPES_17 => k_is)
    (case tl_SHAPES_18 => k_is)
    (case ta_CALLS => k_is)
    (case tl_CALLS => k_is)
  case S =>
    intro K H xs a hO hwi hask hx
    cases hx with
    | cons h1 h2 =>
      cases h2
      cases h1 with
      | lst hs ha =>
        have e := L2.ints_dw a.1 _ ha
        subst e
        have q : ((Codec.inLen 0 30000 a.1 && a.1.all (Codec.inInt 0 4294967295)) && true) = true := hwi
        rw [Bool.and_eq_true, Bool.and_eq_true] at q
        exact ⟨_, a.1, rfl, hs, (Codec.inNat_iff.mp q.1.1).2, hask, fun H' p hp => .lst (L2.SqL.of hp) (L2.dw_ints _)⟩
