import PyProof.Rows.All
import Wide.All
import OpenK.AllK
import Wide.FinOn
import PyProof.EqAt
import PyProof.EqKinds
import PyProof.TupleCall
import KE.BitLaws
import PyProof.P3Eq
import KE.OsGo
import KE.OsEnd
import KE.OsArgs
import KE.KDictList
import Open.SpecLaws
import PySem.Challenge.RW_strictfilm_s03_frame
set_option Elab.async false
set_option linter.all false
set_option maxRecDepth 100000
/-! THE HAND LAYER, for ints, bools, texts, own classes, lists, tuples, dicts, comprehensions, walks over dicts, enumerate, zip, reversed, texts, calls, loops. Paste it whole ahead of your own text; what your proof does not reach may be deleted. -/
namespace L2
open PySem PySem.Spec PyProof.Rows

/-- a key: an int or a str -/
abbrev Key := Sum Int Str
def keyIs : Key → Value → Bool
  | .inl k, v => Value.isInt k v
  | .inr x, v => Value.isStrOf x v
def keyH (w : World) : Key → Int
  | .inl k => hashInt k
  | .inr x => hashStr w x
theorem keyIs_shape : ∀ {k : Key} {v : Value}, keyIs k v = true → (∃ i t, k = Sum.inl i ∧ v = Value.int i t) ∨ (∃ x t, k = Sum.inr x ∧ v = Value.str x t)
  | .inl i, v, h => by
    obtain ⟨t, e⟩ := Value.isInt_shape (k := i) (v := v) h
    exact .inl ⟨i, t, rfl, e⟩
  | .inr x, v, h => by
    obtain ⟨t, e⟩ := Value.isStrOf_shape (x := x) (v := v) h
    exact .inr ⟨x, t, rfl, e⟩
theorem keyIs_int (i : Int) (t : Tok) : keyIs (.inl i) (.int i t) = true := by simp [keyIs, Value.isInt]
theorem keyIs_str (x : Str) (t : Tok) : keyIs (.inr x) (.str x t) = true := by simp [keyIs, Value.isStrOf]
theorem key_ll (a b : Int) : decide ((Sum.inl a : Key) = Sum.inl b) = (a == b) := by
  by_cases e : a = b
  · subst e; simp
  · have h : ¬ (Sum.inl a : Key) = Sum.inl b := fun q => e (Sum.inl.inj q)
    rw [decide_eq_false h]
    exact (beq_eq_false_iff_ne.mpr e).symm
theorem key_rr (a b : Str) : decide ((Sum.inr a : Key) = Sum.inr b) = decide (a = b) := by
  by_cases e : a = b
  · subst e; simp
  · have h : ¬ (Sum.inr a : Key) = Sum.inr b := fun q => e (Sum.inr.inj q)
    rw [decide_eq_false h, decide_eq_false e]
theorem key_lr (a : Int) (b : Str) : decide ((Sum.inl a : Key) = Sum.inr b) = false := decide_eq_false (fun q => nomatch q)
theorem key_rl (a : Str) (b : Int) : decide ((Sum.inr a : Key) = Sum.inl b) = false := decide_eq_false (fun q => nomatch q)

def mixKind (prog : Program) (w : World) : PySem.KeyKind prog w Key where
  is := keyIs
  hash := keyH w
  inj := fun v a b ha hb => by
    rcases keyIs_shape ha with ⟨i, t, rfl, rfl⟩ | ⟨x, t, rfl, rfl⟩
    · rcases keyIs_shape hb with ⟨j, u, rfl, e⟩ | ⟨y, u, rfl, e⟩
      · injection e with e1 _; rw [e1]
      · exact nomatch e
    · rcases keyIs_shape hb with ⟨j, u, rfl, e⟩ | ⟨y, u, rfl, e⟩
      · exact nomatch e
      · injection e with e1 _; rw [e1]
  byValue := fun k v h => by
    rcases keyIs_shape h with ⟨i, t, rfl, rfl⟩ | ⟨x, t, rfl, rfl⟩ <;> rfl
  pyHash := fun hv h => by
    rcases keyIs_shape hv with ⟨i, t, rfl, rfl⟩ | ⟨x, t, rfl, rfl⟩
    · exact wpAny_pyHash_int h
    · exact wpAny_pyHash_str h
  eqBool := fun hu hv h => by
    rcases keyIs_shape hu with ⟨i, t, rfl, rfl⟩ | ⟨x, t, rfl, rfl⟩
    · rcases keyIs_shape hv with ⟨j, u, rfl, rfl⟩ | ⟨y, u, rfl, rfl⟩
      · rw [key_ll] at h; exact wpAny_eqBool_int h
      · rw [key_lr] at h; exact SeqAt.EqAt.int_str i t y u _ _ _ _ h
    · rcases keyIs_shape hv with ⟨j, u, rfl, rfl⟩ | ⟨y, u, rfl, rfl⟩
      · rw [key_rl] at h; exact SeqAt.EqAt.str_int x t j u _ _ _ _ h
      · rw [key_rr] at h; exact wpAny_eqBool_str h
  «strs» := fun k x t v h => by
    rcases keyIs_shape h with ⟨i, u, rfl, e⟩ | ⟨y, u, rfl, e⟩
    · exact nomatch e
    · injection e with e1 _
      subst e1
      cases v <;> rfl

theorem mixKind_int (prog : Program) (w : World) (i : Int) (t : Tok) : (mixKind prog w).is (.inl i) (.int i t) = true := keyIs_int i t
theorem mixKind_str (prog : Program) (w : World) (x : Str) (t : Tok) : (mixKind prog w).is (.inr x) (.str x t) = true := keyIs_str x t
end L2

namespace L2
open PySem PySem.Spec PyProof.Rows

/-- a value, without the heap -/
inductive V where
  | non | bl (b : Bool) | int (i : Int) | str (x : Str) | byt (b : Array UInt8) | flt (b : UInt64) | ref (a : Addr) | ty (n : String)
  deriving DecidableEq

def RelV : V → Value → Prop
  | .non, u => u = Value.none
  | .bl b, u => u = Value.bool b
  | .int i, u => ∃ t, u = Value.int i t
  | .str x, u => ∃ t, u = Value.str x t
  | .byt b, u => ∃ t, u = Value.bytes b t
  | .flt b, u => ∃ t, u = Value.float b t
  | .ref a, u => u = Value.ref a
  | .ty n, u => u = Value.type n

abbrev Vals : List V → List Value → Prop := Paired RelV
theorem Vals.length {xs : List V} {us : List Value} (r : Vals xs us) : xs.length = us.length := Paired.length r
theorem Vals.get : ∀ {xs : List V} {us : List Value} {i : Nat} {x : V}, Vals xs us → xs[i]? = some x → ∃ u, us[i]? = some u ∧ RelV x u
  | _, _, _, _, .nil, e => by simp at e
  | _, _, 0, _, .cons r _, e => by simp at e; subst e; exact ⟨_, rfl, r⟩
  | _, _, i + 1, x, .cons _ t, e => by
    obtain ⟨u, h1, h2⟩ := Vals.get (i := i) (x := x) t (by simpa using e)
    exact ⟨u, by simpa using h1, h2⟩
theorem Vals.append : ∀ {xs ys : List V} {us ws : List Value}, Vals xs us → Vals ys ws → Vals (xs ++ ys) (us ++ ws)
  | _, _, _, _, .nil, s => s
  | _, _, _, _, .cons r t, s => .cons r (Vals.append t s)
theorem Vals.take : ∀ {xs : List V} {us : List Value} (n : Nat), Vals xs us → Vals (xs.take n) (us.take n)
  | _, _, 0, _ => .nil
  | _, _, _ + 1, .nil => .nil
  | _, _, n + 1, .cons r t => .cons r (Vals.take n t)
theorem Vals.drop : ∀ {xs : List V} {us : List Value} (n : Nat), Vals xs us → Vals (xs.drop n) (us.drop n)
  | _, _, 0, r => r
  | _, _, _ + 1, .nil => .nil
  | _, _, n + 1, .cons _ t => Vals.drop n t

def RelO : Option V → Option Value → Prop
  | some v, some u => RelV v u
  | none, none => True
  | _, _ => False
def KV {κ : Type} : List (κ × V) → List (κ × Value) → Prop := Paired fun (p : κ × V) (q : κ × Value) => p.1 = q.1 ∧ RelV p.2 q.2

/-- a key of a dict (00_mix): an int or a text -/
def kV : Key → V
  | .inl i => .int i
  | .inr x => .str x

/-- what stands at a tracked address -/
inductive HO where
  /-- a list -/
  | lst (xs : List V)
  /-- a tuple (never changes) -/
  | tup (xs : List V)
  /-- a dict whose keys are ints and texts; one whose keys are tuples of ints and texts (the empty one is both) -/
  | dK (kvs : List (Key × V)) | dT (kvs : List (List Key × V))
  /-- a set of ints: its members, its size -/
  | set (S : Int → Bool) (n : Nat)
  /-- an instance of the class at C, its dict at dx, its attributes -/
  | ins (C dx : Addr) (fs : List (Str × V))
  /-- the dict of the instance at x -/
  | own (x : Addr)
  /-- the dict of an exception -/
  | xd (fs : List (Str × V))
  /-- a bound method, f of x -/
  | met (f x : Addr)
  /-- a range object lo, lo + 1, .. below hi -/
  | rng (lo hi : Int)
  /-- a thing that is known to the object (the script; a dict while a loop walks it): read, never written while it is so -/
  | frz (o : Obj) (u : HO)
  /-- a code object's table -/
  | tbl (ps : Array Value)
  /-- any other thing, by what is true of its one object (a def of one's own: SetO a S n := HO.ext fun h => ..) -/
  | ext (φ : Heap → Prop)

abbrev Hp := Addr → Option HO
def upd (H : Hp) (a : Addr) (o : HO) : Hp := fun b => if b = a then some o else H b
theorem upd_same {H : Hp} {a : Addr} {o : HO} : upd H a o a = some o := by unfold upd; rw [if_pos rfl]
theorem upd_ne {H : Hp} {a b : Addr} {o : HO} (h : b ≠ a) : upd H a o b = H b := by unfold upd; rw [if_neg h]
theorem upd_upd {H : Hp} {a : Addr} {o u : HO} : upd (upd H a o) a u = upd H a u := by
  funext b; unfold upd; split <;> rfl
/-- two objects of different content stand apart -/
theorem ne_of {H : Hp} {a b : Addr} {o u : HO} (h : H a = some o) (h' : H b = some u) (d : o ≠ u) : a ≠ b := by
  intro e; subst e; rw [h] at h'; exact d (Option.some.inj h')
theorem ne_of_none {H : Hp} {a b : Addr} {o : HO} (h : H a = some o) (h' : H b = none) : a ≠ b := by
  intro e; subst e; rw [h] at h'; cases h'

section
variable (P : Program) (w : World)
def ObjOk (H : Hp) (h : Heap) (a : Addr) : HO → Prop
  | .lst xs => xs.length ≤ sizeLine ∧ ∃ (its : List Value) (n : Nat), Vals xs its ∧ h.get? a = some { cls := .type "list", data := .seq its.toArray n }
  | .tup xs => xs.length ≤ sizeLine ∧ ∃ its : List Value, Vals xs its ∧ IsTup h a its.toArray
  | .dK kvs => kvs.length ≤ sizeLine ∧ (a == sysModules) = false ∧ ∃ vs, KV kvs vs ∧ h.DictOf (mixKind P w) a vs
  | .dT kvs => kvs.length ≤ sizeLine ∧ (a == sysModules) = false ∧ ∃ xs : List (List Key × Addr × Value),
      Paired (fun (p : List Key × V) (q : List Key × Addr × Value) => p.1 = q.1 ∧ H q.2.1 = some (.tup (p.1.map kV)) ∧ RelV p.2 q.2.2) kvs xs ∧
      ∃ o es ep, h.get? a = some o ∧ o.ExactDict ∧ o.data = .dict es ep ∧ es.toList = xs.map (entryOfKey (tupleKind (mixKind P w))) ∧ (xs.map (·.1)).Nodup
  | .set S n => h.SetOf (intKind P w) a S n
  | .ins C dx fs => H dx = some (.own a) ∧ fs.length ≤ 1000 ∧ dx ≠ a ∧ h.get? a = some (PySem.W.instObj C dx) ∧
      ∃ mA, h.Ns1 dx mA ∧ (∀ f, RelO (fs.lookup f) (mA f)) ∧ PySem.Within mA (fs.map (·.1))
  | .own _ => ∃ o, h.get? a = some o
  | .xd fs => ∃ mA, h.Ns1 a mA ∧ ∀ f, RelO (fs.lookup f) (mA f)
  | .rng lo hi => ∃ t u v, h.get? a = some { cls := .type "range", data := .fields #[.int lo t, .int hi u, .int 1 v] }
  | .frz o u => h.get? a = some o ∧ ObjOk H h a u
  | .tbl ps => h.get? a = some { cls := .none, data := .fields ps }
  | .met f x => h.get? a = some (PySem.W.methodObj (.ref f) (.ref x))
  | .ext φ => φ h ∧ (∃ o, h.get? a = some o) ∧ ∀ h1 h2 : Heap, φ h1 → (∀ o, h1.get? a = some o → h2.get? a = some o) → φ h2
/-- the abstract heap is held -/
def HOk (H : Hp) (h : Heap) : Prop := ∀ a o, H a = some o → ObjOk P w H h a o
end

section
variable {P : Program} {w : World} {H H' : Hp} {h h' : Heap} {a : Addr} {o : HO}
theorem ObjOk.lt (x : ObjOk P w H h a o) : a < h.objs.size := by
  cases o with
  | lst xs => obtain ⟨_, _, _, _, e⟩ := x; exact Heap.lt_size e
  | tup xs => obtain ⟨_, _, _, p⟩ := x; exact p.lt
  | dK kvs => obtain ⟨_, _, _, _, o, _, _, e, _⟩ := x; exact Heap.lt_size e
  | dT kvs => obtain ⟨_, _, _, _, o, _, _, e, _⟩ := x; exact Heap.lt_size e
  | set S n => obtain ⟨o, _, _, _, e, _⟩ := x; exact Heap.lt_size e
  | ins C dx fs => obtain ⟨_, _, _, e, _⟩ := x; exact Heap.lt_size e
  | own y => obtain ⟨_, e⟩ := x; exact Heap.lt_size e
  | xd fs => obtain ⟨_, ⟨_, _, _, e, _⟩, _⟩ := x; exact Heap.lt_size e
  | rng lo hi => obtain ⟨_, _, _, e⟩ := x; exact Heap.lt_size e
  | frz ob u => obtain ⟨e, _⟩ := x; exact Heap.lt_size e
  | tbl ps => exact Heap.lt_size (show h.get? a = some _ from x)
  | met f y => exact Heap.lt_size (show h.get? a = some _ from x)
  | ext φ => obtain ⟨_, ⟨_, e⟩, _⟩ := x; exact Heap.lt_size e
theorem Paired.mapP {α β : Type} {F G : α → β → Prop} : ∀ {l₁ : List α} {l₂ : List β}, Paired F l₁ l₂ → (∀ a b, F a b → G a b) → Paired G l₁ l₂
  | _, _, .nil, _ => .nil
  | _, _, .cons r t, f => .cons (f _ _ r) (Paired.mapP t f)
/-- what an object's description leans on: its own object, its own dict, the tuples -/
theorem ObjOk.stay (x : ObjOk P w H h a o) (k : ∀ b u, (b = a ∨ H b = some (.own a)) → h.get? b = some u → h'.get? b = some u)
    (ho : ∀ b, H b = some (.own a) → H' b = some (.own a)) (ht : ∀ b xs, H b = some (.tup xs) → H' b = some (.tup xs)) : ObjOk P w H' h' a o := by
  induction o with
  | lst xs => obtain ⟨z, its, n, r, e⟩ := x; exact ⟨z, its, n, r, k _ _ (.inl rfl) e⟩
  | tup xs => obtain ⟨z, its, r, ob, e, c⟩ := x; exact ⟨z, its, r, ob, k _ _ (.inl rfl) e, c⟩
  | dK kvs => obtain ⟨z, y, vs, r, ob, es, ep, e, c⟩ := x; exact ⟨z, y, vs, r, ob, es, ep, k _ _ (.inl rfl) e, c⟩
  | dT kvs =>
    obtain ⟨z, y, xs, r, ob, es, ep, e, c⟩ := x
    exact ⟨z, y, xs, Paired.mapP r fun p q z => ⟨z.1, ht _ _ z.2.1, z.2.2⟩, ob, es, ep, k _ _ (.inl rfl) e, c⟩
  | set S n => obtain ⟨ob, es, ep, t, e, c⟩ := x; exact ⟨ob, es, ep, t, k _ _ (.inl rfl) e, c⟩
  | ins C dx fs =>
    obtain ⟨d, z, ne, e, mA, ⟨od, es, ep, e2, c⟩, r⟩ := x
    exact ⟨ho _ d, z, ne, k _ _ (.inl rfl) e, mA, ⟨od, es, ep, k _ _ (.inr d) e2, c⟩, r⟩
  | own y => obtain ⟨ob, e⟩ := x; exact ⟨ob, k _ _ (.inl rfl) e⟩
  | xd fs => obtain ⟨mA, ⟨od, es, ep, e, c⟩, r⟩ := x; exact ⟨mA, ⟨od, es, ep, k _ _ (.inl rfl) e, c⟩, r⟩
  | rng lo hi => obtain ⟨t, u, v, e⟩ := x; exact ⟨t, u, v, k _ _ (.inl rfl) e⟩
  | frz ob u ih => obtain ⟨e, q⟩ := x; exact ⟨k _ _ (.inl rfl) e, ih q⟩
  | tbl ps =>
    have e : h.get? a = some { cls := .none, data := .fields ps } := x
    show h'.get? a = some { cls := .none, data := .fields ps }
    exact k a _ (.inl rfl) e
  | met f y =>
    have e : h.get? a = some (PySem.W.methodObj (.ref f) (.ref y)) := x
    show h'.get? a = some (PySem.W.methodObj (.ref f) (.ref y))
    exact k a _ (.inl rfl) e
  | ext φ => obtain ⟨p, ⟨o, e⟩, st⟩ := x; exact ⟨st _ _ p fun o q => k _ _ (.inl rfl) q, ⟨o, k _ _ (.inl rfl) e⟩, st⟩
theorem HOk.lt (x : HOk P w H h) (e : H a = some o) : a < h.objs.size := (x a o e).lt
theorem HOk.fresh (x : HOk P w H h) (e : h.objs.size ≤ a) : H a = none := by
  cases q : H a with
  | none => rfl
  | some u => exact absurd (Nat.lt_of_lt_of_le (x.lt q) e) (Nat.lt_irrefl _)
/-- every object of the heap is kept -/
theorem HOk.kept (x : HOk P w H h) (k : ∀ b u, h.get? b = some u → h'.get? b = some u) : HOk P w H h' := fun a o e =>
  (x a o e).stay (fun b u _ q => k b u q) (fun _ q => q) fun _ _ q => q
/-- a new object is laid and tracked -/
theorem HOk.laid (x : HOk P w H h) (k : ∀ b u, h.get? b = some u → h'.get? b = some u) (hp : h.objs.size ≤ a) (new : ObjOk P w (upd H a o) h' a o) : HOk P w (upd H a o) h' := fun b u e => by
  have hn := x.fresh hp
  by_cases hb : b = a
  · subst hb; rw [upd_same] at e; cases e; exact new
  · rw [upd_ne hb] at e
    exact (x b u e).stay (fun c v _ q => k c v q) (fun c q => by rw [upd_ne (ne_of_none q hn)]; exact q) fun c xs q => by rw [upd_ne (ne_of_none q hn)]; exact q
end

/-- what may be read as u: it is u, or a known u -/
def Rd (H : Hp) (a : Addr) (u : HO) : Prop := H a = some u ∨ ∃ o, H a = some (.frz o u)
theorem Rd.ok {P : Program} {w : World} {H : Hp} {h : Heap} {a : Addr} {u : HO} (r : Rd H a u) (x : HOk P w H h) : ObjOk P w H h a u := by
  rcases r with r | ⟨o, r⟩
  · exact x a u r
  · obtain ⟨_, q⟩ := x a _ r
    exact q
/-- what may be written -/
def Mut : Option HO → Prop
  | some (.lst _) => True
  | some (.dK _) => True
  | some (.dT _) => True
  | some (.set _ _) => True
  | some (.ins _ _ _) => True
  | some (.ext _) => True
  | _ => False
section
variable {P : Program} {w : World} {H : Hp} {h h' : Heap} {x e : Addr} {o' : HO}
/-- the object at e is changed: x itself, or the dict of the instance x -/
theorem HOk.write (ok : HOk P w H h) (mu : Mut (H x)) (he : e = x ∨ H e = some (.own x)) (k : ∀ b u, b ≠ e → h.get? b = some u → h'.get? b = some u) (heo : ∃ u, h'.get? e = some u)
    (new : ObjOk P w (upd H x o') h' x o') : HOk P w (upd H x o') h' := fun b u q => by
  have nown : ∀ c y, H c = some (.own y) → c ≠ x := fun c y r z => by subst z; rw [r] at mu; exact mu
  have ntup : ∀ c xs, H c = some (.tup xs) → c ≠ x := fun c xs r z => by subst z; rw [r] at mu; exact mu
  by_cases hb : b = x
  · subst hb; rw [upd_same] at q; cases q; exact new
  · rw [upd_ne hb] at q
    by_cases hbe : b = e
    · have q' : H b = some (.own x) := by
        rcases he with z | z
        · exact absurd (hbe.trans z) hb
        · rw [hbe]; exact z
      rw [q] at q'; cases q'
      obtain ⟨v, hv⟩ := heo
      exact ⟨v, by rw [hbe]; exact hv⟩
    · refine (ok b u q).stay (fun c v hc r => k c v ?_ r) (fun c r => by rw [upd_ne (nown c b r)]; exact r) fun c xs r => by rw [upd_ne (ntup c xs r)]; exact r
      rcases hc with rfl | hc
      · exact hbe
      · rintro rfl
        rcases he with z | z
        · exact nown c b hc z
        · rw [hc] at z; cases z; exact hb rfl
end

/-! ### kept unless tracked; of the frames at fs (the callers') the slots may change (an exception that passes writes there); of the records at ex (iterators) nothing is said -/
structure Un (fs ex : List Addr) (H H' : Hp) (h h' : Heap) : Prop where
  keep : ∀ b o, h.get? b = some o → H b = none → b ∉ fs → b ∉ ex → h'.get? b = some o
  slot : ∀ b o, h.get? b = some o → H b = none → b ∈ fs → b ∉ ex → ∃ sl, h'.get? b = some { o with slots := sl }
  free : ∀ b o, h.get? b = some o → H b = none → b ∉ ex → H' b = none
  there : ∀ b o, h.get? b = some o → b ∉ ex → ∃ o', h'.get? b = some o'
  tups : ∀ b xs, H b = some (.tup xs) → H' b = some (.tup xs)
  frzs : ∀ b o u, H b = some (.frz o u) → H' b = some (.frz o u)
  tbls : ∀ b ps, H b = some (.tbl ps) → ∃ more, H' b = some (.tbl (ps ++ more))
section
variable {fs fs' ex ex' : List Addr} {H H1 H2 : Hp} {h h1 h2 h' : Heap} {a x e : Addr} {o : HO}
theorem Un.any (u : Un fs ex H H1 h h1) {b : Addr} {ob : Obj} (q : h.get? b = some ob) (n : H b = none) (hx : b ∉ ex) : ∃ sl, h1.get? b = some { ob with slots := sl } := by
  by_cases hb : b ∈ fs
  · exact u.slot b ob q n hb hx
  · exact ⟨ob.slots, u.keep b ob q n hb hx⟩
theorem Un.kept (k : ∀ b u, h.get? b = some u → h'.get? b = some u) : Un fs ex H H h h' :=
  ⟨fun b ob q _ _ _ => k b ob q, fun b ob q _ _ _ => ⟨ob.slots, k b ob q⟩, fun _ _ _ n _ => n, fun b ob q _ => ⟨ob, k b ob q⟩, fun _ _ q => q, fun _ _ _ q => q, fun _ ps q => ⟨#[], by rw [q]; simp⟩⟩
theorem Un.refl : Un fs ex H H h h := Un.kept fun _ _ q => q
theorem Un.laid (k : ∀ b u, h.get? b = some u → h'.get? b = some u) (hp : h.objs.size ≤ a) (hn : H a = none) : Un fs ex H (upd H a o) h h' where
  keep := fun b u q _ _ _ => k b u q
  slot := fun b u q _ _ _ => ⟨u.slots, k b u q⟩
  free := fun b u q n _ => by rw [upd_ne (Nat.ne_of_lt (Nat.lt_of_lt_of_le (Heap.lt_size q) hp))]; exact n
  there := fun b u q _ => ⟨u, k b u q⟩
  tups := fun b xs q => by rw [upd_ne (ne_of_none q hn)]; exact q
  frzs := fun b u xs q => by rw [upd_ne (ne_of_none q hn)]; exact q
  tbls := fun b ps q => ⟨#[], by rw [upd_ne (ne_of_none q hn), q]; simp⟩
theorem Un.write (mu : Mut (H x)) (he : e = x ∨ H e = some (.own x)) (k : ∀ b u, b ≠ e → h.get? b = some u → h'.get? b = some u) (heo : ∃ u, h'.get? e = some u) : Un fs ex H (upd H x o) h h' := by
  have hx : ∀ b, H b = none → b ≠ x := fun b n z => by subst z; rw [n] at mu; exact mu
  have hb : ∀ b, H b = none → b ≠ e := fun b n z => by
    subst z
    rcases he with r | r
    · exact hx b n r
    · rw [n] at r; cases r
  have hm : ∀ b u, H b = some u → ¬ Mut (some u) → b ≠ x := fun b u q nm z => by subst z; rw [q] at mu; exact nm mu
  refine ⟨fun b u q n _ _ => k b u (hb b n) q, fun b u q n _ _ => ⟨u.slots, k b u (hb b n) q⟩, fun b u q n _ => by rw [upd_ne (hx b n)]; exact n, fun b u q _ => ?_,
    fun b xs q => by rw [upd_ne (hm b _ q fun z => z)]; exact q, fun b u xs q => by rw [upd_ne (hm b _ q fun z => z)]; exact q, fun b ps q => ⟨#[], by rw [upd_ne (hm b _ q fun z => z), q]; simp⟩⟩
  by_cases hbe : b = e
  · subst hbe; exact heo
  · exact ⟨u, k b u hbe q⟩
end

/-! ### the heap without what is tracked -/
def trk (h : Heap) (H : Hp) : List Addr := (List.range h.objs.size).filter fun a => (H a).isSome
def hidT (h : Heap) (H : Hp) : Heap := PySem.W.hideAll h (trk h H)
theorem hidT_size (h : Heap) (H : Hp) : (hidT h H).objs.size = h.objs.size := PySem.W.hideAll_size _ _
theorem hidT_get {h : Heap} {H : Hp} {b : Addr} {o : Obj} (e : h.get? b = some o) (n : H b = none) : (hidT h H).get? b = some o :=
  PySem.W.hideAll_get _ e fun hm => by
    have q : (H b).isSome = true := (List.mem_filter.mp hm).2
    rw [n] at q; simp at q
theorem of_hidT {h : Heap} {H : Hp} {b : Addr} {o : Obj} (e : (hidT h H).get? b = some o) : h.get? b = some o ∧ H b = none := by
  have e' : h.get? b = some o := PySem.W.of_hideAll (trk h H) e
  refine ⟨e', ?_⟩
  cases q : H b with
  | none => rfl
  | some x =>
    have hm : b ∈ trk h H := List.mem_filter.mpr ⟨List.mem_range.mpr (Heap.lt_size e'), by simp [q]⟩
    have z : (hidT h H).get? b = none := PySem.W.hideAll_none (trk h H) hm
    rw [z] at e; cases e

/-! ### OpenK's ledger, filled with every new object but one -/
end L2

namespace L2
open PySem PySem.Spec PyProof.Rows

/-- the module's facts, over the base: the heap at the law's entry without what is tracked there -/
structure Mod (K : PySem.W.Frag) (mg : Str → Option Value) (base : Heap) : Prop where
  kin : K.In base
  glob : base.Ns mainGlobals mg
  blt : ∃ mb, base.Ns builtinsNs mb ∧ ∀ x : Str, x ≠ "__name__" → mb x = bootBuiltins x
  nolimit : base.NoLimit

/-- the context: a def's body (or a comprehension's block) running. base: fixed through the whole law; s₀, H₀: the entry; outer: the frames whose slots others may change (a def's callers); stack: all frames that run;
   ex: iterators that were made ahead of the entry and are walked here (a comprehension's); fn: the names whose cells were made at the entry (a def: all; a comprehension's block: its own); calm: not within an except suite; pn: pins that every state bears; xe: what is wanted of an exception that leaves the code -/
structure Cx where
  prog : Program
  w : World
  K : PySem.W.Frag
  mg : Str → Option Value
  base : Heap
  A : Around
  N : List Str
  s_0 : Shared
  H_0 : Hp
  env : Env
  outer : List Env
  stack : List Env
  ex : List Addr
  fn : Str → Bool
  calm : Bool
  pn : List (Addr × Obj)
  xe : Value → Shared → Prop
/-- the callers' frames -/
def frs (l : List Env) : List Addr := l.filterMap (·.frame)
abbrev Cx.fs (X : Cx) : List Addr := frs X.outer

def Vis (sc : Scope) (x : Str) : Prop := sc.names.lookup x = some .local ∨ sc.names.lookup x = some .cell ∨ sc.names.lookup x = some .free
def Loc (sc : Scope) (x : Str) : Prop := sc.names.lookup x = some .local ∨ sc.names.lookup x = some .cell
def Look (env : Env) (h : Heap) (m : Str → Option Value) (x : Str) (u : Value) : Prop :=
  (env.kindOf x = some .local ∧ m x = some u) ∨ ((env.kindOf x = some .cell ∨ env.kindOf x = some .free) ∧ ∃ c, env.cells.lookup x = some c ∧ h.IsCell c (some u))

structure Cx.Ok (X : Cx) : Prop where
  mod : Mod X.K X.mg X.base
  kind : X.env.scope.kind = .function
  glob : X.env.globals = mainGlobals
  blt : X.env.builtins = builtinsNs
  above : X.s_0.heap.objs.size ≤ X.env.locals
  inj : ∀ x y c, X.env.cells.lookup x = some c → X.env.cells.lookup y = some c → x = y
  has : ∀ x, (X.env.kindOf x = some .cell ∨ X.env.kindOf x = some .free) → ∃ c, X.env.cells.lookup x = some c
  cab : ∀ x c, X.fn x = true → X.env.cells.lookup x = some c → X.s_0.heap.objs.size ≤ c
  hd : X.calm = true → X.A.handled = none
  frames : X.A.frames = some X.stack
  stk : X.stack = X.outer ∨ (X.stack = X.env :: X.outer ∧ X.env.frame = some X.env.locals)
  exf : ∀ b ∈ X.ex, b ≠ X.env.locals ∧ ∀ x c, X.env.cells.lookup x = some c → c ≠ b
  bs : ∀ b o, X.base.get? b = some o → X.s_0.heap.get? b = some o ∧ X.H_0 b = none
  bsz : X.base.objs.size ≤ X.s_0.heap.objs.size
  noex : ∀ b o, X.base.get? b = some o → b ∉ X.ex
  exfs : ∀ b ∈ X.ex, b ∉ X.fs
  funs : X.s_0.heap.FunFrames X.base X.outer
  frf : ∀ b ∈ X.fs, X.H_0 b = none

structure Inv (X : Cx) (pins : List (Addr × Obj)) (σ : List (Option V)) (H : Hp) (s : Shared) : Prop where
  ok : X.Ok
  os : s.os = X.s_0.os
  bare : AllBare s.gens
  base : Un X.fs X.ex X.H_0 H X.s_0.heap s.heap
  loc : ∃ m, s.heap.Ns X.env.locals m ∧ ∀ (i : Nat) (x : Str) (v : V), X.N[i]? = some x → σ[i]? = some (some v) → Vis X.env.scope x → ∃ u, RelV v u ∧ Look X.env s.heap m x u
  cell : ∀ x c, X.env.cells.lookup x = some c → ∃ v, s.heap.IsCell c v
  free : H X.env.locals = none
  freeC : ∀ x c, X.env.cells.lookup x = some c → H c = none
  pin : ∀ p ∈ X.pn ++ pins, s.heap.get? p.1 = some p.2 ∧ H p.1 = none ∧ p.1 ≠ X.env.locals ∧ p.1 ∉ X.fs ∧ ∀ v, p.2.data ≠ .cell v
  hok : HOk X.prog X.w H s.heap
  len : σ.length = X.N.length

section
variable {X : Cx} {pins : List (Addr × Obj)} {σ : List (Option V)} {H H' : Hp} {s : Shared} {h' : Heap}

theorem Cx.Ok.nofr (ok : X.Ok) {b : Addr} {o : Obj} (e : X.base.get? b = some o) : b ∉ X.fs := fun hb => by
  have := (ok.funs.mem hb).1
  rw [e] at this; cases this
theorem Inv.bs (I : Inv X pins σ H s) : ∀ b o, X.base.get? b = some o → s.heap.get? b = some o ∧ H b = none := fun b o e =>
  ⟨I.base.keep b o (I.ok.bs b o e).1 (I.ok.bs b o e).2 (I.ok.nofr e) (I.ok.noex b o e), I.base.free b o (I.ok.bs b o e).1 (I.ok.bs b o e).2 (I.ok.noex b o e)⟩
theorem Inv.bk (I : Inv X pins σ H s) : ∀ b o, X.base.get? b = some o → s.heap.get? b = some o := fun b o e => (I.bs b o e).1
theorem Inv.mod (I : Inv X pins σ H s) : Mod X.K X.mg X.base := I.ok.mod
theorem Inv.kIn (I : Inv X pins σ H s) : X.K.In s.heap := I.ok.mod.kin.keeps I.bk
/-- the frame over the base: for OpenK's rules (K.In X.base is I.mod.kin) -/
theorem Inv.fr (I : Inv X pins σ H s) : ∃ m, Fr X.base X.env.locals s.heap m :=
  let ⟨m, hn, _⟩ := I.loc
  ⟨m, hn, I.bk, Nat.le_trans I.ok.bsz I.ok.above⟩
theorem Inv.lt (I : Inv X pins σ H s) : X.env.locals < s.heap.objs.size := let ⟨_, hn, _⟩ := I.loc; hn.lt
theorem Inv.sz (I : Inv X pins σ H s) : X.s_0.heap.objs.size ≤ s.heap.objs.size := Nat.le_trans I.ok.above (Nat.le_of_lt I.lt)
theorem Inv.nofs (I : Inv X pins σ H s) {a : Addr} (h : s.heap.objs.size ≤ a) : a ∉ X.fs := fun hb => by
  obtain ⟨_, o, ho, _⟩ := I.ok.funs.mem hb
  exact absurd (Nat.lt_of_lt_of_le (Heap.lt_size ho) (Nat.le_trans I.sz h)) (Nat.lt_irrefl _)
theorem Inv.cne (I : Inv X pins σ H s) : ∀ x c, X.env.cells.lookup x = some c → c ≠ X.env.locals := fun x c e z => by
  obtain ⟨v, o, ho, hd⟩ := I.cell x c e
  obtain ⟨m, ⟨o', es, ep, ho', hd', _⟩, _⟩ := I.loc
  rw [z, ho'] at ho; cases ho; rw [hd'] at hd; cases hd
theorem Inv.funs (I : Inv X pins σ H s) : s.heap.FunFrames X.base X.outer := by
  have all : ∀ (l : List Env), (∀ b ∈ frs l, b ∈ X.fs) → X.s_0.heap.FunFrames X.base l → s.heap.FunFrames X.base l := by
    intro l
    induction l with
    | nil => intro _ _; trivial
    | cons env r ih =>
      intro hs hl
      obtain ⟨hk, ⟨L, o, hf, hn, ho, hd⟩, hr⟩ := hl
      have hL : L ∈ X.fs := hs L (by unfold frs; rw [List.filterMap_cons, hf]; exact List.mem_cons_self)
      obtain ⟨sl, e⟩ := I.base.slot L o ho (I.ok.frf L hL) hL fun z => I.ok.exfs L z hL
      exact ⟨hk, ⟨L, _, hf, hn, e, hd⟩, ih (fun b hb => hs b (by unfold frs; rw [List.filterMap_cons, hf]; exact List.mem_cons_of_mem _ hb)) hr⟩
  exact all X.outer (fun _ hb => hb) I.ok.funs

/-- the frames that run, for a call -/
theorem Inv.stack (I : Inv X pins σ H s) : s.heap.FunFrames X.base X.stack := by
  rcases I.ok.stk with e | ⟨e, hf⟩
  · rw [e]; exact I.funs
  · rw [e]
    obtain ⟨m, hn, _⟩ := I.loc
    refine .cons (by rw [I.ok.kind]; decide) hf hn ?_ I.funs
    exact Heap.get?_none_of_le (Nat.le_trans I.ok.bsz I.ok.above)
theorem Inv.stkSub (I : Inv X pins σ H s) : ∀ b ∈ frs X.stack, b ∈ X.env.locals :: X.fs := fun b hb => by
  rcases I.ok.stk with e | ⟨e, hf⟩
  · rw [e] at hb; exact List.mem_cons_of_mem _ hb
  · rw [e] at hb
    unfold frs at hb
    rw [List.filterMap_cons, hf] at hb
    exact hb
theorem Inv.stkFree (I : Inv X pins σ H s) : ∀ b ∈ frs X.stack, H b = none := fun b hb => by
  rcases List.mem_cons.mp (I.stkSub b hb) with e | hb
  · rw [e]; exact I.free
  · obtain ⟨_, o, ho, _⟩ := I.ok.funs.mem hb
    exact I.base.free b o ho (I.ok.frf b hb) fun z => I.ok.exfs b z hb

/-- THE STEP: the untracked objects but the frame and the records at ch are kept (the callers' frames up to slots), the frame's map is kept, the new abstract heap is held -/
theorem Inv.step {g' : Array GenState} {t' : Nat} {d' : Drawn} {ch : List Addr} (I : Inv X pins σ H s)
    (hch : ∀ b ∈ ch, (b ∈ X.ex ∨ X.s_0.heap.objs.size ≤ b) ∧ b ≠ X.env.locals ∧ (∀ x c, X.env.cells.lookup x = some c → c ≠ b) ∧ ∀ p ∈ X.pn ++ pins, p.1 ≠ b)
    (keep : ∀ b o, b ≠ X.env.locals → b ∉ X.fs → b ∉ ch → s.heap.get? b = some o → H b = none → h'.get? b = some o)
    (slot : ∀ b o, b ≠ X.env.locals → b ∈ X.fs → b ∉ ch → s.heap.get? b = some o → H b = none → ∃ sl, h'.get? b = some { o with slots := sl }) (free : ∀ b o, b ∉ ch → s.heap.get? b = some o → H b = none → H' b = none)
    (there : ∀ b o, b ∉ ch → s.heap.get? b = some o → ∃ o', h'.get? b = some o')
    (tups : ∀ b xs, H b = some (.tup xs) → H' b = some (.tup xs)) (frzs : ∀ b o u, H b = some (.frz o u) → H' b = some (.frz o u)) (tbls : ∀ b ps, H b = some (.tbl ps) → ∃ more, H' b = some (.tbl (ps ++ more)))
    (ns : ∀ m, s.heap.Ns X.env.locals m → h'.Ns X.env.locals m) (hok : HOk X.prog X.w H' h') (hg : AllBare g') :
    Inv X pins σ H' { s with heap := h', gens := g', drawn := d', toks := t' } := by
  have neL : ∀ b o, X.s_0.heap.get? b = some o → b ≠ X.env.locals := fun b o e => Nat.ne_of_lt (Nat.lt_of_lt_of_le (Heap.lt_size e) I.ok.above)
  have neC : ∀ b o, X.s_0.heap.get? b = some o → b ∉ X.ex → b ∉ ch := fun b o e hx hb => by
    rcases (hch b hb).1 with z | z
    · exact hx z
    · exact absurd (Nat.lt_of_lt_of_le (Heap.lt_size e) z) (Nat.lt_irrefl _)
  have cellK : ∀ x c, X.env.cells.lookup x = some c → ∀ v, s.heap.IsCell c v → h'.IsCell c v := fun x c e v ⟨o, ho, hd⟩ => by
    have nch : c ∉ ch := fun z => (hch c z).2.2.1 x c e rfl
    by_cases hc : c ∈ X.fs
    · obtain ⟨sl, q⟩ := slot c o (I.cne x c e) hc nch ho (I.freeC x c e)
      exact ⟨_, q, hd⟩
    · exact ⟨o, keep c o (I.cne x c e) hc nch ho (I.freeC x c e), hd⟩
  refine ⟨I.ok, I.os, hg, ⟨fun b o e n hb hx => ?_, fun b o e n hb hx => ?_, fun b o e n hx => ?_, fun b o e hx => ?_, fun b xs e => tups b xs (I.base.tups b xs e), fun b o xs e => frzs b o xs (I.base.frzs b o xs e), fun b ps e => ?_⟩, ?_, fun x c e => ?_, ?_, fun x c e => ?_, fun p hp => ?_, hok, I.len⟩
  · exact keep b o (neL b o e) hb (neC b o e hx) (I.base.keep b o e n hb hx) (I.base.free b o e n hx)
  · obtain ⟨sl, e1⟩ := I.base.slot b o e n hb hx
    obtain ⟨sl', e2⟩ := slot b _ (neL b o e) hb (neC b o e hx) e1 (I.base.free b o e n hx)
    exact ⟨sl', e2⟩
  · obtain ⟨o', e1⟩ := I.base.there b o e hx
    exact free b o' (neC b o e hx) e1 (I.base.free b o e n hx)
  · obtain ⟨o', e1⟩ := I.base.there b o e hx
    exact there b o' (neC b o e hx) e1
  · obtain ⟨m1, e1⟩ := I.base.tbls b ps e
    obtain ⟨m2, e2⟩ := tbls b _ e1
    exact ⟨m1 ++ m2, by rw [e2, Array.append_assoc]⟩
  · obtain ⟨m, hn, hl⟩ := I.loc
    refine ⟨m, ns m hn, fun i x v e1 e2 e3 => ?_⟩
    obtain ⟨u, r, l⟩ := hl i x v e1 e2 e3
    refine ⟨u, r, ?_⟩
    rcases l with l | ⟨k, c, e, z⟩
    · exact .inl l
    · exact .inr ⟨k, c, e, cellK x c e _ z⟩
  · obtain ⟨v, z⟩ := I.cell x c e
    exact ⟨v, cellK x c e v z⟩
  · obtain ⟨m, ⟨o, _, _, ho, _⟩, _⟩ := I.loc
    exact free _ o (fun z => (hch _ z).2.1 rfl) ho I.free
  · obtain ⟨v, o, ho, hd⟩ := I.cell x c e
    exact free c o (fun z => (hch c z).2.2.1 x c e rfl) ho (I.freeC x c e)
  · obtain ⟨e, n, ne, nf, d⟩ := I.pin p hp
    have nch : p.1 ∉ ch := fun z => (hch p.1 z).2.2.2 p hp rfl
    exact ⟨keep p.1 p.2 ne nf nch e n, free p.1 p.2 nch e n, ne, nf, d⟩
/-- .. where the frame's own object is kept too -/
theorem Inv.un {t' : Nat} (I : Inv X pins σ H s) (u : Un X.fs [] H H' s.heap h') (hok : HOk X.prog X.w H' h') : Inv X pins σ H' { s with heap := h', toks := t' } := by
  obtain ⟨m, ⟨o, es, ep, ho, r⟩, _⟩ := id I.loc
  obtain ⟨sl, hL⟩ := u.any ho I.free (by simp)
  exact I.step (g' := s.gens) (d' := s.drawn) (ch := []) (fun _ z => nomatch z) (fun b o _ hb _ e n => u.keep b o e n hb (by simp)) (fun b o _ hb _ e n => u.slot b o e n hb (by simp)) (fun b o _ e n => u.free b o e n (by simp)) (fun b o _ e => u.there b o e (by simp)) u.tups u.frzs u.tbls (fun m' hm => by
    obtain ⟨o', es', ep', ho', r'⟩ := hm
    rw [ho] at ho'; cases ho'
    exact ⟨_, es', ep', hL, r'⟩) hok I.bare
/-- behind a call (or a comprehension's block): the slots of this frame may have changed too, the records at ch may have turned -/
theorem Inv.call {g' : Array GenState} {t' : Nat} {d' : Drawn} {ch : List Addr} (I : Inv X pins σ H s) (u : Un (frs X.stack) ch H H' s.heap h') (hok : HOk X.prog X.w H' h') (hg : AllBare g')
    (hch : ∀ b ∈ ch, (b ∈ X.ex ∨ X.s_0.heap.objs.size ≤ b) ∧ b ≠ X.env.locals ∧ (∀ x c, X.env.cells.lookup x = some c → c ≠ b) ∧ ∀ p ∈ X.pn ++ pins, p.1 ≠ b) :
    Inv X pins σ H' { s with heap := h', gens := g', drawn := d', toks := t' } := by
  obtain ⟨m, ⟨o, es, ep, ho, r⟩, _⟩ := id I.loc
  obtain ⟨sl, hL⟩ := u.any ho I.free fun z => (hch _ z).2.1 rfl
  exact I.step (ch := ch) hch (fun b o hL hb hc e n => u.keep b o e n (fun z => (List.mem_cons.mp (I.stkSub b z)).elim hL hb) hc) (fun b o _ _ hc e n => u.any e n hc) (fun b o hc e n => u.free b o e n hc) (fun b o hc e => u.there b o e hc) u.tups u.frzs u.tbls (fun m' hm => by
    obtain ⟨o', es', ep', ho', r'⟩ := hm
    rw [ho] at ho'; cases ho'
    exact ⟨_, es', ep', hL, r'⟩) hok hg
/-- an untracked record of ours (an iterator) has turned -/
theorem Inv.turned {t' : Nat} {it : Addr} (I : Inv X pins σ H s) (k : ∀ b o, b ≠ it → s.heap.get? b = some o → h'.get? b = some o) (hn : H it = none) (hL : it ≠ X.env.locals)
    (h1 : it ∈ X.ex ∨ X.s_0.heap.objs.size ≤ it) (h2 : ∀ x c, X.env.cells.lookup x = some c → c ≠ it) (h3 : ∀ p ∈ X.pn ++ pins, p.1 ≠ it) : Inv X pins σ H { s with heap := h', toks := t' } := by
  have nit : ∀ b u, H b = some u → b ≠ it := fun b u e z => by rw [z, hn] at e; cases e
  refine I.step (g' := s.gens) (d' := s.drawn) (ch := [it]) (fun b hb => ?_) (fun b o _ _ hc e _ => k b o (fun z => hc (by simp [z])) e) (fun b o _ _ hc e _ => ⟨o.slots, k b o (fun z => hc (by simp [z])) e⟩) (fun _ _ _ _ n => n)
    (fun b o hc e => ⟨o, k b o (fun z => hc (by simp [z])) e⟩) (fun _ _ e => e) (fun _ _ _ e => e) (fun b ps e => ⟨#[], by rw [e]; simp⟩) (fun m hm => ?_) (fun b u e => ?_) I.bare
  · have e : b = it := by simpa using hb
    subst e
    exact ⟨h1, hL, h2, h3⟩
  · obtain ⟨o, es, ep, ho, r⟩ := hm
    exact ⟨o, es, ep, k _ o (Ne.symm hL) ho, r⟩
  · refine (I.hok b u e).stay (fun c v hc q => k c v ?_ q) (fun _ q => q) fun _ _ q => q
    rcases hc with z | z
    · rw [z]; exact nit b u e
    · exact nit c _ z
theorem Inv.tok (I : Inv X pins σ H s) (t : Nat) : Inv X pins σ H { s with toks := t } := I.un (h' := s.heap) (t' := t) Un.refl I.hok
/-- all objects kept -/
theorem Inv.kept {t' : Nat} (I : Inv X pins σ H s) (k : ∀ b u, s.heap.get? b = some u → h'.get? b = some u) : Inv X pins σ H { s with heap := h', toks := t' } := I.un (Un.kept k) (I.hok.kept k)
/-- a new object laid and tracked -/
theorem Inv.laid {a : Addr} {o : HO} {t' : Nat} (I : Inv X pins σ H s) (k : ∀ b u, s.heap.get? b = some u → h'.get? b = some u) (hp : s.heap.objs.size ≤ a) (new : ObjOk X.prog X.w (upd H a o) h' a o) :
    Inv X pins σ (upd H a o) { s with heap := h', toks := t' } := I.un (Un.laid k hp (I.hok.fresh hp)) (I.hok.laid k hp new)
/-- an object written -/
theorem Inv.write {x e : Addr} {o : HO} {t' : Nat} (I : Inv X pins σ H s) (mu : Mut (H x)) (he : e = x ∨ H e = some (.own x)) (k : ∀ b u, b ≠ e → s.heap.get? b = some u → h'.get? b = some u) (heo : ∃ u, h'.get? e = some u)
    (new : ObjOk X.prog X.w (upd H x o) h' x o) : Inv X pins σ (upd H x o) { s with heap := h', toks := t' } := I.un (Un.write mu he k heo) (I.hok.write mu he k heo new)
/-- forgetting slots, pins -/
theorem Inv.weak {σ' : List (Option V)} (I : Inv X pins σ H s) (hl : σ'.length = σ.length) (w : ∀ (i : Nat) v, σ'[i]? = some (some v) → σ[i]? = some (some v)) : Inv X pins σ' H s :=
  ⟨I.ok, I.os, I.bare, I.base, let ⟨m, hn, hl'⟩ := I.loc; ⟨m, hn, fun i x v e1 e2 e3 => hl' i x v e1 (w i v e2) e3⟩, I.cell, I.free, I.freeC, I.pin, I.hok, hl.trans I.len⟩
theorem Inv.pins_of {pins' : List (Addr × Obj)} (I : Inv X pins σ H s) (h : ∀ p ∈ pins', s.heap.get? p.1 = some p.2 ∧ H p.1 = none ∧ p.1 ≠ X.env.locals ∧ p.1 ∉ X.fs ∧ ∀ v, p.2.data ≠ .cell v) : Inv X pins' σ H s :=
  ⟨I.ok, I.os, I.bare, I.base, I.loc, I.cell, I.free, I.freeC, fun p hp => (List.mem_append.mp hp).elim (fun z => I.pin p (List.mem_append_left _ z)) (h p), I.hok, I.len⟩

theorem nodup_ix {N : List Str} (hN : N.Nodup) {i j : Nat} {x : Str} (a : N[i]? = some x) (b : N[j]? = some x) : i = j := by
  obtain ⟨h1, e1⟩ := List.getElem?_eq_some_iff.mp a
  obtain ⟨h2, e2⟩ := List.getElem?_eq_some_iff.mp b
  exact (List.getElem_inj hN).mp (e1.trans e2.symm)

/-- a name is stored; what changed -/
theorem store_ok2 {M : Model} {A : Around} {E : Value → Shared → Prop} {i : Nat} {x : Str} {v : V} {u : Value} {Q : Unit → Shared → Prop} (I : Inv X pins σ H s) (hN : X.N.Nodup) (hi : X.N[i]? = some x) (hx : Loc X.env.scope x) (r : RelV v u)
    (h : ∀ s', Inv X pins (σ.set i (some v)) H s' → (∃ a, Heap.SameBut a s.heap s'.heap ∧ (a = X.env.locals ∨ X.env.cells.lookup x = some a)) → Q () s') (hf : X.fn x = true ∨ X.env.scope.names.lookup x = some .local := by first | exact .inl rfl | exact .inr rfl | assumption) : wpAny M A (storeName X.env x u) Q E s := by
  obtain ⟨m, hn, hl⟩ := id I.loc
  have hcls : (X.env.scope.kind == .class || (X.env.scope.kind == .module && X.env.locals != X.env.globals)) = false := by rw [I.ok.kind]; rfl
  have hiσ : i < σ.length := by rw [I.len]; exact (List.getElem?_eq_some_iff.mp hi).1
  have cne := I.cne
  have tracked : ∀ {a : Addr} {h' : Heap}, (∃ o, s.heap.get? a = some o ∧ H a = none) → Heap.SameBut a s.heap h' → HOk X.prog X.w H h' := fun {a h'} ha hs b ob e => by
    obtain ⟨_, _, hfree⟩ := ha
    refine (I.hok b ob e).stay (fun c w' hc q => (hs.2 c ?_).trans q) (fun _ q => q) fun _ _ q => q
    rintro rfl
    rcases hc with rfl | hc
    · rw [hfree] at e; cases e
    · rw [hfree] at hc; cases hc
  rcases hx with hk | hk
  · refine wpAny_storeName_local hk hn (fun h' hn' hs => ?_) hcls
    obtain ⟨oL, _, _, hoL, _⟩ := id hn
    refine h _ ⟨I.ok, I.os, I.bare, ⟨fun b o e n hb hx => ?_, fun b o e n hb hx => ?_, I.base.free, fun b o e hx => ?_, I.base.tups, I.base.frzs, I.base.tbls⟩, ⟨_, hn', fun j y v' e1 e2 e3 => ?_⟩, fun y c e => ?_, I.free, I.freeC, fun p hp => ?_, tracked ⟨oL, hoL, I.free⟩ hs, by simpa using I.len⟩ ⟨_, hs, .inl rfl⟩
    · exact (hs.2 b (Nat.ne_of_lt (Nat.lt_of_lt_of_le (Heap.lt_size e) I.ok.above))).trans (I.base.keep b o e n hb hx)
    · obtain ⟨sl, e1⟩ := I.base.slot b o e n hb hx
      exact ⟨sl, (hs.2 b (Nat.ne_of_lt (Nat.lt_of_lt_of_le (Heap.lt_size e) I.ok.above))).trans e1⟩
    · obtain ⟨o', e1⟩ := I.base.there b o e hx
      exact ⟨o', (hs.2 b (Nat.ne_of_lt (Nat.lt_of_lt_of_le (Heap.lt_size e) I.ok.above))).trans e1⟩
    · by_cases hj : j = i
      · subst hj
        rw [hi] at e1; cases e1
        rw [List.getElem?_set_self hiσ] at e2
        cases e2
        exact ⟨u, r, .inl ⟨hk, by simp⟩⟩
      · rw [List.getElem?_set_ne (Ne.symm hj)] at e2
        obtain ⟨u', r', q⟩ := hl j y v' e1 e2 e3
        refine ⟨u', r', ?_⟩
        rcases q with ⟨k, e⟩ | ⟨k, c, e, z⟩
        · refine .inl ⟨k, ?_⟩
          have : y ≠ x := fun e => hj (nodup_ix hN e1 (e ▸ hi))
          simp [this, e]
        · exact .inr ⟨k, c, e, z.sameBut hs (cne y c e)⟩
    · obtain ⟨w', z⟩ := I.cell y c e
      exact ⟨w', z.sameBut hs (cne y c e)⟩
    · obtain ⟨e, n, ne, nf, d⟩ := I.pin p hp
      exact ⟨(hs.2 p.1 ne).trans e, n, ne, nf, d⟩
  · have hfn : X.fn x = true := by
      rcases hf with z | z
      · exact z
      · rw [z] at hk; cases hk
    obtain ⟨c, hc⟩ := I.ok.has x (.inl hk)
    obtain ⟨w', z⟩ := I.cell x c hc
    refine wpAny_storeName_cell I.ok.kind hk hc z (fun h' hc' hs => ?_)
    obtain ⟨oc, hoc, hocd⟩ := id z
    refine h { s with heap := h' } ⟨I.ok, I.os, I.bare, ⟨fun b o e n hb hx => ?_, fun b o e n hb hx => ?_, I.base.free, fun b o e hx => ?_, I.base.tups, I.base.frzs, I.base.tbls⟩, ⟨m, hn.sameBut hs (Ne.symm (cne x c hc)), fun j y v' e1 e2 e3 => ?_⟩, fun y c' e => ?_, I.free, I.freeC, fun p hp => ?_, tracked ⟨oc, hoc, I.freeC x c hc⟩ hs, by simpa using I.len⟩ ⟨c, hs, .inr hc⟩
    · exact (hs.2 b (Nat.ne_of_lt (Nat.lt_of_lt_of_le (Heap.lt_size e) (I.ok.cab x c hfn hc)))).trans (I.base.keep b o e n hb hx)
    · obtain ⟨sl, e1⟩ := I.base.slot b o e n hb hx
      exact ⟨sl, (hs.2 b (Nat.ne_of_lt (Nat.lt_of_lt_of_le (Heap.lt_size e) (I.ok.cab x c hfn hc)))).trans e1⟩
    · obtain ⟨o', e1⟩ := I.base.there b o e hx
      exact ⟨o', (hs.2 b (Nat.ne_of_lt (Nat.lt_of_lt_of_le (Heap.lt_size e) (I.ok.cab x c hfn hc)))).trans e1⟩
    · by_cases hj : j = i
      · subst hj
        rw [hi] at e1; cases e1
        rw [List.getElem?_set_self hiσ] at e2
        cases e2
        exact ⟨u, r, .inr ⟨.inl hk, c, hc, hc'⟩⟩
      · rw [List.getElem?_set_ne (Ne.symm hj)] at e2
        obtain ⟨u', r', q⟩ := hl j y v' e1 e2 e3
        refine ⟨u', r', ?_⟩
        rcases q with q | ⟨k, c', e, z'⟩
        · exact .inl q
        · refine .inr ⟨k, c', e, z'.sameBut hs ?_⟩
          rintro rfl
          exact hj (nodup_ix hN e1 (I.ok.inj _ _ _ e hc ▸ hi))
    · by_cases hcc : c' = c
      · subst hcc; exact ⟨_, hc'⟩
      · obtain ⟨w2, z2⟩ := I.cell y c' e
        exact ⟨w2, z2.sameBut hs hcc⟩
    · obtain ⟨e, n, ne, nf, d⟩ := I.pin p hp
      refine ⟨(hs.2 p.1 ?_).trans e, n, ne, nf, d⟩
      intro q
      rw [q, hoc] at e
      have q' : oc = p.2 := Option.some.inj e
      exact d w' (by rw [← q']; exact hocd)
theorem store_ok {M : Model} {A : Around} {E : Value → Shared → Prop} {i : Nat} {x : Str} {v : V} {u : Value} {Q : Unit → Shared → Prop} (I : Inv X pins σ H s) (hN : X.N.Nodup) (hi : X.N[i]? = some x) (hx : Loc X.env.scope x) (r : RelV v u)
    (h : ∀ s', Inv X pins (σ.set i (some v)) H s' → Q () s') (hf : X.fn x = true ∨ X.env.scope.names.lookup x = some .local := by first | exact .inl rfl | exact .inr rfl | assumption) : wpAny M A (storeName X.env x u) Q E s :=
  store_ok2 I hN hi hx r (fun s' I' _ => h s' I') hf
/-- behind a call or a block, the state as it is -/
theorem Inv.call' {s' : Shared} {ch : List Addr} (I : Inv X pins σ H s) (ho : s'.os = s.os) (u : Un (frs X.stack) ch H H' s.heap s'.heap) (hok : HOk X.prog X.w H' s'.heap) (hg : AllBare s'.gens)
    (hch : ∀ b ∈ ch, (b ∈ X.ex ∨ X.s_0.heap.objs.size ≤ b) ∧ b ≠ X.env.locals ∧ (∀ x c, X.env.cells.lookup x = some c → c ≠ b) ∧ ∀ p ∈ X.pn ++ pins, p.1 ≠ b) : Inv X pins σ H' s' := by
  obtain ⟨h', g', d', t', o'⟩ := s'
  have e : o' = s.os := ho
  subst e
  exact I.call (g' := g') (t' := t') (d' := d') u hok hg hch
end

/-! ### the judgements -/
/-- an exception: its class, its own dict's address (where it has one), the abstract heap behind it -/
abbrev XK := Value → Option Addr → Hp → Prop
abbrev St := List (Option V)
abbrev VK := V → Hp → Prop
/-- an expression's reading; a test's; an argument list's -/
abbrev TE := St → Hp → VK → Prop
abbrev TT := St → Hp → (Bool → Hp → Prop) → Prop
abbrev TA := St → Hp → (List V → Hp → Prop) → Prop
/-- what is wanted behind a statement -/
structure Ends where
  nx : St → Hp → Prop
  rt : VK
  bk : St → Hp → Prop := fun _ _ => False
  ct : St → Hp → Prop := fun _ _ => False
abbrev TS := Ends → St → Hp → Prop

def EP (X : Cx) (pins : List (Addr × Obj)) (σ : St) (Q : VK) (u : Value) (s' : Shared) : Prop := ∃ v H', Inv X pins σ H' s' ∧ RelV v u ∧ Q v H'
def TP (X : Cx) (pins : List (Addr × Obj)) (σ : St) (Q : Bool → Hp → Prop) (b : Bool) (s' : Shared) : Prop := ∃ H', Inv X pins σ H' s' ∧ Q b H'
def AP (X : Cx) (pins : List (Addr × Obj)) (σ : St) (Q : List V → Hp → Prop) (us : List Value) (s' : Shared) : Prop := ∃ vs H', Inv X pins σ H' s' ∧ Vals vs us ∧ Q vs H'
def SP (X : Cx) (pins : List (Addr × Obj)) (D : Ends) (f : Flow) (s' : Shared) : Prop :=
  match f with
  | .next => ∃ σ' H', Inv X pins σ' H' s' ∧ D.nx σ' H'
  | .brk => ∃ σ' H', Inv X pins σ' H' s' ∧ D.bk σ' H'
  | .cont => ∃ σ' H', Inv X pins σ' H' s' ∧ D.ct σ' H'
  | .ret u => ∃ v σ' H', Inv X pins σ' H' s' ∧ RelV v u ∧ D.rt v H'

def PE (X : Cx) (e : Expr) (t : TE) : Prop :=
  ∀ (pins : List (Addr × Obj)) (s : Shared) (σ : St) (H : Hp) (Q : VK), Inv X pins σ H s → t σ H Q → wpAny (model X.prog X.w) X.A (eval e X.env) (EP X pins σ Q) X.xe s
def PT (X : Cx) (e : Expr) (t : TT) : Prop :=
  ∀ (pins : List (Addr × Obj)) (s : Shared) (σ : St) (H : Hp) (Q : Bool → Hp → Prop), Inv X pins σ H s → t σ H Q → wpAny (model X.prog X.w) X.A (isTrue e X.env (eval e X.env)) (TP X pins σ Q) X.xe s
/-- a test whatever its 'whole' is (and, or) -/
def PW (X : Cx) (e : Expr) (t : TT) : Prop :=
  ∀ (whole : Sem Value) (pins : List (Addr × Obj)) (s : Shared) (σ : St) (H : Hp) (Q : Bool → Hp → Prop), Inv X pins σ H s → t σ H Q → wpAny (model X.prog X.w) X.A (isTrue e X.env whole) (TP X pins σ Q) X.xe s
theorem PW.pt {X : Cx} {e : Expr} {t : TT} (h : PW X e t) : PT X e t := h _
/-- an argument list (no star), from the left -/
def PA (X : Cx) (es : List Expr) (t : TA) : Prop :=
  ∀ (pos : Pos) (pins : List (Addr × Obj)) (s : Shared) (σ : St) (H : Hp) (Q : List V → Hp → Prop), Inv X pins σ H s → t σ H Q → wpAny (model X.prog X.w) X.A (spliced (backTo pos (starEach es X.env))) (AP X pins σ Q) X.xe s
def PS (X : Cx) (st : Stmt) (t : TS) : Prop :=
  ∀ (pins : List (Addr × Obj)) (s : Shared) (σ : St) (H : Hp) (D : Ends), Inv X pins σ H s → t D σ H → wpAny (model X.prog X.w) X.A (exec st X.env) (SP X pins D) X.xe s
def PSs (X : Cx) (st : List Stmt) (t : TS) : Prop :=
  ∀ (pins : List (Addr × Obj)) (s : Shared) (σ : St) (H : Hp) (D : Ends), Inv X pins σ H s → t D σ H → wpAny (model X.prog X.w) X.A (execs st X.env) (SP X pins D) X.xe s
/-- weaken the end -/
theorem thn {α : Type} {t : Sem α} {Q Q' : α → Shared → Prop} {M : Model} {A : Around} {E : Value → Shared → Prop} {s : Shared} (h : wpAny M A t Q E s) (hQ : ∀ a s, Q a s → Q' a s) : wpAny M A t Q' E s := wpAny_mono h hQ fun _ _ x => x
end L2

namespace L2
open PySem PySem.Spec PyProof.Rows
section
variable {X : Cx}

/-- two expressions in a row -/
theorem bin {a b : Expr} {ta tb : TE} (ha : PE X a ta) (hb : PE X b tb) {pins : List (Addr × Obj)} {s : Shared} {σ : St} {H : Hp} {R : V → V → Hp → Prop} (I : Inv X pins σ H s) (h : ta σ H fun x H1 => tb σ H1 fun y H2 => R x y H2)
    {α : Type} {Q : α → Shared → Prop} {f : Value → Value → Sem α}
    (hf : ∀ v u s2 x y H2, Inv X pins σ H2 s2 → RelV x v → RelV y u → R x y H2 → wpAny (model X.prog X.w) X.A (f v u) Q X.xe s2) :
    wpAny (model X.prog X.w) X.A (eval a X.env) (fun v s₁ => wpAny (model X.prog X.w) X.A (eval b X.env) (fun u s₂ => wpAny (model X.prog X.w) X.A (f v u) Q X.xe s₂) X.xe s₁) X.xe s := by
  refine thn (ha pins s σ H _ I h) fun v s1 ⟨x, H1, I1, r1, q1⟩ => ?_
  refine thn (hb pins s1 σ H1 _ I1 q1) fun u s2 ⟨y, H2, I2, r2, q2⟩ => ?_
  exact hf v u s2 x y H2 I2 r1 r2 q2

/-! ### names and constants -/
def tVar (i : Nat) : TE := fun σ H Q => ∃ v, σ[i]? = some (some v) ∧ Q v H
def tC (v : V) : TE := fun _ H Q => Q v H
theorem pe_var {i : Nat} {x : Str} {pos : Pos} (hN : X.N[i]? = some x) (hv : Vis X.env.scope x) (hd : (x == ("__debug__" : Str)) = false := by decide) (hcd : (x == ("__classdict__" : Str)) = false := by decide) : PE X (.Name x pos) (tVar i) := by
  intro pins s σ H Q I h
  obtain ⟨v, e, h⟩ := h
  obtain ⟨m, hn, hl⟩ := I.loc
  obtain ⟨u, r, l⟩ := hl i x v hN e hv
  have fin : EP X pins σ Q u s := ⟨v, H, I, r, h⟩
  rcases l with ⟨hk, hm⟩ | ⟨hk, c, hc, hcell⟩
  · exact wpAny_Name (wpAny_loadName_local I.ok.kind hk hn hm fin) hd
  · rcases hk with hk | hk
    · exact wpAny_Name (wpAny_loadName_cell I.ok.kind hk hc hcell fin) hd
    · exact wpAny_Name (wpAny_loadName_free I.ok.kind hk hc hcell fin hcd) hd
theorem pe_int {i j pos} : PE X (.Constant (.int i) j pos) (tC (.int i)) := fun _ _ _ H _ I h => wpAny_Constant_int ⟨.int i, H, I.tok _, ⟨_, rfl⟩, h⟩
theorem pe_non {j pos} : PE X (.Constant .none j pos) (tC .non) := fun _ _ _ H _ I h => Constant_none ⟨.non, H, I, rfl, h⟩

/-- a global name of the def -/
def Gl (X : Cx) (x : Str) : Prop := X.env.kindOf x = some .globalImplicit
theorem ld_glob {E : Value → Shared → Prop} {pins : List (Addr × Obj)} {s : Shared} {σ : St} {H : Hp} {x : Str} {u : Value} {pos : Pos} {Q : Value → Shared → Prop} (I : Inv X pins σ H s) (hg : Gl X x) (hm : X.mg x = some u) (h : Q u s)
    (hd : (x == ("__debug__" : Str)) = false := by decide) : wpAny (model X.prog X.w) X.A (eval (.Name x pos) X.env) Q E s :=
  Calls.Name_function_global I.ok.kind hg (Calls.loadGlobal_global (by rw [I.ok.glob]; exact I.mod.glob.keeps I.bk) hm h) hd
theorem ld_blt {E : Value → Shared → Prop} {pins : List (Addr × Obj)} {s : Shared} {σ : St} {H : Hp} {x : Str} {u : Value} {pos : Pos} {Q : Value → Shared → Prop} (I : Inv X pins σ H s) (hg : Gl X x) (hm : X.mg x = none) (hv : bootBuiltins x = some u) (h : Q u s)
    (hn : x ≠ "__name__" := by decide) (hd : (x == ("__debug__" : Str)) = false := by decide) : wpAny (model X.prog X.w) X.A (eval (.Name x pos) X.env) Q E s := by
  obtain ⟨mb, h1, h2⟩ := I.mod.blt
  exact Calls.Name_function_global I.ok.kind hg (Calls.loadGlobal_builtin (by rw [I.ok.glob]; exact I.mod.glob.keeps I.bk) hm (by rw [I.ok.blt]; exact h1.keeps I.bk) ((h2 x hn).trans hv) h) hd
/-- a module's constant, a class, a function, as a value -/
theorem pe_glob {x : Str} {v : V} {u : Value} {pos : Pos} (hg : Gl X x) (hm : X.mg x = some u) (r : RelV v u) (hd : (x == ("__debug__" : Str)) = false := by decide) : PE X (.Name x pos) (tC v) :=
  fun _ _ _ H _ I h => ld_glob I hg hm ⟨v, H, I, r, h⟩ hd

/-! ### arithmetic -/
variable {a b : Expr} {ta tb : TE} {pos : Pos}

/-! ### comparisons -/
def PC (X : Cx) (op : CmpOp) (a b : Expr) (t : TE) : Prop :=
  ∀ (pins : List (Addr × Obj)) (s : Shared) (σ : St) (H : Hp) (Q : VK), Inv X pins σ H s → t σ H Q →
    wpAny (model X.prog X.w) X.A (eval a X.env) (fun v s₁ => wpAny (model X.prog X.w) X.A (eval b X.env) (fun u s₂ => wpAny (model X.prog X.w) X.A (compareOp op v u) (EP X pins σ Q) X.xe s₂) X.xe s₁) X.xe s
theorem nobehind (b : Expr) {op : CmpOp} (h : op ≠ .In) (h2 : op ≠ .NotIn) : behindInMarks op b = false := by
  have e1 : (op == CmpOp.In) = false := by cases op <;> first | rfl | exact absurd rfl h
  have e2 : (op == CmpOp.NotIn) = false := by cases op <;> first | rfl | exact absurd rfl h2
  cases b <;> simp [behindInMarks, e1, e2]
/-- is None -/
def tIsN (ta : TE) : TE := fun σ H Q => ta σ H fun x H1 => Q (.bl (decide (x = .non))) H1
theorem RelV.none_iff {x : V} {v : Value} (r : RelV x v) : (v == Value.none) = decide (x = .non) := by
  cases x with
  | non => cases r; rfl
  | bl _ => cases r; rfl
  | int _ => obtain ⟨t, rfl⟩ := r; rfl
  | str _ => obtain ⟨t, rfl⟩ := r; rfl
  | byt _ => obtain ⟨t, rfl⟩ := r; rfl
  | flt _ => obtain ⟨t, rfl⟩ := r; rfl
  | ref _ => cases r; rfl
  | ty _ => cases r; rfl
theorem pc_isN {j pos'} (ha : PE X a ta) : PC X .Is a (.Constant .none j pos') (tIsN ta) := by
  intro pins s σ H Q I h
  refine thn (ha pins s σ H _ I h) fun v s1 ⟨x, H1, I1, r1, q1⟩ => ?_
  exact Constant_none (is_none_gen ⟨.bl _, H1, I1, by rw [r1.none_iff]; rfl, q1⟩)
/-- a comparison as a value, as a test -/
def tB (t : TE) : TT := fun σ H Q => t σ H fun x H1 => ∃ c, x = .bl c ∧ Q c H1
theorem pt_cmp {op : CmpOp} {t : TE} (h : PC X op a b t) (h1 : behindInMarks op b = false := by first | exact nobehind _ (by decide) (by decide) | rfl) : PT X (.Compare a [op] [b] pos) (tB t) := by
  intro pins s σ H Q I hw
  refine wpAny_isTrue_Compare1 (thn (h pins s σ H _ I hw) fun v s1 h1 => thn h1 fun u s2 h2 => thn h2 fun c s3 ⟨x, H1, I1, r1, q1⟩ => ?_) h1
  obtain ⟨d, rfl, q⟩ := q1
  cases r1
  exact wpAny_truthy_bool ⟨H1, I1, q⟩
/-- an expression whose value is a bool, as a test -/
theorem pt_val {e : Expr} {t : TE} (h : PE X e t) (he : ∀ whole, isTrue e X.env whole = (do let v ← whole; standAt e.pos; holding [v] (truthy v)) := by intro _; rfl) : PT X e (tB t) := by
  intro pins s σ H Q I hw
  refine isTrue_plain (thn (h pins s σ H _ I hw) fun v s1 ⟨x, H1, I1, r1, q1⟩ => ?_) (he _)
  obtain ⟨d, rfl, q⟩ := q1
  cases r1
  exact wpAny_truthy_bool ⟨H1, I1, q⟩

/-! ### and, or, not -/
variable {tA tB' : TT} {rest : List Expr}
def tOr (t u : TT) : TT := fun σ H Q => t σ H fun c H1 => if c = true then Q true H1 else u σ H1 Q
def tNot (t : TT) : TT := fun σ H Q => t σ H fun c H1 => Q (!c) H1
theorem pw_or1 (ha : PT X a tA) : PW X (.BoolOp .Or [a] pos) tA := by
  intro wh pins s σ H Q I h
  refine isTrue_or (thn (ha pins s σ H Q I h) fun c s1 e => ?_)
  cases c with
  | false => exact isTrue_or_nil e
  | true => exact e
theorem pw_or (ha : PT X a tA) (hb : PW X (.BoolOp .Or (b :: rest) pos) tB') : PW X (.BoolOp .Or (a :: b :: rest) pos) (tOr tA tB') := by
  intro wh pins s σ H Q I h
  refine isTrue_or (thn (ha pins s σ H _ I h) fun c s1 ⟨H1, I1, q1⟩ => ?_)
  cases c with
  | true => exact ⟨H1, I1, q1⟩
  | false => exact hb wh pins s1 σ H1 Q I1 q1
theorem pt_not (ha : PT X a tA) : PT X (.UnaryOp .Not a pos) (tNot tA) := by
  intro pins s σ H Q I h
  exact isTrue_not (ha pins s σ H (fun c H1 => Q (!c) H1) I h)
/-- a if t else b -/
def tIf (t : TT) (ta tb : TE) : TE := fun σ H Q => t σ H fun c H1 => if c = true then ta σ H1 Q else tb σ H1 Q
theorem pe_ifExp {c : Expr} (hc : PT X c tA) (ha : PE X a ta) (hb : PE X b tb) : PE X (.IfExp c a b pos) (tIf tA ta tb) := by
  intro pins s σ H Q I h
  refine wpAny_IfExp (thn (hc pins s σ H _ I h) fun d s1 ⟨H1, I1, q1⟩ => ?_)
  cases d with
  | true => exact ha pins s1 σ H1 Q I1 q1
  | false => exact hb pins s1 σ H1 Q I1 q1
end
end L2

namespace L2
open PySem PySem.Spec PyProof.Rows

/-! ### a list, a tuple that is read: tracked, frozen, or an object of the module -/
def SqL (K : PySem.W.Frag) (H : Hp) (a : Addr) (xs : List V) : Prop :=
  Rd H a (.lst xs) ∨
    ∃ (o : Obj) (its : Array Value) (n : Nat), K.lookup a = some o ∧ o.cls = .type "list" ∧ o.dict = none ∧ o.data = .seq its n ∧ its.size ≤ sizeLine ∧ Vals xs its.toList
def SqT (K : PySem.W.Frag) (H : Hp) (a : Addr) (xs : List V) : Prop :=
  Rd H a (.tup xs) ∨
    ∃ (o : Obj) (its : Array Value) (n : Nat), K.lookup a = some o ∧ o.cls = .type "tuple" ∧ o.data = .seq its n ∧ its.size ≤ sizeLine ∧ Vals xs its.toList
def absV : Value → Option V
  | .none => some .non
  | .bool b => some (.bl b)
  | .int i _ => some (.int i)
  | .str x _ => some (.str x)
  | .bytes b _ => some (.byt b)
  | .float b _ => some (.flt b)
  | .ref a => some (.ref a)
  | .type n => some (.ty n)
  | _ => none
theorem RelV.abs {x : V} {u : Value} (r : RelV x u) : absV u = some x := by
  cases x with
  | non => cases r; rfl
  | bl _ => cases r; rfl
  | int _ => obtain ⟨t, rfl⟩ := r; rfl
  | str _ => obtain ⟨t, rfl⟩ := r; rfl
  | byt _ => obtain ⟨t, rfl⟩ := r; rfl
  | flt _ => obtain ⟨t, rfl⟩ := r; rfl
  | ref _ => cases r; rfl
  | ty _ => cases r; rfl
theorem RelV.inj {x y : V} {u : Value} (r : RelV x u) (q : RelV y u) : x = y := Option.some.inj (r.abs.symm.trans q.abs)
theorem Vals.inj : ∀ {xs ys : List V} {us : List Value}, Vals xs us → Vals ys us → xs = ys
  | _, _, _, .nil, .nil => rfl
  | _, _, _, .cons r t, .cons r' t' => by rw [r.inj r', Vals.inj t t']
section
variable {X : Cx} {pins : List (Addr × Obj)} {σ : St} {H : Hp} {s : Shared} {a : Addr} {xs ys : List V}
theorem SqL.of {K : PySem.W.Frag} (h : H a = some (.lst xs)) : SqL K H a xs := .inl (.inl h)
theorem SqT.of {K : PySem.W.Frag} (h : H a = some (.tup xs)) : SqT K H a xs := .inl (.inl h)
theorem Inv.list (I : Inv X pins σ H s) (h : SqL X.K H a xs) : ∃ its : List Value, Vals xs its ∧ PlainL s.heap a its.toArray ∧ xs.length ≤ sizeLine := by
  rcases h with h | ⟨o, its, n, hk, hc, hd, hs, hz, r⟩
  · obtain ⟨z, its, n, r, e⟩ := h.ok I.hok
    exact ⟨its, r, ⟨_, n, e, rfl, rfl, rfl⟩, z⟩
  · refine ⟨its.toList, r, ⟨o, n, I.kIn a o hk, hc, hd, by simpa using hs⟩, ?_⟩
    have e := r.length
    simp only [Array.length_toList] at e
    omega
theorem Inv.tuple (I : Inv X pins σ H s) (h : SqT X.K H a xs) : ∃ its : List Value, Vals xs its ∧ IsTup s.heap a its.toArray ∧ xs.length ≤ sizeLine := by
  rcases h with h | ⟨o, its, n, hk, hc, hs, hz, r⟩
  · obtain ⟨z, its, r, p⟩ := h.ok I.hok
    exact ⟨its, r, p, z⟩
  · refine ⟨its.toList, r, ⟨o, I.kIn a o hk, hc, n, by simpa using hs⟩, ?_⟩
    have e := r.length
    simp only [Array.length_toList] at e
    omega
theorem Inv.list_inj (I : Inv X pins σ H s) (h : SqL X.K H a xs) (h' : SqL X.K H a ys) : xs = ys := by
  obtain ⟨its, r, ⟨o, n, e, _, _, d⟩, _⟩ := I.list h
  obtain ⟨its', r', ⟨o', n', e', _, _, d'⟩, _⟩ := I.list h'
  rw [e] at e'; cases e'
  rw [d] at d'
  injection d' with d1 _
  have : its = its' := by simpa using congrArg Array.toList d1
  subst this
  exact r.inj r'
theorem Inv.tuple_inj (I : Inv X pins σ H s) (h : SqT X.K H a xs) (h' : SqT X.K H a ys) : xs = ys := by
  obtain ⟨its, r, ⟨o, e, _, n, d⟩, _⟩ := I.tuple h
  obtain ⟨its', r', ⟨o', e', _, n', d'⟩, _⟩ := I.tuple h'
  rw [e] at e'; cases e'
  rw [d] at d'
  injection d' with d1 _
  have : its = its' := by simpa using congrArg Array.toList d1
  subst this
  exact r.inj r'
end

/-! ### another wish about exceptions -/
abbrev Cx.wish (X : Cx) (E : Value → Shared → Prop) : Cx := { X with xe := E }
theorem Cx.Ok.wish {X : Cx} (ok : X.Ok) (E : Value → Shared → Prop) : (X.wish E).Ok :=
  ⟨ok.mod, ok.kind, ok.glob, ok.blt, ok.above, ok.inj, ok.has, ok.cab, ok.hd, ok.frames, ok.stk, ok.exf, ok.bs, ok.bsz, ok.noex, ok.exfs, ok.funs, ok.frf⟩
theorem Cx.Ok.unwish {X : Cx} {E : Value → Shared → Prop} (ok : (X.wish E).Ok) : X.Ok :=
  ⟨ok.mod, ok.kind, ok.glob, ok.blt, ok.above, ok.inj, ok.has, ok.cab, ok.hd, ok.frames, ok.stk, ok.exf, ok.bs, ok.bsz, ok.noex, ok.exfs, ok.funs, ok.frf⟩
section
variable {X : Cx} {pins : List (Addr × Obj)} {σ : St} {H : Hp} {s : Shared} {E : Value → Shared → Prop}
theorem Inv.wish (I : Inv X pins σ H s) (E : Value → Shared → Prop) : Inv (X.wish E) pins σ H s := ⟨I.ok.wish E, I.os, I.bare, I.base, I.loc, I.cell, I.free, I.freeC, I.pin, I.hok, I.len⟩
theorem Inv.unwish (I : Inv (X.wish E) pins σ H s) : Inv X pins σ H s := ⟨I.ok.unwish, I.os, I.bare, I.base, I.loc, I.cell, I.free, I.freeC, I.pin, I.hok, I.len⟩
end

/-! ### blocks and small statements -/
section
variable {X : Cx} {st : Stmt} {rest : List Stmt} {t u : TS} {e : Expr} {te : TE} {pos : Pos}
def tNext : TS := fun D σ H => D.nx σ H
def tSeq (t u : TS) : TS := fun D σ H => t { D with nx := u D } σ H
theorem pss_nil : PSs X [] tNext := fun _ _ σ H _ I h => wpAny_execs_nil ⟨σ, H, I, h⟩
theorem pss_cons (h1 : PS X st t) (h2 : PSs X rest u) : PSs X (st :: rest) (tSeq t u) := by
  intro pins s σ H D I h
  refine wpAny_execs_cons (thn (h1 pins s σ H { D with nx := u D } I h) fun f s1 q => ?_)
  cases f with
  | next =>
    obtain ⟨σ', H', I', q⟩ := q
    exact h2 pins s1 σ' H' D I' q
  | ret v => exact q
  | brk => exact q
  | cont => exact q
theorem pss_one (h1 : PS X st t) : PSs X [st] t := by
  intro pins s σ H D I h
  refine wpAny_execs_cons (thn (h1 pins s σ H D I h) fun f s1 q => ?_)
  cases f with
  | next => exact wpAny_execs_nil q
  | ret v => exact q
  | brk => exact q
  | cont => exact q
/-- in a def's body nothing is shown -/
theorem Inv.quiet {pins : List (Addr × Obj)} {σ : St} {H : Hp} {s : Shared} (I : Inv X pins σ H s) : interactive X.env = false := by simp [interactive, I.ok.kind]
/-- an expression whose value is dropped -/
def tDrop (te : TE) : TS := fun D σ H => te σ H fun _ H1 => D.nx σ H1
theorem ps_expr (he : PE X e te) (hs : swapsWith e none pos.line X.env = pure false := by rfl) : PS X (.Expr e pos) (tDrop te) := by
  intro pins s σ H D I h
  exact wpAny_Expr_any (thn (he pins s σ H _ I h) fun v s1 ⟨x, H1, I1, r1, q1⟩ => ⟨σ, H1, I1, q1⟩) I.quiet hs
def tRet (te : TE) : TS := fun D σ H => te σ H D.rt
theorem ps_ret (he : PE X e te) : PS X (.Return (some e) pos) (tRet te) := by
  intro pins s σ H D I h
  exact wpAny_Return_some (thn (he pins s σ H _ I h) fun v s1 ⟨x, H1, I1, r1, q1⟩ => ⟨x, σ, H1, I1, r1, q1⟩)
def tIfS (c : TT) (t u : TS) : TS := fun D σ H => c σ H fun b H1 => if b = true then t D σ H1 else u D σ H1
theorem ps_if {c : Expr} {a b : List Stmt} {tc : TT} (hc : PT X c tc) (ha : PSs X a t) (hb : PSs X b u) : PS X (.If c a b pos) (tIfS tc t u) := by
  intro pins s σ H D I h
  refine wpAny_If (thn (hc pins s σ H _ I h) fun d s1 ⟨H1, I1, q1⟩ => ?_)
  cases d with
  | true => exact ha pins s1 σ H1 D I1 q1
  | false => exact hb pins s1 σ H1 D I1 q1
end

/-! ### targets -/
abbrev TG := V → St → Hp → (St → Hp → Prop) → Prop
def PG (X : Cx) (target : Expr) (t : TG) : Prop :=
  ∀ (pins : List (Addr × Obj)) (s : Shared) (σ : St) (H : Hp) (v : V) (u : Value) (Q : St → Hp → Prop), Inv X pins σ H s → RelV v u → t v σ H Q →
    wpAny (model X.prog X.w) X.A (assign target X.env u) (fun _ s' => ∃ σ' H', Inv X pins σ' H' s' ∧ Q σ' H') X.xe s
/-- a op= b, by values -/
abbrev TIp := V → V → Hp → VK → Prop
def PIp (X : Cx) (op : Operator) (t : TIp) : Prop :=
  ∀ (pins : List (Addr × Obj)) (s : Shared) (σ : St) (H : Hp) (x y : V) (v u : Value) (Q : VK), Inv X pins σ H s → RelV x v → RelV y u → t x y H Q →
    wpAny (model X.prog X.w) X.A (inplaceOp op v u) (EP X pins σ Q) X.xe s
section
variable {X : Cx} {pos : Pos}
def gName (i : Nat) : TG := fun v σ H Q => Q (σ.set i (some v)) H
theorem pg_name {i : Nat} {x : Str} (hN : X.N.Nodup) (hi : X.N[i]? = some x) (hx : Loc X.env.scope x) (hf : X.fn x = true ∨ X.env.scope.names.lookup x = some .local := by first | exact .inl rfl | exact .inr rfl | assumption) : PG X (.Name x pos) (gName i) := by
  intro pins s σ H v u Q I r h
  exact wpAny_assign_Name (store_ok I hN hi hx r (fun s' I' => ⟨_, H, I', h⟩) hf)
/-- target = value -/
def tAsg (te : TE) (g : TG) : TS := fun D σ H => te σ H fun x H1 => g x σ H1 D.nx
/-- name = value -/
theorem ps_set {i : Nat} {x : Str} {e : Expr} {te : TE} {pos' : Pos} (hN : X.N.Nodup) (hi : X.N[i]? = some x) (hx : Loc X.env.scope x) (he : PE X e te) (hs : swapsWith e (some (.Name x pos')) pos.line X.env = pure false := by rfl) (hf : X.fn x = true ∨ X.env.scope.names.lookup x = some .local := by first | exact .inl rfl | exact .inr rfl | assumption) :
    PS X (.Assign [.Name x pos'] e pos) (tAsg te (gName i)) := by
  intro pins s σ H D I h
  refine wpAny_Assign_Name (thn (he pins s σ H _ I h) fun v s1 ⟨y, H1, I1, r1, q1⟩ => ?_) hs
  exact store_ok I1 hN hi hx r1 (fun s2 I2 => ⟨_, H1, I2, q1⟩) hf
/-- name op= e -/
def tAug (i : Nat) (te : TE) (ti : TIp) : TS := fun D σ H => ∃ x, σ[i]? = some (some x) ∧ te σ H fun y H1 => ti x y H1 fun z H2 => D.nx (σ.set i (some z)) H2
theorem ps_aug {i : Nat} {x : Str} {e : Expr} {te : TE} {op : Operator} {ti : TIp} {pos' : Pos} (hN : X.N.Nodup) (hi : X.N[i]? = some x) (hx : Loc X.env.scope x) (he : PE X e te) (ho : PIp X op ti) (hf : X.fn x = true ∨ X.env.scope.names.lookup x = some .local := by first | exact .inl rfl | exact .inr rfl | assumption) :
    PS X (.AugAssign (.Name x pos') op e pos) (tAug i te ti) := by
  intro pins s σ H D I h
  obtain ⟨v, e1, h⟩ := h
  obtain ⟨m, hn, hl⟩ := I.loc
  have vis : Vis X.env.scope x := by rcases hx with k | k; exact .inl k; exact .inr (.inl k)
  obtain ⟨u, r, l⟩ := hl i x v hi e1 vis
  refine wpAny_AugAssign_Name ?_
  have go : wpAny (model X.prog X.w) X.A (eval e X.env) (fun w s₂ => wpAny (model X.prog X.w) X.A (inplaceOp op u w) (fun r s₃ => wpAny (model X.prog X.w) X.A (storeName X.env x r) (fun _ => SP X pins D .next) X.xe s₃) X.xe s₂) X.xe s := by
    refine thn (he pins s σ H _ I h) fun w s1 ⟨y, H1, I1, r1, q1⟩ => ?_
    refine thn (ho pins s1 σ H1 v y u w _ I1 r r1 q1) fun z s2 ⟨zv, H2, I2, r2, q2⟩ => ?_
    exact store_ok I2 hN hi hx r2 (fun s3 I3 => ⟨_, H2, I3, q2⟩) hf
  rcases l with ⟨hk, hm⟩ | ⟨hk, c, hc, hcell⟩
  · exact wpAny_loadName_local I.ok.kind hk hn hm go
  · rcases hk with hk | hk
    · exact wpAny_loadName_cell I.ok.kind hk hc hcell go
    · rcases hx with k | k
      · have : X.env.scope.names.lookup x = some .free := hk
        rw [k] at this; cases this
      · have : X.env.scope.names.lookup x = some .free := hk
        rw [k] at this; cases this
/-- ints -/
def ipI (f : Int → Int → Int) : TIp := fun x y H Q => ∃ i j, x = .int i ∧ y = .int j ∧ Q (.int (f i j)) H
theorem ip_add : PIp X .Add (ipI fun i j => i + j) := by
  intro pins s σ H x y v u Q I r1 r2 h
  obtain ⟨i, j, e1, e2, q⟩ := h
  subst e1; subst e2
  obtain ⟨t, rfl⟩ := r1
  obtain ⟨t', rfl⟩ := r2
  exact iadd_int ⟨.int _, H, I.tok _, ⟨_, rfl⟩, q⟩
end

/-! ### while -/
section
variable {X : Cx} {pos : Pos}
/-- the invariant W with its measure -/
def tWhile (c : TT) (tb : TS) : TS := fun D σ H => ∃ W : Nat → St → Hp → Prop, (∃ m, W m σ H) ∧ ∀ m σ H, W m σ H →
  c σ H fun b H1 => if b = true then ∃ N : St → Hp → Prop, (∀ σ' H', N σ' H' → ∃ m', m' < m ∧ W m' σ' H') ∧ tb { D with nx := N, ct := N, bk := D.nx } σ H1 else D.nx σ H1
theorem ps_while {c : Expr} {body : List Stmt} {tc : TT} {tb : TS} (hp : PassesOwn (model X.prog X.w) X.A X.env X.xe) (hc : PT X c tc) (hb : PSs X body tb) : PS X (.While c body [] pos) (tWhile tc tb) := by
  intro pins s σ H D I h
  obtain ⟨W, ⟨m0, w0⟩, turn⟩ := h
  refine wpAny_While (codeAny_whileLoop (fun n s' => ∃ σ' H', Inv X pins σ' H' s' ∧ W n σ' H') ?_ m0 ⟨σ, H, I, w0⟩)
  rintro n s1 ⟨σ1, H1, I1, w1⟩
  refine wpAny_passesOwn hp (thn (hc pins s1 σ1 H1 _ I1 (turn n σ1 H1 w1)) fun b s2 ⟨H2, I2, q2⟩ => ?_)
  cases b with
  | true =>
    obtain ⟨N, hN, q2⟩ := q2
    rw [if_pos rfl]
    refine wpAny_passesOwn hp (thn (hb pins s2 σ1 H2 _ I2 q2) fun f s3 q3 => ?_)
    cases f with
    | next =>
      obtain ⟨σ3, H3, I3, n3⟩ := q3
      obtain ⟨m', hm, w3⟩ := hN σ3 H3 n3
      exact ⟨m', hm, σ3, H3, I3, w3⟩
    | cont =>
      obtain ⟨σ3, H3, I3, n3⟩ := q3
      obtain ⟨m', hm, w3⟩ := hN σ3 H3 n3
      exact ⟨m', hm, σ3, H3, I3, w3⟩
    | brk => exact q3
    | ret v => exact q3
  | false =>
    rw [if_neg Bool.false_ne_true]
    exact wpAny_execs_nil ⟨σ1, H2, I2, q2⟩
end

/-! ### what a loop or a comprehension walks -/
/-- at turn i: it yields x (the heap may grow), or it stops -/
structure It where
  go : Nat → Hp → Prop
  yld : Nat → Hp → V → Hp → Prop
  stop : Nat → Hp → Prop
/-- the iterator's own objects may turn: they are not the frame's, not pinned, younger than the entry (or a comprehension's own) -/
def FpOk (X : Cx) (pins : List (Addr × Obj)) (H : Hp) (b : Addr) : Prop :=
  H b = none ∧ b ≠ X.env.locals ∧ b ∉ X.fs ∧ (b ∈ X.ex ∨ X.s_0.heap.objs.size ≤ b) ∧ (∀ x c, X.env.cells.lookup x = some c → c ≠ b) ∧ ∀ p ∈ X.pn ++ pins, p.1 ≠ b
theorem Inv.fpOk {X : Cx} {pins : List (Addr × Obj)} {σ : St} {H H' : Hp} {s : Shared} {b : Addr} (I : Inv X pins σ H s) (hb : s.heap.objs.size ≤ b) (hn : H' b = none) : FpOk X pins H' b := by
  refine ⟨hn, Nat.ne_of_gt (Nat.lt_of_lt_of_le I.lt hb), I.nofs hb, .inr (Nat.le_trans I.sz hb), fun x c e z => ?_, fun p hp z => ?_⟩
  · obtain ⟨v, q⟩ := I.cell x c e
    exact absurd (Nat.lt_of_lt_of_le q.lt (by rw [z]; exact hb)) (Nat.lt_irrefl _)
  · exact absurd (Nat.lt_of_lt_of_le (Heap.lt_size (I.pin p hp).1) (by rw [z]; exact hb)) (Nat.lt_irrefl _)
structure Turn (P : Program) (w : World) (K : PySem.W.Frag) (tg : Expr) (J : It) (fp : List Addr) (it : Addr) (tn : Nat → Heap → Prop) : Prop where
  mem : it ∈ fp
  obj : ∀ i h, tn i h → ∀ b ∈ fp, ∃ o, h.get? b = some o ∧ ∀ v, o.data ≠ .cell v
  keep : ∀ i h h', tn i h → (∀ b ∈ fp, ∀ o, h.get? b = some o → h'.get? b = some o) → tn i h'
  item : ∀ (X : Cx), X.prog = P → X.w = w → X.K = K → X.calm = true → ∀ (i : Nat) (pins : List (Addr × Obj)) (s : Shared) (σ : St) (H : Hp) (E : Value → Shared → Prop), Inv X pins σ H s → (∀ b ∈ fp, FpOk X pins H b) → tn i s.heap → J.go i H →
    wpAny (model P w) X.A (pyNext (.ref it)) (fun r s1 => ∃ u, r = some u ∧
      wpAny (model P w) X.A (letOwnedTupleGo tg (.ref it) u) (fun _ s2 => ∃ x H', Inv X pins σ H' s2 ∧ RelV x u ∧ J.yld i H x H' ∧ tn (i + 1) s2.heap ∧ ∀ b ∈ fp, H' b = none) E s1) E s
  done : ∀ (X : Cx), X.prog = P → X.w = w → X.K = K → X.calm = true → ∀ (i : Nat) (pins : List (Addr × Obj)) (s : Shared) (σ : St) (H : Hp) (E : Value → Shared → Prop), Inv X pins σ H s → (∀ b ∈ fp, FpOk X pins H b) → tn i s.heap → J.stop i H →
    wpAny (model P w) X.A (pyNext (.ref it)) (fun r s1 => r = none ∧ Inv X pins σ H s1) E s
  self : ∀ (A : Around) (i : Nat) (s : Shared) (Q : Value → Shared → Prop) (E : Value → Shared → Prop), tn i s.heap → Q (.ref it) s → wpAny (model P w) A (pyIter (.ref it)) Q E s
abbrev TI := St → Hp → (It → Hp → Prop) → Prop
/-- an iterator has come -/
def PIE (X : Cx) (pins : List (Addr × Obj)) (σ : St) (tg : Expr) (R : It → Hp → Prop) (itv : Value) (s2 : Shared) : Prop :=
  ∃ (it : Addr) (fp : List Addr) (tn : Nat → Heap → Prop) (J : It) (H' : Hp), itv = .ref it ∧ Inv X pins σ H' s2 ∧ Turn X.prog X.w X.K tg J fp it tn ∧ tn 0 s2.heap ∧ (∀ b ∈ fp, FpOk X pins H' b) ∧ R J H'
def PI (X : Cx) (tg iter : Expr) (wi : TI) : Prop :=
  ∀ (pins : List (Addr × Obj)) (s : Shared) (σ : St) (H : Hp) (R : It → Hp → Prop), Inv X pins σ H s → wi σ H R →
    wpAny (model X.prog X.w) X.A (eval iter X.env) (fun v s1 => wpAny (model X.prog X.w) X.A (pyIter v) (PIE X pins σ tg R) X.xe s1) X.xe s

/-- the step ahead of the store is nothing for an iterator that keeps no tuple -/
theorem go_of {M : Model} {A : Around} {E : Value → Shared → Prop} {s : Shared} {tg : Expr} {it : Addr} {u : Value} {o : Obj} {n : String} {vs : Array Value} {Q : Unit → Shared → Prop} (ho : s.heap.get? it = some o) (hc : o.cls = .type n) (hd : o.data = .fields vs)
    (hn : ["enumerate", "zip", "dict_itemiterator", "dict_reverseitemiterator", "odict_iterator", "itertools.zip_longest", "itertools.pairwise"].contains n = false) (hQ : Q () s) : wpAny M A (letOwnedTupleGo tg (.ref it) u) Q E s := by
  unfold letOwnedTupleGo
  cases tg <;> first
    | exact wpAny_pure hQ
    | (cases u <;> first
        | exact wpAny_pure hQ
        | (refine wpAny_bind (wpAny_load ho ?_)
           rw [hc, hd]
           show wpAny M A (if (["enumerate", "zip", "dict_itemiterator", "dict_reverseitemiterator", "odict_iterator", "itertools.zip_longest", "itertools.pairwise"].contains n && vs[0]? == some (rawInt _)) = true then _ else _) Q E s
           rw [if_neg (by intro h; rw [hn, Bool.false_and] at h; cases h)]
           exact wpAny_pure hQ))

/-- the list at a, as it stands at each turn (a loop may append to it) -/
def Itl (K : PySem.W.Frag) (a : Addr) : It :=
  ⟨fun i H => ∃ xs x, SqL K H a xs ∧ xs[i]? = some x, fun i H x H' => H' = H ∧ ∀ xs, SqL K H a xs → xs[i]? = some x, fun i H => ∃ xs, SqL K H a xs ∧ xs.length ≤ i⟩
/-- lo, lo + 1, .. (n of them) -/
def Itr (lo : Int) (n : Nat) : It := ⟨fun i _ => i < n, fun i H x H' => H' = H ∧ x = .int (lo + i), fun i _ => n ≤ i⟩
theorem turn_list {P : Program} {w : World} {K : PySem.W.Frag} {tg : Expr} (a it : Addr) : Turn P w K tg (Itl K a) [it] it (fun i h => h.IsListIter it a i) where
  mem := by simp
  obj := fun i h st b hb => by
    have e : b = it := by simpa using hb
    subst e
    obtain ⟨o, e, c, d⟩ := st
    exact ⟨o, e, fun v z => by rw [d] at z; cases z⟩
  keep := fun i h h' st k => st.at fun o e => k it (by simp) o e
  item := by
    intro X hP hw hK hc i pins s σ H E I hf st hg
    subst hP hw hK
    obtain ⟨xs, x, hq, hx⟩ := hg
    obtain ⟨its, rv, p, hz⟩ := I.list hq
    obtain ⟨u, hu, ru⟩ := rv.get hx
    obtain ⟨f0, f1, f2, f3, f4, f5⟩ := hf it (by simp)
    refine wpAny_pyNext_list_item st p.isList (x := u) (by simpa using hu) fun h' st' sb => ?_
    have I1 : Inv X pins σ H { s with heap := h' } := I.turned (t' := s.toks) (fun b o hb e => (sb.2 b hb).trans e) f0 f1 f3 f4 f5
    obtain ⟨o, e, c, d⟩ := id st'
    exact ⟨u, rfl, go_of (s := { s with heap := h' }) e c d (by decide) ⟨x, H, I1, ru, ⟨rfl, fun ys hy => by rw [I.list_inj hy hq]; exact hx⟩, st', fun b hb => (hf b hb).1⟩⟩
  done := by
    intro X hP hw hK hc i pins s σ H E I hf st hg
    subst hP hw hK
    obtain ⟨xs, hq, hx⟩ := hg
    obtain ⟨its, rv, p, hz⟩ := I.list hq
    obtain ⟨f0, f1, f2, f3, f4, f5⟩ := hf it (by simp)
    have hl := rv.length
    exact wpAny_pyNext_list_end (I.ok.hd hc) st p.isList (by simp; omega) fun h' eb => ⟨rfl, I.turned (t' := s.toks) (fun b o hb e => eb b o hb e) f0 f1 f3 f4 f5⟩
  self := fun _ _ _ _ _ st h => wpAny_pyIter_listiter st h
theorem turn_range {P : Program} {w : World} {K : PySem.W.Frag} {tg : Expr} (it : Addr) (lo : Int) (n : Nat) : Turn P w K tg (Itr lo n) [it] it (fun i h => IsRangeIter h it (lo + (i : Nat) * 1) ((n : Int) - (i : Nat)) 1) where
  mem := by simp
  obj := fun i h st b hb => by
    have e : b = it := by simpa using hb
    subst e
    exact ⟨_, st, fun v z => by
      have z' : Data.fields _ = Data.cell v := z
      cases z'⟩
  keep := fun i h h' st k => k it (by simp) _ st
  item := by
    intro X hP hw hK hc i pins s σ H E I hf st hg
    subst hP hw hK
    obtain ⟨f0, f1, f2, f3, f4, f5⟩ := hf it (by simp)
    have W := Walks.range (prog := X.prog) (w := X.w) (I.ok.hd hc) it lo 1 n
    refine W.item i s _ _ hg st fun v h' tk hv st' kk => ?_
    obtain ⟨t, rfl⟩ := hv
    have I1 : Inv X pins σ H { s with heap := h', toks := tk } := I.turned (fun b o hb e => kk b o (by simpa using hb) e) f0 f1 f3 f4 f5
    refine ⟨_, rfl, go_of (s := { s with heap := h', toks := tk }) (n := "range_iterator") st' rfl rfl (by decide) ⟨.int (lo + i), H, I1, ⟨t, ?_⟩, ⟨rfl, rfl⟩, st', fun b hb => (hf b hb).1⟩⟩
    rw [Int.mul_one]
  done := by
    intro X hP hw hK hc i pins s σ H E I hf st hg
    subst hP hw hK
    obtain ⟨f0, f1, f2, f3, f4, f5⟩ := hf it (by simp)
    exact wpAny_pyNext_range_end (I.ok.hd hc) st (by have : n ≤ i := hg; omega) fun h' eb => ⟨rfl, I.turned (t' := s.toks) (fun b o hb e => eb b o hb e) f0 f1 f3 f4 f5⟩
  self := fun _ _ _ _ _ st h => wpAny_pyIter_rangeiter st h
end L2

namespace L2
open PySem PySem.Spec PyProof.Rows
section
variable {X : Cx} {tg : Expr}
def iList (K : PySem.W.Frag) (tl : TE) : TI := fun σ H R => tl σ H fun x H1 => ∃ a, x = .ref a ∧ (∃ xs, SqL K H1 a xs) ∧ R (Itl K a) H1
theorem pi_list {l : Expr} {tl : TE} (hl : PE X l tl) : PI X tg l (iList X.K tl) := by
  intro pins s σ H R I h
  refine thn (hl pins s σ H _ I h) fun v s1 ⟨x, H1, I1, r1, q1⟩ => ?_
  obtain ⟨a, e, ⟨xs, hq⟩, q⟩ := q1
  subst e
  cases r1
  obtain ⟨its, rv, p, hz⟩ := I1.list hq
  refine wpAny_pyIter_list p.isList ?_
  refine ⟨s1.heap.objs.size, [s1.heap.objs.size], _, _, H1, rfl, I1.kept (t' := s1.toks) fun b o e => Heap.get?_push_of_some _ e, turn_list a _, ⟨_, Heap.get?_push_size _ rfl, rfl, rfl⟩, fun b hb => ?_, q⟩
  have e : b = s1.heap.objs.size := by simpa using hb
  subst e
  exact I1.fpOk (Nat.le_refl _) (I1.hok.fresh (Nat.le_refl _))
/-- a range object just made, walked -/
theorem range_it {pins : List (Addr × Obj)} {σ : St} {H : Hp} {s : Shared} {R : It → Hp → Prop} {E : Value → Shared → Prop} {lo hi : Int} {t u v : Tok} {tk : Nat} (I : Inv X pins σ H s) (h1 : -(2 ^ 62) ≤ lo) (h2 : lo < 2 ^ 62) (h3 : -(2 ^ 62) ≤ hi) (h4 : hi < 2 ^ 62)
    (q : R (Itr lo (hi - lo).toNat) H) : wpAny (model X.prog X.w) X.A (pyIter (.ref s.heap.objs.size)) (PIE X pins σ tg R) E { s with heap := s.heap.push { cls := .type "range", data := .fields #[.int lo t, .int hi u, .int 1 v] }, toks := tk } := by
  refine wpAny_pyIter_range (IsRange.new ..) (small_one h1 h2 h3 h4) ?_
  have I1 : Inv X pins σ H { s with heap := s.heap.push { cls := .type "range", data := .fields #[.int lo t, .int hi u, .int 1 v] }, toks := tk } := I.kept fun b o e => Heap.get?_push_of_some _ e
  refine ⟨(s.heap.push { cls := .type "range", data := .fields #[.int lo t, .int hi u, .int 1 v] }).objs.size, [(s.heap.push { cls := .type "range", data := .fields #[.int lo t, .int hi u, .int 1 v] }).objs.size], _, _, H, rfl,
    I1.kept (t' := tk) fun b o e => Heap.get?_push_of_some _ e, turn_range _ lo (hi - lo).toNat, ?_, fun b hb => ?_, q⟩
  · have e1 : lo + ((0 : Nat) : Int) * 1 = lo := by simp
    have e2 : (((hi - lo).toNat : Nat) : Int) - ((0 : Nat) : Int) = Builtin.Range.rangeSize lo hi 1 := by rw [rangeSize_one]; split <;> omega
    show IsRangeIter _ _ (lo + ((0 : Nat) : Int) * 1) ((((hi - lo).toNat : Nat) : Int) - ((0 : Nat) : Int)) 1
    rw [e1, e2]
    exact Heap.get?_push_size _ rfl
  · have e : b = (s.heap.push { cls := .type "range", data := .fields #[.int lo t, .int hi u, .int 1 v] }).objs.size := by simpa using hb
    subst e
    exact I1.fpOk (Nat.le_refl _) (I1.hok.fresh (Nat.le_refl _))
def iRng2 (ta : TA) : TI := fun σ H R => ta σ H fun vs H1 => ∃ i j : Int, vs = [.int i, .int j] ∧ (-(2 ^ 62) ≤ i ∧ i < 2 ^ 62 ∧ -(2 ^ 62) ≤ j ∧ j < 2 ^ 62) ∧ R (Itr i (j - i).toNat) H1
theorem pi_range2 {a b : Expr} {ta : TA} {p pos : Pos} (hg : Gl X "range") (hm : X.mg "range" = none) (ha : PA X [a, b] ta) (hs : starEach [a, b] X.env = [(false, eval a X.env), (false, eval b X.env)] := by rfl) (hs2 : starEach [b] X.env = [(false, eval b X.env)] := by rfl) :
    PI X tg (.Call (.Name "range" p) [a, b] [] pos) (iRng2 ta) := by
  intro pins s σ H R I h
  refine Call_ (ld_blt I hg hm boot_range (PyProof.Rows.callWith_type1 (thn (ha pos pins s σ H _ I h) fun us s1 ⟨vs, H1, I1, r1, q1⟩ => ?_) (by rw [hs, hs2]) (by rw [hs2]; rfl)))
  obtain ⟨i, j, e, ⟨q1, q2, q3, q4⟩, q⟩ := q1
  subst e
  cases r1 with
  | cons r rr =>
    cases rr with
    | cons r' rr =>
      cases rr
      obtain ⟨t, rfl⟩ := r
      obtain ⟨t', rfl⟩ := r'
      exact call_range_2 (range_it I1 q1 q2 q3 q4 q)

/-! ### for -/
/-- W: the invariant by the turn and a measure; N: what the body is to reach -/
def tFor (wi : TI) (g : TG) (tb : TS) : TS := fun D σ H => wi σ H fun J H1 => ∃ W : Nat → Nat → St → Hp → Prop, (∃ m, W 0 m σ H1) ∧ ∀ i m σ H, W i m σ H →
  (J.stop i H ∧ D.nx σ H) ∨ (J.go i H ∧ ∃ N : St → Hp → Prop, (∀ σ' H', N σ' H' → ∃ m', m' < m ∧ W (i + 1) m' σ' H') ∧ ∀ x H', J.yld i H x H' → g x σ H' fun σ2 H2 => tb { D with nx := N, ct := N, bk := D.nx } σ2 H2)
/-- the records at fp as they stand -/
def pinsAt (fp : List Addr) (h : Heap) : List (Addr × Obj) := fp.filterMap fun b => (h.get? b).map fun o => (b, o)
theorem mem_pinsAt {fp : List Addr} {h : Heap} {b : Addr} {o : Obj} (hb : b ∈ fp) (e : h.get? b = some o) : (b, o) ∈ pinsAt fp h := List.mem_filterMap.mpr ⟨b, hb, by rw [e]; rfl⟩
theorem of_pinsAt {fp : List Addr} {h : Heap} {p : Addr × Obj} (hp : p ∈ pinsAt fp h) : p.1 ∈ fp ∧ h.get? p.1 = some p.2 := by
  obtain ⟨b, hb, e⟩ := List.mem_filterMap.mp hp
  cases q : h.get? b with
  | none => rw [q] at e; cases e
  | some o =>
    rw [q] at e
    have e' : (b, o) = p := Option.some.inj e
    subst e'
    exact ⟨hb, q⟩
theorem Inv.pinned {pins : List (Addr × Obj)} {σ : St} {H : Hp} {s : Shared} {fp : List Addr} (I : Inv X pins σ H s) (hf : ∀ b ∈ fp, FpOk X pins H b) (ho : ∀ b ∈ fp, ∃ o, s.heap.get? b = some o ∧ ∀ v, o.data ≠ .cell v) : Inv X (pins ++ pinsAt fp s.heap) σ H s :=
  I.pins_of fun p hp => (List.mem_append.mp hp).elim (fun z => I.pin p (List.mem_append_right _ z)) fun z => by
    obtain ⟨hb, e⟩ := of_pinsAt z
    obtain ⟨f0, f1, f2, _⟩ := hf p.1 hb
    obtain ⟨o, e', d⟩ := ho p.1 hb
    rw [e] at e'; cases e'
    exact ⟨e, f0, f1, f2, d⟩
theorem Inv.unpinned {pins pl : List (Addr × Obj)} {σ : St} {H : Hp} {s : Shared} (I : Inv X (pins ++ pl) σ H s) : Inv X pins σ H s := I.pins_of fun p hp => I.pin p (List.mem_append_right _ (List.mem_append_left _ hp))
theorem ps_for {iter : Expr} {body : List Stmt} {wi : TI} {g : TG} {tb : TS} {pos : Pos} (hp : PassesOwn (model X.prog X.w) X.A X.env X.xe) (hc : X.calm = true) (hi : PI X tg iter wi) (hg : PG X tg g) (hb : PSs X body tb)
    (hs : ∀ x, foldedSetIterable iter X.env x = pure x := by intro _; rfl) : PS X (.For tg iter body [] pos) (tFor wi g tb) := by
  intro pins s σ H D I h
  refine wpAny_For (thn (hi pins s σ H _ I h) fun v s1 h1 => thn h1 fun itv s2 h2 => ?_) hs
  obtain ⟨it, fp, tn, J, H2, e, I2, T, st2, f2, W, ⟨m0, w0⟩, turn⟩ := h2
  subst e
  -- what stays true of the iterator's objects through the loop
  have stat : ∀ {H' : Hp}, (∀ b ∈ fp, H' b = none) → ∀ b ∈ fp, FpOk X pins H' b := fun hn b hb => ⟨hn b hb, (f2 b hb).2⟩
  refine codeAny_forLoop_any (fun n s' => ∃ i σ' H', Inv X pins σ' H' s' ∧ tn i s'.heap ∧ (∀ b ∈ fp, H' b = none) ∧ W i n σ' H') ?_ m0 ⟨0, σ, H2, I2, st2, fun b hb => (f2 b hb).1, w0⟩
  rintro n s3 ⟨i, σ3, H3, I3, st3, fr3, w3⟩
  rcases turn i n σ3 H3 w3 with ⟨stop, qn⟩ | ⟨go, N, hN, step⟩
  · refine wpAny_passesOwn hp (thn (T.done X rfl rfl rfl hc i pins s3 σ3 H3 X.xe I3 (stat fr3) st3 stop) fun r s4 ⟨hr, I4⟩ => ?_)
    subst hr
    exact wpAny_execs_nil ⟨σ3, H3, I4, qn⟩
  · refine wpAny_passesOwn hp (thn (T.item X rfl rfl rfl hc i pins s3 σ3 H3 X.xe I3 (stat fr3) st3 go) fun r s4 ⟨u, hr, h4⟩ => ?_)
    subst hr
    refine wpAny_passesOwn hp (thn h4 fun _ s5 ⟨x, H5, I5, r5, y5, st5, fr5⟩ => ?_)
    have I5' := I5.pinned (stat fr5) (T.obj _ _ st5)
    refine wpAny_passesOwn hp (thn (hg _ s5 σ3 H5 x u _ I5' r5 (step x H5 y5)) fun _ s6 ⟨σ6, H6, I6, q6⟩ => ?_)
    refine wpAny_passesOwn hp (thn (hb _ s6 σ6 H6 _ I6 q6) fun f s7 q7 => ?_)
    have again : ∀ {σ7 : St} {H7 : Hp}, Inv X (pins ++ pinsAt fp s5.heap) σ7 H7 s7 → N σ7 H7 → ∃ m, m < n ∧ ∃ i σ' H', Inv X pins σ' H' s7 ∧ tn i s7.heap ∧ (∀ b ∈ fp, H' b = none) ∧ W i m σ' H' := fun {σ7 H7} I7 n7 => by
      obtain ⟨m', hm, w7⟩ := hN σ7 H7 n7
      refine ⟨m', hm, i + 1, σ7, H7, I7.unpinned, T.keep _ _ _ st5 fun b hb o e => (I7.pin (b, o) (List.mem_append_right _ (List.mem_append_right _ (mem_pinsAt hb e)))).1, fun b hb => ?_, w7⟩
      obtain ⟨o, e, d⟩ := T.obj _ _ st5 b hb
      exact (I7.pin (b, o) (List.mem_append_right _ (List.mem_append_right _ (mem_pinsAt hb e)))).2.1
    cases f with
    | next => obtain ⟨σ7, H7, I7, n7⟩ := q7; exact again I7 n7
    | cont => obtain ⟨σ7, H7, I7, n7⟩ := q7; exact again I7 n7
    | brk => obtain ⟨σ7, H7, I7, q7⟩ := q7; exact ⟨σ7, H7, I7.unpinned, q7⟩
    | ret v => obtain ⟨x7, σ7, H7, I7, r7, q7⟩ := q7; exact ⟨x7, σ7, H7, I7.unpinned, r7, q7⟩
end

/-! ### the forms one uses -/
/-- over a list that the body leaves as it is -/
theorem for_list {K : PySem.W.Frag} {a : Addr} {xs : List V} {g : TG} {tb : TS} {D : Ends} {σ : St} {H : Hp} (Pv : Nat → St → Hp → Prop) (h0 : Pv 0 σ H) (hl : ∀ i σ H, i ≤ xs.length → Pv i σ H → SqL K H a xs)
    (hs : ∀ i x σ H, xs[i]? = some x → Pv i σ H → g x σ H fun σ2 H2 => tb { D with nx := Pv (i + 1), ct := Pv (i + 1), bk := D.nx } σ2 H2) (hd : ∀ σ H, Pv xs.length σ H → D.nx σ H) :
    ∃ W : Nat → Nat → St → Hp → Prop, (∃ m, W 0 m σ H) ∧ ∀ i m σ H, W i m σ H →
      ((Itl K a).stop i H ∧ D.nx σ H) ∨ ((Itl K a).go i H ∧ ∃ N : St → Hp → Prop, (∀ σ' H', N σ' H' → ∃ m', m' < m ∧ W (i + 1) m' σ' H') ∧ ∀ x H', (Itl K a).yld i H x H' → g x σ H' fun σ2 H2 => tb { D with nx := N, ct := N, bk := D.nx } σ2 H2) := by
  refine ⟨fun i m σ H => m = xs.length - i ∧ i ≤ xs.length ∧ Pv i σ H, ⟨xs.length, by simp, Nat.zero_le _, h0⟩, ?_⟩
  rintro i m σ H ⟨rfl, hi, p⟩
  have q := hl i σ H hi p
  by_cases hlt : i < xs.length
  · refine .inr ⟨⟨xs, xs[i], q, by simp [hlt]⟩, Pv (i + 1), fun σ' H' p' => ⟨xs.length - (i + 1), by omega, rfl, hlt, p'⟩, fun x H' y => ?_⟩
    obtain ⟨e, y⟩ := y
    subst e
    exact hs i x σ _ (y xs q) p
  · have e : i = xs.length := by omega
    subst e
    exact .inl ⟨⟨xs, q, Nat.le_refl _⟩, hd σ H p⟩
theorem for_range {lo : Int} {n : Nat} {g : TG} {tb : TS} {D : Ends} {σ : St} {H : Hp} (Pv : Nat → St → Hp → Prop) (h0 : Pv 0 σ H)
    (hs : ∀ i σ H, i < n → Pv i σ H → g (.int (lo + i)) σ H fun σ2 H2 => tb { D with nx := Pv (i + 1), ct := Pv (i + 1), bk := D.nx } σ2 H2) (hd : ∀ σ H, Pv n σ H → D.nx σ H) :
    ∃ W : Nat → Nat → St → Hp → Prop, (∃ m, W 0 m σ H) ∧ ∀ i m σ H, W i m σ H →
      ((Itr lo n).stop i H ∧ D.nx σ H) ∨ ((Itr lo n).go i H ∧ ∃ N : St → Hp → Prop, (∀ σ' H', N σ' H' → ∃ m', m' < m ∧ W (i + 1) m' σ' H') ∧ ∀ x H', (Itr lo n).yld i H x H' → g x σ H' fun σ2 H2 => tb { D with nx := N, ct := N, bk := D.nx } σ2 H2) := by
  refine ⟨fun i m σ H => m = n - i ∧ i ≤ n ∧ Pv i σ H, ⟨n, by simp, Nat.zero_le _, h0⟩, ?_⟩
  rintro i m σ H ⟨rfl, hi, p⟩
  by_cases hlt : i < n
  · refine .inr ⟨hlt, Pv (i + 1), fun σ' H' p' => ⟨n - (i + 1), by omega, rfl, hlt, p'⟩, fun x H' y => ?_⟩
    obtain ⟨e, y⟩ := y
    subst e y
    exact hs i σ _ hlt p
  · have e : i = n := by omega
    subst e
    exact .inl ⟨Nat.le_refl _, hd σ H p⟩
end L2

namespace L2
open PySem PySem.Spec PyProof.Rows

abbrev R2 := V → V → Hp → VK → Prop
/-- a two-place operation on values: f is binaryOp op, inplaceOp op or compareOp op -/
def OpR (X : Cx) (f : Value → Value → Sem Value) (r : R2) : Prop :=
  ∀ (pins : List (Addr × Obj)) (s : Shared) (σ : St) (H : Hp) (x y : V) (v u : Value) (Q : VK), Inv X pins σ H s → RelV x v → RelV y u → r x y H Q →
    wpAny (model X.prog X.w) X.A (f v u) (EP X pins σ Q) X.xe s
/-- a one-place operation -/
def UnR (X : Cx) (f : Value → Sem Value) (r : V → Hp → VK → Prop) : Prop :=
  ∀ (pins : List (Addr × Obj)) (s : Shared) (σ : St) (H : Hp) (x : V) (v : Value) (Q : VK), Inv X pins σ H s → RelV x v → r x H Q →
    wpAny (model X.prog X.w) X.A (f v) (EP X pins σ Q) X.xe s
/-- a call of a value that is known (a builtin, a type) with values -/
def CallR (X : Cx) (f : Value) (r : List V → Hp → VK → Prop) : Prop :=
  ∀ (pins : List (Addr × Obj)) (s : Shared) (σ : St) (H : Hp) (xs : List V) (us : List Value) (Q : VK), Inv X pins σ H s → Vals xs us → r xs H Q →
    wpAny (model X.prog X.w) X.A (call f us) (EP X pins σ Q) X.xe s
/-- a value's truth -/
def TruR (X : Cx) (r : V → Hp → (Bool → Hp → Prop) → Prop) : Prop :=
  ∀ (pins : List (Addr × Obj)) (s : Shared) (σ : St) (H : Hp) (x : V) (v : Value) (Q : Bool → Hp → Prop), Inv X pins σ H s → RelV x v → r x H Q →
    wpAny (model X.prog X.w) X.A (truthy v) (TP X pins σ Q) X.xe s

def tOp (r : R2) (ta tb : TE) : TE := fun σ H Q => ta σ H fun x H1 => tb σ H1 fun y H2 => r x y H2 Q
def tUn (r : V → Hp → VK → Prop) (ta : TE) : TE := fun σ H Q => ta σ H fun x H1 => r x H1 Q
/-- ints in, under C, and a value out -/
def rI (C : Int → Int → Prop) (g : Int → Int → V) : R2 := fun x y H Q => ∃ i j, x = .int i ∧ y = .int j ∧ C i j ∧ Q (g i j) H
def rI0 (g : Int → Int → V) : R2 := fun x y H Q => ∃ i j, x = .int i ∧ y = .int j ∧ Q (g i j) H
def rU (g : Int → V) : V → Hp → VK → Prop := fun x H Q => ∃ i, x = .int i ∧ Q (g i) H

section
variable {X : Cx} {a b c : Expr} {ta tb tc : TE} {pos : Pos}

theorem binT (ha : PE X a ta) (hb : PE X b tb) {pins : List (Addr × Obj)} {s : Shared} {σ : St} {H : Hp} {R : V → V → Hp → Prop} (I : Inv X pins σ H s)
    (h : ta σ H fun x H1 => tb σ H1 fun y H2 => R x y H2) {Q : Value → Shared → Prop} {f : Value → Value → Sem Value}
    (hf : ∀ v u s2 x y H2, Inv X pins σ H2 s2 → RelV x v → RelV y u → R x y H2 → wpAny (model X.prog X.w) X.A (f v u) Q X.xe s2) :
    wpAny (model X.prog X.w) X.A (eval a X.env) (fun v s₁ => wpAny (model X.prog X.w) X.A (eval b X.env) (fun u s₂ => wpAny (model X.prog X.w) X.A (f v u) Q X.xe s₂) X.xe s₁) X.xe s := by
  refine thn (ha pins s σ H _ I h) fun v s1 ⟨x, H1, I1, r1, q1⟩ => ?_
  refine thn (hb pins s1 σ H1 _ I1 q1) fun u s2 ⟨y, H2, I2, r2, q2⟩ => ?_
  exact hf v u s2 x y H2 I2 r1 r2 q2

theorem pe_op {op : Operator} {r : R2} (ho : OpR X (binaryOp op) r) (ha : PE X a ta) (hb : PE X b tb) : PE X (.BinOp a op b pos) (tOp r ta tb) := by
  intro pins s σ H Q I h
  exact wpAny_BinOp (binT ha hb I h fun v u s2 x y H2 I2 rx ry q => ho pins s2 σ H2 x y v u Q I2 rx ry q)
theorem pe_un {op : UnaryOp} {r : V → Hp → VK → Prop} (ho : UnR X (unaryOp op) r) (ha : PE X a ta) : PE X (.UnaryOp op a pos) (tUn r ta) := by
  intro pins s σ H Q I h
  exact UnaryOp_ (thn (ha pins s σ H _ I h) fun v s1 ⟨x, H1, I1, r1, q1⟩ => ho pins s1 σ H1 x v Q I1 r1 q1)

/-! ### ints -/
theorem opI {f : Value → Value → Sem Value} {C : Int → Int → Prop} {g : Int → Int → Int}
    (rule : ∀ (i j : Int) (t u : Tok) (s : Shared) (Q : Value → Shared → Prop) (E : Value → Shared → Prop), C i j → Q (.int (g i j) s.toks) { s with toks := s.toks + 1 } → wpAny (model X.prog X.w) X.A (f (.int i t) (.int j u)) Q E s) :
    OpR X f (rI C fun i j => .int (g i j)) := by
  intro pins s σ H x y v u Q I rx ry h
  obtain ⟨i, j, rfl, rfl, hc, q⟩ := h
  obtain ⟨t, rfl⟩ := rx
  obtain ⟨t', rfl⟩ := ry
  exact rule i j t t' s _ _ hc ⟨.int (g i j), H, I.tok _, ⟨_, rfl⟩, q⟩
theorem opI0 {f : Value → Value → Sem Value} {g : Int → Int → Int}
    (rule : ∀ (i j : Int) (t u : Tok) (s : Shared) (Q : Value → Shared → Prop) (E : Value → Shared → Prop), Q (.int (g i j) s.toks) { s with toks := s.toks + 1 } → wpAny (model X.prog X.w) X.A (f (.int i t) (.int j u)) Q E s) :
    OpR X f (rI0 fun i j => .int (g i j)) := by
  intro pins s σ H x y v u Q I rx ry h
  obtain ⟨i, j, rfl, rfl, q⟩ := h
  obtain ⟨t, rfl⟩ := rx
  obtain ⟨t', rfl⟩ := ry
  exact rule i j t t' s _ _ ⟨.int (g i j), H, I.tok _, ⟨_, rfl⟩, q⟩
theorem opB0 {f : Value → Value → Sem Value} {g : Int → Int → Bool}
    (rule : ∀ (i j : Int) (t u : Tok) (s : Shared) (Q : Value → Shared → Prop) (E : Value → Shared → Prop), Q (.bool (g i j)) s → wpAny (model X.prog X.w) X.A (f (.int i t) (.int j u)) Q E s) :
    OpR X f (rI0 fun i j => .bl (g i j)) := by
  intro pins s σ H x y v u Q I rx ry h
  obtain ⟨i, j, rfl, rfl, q⟩ := h
  obtain ⟨t, rfl⟩ := rx
  obtain ⟨t', rfl⟩ := ry
  exact rule i j t t' s _ _ ⟨.bl (g i j), H, I, rfl, q⟩

def CDiv (i j : Int) : Prop := 0 < j ∧ j < 1073741824
def CMul (i j : Int) : Prop := (-(2 ^ 64) < i ∧ i < 2 ^ 64) ∨ (-(2 ^ 64) < j ∧ j < 2 ^ 64)
theorem CMul.ok {i j : Int} (h : CMul i j) : IntMulOk i j := by
  rcases h with ⟨h1, h2⟩ | ⟨h1, h2⟩
  · exact .of_left (intBits_le_64 h1 h2)
  · exact .of_right (intBits_le_64 h1 h2)
theorem two_pow_nn (k : Nat) : (0 : Int) ≤ 2 ^ k := by
  rw [two_pow_cast]
  exact Int.natCast_nonneg _

theorem op_add : OpR X (binaryOp .Add) (rI0 fun i j => .int (i + j)) := opI0 fun _ _ _ _ _ _ _ q => add_int q
theorem op_sub : OpR X (binaryOp .Sub) (rI0 fun i j => .int (i - j)) := opI0 fun _ _ _ _ _ _ _ q => sub_int q
theorem op_mul : OpR X (binaryOp .Mult) (rI CMul fun i j => .int (i * j)) := opI fun _ _ _ _ _ _ _ hc q => mul_int q hc.ok
/-- // by a positive divisor -/
theorem op_fdiv : OpR X (binaryOp .FloorDiv) (rI CDiv fun i j => .int (i / j)) := opI fun i j _ _ _ _ _ hc q => by
  have h1 : (0 : Int) < j := hc.1
  have h2 : j < 1073741824 := hc.2
  exact floordiv_int (by omega) (by rw [Int.fdiv_eq_ediv_of_nonneg i (by omega)]; exact q) (.inl (PyProof.noPylong_small (by omega)))
/-- % by a positive divisor of any size -/
theorem op_mod : OpR X (binaryOp .Mod) (rI (fun _ j => 0 < j) fun i j => .int (i % j)) := opI fun i j _ _ _ _ _ hc q => by
  have h1 : (0 : Int) < j := hc
  exact mod_int' (by omega) (by rw [Int.fmod_eq_emod_of_nonneg i (by omega)]; exact q)
theorem op_shr : OpR X (binaryOp .RShift) (rI (fun _ j => 0 ≤ j) fun i j => .int (i / 2 ^ j.toNat)) := opI fun i j _ _ _ _ _ hc q =>
  rshift_int hc (by rw [Int.fdiv_eq_ediv_of_nonneg i (two_pow_nn _)]; exact q)
theorem op_and : OpR X (binaryOp .BitAnd) (rI0 fun i j => .int (Builtin.bitAnd i j)) := opI0 fun _ _ _ _ _ _ _ q => and_int q

theorem unI {f : Value → Sem Value} {g : Int → Int}
    (rule : ∀ (i : Int) (t : Tok) (s : Shared) (Q : Value → Shared → Prop) (E : Value → Shared → Prop), Q (.int (g i) s.toks) { s with toks := s.toks + 1 } → wpAny (model X.prog X.w) X.A (f (.int i t)) Q E s) :
    UnR X f (rU fun i => .int (g i)) := by
  intro pins s σ H x v Q I rx h
  obtain ⟨i, rfl, q⟩ := h
  obtain ⟨t, rfl⟩ := rx
  exact rule i t s _ _ ⟨.int (g i), H, I.tok _, ⟨_, rfl⟩, q⟩
theorem un_neg : UnR X (unaryOp .USub) (rU fun i => .int (-i)) := unI fun _ _ _ _ _ q => neg_int q

/-! ### bools among ints: n += (a < b) -/
end

/-! ### comparisons -/
/-- the scalars that == tells apart as data does -/
def scal : V → V → Bool
  | .non, .non => true | .non, .int _ => true | .int _, .non => true | .non, .bl _ => true | .bl _, .non => true | .non, .str _ => true | .str _, .non => true
  | .int _, .int _ => true | .bl _, .bl _ => true | .str _, .str _ => true | .byt _, .byt _ => true
  | .int _, .str _ => true | .str _, .int _ => true | .bl _, .str _ => true | .str _, .bl _ => true
  | _, _ => false
def rEq : R2 := fun x y H Q => scal x y = true ∧ Q (.bl (decide (x = y))) H
def rNe : R2 := fun x y H Q => scal x y = true ∧ Q (.bl (!decide (x = y))) H

theorem dec_int {i j : Int} : decide (V.int i = V.int j) = (i == j) := by
  rw [Bool.eq_iff_iff]
  simp
theorem dec_bl {i j : Bool} : decide (V.bl i = V.bl j) = (i == j) := by
  rw [Bool.eq_iff_iff]
  simp
theorem dec_str {i j : Str} : decide (V.str i = V.str j) = (i == j) := by
  rw [Bool.eq_iff_iff]
  simp
theorem dec_byt {i j : Array UInt8} : decide (V.byt i = V.byt j) = (i.toList == j.toList) := by
  rw [Bool.eq_iff_iff]
  cases i
  cases j
  simp

section
variable {X : Cx} {a b c : Expr} {ta tb tc : TE} {pos : Pos}
theorem fin_bl {pins : List (Addr × Obj)} {σ : St} {H : Hp} {s : Shared} {Q : VK} {k k' : Bool} (I : Inv X pins σ H s) (q : Q (.bl k) H) (e : k = k') : EP X pins σ Q (.bool k') s := by
  subst e
  exact ⟨.bl k, H, I, rfl, q⟩
theorem op_eq : OpR X (compareOp .Eq) rEq := by
  intro pins s σ H x y v u Q I rx ry h
  obtain ⟨hs, q⟩ := h
  cases x with
  | non =>
    cases rx
    cases y with
    | non => cases ry; exact PySem.EqNone.eq_none_none (fin_bl I q (by simp))
    | bl j => cases ry; exact PySem.EqNone.eq_none_bool (fin_bl I q (by simp))
    | int j => obtain ⟨t', rfl⟩ := ry; exact PySem.EqNone.eq_none_int (fin_bl I q (by simp))
    | str j => obtain ⟨t', rfl⟩ := ry; exact PySem.EqNone.eq_none_str (fin_bl I q (by simp))
    | _ => exact absurd (show false = true from hs) Bool.false_ne_true
  | bl i =>
    cases rx
    cases y with
    | non => cases ry; exact PySem.EqNone.eq_bool_none (fin_bl I q (by simp))
    | bl j => cases ry; exact eq_bool (fin_bl I q dec_bl)
    | str j => obtain ⟨t', rfl⟩ := ry; exact PySem.EqMixed.eq_bool_str (fin_bl I q (by simp))
    | _ => exact absurd (show false = true from hs) Bool.false_ne_true
  | int i =>
    obtain ⟨t, rfl⟩ := rx
    cases y with
    | non => cases ry; exact PySem.EqNone.eq_int_none (fin_bl I q (by simp))
    | int j => obtain ⟨t', rfl⟩ := ry; exact eq_int (fin_bl I q dec_int)
    | str j => obtain ⟨t', rfl⟩ := ry; exact PySem.EqMixed.eq_int_str (fin_bl I q (by simp))
    | _ => exact absurd (show false = true from hs) Bool.false_ne_true
  | str i =>
    obtain ⟨t, rfl⟩ := rx
    cases y with
    | non => cases ry; exact PySem.EqNone.eq_str_none (fin_bl I q (by simp))
    | bl j => cases ry; exact PySem.EqMixed.eq_str_bool (fin_bl I q (by simp))
    | int j => obtain ⟨t', rfl⟩ := ry; exact PySem.EqMixed.eq_str_int (fin_bl I q (by simp))
    | str j => obtain ⟨t', rfl⟩ := ry; exact eq_str (fin_bl I q dec_str)
    | _ => exact absurd (show false = true from hs) Bool.false_ne_true
  | byt i =>
    obtain ⟨t, rfl⟩ := rx
    cases y with
    | byt j => obtain ⟨t', rfl⟩ := ry; exact PySem.W.eq_bytes (fin_bl I q dec_byt)
    | _ => exact absurd (show false = true from hs) Bool.false_ne_true
  | _ => cases y <;> exact absurd (show false = true from hs) Bool.false_ne_true
theorem op_ne : OpR X (compareOp .NotEq) rNe := by
  intro pins s σ H x y v u Q I rx ry h
  obtain ⟨hs, q⟩ := h
  cases x with
  | non =>
    cases rx
    cases y with
    | non => cases ry; exact PySem.EqNone.ne_none_none (fin_bl I q (by simp))
    | bl j => cases ry; exact PySem.EqNone.ne_none_bool (fin_bl I q (by simp))
    | int j => obtain ⟨t', rfl⟩ := ry; exact PySem.EqNone.ne_none_int (fin_bl I q (by simp))
    | str j => obtain ⟨t', rfl⟩ := ry; exact PySem.EqNone.ne_none_str (fin_bl I q (by simp))
    | _ => exact absurd (show false = true from hs) Bool.false_ne_true
  | bl i =>
    cases rx
    cases y with
    | non => cases ry; exact PySem.EqNone.ne_bool_none (fin_bl I q (by simp))
    | bl j => cases ry; exact ne_bool (fin_bl I q (congrArg not dec_bl))
    | str j => obtain ⟨t', rfl⟩ := ry; exact PySem.EqMixed.ne_bool_str (fin_bl I q (by simp))
    | _ => exact absurd (show false = true from hs) Bool.false_ne_true
  | int i =>
    obtain ⟨t, rfl⟩ := rx
    cases y with
    | non => cases ry; exact PySem.EqNone.ne_int_none (fin_bl I q (by simp))
    | int j => obtain ⟨t', rfl⟩ := ry; exact ne_int (fin_bl I q (congrArg not dec_int))
    | str j => obtain ⟨t', rfl⟩ := ry; exact PySem.EqMixed.ne_int_str (fin_bl I q (by simp))
    | _ => exact absurd (show false = true from hs) Bool.false_ne_true
  | str i =>
    obtain ⟨t, rfl⟩ := rx
    cases y with
    | non => cases ry; exact PySem.EqNone.ne_str_none (fin_bl I q (by simp))
    | bl j => cases ry; exact PySem.EqMixed.ne_str_bool (fin_bl I q (by simp))
    | int j => obtain ⟨t', rfl⟩ := ry; exact PySem.EqMixed.ne_str_int (fin_bl I q (by simp))
    | str j => obtain ⟨t', rfl⟩ := ry; exact ne_str (fin_bl I q (congrArg not dec_str))
    | _ => exact absurd (show false = true from hs) Bool.false_ne_true
  | byt i =>
    obtain ⟨t, rfl⟩ := rx
    cases y with
    | byt j => obtain ⟨t', rfl⟩ := ry; exact PySem.W.ne_bytes (fin_bl I q (congrArg not dec_byt))
    | _ => exact absurd (show false = true from hs) Bool.false_ne_true
  | _ => cases y <;> exact absurd (show false = true from hs) Bool.false_ne_true

theorem op_lt : OpR X (compareOp .Lt) (rI0 fun i j => .bl (decide (i < j))) := opB0 fun _ _ _ _ _ _ _ q => lt_int q
theorem op_gt : OpR X (compareOp .Gt) (rI0 fun i j => .bl (decide (j < i))) := opB0 fun _ _ _ _ _ _ _ q => gt_int q
theorem op_ge : OpR X (compareOp .GtE) (rI0 fun i j => .bl (decide (j ≤ i))) := opB0 fun _ _ _ _ _ _ _ q => ge_int q

theorem nomark (b : Expr) {op : CmpOp} (h : op ≠ .In := by decide) (h2 : op ≠ .NotIn := by decide) : behindInMarks op b = false := by
  have e1 : (op == CmpOp.In) = false := by cases op <;> first | rfl | exact absurd rfl h
  have e2 : (op == CmpOp.NotIn) = false := by cases op <;> first | rfl | exact absurd rfl h2
  cases b <;> simp [behindInMarks, e1, e2]
/-- a comparison as a value; hm: nomark b, or (for in, not in) by with_unfolding_all rfl -/
theorem pe_cmpR {op : CmpOp} {r : R2} (ho : OpR X (compareOp op) r) (ha : PE X a ta) (hb : PE X b tb) (hm : behindInMarks op b = false) : PE X (.Compare a [op] [b] pos) (tOp r ta tb) := by
  intro pins s σ H Q I h
  exact wpAny_Compare1 (binT ha hb I h fun v u s2 x y H2 I2 rx ry q => ho pins s2 σ H2 x y v u Q I2 rx ry q) hm
/-- a reading of a value as a test -/
def tTest (t : TE) : TT := fun σ H Q => t σ H fun x H' => ∃ k, x = .bl k ∧ Q k H'
theorem pt_cmpR {op : CmpOp} {r : R2} (ho : OpR X (compareOp op) r) (ha : PE X a ta) (hb : PE X b tb) (hm : behindInMarks op b = false) : PT X (.Compare a [op] [b] pos) (tTest (tOp r ta tb)) := by
  intro pins s σ H Q I h
  refine wpAny_isTrue_Compare1 (thn (ha pins s σ H _ I h) fun v s1 ⟨x, H1, I1, r1, q1⟩ => thn (hb pins s1 σ H1 _ I1 q1) fun u s2 ⟨y, H2, I2, r2, q2⟩ =>
    thn (ho pins s2 σ H2 x y v u _ I2 r1 r2 q2) fun c s3 ⟨z, H3, I3, r3, k, e, q3⟩ => ?_) hm
  subst e
  cases r3
  exact wpAny_truthy_bool ⟨H3, I3, q3⟩

/-! ### truth -/
/-- a value's truth by the abstract heap -/
def TruV (K : PySem.W.Frag) (x : V) (H : Hp) (k : Bool) : Prop :=
  match x with
  | .non => k = false
  | .bl b => k = b
  | .int i => k = (i != 0)
  | .str y => y.length ≤ sizeLine ∧ k = ((y.length : Int) != 0)
  | .byt y => y.size ≤ sizeLine ∧ k = ((y.size : Int) != 0)
  | .ref p => (∃ xs, SqL K H p xs ∧ k = !xs.isEmpty) ∨ (∃ xs, SqT K H p xs ∧ k = !xs.isEmpty) ∨ ∃ kvs, H p = some (.dK kvs) ∧ k = !kvs.isEmpty
  | _ => False
theorem isEmpty_kv {κ : Type} {kvs : List (κ × V)} {vs : List (κ × Value)} (r : KV kvs vs) : (!vs.isEmpty) = !kvs.isEmpty := by
  cases r <;> rfl
theorem isEmpty_of {xs : List V} {its : List Value} (r : Vals xs its) : (!its.toArray.isEmpty) = !xs.isEmpty := by
  cases r <;> simp
theorem line63 : (sizeLine : Nat) < 2 ^ 63 := by rw [sizeLine_eq]; decide
theorem tru_ok : TruR X (fun x H Q => ∃ k, TruV X.K x H k ∧ Q k H) := by
  intro pins s σ H x v Q I rx h
  obtain ⟨k, e, q⟩ := h
  have hl := line63
  have hs : sizeLine = 16777216 := sizeLine_eq
  cases x with
  | non =>
    cases rx
    have e' : k = false := e
    subst e'
    exact truthy_none ⟨H, I, q⟩
  | bl b =>
    cases rx
    have e' : k = b := e
    subst e'
    exact wpAny_truthy_bool ⟨H, I, q⟩
  | int i =>
    obtain ⟨t, rfl⟩ := rx
    have e' : k = (i != 0) := e
    subst e'
    exact PySem.P.truthy_int ⟨H, I, q⟩
  | str y =>
    obtain ⟨t, rfl⟩ := rx
    obtain ⟨hy, e'⟩ : y.length ≤ sizeLine ∧ k = ((y.length : Int) != 0) := e
    subst e'
    exact PySem.P.truthy_str (by omega) ⟨H, I.tok _, q⟩
  | byt y =>
    obtain ⟨t, rfl⟩ := rx
    obtain ⟨hy, e'⟩ : y.size ≤ sizeLine ∧ k = ((y.size : Int) != 0) := e
    subst e'
    exact PySem.W.truthy_bytes (by omega) ⟨H, I.tok _, q⟩
  | ref p =>
    cases rx
    have e' : (∃ xs, SqL X.K H p xs ∧ k = !xs.isEmpty) ∨ (∃ xs, SqT X.K H p xs ∧ k = !xs.isEmpty) ∨ ∃ kvs, H p = some (.dK kvs) ∧ k = !kvs.isEmpty := e
    rcases e' with ⟨xs, hx, e'⟩ | ⟨xs, hx, e'⟩ | ⟨kvs, hx, e'⟩
    · subst e'
      obtain ⟨its, r, pl, hz⟩ := I.list hx
      have hlen := r.length
      exact wpAny_truthy_list pl.isList (by simp only [List.size_toArray]; omega) ⟨H, I.tok _, by rw [isEmpty_of r]; exact q⟩
    · subst e'
      obtain ⟨its, r, pl, hz⟩ := I.tuple hx
      have hlen := r.length
      exact truthy_tuple pl (by simp only [List.size_toArray]; omega) ⟨H, I.tok _, by rw [isEmpty_of r]; exact q⟩
    · subst e'
      obtain ⟨hz, hS, vs, r, m⟩ : kvs.length ≤ sizeLine ∧ (p == sysModules) = false ∧ ∃ vs, KV kvs vs ∧ s.heap.DictOf (mixKind X.prog X.w) p vs := I.hok p _ hx
      have hlen : kvs.length = vs.length := Paired.length r
      exact wpAny_truthy_dict hS m (by omega) ⟨H, I.tok _, by rw [isEmpty_kv r]; exact q⟩
  | _ => exact (show False from e).elim
/-- any expression whose test is its value's truth (a name, a call, a subscript, a field ..: he by fun _ => rfl) -/
theorem pt_truth (ha : PE X a ta) (he : ∀ whole, isTrue a X.env whole = (do let v ← whole; standAt a.pos; holding [v] (truthy v))) :
    PT X a (fun σ H Q => ta σ H fun x H' => ∃ k, TruV X.K x H' k ∧ Q k H') := by
  intro pins s σ H Q I h
  exact isTrue_plain (thn (ha pins s σ H _ I h) fun v s1 ⟨x, H1, I1, r1, q1⟩ => tru_ok pins s1 σ H1 x v Q I1 r1 q1) (he _)

/-! ### strs and bytes -/

/-! ### scalar builtins, by CallR -/
theorem vals1 {x : V} {us : List Value} (r : Vals [x] us) : ∃ u, us = [u] ∧ RelV x u := by
  cases r with
  | cons r1 r2 => cases r2; exact ⟨_, rfl, r1⟩
end
end L2

namespace L2
open PySem PySem.Spec PyProof.Rows

/-! ### an instance, its attributes a map -/
structure ObjM (h : Heap) (x dx C : Addr) (mA : Str → Option Value) : Prop where
  obj : h.get? x = some (PySem.W.instObj C dx)
  ns : h.Ns1 dx mA
  ne : dx ≠ x

theorem lookIn_ns {h : Heap} {dx : Addr} {mA : Str → Option Value} (n : h.Ns1 dx mA) : ∃ od, h.get? dx = some od ∧ ∀ name, PySem.W.lookIn name od = some (mA name) := by
  obtain ⟨o, es, ep, ho, hd, hk, _, hm⟩ := n
  refine ⟨o, ho, fun name => ?_⟩
  have e := hm name
  unfold nsFind findBy at e
  rw [← Array.find?_toList] at e
  unfold PySem.W.lookIn
  rw [hd]
  dsimp only
  split
  · rename_i y q
    rw [q] at e
    exact congrArg some e
  · rename_i q
    rw [q] at e
    have a : es.toList.any (·.refKey) = false := by
      rw [List.any_eq_false]
      intro y hy
      obtain ⟨z, t, hkey⟩ := hk y (Array.mem_toList_iff.mp hy)
      simp [DictEntry.refKey, hkey]
    have a' : ¬ es.toList.any (·.refKey) = true := by rw [a]; exact Bool.false_ne_true
    rw [if_neg a']
    exact congrArg some e

theorem ObjM.look {h : Heap} {x dx C : Addr} {mA : Str → Option Value} (I : ObjM h x dx C mA) : ∃ od, PySem.W.InstAt h x (PySem.W.instObj C dx) C (some od) ∧ ∀ name, PySem.W.lookIn name od = some (mA name) :=
  let ⟨od, ho, hl⟩ := lookIn_ns I.ns
  ⟨od, ⟨I.obj, rfl, rfl, ho⟩, hl⟩

section
variable {prog : Program} {w : World} {A : Around} {E : Value → Shared → Prop} {s : Shared} {K : PySem.W.Frag} {x dx C f : Addr} {mA : Str → Option Value} {name : Str} {v : Value}

theorem get_map {expr : Bool} {Q : Value → Shared → Prop} (X : K.In s.heap) (I : ObjM s.heap x dx C mA) (hg : PySem.W.plainGet K C name = true) (hh : PySem.W.hasDictIn K C = true)
    (ha : PySem.W.findIn K (.ref C) name = some none) (hv : mA name = some v) (hv' : PySem.W.handedIn v = true) (h : Q v { s with toks := s.toks + 1 }) :
    wpAny (model prog w) A (getAttr (.ref x) name expr) Q E s := by
  obtain ⟨od, J, hl⟩ := I.look
  exact PySem.W.get_value X J (PySem.W.plainGet_of hg).1 (PySem.W.findObj_own hh ha rfl (by rw [hl, hv])) hv' h

theorem get_meth {pl : Sem Bool} {Q : Value × List Value → Shared → Prop} (X : K.In s.heap) (I : ObjM s.heap x dx C mA) (hg : PySem.W.plainGet K C name = true)
    (hf : PySem.W.findIn K (.ref C) name = some (some (.ref f))) (ht : PySem.W.isFn K (.ref f) = true) (hv : mA name = none) (h : Q (.ref f, [.ref x]) s) :
    wpAny (model prog w) A (getMethod (.ref x) name pl) Q E s := by
  obtain ⟨od, J, hl⟩ := I.look
  exact PySem.W.method_fn X J (PySem.W.plainGet_of hg).1 (PySem.W.plainGet_of hg).2 hf (beq_iff_eq.mp ht) (by show (PySem.W.lookIn name od).map (·.isSome) = some false; rw [hl, hv]; rfl) h

theorem set_map {ns : List Str} {Q : Unit → Shared → Prop} (X : K.In s.heap) (I : ObjM s.heap x dx C mA)
    (hs : PySem.W.findIn K (.ref C) "__setattr__" = some (some (.builtin "object.__setattr__"))) (hp : PySem.W.plainOver K C = true) (ht : PySem.W.takerIn K C name = some none) (hh : PySem.W.hasDictIn K C = true)
    (hw : PySem.Within mA ns) (hsz : ns.length ≤ sizeLine)
    (h : ∀ h', ObjM h' x dx C (fun y => if y = name then some v else mA y) → Heap.SameBut dx s.heap h' → Q () { s with heap := h', toks := s.toks + 2 }) :
    wpAny (model prog w) A (setAttr (.ref x) name v) Q E s := by
  obtain ⟨od, J, hl⟩ := I.look
  refine PySem.W.set_plain X J hs (PySem.W.osa_open (s := { s with toks := s.toks + 1 }) (r := none) X J hp ht fun b => ?_)
  obtain ⟨cd, hc, hd'⟩ := PySem.W.any_some hh
  have hx : s.heap.get? x = some ⟨.ref C, some dx, .plain, #[]⟩ := I.obj
  refine wpAny_bind (wpAny_pure (wpAny_bind (wpAny_bind (wpAny_loadPart hx (wpAny_bind (PySem.W.Looks.here (s := { s with toks := s.toks + 1 }) (PySem.W.looks_clsIn X hc) ?_))))))
  rw [hd']
  refine wpAny_pure (a := some dx) (wpAny_bind (wpAny_pure (wpAny_bind ?_)))
  refine wpAny_nsSet1 (s := { s with toks := s.toks + 1 }) I.ns fun h' hn2 hs2 => ?_
  obtain ⟨oD, esD, epD, hoD, hdD, hcD⟩ := hn2.count (PySem.Within.cons name v hw)
  refine wpAny_bind (wpAny_lookBehind hoD (by rw [hdD]; exact pastItsLine_dict (Nat.le_trans hcD (by rw [List.length_cons]; omega))) ?_)
  exact wpAny_pure (h _ ⟨(hs2.2 _ (Ne.symm I.ne)).trans I.obj, hn2, I.ne⟩ hs2)

/-- C(..): the dict at the heap's end, the instance behind it; then its __init__ -/
theorem make_map {R : Result → Shared → Prop} {vs : List Value} {kw : List (Str × Value)} (X : K.In s.heap) (hm : PySem.W.makesIn K C = true)
    (hi : PySem.W.findIn K (.ref C) "__init__" = some (some (.ref f))) (hf : PySem.W.typeIn K (.ref f) = some (.type "function"))
    (h : codeAny (model prog w) (A.under (.builtin "type.__call__" ⟨.ref C :: vs, kw⟩)) (.call (.ref f) ⟨.ref (s.heap.objs.size + 1) :: vs, kw⟩) (PySem.W.InitBack (s.heap.objs.size + 1) R)
      { s with heap := (s.heap.push PySem.W.emptyDict).push (PySem.W.instObj C s.heap.objs.size) }) :
    codeAny (model prog w) A (.call (.ref C) ⟨vs, kw⟩) R s := by
  obtain ⟨hh, g, d, t, os⟩ := s
  exact PySem.W.make_core (PySem.W.makes_of X hm) (PySem.W.looks_findIn X hi) (fun self => PySem.W.bind_fn X self hf) (.inl rfl) h
end

/-! ### the attributes as a list of pairs -/
def putF (f : Str) (v : V) : List (Str × V) → List (Str × V)
  | [] => [(f, v)]
  | (g, x) :: r => if g = f then (g, v) :: r else (g, x) :: putF f v r
theorem lookup_putF (f g : Str) (v : V) : ∀ fs : List (Str × V), (putF f v fs).lookup g = if g = f then some v else fs.lookup g
  | [] => by
    show List.lookup g [(f, v)] = _
    by_cases h : g = f
    · have hb : (g == f) = true := beq_iff_eq.mpr h
      simp only [List.lookup, hb, if_pos h]
    · have hb : (g == f) = false := beq_eq_false_iff_ne.mpr h
      simp only [List.lookup, hb, if_neg h]
  | (k, x) :: r => by
    have ih := lookup_putF f g v r
    rw [show putF f v ((k, x) :: r) = (if k = f then (k, v) :: r else (k, x) :: putF f v r) from rfl]
    by_cases hk : k = f
    · rw [if_pos hk]
      by_cases h : g = k
      · have hb : (g == k) = true := beq_iff_eq.mpr h
        simp only [List.lookup, hb, if_pos (h.trans hk)]
      · have hb : (g == k) = false := beq_eq_false_iff_ne.mpr h
        simp only [List.lookup, hb, if_neg (fun e : g = f => h (e.trans hk.symm))]
    · rw [if_neg hk]
      by_cases h : g = k
      · have hb : (g == k) = true := beq_iff_eq.mpr h
        simp only [List.lookup, hb, if_neg (fun e : g = f => hk (h.symm.trans e))]
      · have hb : (g == k) = false := beq_eq_false_iff_ne.mpr h
        simp only [List.lookup, hb]
        exact ih
theorem keys_putF (f : Str) (v : V) : ∀ fs : List (Str × V), f ∈ (putF f v fs).map (·.1) ∧ ∀ g, g ∈ fs.map (·.1) → g ∈ (putF f v fs).map (·.1)
  | [] => ⟨by simp [putF], fun g h => by simp at h⟩
  | (k, x) :: r => by
    obtain ⟨i1, i2⟩ := keys_putF f v r
    rw [show putF f v ((k, x) :: r) = (if k = f then (k, v) :: r else (k, x) :: putF f v r) from rfl]
    by_cases hk : k = f
    · rw [if_pos hk]
      subst hk
      exact ⟨by simp, fun g h => by simpa using h⟩
    · rw [if_neg hk]
      refine ⟨?_, fun g h => ?_⟩
      · rw [List.map_cons]
        exact List.mem_cons_of_mem _ i1
      · rw [List.map_cons] at h ⊢
        rcases List.mem_cons.mp h with e | e
        · exact List.mem_cons.mpr (.inl e)
        · exact List.mem_cons_of_mem _ (i2 g e)
theorem length_putF (f : Str) (v : V) : ∀ fs : List (Str × V), (putF f v fs).length ≤ fs.length + 1
  | [] => by simp [putF]
  | (k, x) :: r => by
    have ih := length_putF f v r
    rw [show putF f v ((k, x) :: r) = (if k = f then (k, v) :: r else (k, x) :: putF f v r) from rfl]
    by_cases hk : k = f
    · rw [if_pos hk, List.length_cons, List.length_cons]; omega
    · rw [if_neg hk, List.length_cons, List.length_cons]; omega

theorem RelO.some_of {v : V} {o : Option Value} (r : RelO (some v) o) : ∃ u, o = some u ∧ RelV v u := by
  cases o with
  | none => exact (show False from r).elim
  | some u => exact ⟨u, rfl, r⟩
theorem RelO.none_of {o : Option Value} (r : RelO none o) : o = none := by
  cases o with
  | none => rfl
  | some u => exact (show False from r).elim
theorem handed_of {v : V} {u : Value} (r : RelV v u) : PySem.W.handedIn u = true := by
  cases v with
  | non => cases (show u = Value.none from r); rfl
  | bl b => cases (show u = Value.bool b from r); rfl
  | int i => obtain ⟨t, e⟩ := (show ∃ t, u = Value.int i t from r); cases e; rfl
  | str x => obtain ⟨t, e⟩ := (show ∃ t, u = Value.str x t from r); cases e; rfl
  | byt b => obtain ⟨t, e⟩ := (show ∃ t, u = Value.bytes b t from r); cases e; rfl
  | flt b => obtain ⟨t, e⟩ := (show ∃ t, u = Value.float b t from r); cases e; rfl
  | ref a => cases (show u = Value.ref a from r); rfl
  | ty n => cases (show u = Value.type n from r); rfl

section
variable {P : Program} {w : World} {H H' : Hp} {h h' : Heap} {a C dx : Addr} {fs fs' : List (Str × V)}
theorem ins_get (hok : HOk P w H h) (e : H a = some (.ins C dx fs)) : ∃ mA, ObjM h a dx C mA ∧ (∀ f, RelO (fs.lookup f) (mA f)) ∧ PySem.Within mA (fs.map (·.1)) ∧ fs.length ≤ 1000 ∧ H dx = some (.own a) := by
  obtain ⟨d, z, ne, ob, mA, n, r, q⟩ := (show ObjOk P w H h a (.ins C dx fs) from hok a _ e)
  exact ⟨mA, ⟨ob, n, ne⟩, r, q, z, d⟩
end

/-! ### what of the text a class must have -/
structure Cls (K : PySem.W.Frag) (C : Addr) : Prop where
  pg : PySem.W.plainGet K C Str.empty = true
  hd : PySem.W.hasDictIn K C = true
  po : PySem.W.plainOver K C = true
  sa : PySem.W.findIn K (.ref C) "__setattr__" = some (some (.builtin "object.__setattr__"))
theorem Cls.get {K : PySem.W.Frag} {C : Addr} (c : Cls K C) (f : Str) : PySem.W.plainGet K C f = true := c.pg
/-- no class of it has the name -/
def NoAttr (K : PySem.W.Frag) (C : Addr) (f : Str) : Prop := PySem.W.findIn K (.ref C) f = some none
theorem NoAttr.taker {K : PySem.W.Frag} {C : Addr} {f : Str} (n : NoAttr K C f) : PySem.W.takerIn K C f = some none := by
  unfold PySem.W.takerIn
  rw [show PySem.W.findIn K (.ref C) f = some none from n]
  rfl
/-- a method: a plain def of the class or of one above it -/
structure Meth (K : PySem.W.Frag) (C : Addr) (m : Str) (f : Addr) : Prop where
  at_ : PySem.W.findIn K (.ref C) m = some (some (.ref f))
  fn : PySem.W.isFn K (.ref f) = true
  kp : PySem.W.keepIn K (.ref f) = true

section
variable {X : Cx} {pins : List (Addr × Obj)} {σ : St} {H : Hp} {s : Shared} {a C dx : Addr} {fs : List (Str × V)} {f : Str} {v : V} {A : Around} {E : Value → Shared → Prop}

theorem getattr_ok {b : Bool} {Q : Value → Shared → Prop} (I : Inv X pins σ H s) (e : H a = some (.ins C dx fs)) (c : Cls X.K C) (n : NoAttr X.K C f) (l : fs.lookup f = some v)
    (h : ∀ u s', Inv X pins σ H s' → RelV v u → Q u s') : wpAny (model X.prog X.w) A (getAttr (.ref a) f b) Q E s := by
  obtain ⟨mA, O, r, _, _, _⟩ := ins_get I.hok e
  obtain ⟨u, hu, ru⟩ := RelO.some_of (v := v) (o := mA f) (by rw [← l]; exact r f)
  exact get_map I.kIn O (c.get f) c.hd n hu (handed_of ru) (h u _ (I.tok _) ru)

theorem getmeth_ok {m : Str} {g : Addr} {pl : Sem Bool} {Q : Value × List Value → Shared → Prop} (I : Inv X pins σ H s) (e : H a = some (.ins C dx fs)) (c : Cls X.K C) (k : Meth X.K C m g) (l : fs.lookup m = none)
    (h : Q (.ref g, [.ref a]) s) : wpAny (model X.prog X.w) A (getMethod (.ref a) m pl) Q E s := by
  obtain ⟨mA, O, r, _, _, _⟩ := ins_get I.hok e
  have hn : mA m = none := RelO.none_of (by rw [← l]; exact r m)
  exact get_meth I.kIn O (c.get m) k.at_ k.fn hn h

theorem setattr_ok {y : V} {u : Value} {Q : Unit → Shared → Prop} (I : Inv X pins σ H s) (e : H a = some (.ins C dx fs)) (c : Cls X.K C) (n : NoAttr X.K C f) (hl : fs.length < 1000) (ry : RelV y u)
    (h : ∀ s', Inv X pins σ (upd H a (.ins C dx (putF f y fs))) s' → Q () s') : wpAny (model X.prog X.w) A (setAttr (.ref a) f u) Q E s := by
  obtain ⟨mA, O, r, wi, _, ho⟩ := ins_get I.hok e
  have hz : (fs.map (·.1)).length ≤ sizeLine := by rw [List.length_map, sizeLine_eq]; omega
  refine set_map I.kIn O c.sa c.po n.taker c.hd wi hz fun h' O' sb => h _ ?_
  have hd : ∃ o, h'.get? dx = some o := let ⟨o, _, _, e', _⟩ := O'.ns; ⟨o, e'⟩
  refine I.write (x := a) (e := dx) (by rw [e]; exact True.intro) (.inr ho) (fun b q hb z => (sb.2 b hb).trans z) hd ?_
  refine ⟨by rw [upd_ne O.ne]; exact ho, ?_, O.ne, O'.obj, _, O'.ns, fun g => ?_, fun g hg => ?_⟩
  · have := length_putF f y fs; omega
  · show RelO ((putF f y fs).lookup g) (if g = f then some u else mA g)
    rw [lookup_putF]
    by_cases q : g = f
    · rw [if_pos q, if_pos q]; exact ry
    · rw [if_neg q, if_neg q]; exact r g
  · by_cases q : g = f
    · rw [q]; exact (keys_putF f y fs).1
    · refine (keys_putF f y fs).2 g (wi g fun z => hg ?_)
      show (if g = f then some u else mA g) = none
      rw [if_neg q]; exact z

/-- a new instance, tracked, without attributes -/
theorem Inv.made (I : Inv X pins σ H s) : Inv X pins σ (upd (upd H s.heap.objs.size (.own (s.heap.objs.size + 1))) (s.heap.objs.size + 1) (.ins C s.heap.objs.size []))
    { s with heap := (s.heap.push PySem.W.emptyDict).push (PySem.W.instObj C s.heap.objs.size) } := by
  have e1 : (s.heap.push PySem.W.emptyDict).get? s.heap.objs.size = some PySem.W.emptyDict := Heap.get?_push_size s.heap rfl
  have e2 : ((s.heap.push PySem.W.emptyDict).push (PySem.W.instObj C s.heap.objs.size)).get? (s.heap.objs.size + 1) = some (PySem.W.instObj C s.heap.objs.size) := by
    have := Heap.get?_push_size (s.heap.push PySem.W.emptyDict) (o := PySem.W.instObj C s.heap.objs.size) rfl
    rwa [Heap.size_push] at this
  have e3 : (s.heap.push PySem.W.emptyDict).Ns s.heap.objs.size (fun _ => none) := ⟨PySem.W.emptyDict, #[], _, e1, rfl, (fun e he => absurd he (by simp)), fun _ => rfl⟩
  have I1 := I.laid (a := s.heap.objs.size) (o := .own (s.heap.objs.size + 1)) (h' := s.heap.push PySem.W.emptyDict) (t' := s.toks) (fun b u q => Heap.get?_push_of_some _ q) (Nat.le_refl _) ⟨_, e1⟩
  refine I1.laid (a := s.heap.objs.size + 1) (o := .ins C s.heap.objs.size []) (t' := s.toks) (fun b u q => Heap.get?_push_of_some _ q) (Nat.le_of_eq (Heap.size_push _ _)) ?_
  have ne : s.heap.objs.size ≠ s.heap.objs.size + 1 := Nat.ne_of_lt (Nat.lt_succ_self _)
  refine ⟨by rw [upd_ne ne, upd_same], Nat.zero_le _, ne, e2, fun _ => none, (Heap.Ns1.of_empty e3).at fun o q => Heap.get?_push_of_some _ q, fun _ => True.intro, fun y hy => absurd rfl hy⟩

/-- e.f where nothing but the object is asked: through attributeBase (super) and the last hold -/
theorem attr_of {prog : Program} {w : World} {env : Env} {e : Expr} {f : Str} {pos : Pos} {s : Shared} {Q : Value → Shared → Prop} (hb : attributeBase e f env (eval e env) = eval e env)
    (h : wpAny (model prog w) A (eval e env) (fun o s₁ => wpAny (model prog w) A (getAttr o f true) Q E s₁) E s) : wpAny (model prog w) A (eval (.Attribute e f pos) env) Q E s :=
  Attribute_any_ h (by rw [arm_eval_Attribute, hb])
end

/-! ### readings and rules -/
/-- e.f, an attribute of the instance -/
def tFld (K : PySem.W.Frag) (ta : TE) (f : Str) : TE := fun σ H Q => ta σ H fun x H1 => ∃ a C dx fs v, x = .ref a ∧ H1 a = some (.ins C dx fs) ∧ Cls K C ∧ NoAttr K C f ∧ fs.lookup f = some v ∧ Q v H1
/-- e.f = value -/
def sFld (K : PySem.W.Frag) (ta tv : TE) (f : Str) : TS := fun D σ H => tv σ H fun y H1 => ta σ H1 fun x H2 => ∃ a C dx fs, x = .ref a ∧ H2 a = some (.ins C dx fs) ∧ Cls K C ∧ NoAttr K C f ∧ fs.length < 1000 ∧
  D.nx σ (upd H2 a (.ins C dx (putF f y fs)))
/-- an augmented operator on two values -/
def InOp (X : Cx) (op : Operator) (rd : V → V → Hp → VK → Prop) : Prop :=
  ∀ (pins : List (Addr × Obj)) (s : Shared) (σ : St) (H : Hp) (x y : V) (u v : Value) (Q : VK), Inv X pins σ H s → RelV x u → RelV y v → rd x y H Q → wpAny (model X.prog X.w) X.A (inplaceOp op u v) (EP X pins σ Q) X.xe s
/-- e.f op= value -/
def sFldAug (K : PySem.W.Frag) (ta tv : TE) (rd : V → V → Hp → VK → Prop) (f : Str) : TS := fun D σ H => ta σ H fun x H1 => ∃ a C dx fs v, x = .ref a ∧ H1 a = some (.ins C dx fs) ∧ Cls K C ∧ NoAttr K C f ∧ fs.lookup f = some v ∧
  tv σ H1 fun y H2 => rd v y H2 fun z H3 => ∃ dx' fs', H3 a = some (.ins C dx' fs') ∧ fs'.length < 1000 ∧ D.nx σ (upd H3 a (.ins C dx' (putF f z fs')))

section
variable {X : Cx} {o e value : Expr} {f : Str} {pos pos' tpos : Pos} {ta tv : TE}
theorem pe_fld (he : PE X e ta) (hb : attributeBase e f X.env (eval e X.env) = eval e X.env) : PE X (.Attribute e f pos) (tFld X.K ta f) := by
  intro pins s σ H Q I h
  refine attr_of hb (thn (he pins s σ H _ I h) fun u s1 ⟨x, H1, I1, rx, a, C, dx, fs, v, ex, ea, c, n, l, q⟩ => ?_)
  subst ex
  obtain rfl : u = Value.ref a := rx
  exact getattr_ok I1 ea c n l fun u' s2 I2 ru => ⟨v, H1, I2, ru, q⟩
theorem ps_fld (ha : PE X o ta) (hv : PE X value tv) (hs : swapsWith value (some (.Attribute o f pos')) pos.line X.env = pure false) : PS X (.Assign [.Attribute o f pos'] value pos) (sFld X.K ta tv f) := by
  intro pins s σ H D I h
  refine plainObj_wpAny_Assign_Attribute (thn (hv pins s σ H _ I h) fun u s1 ⟨y, H1, I1, ry, q⟩ => thn (ha pins s1 σ H1 _ I1 q) fun ov s2 ⟨x, H2, I2, rx, a, C, dx, fs, ex, ea, c, n, l, q2⟩ => ?_) hs
  subst ex
  obtain rfl : ov = Value.ref a := rx
  exact setattr_ok I2 ea c n l ry fun s3 I3 => ⟨σ, _, I3, q2⟩
theorem ps_fldaug {op : Operator} {rd : V → V → Hp → VK → Prop} (ha : PE X o ta) (hv : PE X value tv) (hop : InOp X op rd) : PS X (.AugAssign (.Attribute o f tpos) op value pos) (sFldAug X.K ta tv rd f) := by
  intro pins s σ H D I h
  refine wpAny_AugAssign_AttributeAny (thn (ha pins s σ H _ I h) fun ov s1 ⟨x, H1, I1, rx, a, C, dx, fs, v, ex, ea, c, n, l, q⟩ => ?_)
  subst ex
  obtain rfl : ov = Value.ref a := rx
  refine getattr_ok I1 ea c n l fun u s2 I2 ru => thn (hv pins s2 σ H1 _ I2 q) fun w3 s3 ⟨y, H2, I3, ry, q3⟩ => thn (hop pins s3 σ H2 v y u w3 _ I3 ru ry q3) fun w4 s4 ⟨z, H3, I4, rz, dx', fs', ea', l', q4⟩ => ?_
  exact setattr_ok I4 ea' c n l' rz fun s5 I5 => ⟨σ, _, I5, q4⟩
def rAdd : V → V → Hp → VK → Prop := fun x y H Q => ∃ i j, x = .int i ∧ y = .int j ∧ Q (.int (i + j)) H
theorem in_add : InOp X .Add rAdd := by
  rintro pins s σ H x y u v Q I rx ry ⟨i, j, rfl, rfl, q⟩
  obtain ⟨t, rfl⟩ := (show ∃ t, u = Value.int i t from rx)
  obtain ⟨t', rfl⟩ := (show ∃ t', v = Value.int j t' from ry)
  exact PyProof.Rows.iadd_int ⟨.int (i + j), H, I.tok _, ⟨_, rfl⟩, q⟩

/-- what is between an instance and its method: the tree of a method call -/
theorem methcall_of {pl : Sem Bool} {m : Str} {apos : Pos} {args : List Expr} {pins : List (Addr × Obj)} {s : Shared} {σ : St} {H : Hp} {Q : Value → Shared → Prop} {te : TE} (he : PE X e te) (I : Inv X pins σ H s)
    (h : te σ H fun x H1 => ∃ a C dx fs g, x = .ref a ∧ H1 a = some (.ins C dx fs) ∧ Cls X.K C ∧ Meth X.K C m g ∧ fs.lookup m = none ∧
      ∀ s1, Inv X pins σ H1 s1 → wpAny (model X.prog X.w) X.A (callWith pos (.ref g) [.ref a] (backTo pos (starEach args X.env)) (backToKw pos (keywordEach [] X.env))) Q X.xe s1)
    (ht : eval (.Call (.Attribute e m apos) args [] pos) X.env = (do
      let ov ← eval e X.env
      standAt apos.atName
      let (f, first) ← holding [ov] (getMethod ov m pl)
      callWith pos f first (backTo pos (starEach args X.env)) (backToKw pos (keywordEach [] X.env)))) :
    wpAny (model X.prog X.w) X.A (eval (.Call (.Attribute e m apos) args [] pos) X.env) Q X.xe s := by
  refine PySem.W.methodCall_KW (pl := pl) (thn (he pins s σ H _ I h) fun u s1 ⟨x, H1, I1, rx, a, C, dx, fs, g, ex, ea, c, k, l, q⟩ => ?_) ht
  subst ex
  obtain rfl : u = Value.ref a := rx
  exact getmeth_ok I1 ea c k l (q s1 I1)
end

/-! ### isinstance -/
section
variable {X : Cx} {pins : List (Addr × Obj)} {σ : St} {H : Hp} {s : Shared} {A : Around} {E : Value → Shared → Prop} {Q : Value → Shared → Prop} {c : Value} {b : Bool}
end
end L2

namespace L2
open PySem PySem.Spec PyProof.Rows

/-! ### room -/
structure Room (k : Nat) (A : Around) : Prop where
  hd : A.handled = none
  dp : A.depth + 3 * k + 5 < recursionLimit
  un : A.units + 16 * k + 200 < cLine
theorem Room.mono {j k : Nat} {A : Around} (r : Room k A) (h : j ≤ k) : Room j A := ⟨r.hd, by have := r.dp; omega, by have := r.un; omega⟩
theorem Room.deeper {k : Nat} {A : Around} (r : Room (k + 1) A) (env : Env) : Room k (A.deeper env) :=
  ⟨r.hd, by have := r.dp; show A.depth + 1 + 3 * k + 5 < _; omega, by have := r.un; show A.units + 3 + 16 * k + 200 < _; omega⟩
theorem make_depth {A : Around} {C : Addr} {us : List Value} {kw : List (Str × Value)} : (A.under (.builtin "type.__call__" ⟨.ref C :: us, kw⟩)).depth = A.depth + 1 := by
  first | rfl | simp [Around.under, Code.weight, Code.isCreation, Code.isGuard, Code.isCaller, Code.frames, Code.isFrame, guardIds]
theorem make_units {A : Around} {C : Addr} {us : List Value} {kw : List (Str × Value)} : (A.under (.builtin "type.__call__" ⟨.ref C :: us, kw⟩)).units = A.units + 1 := by
  first | rfl | simp [Around.under, Code.cUnits, Code.frames, Code.isFrame]
theorem Room.make {k : Nat} {A : Around} (r : Room (k + 1) A) (C : Addr) (us : List Value) (kw : List (Str × Value)) : Room k (A.under (.builtin "type.__call__" ⟨.ref C :: us, kw⟩)) :=
  ⟨r.hd, by have := r.dp; rw [make_depth]; omega, by have := r.un; rw [make_units]; omega⟩
theorem Room.depth {k : Nat} {A : Around} (r : Room k A) : A.depth < recursionLimit := by have := r.dp; omega
theorem Room.units {k : Nat} {A : Around} (r : Room k A) : A.units + 64 < cLine := by have := r.un; omega

/-! ### argument lists and displays -/
def tNil : TA := fun _ H Q => Q [] H
def tCons (ta : TE) (tr : TA) : TA := fun σ H Q => ta σ H fun x H1 => tr σ H1 fun xs H2 => Q (x :: xs) H2
section
variable {X : Cx} {e : Expr} {es : List Expr} {te : TE} {t : TA} {pos : Pos}
theorem pa_nil : PA X [] tNil := fun _ _ _ _ H Q I h => Calls.spliced_nil ⟨[], H, I, .nil, h⟩
theorem pa_cons (ha : PE X e te) (hr : PA X es t) (hs : starEach (e :: es) X.env = (false, eval e X.env) :: starEach es X.env := by rfl) : PA X (e :: es) (tCons te t) := by
  intro pos pins s σ H Q I h
  rw [hs]
  show wpAny _ _ (spliced ((false, eval e X.env) :: backTo pos (starEach es X.env))) _ _ s
  refine Calls.spliced_cons (thn (ha pins s σ H _ I h) fun u s1 ⟨x, H1, I1, r1, q1⟩ => ?_)
  exact thn (hr pos pins s1 σ H1 _ I1 q1) fun us s2 ⟨xs, H2, I2, r2, q2⟩ => ⟨x :: xs, H2, I2, .cons r1 r2, q2⟩

/-- a tuple, a list of written items -/
def tTup (t : TA) : TE := fun σ H Q => t σ H fun xs H1 => xs.length ≤ sizeLine ∧ ∀ p, H1 p = none → Q (.ref p) (upd H1 p (.tup xs))
def tLst (t : TA) : TE := fun σ H Q => t σ H fun xs H1 => xs.length ≤ sizeLine ∧ ∀ p, H1 p = none → Q (.ref p) (upd H1 p (.lst xs))
theorem pe_tup {x1} (h : PA X es t) : PE X (.Tuple es x1 pos) (tTup t) := by
  intro pins s σ H Q I hq
  refine wpAny_Tuple_spliced (thn (h pos pins s σ H _ I hq) fun us s1 ⟨xs, H1, I1, r, z, q⟩ => ⟨by rw [← r.length]; exact z, ?_⟩)
  have hf : H1 s1.heap.objs.size = none := I1.hok.fresh (Nat.le_refl _)
  refine ⟨.ref s1.heap.objs.size, upd H1 s1.heap.objs.size (.tup xs), I1.laid (t' := s1.toks) (fun b u e => Heap.get?_push_of_some _ e) (Nat.le_refl _) ?_, rfl, q _ hf⟩
  exact ⟨z, us, r, ⟨_, Heap.get?_push_size _ rfl, rfl, _, rfl⟩⟩
theorem pe_lst (h : PA X es t) : PE X (.List es pos) (tLst t) := by
  intro pins s σ H Q I hq
  refine wpAny_List_spliced (thn (h pos pins s σ H _ I hq) fun us s1 ⟨xs, H1, I1, r, z, q⟩ => ⟨by rw [← r.length]; exact z, ?_⟩)
  have hf : H1 s1.heap.objs.size = none := I1.hok.fresh (Nat.le_refl _)
  refine ⟨.ref s1.heap.objs.size, upd H1 s1.heap.objs.size (.lst xs), I1.laid (t' := s1.toks) (fun b u e => Heap.get?_push_of_some _ e) (Nat.le_refl _) ?_, rfl, q _ hf⟩
  exact ⟨z, us, 0, r, Heap.get?_push_size _ rfl⟩
end

/-! ### what a def promises -/
/-- a def's promise: the bound arguments in the parameters' order, the heap, the wanted end, the wanted exception -/
abbrev Sp := List V → Hp → VK → XK → Prop
/-- how an exception lies behind a call (file 08 gives it): the callers' frames, abstract heap and state ahead of the call, the wish, the exception, the state -/
abbrev CXT := List Env → Hp → Shared → XK → Value → Shared → Prop

/-- the state at a call -/
structure Env0 (P : Program) (w : World) (K : PySem.W.Frag) (mg : Str → Option Value) (base : Heap) (A : Around) (outer : List Env) (s : Shared) (H : Hp) : Prop where
  frames : A.frames = some outer
  mod : Mod K mg base
  bs : ∀ b o, base.get? b = some o → s.heap.get? b = some o ∧ H b = none
  bsz : base.objs.size ≤ s.heap.objs.size
  funs : s.heap.FunFrames base outer
  frf : ∀ b ∈ frs outer, H b = none
  hok : HOk P w H s.heap
  bare : AllBare s.gens
/-- a call's end -/
def CE (outer : List Env) (P : Program) (w : World) (H : Hp) (s : Shared) (Q : VK) (u : Value) (s' : Shared) : Prop :=
  ∃ v H', s'.os = s.os ∧ AllBare s'.gens ∧ Un (frs outer) [] H H' s.heap s'.heap ∧ HOk P w H' s'.heap ∧ RelV v u ∧ Q v H'
def CR (CX : CXT) (outer : List Env) (P : Program) (w : World) (H : Hp) (s : Shared) (Q : VK) (E : XK) (r : Result) (s' : Shared) : Prop :=
  match r with
  | .ok (.ret u) => CE outer P w H s Q u s'
  | .ok _ => False
  | .error e => CX outer H s E e s'
structure FnOk (P : Program) (w : World) (K : PySem.W.Frag) (mg : Str → Option Value) (base : Heap) (CX : CXT) (k : Nat) (f : Addr) (fd : FuncData) (ps : List Str) (sp : Sp) : Prop where
  len : ∀ vs H Q E, sp vs H Q E → vs.length = ps.length
  run : ∀ (A : Around) (outer : List Env) (s : Shared) (H : Hp) (args : Args) (us : List Value) (vs : List V) (Q : VK) (E : XK), Room k A → Env0 P w K mg base A outer s H → BindsTo s fd args (ps.zip us) → Vals vs us → sp vs H Q E →
    codeAny (model P w) A (.call (.ref f) args) (CR CX outer P w H s Q E) s
/-- a weaker promise -/
theorem FnOk.imp {P : Program} {w : World} {K : PySem.W.Frag} {mg : Str → Option Value} {base : Heap} {CX : CXT} {k : Nat} {f : Addr} {fd : FuncData} {ps : List Str} {sp sp' : Sp} (F : FnOk P w K mg base CX k f fd ps sp)
    (h : ∀ vs H Q E, sp' vs H Q E → sp vs H Q E) : FnOk P w K mg base CX k f fd ps sp' :=
  ⟨fun vs H Q E q => F.len vs H Q E (h _ _ _ _ q), fun A outer s H args us vs Q E hr he hb hv hs => F.run A outer s H args us vs Q E hr he hb hv (h _ _ _ _ hs)⟩

theorem Env0.make {P : Program} {w : World} {K : PySem.W.Frag} {mg : Str → Option Value} {base : Heap} {A : Around} {outer : List Env} {s : Shared} {H : Hp} (e : Env0 P w K mg base A outer s H) (C : Addr) (us : List Value) (kw : List (Str × Value)) :
    Env0 P w K mg base (A.under (.builtin "type.__call__" ⟨.ref C :: us, kw⟩)) outer s H := ⟨by first | exact e.frames | (simpa [Around.under, Code.envs, Code.isFrame, pushEnvs] using e.frames), e.mod, e.bs, e.bsz, e.funs, e.frf, e.hok, e.bare⟩

section
variable {X : Cx} {pins : List (Addr × Obj)} {σ : St} {H : Hp} {s s' : Shared}
/-- from a body: what a callee wants -/
theorem Inv.env0 (I : Inv X pins σ H s) : Env0 X.prog X.w X.K X.mg X.base X.A X.stack s H :=
  ⟨I.ok.frames, I.ok.mod, I.bs, Nat.le_trans I.ok.bsz I.sz, I.stack, I.stkFree, I.hok, I.bare⟩
/-- behind a call -/
theorem Inv.after {Q : VK} {u : Value} (I : Inv X pins σ H s) (h : CE X.stack X.prog X.w H s Q u s') : EP X pins σ Q u s' := by
  obtain ⟨v, H', os, bare, un, hok, r, q⟩ := h
  obtain ⟨hh, g, d, t, os'⟩ := s'
  obtain rfl : os' = s.os := os
  exact ⟨v, H', I.call (h' := hh) (g' := g) (d' := d) (t' := t) (ch := []) un hok bare (fun b z => absurd z (by simp)), r, q⟩
end

/-! ### calls -/
/-- f(..): the written arguments, then the defaults dvs; E: what is wanted of an exception -/
def tCall (sp : Sp) (dvs : List V) (E : XK) (t : TA) : TE := fun σ H Q => t σ H fun vs H1 => sp (vs ++ dvs) H1 Q E
/-- o.m(..) of an instance of the class at C -/
def tMeth (C : Addr) (m : Str) (sp : Sp) (dvs : List V) (E : XK) (ta : TE) (t : TA) : TE := fun σ H Q => ta σ H fun x H1 => ∃ a dx fs, x = .ref a ∧ H1 a = some (.ins C dx fs) ∧ fs.lookup m = none ∧
  t σ H1 fun vs H2 => sp (x :: (vs ++ dvs)) H2 Q E
/-- C(..): a new instance and its dict, then __init__ -/
def tMake (C : Addr) (sp : Sp) (dvs : List V) (E : XK) (t : TA) : TE := fun σ H Q => t σ H fun vs H1 => ∀ x dx, H1 x = none → H1 dx = none → dx ≠ x →
  sp (.ref x :: (vs ++ dvs)) (upd (upd H1 dx (.own x)) x (.ins C dx [])) (fun v H2 => v = .non ∧ Q (.ref x) H2) E

/-- how the parameters are bound: us the positional arguments, kw the keywords' values by name, ds the defaults that fill up -/
def Binds (K : PySem.W.Frag) (fd : FuncData) (ps : List Str) (ds : List Value) : Prop :=
  ∀ (s : Shared) (us : List Value), K.In s.heap → (us ++ ds).length = ps.length → BindsTo s fd ⟨us, []⟩ (ps.zip (us ++ ds))
/-- every parameter is given -/
theorem Binds.all {K : PySem.W.Frag} {fd : FuncData} {ps : List Str} (h : ∀ us : List Value, us.length = ps.length → bindArgs fd ⟨us, []⟩ = pure (ps.zip us)) : Binds K fd ps [] := fun s us _ hl => by
  rw [List.append_nil] at hl ⊢
  exact .of_eq (h us hl)

/-- an exception of a callee reaches what this body wants of exceptions -/
def Passes (CX : CXT) (X : Cx) (E : XK) : Prop := ∀ (pins : List (Addr × Obj)) (σ : St) (H : Hp) (s : Shared) (e : Value) (s' : Shared), Inv X pins σ H s → CX X.stack H s E e s' → X.xe e s'

section
variable {X : Cx} {CX : CXT} {k : Nat} {f C : Addr} {fd : FuncData} {ps : List Str} {sp : Sp} {dvs : List V} {ds : List Value} {E : XK} {x m : Str} {p pos apos : Pos} {e o : Expr} {es : List Expr} {ta : TE} {t : TA}

/-- the callee runs -/
theorem run_fn {pins : List (Addr × Obj)} {σ : St} {H : Hp} {s : Shared} {Q : VK} {us : List Value} {vs : List V} (F : FnOk X.prog X.w X.K X.mg X.base CX k f fd ps sp) (hr : Room k X.A) (hb : Binds X.K fd ps ds) (hd : Vals dvs ds) (hx : Passes CX X E)
    (I : Inv X pins σ H s) (r : Vals vs us) (h : sp (vs ++ dvs) H Q E) : wpAny (model X.prog X.w) X.A (call (.ref f) us) (EP X pins σ Q) X.xe s := by
  have r2 : Vals (vs ++ dvs) (us ++ ds) := r.append hd
  have hl : (us ++ ds).length = ps.length := by rw [← r2.length]; exact F.len _ _ _ _ h
  refine wpAny_call (codeAny_mono (F.run X.A X.stack s H ⟨us, []⟩ (us ++ ds) (vs ++ dvs) Q E hr I.env0 (hb s us I.kIn hl) r2 h) fun r s' hq => ?_)
  cases r with
  | error e => exact hx pins σ H s e s' I hq
  | ok fl =>
    cases fl with
    | ret u => exact I.after hq
    | next => exact False.elim hq
    | brk => exact False.elim hq
    | cont => exact False.elim hq

theorem pe_call (F : FnOk X.prog X.w X.K X.mg X.base CX k f fd ps sp) (hr : Room k X.A) (hg : Gl X x) (hm : X.mg x = some (.ref f)) (hk : PySem.W.keepIn X.K (.ref f) = true) (hb : Binds X.K fd ps ds) (hd : Vals dvs ds) (hx : Passes CX X E)
    (ha : PA X (e :: es) t) (hdb : (x == ("__debug__" : Str)) = false := by decide) (he : starEach (e :: es) X.env = (false, eval e X.env) :: starEach es X.env := by rfl) (hpl : (backTo pos (starEach es X.env)).any (·.1) = false := by rfl) :
    PE X (.Call (.Name x p) (e :: es) [] pos) (tCall sp dvs E t) := by
  intro pins s σ H Q I h
  refine wpAny_Call_Name_kw (ld_glob I hg hm ?_ hdb)
  refine PySem.W.callWith_K (h₀ := X.base) I.ok.mod.kin hk (thn (ha pos pins s σ H _ I h) fun us s1 ⟨vs, H1, I1, r, q⟩ => ⟨I1.kIn, ?_⟩) he hpl
  exact run_fn F hr hb hd hx I1 r q

/-- o.m(e, ..) -/
theorem pe_meth {pl : Sem Bool} (he : PE X o ta) (c : Cls X.K C) (hm : Meth X.K C m f) (F : FnOk X.prog X.w X.K X.mg X.base CX k f fd ps sp) (hr : Room k X.A) (hb : Binds X.K fd ps ds) (hd : Vals dvs ds) (hx : Passes CX X E) (ha : PA X (e :: es) t)
    (hst : starEach (e :: es) X.env = (false, eval e X.env) :: starEach es X.env := by rfl) (hpl : (backTo pos (starEach es X.env)).any (·.1) = false := by rfl)
    (ht : eval (.Call (.Attribute o m apos) (e :: es) [] pos) X.env = (do
      let ov ← eval o X.env
      standAt apos.atName
      let (f, first) ← holding [ov] (getMethod ov m pl)
      callWith pos f first (backTo pos (starEach (e :: es) X.env)) (backToKw pos (keywordEach [] X.env))) := by rfl) :
    PE X (.Call (.Attribute o m apos) (e :: es) [] pos) (tMeth C m sp dvs E ta t) := by
  intro pins s σ H Q I h
  refine PySem.W.methodCall_KW (pl := pl) (thn (he pins s σ H _ I h) fun u s1 ⟨x, H1, I1, rx, a, dx, fs, ex, ea, l, q⟩ => ?_) ht
  subst ex
  obtain rfl : u = Value.ref a := rx
  refine getmeth_ok I1 ea c hm l ?_
  refine PySem.W.callWith_K (first := [.ref a]) (h₀ := X.base) I.ok.mod.kin hm.kp (thn (ha pos pins s1 σ H1 _ I1 q) fun us s2 ⟨vs, H2, I2, r, q2⟩ => ⟨I2.kIn, ?_⟩) hst hpl
  exact run_fn (us := .ref a :: us) (vs := .ref a :: vs) F hr hb hd hx I2 (.cons rfl r) q2
/-- o.m() -/
theorem pe_meth0 {pl : Sem Bool} (he : PE X o ta) (c : Cls X.K C) (hm : Meth X.K C m f) (F : FnOk X.prog X.w X.K X.mg X.base CX k f fd ps sp) (hr : Room k X.A) (hb : Binds X.K fd ps ds) (hd : Vals dvs ds) (hx : Passes CX X E)
    (ht : eval (.Call (.Attribute o m apos) [] [] pos) X.env = (do
      let ov ← eval o X.env
      standAt apos.atName
      let (f, first) ← holding [ov] (getMethod ov m pl)
      callWith pos f first (backTo pos (starEach [] X.env)) (backToKw pos (keywordEach [] X.env))) := by rfl) :
    PE X (.Call (.Attribute o m apos) [] [] pos) (tMeth C m sp dvs E ta tNil) := by
  intro pins s σ H Q I h
  refine PySem.W.methodCall_KW (pl := pl) (thn (he pins s σ H _ I h) fun u s1 ⟨x, H1, I1, rx, a, dx, fs, ex, ea, l, q⟩ => ?_) ht
  subst ex
  obtain rfl : u = Value.ref a := rx
  refine getmeth_ok I1 ea c hm l ?_
  exact PySem.W.callWith_K0 (first := [.ref a]) I1.kIn hm.kp (run_fn (us := [.ref a]) (vs := [.ref a]) F hr hb hd hx I1 (.cons rfl .nil) q)

/-- what a class must have to be made -/
structure Mk (K : PySem.W.Frag) (C f : Addr) : Prop where
  makes : PySem.W.makesIn K C = true
  init : PySem.W.findIn K (.ref C) "__init__" = some (some (.ref f))
  fn : PySem.W.isFn K (.ref f) = true
  kp : PySem.W.keepIn K (.ref C) = true

theorem run_make {pins : List (Addr × Obj)} {σ : St} {H : Hp} {s : Shared} {Q : VK} {us : List Value} {vs : List V} (M : Mk X.K C f) (F : FnOk X.prog X.w X.K X.mg X.base CX k f fd ps sp) (hr : Room (k + 1) X.A) (hb : Binds X.K fd ps ds) (hd : Vals dvs ds)
    (hx : Passes CX X E) (I : Inv X pins σ H s) (r : Vals vs us)
    (h : ∀ x dx, H x = none → H dx = none → dx ≠ x → sp (.ref x :: (vs ++ dvs)) (upd (upd H dx (.own x)) x (.ins C dx [])) (fun v H2 => v = .non ∧ Q (.ref x) H2) E) :
    wpAny (model X.prog X.w) X.A (call (.ref C) us) (EP X pins σ Q) X.xe s := by
  have hq := h (s.heap.objs.size + 1) s.heap.objs.size (I.hok.fresh (Nat.le_succ _)) (I.hok.fresh (Nat.le_refl _)) (Nat.ne_of_lt (Nat.lt_succ_self _))
  have I2 := Inv.made (C := C) I
  have r2 : Vals (V.ref (s.heap.objs.size + 1) :: (vs ++ dvs)) (Value.ref (s.heap.objs.size + 1) :: (us ++ ds)) := .cons rfl (r.append hd)
  have hl : (Value.ref (s.heap.objs.size + 1) :: us ++ ds).length = ps.length := by
    have e := r2.length
    rw [F.len _ _ _ _ hq] at e
    exact e.symm
  refine wpAny_call (make_map (f := f) I.kIn M.makes M.init (beq_iff_eq.mp M.fn) (codeAny_mono (F.run _ X.stack _ _ ⟨Value.ref (s.heap.objs.size + 1) :: us, []⟩ (Value.ref (s.heap.objs.size + 1) :: (us ++ ds)) _ _ E (hr.make C us [])
    (I2.env0.make C us []) (hb _ (Value.ref (s.heap.objs.size + 1) :: us) I2.kIn hl) r2 hq) fun r s' hq' => ?_))
  cases r with
  | error e => exact hx pins σ _ _ e s' I2 hq'
  | ok fl =>
    cases fl with
    | ret u =>
      obtain ⟨v, H', I3, rv, ev, q3⟩ := I2.after hq'
      subst ev
      exact ⟨rv, ⟨V.ref (s.heap.objs.size + 1), H', I3, rfl, q3⟩⟩
    | next => exact False.elim hq'
    | brk => exact False.elim hq'
    | cont => exact False.elim hq'
theorem pe_make (M : Mk X.K C f) (F : FnOk X.prog X.w X.K X.mg X.base CX k f fd ps sp) (hr : Room (k + 1) X.A) (hg : Gl X x) (hm : X.mg x = some (.ref C)) (hb : Binds X.K fd ps ds) (hd : Vals dvs ds) (hx : Passes CX X E)
    (ha : PA X (e :: es) t) (hdb : (x == ("__debug__" : Str)) = false := by decide) (he : starEach (e :: es) X.env = (false, eval e X.env) :: starEach es X.env := by rfl) (hpl : (backTo pos (starEach es X.env)).any (·.1) = false := by rfl) :
    PE X (.Call (.Name x p) (e :: es) [] pos) (tMake C sp dvs E t) := by
  intro pins s σ H Q I h
  refine wpAny_Call_Name_kw (ld_glob I hg hm ?_ hdb)
  refine PySem.W.callWith_K (h₀ := X.base) I.ok.mod.kin M.kp (thn (ha pos pins s σ H _ I h) fun us s1 ⟨vs, H1, I1, r, q⟩ => ⟨I1.kIn, ?_⟩) he hpl
  exact run_make M F hr hb hd hx I1 r q
end

/-! ### keywords -/
section
variable {X : Cx} {CX : CXT} {k : Nat} {f C : Addr} {fd : FuncData} {ps ks : List Str} {sp : Sp} {E : XK} {x m : Str} {p pos apos kpos : Pos} {e o : Expr} {es : List Expr} {kws : List Keyword} {te ta : TE} {t tk : TA} {nm : Option Str}

variable {g : List Value → List Value → List Value} {gV : List V → List V → List V}
end

/-! ### a def's body keeps its promise -/
/-- names: the parameters first -/
structure FnScope (N P : List Str) (sc : Scope) : Prop where
  kind : sc.kind = .function
  co : sc.isCoroutine = false
  gen : sc.isGenerator = false
  nd : N.Nodup
  pre : N.take P.length = P
  par : ∀ x ∈ P, sc.names.lookup x = some .local ∨ sc.names.lookup x = some .cell
  nofree : ∀ y ∈ sc.names, y.2 ≠ .free

theorem bindL_out {kindOf : Str → Option NameKind} {x : Str} : ∀ {binds : List (Str × Value)} {m : Str → Option Value}, (∀ v, (x, v) ∉ binds) → bindL kindOf binds m x = m x
  | [], _, _ => rfl
  | (n, v) :: r, m, h => by
    unfold bindL
    rw [bindL_out fun w hw => h w (List.mem_cons_of_mem _ hw)]
    split
    · have : x ≠ n := by rintro rfl; exact h v List.mem_cons_self
      simp [this]
    · rfl
theorem bindC_out {kindOf : Str → Option NameKind} {x : Str} : ∀ {binds : List (Str × Value)} {m : Str → Option Value}, (∀ v, (x, v) ∉ binds) → bindC kindOf binds m x = m x
  | [], _, _ => rfl
  | (n, v) :: r, m, h => by
    unfold bindC
    rw [bindC_out fun w hw => h w (List.mem_cons_of_mem _ hw)]
    split
    · rfl
    · have : x ≠ n := by rintro rfl; exact h v List.mem_cons_self
      simp [this]
theorem bindL_get {kindOf : Str → Option NameKind} {x : Str} {v : Value} : ∀ {P : List Str} {vs : List Value} {i : Nat} {m : Str → Option Value}, P.Nodup → P[i]? = some x → vs[i]? = some v → kindOf x = some .local →
    bindL kindOf (P.zip vs) m x = some v
  | [], _, _, _, _, h, _, _ => by simp at h
  | _ :: _, [], _, _, _, _, h, _ => by simp at h
  | p :: P, w :: vs, 0, m, nd, h1, h2, hk => by
    simp at h1 h2; subst h1; subst h2
    show bindL kindOf ((p, w) :: P.zip vs) m p = _
    unfold bindL
    rw [bindL_out fun v hv => (List.nodup_cons.mp nd).1 (List.of_mem_zip hv).1, if_pos hk]
    simp
  | p :: P, w :: vs, i + 1, m, nd, h1, h2, hk => by
    show bindL kindOf ((p, w) :: P.zip vs) m x = _
    unfold bindL
    exact bindL_get (i := i) (List.nodup_cons.mp nd).2 (by simpa using h1) (by simpa using h2) hk
theorem bindC_get {kindOf : Str → Option NameKind} {x : Str} {v : Value} : ∀ {P : List Str} {vs : List Value} {i : Nat} {m : Str → Option Value}, P.Nodup → P[i]? = some x → vs[i]? = some v → kindOf x ≠ some .local →
    bindC kindOf (P.zip vs) m x = some v
  | [], _, _, _, _, h, _, _ => by simp at h
  | _ :: _, [], _, _, _, _, h, _ => by simp at h
  | p :: P, w :: vs, 0, m, nd, h1, h2, hk => by
    simp at h1 h2; subst h1; subst h2
    show bindC kindOf ((p, w) :: P.zip vs) m p = _
    unfold bindC
    rw [bindC_out fun v hv => (List.nodup_cons.mp nd).1 (List.of_mem_zip hv).1, if_neg hk]
    simp
  | p :: P, w :: vs, i + 1, m, nd, h1, h2, hk => by
    show bindC kindOf ((p, w) :: P.zip vs) m x = _
    unfold bindC
    exact bindC_get (i := i) (List.nodup_cons.mp nd).2 (by simpa using h1) (by simpa using h2) hk

/-- the names' values at the entry -/
def start (N : List Str) (vs : List V) : St := vs.map some ++ List.replicate (N.length - vs.length) none

/-- the context of a def's body, at its entry; an exception leaves the frame, then lies as CX says -/
def cxOf (CX : CXT) (P : Program) (w : World) (K : PySem.W.Frag) (mg : Str → Option Value) (base : Heap) (N : List Str) (qual : Str) (scope : Scope) (f : Addr) (cd : Value) (A : Around) (outer : List Env) (s : Shared) (H : Hp) (E : XK) : Cx where
  prog := P
  w := w
  K := K
  mg := mg
  base := base
  A := A.deeper (envOfC qual scope s.heap.objs.size f cd)
  N := N
  s_0 := s
  H_0 := H
  env := envOfC qual scope s.heap.objs.size f cd
  outer := outer
  stack := envOfC qual scope s.heap.objs.size f cd :: outer
  ex := []
  calm := true
  fn := fun _ => true
  pn := []
  xe := fun e s' => wpAny (model P w) (A.deeper (envOfC qual scope s.heap.objs.size f cd)) (leaving (envOfC qual scope s.heap.objs.size f cd) e) (fun _ s'' => CX outer H s E e s'') (fun e' s'' => CX outer H s E e' s'') s'

theorem cell_has {sc : Scope} {n : Nat} {x : Str} (h : sc.names.lookup x = some .cell) : ∃ c, (cellsFrom n sc.names []).lookup x = some c := by
  have q := PySem.W.cellsFrom_some sc.names n [] (.inl h)
  exact Option.isSome_iff_exists.mp q

theorem inv_start {CX : CXT} {P : Program} {w : World} {K : PySem.W.Frag} {mg : Str → Option Value} {base : Heap} {N ps : List Str} {qual : Str} {scope : Scope} {f : Addr} {cd : Value} {A : Around} {outer : List Env} {s s1 : Shared} {H : Hp} {E : XK} {us : List Value} {vs : List V}
    (S : FnScope N ps scope) (hd : A.handled = none) (e0 : Env0 P w K mg base A outer s H) (hl : vs.length = ps.length) (r : Vals vs us)
    (x : InCallC s s.heap.objs.size (bindL (envOfC qual scope s.heap.objs.size f cd).kindOf (ps.zip us) fun _ => none) (cellsFrom (s.heap.objs.size + 1) scope.names []) (bindC (envOfC qual scope s.heap.objs.size f cd).kindOf (ps.zip us) fun _ => none) s1) :
    Inv (cxOf CX P w K mg base N qual scope f cd A outer s H E) [] (start N vs) H s1 := by
  have hpl : ps.length ≤ N.length := by have := congrArg List.length S.pre; rw [List.length_take] at this; omega
  obtain ⟨h1, tk, rfl, hk⟩ := x.done
  have noA : ∀ b : Addr, b ∉ (cxOf CX P w K mg base N qual scope f cd A outer s H E).ex := fun b z => absurd (show b ∈ ([] : List Addr) from z) (by simp)
  refine ⟨⟨e0.mod, S.kind, rfl, rfl, Nat.le_refl _, fun y z c h1 h2 => ?_, fun y hy => ?_, fun y c _ h => ?_, fun _ => hd, Around.frames_deeper e0.frames, .inr ⟨rfl, rfl⟩, fun b z => absurd z (noA b), e0.bs, e0.bsz, fun b _ _ => noA b, fun b z => absurd z (noA b), e0.funs, e0.frf⟩,
    rfl, e0.bare, Un.kept hk, ⟨_, x.toInCall.ns, fun i y v h1 h2 h3 => ?_⟩, fun y c h => ⟨_, x.cell y c h⟩, e0.hok.fresh (Nat.le_refl _), fun y c h => ?_, fun p hp => absurd (show p ∈ ([] : List (Addr × Obj)) from hp) (by simp), e0.hok.kept hk, ?_⟩
  · exact name_of_addr x.apart (PySem.mem_of_lookup h1) (PySem.mem_of_lookup h2)
  · have hy : scope.names.lookup y = some .cell ∨ scope.names.lookup y = some .free := hy
    rcases hy with hy | hy
    · exact cell_has hy
    · exact absurd rfl (S.nofree _ (PySem.mem_of_lookup hy))
  · exact Nat.le_of_lt (x.above y c (PySem.mem_of_lookup h))
  · have hi : i < vs.length := by
      unfold start at h2
      by_cases hi : i < vs.length
      · exact hi
      · rw [List.getElem?_append_right (by simpa using hi)] at h2
        rw [List.getElem?_replicate] at h2
        split at h2 <;> cases h2
    have ha : vs[i]? = some v := by
      unfold start at h2
      rw [List.getElem?_append_left (by simpa using hi), List.getElem?_map] at h2
      cases e : vs[i]? with
      | none => rw [e] at h2; cases h2
      | some a => rw [e] at h2; cases h2; rfl
    obtain ⟨u, hu, rv⟩ := r.get ha
    have hp : ps[i]? = some y := by
      rw [← S.pre, List.getElem?_take_of_lt (by omega)]; exact h1
    have ndP : ps.Nodup := by rw [← S.pre]; exact S.nd.sublist (List.take_sublist _ _)
    refine ⟨u, rv, ?_⟩
    rcases S.par y (List.mem_of_getElem? hp) with k | k
    · exact .inl ⟨k, bindL_get ndP hp hu k⟩
    · obtain ⟨c, e⟩ := cell_has (n := s.heap.objs.size + 1) k
      refine .inr ⟨.inl k, c, e, ?_⟩
      have q := x.cell y c e
      rw [bindC_get ndP hp hu (by show scope.names.lookup y ≠ _; rw [k]; decide)] at q
      exact q
  · exact e0.hok.fresh (Nat.le_of_lt (x.above y c (PySem.mem_of_lookup h)))
  · unfold start
    show _ = N.length
    rw [List.length_append, List.length_map, List.length_replicate]
    omega

/-- THE RULE: a def (or a method) of the text, by its body. The body's reading t is chosen for each entry; it is run at the parameters' values -/
theorem fn_of {CX : CXT} {P : Program} {w : World} {K : PySem.W.Frag} {mg : Str → Option Value} {base : Heap} {k : Nat} {f : Addr} {name qual : Str} {params : Arguments} {body : List Stmt} {scope : Scope} {dV kV doc pm cdv ct oc : Value} {an od : Option Addr}
    {osl : Array (Option Value)} {N ps : List Str} {sp : Sp} (lk : K.lookup f = some ⟨oc, od, .func (PySem.W.fnOf name qual params body scope dV kV doc pm an cdv ct), osl⟩) (hcd : PySem.W.codeIn K cdv qual = true) (S : FnScope N ps scope)
    (len : ∀ vs H Q E, sp vs H Q E → vs.length = ps.length)
    (hbody : ∀ (A : Around) (outer : List Env) (s : Shared) (H : Hp) (vs : List V) (Q : VK) (E : XK), Room k (A.deeper (envOfC qual scope s.heap.objs.size f cdv)) → sp vs H Q E →
      ∃ t, PSs (cxOf CX P w K mg base N qual scope f cdv A outer s H E) body t ∧ t { nx := fun _ H' => Q .non H', rt := Q } (start N vs) H) :
    FnOk P w K mg base CX (k + 1) f (PySem.W.fnOf name qual params body scope dV kV doc pm an cdv ct) ps sp := by
  refine ⟨len, fun A outer s H args us vs Q E hr e0 hb r hsp => ?_⟩
  have hl := len _ _ _ _ hsp
  have KX : K.In s.heap := e0.mod.kin.keeps fun b o e => (e0.bs b o e).1
  have lim : s.heap.NoLimit := e0.mod.nolimit.keeps fun b o e => (e0.bs b o e).1
  have hkind : ∀ y ∈ ps.zip us, scope.names.lookup y.1 = some .local ∨ (scope.names.lookup y.1 = some .cell ∧ ((cellsFrom (s.heap.objs.size + 1) scope.names []).lookup y.1).isSome = true) := fun ⟨n, v⟩ hy => by
    rcases S.par n (List.of_mem_zip hy).1 with q | q
    · exact .inl q
    · exact .inr ⟨q, PySem.W.cellsFrom_some _ _ _ (.inl q)⟩
  refine codeAny_call_function hr.depth (KX _ _ lk) rfl S.co S.gen rfl (PySem.W.codeRec_of KX hcd) (hb _ _ _ _ ?_)
  refine wpAny_newFunctionEnv_cells S.kind hkind fun env he s1 x => ?_
  subst he
  refine ⟨lim.keeps x.toInCall.keep, codeAny_func ?_⟩
  obtain ⟨t, ht, hq⟩ := hbody A outer s H vs Q E (hr.deeper _) hsp
  have I : Inv (cxOf CX P w K mg base N qual scope f cdv A outer s H E) [] (start N vs) H s1 := inv_start S hr.hd e0 hl r x
  refine wpAny_mono (ht [] s1 (start N vs) H _ I hq) (fun fl s' hs => ?_) fun e s' hs => hs
  have fin : ∀ {σ' : St} {H' : Hp} {v : V} {u : Value}, Inv (cxOf CX P w K mg base N qual scope f cdv A outer s H E) [] σ' H' s' → RelV v u → Q v H' → CE outer P w H s Q u s' :=
    fun {σ' H' v u} J rv q => ⟨v, H', J.os, J.bare, J.base, J.hok, rv, q⟩
  cases fl with
  | ret u =>
    obtain ⟨v, σ', H', J, rv, q⟩ := hs
    exact fin J rv q
  | next =>
    obtain ⟨σ', H', J, q⟩ := hs
    exact fin (v := V.non) (u := Value.none) J rfl q
  | brk =>
    obtain ⟨_, _, _, q⟩ := hs
    exact False.elim q
  | cont =>
    obtain ⟨_, _, _, q⟩ := hs
    exact False.elim q
end L2

namespace L2
open PySem PySem.Spec PyProof.Rows
section
variable {X : Cx} {x : Str} {p pos : Pos} {e : Expr} {es : List Expr} {t : TA} {id T : String} {r : List V → Hp → VK → Prop}

def tCB (r : List V → Hp → VK → Prop) (t : TA) : TE := fun σ H Q => t σ H fun vs H1 => r vs H1 Q
/-- f(e, ..), f a built-in function -/
theorem pe_callB (hc : CallR X (.builtin id) r) (hg : Gl X x) (hm : X.mg x = none) (hv : bootBuiltins x = some (.builtin id)) (ha : PA X (e :: es) t) (hn : x ≠ "__name__" := by decide) (hdb : (x == ("__debug__" : Str)) = false := by decide)
    (he : starEach (e :: es) X.env = (false, eval e X.env) :: starEach es X.env := by rfl) (hpl : (backTo pos (starEach es X.env)).any (·.1) = false := by rfl) : PE X (.Call (.Name x p) (e :: es) [] pos) (tCB r t) := by
  intro pins s σ H Q I h
  refine wpAny_Call_Name_kw (ld_blt I hg hm hv ?_ hn hdb)
  exact PyProof.Rows.callWith_builtin1 (thn (ha pos pins s σ H _ I h) fun us s1 ⟨vs, H1, I1, r1, q1⟩ => hc pins s1 σ H1 vs us Q I1 r1 q1) he hpl
/-- T(e, ..), T a built-in type -/
theorem pe_callTy (hc : CallR X (.type T) r) (hg : Gl X x) (hm : X.mg x = none) (hv : bootBuiltins x = some (.type T)) (ha : PA X (e :: es) t) (hn : x ≠ "__name__" := by decide) (hdb : (x == ("__debug__" : Str)) = false := by decide)
    (he : starEach (e :: es) X.env = (false, eval e X.env) :: starEach es X.env := by rfl) (hpl : (backTo pos (starEach es X.env)).any (·.1) = false := by rfl) : PE X (.Call (.Name x p) (e :: es) [] pos) (tCB r t) := by
  intro pins s σ H Q I h
  refine wpAny_Call_Name_kw (ld_blt I hg hm hv ?_ hn hdb)
  exact PyProof.Rows.callWith_type1 (thn (ha pos pins s σ H _ I h) fun us s1 ⟨vs, H1, I1, r1, q1⟩ => hc pins s1 σ H1 vs us Q I1 r1 q1) he hpl
end
end L2

namespace HT
open PySem PyProof.Rows

section
open PySem.SeqAt
open PySem.AutoSeq1 (wpAny_loadPart')
open PySem.MeetsSeq PySem.MeetsSeq2 PySem.MeetsSeq3

end

section
variable {prog : Program} {w : World} {A : Around} {E : Value → Shared → Prop} {s : Shared}

/-! ### t[a:b], not the whole -/
/-- a slice's bound as a place among n (d where it is left out) -/
def sIx (n d : Nat) : Option Int → Nat
  | none => d
  | some v => if v < 0 then (v + (n : Int)).toNat else min v.toNat n
theorem sIx_none (n d : Nat) : sIx n d none = d := rfl
theorem sIx_nat (n d k : Nat) : sIx n d (some (k : Int)) = min k n := by
  show (if (k : Int) < 0 then ((k : Int) + (n : Int)).toNat else min (k : Int).toNat n) = min k n
  rw [if_neg (by omega), Int.toNat_natCast]

end
end HT

namespace L2
open PySem PySem.Spec PyProof.Rows

/-! ### the parts of a slice -/
abbrev TO := St → Hp → (Option Int → Hp → Prop) → Prop
/-- a slice's part (left out, or an int) -/
def PO (X : Cx) (e : Option Expr) (t : TO) : Prop :=
  ∀ (pins : List (Addr × Obj)) (s : Shared) (σ : St) (H : Hp) (Q : Option Int → Hp → Prop), Inv X pins σ H s → t σ H Q →
    wpAny (model X.prog X.w) X.A (evalPart e X.env) (fun u s' => ∃ o H', Inv X pins σ H' s' ∧ IsPart u o ∧ Q o H') X.xe s
def tNoPart : TO := fun _ H Q => Q none H
def tPart (t : TE) : TO := fun σ H Q => t σ H fun x H1 => ∃ i, x = .int i ∧ Q (some i) H1

section
variable {X : Cx} {e : Expr} {te : TE} {lo hi : Option Expr} {tl th : TO} {pos p2 : Pos}

theorem po_none : PO X none tNoPart := by
  intro pins s σ H Q I h
  rw [evalPart_none]
  exact wpAny_pure ⟨none, H, I, .none, h⟩
theorem po_some (h : PE X e te) : PO X (some e) (tPart te) := by
  intro pins s σ H Q I hw
  rw [evalPart_some]
  refine thn (h pins s σ H _ I hw) fun u s1 ⟨x, H1, I1, r1, q1⟩ => ?_
  obtain ⟨i, rfl, q⟩ := q1
  obtain ⟨t, rfl⟩ := r1
  exact ⟨some i, H1, I1, .int i t, q⟩

/-- what a slice of a value is, by values: the slice object stands at sl -/
def SlR (X : Cx) (r : V → Option Int → Option Int → Hp → VK → Prop) : Prop :=
  ∀ (pins : List (Addr × Obj)) (s : Shared) (σ : St) (H : Hp) (x : V) (v vl vu : Value) (lo hi : Option Int) (sl : Addr) (Q : VK), Inv X pins σ H s → RelV x v → s.heap.IsSliceOf sl vl vu .none → IsPart vl lo → IsPart vu hi → r x lo hi H Q →
    ∃ T id, typeLookup (.type T) "__getitem__" = pure (some (.builtin id)) ∧ s.TypeIs v T ∧ wpAny (model X.prog X.w) X.A (getItem v (.ref sl)) (EP X pins σ Q) X.xe s
def tSl (r : V → Option Int → Option Int → Hp → VK → Prop) (te : TE) (tl th : TO) : TE := fun σ H Q => te σ H fun x H1 => tl σ H1 fun l H2 => th σ H2 fun u H3 => r x l u H3 Q
/-- a[lo:hi], any a -/
theorem pe_slice {r : V → Option Int → Option Int → Hp → VK → Prop} (hr : SlR X r) (he : PE X e te) (hl : PO X lo tl) (hu : PO X hi th) : PE X (.Subscript e (.Slice lo hi none p2) pos) (tSl r te tl th) := by
  intro pins s σ H Q I h
  refine Subscript_ (thn (he pins s σ H _ I h) fun v s1 ⟨x, H1, I1, r1, q1⟩ => ?_)
  refine wpAny_Slice (thn (hl pins s1 σ H1 _ I1 q1) fun vl s2 ⟨l, H2, I2, pl, q2⟩ => thn (hu pins s2 σ H2 _ I2 q2) fun vu s3 ⟨u, H3, I3, pu, q3⟩ => ?_)
  rw [evalPart_none]
  refine wpAny_pure ?_
  have I4 : Inv X pins σ H3 { s3 with heap := s3.heap.push { cls := .type "slice", data := .fields #[vl, vu, .none] } } := I3.kept (t' := s3.toks) fun b ob q => Heap.get?_push_of_some _ q
  obtain ⟨T, id, hT, ht, hg⟩ := hr pins { s3 with heap := s3.heap.push { cls := .type "slice", data := .fields #[vl, vu, .none] } } σ H3 x v vl vu l u s3.heap.objs.size Q I4 r1 (Heap.IsSliceOf.new ..) pl pu q3
  show wpAny (model X.prog X.w) X.A (subscriptTail e (.Slice lo hi none p2) v (.ref s3.heap.objs.size)) (EP X pins σ Q) X.xe { s3 with heap := s3.heap.push { cls := .type "slice", data := .fields #[vl, vu, .none] } }
  exact tail_any (ops := [.ref s3.heap.objs.size, v]) ht hT hg (by with_unfolding_all rfl)

/-- the items of xs[lo:hi] -/
def cutV (xs : List V) (lo hi : Option Int) : List V := (xs.drop (HT.sIx xs.length 0 lo)).take (HT.sIx xs.length xs.length hi - HT.sIx xs.length 0 lo)
theorem cutV_length (xs : List V) (lo hi : Option Int) : (cutV xs lo hi).length ≤ xs.length := by
  unfold cutV
  rw [List.length_take, List.length_drop]
  omega

/-! ### t < u, t + u -/
end
end L2

namespace L2
open PySem PySem.Spec PyProof.Rows

/-! ### places -/
/-- the place that an index of any sign means -/
def ixN (n : Nat) (i : Int) : Option Nat := if 0 ≤ i then (if i < n then some i.toNat else none) else if -(n : Int) ≤ i then some (i + n).toNat else none
def atI {α : Type} (xs : List α) (i : Int) : Option α := (ixN xs.length i).bind fun j => xs[j]?
theorem ixN_seq {n : Nat} {i : Int} {j : Nat} (h : ixN n i = some j) : seqIndex? i n = some j ∧ j < n ∧ -(n : Int) ≤ i ∧ i < n := by
  unfold ixN at h
  by_cases h0 : 0 ≤ i
  · rw [if_pos h0] at h
    by_cases h1 : i < n
    · rw [if_pos h1] at h
      have e : i.toNat = j := Option.some.inj h
      exact ⟨by rw [seqIndex_of h0 h1, e], by omega, by omega, h1⟩
    · rw [if_neg h1] at h; cases h
  · rw [if_neg h0] at h
    by_cases h1 : -(n : Int) ≤ i
    · rw [if_pos h1] at h
      have e : (i + n).toNat = j := Option.some.inj h
      exact ⟨by rw [seqIndex_neg (by omega) h1, e], by omega, h1, by omega⟩
    · rw [if_neg h1] at h; cases h
theorem atI_get {α : Type} {xs : List α} {i : Int} {v : α} (h : atI xs i = some v) : ∃ j, seqIndex? i xs.length = some j ∧ xs[j]? = some v ∧ j < xs.length ∧ -(xs.length : Int) ≤ i ∧ i < xs.length := by
  unfold atI at h
  cases e : ixN xs.length i with
  | none => rw [e] at h; cases h
  | some j =>
    rw [e] at h
    obtain ⟨h1, h2, h3, h4⟩ := ixN_seq e
    exact ⟨j, h1, h, h2, h3, h4⟩
theorem atI_nat {α : Type} {xs : List α} {j : Nat} {v : α} (h : xs[j]? = some v) : atI xs (j : Int) = some v := by
  have hj : j < xs.length := (List.getElem?_eq_some_iff.mp h).1
  have e : ixN xs.length (j : Int) = some j := by
    unfold ixN
    rw [if_pos (by omega), if_pos (by omega)]; simp
  unfold atI; rw [e]; exact h
theorem atI_last {α : Type} (xs : List α) (v : α) : atI (xs ++ [v]) (-1) = some v := by
  have hl : (xs ++ [v]).length = xs.length + 1 := by simp
  have e : ixN (xs ++ [v]).length (-1) = some xs.length := by
    unfold ixN
    rw [hl, if_neg (by decide), if_pos (by omega)]
    congr 1
    omega
  unfold atI
  rw [e]
  show (xs ++ [v])[xs.length]? = some v
  simp

/-! ### what may be subscripted -/
/-- what stands as an index of a plain subscript -/
def PlainIx (b : Expr) : Prop := ∀ o i, subscripted b false o i = operate [o, i] (getItem o i)
/-- a subscript by values -/
def IxR (X : Cx) (r : R2) : Prop :=
  ∀ (value slice : Expr) (pins : List (Addr × Obj)) (s : Shared) (σ : St) (H : Hp) (x y : V) (v u : Value) (Q : VK), Inv X pins σ H s → RelV x v → RelV y u → r x y H Q →
    subscripted slice false v u = operate [v, u] (getItem v u) → wpAny (model X.prog X.w) X.A (subscriptTail value slice v u) (EP X pins σ Q) X.xe s
/-- a call of a builtin's method by values: the receiver, the arguments -/
def MtR (X : Cx) (id : String) (r : V → List V → Hp → VK → Prop) : Prop :=
  ∀ (pins : List (Addr × Obj)) (s : Shared) (σ : St) (H : Hp) (x : V) (xs : List V) (v : Value) (us : List Value) (Q : VK), Inv X pins σ H s → RelV x v → Vals xs us → r x xs H Q →
    wpAny (model X.prog X.w) X.A (call (.builtin id) (v :: us)) (EP X pins σ Q) X.xe s
section
variable {X : Cx} {a b : Expr} {ta tb : TE} {pos : Pos}
/-- a[b] -/
theorem pe_ix {r : R2} (hr : IxR X r) (ha : PE X a ta) (hb : PE X b tb) (hs : PlainIx b) : PE X (.Subscript a b pos) (tOp r ta tb) := by
  intro pins s σ H Q I h
  exact Subscript_ (binT ha hb I h fun v u s2 x y H2 I2 rx ry q => hr a b pins s2 σ H2 x y v u Q I2 rx ry q (hs _ _))

def rIxL (K : PySem.W.Frag) : R2 := fun x y H Q => ∃ p xs i v, x = .ref p ∧ y = .int i ∧ SqL K H p xs ∧ atI xs i = some v ∧ Q v H
def rIxT (K : PySem.W.Frag) : R2 := fun x y H Q => ∃ p xs i v, x = .ref p ∧ y = .int i ∧ SqT K H p xs ∧ atI xs i = some v ∧ Q v H
theorem ix_list : IxR X (rIxL X.K) := by
  intro value slice pins s σ H x y v u Q I rx ry h hs
  obtain ⟨p, xs, i, z, rfl, rfl, hq, he, q⟩ := h
  cases rx
  obtain ⟨t, rfl⟩ := ry
  obtain ⟨its, r, pl, hz⟩ := I.list hq
  obtain ⟨j, h1, h2, h3, h4, h5⟩ := atI_get he
  obtain ⟨w, ew, rw'⟩ := r.get h2
  have hl := r.length
  have hn := line63
  have fin : EP X pins σ Q w s := ⟨z, H, I, rw', q⟩
  by_cases h0 : 0 ≤ i
  · have hj : i.toNat = j := by
      rw [seqIndex_of h0 h5] at h1
      exact Option.some.inj h1
    exact item_listR pl.isList h0 (by omega) (by rw [hj]; simpa using ew) fin hs
  · have hj : (i + (its.toArray.size : Int)).toNat = j := by
      rw [seqIndex_neg (by omega) h4] at h1
      rw [List.size_toArray, ← hl]
      exact Option.some.inj h1
    exact subscriptTail_builtinR (x := w) pl.isList.typeIs slot_list_getitem.lookup
      (wpAny_getItem_list_neg (Q := fun r s' => r = w ∧ EP X pins σ Q r s') pl.isList (by omega) (by rw [List.size_toArray] <;> omega) (by omega) (by rw [hj]; simpa using ew) ⟨rfl, fin⟩) hs
theorem ix_tup : IxR X (rIxT X.K) := by
  intro value slice pins s σ H x y v u Q I rx ry h hs
  obtain ⟨p, xs, i, z, rfl, rfl, hq, he, q⟩ := h
  cases rx
  obtain ⟨t, rfl⟩ := ry
  obtain ⟨its, r, pl, hz⟩ := I.tuple hq
  obtain ⟨j, h1, h2, h3, h4, h5⟩ := atI_get he
  obtain ⟨w, ew, rw'⟩ := r.get h2
  have hl := r.length
  have hn := line63
  have fin : EP X pins σ Q w s := ⟨z, H, I, rw', q⟩
  exact subscriptTail_builtinR (x := w) pl.typeIs slot_tuple_getitem.lookup
    (getItem_tuple (j := j) (Q := fun r s' => r = w ∧ EP X pins σ Q r s') pl (by omega) (by omega) (by rw [List.size_toArray, ← hl]; exact h1) (by simpa using ew) ⟨rfl, fin⟩) hs

/-! ### xs[i] = v, any sign -/

/-! ### slices -/
theorem slice_bounds (lo hi : Option Int) (n : Nat) : (sliceBounds lo hi none n).1 = ((HT.sIx n 0 lo : Nat) : Int) ∧ (sliceBounds lo hi none n).2.1 = ((HT.sIx n n hi : Nat) : Int) ∧ (sliceBounds lo hi none n).2.2 = 1 := by
  refine ⟨?_, ?_, rfl⟩
  · cases lo with
    | none => simp [sliceBounds, HT.sIx]
    | some i =>
      simp only [sliceBounds, HT.sIx, Option.getD_none, show (1 : Int) > 0 by decide, if_true]
      by_cases h : i < 0
      · simp only [h, if_true] <;> omega
      · simp only [h, if_false] <;> omega
  · cases hi with
    | none => simp [sliceBounds, HT.sIx]
    | some i =>
      simp only [sliceBounds, HT.sIx, Option.getD_none, show (1 : Int) > 0 by decide, if_true]
      by_cases h : i < 0
      · simp only [h, if_true] <;> omega
      · simp only [h, if_false] <;> omega
theorem slicePick_cut (its : List Value) (lo hi : Option Int) : slicePick its.toArray lo hi none = ((its.drop (HT.sIx its.length 0 lo)).take (HT.sIx its.length its.length hi - HT.sIx its.length 0 lo)).toArray := by
  obtain ⟨h1, h2, h3⟩ := slice_bounds lo hi its.toArray.size
  unfold slicePick
  rw [h1, h2, h3]
  simp only [sliceRange_one, pick_run, List.size_toArray] <;> rfl
/-- xs[lo:hi] of a list: a new list -/
def rSlL (K : PySem.W.Frag) : V → Option Int → Option Int → Hp → VK → Prop := fun x lo hi H Q => ∃ a xs, x = .ref a ∧ SqL K H a xs ∧ ∀ p, H p = none → Q (.ref p) (upd H p (.lst (cutV xs lo hi)))
theorem sl_list : SlR X (rSlL X.K) := by
  intro pins s σ H x v vl vu lo hi sl Q I rx hs pl pu h
  obtain ⟨a, xs, rfl, hx, q⟩ := h
  cases rx
  obtain ⟨its, r, ht, hz⟩ := I.list hx
  have hlen := r.length
  refine ⟨"list", _, slot_list_getitem.lookup, ht.isList.typeIs, ?_⟩
  refine wpAny_getItem_list_slice ht.isList hs pl pu .none (by simp) ?_ (by rw [List.size_toArray] <;> omega)
  rw [slicePick_cut, ← hlen]
  refine ⟨.ref s.heap.objs.size, _, I.laid (t' := s.toks) (o := .lst (cutV xs lo hi)) (fun b ob q => Heap.get?_push_of_some _ q) (Nat.le_refl _) ?_, rfl, q _ (I.hok.fresh (Nat.le_refl _))⟩
  exact ⟨Nat.le_trans (cutV_length xs lo hi) hz, _, 0, (r.drop (HT.sIx xs.length 0 lo)).take (HT.sIx xs.length xs.length hi - HT.sIx xs.length 0 lo), Heap.get?_push_size _ rfl⟩

/-! ### in, not in: flat items -/
def flatV : V → Bool
  | .non => true
  | .bl _ => true
  | .int _ => true
  | .str _ => true
  | _ => false
/-- == of flat values -/
def eqV : V → V → Bool
  | .non, .non => true
  | .bl a, .bl b => a == b
  | .bl a, .int b => (if a then 1 else 0) == b
  | .int a, .bl b => a == (if b then 1 else 0)
  | .int a, .int b => a == b
  | .str a, .str b => a == b
  | _, _ => false
theorem eqAt_V {A : Around} {s : Shared} {y x : V} {u v : Value} (ry : RelV y u) (rx : RelV x v) (fy : flatV y = true) (fx : flatV x = true) : SeqAt.EqAt A s u v (eqV y x) := by
  cases y with
  | non =>
    cases ry
    cases x with
    | non => cases rx; exact SeqAt.EqAt.same _
    | bl b => cases rx; exact SeqAt.EqAt.none_bool b
    | int b => obtain ⟨t, rfl⟩ := rx; exact SeqAt.EqAt.none_int b t
    | str b => obtain ⟨t, rfl⟩ := rx; exact SeqAt.EqAt.none_str b t
    | _ => exact absurd (show false = true from fx) Bool.false_ne_true
  | bl a =>
    cases ry
    cases x with
    | non => cases rx; exact SeqAt.EqAt.bool_none a
    | bl b => cases rx; exact SeqAt.EqAt.bool_bool a b
    | int b => obtain ⟨t, rfl⟩ := rx; exact SeqAt.EqAt.bool_int a b t
    | str b => obtain ⟨t, rfl⟩ := rx; exact SeqAt.EqAt.bool_str a b t
    | _ => exact absurd (show false = true from fx) Bool.false_ne_true
  | int a =>
    obtain ⟨t', rfl⟩ := ry
    cases x with
    | non => cases rx; exact SeqAt.EqAt.int_none a t'
    | bl b => cases rx; exact SeqAt.EqAt.int_bool a t' b
    | int b => obtain ⟨t, rfl⟩ := rx; exact SeqAt.EqAt.int_int a t' b t
    | str b => obtain ⟨t, rfl⟩ := rx; exact SeqAt.EqAt.int_str a t' b t
    | _ => exact absurd (show false = true from fx) Bool.false_ne_true
  | str a =>
    obtain ⟨t', rfl⟩ := ry
    cases x with
    | non => cases rx; exact SeqAt.EqAt.str_none a t'
    | bl b => cases rx; exact SeqAt.EqAt.str_bool a t' b
    | int b => obtain ⟨t, rfl⟩ := rx; exact SeqAt.EqAt.str_int a t' b t
    | str b => obtain ⟨t, rfl⟩ := rx; exact SeqAt.EqAt.str_str a t' b t
    | _ => exact absurd (show false = true from fx) Bool.false_ne_true
  | _ => exact absurd (show false = true from fy) Bool.false_ne_true
/-- the items' answers, read off the values (a value's own answer does not lean on its token) -/
def eqU (x : V) (u : Value) : Bool := match u with
  | .none => eqV .non x
  | .bool b => eqV (.bl b) x
  | .int i _ => eqV (.int i) x
  | .str z _ => eqV (.str z) x
  | _ => false
theorem eqU_of {x y : V} {u : Value} (r : RelV y u) (f : flatV y = true) : eqU x u = eqV y x := by
  cases y with
  | non => cases r; rfl
  | bl b => cases r; rfl
  | int i => obtain ⟨t, rfl⟩ := r; rfl
  | str z => obtain ⟨t, rfl⟩ := r; rfl
  | _ => exact absurd (show false = true from f) Bool.false_ne_true
theorem any_eqU {x : V} : ∀ {xs : List V} {us : List Value}, Vals xs us → xs.all flatV = true → us.any (eqU x) = xs.any fun y => eqV y x
  | _, _, .nil, _ => rfl
  | y :: xs, u :: us, .cons r t, f => by
    rw [List.all_cons, Bool.and_eq_true] at f
    rw [List.any_cons, List.any_cons, eqU_of r f.1, any_eqU t f.2]
theorem mem_eqAt {A : Around} {s : Shared} {x : V} {v : Value} (rx : RelV x v) (fx : flatV x = true) : ∀ {xs : List V} {us : List Value}, Vals xs us → xs.all flatV = true → ∀ u ∈ us, SeqAt.EqAt A s u v (eqU x u)
  | _, _, .nil, _ => fun u hu => by cases hu
  | y :: xs, u :: us, .cons r t, f => fun u' hu => by
    rw [List.all_cons, Bool.and_eq_true] at f
    rcases List.mem_cons.mp hu with rfl | hu
    · rw [eqU_of r f.1]; exact eqAt_V r rx f.1 fx
    · exact mem_eqAt rx fx t f.2 u' hu
def inV (x : V) (xs : List V) : Bool := xs.any fun y => eqV y x
/-- x in a list or tuple of flat items -/
def rIn (K : PySem.W.Frag) (neg : Bool) : R2 := fun x y H Q => ∃ p xs, y = .ref p ∧ (SqL K H p xs ∨ SqT K H p xs) ∧ flatV x = true ∧ xs.all flatV = true ∧ Q (.bl (if neg then !inV x xs else inV x xs)) H
theorem op_in_seq : OpR X (compareOp .In) (rIn X.K false) := by
  intro pins s σ H x y v u Q I rx ry h
  obtain ⟨p, xs, rfl, hq, fx, fs, q⟩ := h
  cases ry
  rcases hq with hq | hq
  · obtain ⟨its, r, pl, hz⟩ := I.list hq
    refine SeqAt.in_listAt (eqU x) pl.isList (fun w hw => mem_eqAt rx fx r fs w (by simpa using hw)) ⟨.bl _, H, I, rfl, ?_⟩
    rw [show its.toArray.any (eqU x) = its.any (eqU x) by simp, any_eqU r fs]
    exact q
  · obtain ⟨its, r, pl, hz⟩ := I.tuple hq
    refine SeqAt.in_tupleAt (eqU x) pl (fun w hw => mem_eqAt rx fx r fs w (by simpa using hw)) ⟨.bl _, H, I, rfl, ?_⟩
    rw [show its.toArray.any (eqU x) = its.any (eqU x) by simp, any_eqU r fs]
    exact q

/-! ### len, list(x), tuple(x) of any list or tuple that is read -/
theorem call_len_seq : CallR X (.builtin "len") (fun xs H Q => ∃ p ys, xs = [.ref p] ∧ (SqL X.K H p ys ∨ SqT X.K H p ys) ∧ Q (.int ys.length) H) := by
  intro pins s σ H xs us Q I r h
  obtain ⟨p, ys, rfl, hq, q⟩ := h
  obtain ⟨u, rfl, rx⟩ := vals1 r
  cases rx
  have hn := line63
  rcases hq with hq | hq
  · obtain ⟨its, r', pl, hz⟩ := I.list hq
    have hlen := r'.length
    exact Calls.call_len_list pl.isList (by simp only [List.size_toArray] <;> omega) ⟨.int ys.length, H, I.tok _, ⟨s.toks + 1, by rw [List.size_toArray, hlen]⟩, q⟩
  · obtain ⟨its, r', pl, hz⟩ := I.tuple hq
    have hlen := r'.length
    exact len_tuple pl (by simp only [List.size_toArray] <;> omega) ⟨.int ys.length, H, I.tok _, ⟨s.toks + 1, by rw [List.size_toArray, hlen]⟩, q⟩
theorem call_tuple_of : CallR X (.type "tuple") (fun xs H Q => ∃ p ys, xs = [.ref p] ∧ ((SqL X.K H p ys ∧ ∀ l, H l = none → Q (.ref l) (upd H l (.tup ys))) ∨ (SqT X.K H p ys ∧ Q (.ref p) H))) := by
  intro pins s σ H xs us Q I r h
  obtain ⟨p, ys, rfl, h⟩ := h
  obtain ⟨u, rfl, rx⟩ := vals1 r
  cases rx
  rcases h with ⟨hq, q⟩ | ⟨hq, q⟩
  · obtain ⟨its, r', pl, hz⟩ := I.list hq
    have hlen := r'.length
    refine call_tuple_list pl.isList (fun h' kp => ?_) (by simp only [List.size_toArray] <;> omega)
    have I1 : Inv X pins σ H { s with heap := h' } := I.kept (t' := s.toks) kp
    have I2 : Inv X pins σ (upd H h'.objs.size (.tup ys)) { s with heap := h'.push { cls := .type "tuple", data := .seq its.toArray } } :=
      I1.laid (t' := s.toks) (fun b o e => Heap.get?_push_of_some _ e) (Nat.le_refl _) (show ObjOk X.prog X.w _ _ _ (.tup ys) from ⟨hz, its, r', IsTup.new _ _⟩)
    exact ⟨.ref h'.objs.size, _, I2, rfl, q _ (I1.hok.fresh (Nat.le_refl _))⟩
  · obtain ⟨its, r', pl, hz⟩ := I.tuple hq
    exact call_tuple_same pl ⟨.ref p, H, I, rfl, q⟩

/-! ### the call of a builtin's method: o.m(..) -/
/-- the value is of that builtin type -/
def tyV (K : PySem.W.Frag) (T : String) (x : V) (H : Hp) : Prop := match x with
  | .str _ => T = "str"
  | .int _ => T = "int"
  | .ref p => (T = "list" ∧ ∃ xs, SqL K H p xs) ∨ (T = "tuple" ∧ ∃ o, K.lookup p = some o ∧ o.cls = .type "tuple" ∧ o.dict = none) ∨
      (T = "dict" ∧ ((∃ kvs, H p = some (.dK kvs)) ∨ ∃ kvs, H p = some (.dT kvs))) ∨ (T = "set" ∧ ∃ S n, H p = some (.set S n))
  | _ => False
theorem tyV_is {pins : List (Addr × Obj)} {σ : St} {H : Hp} {s : Shared} {T : String} {x : V} {v : Value} (I : Inv X pins σ H s) (r : RelV x v) (ty : tyV X.K T x H) :
    s.TypeIs v T ∧ ∀ a, v = .ref a → ∃ ob, s.heap.get? a = some ob ∧ ob.dict = none := by
  cases x with
  | str z =>
    obtain ⟨t, rfl⟩ := r
    cases (show T = "str" from ty)
    exact ⟨typeIs_str s z t, fun _ e => nomatch e⟩
  | int i =>
    obtain ⟨t, rfl⟩ := r
    cases (show T = "int" from ty)
    exact ⟨typeIs_int s i t, fun _ e => nomatch e⟩
  | ref p =>
    cases r
    rcases ty with ⟨rfl, xs, hq⟩ | ⟨rfl, o, hk, hc, hd⟩ | ⟨rfl, hk⟩ | ⟨rfl, S, n, hk⟩
    · obtain ⟨its, _, pl, _⟩ := I.list hq
      refine ⟨pl.isList.typeIs, fun a e => ?_⟩
      cases e
      obtain ⟨o, n, e, c, hd, _⟩ := pl
      exact ⟨o, e, hd⟩
    · refine ⟨⟨o, I.kIn p o hk, hc⟩, fun a e => ?_⟩
      cases e
      exact ⟨o, I.kIn _ o hk, hd⟩
    · have z : ∃ o, s.heap.get? p = some o ∧ o.ExactDict := by
        rcases hk with ⟨kvs, hk⟩ | ⟨kvs, hk⟩
        · obtain ⟨_, _, _, _, o, _, _, e, ex, _⟩ := I.hok p _ hk
          exact ⟨o, e, ex⟩
        · obtain ⟨_, _, _, _, o, _, _, e, ex, _⟩ := I.hok p _ hk
          exact ⟨o, e, ex⟩
      obtain ⟨o, e, ex⟩ := z
      refine ⟨⟨o, e, ex.1⟩, fun a e2 => ?_⟩
      cases e2
      exact ⟨o, e, ex.2.1⟩
    · obtain ⟨o, _, _, _, e, ex, _⟩ := I.hok p _ hk
      refine ⟨⟨o, e, ex.1⟩, fun a e2 => ?_⟩
      cases e2
      exact ⟨o, e, ex.2.1⟩
  | _ => exact False.elim ty
def tBM0 (K : PySem.W.Frag) (T : String) (r : V → List V → Hp → VK → Prop) (to : TE) : TE := fun σ H Q => to σ H fun x H1 => tyV K T x H1 ∧ r x [] H1 Q
def tBM (K : PySem.W.Frag) (T : String) (r : V → List V → Hp → VK → Prop) (to : TE) (t : TA) : TE := fun σ H Q => to σ H fun x H1 => tyV K T x H1 ∧ t σ H1 fun xs H2 => r x xs H2 Q
variable {o e : Expr} {es : List Expr} {to : TE} {t : TA} {name : Str} {apos cpos : Pos} {T id : String} {r : V → List V → Hp → VK → Prop}
theorem pe_bm0 (pa : PlainAttrs T) (slot : Slot T name id) (hty : typeOf (.builtin id) = pure (.type "method_descriptor")) (hm : MtR X id r) (ho : PE X o to)
    (hbase : attributeBase o name X.env (eval o X.env) = eval o X.env := by rfl) (hline : (apos.endLine == cpos.line) = true := by rfl) : PE X (.Call (.Attribute o name apos) [] [] cpos) (tBM0 X.K T r to) := by
  intro pins s σ H Q I h
  refine wpAny_Call_method0_late hbase hline (thn (ho pins s σ H _ I h) fun v s1 ⟨x, H1, I1, r1, ty, q1⟩ => ?_)
  obtain ⟨h1, h2⟩ := tyV_is I1 r1 ty
  exact ⟨T, id, pa, slot, hty, h1, h2, Calls.callWith_builtin rfl (PySem.evalArgs_none (hm pins s1 σ H1 x [] v [] Q I1 r1 .nil q1))⟩
theorem pe_bm (pa : PlainAttrs T) (slot : Slot T name id) (hty : typeOf (.builtin id) = pure (.type "method_descriptor")) (hm : MtR X id r) (ho : PE X o to) (ha : PA X (e :: es) t)
    (hbase : attributeBase o name X.env (eval o X.env) = eval o X.env := by rfl)
    (hfew : ((backTo cpos (starEach (e :: es) X.env)).all (fun x => !x.1) && (backToKw cpos (keywordEach [] X.env)).all (fun x => x.1.isSome)
      && decide ((e :: es).length + ([] : List Keyword).length + (if ([] : List Keyword).isEmpty then 0 else 1) < 30)) = true := by rfl)
    (hline : (apos.endLine == cpos.line) = true := by rfl) (hs : starEach (e :: es) X.env = (false, eval e X.env) :: starEach es X.env := by rfl) (hplain : (backTo cpos (starEach es X.env)).any (·.1) = false := by rfl) :
    PE X (.Call (.Attribute o name apos) (e :: es) [] cpos) (tBM X.K T r to t) := by
  intro pins s σ H Q I h
  refine wpAny_Call_method_late hbase hfew hline rfl (thn (ho pins s σ H _ I h) fun v s1 ⟨x, H1, I1, r1, ty, q1⟩ => ?_)
  obtain ⟨h1, h2⟩ := tyV_is I1 r1 ty
  refine ⟨T, id, pa, slot, hty, h1, h2, ?_⟩
  have hA := ha cpos pins s1 σ H1 _ I1 q1
  rw [hs] at hA ⊢
  refine Calls.callWith_builtin (by show (false || (backTo cpos (starEach es X.env)).any (·.1)) = false; rw [hplain] <;> rfl) (Calls.evalArgs_plain ?_)
  exact thn hA fun us s2 ⟨vs, H2, I2, r2, q2⟩ => hm pins s2 σ H2 x vs v us Q I2 r1 r2 q2
/- xs.append(e), list.index on a module's tuple .. are MtR facts of 06m -/
end
end L2

namespace L2
open PySem PySem.Spec PyProof.Rows

def MtM (X : Cx) (id : String) (r : V → List V → Hp → VK → Prop) : Prop :=
  ∀ (pins : List (Addr × Obj)) (s : Shared) (σ : St) (H : Hp) (x : V) (xs : List V) (v : Value) (us : List Value) (Q : VK), Inv X pins σ H s → RelV x v → Vals xs us → r x xs H Q →
    wpAny (model X.prog X.w) X.A (call (.builtin id) (v :: us)) (EP X pins σ Q) X.xe s

/-! ### lists of values -/
theorem Vals.one : ∀ {x : V} {us : List Value}, Vals [x] us → ∃ u, us = [u] ∧ RelV x u
  | _, _, .cons r .nil => ⟨_, rfl, r⟩
theorem Vals.two : ∀ {x y : V} {us : List Value}, Vals [x, y] us → ∃ u v, us = [u, v] ∧ RelV x u ∧ RelV y v
  | _, _, _, .cons r (.cons q .nil) => ⟨_, _, rfl, r, q⟩
theorem Vals.zero : ∀ {us : List Value}, Vals [] us → us = []
  | _, .nil => rfl
theorem Vals.rep {xs : List V} {us : List Value} (h : Vals xs us) : ∀ k : Nat, Vals (List.replicate k xs).flatten (List.replicate k us).flatten
  | 0 => .nil
  | k + 1 => by
    rw [List.replicate_succ, List.replicate_succ, List.flatten_cons, List.flatten_cons]
    exact Vals.append h (Vals.rep h k)
theorem foldl_rep (its : List Value) : ∀ (k : Nat) (acc : List Value),
    List.foldl (fun x1 x2 => x1 ++ x2) acc.toArray (List.replicate k its.toArray) = (acc ++ (List.replicate k its).flatten).toArray
  | 0, acc => by simp
  | k + 1, acc => by
    have e : acc.toArray ++ its.toArray = (acc ++ its).toArray := by simp
    have e2 : (acc ++ its) ++ (List.replicate k its).flatten = acc ++ (List.replicate (k + 1) its).flatten := by
      rw [List.replicate_succ, List.flatten_cons, List.append_assoc]
    rw [← e2, ← foldl_rep its k (acc ++ its), ← e, List.replicate_succ, List.foldl_cons]

section
variable {X : Cx} {pins : List (Addr × Obj)} {σ : St} {H : Hp} {s : Shared} {l b : Addr} {xs ys zs : List V}

/-! ### the two steps: a tracked list is rewritten, a new list is laid -/
theorem Inv.lset {its its' : List Value} {n : Nat} {f : Array Value → Array Value} {t' : Nat} (I : Inv X pins σ H s) (hH : H l = some (.lst xs))
    (e : s.heap.get? l = some { cls := .type "list", data := .seq its.toArray n }) (hf : f its.toArray = its'.toArray) (hv : Vals ys its') (hz : ys.length ≤ sizeLine) :
    Inv X pins σ (upd H l (.lst ys)) { s with heap := s.heap.update l (Obj.mapSeq f), toks := t' } := by
  have q := PySem.IsL.update e f
  rw [hf] at q
  refine I.write (x := l) (e := l) (by rw [hH]; exact trivial) (.inl rfl) (fun b' u hb hu => (Heap.get?_update_other s.heap (Obj.mapSeq f) (Ne.symm hb)).trans hu) ⟨_, q⟩ ?_
  exact ⟨hz, its', _, hv, q⟩
theorem Inv.lnew {its : List Value} {t' : Nat} (I : Inv X pins σ H s) (hv : Vals ys its) (hz : ys.length ≤ sizeLine) :
    Inv X pins σ (upd H s.heap.objs.size (.lst ys)) { s with heap := s.heap.push { cls := .type "list", data := .seq its.toArray }, toks := t' } :=
  I.laid (fun _ _ q => Heap.get?_push_of_some _ q) (Nat.le_refl _) ⟨hz, its, 0, hv, Heap.get?_push_size _ rfl⟩
theorem Inv.fresh (I : Inv X pins σ H s) : H s.heap.objs.size = none := I.hok.fresh (Nat.le_refl _)
theorem Inv.lstM (I : Inv X pins σ H s) (hH : H l = some (.lst xs)) : xs.length ≤ sizeLine ∧ ∃ (its : List Value) (n : Nat), Vals xs its ∧ xs.length = its.length ∧ s.heap.get? l = some { cls := .type "list", data := .seq its.toArray n } := by
  obtain ⟨z, its, n, r, e⟩ := I.hok l _ hH
  exact ⟨z, its, n, r, r.length, e⟩

theorem notLongL {n : Nat} (h : n ≤ sizeLine) : Builtin.List.listTooLong n = false := by
  unfold Builtin.List.listTooLong
  exact decide_eq_false (by omega)
end

section
variable {X : Cx}

/-! ### methods -/
def rAppend : V → List V → Hp → VK → Prop := fun x vs H Q => ∃ l xs y, x = .ref l ∧ vs = [y] ∧ H l = some (.lst xs) ∧ xs.length < sizeLine ∧ Q .non (upd H l (.lst (xs ++ [y])))
theorem mt_append : MtM X "list.append" rAppend := by
  intro pins s σ H x vs v us Q I rx rv h
  obtain ⟨l, xs, y, rfl, rfl, hH, hz, q⟩ := h
  cases rx
  obtain ⟨u, rfl, ru⟩ := rv.one
  obtain ⟨z, its, n, r, hl, e⟩ := I.lstM hH
  refine call_meets F.slot_list_append ⟨_, e, rfl⟩ F.entry_list_append (F.args_list_append_2 _ _) (PySem.list_append l its.toArray n u (by rw [List.size_toArray]; omega)) ⟨e, ?_⟩
  refine ⟨.non, _, I.lset (its' := its ++ [u]) hH e (by simp) (r.append (.cons ru .nil)) ?_, rfl, q⟩
  rw [List.length_append, List.length_singleton]
  omega

def rExtend : V → List V → Hp → VK → Prop := fun x vs H Q => ∃ l b xs zs, x = .ref l ∧ vs = [.ref b] ∧ H l = some (.lst xs) ∧ H b = some (.lst zs) ∧ xs.length + zs.length ≤ sizeLine ∧ Q .non (upd H l (.lst (xs ++ zs)))
theorem mt_extend : MtM X "list.extend" rExtend := by
  intro pins s σ H x vs v us Q I rx rv h
  obtain ⟨l, b, xs, zs, rfl, rfl, hH, hB, hz, q⟩ := h
  cases rx
  obtain ⟨u, rfl, ru⟩ := rv.one
  cases ru
  obtain ⟨z, its, n, r, hl, e⟩ := I.lstM hH
  obtain ⟨z2, its2, n2, r2, hl2, e2⟩ := I.lstM hB
  have hsz : its.toArray.size + its2.toArray.size ≤ sizeLine := by rw [List.size_toArray, List.size_toArray]; omega
  have hlong : ¬ (!its.toArray.isEmpty && Builtin.List.listTooLong (its.toArray.size + its2.toArray.size)) = true := by
    rw [notLongL hsz, Bool.and_false]
    exact Bool.false_ne_true
  refine call_meets F.slot_list_extend ⟨_, e, rfl⟩ F.entry_list_extend (F.args_list_extend_2 _ _)
    (AutoSeq1.list_extend_list_list_0 l its.toArray n b its2.toArray n2 hlong (by rw [List.size_toArray]; omega) (by omega)) ⟨e, e2, ?_⟩
  refine ⟨.non, _, I.lset (its' := its ++ its2) hH e (by simp) (r.append r2) ?_, rfl, q⟩
  rw [List.length_append]
  omega

/-! ### list + list, list += list, list * int -/
def rCat : R2 := fun x y H Q => ∃ l b xs zs, x = .ref l ∧ y = .ref b ∧ H l = some (.lst xs) ∧ H b = some (.lst zs) ∧ xs.length + zs.length ≤ sizeLine ∧ ∀ p, H p = none → Q (.ref p) (upd H p (.lst (xs ++ zs)))
theorem op_cat : OpR X (binaryOp .Add) rCat := by
  intro pins s σ H x y v u Q I rx ry h
  obtain ⟨l, b, xs, zs, rfl, rfl, hH, hB, hz, q⟩ := h
  cases rx
  cases ry
  obtain ⟨z, its, n, r, hl, e⟩ := I.lstM hH
  obtain ⟨z2, its2, n2, r2, hl2, e2⟩ := I.lstM hB
  refine PySem.P.add_list e e2 ?_ (by rw [List.size_toArray, List.size_toArray]; omega)
  have ea : its.toArray ++ its2.toArray = (its ++ its2).toArray := by simp
  rw [ea]
  exact ⟨.ref _, _, I.lnew (t' := s.toks) (r.append r2) (by rw [List.length_append]; omega), rfl, q _ I.fresh⟩
/-- a list times an int (a negative one is nothing) -/
def rRep : R2 := fun x y H Q => ∃ l k xs, x = .ref l ∧ y = .int k ∧ H l = some (.lst xs) ∧ -(2 ^ 63) ≤ k ∧ k < 2 ^ 63 ∧ xs.length * k.toNat ≤ sizeLine ∧
  ∀ p, H p = none → Q (.ref p) (upd H p (.lst (List.replicate k.toNat xs).flatten))
theorem len_rep {α : Type} (xs : List α) (k : Nat) : (List.replicate k xs).flatten.length = k * xs.length := by
  induction k with
  | zero => simp
  | succ k ih => rw [List.replicate_succ, List.flatten_cons, List.length_append, ih, Nat.succ_mul, Nat.add_comm]
theorem op_rep : OpR X (binaryOp .Mult) rRep := by
  intro pins s σ H x y v u Q I rx ry h
  obtain ⟨l, k, xs, rfl, rfl, hH, h1, h2, hz, q⟩ := h
  cases rx
  obtain ⟨t, rfl⟩ := ry
  obtain ⟨z, its, n, r, hl, e⟩ := I.lstM hH
  have hlen : its.toArray.size * k.toNat ≤ sizeLine := by rw [List.size_toArray, ← hl]; exact hz
  have hcap : ¬ its.toArray.size * k.toNat > (2 ^ 63 - 1) / 8 := by
    have : (sizeLine : Nat) ≤ (2 ^ 63 - 1) / 8 := by decide
    omega
  have hfit : ¬ (!Builtin.List.listFitsIndex k) = true := by
    rw [fitsIndex_both h1 h2]
    exact Bool.false_ne_true
  have hlong : ¬ Builtin.List.listTooLong (its.toArray.size * k.toNat) = true := by
    rw [notLongL hlen]
    exact Bool.false_ne_true
  have hnew : List.foldl (fun x1 x2 => x1 ++ x2) #[] (List.replicate (if its.toArray.isEmpty = true then 0 else k.toNat) its.toArray) = (List.replicate k.toNat its).flatten.toArray := by
    have f0 : ∀ m : Nat, List.foldl (fun x1 x2 => x1 ++ x2) #[] (List.replicate m its.toArray) = (List.replicate m its).flatten.toArray := fun m => by
      have := foldl_rep its m []
      rw [List.nil_append] at this
      exact this
    rw [f0]
    cases its with
    | nil => simp
    | cons a r' => rw [if_neg (by simp)]
  refine wpAny_binaryOp_repeat_ref (T := "list") (U := "int") (by decide) ⟨_, e, rfl⟩ (fun s' => typeIs_int s' k t) noFill_list_mul F.fills_int_mul F.slot_int_rmul repeat_list F.slot_int_index.lookup
    (call_meets F.slot_int_rmul (typeIs_int s k t) F.entry_int_rmul (F.args_int_rmul_2 _ _) (int___rmul___int_list k t l its.toArray n)
      ⟨e, rfl, ⟨_, e, rfl⟩, call_meets F.slot_list_mul ⟨_, e, rfl⟩ F.entry_list_mul (F.args_list_mul_2 _ _) (AutoListH.list___mul___list_int_3 l its.toArray n k t hfit hcap hlong) ⟨e, ?_⟩⟩)
  rw [hnew]
  exact ⟨.ref _, _, I.lnew (t' := s.toks) (r.rep k.toNat) (by rw [len_rep, Nat.mul_comm]; exact hz), rfl, q _ I.fresh⟩

/-! ### del xs[i] -/
end

/-! ### xs[a:b] = ys -/
section
variable {prog : Program} {w : World} {A : Around} {E : Value → Shared → Prop} {s : Shared}
set_option maxRecDepth 100000 in
end

section
variable {X : Cx}
end
end L2

namespace L2
open PySem PySem.Spec PyProof.Rows

theorem Vals.ints : ∀ {ns : List Int} {us : List Value}, Vals (ns.map V.int) us → IntsAre us ns
  | [], us, h => by
    rw [List.map_nil] at h
    cases h
    exact IntsAre.nil
  | n :: ns, us, h => by
    rw [List.map_cons] at h
    cases h with
    | cons r t =>
      obtain ⟨k, rfl⟩ := r
      exact IntsAre.cons n k (Vals.ints t)
theorem vals_of_ints : ∀ {us : List Value} {ns : List Int}, IntsAre us ns → Vals (ns.map V.int) us
  | _, _, .nil => by rw [List.map_nil]; exact Paired.nil
  | _, _, .cons n t h => by rw [List.map_cons]; exact Paired.cons (show RelV (V.int n) (Value.int n t) from ⟨t, rfl⟩) (vals_of_ints h)
theorem Vals.ref1 {a : Addr} {us : List Value} (r : Vals [V.ref a] us) : us = [Value.ref a] := by
  cases r with
  | cons r t =>
    cases t
    cases r
    rfl

/-! ### the library's walks over a list of ints, kept objects alone -/
section
variable {prog : Program} {w : World} {A : Around} {E : Value → Shared → Prop} {s : Shared} {l : Addr} {its : List Value} {ns : List Int} {Q : Value → Shared → Prop}
theorem sum_raw (hh : A.handled = none) (hl : s.heap.IsList l its.toArray) (hi : IntsAre its ns)
    (h : ∀ h' tk t', (∀ b o, s.heap.get? b = some o → h'.get? b = some o) → Q (.int ns.sum t') { s with heap := h', toks := tk }) : wpAny (model prog w) A (call (.builtin "sum") [.ref l]) Q E s := by
  obtain ⟨xs, e⟩ := hi.allInts.items
  have hn : numsOf (intItems xs).toList = ns := by rw [← e]; exact hi.numsOf
  rw [nums_intItems] at hn
  rw [e] at hl
  refine PySem.sum_intListG hh hl fun h' tk t' hk => ?_
  have := h h' tk t' hk
  rw [preSum_eq, List.take_of_length_le (by simp), hn]; exact this
theorem max_raw (hh : A.handled = none) (hl : s.heap.IsList l its.toArray) (hi : IntsAre its ns) (hne : 0 < ns.length)
    (h : ∀ h' tk M t', (∀ b o, s.heap.get? b = some o → h'.get? b = some o) → M ∈ ns → (∀ a, a ∈ ns → a ≤ M) → Q (.int M t') { s with heap := h', toks := tk }) : wpAny (model prog w) A (call (.builtin "max") [.ref l]) Q E s := by
  obtain ⟨xs, e⟩ := hi.allInts.items
  have hn : numsOf (intItems xs).toList = ns := by rw [← e]; exact hi.numsOf
  rw [nums_intItems] at hn
  subst hn
  rw [e] at hl
  have hsz : 0 < xs.size := by simpa using hne
  refine PySem.max_intList hh hl hsz fun v h' tk hv hk => ?_
  obtain ⟨t, rfl⟩ := intItems_at hv
  obtain ⟨h1, h2⟩ := argBest_gt (numAt xs) (xs.size - 1)
  refine h h' tk _ t hk ?_ fun a ha => ?_
  · rw [numAt_eq]; exact PySem.getD_mem (by rw [List.length_map, Array.length_toList]; omega)
  · obtain ⟨j, hj, rfl⟩ := mem_getD ha
    rw [List.length_map, Array.length_toList] at hj
    rw [← numAt_eq]; exact h2 j (by omega)
theorem min_raw (hh : A.handled = none) (hl : s.heap.IsList l its.toArray) (hi : IntsAre its ns) (hne : 0 < ns.length)
    (h : ∀ h' tk M t', (∀ b o, s.heap.get? b = some o → h'.get? b = some o) → M ∈ ns → (∀ a, a ∈ ns → M ≤ a) → Q (.int M t') { s with heap := h', toks := tk }) : wpAny (model prog w) A (call (.builtin "min") [.ref l]) Q E s := by
  obtain ⟨xs, e⟩ := hi.allInts.items
  have hn : numsOf (intItems xs).toList = ns := by rw [← e]; exact hi.numsOf
  rw [nums_intItems] at hn
  subst hn
  rw [e] at hl
  have hsz : 0 < xs.size := by simpa using hne
  refine PySem.min_intList hh hl hsz fun v h' tk hv hk => ?_
  obtain ⟨t, rfl⟩ := intItems_at hv
  obtain ⟨h1, h2⟩ := argBest_lt (numAt xs) (xs.size - 1)
  refine h h' tk _ t hk ?_ fun a ha => ?_
  · rw [numAt_eq]; exact PySem.getD_mem (by rw [List.length_map, Array.length_toList]; omega)
  · obtain ⟨j, hj, rfl⟩ := mem_getD ha
    rw [List.length_map, Array.length_toList] at hj
    rw [← numAt_eq]; exact h2 j (by omega)
end

/-! ### the calls, by values (CallR of 03t; MtR of 06l) -/
section
variable {X : Cx}
/-- sum(xs) of a list of ints -/
def rSum (K : PySem.W.Frag) : List V → Hp → VK → Prop := fun vs H Q => ∃ (a : Addr) (ns : List Int), vs = [V.ref a] ∧ SqL K H a (ns.map V.int) ∧ Q (.int ns.sum) H
def rMin (K : PySem.W.Frag) : List V → Hp → VK → Prop := fun vs H Q => ∃ (a : Addr) (ns : List Int), vs = [V.ref a] ∧ SqL K H a (ns.map V.int) ∧ 0 < ns.length ∧ ∀ m, m ∈ ns → (∀ y, y ∈ ns → m ≤ y) → Q (.int m) H
theorem cr_sum (hc : X.calm = true) : CallR X (.builtin "sum") (rSum X.K) := by
  intro pins s σ H vs us Q I r h
  obtain ⟨a, ns, rfl, hs, q⟩ := h
  obtain ⟨its, rv, hl, _⟩ := I.list hs
  rw [Vals.ref1 r]
  exact sum_raw (I.ok.hd hc) hl.isList rv.ints fun h' tk t' hk => ⟨.int _, H, I.kept hk, ⟨_, rfl⟩, q⟩
theorem cr_min (hc : X.calm = true) : CallR X (.builtin "min") (rMin X.K) := by
  intro pins s σ H vs us Q I r h
  obtain ⟨a, ns, rfl, hs, hne, q⟩ := h
  obtain ⟨its, rv, hl, _⟩ := I.list hs
  rw [Vals.ref1 r]
  exact min_raw (I.ok.hd hc) hl.isList rv.ints hne fun h' tk m t' hk h1 h2 => ⟨.int _, H, I.kept hk, ⟨_, rfl⟩, q m h1 h2⟩

/-! sorted, sort (fewer than 64 items: the library's own bound) -/
end

/-! ### list.index, flat items -/
section
variable {X : Cx}
end

/-! ### type(x) of an own instance; is, is not of a module's class -/
section
variable {X : Cx}
end

/-! ### any(xs), all(xs) of a list of bools -/
section
variable {X : Cx}
end

/-! ### == and != of data at any depth: none, bools, ints, texts, lists, tuples -/
mutual
inductive Dp (K : PySem.W.Frag) (H : Hp) : V → PyData → Prop
  | non : Dp K H .non .none
  | bl (b : Bool) : Dp K H (.bl b) (.bool b)
  | int (i : Int) : Dp K H (.int i) (.int i)
  | str (x : Str) : Dp K H (.str x) (.str x)
  | lst {a : Addr} {xs : List V} {ds : List PyData} : SqL K H a xs → DpAll K H xs ds → Dp K H (.ref a) (.list ds)
  | tup {a : Addr} {xs : List V} {ds : List PyData} : SqT K H a xs → DpAll K H xs ds → Dp K H (.ref a) (.tuple ds)
inductive DpAll (K : PySem.W.Frag) (H : Hp) : List V → List PyData → Prop
  | nil : DpAll K H [] []
  | cons {v : V} {vs : List V} {d : PyData} {ds : List PyData} : Dp K H v d → DpAll K H vs ds → DpAll K H (v :: vs) (d :: ds)
end
section
variable {X : Cx} {pins : List (Addr × Obj)} {σ : St} {H : Hp} {s : Shared}
mutual
theorem Dp.reads (I : Inv X pins σ H s) : ∀ (d : PyData) (v : V) (u : Value), Dp X.K H v d → RelV v u → ∃ as, Reads s.heap u d as
  | .none, _, _, h, r => by
    cases h
    cases r
    exact ⟨_, Reads.none⟩
  | .bool b, _, _, h, r => by
    cases h
    cases r
    exact ⟨_, Reads.bool b⟩
  | .int i, _, _, h, r => by
    cases h
    obtain ⟨t, rfl⟩ := r
    exact ⟨_, Reads.int i t⟩
  | .str x, _, _, h, r => by
    cases h
    obtain ⟨t, rfl⟩ := r
    exact ⟨_, Reads.str x t⟩
  | .list ds, _, _, h, r => by
    cases h with
    | lst hs ha =>
      cases r
      obtain ⟨its, rv, ⟨o, n, ho, hc, _, hd⟩, _⟩ := I.list hs
      obtain ⟨as, hr⟩ := Dp.readsAll I ds _ its ha rv
      exact ⟨_, Reads.list ho hc hd hr⟩
  | .tuple ds, _, _, h, r => by
    cases h with
    | tup hs ha =>
      cases r
      obtain ⟨its, rv, ⟨o, ho, hc, n, hd⟩, _⟩ := I.tuple hs
      obtain ⟨as, hr⟩ := Dp.readsAll I ds _ its ha rv
      exact ⟨_, Reads.tuple ho hc hd hr⟩
  | .dict _, _, _, h, _ => by cases h
theorem Dp.readsAll (I : Inv X pins σ H s) : ∀ (ds : List PyData) (vs : List V) (us : List Value), DpAll X.K H vs ds → Vals vs us → ∃ as, ReadsAll s.heap us ds as
  | [], _, _, h, r => by
    cases h
    cases r
    exact ⟨_, ReadsAll.nil⟩
  | d :: ds, _, _, h, r => by
    cases h with
    | cons h1 h2 =>
      cases r with
      | cons r1 r2 =>
        obtain ⟨as, q1⟩ := Dp.reads I d _ _ h1 r1
        obtain ⟨bs, q2⟩ := Dp.readsAll I ds _ _ h2 r2
        exact ⟨_, ReadsAll.cons q1 q2⟩
end
end
section
variable {X : Cx}
end
end L2

namespace L2
open PySem PySem.Spec PyProof.Rows
abbrev CellAt (h : Heap) (c : Addr) (v : Option Value) : Prop := h.IsCell c v
def relS (scope sc : Scope) : Scope :=
  { scope with names := scope.names.map fun (n, k) => if (k == .free && sc.kind == .function && sc.names.lookup n == some .cell) then (n, .cell) else (n, k) }

def cloFrom (cells : List (Str × Addr)) : List (Str × NameKind) → List (Str × Addr) → List (Str × Addr)
  | [], acc => acc
  | (n, k) :: r, acc => if k == .free then cloFrom cells r ((n, (cells.lookup n).getD 0) :: acc) else cloFrom cells r acc

theorem closure_loop (env : Env) (f : Str × NameKind → List (Str × Addr) → Sem (ForInStep (List (Str × Addr))))
    (hf : ∀ n k c, f (n, k) c = if k == .free then (do let a ← cellOf env n; pure (.yield ((n, a) :: c))) else pure (.yield c)) :
    ∀ (names : List (Str × NameKind)) (acc : List (Str × Addr)), (∀ y ∈ names, y.2 = .free → ∃ c, env.cells.lookup y.1 = some c) → forIn names acc f = pure (cloFrom env.cells names acc)
  | [], acc, _ => by rw [List.forIn_nil]; rfl
  | (n, k) :: r, acc, h => by
    rw [List.forIn_cons, hf]
    have ih := fun acc => closure_loop env f hf r acc fun y hy => h y (List.mem_cons_of_mem _ hy)
    unfold cloFrom
    by_cases hk : (k == NameKind.free) = true
    · rw [if_pos hk, if_pos hk]
      obtain ⟨c, hc⟩ := h (n, k) List.mem_cons_self (by simpa using hk)
      have e : cellOf env n = pure c := by unfold cellOf; rw [hc]
      rw [e]
      have e2 : (env.cells.lookup n).getD 0 = c := by rw [hc]; rfl
      rw [e2]
      exact ih _
    · rw [if_neg hk, if_neg hk]
      exact ih _
theorem closure_ok {scope : Scope} {env : Env} (h : ∀ y ∈ scope.names, y.2 = .free → ∃ c, env.cells.lookup y.1 = some c) : closureFor scope env = pure (cloFrom env.cells scope.names []) := by
  simp only [closureFor]
  rw [closure_loop env _ (fun n k c => rfl) scope.names [] h]
  rfl

theorem mem_lookup {α : Type} : ∀ {l : List (Str × α)} {n : Str} {c : α}, (n, c) ∈ l → ∃ c', l.lookup n = some c'
  | (k, v) :: r, n, c, h => by
    rw [List.lookup_cons]
    cases hb : n == k with
    | true => exact ⟨_, rfl⟩
    | false =>
      rcases List.mem_cons.mp h with e | h
      · cases e; simp at hb
      · exact mem_lookup h

theorem cloFrom_mem {cells : List (Str × Addr)} : ∀ {names : List (Str × NameKind)} {acc : List (Str × Addr)} {n : Str} {c : Addr}, (n, c) ∈ cloFrom cells names acc → (n, c) ∈ acc ∨ ((n, .free) ∈ names ∧ c = (cells.lookup n).getD 0)
  | [], _, _, _, h => .inl h
  | (m, k) :: r, acc, n, c, h => by
    unfold cloFrom at h
    split at h
    · rename_i hk
      have hk : k = .free := by simpa using hk
      rcases cloFrom_mem h with h | ⟨h1, h2⟩
      · rcases List.mem_cons.mp h with e | h
        · cases e; exact .inr ⟨hk ▸ List.mem_cons_self, rfl⟩
        · exact .inl h
      · exact .inr ⟨List.mem_cons_of_mem _ h1, h2⟩
    · rcases cloFrom_mem h with h | ⟨h1, h2⟩
      · exact .inl h
      · exact .inr ⟨List.mem_cons_of_mem _ h1, h2⟩
theorem cloFrom_acc {cells : List (Str × Addr)} : ∀ {names : List (Str × NameKind)} {acc : List (Str × Addr)} {p : Str × Addr}, p ∈ acc → p ∈ cloFrom cells names acc
  | [], _, _, h => h
  | (m, k) :: r, acc, p, h => by
    unfold cloFrom
    split
    · exact cloFrom_acc (List.mem_cons_of_mem _ h)
    · exact cloFrom_acc h
theorem cloFrom_has {cells : List (Str × Addr)} : ∀ {names : List (Str × NameKind)} {acc : List (Str × Addr)} {n : Str}, (n, .free) ∈ names → (n, (cells.lookup n).getD 0) ∈ cloFrom cells names acc
  | (m, k) :: r, acc, n, h => by
    unfold cloFrom
    rcases List.mem_cons.mp h with e | h
    · cases e
      exact cloFrom_acc List.mem_cons_self
    · split
      · exact cloFrom_has h
      · exact cloFrom_has h

theorem cells_mem : ∀ {names : List (Str × NameKind)} {h : Heap} {acc : List (Str × Addr)} {x : Str} {c : Addr}, (x, c) ∈ cellsFrom h.objs.size names acc →
    (x, c) ∈ acc ∨ ((x, .cell) ∈ names ∧ h.objs.size ≤ c ∧ CellAt (pushCells h names) c none)
  | [], _, _, _, _, h => .inl h
  | (n, k) :: r, h, acc, x, c, hm => by
    unfold cellsFrom at hm
    unfold pushCells
    split at hm
    · rename_i hk
      rw [if_pos hk]
      have hk : k = .cell := by simpa using hk
      rw [← Heap.size_push h { cls := .type "cell", data := .cell none }] at hm
      rcases cells_mem hm with hm | ⟨h1, h2, h3⟩
      · rcases List.mem_cons.mp hm with e | hm
        · cases e
          exact .inr ⟨hk ▸ List.mem_cons_self, Nat.le_refl _, _, pushCells_keeps r _ _ _ (Heap.get?_push_size _ rfl), rfl⟩
        · exact .inl hm
      · rw [Heap.size_push] at h2
        exact .inr ⟨List.mem_cons_of_mem _ h1, Nat.le_of_succ_le h2, h3⟩
    · rename_i hk
      rw [if_neg hk]
      rcases cells_mem hm with hm | ⟨h1, h2, h3⟩
      · exact .inl hm
      · exact .inr ⟨List.mem_cons_of_mem _ h1, h2, h3⟩
theorem cells_acc : ∀ {names : List (Str × NameKind)} {n : Nat} {acc : List (Str × Addr)} {p : Str × Addr}, p ∈ acc → p ∈ cellsFrom n names acc
  | [], _, _, _, h => h
  | (m, k) :: r, n, acc, p, h => by
    unfold cellsFrom
    split
    · exact cells_acc (List.mem_cons_of_mem _ h)
    · exact cells_acc h
theorem cells_has : ∀ {names : List (Str × NameKind)} {n : Nat} {acc : List (Str × Addr)} {x : Str}, (x, .cell) ∈ names → ∃ c, (x, c) ∈ cellsFrom n names acc
  | (m, k) :: r, n, acc, x, h => by
    unfold cellsFrom
    rcases List.mem_cons.mp h with e | h
    · cases e
      exact ⟨n, cells_acc List.mem_cons_self⟩
    · split
      · exact cells_has h
      · exact cells_has h
theorem cells_inj : ∀ {names : List (Str × NameKind)} {h : Heap} {acc : List (Str × Addr)} {x y : Str} {c : Addr}, (∀ p ∈ acc, p.2 < h.objs.size) → (∀ x y c, (x, c) ∈ acc → (y, c) ∈ acc → x = y) →
    (x, c) ∈ cellsFrom h.objs.size names acc → (y, c) ∈ cellsFrom h.objs.size names acc → x = y
  | [], _, _, _, _, _, _, hi, h1, h2 => hi _ _ _ h1 h2
  | (n, k) :: r, h, acc, x, y, c, hl, hi, h1, h2 => by
    unfold cellsFrom at h1 h2
    split at h1
    · rename_i hk
      rw [if_pos hk] at h2
      rw [← Heap.size_push h { cls := .type "cell", data := .cell none }] at h1 h2
      refine cells_inj (h := h.push _) (fun p hp => ?_) (fun x y c a b => ?_) h1 h2
      · rw [Heap.size_push]
        rcases List.mem_cons.mp hp with rfl | hp
        · exact Nat.lt_succ_self _
        · exact Nat.lt_succ_of_lt (hl p hp)
      · rcases List.mem_cons.mp a with e | a <;> rcases List.mem_cons.mp b with e' | b
        · cases e; cases e'; rfl
        · cases e; exact absurd (hl _ b) (Nat.lt_irrefl _)
        · cases e'; exact absurd (hl _ a) (Nat.lt_irrefl _)
        · exact hi _ _ _ a b
    · rename_i hk
      rw [if_neg hk] at h2
      exact cells_inj hl hi h1 h2

theorem newEnv_comp {M : Model} {A : Around} {E : Value → Shared → Prop} {s : Shared} {scope : Scope} {globals : Addr} {closure : List (Str × Addr)} {qual : Str} {func : Option Addr} {code : Value} {around : Env} {builtins : Addr} {Q : Env → Shared → Prop}
    (h : Q (newEnv scope s.heap.objs.size globals (cellsFrom (s.heap.objs.size + 1) scope.names closure) qual func code (some around) builtins)
      { s with heap := pushCells (s.heap.push { cls := .type "dict", data := .dict #[] }) scope.names }) :
    wpAny M A (newFunctionEnv scope globals closure [] qual func code (some around) builtins) Q E s := by
  simp only [newFunctionEnv, Option.isSome_some, if_true]
  refine wpAny_bind (wpAny_alloc ?_)
  refine wpAny_bind (wpAny_layCells _ (fun n k c => rfl) scope.names closure _ _ ?_)
  rw [show ({ s with heap := s.heap.push { cls := .type "dict", data := .dict #[] } } : Shared).heap.objs.size = s.heap.objs.size + 1 from Heap.size_push ..]
  rw [List.forIn_nil]
  exact wpAny_bind (wpAny_pure (wpAny_pure h))

/-- every name of the written scope, in the scope that runs -/
theorem lookup_relS {sc : Scope} : ∀ {names : List (Str × NameKind)} {x : Str} {k : NameKind},
    (names.map fun (n, k) => if (k == NameKind.free && sc.kind == .function && sc.names.lookup n == some .cell) then (n, NameKind.cell) else (n, k)).lookup x = some k →
    ∃ k', names.lookup x = some k' ∧ (k = k' ∨ (k' = .free ∧ k = .cell))
  | [], _, _, h => by simp at h
  | (n, k₀) :: r, x, k, h => by
    have ih := @lookup_relS sc r x k
    have h' : List.lookup x ((if (k₀ == NameKind.free && sc.kind == .function && sc.names.lookup n == some .cell) = true then (n, NameKind.cell) else (n, k₀)) :: (r.map _)) = some k := h
    cases hx : x == n with
    | true =>
      simp only [List.lookup_cons, hx]
      by_cases hc : (k₀ == NameKind.free && sc.kind == .function && sc.names.lookup n == some .cell) = true
      · rw [if_pos hc] at h'
        simp only [List.lookup_cons, hx] at h'
        cases h'
        simp only [Bool.and_eq_true, beq_iff_eq] at hc
        exact ⟨k₀, rfl, .inr ⟨hc.1.1, rfl⟩⟩
      · rw [if_neg hc] at h'
        simp only [List.lookup_cons, hx] at h'
        cases h'
        exact ⟨_, rfl, .inl rfl⟩
    | false =>
      simp only [List.lookup_cons, hx]
      by_cases hc : (k₀ == NameKind.free && sc.kind == .function && sc.names.lookup n == some .cell) = true
      · rw [if_pos hc] at h'
        simp only [List.lookup_cons, hx] at h'
        exact ih h'
      · rw [if_neg hc] at h'
        simp only [List.lookup_cons, hx] at h'
        exact ih h'

/-- the names of a comprehension's block: its own (with their places in N), or captured -/
structure BlkOk (N : List Str) (sc scope : Scope) (own : List (Str × Nat)) : Prop where
  kind : scope.kind = .function
  uniq : ∀ y ∈ scope.names, scope.names.lookup y.1 = some y.2
  ix : ∀ p ∈ own, N[p.2]? = some p.1
  free : ∀ y ∈ scope.names, y.2 = .free → sc.names.lookup y.1 = some .cell ∨ sc.names.lookup y.1 = some .free
  own : ∀ y ∈ scope.names, y.2 = .local ∨ y.2 = .cell → y.1 ∈ own.map (·.1) ∨ y.1 ∉ N
/-- the slots of the block's own names forgotten -/
def wipe (σ : St) : List Nat → St
  | [] => σ
  | v :: vs => (wipe σ vs).set v none
theorem wipe_length (σ : St) : ∀ vs : List Nat, (wipe σ vs).length = σ.length
  | [] => rfl
  | v :: vs => by unfold wipe; rw [List.length_set, wipe_length σ vs]
theorem wipe_some {σ : St} {i : Nat} {x : V} : ∀ {vs : List Nat}, (wipe σ vs)[i]? = some (some x) → σ[i]? = some (some x) ∧ i ∉ vs
  | [], h => ⟨h, by simp⟩
  | v :: vs, h => by
    unfold wipe at h
    by_cases hi : v = i
    · subst hi
      by_cases hv : v < (wipe σ vs).length
      · rw [List.getElem?_set_self hv] at h; cases h
      · rw [List.getElem?_eq_none (by simpa using hv)] at h; cases h
    · rw [List.getElem?_set_ne hi] at h
      obtain ⟨h1, h2⟩ := wipe_some h
      exact ⟨h1, by simp only [List.mem_cons, not_or]; exact ⟨fun e => hi e.symm, h2⟩⟩

/-- the context of a block that starts at s, its iterator's objects at fp -/
abbrev Cx.blk (X : Cx) (s : Shared) (H : Hp) (scope : Scope) (cenv : Env) (fp : List Addr) : Cx := { X with s_0 := s, H_0 := H, env := cenv, outer := X.stack, ex := fp, fn := fun x => scope.names.lookup x == some .cell, pn := [], xe := fun _ _ => False }
section
variable {X : Cx} {pins : List (Addr × Obj)} {σ : St} {H : Hp} {s : Shared}
theorem block_start {scope : Scope} {own : List (Str × Nat)} {fp : List Addr} (I : Inv X pins σ H s) (ok : BlkOk X.N X.env.scope scope own) (hN : X.N.Nodup) (hfp : ∀ b ∈ fp, FpOk X pins H b ∧ b < s.heap.objs.size) :
    Inv (X.blk s H scope (compEnvC scope (cellsFrom (s.heap.objs.size + 1) scope.names (cloFrom X.env.cells scope.names [])) s.heap.objs.size X.env) fp) [] (wipe σ (own.map (·.2))) H { s with heap := pushCells (s.heap.push { cls := .type "dict", data := .dict #[] }) scope.names } := by
  have hfree : ∀ y ∈ scope.names, y.2 = .free → ∃ c, X.env.cells.lookup y.1 = some c := fun y hy e => by
    rcases ok.free y hy e with k | k
    · exact I.ok.has _ (.inl k)
    · exact I.ok.has _ (.inr k)
  generalize hcenv : compEnvC scope (cellsFrom (s.heap.objs.size + 1) scope.names (cloFrom X.env.cells scope.names [])) s.heap.objs.size X.env = cenv
  have kp : ∀ b o, s.heap.get? b = some o → (pushCells (s.heap.push { cls := .type "dict", data := .dict #[] }) scope.names).get? b = some o := fun b o e => pushCells_keeps _ _ _ _ (Heap.get?_push_of_some _ e)
  have hL : cenv.locals = s.heap.objs.size := by rw [← hcenv]; rfl
  have hcl : cenv.cells = cellsFrom (s.heap.objs.size + 1) scope.names (cloFrom X.env.cells scope.names []) := by rw [← hcenv]; rfl
  have hsc : cenv.scope = relS scope X.env.scope := by rw [← hcenv]; rfl
  rw [← Heap.size_push s.heap { cls := .type "dict", data := .dict #[] }] at hcl
  have cm : ∀ {y c}, (y, c) ∈ cloFrom X.env.cells scope.names [] → X.env.cells.lookup y = some c ∧ c < s.heap.objs.size := fun {y c} hm => by
    rcases cloFrom_mem hm with hm | ⟨h1, rfl⟩
    · cases hm
    · obtain ⟨c, hc⟩ := hfree _ h1 rfl
      rw [hc]
      obtain ⟨w, z⟩ := I.cell _ _ hc
      exact ⟨rfl, z.lt⟩
  have mem : ∀ {y c}, cenv.cells.lookup y = some c → (X.env.cells.lookup y = some c ∧ c < s.heap.objs.size) ∨ (s.heap.objs.size + 1 ≤ c ∧ CellAt (pushCells (s.heap.push { cls := .type "dict", data := .dict #[] }) scope.names) c none) := fun {y c} e => by
    rw [hcl] at e
    rcases cells_mem (PySem.mem_of_lookup e) with hm | ⟨_, h2, h3⟩
    · exact .inl (cm hm)
    · rw [Heap.size_push] at h2; exact .inr ⟨h2, h3⟩
  have look : ∀ {y}, scope.names.lookup y = some .free → ∃ c, cenv.cells.lookup y = some c ∧ X.env.cells.lookup y = some c := fun {y} hl => by
    have hy : (y, NameKind.free) ∈ scope.names := PySem.mem_of_lookup hl
    obtain ⟨c', e'⟩ := mem_lookup (cells_acc (names := scope.names) (n := (s.heap.push { cls := .type "dict", data := .dict #[] }).objs.size) (cloFrom_has (cells := X.env.cells) (acc := []) hy))
    rw [← hcl] at e'
    refine ⟨c', e', ?_⟩
    rw [hcl] at e'
    rcases cells_mem (PySem.mem_of_lookup e') with hm | ⟨h1, _, _⟩
    · exact (cm hm).1
    · have := ok.uniq _ h1
      rw [hl] at this; cases this
  have okB : (X.blk s H scope cenv fp).Ok := by
    refine ⟨I.ok.mod, by show cenv.scope.kind = _; rw [hsc]; exact ok.kind, by show cenv.globals = _; rw [← hcenv]; exact I.ok.glob, by show cenv.builtins = _; rw [← hcenv]; exact I.ok.blt, by show s.heap.objs.size ≤ cenv.locals; rw [hL]; exact Nat.le_refl _,
      fun y z c e1 e2 => ?_, fun y hy => ?_, fun y c z e => ?_, I.ok.hd, I.ok.frames, .inl rfl, fun b hb => ⟨?_, fun y c e z => ?_⟩, I.bs, Nat.le_trans I.ok.bsz I.sz, fun b o e hb => ?_, fun b hb z => ?_, I.stack, I.stkFree⟩
    · have e1 : cenv.cells.lookup y = some c := e1
      have e2 : cenv.cells.lookup z = some c := e2
      rw [hcl] at e1 e2
      refine cells_inj (fun p hp => ?_) (fun y z c a b => I.ok.inj y z c (cm a).1 (cm b).1) (PySem.mem_of_lookup e1) (PySem.mem_of_lookup e2)
      rw [Heap.size_push]
      exact Nat.lt_succ_of_lt (cm (y := p.1) (c := p.2) hp).2
    · show ∃ c, cenv.cells.lookup y = some c
      have key : ∀ k, cenv.kindOf y = some k → (k = .cell ∨ k = .free) → ∃ c, cenv.cells.lookup y = some c := fun k hk hk' => by
        unfold Env.kindOf at hk
        rw [hsc] at hk
        obtain ⟨k', e, r⟩ := lookup_relS hk
        have : k' = .cell ∨ k' = .free := by
          rcases r with rfl | ⟨rfl, _⟩
          · exact hk'
          · exact .inr rfl
        rcases this with rfl | rfl
        · obtain ⟨c, hm⟩ := cells_has (n := (s.heap.push { cls := .type "dict", data := .dict #[] }).objs.size) (acc := cloFrom X.env.cells scope.names []) (PySem.mem_of_lookup e)
          obtain ⟨c', e'⟩ := mem_lookup hm
          exact ⟨c', by rw [hcl]; exact e'⟩
        · obtain ⟨c, h1, _⟩ := look e
          exact ⟨c, h1⟩
      rcases hy with hy | hy
      · exact key _ hy (.inl rfl)
      · exact key _ hy (.inr rfl)
    · have z : (scope.names.lookup y == some NameKind.cell) = true := z
      have z : scope.names.lookup y = some .cell := by simpa using z
      have e : cenv.cells.lookup y = some c := e
      rw [hcl] at e
      rcases cells_mem (PySem.mem_of_lookup e) with hm | ⟨_, h2, _⟩
      · rcases cloFrom_mem hm with hm | ⟨h1, _⟩
        · cases hm
        · have q := ok.uniq _ h1
          rw [z] at q; cases q
      · rw [Heap.size_push] at h2
        exact Nat.le_of_succ_le h2
    · show b ≠ cenv.locals
      rw [hL]; exact Nat.ne_of_lt (hfp b hb).2
    · have e : cenv.cells.lookup y = some c := e
      rcases mem e with ⟨h1, _⟩ | ⟨h1, _⟩
      · exact (hfp b hb).1.2.2.2.2.1 y c h1 z
      · have h2 : s.heap.objs.size + 1 ≤ b := by rw [← z]; exact h1
        exact absurd (Nat.lt_of_lt_of_le (hfp b hb).2 (Nat.le_of_succ_le h2)) (Nat.lt_irrefl _)
    · rcases (hfp b hb).1.2.2.2.1 with z | z
      · exact I.ok.noex b o e z
      · exact absurd (Nat.lt_of_lt_of_le (Heap.lt_size e) (Nat.le_trans I.ok.bsz z)) (Nat.lt_irrefl _)
    · rcases List.mem_cons.mp (I.stkSub b z) with z | z
      · exact (hfp b hb).1.2.1 z
      · exact (hfp b hb).1.2.2.1 z
  refine ⟨okB, rfl, I.bare, Un.kept kp, ⟨fun _ => none, ?_, fun i y av e1 e2 e3 => ?_⟩, fun y c e => ?_, ?_, fun y c e => ?_, fun p hp => ?_, I.hok.kept kp, by rw [wipe_length]; exact I.len⟩
  · show Heap.Ns _ cenv.locals _
    rw [hL]
    exact Heap.Ns.keeps (Heap.Ns.new ..) fun b o e => pushCells_keeps _ _ _ _ e
  · obtain ⟨e2, hne⟩ := wipe_some e2
    have hfr : scope.names.lookup y = some .free ∧ (cenv.kindOf y = some .cell ∨ cenv.kindOf y = some .free) := by
      have key : ∀ k, cenv.scope.names.lookup y = some k → k = .local ∨ k = .cell ∨ k = .free → scope.names.lookup y = some .free ∧ (cenv.kindOf y = some .cell ∨ cenv.kindOf y = some .free) := fun k hk hk' => by
        have hk0 := hk
        rw [hsc] at hk
        obtain ⟨k', e, r⟩ := lookup_relS hk
        have no : ¬ (k' = .local ∨ k' = .cell) := fun hh => by
          rcases ok.own _ (PySem.mem_of_lookup e) hh with e' | e'
          · obtain ⟨p, hp, hpy⟩ := List.mem_map.mp e'
            have e3 := ok.ix p hp
            have : p.1 = y := hpy
            rw [this] at e3
            exact hne (List.mem_map.mpr ⟨p, hp, nodup_ix hN e3 e1⟩)
          · exact e' (List.mem_of_getElem? e1)
        rcases r with rfl | ⟨rfl, rfl⟩
        · rcases hk' with rfl | rfl | rfl
          · exact absurd (.inl rfl) no
          · exact absurd (.inr rfl) no
          · exact ⟨e, .inr hk0⟩
        · exact ⟨e, .inl hk0⟩
      have e3 : Vis cenv.scope y := e3
      rcases e3 with e3 | e3 | e3
      · exact key _ e3 (.inl rfl)
      · exact key _ e3 (.inr (.inl rfl))
      · exact key _ e3 (.inr (.inr rfl))
    obtain ⟨m, hn, hl⟩ := I.loc
    have hvis : Vis X.env.scope y := (ok.free _ (PySem.mem_of_lookup hfr.1) rfl).elim (fun k => .inr (.inl k)) (fun k => .inr (.inr k))
    obtain ⟨w, r, q⟩ := hl i y av e1 e2 hvis
    refine ⟨w, r, .inr ⟨hfr.2, ?_⟩⟩
    obtain ⟨c, h1, h2⟩ := look hfr.1
    rcases q with ⟨k, _⟩ | ⟨_, c', e', z⟩
    · have k : X.env.scope.names.lookup y = some .local := k
      rcases ok.free _ (PySem.mem_of_lookup hfr.1) rfl with k' | k' <;> rw [show X.env.scope.names.lookup y = _ from k'] at k <;> cases k
    · rw [h2] at e'; cases e'
      exact ⟨c, h1, z.keeps kp⟩
  · have e : cenv.cells.lookup y = some c := e
    rcases mem e with ⟨h1, _⟩ | ⟨_, z⟩
    · obtain ⟨w, z⟩ := I.cell y c h1
      exact ⟨w, z.keeps kp⟩
    · exact ⟨_, z⟩
  · show H cenv.locals = none
    rw [hL]; exact I.hok.fresh (Nat.le_refl _)
  · have e : cenv.cells.lookup y = some c := e
    rcases mem e with ⟨h1, _⟩ | ⟨h1, _⟩
    · exact I.freeC y c h1
    · exact I.hok.fresh (Nat.le_of_succ_le h1)
  · exact absurd (show p ∈ ([] : List (Addr × Obj)) ++ [] from hp) (by simp)

/-- an item appended to a tracked list -/
theorem app_ok {E : Value → Shared → Prop} {D : Addr} {xs : List V} {y : V} {v : Value} {Q : Value → Shared → Prop} (I : Inv X pins σ H s) (hD : H D = some (.lst xs)) (hz : xs.length < sizeLine) (r : RelV y v)
    (h : ∀ s', Inv X pins σ (upd H D (.lst (xs ++ [y]))) s' → Q .none s') : wpAny (model X.prog X.w) X.A (call (.builtin "list.append") [.ref D, v]) Q E s := by
  obtain ⟨hz', its, n, ri, e⟩ := I.hok D _ hD
  have hl := ri.length
  refine append_at (hsz := by rw [List.size_toArray]; omega) e fun h' sb ho' => ?_
  refine h { s with heap := h' } (I.write (t' := s.toks) (by rw [hD]; trivial) (.inl rfl) (fun b u hb q => (sb.2 b hb).trans q) ⟨_, ho'⟩ ⟨by rw [List.length_append]; exact hz, its ++ [v], n + 1, ri.append (.cons r .nil), ?_⟩)
  rw [ho']
  simp

/-- a clause's tests -/
def PTs (X : Cx) (ifs : List Expr) (t : TT) : Prop :=
  ∀ (pins : List (Addr × Obj)) (s : Shared) (σ : St) (H : Hp) (Q : Bool → Hp → Prop), Inv X pins σ H s → t σ H Q →
    wpAny (model X.prog X.w) X.A (forIn ifs true fun c r => if r = true then do let ok ← isTrue c X.env (eval c X.env); pure (ForInStep.yield ok) else pure (ForInStep.yield r)) (TP X pins σ Q) X.xe s
def tYes : TT := fun _ H Q => Q true H
theorem pts_nil : PTs X [] tYes := fun _ _ _ H _ I h => wpAny_tests_nil ⟨H, I, h⟩
theorem pts_one {c : Expr} {t : TT} (h : PT X c t) : PTs X [c] t := fun pins s σ H Q I hw => wpAny_tests_one (h pins s σ H Q I hw)
end

theorem thnF {α : Type} {t : Sem α} {Q Q' : α → Shared → Prop} {M : Model} {A : Around} {E : Value → Shared → Prop} {s : Shared} (h : wpAny M A t Q (fun _ _ => False) s) (hQ : ∀ a s, Q a s → Q' a s) : wpAny M A t Q' E s := wpAny_mono h hQ fun _ _ z => False.elim z

/-- the loop of a list comprehension's block, the target of any form (codeAny_compLoop_tests asks a target that no tuple goes to; statement and proof follow it, PyProof/CompMap.lean:41-61, with the step letOwnedTupleGo kept) -/
theorem compLoop_any {prog : Program} {w : World} {A : Around} {R : Result → Shared → Prop} {s : Shared} {elt target iter : Expr} {ifs : List Expr} {scope : Scope} {pos : Pos} {it acc : Value} {env : Env} (I : Nat → Shared → Prop)
    (turn : ∀ n s, I n s → wpAny (model prog w) A (pyNext it) (fun r s₁ => match r with
      | none => R (.ok .next) s₁
      | some v => wpAny (model prog w) A (letOwnedTupleGo target it v) (fun _ s₁' => wpAny (model prog w) A (assign target env v) (fun _ s₂ =>
          wpAny (model prog w) A (forIn ifs true fun c r => if r = true then do let ok ← isTrue c env (eval c env); pure (ForInStep.yield ok) else pure (ForInStep.yield r)) (fun ok s₃ =>
            if ok = true then wpAny (model prog w) A (eval elt env) (fun x s₄ =>
              wpAny (model prog w) A (call (.builtin "list.append") [acc, x]) (fun _ s₅ => ∃ m, m < n ∧ I m s₅) (notedBy (model prog w) A env fun e s' => R (.error e) s') s₄) (notedBy (model prog w) A env fun e s' => R (.error e) s') s₃
            else ∃ m, m < n ∧ I m s₃) (notedBy (model prog w) A env fun e s' => R (.error e) s') s₂) (notedBy (model prog w) A env fun e s' => R (.error e) s') s₁') (notedBy (model prog w) A env fun e s' => R (.error e) s') s₁) (notedBy (model prog w) A env fun e s' => R (.error e) s') s)
    (n : Nat) (h : I n s) :
    codeAny (model prog w) A (.compLoop (.ListComp elt [⟨target, iter, ifs, 0⟩] scope pos) 0 it acc env) R s := by
  refine codeAny_loop rfl I (fun n s hI => ?_) n h
  show wpAny _ A ((compTurn (.ListComp elt [⟨target, iter, ifs, 0⟩] scope pos) 0 it acc env).onRaise (fun x => do noteFrame x env; theTreesLotGoes x)) _ _ s
  refine wpAny_noted ?_
  rw [compTurn_list]
  refine wpAny_bind (wpAny_standAt (wpAny_bind (wpAny_mono (turn n s hI) (fun r s₁ h₁ => ?_) fun _ _ h' => h')))
  cases r with
  | none => exact wpAny_pure h₁
  | some v =>
    refine wpAny_bind (wpAny_mono h₁ (fun _ s₁' h₁' => ?_) fun _ _ h' => h')
    refine wpAny_bind (wpAny_mono h₁' (fun _ s₂ h₂ => wpAny_bind (wpAny_mono h₂ (fun ok s₃ h₃ => ?_) fun _ _ h' => h')) fun _ _ h' => h')
    cases ok with
    | false => exact wpAny_pure ⟨rfl, h₃⟩
    | true =>
      exact wpAny_bind (wpAny_bind (wpAny_mono h₃ (fun x s₄ h₄ => wpAny_bind (wpAny_mono h₄ (fun _ s₅ h₅ => wpAny_pure (wpAny_pure ⟨rfl, h₅⟩)) fun _ _ h' => h')) fun _ _ h' => h'))

section
variable {X : Cx}
/-- [elt for target in iter if ..]: D the new list; W by the turn and a measure, Nx what a turn is to reach -/
def tLc (wi : TI) (g : TG) (tt : TT) (te : TE) (vs : List Nat) : TE := fun σ H Q => wi σ H fun J H1 => ∀ D, H1 D = none → ∃ W : Nat → Nat → Hp → Prop, (∃ m, W 0 m (upd H1 D (.lst []))) ∧ ∀ i m H, W i m H →
  (J.stop i H ∧ Q (.ref D) H) ∨ (J.go i H ∧ ∃ Nx : Hp → Prop, (∀ H', Nx H' → ∃ m', m' < m ∧ W (i + 1) m' H') ∧ ∀ x H', J.yld i H x H' → g x (wipe σ vs) H' fun σ2 H2 => wipe σ2 vs = wipe σ vs ∧ tt σ2 H2 fun b H3 =>
    if b = true then te σ2 H3 fun y H4 => ∃ acc, H4 D = some (.lst acc) ∧ acc.length < sizeLine ∧ Nx (upd H4 D (.lst (acc ++ [y]))) else Nx H3)
theorem lc_core {pins : List (Addr × Obj)} {s : Shared} {σ : St} {H : Hp} {Q : VK} {elt tg iter : Expr} {ifs : List Expr} {scope : Scope} {own : List (Str × Nat)} {pos pos' : Pos} {wi : TI} {g : TG} {tt : TT} {te : TE} {use : Option (Value → Sem Unit)} {Qf : Value → Shared → Prop}
    (hc : X.calm = true) (hN : X.N.Nodup) (I : Inv X pins σ H s) (hi : PI X tg iter wi) (ok : BlkOk X.N X.env.scope scope own)
    (hg : ∀ (s : Shared) (H : Hp) (C : Addr) (cl : List (Str × Addr)) (fp : List Addr), PG (X.blk s H scope (compEnvC scope cl C X.env) fp) tg g) (ht : ∀ (s : Shared) (H : Hp) (C : Addr) (cl : List (Str × Addr)) (fp : List Addr), PTs (X.blk s H scope (compEnvC scope cl C X.env) fp) ifs tt)
    (he : ∀ (s : Shared) (H : Hp) (C : Addr) (cl : List (Str × Addr)) (fp : List Addr), PE (X.blk s H scope (compEnvC scope cl C X.env) fp) elt te) (hs : ∀ x, foldedSetIterable iter X.env x = pure x)
    (h : tLc wi g tt te (own.map (·.2)) σ H Q)
    (hRR : ∀ D C s' m H', Inv X pins σ H' s' → Q (.ref D) H' → s'.heap.Ns C m → FpOk X pins H' C → compPost (model X.prog X.w) X.A X.xe use Qf (.ref D) C (.ok .next) s') :
    wpAny (model X.prog X.w) X.A (comprehension (.ListComp elt [⟨tg, iter, ifs, 0⟩] scope pos) scope X.env pos' (newList []) false (eval iter X.env) use) Qf X.xe s := by
  have hfree : ∀ y ∈ scope.names, y.2 = .free → ∃ c, X.env.cells.lookup y.1 = some c := fun y hy e => by
    rcases ok.free y hy e with k | k
    · exact I.ok.has _ (.inl k)
    · exact I.ok.has _ (.inr k)
  refine wpAny_comprehension_free (use := use) rfl hs (closure_ok hfree) ok.kind (fun y hy e => by rw [ok.uniq y hy, e])
    (thn (hi pins s σ H _ I h) fun xv s1 hx => thn hx fun itv s2 h2 => ?_)
  obtain ⟨it, fp, tn, J, H2, e, I2, T, st2, f2, q⟩ := h2
  subst e
  refine wpAny_newObj_type (newEnv_comp ?_) (by show 0 ≤ sizeLine; decide)
  generalize hD : s2.heap.objs.size = D
  have hDn : H2 D = none := I2.hok.fresh (Nat.le_of_eq hD)
  obtain ⟨W, ⟨m0, w0⟩, turn⟩ := q D hDn
  -- the new list
  generalize hs3 : ({ s2 with heap := s2.heap.push { cls := .type "list", data := .seq ([] : List Value).toArray } } : Shared) = s3
  have I3 : Inv X pins σ (upd H2 D (.lst [])) s3 := by
    rw [← hs3]
    refine I2.laid (t' := s2.toks) (fun b o e => Heap.get?_push_of_some _ e) (Nat.le_of_eq hD) ⟨Nat.zero_le _, [], 0, .nil, ?_⟩
    rw [← hD]
    exact Heap.get?_push_size _ rfl
  have h3 : s3.heap = s2.heap.push { cls := .type "list", data := .seq ([] : List Value).toArray } := by rw [← hs3]
  have sz : ∀ b ∈ fp, b < s2.heap.objs.size := fun b hb => by
    obtain ⟨o, e, _⟩ := T.obj _ _ st2 b hb
    exact Heap.lt_size e
  have f3 : ∀ b ∈ fp, FpOk X pins (upd H2 D (.lst [])) b ∧ b < s3.heap.objs.size := fun b hb => by
    have hlt := sz b hb
    refine ⟨⟨?_, (f2 b hb).2⟩, by rw [h3, Heap.size_push]; exact Nat.lt_succ_of_lt hlt⟩
    rw [upd_ne (by rw [← hD]; exact Nat.ne_of_lt hlt)]
    exact (f2 b hb).1
  have st3 : tn 0 s3.heap := T.keep _ _ _ st2 fun b _ o e => by rw [h3]; exact Heap.get?_push_of_some _ e
  have I4 := block_start I3 ok hN f3
  have pg := hg s3 (upd H2 D (.lst [])) s3.heap.objs.size (cellsFrom (s3.heap.objs.size + 1) scope.names (cloFrom X.env.cells scope.names [])) fp
  have pt := ht s3 (upd H2 D (.lst [])) s3.heap.objs.size (cellsFrom (s3.heap.objs.size + 1) scope.names (cloFrom X.env.cells scope.names [])) fp
  have pe := he s3 (upd H2 D (.lst [])) s3.heap.objs.size (cellsFrom (s3.heap.objs.size + 1) scope.names (cloFrom X.env.cells scope.names [])) fp
  show codeAny _ _ (.compStart (.ListComp elt [⟨tg, iter, ifs, 0⟩] scope pos) 0 (.ref it) (.ref D) (compEnvC scope (cellsFrom (s3.heap.objs.size + 1) scope.names (cloFrom X.env.cells scope.names [])) s3.heap.objs.size X.env)) (compPost (model X.prog X.w) X.A X.xe use Qf (.ref D) s3.heap.objs.size) { s3 with heap := pushCells (s3.heap.push { cls := .type "dict", data := .dict #[] }) scope.names }
  have nfp : ∀ b ∈ fp, (upd H2 D (.lst [])) b = none := fun b hb => (f3 b hb).1.1
  generalize hce : compEnvC scope (cellsFrom (s3.heap.objs.size + 1) scope.names (cloFrom X.env.cells scope.names [])) s3.heap.objs.size X.env = ce at I4 pg pt pe ⊢
  have cL : ce.locals = s3.heap.objs.size := by subst hce; rfl
  generalize hH3 : upd H2 D (.lst []) = H3 at I3 I4 pg pt pe w0 nfp f3
  generalize hs4 : ({ s3 with heap := pushCells (s3.heap.push { cls := .type "dict", data := .dict #[] }) scope.names } : Shared) = s4 at I4 ⊢
  have st4 : tn 0 s4.heap := T.keep _ _ _ st3 fun b _ o e => by rw [← hs4]; exact pushCells_keeps _ _ _ _ (Heap.get?_push_of_some _ e)
  have stat : ∀ {σ' : St} {H' : Hp} {s' : Shared}, Inv (X.blk s3 H3 scope ce fp) [] σ' H' s' → (∀ b ∈ fp, H' b = none) → ∀ b ∈ fp, FpOk (X.blk s3 H3 scope ce fp) [] H' b := fun {σ' H' s'} I' hn b hb =>
    ⟨hn b hb, (I'.ok.exf b hb).1, I'.ok.exfs b hb, .inl hb, fun x c e => (I'.ok.exf b hb).2 x c e, fun p hp => absurd (show p ∈ ([] : List (Addr × Obj)) ++ [] from hp) (by simp)⟩
  have loop : codeAny (model X.prog X.w) X.A (.compLoop (.ListComp elt [⟨tg, iter, ifs, 0⟩] scope pos) 0 (.ref it) (.ref D) ce) (compPost (model X.prog X.w) X.A X.xe use Qf (.ref D) s3.heap.objs.size) s4 := by
    refine compLoop_any (fun n s' => ∃ i H', Inv (X.blk s3 H3 scope ce fp) [] (wipe σ (own.map (·.2))) H' s' ∧ tn i s'.heap ∧ (∀ b ∈ fp, H' b = none) ∧ W i n H') ?_ m0 ⟨0, H3, I4, st4, nfp, w0⟩
    rintro n s5 ⟨i, H5, I5, st5, n5, w5⟩
    rcases turn i n H5 w5 with ⟨stop, qq⟩ | ⟨go, Nx, hNx, step⟩
    · have td := T.done (X.blk s3 H3 scope ce fp) rfl rfl rfl hc i [] s5 _ H5 (fun _ _ => False) I5 (stat I5 n5) st5 stop
      refine thnF td fun r s6 ⟨hr, I6⟩ => ?_
      subst hr
      -- back in the def's context
      have I7 : Inv X pins σ H5 s6 := I3.call' (ch := fp) I6.os I6.base I6.hok I6.bare fun b hb => ⟨(f3 b hb).1.2.2.2.1, (f3 b hb).1.2.1, (f3 b hb).1.2.2.2.2.1, (f3 b hb).1.2.2.2.2.2⟩
      have nC : H5 s3.heap.objs.size = none := by
        have z : H5 ce.locals = none := I6.free
        rw [cL] at z
        exact z
      obtain ⟨m, hn, _⟩ := I6.loc
      have hn : s6.heap.Ns ce.locals m := hn
      rw [cL] at hn
      exact hRR D s3.heap.objs.size s6 m H5 I7 qq hn (I3.fpOk (Nat.le_refl _) nC)
    · have ti := T.item (X.blk s3 H3 scope ce fp) rfl rfl rfl hc i [] s5 _ H5 (fun _ _ => False) I5 (stat I5 n5) st5 go
      refine thnF ti fun r s6 ⟨u, hr, h6⟩ => ?_
      subst hr
      refine thnF h6 fun _ s7 ⟨x, H7, I7, r7, y7, st7, n7⟩ => ?_
      have I7' := I7.pinned (stat I7 n7) (T.obj _ _ st7)
      refine thnF (pg _ s7 _ H7 x u _ I7' r7 (step x H7 y7)) fun _ s8 ⟨σ8, H8, I8, hw8, q8⟩ => ?_
      refine thnF (pt _ s8 σ8 H8 _ I8 q8) fun b s9 ⟨H9, I9, q9⟩ => ?_
      -- the turn's end
      have fin : ∀ {s' : Shared} {H' : Hp}, Inv (X.blk s3 H3 scope ce fp) ([] ++ pinsAt fp s7.heap) σ8 H' s' → Nx H' → ∃ m, m < n ∧ ∃ i H', Inv (X.blk s3 H3 scope ce fp) [] (wipe σ (own.map (·.2))) H' s' ∧ tn i s'.heap ∧ (∀ b ∈ fp, H' b = none) ∧ W i m H' := fun {s' H'} I' nx => by
        obtain ⟨m', hm, w'⟩ := hNx H' nx
        have pin' : ∀ b ∈ fp, ∀ o, s7.heap.get? b = some o → s'.heap.get? b = some o ∧ H' b = none := fun b hb o e =>
          let z := I'.pin (b, o) (List.mem_append_right _ (List.mem_append_right _ (mem_pinsAt hb e)))
          ⟨z.1, z.2.1⟩
        have hl : (wipe σ (own.map (·.2))).length = σ8.length := by rw [← hw8, wipe_length]
        refine ⟨m', hm, i + 1, H', (I'.unpinned (pins := [])).weak hl (fun j v e => ?_), T.keep _ _ _ st7 fun b hb o e => (pin' b hb o e).1, fun b hb => ?_, w'⟩
        · rw [← hw8] at e
          exact (wipe_some e).1
        · obtain ⟨o, e, _⟩ := T.obj _ _ st7 b hb
          exact (pin' b hb o e).2
      cases b with
      | false =>
        simp only [Bool.false_eq_true, if_false] at q9 ⊢
        exact fin I9 q9
      | true =>
        simp only [if_true] at q9 ⊢
        refine thnF (pe _ s9 σ8 H9 _ I9 q9) fun z s10 ⟨yv, H10, I10, r10, acc, hD10, hz10, nx⟩ => ?_
        exact app_ok (X := X.blk s3 H3 scope ce fp) I10 hD10 hz10 r10 fun s11 I11 => fin I11 nx
  exact codeAny_compStart_list loop (T.self X.A 0 _ _ _ st4 loop)
/-- as a value -/
theorem pe_lc {elt tg iter : Expr} {ifs : List Expr} {scope : Scope} {own : List (Str × Nat)} {pos : Pos} {wi : TI} {g : TG} {tt : TT} {te : TE} (hc : X.calm = true) (hN : X.N.Nodup) (hi : PI X tg iter wi) (ok : BlkOk X.N X.env.scope scope own)
    (hg : ∀ (s : Shared) (H : Hp) (C : Addr) (cl : List (Str × Addr)) (fp : List Addr), PG (X.blk s H scope (compEnvC scope cl C X.env) fp) tg g) (ht : ∀ (s : Shared) (H : Hp) (C : Addr) (cl : List (Str × Addr)) (fp : List Addr), PTs (X.blk s H scope (compEnvC scope cl C X.env) fp) ifs tt)
    (he : ∀ (s : Shared) (H : Hp) (C : Addr) (cl : List (Str × Addr)) (fp : List Addr), PE (X.blk s H scope (compEnvC scope cl C X.env) fp) elt te) (hs : ∀ x, foldedSetIterable iter X.env x = pure x := by intro _; rfl) :
    PE X (.ListComp elt [⟨tg, iter, ifs, 0⟩] scope pos) (tLc wi g tt te (own.map (·.2))) := by
  intro pins s σ H Q I h
  rw [eval_ListComp]
  refine lc_core hc hN I hi ok hg ht he hs h fun D C s' m H' I' q hn f => ⟨m, hn, fun h'' sb => ?_⟩
  obtain ⟨f0, f1, f2, f3, f4, f5⟩ := f
  exact ⟨.ref D, H', I'.turned (t' := s'.toks) (fun b o hb e => (sb.2 b hb).trans e) f0 f1 f3 f4 f5, rfl, q⟩
end

/-! ### the forms one uses -/
/-- over a list that the block leaves as it is -/
theorem lc_list {K : PySem.W.Frag} {a : Addr} {xs : List V} {g : TG} {tt : TT} {te : TE} {vs : List Nat} {σ : St} {H1 : Hp} {D : Addr} {Qd : Hp → Prop} (Pv : Nat → Hp → Prop) (h0 : Pv 0 (upd H1 D (.lst []))) (hl : ∀ i H, i ≤ xs.length → Pv i H → SqL K H a xs)
    (hs : ∀ i x H, xs[i]? = some x → Pv i H → g x (wipe σ vs) H fun σ2 H2 => wipe σ2 vs = wipe σ vs ∧ tt σ2 H2 fun b H3 =>
      if b = true then te σ2 H3 fun y H4 => ∃ acc, H4 D = some (.lst acc) ∧ acc.length < sizeLine ∧ Pv (i + 1) (upd H4 D (.lst (acc ++ [y]))) else Pv (i + 1) H3) (hd : ∀ H, Pv xs.length H → Qd H) :
    ∃ W : Nat → Nat → Hp → Prop, (∃ m, W 0 m (upd H1 D (.lst []))) ∧ ∀ i m H, W i m H →
      ((Itl K a).stop i H ∧ Qd H) ∨ ((Itl K a).go i H ∧ ∃ Nx : Hp → Prop, (∀ H', Nx H' → ∃ m', m' < m ∧ W (i + 1) m' H') ∧ ∀ x H', (Itl K a).yld i H x H' → g x (wipe σ vs) H' fun σ2 H2 => wipe σ2 vs = wipe σ vs ∧ tt σ2 H2 fun b H3 =>
        if b = true then te σ2 H3 fun y H4 => ∃ acc, H4 D = some (.lst acc) ∧ acc.length < sizeLine ∧ Nx (upd H4 D (.lst (acc ++ [y]))) else Nx H3) := by
  refine ⟨fun i m H => m = xs.length - i ∧ i ≤ xs.length ∧ Pv i H, ⟨xs.length, by simp, Nat.zero_le _, h0⟩, ?_⟩
  rintro i m H ⟨rfl, hi, p⟩
  have q := hl i H hi p
  by_cases hlt : i < xs.length
  · refine .inr ⟨⟨xs, xs[i], q, by simp [hlt]⟩, Pv (i + 1), fun H' p' => ⟨xs.length - (i + 1), by omega, rfl, hlt, p'⟩, fun x H' y => ?_⟩
    obtain ⟨e, y⟩ := y
    subst e
    exact hs i x _ (y xs q) p
  · have e : i = xs.length := by omega
    subst e
    exact .inl ⟨⟨xs, q, Nat.le_refl _⟩, hd H p⟩
def blkC (N : List Str) (sc scope : Scope) (own : List (Str × Nat)) : Bool :=
  (match scope.kind with | .function => true | _ => false) && (scope.names.all fun y => decide (scope.names.lookup y.1 = some y.2)) && (own.all fun p => decide (N[p.2]? = some p.1)) &&
    (scope.names.all fun y => match y.2 with
      | .free => (match sc.names.lookup y.1 with | some .cell => true | some .free => true | _ => false)
      | .local => decide (y.1 ∈ own.map (·.1)) || decide (y.1 ∉ N)
      | .cell => decide (y.1 ∈ own.map (·.1)) || decide (y.1 ∉ N)
      | _ => true)
theorem blkOk_by {N : List Str} {sc scope : Scope} {own : List (Str × Nat)} (h : blkC N sc scope own = true) : BlkOk N sc scope own := by
  unfold blkC at h
  simp only [Bool.and_eq_true, List.all_eq_true, decide_eq_true_eq] at h
  obtain ⟨⟨⟨h1, h2⟩, h3⟩, h4⟩ := h
  refine ⟨?_, h2, h3, fun y hy e => ?_, fun y hy e => ?_⟩
  · split at h1
    · assumption
    · cases h1
  · have q := h4 y hy
    simp only [e] at q
    split at q <;> first | exact .inl (by assumption) | exact .inr (by assumption) | cases q
  · have q := h4 y hy
    rcases e with e | e <;> (simp only [e, Bool.or_eq_true, decide_eq_true_eq] at q; exact q)
end L2

namespace L2
open PySem PySem.Spec PyProof.Rows

section
variable {prog : Program} {w : World} {A : Around} {R : Result → Shared → Prop} {s : Shared} {elt t0 i0 t1 i1 : Expr} {ifs0 ifs1 : List Expr} {scope : Scope} {pos : Pos} {it acc : Value} {env : Env}
end

section
variable {X : Cx}
end
end L2

namespace L2
open PySem PySem.Spec PyProof.Rows

/-! ### lists of pairs as tables -/
section
variable {κ : Type} [DecidableEq κ]
def valV (kvs : List (κ × V)) (k : κ) : Option V := (kvs.find? fun kv => decide (kv.1 = k)).map (·.2)
/-- in its place, or at the end -/
def putK (kvs : List (κ × V)) (k : κ) (v : V) : List (κ × V) :=
  if (kvs.any fun kv => decide (kv.1 = k)) = true then kvs.map (fun kv => if kv.1 = k then (kv.1, v) else kv) else kvs ++ [(k, v)]

theorem valV_pos {p : κ × V} {r : List (κ × V)} {k : κ} (e : p.1 = k) : valV (p :: r) k = some p.2 := by simp [valV, List.find?_cons, e]
theorem valV_neg {p : κ × V} {r : List (κ × V)} {k : κ} (e : ¬ p.1 = k) : valV (p :: r) k = valV r k := by simp [valV, List.find?_cons, e]
theorem valV_any (k : κ) : ∀ kvs : List (κ × V), (kvs.any fun kv => decide (kv.1 = k)) = (valV kvs k).isSome
  | [] => rfl
  | p :: r => by
    rw [List.any_cons]
    by_cases e : p.1 = k
    · simp only [valV_pos e, decide_eq_true e, Bool.true_or, Option.isSome_some]
    · rw [valV_neg e, decide_eq_false e, Bool.false_or]; exact valV_any k r
theorem length_putK (kvs : List (κ × V)) (k : κ) (v : V) : (putK kvs k v).length ≤ kvs.length + 1 := by
  unfold putK
  split
  · rw [List.length_map]; omega
  · rw [List.length_append, List.length_cons, List.length_nil]; omega
theorem putK_new {kvs : List (κ × V)} {k : κ} (v : V) (h : valV kvs k = none) : putK kvs k v = kvs ++ [(k, v)] := by
  unfold putK
  rw [valV_any, h]
  exact if_neg (by decide)

theorem RelO.isSome_eq {o : Option V} {u : Option Value} (r : RelO o u) : o.isSome = u.isSome := by
  cases o with
  | none => cases u with
    | none => rfl
    | some _ => exact (show False from r).elim
  | some _ => cases u with
    | none => exact (show False from r).elim
    | some _ => rfl

/-- raw tables of the same keys -/
theorem KV.val {kvs : List (κ × V)} {vs : List (κ × Value)} (r : KV kvs vs) (k : κ) : RelO (valV kvs k) (valueAt vs k) := by
  unfold KV at r
  induction r with
  | nil => exact True.intro
  | @cons p q ps qs h t ih =>
    obtain ⟨h1, h2⟩ := h
    by_cases e : p.1 = k
    · have e' : q.1 = k := h1.symm.trans e
      have b : valueAt (q :: qs) k = some q.2 := by simp [valueAt, List.find?_cons, e']
      rw [valV_pos e, b]; exact h2
    · have e' : ¬ q.1 = k := fun z => e (h1.trans z)
      have b : valueAt (q :: qs) k = valueAt qs k := by simp [valueAt, List.find?_cons, e']
      rw [valV_neg e, b]; exact ih
theorem KV.any {kvs : List (κ × V)} {vs : List (κ × Value)} (r : KV kvs vs) (k : κ) : (kvs.any fun kv => decide (kv.1 = k)) = vs.any fun kv => decide (kv.1 = k) := by
  unfold KV at r
  induction r with
  | nil => rfl
  | cons h t ih => rw [List.any_cons, List.any_cons, ih, h.1]
theorem KV.repl {kvs : List (κ × V)} {vs : List (κ × Value)} (r : KV kvs vs) (k : κ) {y : V} {u : Value} (ry : RelV y u) :
    KV (kvs.map fun kv => if kv.1 = k then (kv.1, y) else kv) (vs.map fun kv => if kv.1 = k then (kv.1, u) else kv) := by
  unfold KV at r ⊢
  induction r with
  | nil => exact .nil
  | @cons p q ps qs h t ih =>
    rw [List.map_cons, List.map_cons]
    refine .cons ?_ ih
    obtain ⟨h1, h2⟩ := h
    by_cases e : p.1 = k
    · rw [if_pos e, if_pos (h1.symm.trans e)]; exact ⟨h1, ry⟩
    · rw [if_neg e, if_neg (fun z => e (h1.trans z))]; exact ⟨h1, h2⟩
theorem KV.put {kvs : List (κ × V)} {vs : List (κ × Value)} (r : KV kvs vs) (k : κ) {y : V} {u : Value} (ry : RelV y u) : KV (putK kvs k y) (stored vs k u) := by
  unfold putK stored
  rw [r.any k]
  by_cases e : (vs.any fun kv => decide (kv.1 = k)) = true
  · rw [if_pos e, if_pos e]; exact r.repl k ry
  · rw [if_neg e, if_neg e]; exact Paired.snoc r ⟨rfl, ry⟩
theorem KV.length {kvs : List (κ × V)} {vs : List (κ × Value)} (r : KV kvs vs) : kvs.length = vs.length := Paired.length r
end

/-! ### a tracked dict, its keys ints and texts or tuples of these -/
theorem kV_is {P : Program} {w : World} {k : Key} {u : Value} (r : RelV (kV k) u) : (mixKind P w).is k u = true := by
  cases k with
  | inl i => obtain ⟨t, e⟩ := (show ∃ t, u = Value.int i t from r); subst e; exact mixKind_int P w i t
  | inr x => obtain ⟨t, e⟩ := (show ∃ t, u = Value.str x t from r); subst e; exact mixKind_str P w x t
theorem items_are {P : Program} {w : World} : ∀ {ks : List Key} {us : List Value}, Vals (ks.map kV) us → ItemsAre (mixKind P w) ks us
  | [], _, r => by rw [List.map_nil] at r; cases r; exact .nil
  | k :: ks, _, r => by
    rw [List.map_cons] at r
    cases r with
    | cons h t => exact .cons (kV_is h) (items_are t)

/-- raw entries of a dict with tuple keys -/
abbrev KT (H : Hp) : List (List Key × V) → List (List Key × Addr × Value) → Prop := Paired fun p q => p.1 = q.1 ∧ H q.2.1 = some (.tup (p.1.map kV)) ∧ RelV p.2 q.2.2
theorem KT.val {H : Hp} {kvs : List (List Key × V)} {xs : List (List Key × Addr × Value)} (r : KT H kvs xs) (k : List Key) : RelO (valV kvs k) ((atKey xs k).map (·.2)) := by
  induction r with
  | nil => exact True.intro
  | @cons p q ps qs h t ih =>
    obtain ⟨h1, _, h2⟩ := h
    by_cases e : p.1 = k
    · have e' : q.1 = k := h1.symm.trans e
      have b : atKey (q :: qs) k = some q.2 := by simp [atKey, List.find?_cons, e']
      rw [valV_pos e, b]; exact h2
    · have e' : ¬ q.1 = k := fun z => e (h1.trans z)
      have b : atKey (q :: qs) k = atKey qs k := by simp [atKey, List.find?_cons, e']
      rw [valV_neg e, b]; exact ih
theorem KT.repl {H : Hp} {kvs : List (List Key × V)} {xs : List (List Key × Addr × Value)} (r : KT H kvs xs) (k : List Key) {y : V} {u : Value} (ry : RelV y u) :
    KT H (kvs.map fun kv => if kv.1 = k then (kv.1, y) else kv) (xs.map (putAt k u)) := by
  induction r with
  | nil => exact .nil
  | @cons p q ps qs h t ih =>
    rw [List.map_cons, List.map_cons]
    refine .cons ?_ ih
    obtain ⟨h1, h2, h3⟩ := h
    unfold putAt
    by_cases e : p.1 = k
    · rw [if_pos e, if_pos (h1.symm.trans e)]; exact ⟨h1, h2, ry⟩
    · rw [if_neg e, if_neg (fun z => e (h1.trans z))]; exact ⟨h1, h2, h3⟩
theorem KT.put {H : Hp} {kvs : List (List Key × V)} {xs : List (List Key × Addr × Value)} (r : KT H kvs xs) (k : List Key) {b : Addr} {y : V} {u : Value} (hb : H b = some (.tup (k.map kV))) (ry : RelV y u) :
    KT H (putK kvs k y) (storedH xs k b u) := by
  have e : (kvs.any fun kv => decide (kv.1 = k)) = (atKey xs k).isSome := by
    rw [valV_any, (r.val k).isSome_eq, Option.isSome_map]
  unfold putK storedH
  rw [e]
  by_cases q : (atKey xs k).isSome = true
  · rw [if_pos q, if_pos q]; exact r.repl k ry
  · rw [if_neg q, if_neg q]; exact Paired.snoc r ⟨rfl, hb, ry⟩
theorem KT.keeps {H H' : Hp} {kvs : List (List Key × V)} {xs : List (List Key × Addr × Value)} (r : KT H kvs xs) (ht : ∀ b ys, H b = some (.tup ys) → H' b = some (.tup ys)) : KT H' kvs xs :=
  Paired.mapP r fun _ _ z => ⟨z.1, ht _ _ z.2.1, z.2.2⟩

section
variable {P : Program} {w : World} {H : Hp} {h : Heap} {a : Addr}
theorem rd_of {u : HO} (ok : HOk P w H h) (e : Rd H a u) : ObjOk P w H h a u := e.ok ok
theorem dk_rd {kvs : List (Key × V)} (ok : HOk P w H h) (e : Rd H a (.dK kvs)) : kvs.length ≤ sizeLine ∧ (a == sysModules) = false ∧ ∃ vs, KV kvs vs ∧ h.DictOf (mixKind P w) a vs :=
  show ObjOk P w H h a (.dK kvs) from rd_of ok e
theorem dk_of {kvs : List (Key × V)} (ok : HOk P w H h) (e : H a = some (.dK kvs)) : kvs.length ≤ sizeLine ∧ (a == sysModules) = false ∧ ∃ vs, KV kvs vs ∧ h.DictOf (mixKind P w) a vs := dk_rd ok (.inl e)
/-- a tracked tuple of ints and texts is a key -/
theorem key_of {ks : List Key} (ok : HOk P w H h) (e : H a = some (.tup (ks.map kV))) : (tupleKind (mixKind P w)).is h ks a := by
  obtain ⟨_, its, r, o, h1, h2, n, h3⟩ := (show ObjOk P w H h a (.tup (ks.map kV)) from ok a _ e)
  exact ⟨o, its.toArray, n, h1, h2, h3, by simpa using items_are r⟩
theorem dt_rd {kvs : List (List Key × V)} (ok : HOk P w H h) (e : Rd H a (.dT kvs)) : kvs.length ≤ sizeLine ∧ (a == sysModules) = false ∧
    ∃ xs, KT H kvs xs ∧ h.DictOfH (tupleKind (mixKind P w)) a xs := by
  obtain ⟨z, y, xs, r, o, es, ep, h1, h2, h3, h4, h5⟩ := (show ObjOk P w H h a (.dT kvs) from rd_of ok e)
  refine ⟨z, y, xs, r, o, es, ep, h1, h2, h3, h4, fun x hx => ?_, h5⟩
  have all : ∀ {l : List (List Key × V)} {m : List (List Key × Addr × Value)}, KT H l m → ∀ x ∈ m, (tupleKind (mixKind P w)).is h x.1 x.2.1 := by
    intro l m q
    induction q with
    | nil => intro x hx; exact nomatch hx
    | @cons p q ps qs hq t ih =>
      intro x hx
      rcases List.mem_cons.mp hx with e | hx
      · subst e
        exact key_of ok (by rw [← hq.1]; exact hq.2.1)
      · exact ih x hx
  exact all r x hx
theorem dt_of {kvs : List (List Key × V)} (ok : HOk P w H h) (e : H a = some (.dT kvs)) : kvs.length ≤ sizeLine ∧ (a == sysModules) = false ∧
    ∃ xs, KT H kvs xs ∧ h.DictOfH (tupleKind (mixKind P w)) a xs := dt_rd ok (.inl e)
end

/-- what the dict at a holds at the key y -/
def DGet (H : Hp) (a : Addr) (y : V) (r : Option V) : Prop :=
  (∃ kvs k, Rd H a (.dK kvs) ∧ y = kV k ∧ r = valV kvs k) ∨ ∃ kvs k b, Rd H a (.dT kvs) ∧ y = .ref b ∧ H b = some (.tup (k.map kV)) ∧ r = valV kvs k
/-- the heap behind a[y] = v -/
def DPut (H : Hp) (a : Addr) (y v : V) (H' : Hp) : Prop :=
  (∃ kvs k, H a = some (.dK kvs) ∧ y = kV k ∧ kvs.length < sizeLine ∧ H' = upd H a (.dK (putK kvs k v))) ∨
  ∃ kvs k b, H a = some (.dT kvs) ∧ y = .ref b ∧ H b = some (.tup (k.map kV)) ∧ kvs.length < sizeLine ∧ H' = upd H a (.dT (putK kvs k v))
theorem DGet.k {H : Hp} {a : Addr} {kvs : List (Key × V)} {k : Key} (e : H a = some (.dK kvs)) : DGet H a (kV k) (valV kvs k) := .inl ⟨kvs, k, .inl e, rfl, rfl⟩
theorem DPut.k {H : Hp} {a : Addr} {kvs : List (Key × V)} {k : Key} {v : V} (e : H a = some (.dK kvs)) (hl : kvs.length < sizeLine) : DPut H a (kV k) v (upd H a (.dK (putK kvs k v))) := .inl ⟨kvs, k, e, rfl, hl, rfl⟩

section
variable {X : Cx} {pins : List (Addr × Obj)} {σ : St} {H : Hp} {s : Shared} {a : Addr} {y v : V} {u r : Value} {o : Option V} {A : Around} {E : Value → Shared → Prop}

theorem Inv.big (I : Inv X pins σ H s) : sysModules < s.heap.objs.size := by
  have h : mainGlobals < s.heap.objs.size := (I.mod.glob.keeps I.bk).lt
  exact Nat.lt_trans (by decide) h

/-- y in d -/
theorem d_in {Q : Value → Shared → Prop} (hu : A.units + 1 < cLine) (I : Inv X pins σ H s) (g : DGet H a y o) (ry : RelV y u) (h : ∀ s', Inv X pins σ H s' → Q (.bool o.isSome) s') :
    wpAny (model X.prog X.w) A (compareOp .In u (.ref a)) Q E s := by
  rcases g with ⟨kvs, k, e, ey, l⟩ | ⟨kvs, k, b, e, ey, eb, l⟩
  · subst ey
    obtain ⟨z, hd, vs, rel, dd⟩ := dk_rd I.hok e
    refine wpAny_in_of (kV_is ry) hd dd.mapOf ?_
    rw [← (rel.val k).isSome_eq, ← l]
    exact h _ (I.tok _)
  · subst ey
    cases (show u = Value.ref b from ry)
    obtain ⟨z, hd, xs, rel, dd⟩ := dt_rd I.hok e
    refine wpAny_in_heap (tupleKind_room_in1 hu) (key_of I.hok eb) hd dd ?_
    have q := (rel.val k).isSome_eq
    rw [Option.isSome_map] at q
    rw [← q, ← l]
    exact h _ (I.tok _)
theorem d_notIn {Q : Value → Shared → Prop} (hu : A.units + 1 < cLine) (I : Inv X pins σ H s) (g : DGet H a y o) (ry : RelV y u) (h : ∀ s', Inv X pins σ H s' → Q (.bool (!o.isSome)) s') :
    wpAny (model X.prog X.w) A (compareOp .NotIn u (.ref a)) Q E s := by
  rcases g with ⟨kvs, k, e, ey, l⟩ | ⟨kvs, k, b, e, ey, eb, l⟩
  · subst ey
    obtain ⟨z, hd, vs, rel, dd⟩ := dk_rd I.hok e
    refine wpAny_notIn_of (kV_is ry) hd dd.mapOf ?_
    rw [← (rel.val k).isSome_eq, ← l]
    exact h _ (I.tok _)
  · subst ey
    cases (show u = Value.ref b from ry)
    obtain ⟨z, hd, xs, rel, dd⟩ := dt_rd I.hok e
    refine wpAny_notIn_heap (tupleKind_room_in1 hu) (key_of I.hok eb) hd dd ?_
    have q := (rel.val k).isSome_eq
    rw [Option.isSome_map] at q
    rw [← q, ← l]
    exact h _ (I.tok _)
/-- a dict's object is replaced -/
theorem d_write {h' : Heap} {t' : Nat} {ob : HO} (I : Inv X pins σ H s) (mu : Mut (H a)) (hs : Heap.SameBut a s.heap h') (he : ∃ q, h'.get? a = some q) (new : ObjOk X.prog X.w (upd H a ob) h' a ob) :
    Inv X pins σ (upd H a ob) { s with heap := h', toks := t' } :=
  I.write (x := a) (e := a) mu (.inl rfl) (fun b q hb z => (hs.2 b hb).trans z) he new
theorem dk_new {P : Program} {w : World} {H' : Hp} {h' : Heap} {kvs : List (Key × V)} {vs : List (Key × Value)} (z : kvs.length ≤ sizeLine) (hd : (a == sysModules) = false) (rel : KV kvs vs) (dd : h'.DictOf (mixKind P w) a vs) :
    ObjOk P w H' h' a (.dK kvs) := ⟨z, hd, vs, rel, dd⟩
/-- d[y] = v -/
theorem d_setItem {H' : Hp} {Q : Unit → Shared → Prop} (hu : A.units + 1 < cLine) (I : Inv X pins σ H s) (g : DPut H a y v H') (ry : RelV y u) (rv : RelV v r) (h : ∀ s', Inv X pins σ H' s' → Q () s') :
    wpAny (model X.prog X.w) A (setItem (.ref a) u r) Q E s := by
  rcases g with ⟨kvs, k, e, ey, l, eH⟩ | ⟨kvs, k, b, e, ey, eb, l, eH⟩
  · subst ey eH
    obtain ⟨z, hd, vs, rel, dd⟩ := dk_of I.hok e
    have hz : vs.length ≤ sizeLine := by rw [← rel.length]; exact z
    have hl : (putK kvs k v).length ≤ sizeLine := by have := length_putK kvs k v; omega
    refine wpAny_setItem_pairs (hsz := hz) (kV_is ry) dd fun h' dd' hs => h _ ?_
    have he : ∃ q, h'.get? a = some q := let ⟨q, _, _, hq, _⟩ := dd'; ⟨q, hq⟩
    exact d_write I (by rw [e]; exact True.intro) hs he (dk_new hl hd (rel.put k rv) dd')
  · subst ey eH
    cases (show u = Value.ref b from ry)
    obtain ⟨z, hd, xs, rel, dd⟩ := dt_of I.hok e
    have hz : xs.length ≤ sizeLine := by rw [← Paired.length rel]; exact z
    have hl : (putK kvs k v).length ≤ sizeLine := by have := length_putK kvs k v; omega
    refine wpAny_setItem_heap (hsz := hz) (tupleKind_room_in1 hu) (key_of I.hok eb) dd fun h' dd' hs => h _ ?_
    obtain ⟨q, es, ep, hq, h2, h3, h4, _, h5⟩ := dd'
    refine d_write I (by rw [e]; exact True.intro) hs ⟨q, hq⟩ ⟨hl, hd, _, (rel.put k eb rv).keeps fun c ys ec => ?_, q, es, ep, hq, h2, h3, h4, h5⟩
    rw [upd_ne (ne_of ec e (fun z => nomatch z))]
    exact ec
end

section
variable {X : Cx} {pins : List (Addr × Obj)} {σ : St} {H : Hp} {s : Shared} {a : Addr} {kvs : List (Key × V)} {k : Key} {u : Value} {A : Around} {E : Value → Shared → Prop}
end

/-! ### readings and rules -/

/-- y in d, y not in d -/
def tDIn (ty td : TE) : TE := fun σ H Q => ty σ H fun y H1 => td σ H1 fun x H2 => ∃ a o, x = .ref a ∧ DGet H2 a y o ∧ Q (.bl o.isSome) H2
def tDNotIn (ty td : TE) : TE := fun σ H Q => ty σ H fun y H1 => td σ H1 fun x H2 => ∃ a o, x = .ref a ∧ DGet H2 a y o ∧ Q (.bl (!o.isSome)) H2
/-- d[y] = v -/
def sDPut (td ty tv : TE) : TS := fun D σ H => tv σ H fun v H1 => td σ H1 fun x H2 => ty σ H2 fun y H3 => ∃ a H4, x = .ref a ∧ DPut H3 a y v H4 ∧ D.nx σ H4

section
variable {X : Cx} {o i e value : Expr} {pos pos' tpos : Pos} {td ty tv : TE}
theorem pc_din (hu : X.A.units + 1 < cLine) (hi : PE X i ty) (ho : PE X o td) : PC X .In i o (tDIn ty td) := by
  intro pins s σ H Q I h
  refine thn (hi pins s σ H _ I h) fun iv s1 ⟨y, H1, I1, ry, q1⟩ => thn (ho pins s1 σ H1 _ I1 q1) fun u s2 ⟨x, H2, I2, rx, a, ov, ex, g, q2⟩ => ?_
  subst ex
  obtain rfl : u = Value.ref a := rx
  exact d_in hu I2 g ry fun s3 I3 => ⟨.bl ov.isSome, H2, I3, rfl, q2⟩
theorem pc_dnotin (hu : X.A.units + 1 < cLine) (hi : PE X i ty) (ho : PE X o td) : PC X .NotIn i o (tDNotIn ty td) := by
  intro pins s σ H Q I h
  refine thn (hi pins s σ H _ I h) fun iv s1 ⟨y, H1, I1, ry, q1⟩ => thn (ho pins s1 σ H1 _ I1 q1) fun u s2 ⟨x, H2, I2, rx, a, ov, ex, g, q2⟩ => ?_
  subst ex
  obtain rfl : u = Value.ref a := rx
  exact d_notIn hu I2 g ry fun s3 I3 => ⟨.bl (!ov.isSome), H2, I3, rfl, q2⟩
theorem ps_dput (hu : X.A.units + 1 < cLine) (ho : PE X o td) (hi : PE X i ty) (hv : PE X value tv) (hs : swapsWith value (some (.Subscript o i pos')) pos.line X.env = pure false) :
    PS X (.Assign [.Subscript o i pos'] value pos) (sDPut td ty tv) := by
  intro pins s σ H D I h
  refine wpAny_Assign_Subscript (thn (hv pins s σ H _ I h) fun r s1 ⟨v, H1, I1, rv, q1⟩ => thn (ho pins s1 σ H1 _ I1 q1) fun u s2 ⟨x, H2, I2, rx, q2⟩ => thn (hi pins s2 σ H2 _ I2 q2) fun iv s3 ⟨y, H3, I3, ry, a, H4, ex, g, q3⟩ => ?_) hs
  subst ex
  obtain rfl : u = Value.ref a := rx
  exact d_setItem hu I3 g ry rv fun s4 I4 => ⟨σ, H4, I4, q3⟩
end

/-! ### displays -/
theorem dk_empty {P : Program} {w : World} {H : Hp} (h : Heap) (hb : sysModules < h.objs.size) : ObjOk P w H (h.push { cls := .type "dict", data := .dict #[] }) h.objs.size (.dK []) :=
  ⟨Nat.zero_le _, beq_eq_false_iff_ne.mpr (Ne.symm (Nat.ne_of_lt hb)), [], .nil, Heap.DictOf.new h⟩
/-- {}, to be a dict of the kind that is wanted -/
def tDNewK : TE := fun _ H Q => ∀ p, H p = none → Q (.ref p) (upd H p (.dK []))
section
variable {X : Cx} {pos : Pos}
theorem pe_dnewK : PE X (.Dict [] [] pos) tDNewK := fun pins s σ H Q I h =>
  wpAny_Dict_empty ⟨.ref s.heap.objs.size, _, I.laid (a := s.heap.objs.size) (o := .dK []) (t' := s.toks) (fun _ _ q => Heap.get?_push_of_some _ q) (Nat.le_refl _) (dk_empty s.heap I.big), rfl, h _ (I.hok.fresh (Nat.le_refl _))⟩
end

/-! ### methods -/

section
variable {X : Cx} {pins : List (Addr × Obj)} {σ : St} {H : Hp} {s : Shared} {a : Addr} {y d : V} {u r : Value} {o : Option V} {A : Around} {E : Value → Shared → Prop}
end

section
variable {X : Cx} {o e f : Expr} {apos cpos : Pos} {td ty tx : TE}
end

/-! ### dict(d): a copy -/
section
variable {X : Cx} {pins : List (Addr × Obj)} {σ : St} {H : Hp} {s : Shared} {a : Addr} {kvs : List (Key × V)} {A : Around} {E : Value → Shared → Prop}
end

section
variable {X : Cx} {pins : List (Addr × Obj)} {σ : St} {H : Hp} {s : Shared} {a : Addr} {y : V} {u : Value} {A : Around} {E : Value → Shared → Prop}
end
end L2

namespace L2
open PySem PySem.Spec PyProof.Rows

section
variable {prog : Program} {w : World} {A : Around} {E : Value → Shared → Prop}

end

section
variable {X : Cx}
end
end L2

namespace L2
open PySem PySem.Spec PyProof.Rows

section
variable {X : Cx} {pins : List (Addr × Obj)} {σ : St} {H : Hp} {s : Shared} {h' : Heap}

/-! ### locking a thing while a statement runs -/
end
section
variable {X : Cx}

/-! ### one iterator just laid -/
end

/-! ### range with a step -/
section
variable {X : Cx} {tg : Expr}
end

/-! ### reversed(list) -/
section
variable {X : Cx} {tg : Expr}
end

/-! ### a str -/

/-! ### a dict's keys: any dict's entries -/
section
variable {prog : Program} {w : World} {A : Around} {E : Value → Shared → Prop} {s : Shared}
end

/-! ### a locked dict -/
section
variable {X : Cx} {pins : List (Addr × Obj)} {σ : St} {H : Hp} {s : Shared} {d : Addr} {o : Obj}
end

section
variable {P : Program} {w : World} {K : PySem.W.Frag} {tg : Expr} {d : Addr} {o : Obj} {es : Array DictEntry} {ep : Nat}
end

/-! ### for k in d, d.keys(), d.values(), d.items() -/
section
variable {X : Cx} {tg e : Expr} {td : TE} {apos cpos : Pos}
end

/-! ### enumerate(list) -/
/-! ### zip(list, list) -/
end L2

section
namespace Bits
open PySem PyProof.Rows

/-- x & ((1 << k) - 1) -/
theorem bitAnd_mask {x : Int} (k : Nat) (hx : 0 ≤ x) : Builtin.bitAnd x (2 ^ k - 1) = x % 2 ^ k := by
  obtain ⟨n, rfl⟩ := Int.eq_ofNat_of_zero_le hx
  have hp : 0 < 2 ^ k := Nat.two_pow_pos k
  rw [two_pow_cast]
  have e : ((2 ^ k : Nat) : Int) - 1 = ((2 ^ k - 1 : Nat) : Int) := by
    generalize (2 : Nat) ^ k = m at hp
    omega
  rw [e, bitAnd_pp (by omega) (by omega), Int.toNat_natCast, Int.toNat_natCast, Nat.and_two_pow_sub_one_eq_mod]
  first
    | rfl
    | exact Int.natCast_emod _ _
    | simp

end Bits
end

section
namespace TL
open PySem PySem.Builtin PySem.Builtin.Str PySem.StrLaws

/-! ### the list functions -/

/-! ### the model's split and partition are these -/

/-! ### computing spl and par -/

/-! ### digits -/

/-! ### words: x.split() -/
end TL
end

namespace L2
open PySem PySem.Spec PyProof.Rows

section
variable {X : Cx} {pins : List (Addr × Obj)} {σ : St} {H : Hp} {s : Shared} {Q : VK}
end

section
variable {X : Cx}

/-! ### of a text alone -/

/-! ### of a text and a text -/

end

section
variable {X : Cx} {o e : Expr} {to te : TE}

end
end L2

namespace L2
open PySem PySem.Spec PyProof.Rows

section
variable {X : Cx}
end

/-! ### slices of a text -/

end L2

namespace Att
open PySem PySem.W PySem.Calls PyProof.Rows

/-! ### the script -/
theorem ints_of_wellAll {P : Params} {h : Heap} : ∀ (ns : List Int) (vs : List Value), WellAll P h vs (ns.map WData.int) → IntsAre vs ns := by
  intro ns
  induction ns with
  | nil =>
    intro vs w
    rw [List.map_nil] at w
    cases w
    exact .nil
  | cons n ns ih =>
    intro vs w
    rw [List.map_cons] at w
    cases w with
    | cons a b =>
      cases a
      exact .cons _ _ (ih _ b)

/-! ### the attachment: holds_open's last premise (the goal 'hc' behind k_head) from a wpAny of the law's body -/

/-! ### rules over ANY heap (no ledger) from facts about the written part K: the library's own take a ledger (News) for what they write -/
section
variable {prog : Program} {w : World} {A : Around} {E : Value → Shared → Prop} {s : Shared} {K : Frag}

/-! the whole heap as the ledger: makes every rule that writes through a ledger a rule over any heap -/

end
end Att

namespace L2
open PySem PySem.Spec PyProof.Rows

theorem vals_ints : ∀ {vs : List Value} {ns : List Int}, IntsAre vs ns → Vals (ns.map V.int) vs
  | _, _, .nil => .nil
  | _, _, .cons n t h => .cons ⟨t, rfl⟩ (vals_ints h)

/-- nothing is tracked but the script, known to the object (or it is an object of the module) -/
def Only (H : Hp) : Prop := ∀ b, H b = none ∨ ∃ o xs, H b = some (.frz o (.lst xs))

end L2

namespace L2
open PySem PySem.Spec PyProof.Rows

abbrev KOf {K : PySem.W.Frag} {h : Heap} (_ : K.In h) : PySem.W.Frag := K

end L2

/- THE LAST THEOREM (shape; LID, My.* are yours):
   My.Adr: a structure of the addresses that your layer names (classes, functions); My.Txt K t: a structure (Prop) of the equations over K;
   My.txt_mk : {K} {implicit addresses ..} (e1 : nsIn K mainGlobals "law" = some (some (.ref f))) (e2 : K.lookup f = some ⟨oc, od, .func (fnOf "law" "law" params body scope dV kV doc pm an cdv ct), sl⟩) (e3 : codeIn K cdv "law" = true) .. : ∃ t, My.Txt K t

set_option maxRecDepth 100000 in
set_option maxHeartbeats 0 in
theorem PySem.Challenge.cw_LID_holds : PySem.Challenge.rw_LID.Holds := by
  w_on; o_law; k_head; (case hw => w_witness2)
  k_fill
  refine L2.walk_of (l := PySem.Challenge.rw_LID) (n := 63) (k := 40) (x := "script") (CX := fun w => ..) (sp := fun _ => My.sp_law) rfl (by decide) rfl ⟨rfl, by decide, by decide⟩ (fun w h Y => PySem.W.kIn_of Y) ?F ?S ?C
  case F =>
    intro w mg fa h KX G hmg
    have T : ∃ t, My.Txt (L2.KOf KX) t := by
      dsimp only [L2.KOf]                          -- K must stand as «<heap const> w.params» for k_is
      refine' My.txt_mk ?e1 ?e2 ?e3 ..
      (case e1 => PySem.W.k_is)                    -- in the order: a name -> its address -> its object -> its parts
      (case e2 => PySem.W.k_is)
      ..
    obtain ⟨t, T⟩ := T
    have e0 := hmg.symm.trans (PySem.W.mg_of KX G T.law)
    cases e0                                       -- fa is the law's own address
    exact ⟨_, fun s u => .of_eq rfl, fun base kb nb => My.law_fn T kb nb⟩     -- if «.of_eq rfl» comes too early: refine' ⟨_, ?b, fun base kb nb => My.law_fn T kb nb⟩; exact fun s u => .of_eq rfl
  case S => exact fun w H a ns hl hO hS => ..
  case C => exact ..
(the tactic k_is has no namespace: write k_is) -/

/-! SHORT WORDS over the layer: a def of the text, its body, what a loop and a test want. -/
namespace L2
open PySem PySem.Spec PyProof.Rows

/-! ### the text by places -/
/-- the j-th statement of a class's body -/
def inClass (s : Stmt) (j : Nat) : Stmt := match s with
  | .ClassDef _ _ _ body _ _ _ _ _ _ _ => body.getD j (.Pass ⟨0, 0, 0, 0⟩)
  | _ => .Pass ⟨0, 0, 0, 0⟩
def defArgs (s : Stmt) : Arguments := match s with
  | .FunctionDef _ a _ _ _ _ _ _ _ _ => a
  | _ => { posonlyargs := [], args := [], vararg := none, kwonlyargs := [], kw_defaults := [], kwarg := none, defaults := [] }
def defBody (s : Stmt) : List Stmt := match s with
  | .FunctionDef _ _ b _ _ _ _ _ _ _ => b
  | _ => []
def defScope (s : Stmt) : Scope := match s with
  | .FunctionDef _ _ _ _ _ _ sc _ _ _ => sc
  | _ => { kind := .function, names := [], isGenerator := false, isCoroutine := false }

/-! ### no exception leaves a def -/

/-! ### a def (or method) of the text as it stands behind the top -/
structure Fun (K : PySem.W.Frag) (x qual : Str) (st : Stmt) (f : Addr) (fd : FuncData) : Prop where
  ex : ∃ (oc : Value) (od : Option Addr) (kV doc pm : Value) (an : Option Addr) (cdv ct : Value) (osl : Array (Option Value)),
    fd = PySem.W.fnOf x qual (defArgs st) (defBody st) (defScope st) .none kV doc pm an cdv ct ∧ K.lookup f = some ⟨oc, od, .func fd, osl⟩ ∧ PySem.W.codeIn K cdv qual = true
  kp : PySem.W.keepIn K (.ref f) = true
section
variable {P : Program} {w : World} {K : PySem.W.Frag} {mg : Str → Option Value} {base : Heap}
/-- how its arguments bind (no defaults): h is «fun _ _ _ _ _ _ us hl => match us, hl with | [_, _], _ => rfl», one _ a parameter -/
theorem Fun.binds {x qual : Str} {st : Stmt} {f : Addr} {fd : FuncData} {ps : List Str} (F : Fun K x qual st f fd)
    (h : ∀ (kV doc pm : Value) (an : Option Addr) (cdv ct : Value) (us : List Value), us.length = ps.length → bindArgs (PySem.W.fnOf x qual (defArgs st) (defBody st) (defScope st) .none kV doc pm an cdv ct) ⟨us, []⟩ = pure (ps.zip us)) : Binds K fd ps [] := by
  obtain ⟨oc, od, kV, doc, pm, an, cdv, ct, osl, rfl, lk, hcd⟩ := F.ex
  exact .all (h kV doc pm an cdv ct)
theorem fun_mk {x qual : Str} {st : Stmt} {f : Addr} {oc : Value} {od an : Option Addr} {osl : Array (Option Value)} {kV doc pm cdv ct : Value} (l : K.lookup f = some ⟨oc, od, .func (PySem.W.fnOf x qual (defArgs st) (defBody st) (defScope st) .none kV doc pm an cdv ct), osl⟩)
    (c : PySem.W.codeIn K cdv qual = true) (k : PySem.W.keepIn K (.ref f) = true) : Fun K x qual st f (PySem.W.fnOf x qual (defArgs st) (defBody st) (defScope st) .none kV doc pm an cdv ct) := ⟨⟨oc, od, kV, doc, pm, an, cdv, ct, osl, rfl, l, c⟩, k⟩
end
theorem hu_of {A : Around} {k : Nat} (hr : Room k A) : A.units + 1 < cLine := Nat.lt_of_le_of_lt (Nat.add_le_add_left (by decide : 1 ≤ 64) _) hr.units

/-! ### expressions in short: the name that stands in the i-th slot -/
section
variable {X : Cx}
theorem pv (i : Nat) {x : Str} {pos : Pos} (hN : X.N[i]? = some x := by rfl) (hv : Vis X.env.scope x := by first | exact Or.inl rfl | exact Or.inr (Or.inl rfl) | exact Or.inr (Or.inr rfl)) (hd : (x == ("__debug__" : Str)) = false := by decide)
    (hcd : (x == ("__classdict__" : Str)) = false := by decide) : PE X (.Name x pos) (tVar i) := pe_var hN hv hd hcd
end

/-! ### tests -/
theorem iteF {A B : Prop} (h : B) : if false = true then A else B := by
  rw [if_neg Bool.false_ne_true]
  exact h
theorem iteT {A B : Prop} (h : A) : if true = true then A else B := by
  rw [if_pos rfl]
  exact h
theorem ite2 {c A B : Prop} [Decidable c] (h1 : c → A) (h2 : ¬ c → B) : if c then A else B := by
  by_cases h : c
  · rw [if_pos h]
    exact h1 h
  · rw [if_neg h]
    exact h2 h

/-! ### heaps -/
/-- all that was tracked is as it was -/
def Same (H H' : Hp) : Prop := ∀ b o, H b = some o → H' b = some o
theorem Same.refl (H : Hp) : Same H H := fun _ _ h => h
theorem Same.trans {H H1 H2 : Hp} (a : Same H H1) (b : Same H1 H2) : Same H H2 := fun c o h => b c o (a c o h)
theorem Same.free {H H' : Hp} (e : Same H H') {l : Addr} (h : H' l = Option.none) : H l = Option.none := by
  cases q : H l with
  | none => rfl
  | some o =>
    rw [e l o q] at h
    cases h
theorem Same.seq {K : PySem.W.Frag} {H H' : Hp} {a : Addr} {xs : List V} (e : Same H H') (h : SqL K H a xs) : SqL K H' a xs := by
  rcases h with (h | ⟨o, h⟩) | h
  · exact .inl (.inl (e _ _ h))
  · exact .inl (.inr ⟨o, e _ _ h⟩)
  · exact .inr h

/-! ### a dict's pairs: keys that differ -/
section
variable {κ : Type} [DecidableEq κ]
end
/-! ### lists -/
theorem at_of {xs : List V} {z : Int} {j : Nat} {v : V} (e : z = (j : Int)) (h : xs[j]? = some v) : atI xs z = some v := by
  rw [e]
  exact atI_nat h
end L2

set_option Elab.async false
set_option linter.all false
set_option maxRecDepth 100000
/-! Own part 1: an exception of the program's own class flies out of defs, out of a comprehension's block, and is caught. -/
namespace L2
open PySem PySem.Spec PyProof.Rows

/-! ### the class -/
abbrev exBm : List Value := [.type "Exception", .type "BaseException", .type "object"]
def ExcC (K : PySem.W.Frag) (C : Addr) : Prop := PySem.W.excIn K C exBm "Exception.__new__" = true
def ExcO (h : Heap) (C : Addr) : Prop :=
  ∃ (bm : List Value) (N : Addr) (nm q : Str) (bs : List Value) (hdct : Bool) (sn : List Str) (sub : List Value) (ab : Bool)
    (col : Option Bool) (dd : Option Addr) (k0 k1 k2 k3 k5 : Option Value) (mN : Str → Option Value),
    h.get? C = some (excClassObj nm q C N bs bm hdct sn sub ab col dd k0 k1 k2 k3 k5 "Exception.__new__") ∧
    h.Ns N mN ∧ mN "__init__" = none ∧ OwnTail h exBm bm
theorem ExcC.obj {K : PySem.W.Frag} {h : Heap} {C : Addr} (X : K.In h) (e : ExcC K C) : ExcO h C := by
  unfold ExcC PySem.W.excIn at e
  split at e
  case h_2 => exact absurd e (by decide)
  case h_1 dd cd sl hl =>
    split at e
    case h_2 => exact absurd e (by decide)
    case h_1 D bm k0 k1 k2 k3 n k5 hm hs =>
      simp only [Bool.and_eq_true, beq_iff_eq, Bool.not_eq_true'] at e
      have eD := e.1.1.1.1.1
      have en := e.1.1.1.1.2
      have edl := e.1.1.1.2
      have etl := e.1.1.2
      have eok := e.1.2
      have eni := e.2
      clear e
      subst eD
      subst en
      cases cd with
      | mk nm bs mro ns qn hd sn sub ab col del =>
        dsimp only at hm edl eok eni
        subst hm
        subst edl
        have es : sl = #[k0, k1, k2, k3, some (.builtin "Exception.__new__"), k5] := by
          cases sl with
          | mk l => simp only at hs; rw [hs]
        subst es
        exact ⟨bm, ns, nm, qn, bs, hd, sn, sub, ab, col, dd, k0, k1, k2, k3, k5, _, X _ _ hl,
          .of_isNs (PySem.W.isNs_of_in X eok), PySem.W.nsMap_none_of_in X eok eni, PySem.W.tail_of_in X etl⟩

/-! ### the state out of which an exception leaves -/
structure Out (P : Program) (w : World) (base : Heap) (env : Env) (outer : List Env) (L : Addr) (s : Shared) (H H2 : Hp) (s2 : Shared) : Prop where
  os : s2.os = s.os
  bare : AllBare s2.gens
  un : Un (frs outer) [] H H2 s.heap s2.heap
  hok : HOk P w H2 s2.heap
  old : base.StaysIn s.heap
  st : base.StaysIn s2.heap
  funs : s2.heap.FunFrames base (env :: outer)
  fr : ∀ b ∈ frs (env :: outer), H2 b = none
  fL : env.frame = some L
  mine : s.heap.get? L = none
theorem frs_cons {env : Env} {outer : List Env} {L : Addr} (h : env.frame = some L) : frs (env :: outer) = L :: frs outer := by
  unfold frs
  rw [List.filterMap_cons, h]

theorem funs_slots {base : Heap} : ∀ {l : List Env} {h h' : Heap}, h.FunFrames base l → (∀ b o, b ∈ frs l → h.get? b = some o → ∃ sl, h'.get? b = some { o with slots := sl }) → h'.FunFrames base l
  | [], _, _, _, _ => trivial
  | env :: l, h, h', ⟨hk, ⟨L, o, hf, hn, ho, hd⟩, hr⟩, k => by
    obtain ⟨sl, e⟩ := k L o (by rw [frs_cons hf]; exact List.mem_cons_self ..) ho
    refine ⟨hk, ⟨L, _, hf, hn, e, fun vs q => hd vs q⟩, funs_slots hr fun b o hb e => k b o ?_ e⟩
    rw [frs_cons hf]
    exact List.mem_cons_of_mem _ hb
section
variable {P : Program} {w : World} {base : Heap} {env : Env} {outer : List Env} {L : Addr} {s s2 : Shared} {H H2 : Hp}
theorem Out.move (O : Out P w base env outer L s H H2 s2) {h' : Heap} (ch : List Addr)
    (hc : ∀ b ∈ ch, s.heap.get? b = none ∧ H2 b = none ∧ b ∉ frs (env :: outer))
    (k : ∀ b o, b ∉ ch → b ∉ frs (env :: outer) → s2.heap.get? b = some o → h'.get? b = some o)
    (ks : ∀ b o, b ∉ ch → b ∈ frs (env :: outer) → s2.heap.get? b = some o → ∃ sl, h'.get? b = some { o with slots := sl }) :
    Out P w base env outer L s H H2 { s2 with heap := h' } := by
  have nch : ∀ b o, s.heap.get? b = some o → b ∉ ch := fun b o e z => by
    rw [(hc b z).1] at e
    cases e
  have nfr : ∀ b o, s.heap.get? b = some o → b ∉ frs outer → b ∉ frs (env :: outer) := fun b o e n z => by
    rw [frs_cons O.fL] at z
    rcases List.mem_cons.mp z with q | q
    · rw [q, O.mine] at e
      cases e
    · exact n q
  have tch : ∀ b u, H2 b = some u → b ∉ ch := fun b u e z => by
    rw [(hc b z).2.1] at e
    cases e
  have tfr : ∀ b u, H2 b = some u → b ∉ frs (env :: outer) := fun b u e z => by
    rw [O.fr b z] at e
    cases e
  have kany : ∀ b o, b ∉ ch → s2.heap.get? b = some o → ∃ sl, h'.get? b = some { o with slots := sl } := fun b o n e => by
    by_cases z : b ∈ frs (env :: outer)
    · exact ks b o n z e
    · exact ⟨o.slots, k b o n z e⟩
  refine ⟨O.os, O.bare, ⟨fun b o e n hb hx => ?_, fun b o e n hb hx => ?_, O.un.free, fun b o e hx => ?_, O.un.tups, O.un.frzs, O.un.tbls⟩,
    fun b u e => ?_, O.old, fun b o e => ?_, ?_, O.fr, O.fL, O.mine⟩
  · exact k b o (nch b o e) (nfr b o e hb) (O.un.keep b o e n hb hx)
  · obtain ⟨sl, e1⟩ := O.un.slot b o e n hb hx
    obtain ⟨sl', e2⟩ := kany b _ (nch b o e) e1
    exact ⟨sl', e2⟩
  · obtain ⟨o', e1⟩ := O.un.there b o e hx
    obtain ⟨sl, e2⟩ := kany b o' (nch b o e) e1
    exact ⟨_, e2⟩
  · refine (O.hok b u e).stay (fun c v hcb q => ?_) (fun _ q => q) fun _ _ q => q
    rcases hcb with z | z
    · subst z
      exact k c v (tch c u e) (tfr c u e) q
    · exact k c v (tch c _ z) (tfr c _ z) q
  · have e1 := O.old b o e
    refine k b o (nch b o e1) (fun z => ?_) (O.st b o e)
    rw [(O.funs.mem z).1] at e
    cases e
  · exact funs_slots O.funs fun b o hb e => ks b o (fun z => (hc b z).2.2 hb) hb e

/-- the exception at x, of class C, younger than s, not tracked; T its newest traceback (none: raised just now) -/
structure Exc (C x : Addr) (s : Shared) (H2 : Hp) (h : Heap) (T : Option Addr) : Prop where
  new : s.heap.get? x = none
  fx : H2 x = none
  obj : ∃ oe vs, h.get? x = some oe ∧ oe.cls = .ref C ∧ oe.data = .fields vs ∧ vs[1]? = some (T.elim .none .ref)
  tb : ∀ t, T = some t → t ≠ x ∧ s.heap.get? t = none ∧ H2 t = none ∧ ∃ oT ts fl, h.get? t = some oT ∧ oT.data = .fields ts ∧ ts[3]? = some fl

variable {C x : Addr} {T : Option Addr} {M : Model} {A : Around} {E : Value → Shared → Prop}
theorem Out.notFrame (O : Out P w base env outer L s H H2 s2) {b : Addr} {o : Obj} {vs : Array Value} (e : s2.heap.get? b = some o) (d : o.data = .fields vs) : b ∉ frs (env :: outer) := fun z => by
  obtain ⟨_, o', e', n⟩ := O.funs.mem z
  rw [e] at e'
  cases e'
  exact n vs d

/-- the frame's object -/
theorem frame_any {env' : Env} {Q : Value → Shared → Prop} (hfr : A.frames = some (env :: outer)) (hl : s.heap.FunFrames base (env :: outer)) (hf : env.frame = some L) (hf' : env'.frame = some L)
    (h : ∀ h', Heap.SlotsOnly (frs (env :: outer)) s.heap h' → Q (.ref L) { s with heap := h' }) : wpAny M A (PySem.frameOf env') Q E s := by
  unfold PySem.frameOf
  refine wpAny_bind (wpAny_frameEnvs hfr ?_)
  have e : (List.dropWhile (fun y => y.frame != env'.frame) (env :: outer)) = env :: outer := by
    simp [List.dropWhile, hf, hf']
  rw [e]
  unfold frameObject
  refine wpAny_bind (wpAny_bind ?_)
  refine wpAny_readyFrames_fun hl fun h1 h2 => ?_
  refine wpAny_pure ?_
  rw [hf]
  exact wpAny_pure (h h1 h2)

/-- a new traceback entry is laid and hung in -/
theorem entry_ok {env' : Env} {head : Value} {hadNext : Bool} {Q : Unit → Shared → Prop} (O : Out P w base env outer L s H H2 s2) (X : Exc C x s H2 s2.heap T)
    (hfr : A.frames = some (env :: outer)) (hf' : env'.frame = some L)
    (h : ∀ h' t, Out P w base env outer L s H H2 { s2 with heap := h' } → Exc C x s H2 h' (some t) → s2.heap.UpToSlots h' → Q () { s2 with heap := h' }) :
    wpAny M A (PySem.frameOf env' >>= fun a => entryPlaceOf L hadNext >>= fun pl =>
      EntryCells.newEntry head a .none (rawInt L) .none pl >>= fun b => setField (.ref x) 1 b) Q E s2 := by
  obtain ⟨oe, vs, he, hcl, hd, h1⟩ := X.obj
  have hsz : 1 < vs.size := (Array.getElem?_eq_some_iff.mp h1).1
  have nx := O.notFrame he hd
  refine wpAny_bind (frame_any hfr O.funs O.fL hf' fun g so => ?_)
  refine wpAny_bind (wpAny_entryPlaceOf fun pl hpl => ?_)
  unfold EntryCells.newEntry newFields
  refine wpAny_bind (wpAny_newObj_type ?_ (hpl.sizeOk5 _ _ _ _ _))
  generalize hto : ({ cls := .type "traceback", dict := none, data := .fields ([head, .ref L, .none, rawInt L, .none] ++ (if pl.isEmpty then List.replicate 6 Value.none else pl)).toArray } : Obj) = to
  have eg : g.get? x = some oe := (so.2.1 x nx).trans he
  have ep : (g.push to).get? x = some oe := Heap.get?_push_of_some to eg
  refine wpAny_setField ep hd hsz ?_
  have hd3 := Obj.data_mapFields hd (·.setIfInBounds 1 (Value.ref g.objs.size))
  have ex := Heap.get?_update_self (Obj.mapFields (·.setIfInBounds 1 (Value.ref g.objs.size))) ep (Obj.isFreed_of_fields hd3)
  have ne : g.objs.size ≠ x := Nat.ne_of_gt (Heap.lt_size eg)
  have et : (g.push to).get? g.objs.size = some to := by
    rw [← hto]
    exact Heap.get?_push_size g rfl
  have et3 := (Heap.get?_update_other (g.push to) (Obj.mapFields (·.setIfInBounds 1 (Value.ref g.objs.size))) (Ne.symm ne)).trans et
  have sz : g.objs.size = s2.heap.objs.size := so.1
  have ns : s.heap.get? g.objs.size = none := by
    cases q : s.heap.get? g.objs.size with
    | none => rfl
    | some o =>
      obtain ⟨o', e'⟩ := O.un.there _ o q (by simp)
      have lt := Heap.lt_size e'
      rw [sz] at lt
      exact absurd lt (Nat.lt_irrefl _)
  refine h _ g.objs.size (O.move [x] (fun b hb => ?_) (fun b o n nf e => ?_) fun b o n nf e => ?_) ⟨X.new, X.fx, ⟨_, _, ex, ?_, hd3, ?_⟩, fun t ht => ?_⟩ ?up
  case up =>
    intro b o e hn
    have nb : b ≠ x := fun z => by
      rw [z, he] at e
      cases e
      exact hn vs hd
    obtain ⟨sl, e1⟩ := so.2.2 b o e
    exact ⟨sl, (Heap.get?_update_other (g.push to) _ (Ne.symm nb)).trans (Heap.get?_push_of_some to e1)⟩
  · obtain rfl : b = x := by simpa using hb
    exact ⟨X.new, X.fx, nx⟩
  · have nb : b ≠ x := fun z => n (by simp [z])
    have e1 : g.get? b = some o := (so.2.1 b nf).trans e
    exact (Heap.get?_update_other (g.push to) _ (Ne.symm nb)).trans (Heap.get?_push_of_some to e1)
  · have nb : b ≠ x := fun z => n (by simp [z])
    obtain ⟨sl, e1⟩ := so.2.2 b o e
    exact ⟨sl, (Heap.get?_update_other (g.push to) _ (Ne.symm nb)).trans (Heap.get?_push_of_some to e1)⟩
  · exact (Obj.cls_mapFields _ _).trans hcl
  · simp [hsz]
  · cases ht
    refine ⟨ne, ns, O.hok.fresh (Nat.le_of_eq sz.symm), to, _, rawInt L, et3, by rw [← hto], ?_⟩
    simp

/-- noteFrame, whatever the exception has -/
theorem note_ok {env' : Env} {Q : Unit → Shared → Prop} (O : Out P w base env outer L s H H2 s2) (X : Exc C x s H2 s2.heap T)
    (hfr : A.frames = some (env :: outer)) (hf' : env'.frame = some L)
    (h : ∀ h' t, Out P w base env outer L s H H2 { s2 with heap := h' } → Exc C x s H2 h' (some t) → s2.heap.UpToSlots h' → Q () { s2 with heap := h' }) :
    wpAny M A (noteFrame (.ref x) env') Q E s2 := by
  obtain ⟨oe, vs, he, hcl, hd, h1⟩ := X.obj
  unfold noteFrame
  simp only [hf']
  refine wpAny_bind (wpAny_field he hd h1 ?_)
  cases T with
  | none =>
    rw [if_neg (by decide)]
    exact entry_ok O X hfr hf' h
  | some t =>
    obtain ⟨ntx, nst, nht, oT, ts, fl, eT, dT, h3⟩ := X.tb t rfl
    rw [if_pos (by simp)]
    refine wpAny_bind (wpAny_field eT dT h3 ?_)
    by_cases hq : (fl == rawInt L) = true
    · rw [if_pos hq]
      exact wpAny_pure (h s2.heap t O X (Heap.UpToSlots.refl _))
    · rw [if_neg hq]
      have hsz : 3 < ts.size := (Array.getElem?_eq_some_iff.mp h3).1
      refine wpAny_bind (wpAny_setField eT dT hsz ?_)
      have oth : ∀ b, b ≠ t → (s2.heap.update t (Obj.mapFields (·.setIfInBounds 3 Value.none))).get? b = s2.heap.get? b := fun b hb => Heap.get?_update_other _ _ (Ne.symm hb)
      have dT' := Obj.data_mapFields dT (·.setIfInBounds 3 Value.none)
      have eT' := Heap.get?_update_self (Obj.mapFields (·.setIfInBounds 3 Value.none)) eT (Obj.isFreed_of_fields dT')
      refine entry_ok (T := some t) (O.move [t] (fun b hb => ?_) (fun b o n _ e => ?_) fun b o n _ e => ?_) ⟨X.new, X.fx, ⟨oe, vs, (oth x (Ne.symm ntx)).trans he, hcl, hd, h1⟩, fun t' ht => ?_⟩ hfr hf' fun h' t' o1 o2 o3 => h h' t' o1 o2 (Heap.UpToSlots.trans (fun b o e hn => ⟨o.slots, (oth b fun z => ?u).trans e⟩) o3)
      case u =>
        rw [z, eT] at e
        cases e
        exact hn ts dT
      · obtain rfl : b = t := by simpa using hb
        exact ⟨nst, nht, O.notFrame eT dT⟩
      · exact (oth b fun z => n (by simp [z])).trans e
      · exact ⟨o.slots, (oth b fun z => n (by simp [z])).trans e⟩
      · cases ht
        exact ⟨ntx, nst, nht, _, _, .none, eT', dT', by simp [hsz]⟩

theorem fly_ok {t : Addr} {f : Option Addr} {Q : Unit → Shared → Prop} (O : Out P w base env outer L s H H2 s2) (X : Exc C x s H2 s2.heap (some t))
    (h : ∀ h', Out P w base env outer L s H H2 { s2 with heap := h' } → Exc C x s H2 h' (some t) → s2.heap.UpToSlots h' → Q () { s2 with heap := h' }) :
    wpAny M A (setFlight (.ref x) f) Q E s2 := by
  obtain ⟨oe, vs, he, hcl, hd, h1⟩ := X.obj
  obtain ⟨ntx, nst, nht, oT, ts, fl, eT, dT, h3⟩ := X.tb t rfl
  have h1 : vs[1]? = some (.ref t) := h1
  have hsz : 3 < ts.size := (Array.getElem?_eq_some_iff.mp h3).1
  unfold setFlight
  refine wpAny_bind (wpAny_field he hd h1 ?_)
  rw [if_pos (by simp)]
  generalize (f.elim Value.none fun f => rawInt f) = fv
  refine wpAny_setField eT dT hsz ?_
  have oth : ∀ b, b ≠ t → (s2.heap.update t (Obj.mapFields (·.setIfInBounds 3 fv))).get? b = s2.heap.get? b := fun b hb => Heap.get?_update_other _ _ (Ne.symm hb)
  have dT' := Obj.data_mapFields dT (·.setIfInBounds 3 fv)
  have eT' := Heap.get?_update_self (Obj.mapFields (·.setIfInBounds 3 fv)) eT (Obj.isFreed_of_fields dT')
  refine h _ (O.move [t] (fun b hb => ?_) (fun b o n _ e => ?_) fun b o n _ e => ?_) ⟨X.new, X.fx, ⟨oe, vs, (oth x (Ne.symm ntx)).trans he, hcl, hd, h1⟩, fun t' ht => ?_⟩ (fun b o e hn => ⟨o.slots, (oth b fun z => ?u).trans e⟩)
  case u =>
    rw [z, eT] at e
    cases e
    exact hn ts dT
  · obtain rfl : b = t := by simpa using hb
    exact ⟨nst, nht, O.notFrame eT dT⟩
  · exact (oth b fun z => n (by simp [z])).trans e
  · exact ⟨o.slots, (oth b fun z => n (by simp [z])).trans e⟩
  · cases ht
    exact ⟨ntx, nst, nht, _, _, fv, eT', dT', by simp [hsz]⟩

/-- how an exception of class C lies behind a call -/
def CXB (P : Program) (w : World) (C : Addr) : CXT := fun outer H s E e s' => ∃ (x t : Addr) (H' : Hp), e = .ref x ∧ Exc C x s H' s'.heap (some t) ∧ s'.os = s.os ∧ AllBare s'.gens ∧
  Un (frs outer) [] H H' s.heap s'.heap ∧ HOk P w H' s'.heap ∧ E (.ref C) none H'

theorem leave_ok {Ek : XK} (O : Out P w base env outer L s H H2 s2) (X : Exc C x s H2 s2.heap T) (hfr : A.frames = some (env :: outer)) (hE : Ek (.ref C) none H2) :
    wpAny M A (leaving env (.ref x)) (fun _ s'' => CXB P w C outer H s Ek (.ref x) s'') E s2 := by
  unfold leaving
  refine wpAny_bind (note_ok O X hfr O.fL fun h1 t O1 X1 _ => ?_)
  refine fly_ok O1 X1 fun h2 O2 X2 _ => ?_
  exact ⟨x, t, H2, rfl, X2, O2.os, O2.bare, O2.un, O2.hok, hE⟩
end

/-! ### a def's body -/
section
variable {P : Program} {w : World} {K : PySem.W.Frag} {mg : Str → Option Value} {base : Heap} {N : List Str} {qual : Str} {scope : Scope} {f : Addr} {cd : Value} {A : Around} {outer : List Env} {s : Shared} {H : Hp} {E : XK} {C : Addr}
theorem Inv.out {X : Cx} {pins : List (Addr × Obj)} {σ : St} {H2 : Hp} {s2 : Shared} (I : Inv X pins σ H2 s2) (hex : X.ex = []) (hstk : X.stack = X.env :: X.outer) (hL : X.env.frame = some X.env.locals) :
    Out X.prog X.w X.base X.env X.outer X.env.locals X.s_0 X.H_0 H2 s2 where
  os := I.os
  bare := I.bare
  un := by
    have q := I.base
    rw [hex] at q
    exact q
  hok := I.hok
  old := fun b o e => (I.ok.bs b o e).1
  st := I.bk
  funs := by
    rw [← hstk]
    exact I.stack
  fr := by
    rw [← hstk]
    exact I.stkFree
  fL := hL
  mine := by
    cases q : X.s_0.heap.get? X.env.locals with
    | none => rfl
    | some o => exact absurd (Nat.lt_of_lt_of_le (Heap.lt_size q) I.ok.above) (Nat.lt_irrefl _)

/-- the context of a def's body -/
abbrev cxB (P : Program) (w : World) (K : PySem.W.Frag) (mg : Str → Option Value) (base : Heap) (C : Addr) (N : List Str) (qual : Str) (scope : Scope) (f : Addr) (cd : Value) (A : Around) (outer : List Env) (s : Shared) (H : Hp) (E : XK) : Cx :=
  cxOf (CXB P w C) P w K mg base N qual scope f cd A outer s H E
/-- what the rules ask of a context out of which exceptions may leave: an exception that lies there is what is wanted -/
structure Lets (X : Cx) (C : Addr) : Prop where
  ex : X.ex = []
  stk : X.stack = X.env :: X.outer
  fr : X.env.frame = some X.env.locals
  xe : X.Ok → ∀ (H2 : Hp) (s2 : Shared) (x : Addr) (T : Option Addr), Out X.prog X.w X.base X.env X.outer X.env.locals X.s_0 X.H_0 H2 s2 → Exc C x X.s_0 H2 s2.heap T → X.xe (.ref x) s2
def Esc (C : Addr) (E : XK) : Prop := ∀ H', E (.ref C) none H'
theorem lets_def (hE : Esc C E) : Lets (cxB P w K mg base C N qual scope f cd A outer s H E) C :=
  ⟨rfl, rfl, rfl, fun ok H2 s2 x T O X => leave_ok O X ok.frames (hE H2)⟩
theorem Un.none_there {fs : List Addr} {H H1 : Hp} {h h1 : Heap} (u : Un fs [] H H1 h h1) {b : Addr} (n : h1.get? b = none) : h.get? b = none := by
  cases q : h.get? b with
  | none => rfl
  | some o =>
    obtain ⟨o', e⟩ := u.there b o q (by simp)
    rw [n] at e
    cases e
theorem Exc.older {C x : Addr} {s s0 : Shared} {H2 : Hp} {h : Heap} {T : Option Addr} (X : Exc C x s H2 h T) (k : ∀ b, s.heap.get? b = none → s0.heap.get? b = none) : Exc C x s0 H2 h T :=
  ⟨k _ X.new, X.fx, X.obj, fun t ht => let ⟨a, b, c⟩ := X.tb t ht; ⟨a, k _ b, c⟩⟩
/-- an exception of a callee has come: the state -/
theorem CXB.back {X : Cx} {pins : List (Addr × Obj)} {σ : St} {H1 : Hp} {s1 s2 : Shared} {Ek : XK} {e : Value} (I : Inv X pins σ H1 s1) (h : CXB X.prog X.w C X.stack H1 s1 Ek e s2) :
    ∃ x t H2, e = .ref x ∧ Exc C x s1 H2 s2.heap (some t) ∧ Inv X pins σ H2 s2 ∧ Ek (.ref C) none H2 := by
  obtain ⟨x, t, H2, rfl, ex, os, bare, un, hok, hE⟩ := h
  exact ⟨x, t, H2, rfl, ex, I.call' (ch := []) os un hok bare (fun b z => absurd z (by simp)), hE⟩
/-- it passes -/
theorem passes_of {X : Cx} {Ek : XK} (hl : Lets X C) : Passes (CXB X.prog X.w C) X Ek := by
  intro pins σ H1 s1 e s2 I h
  obtain ⟨x, t, H2, rfl, ex, I2, _⟩ := CXB.back I h
  have hb := I.base
  rw [hl.ex] at hb
  exact hl.xe I.ok H2 s2 x (some t) (I2.out hl.ex hl.stk hl.fr) (ex.older fun b => hb.none_there)

theorem ObjOk.there {P : Program} {w : World} {H : Hp} {h : Heap} {a : Addr} {o : HO} (x : ObjOk P w H h a o) : ∃ ob, h.get? a = some ob := by
  cases o with
  | lst xs => obtain ⟨_, _, _, _, e⟩ := x; exact ⟨_, e⟩
  | tup xs => obtain ⟨_, _, _, _, e, _⟩ := x; exact ⟨_, e⟩
  | dK kvs => obtain ⟨_, _, _, _, o, _, _, e, _⟩ := x; exact ⟨_, e⟩
  | dT kvs => obtain ⟨_, _, _, _, o, _, _, e, _⟩ := x; exact ⟨_, e⟩
  | set S n => obtain ⟨o, _, _, _, e, _⟩ := x; exact ⟨_, e⟩
  | ins C dx fs => obtain ⟨_, _, _, e, _⟩ := x; exact ⟨_, e⟩
  | own y => exact x
  | xd fs => obtain ⟨_, ⟨_, _, _, e, _⟩, _⟩ := x; exact ⟨_, e⟩
  | rng lo hi => obtain ⟨_, _, _, e⟩ := x; exact ⟨_, e⟩
  | frz ob u => obtain ⟨e, _⟩ := x; exact ⟨_, e⟩
  | tbl ps => exact ⟨_, (show h.get? a = some _ from x)⟩
  | met f y => exact ⟨_, (show h.get? a = some _ from x)⟩
  | ext φ => obtain ⟨_, e, _⟩ := x; exact e
theorem HOk.untracked {P : Program} {w : World} {H : Hp} {h : Heap} {a : Addr} (ok : HOk P w H h) (n : h.get? a = none) : H a = none := by
  cases q : H a with
  | none => rfl
  | some u =>
    obtain ⟨o, e⟩ := (ok a u q).there
    rw [n] at e
    cases e

/-- raise C() -/
def tRaise : TS := fun _ _ _ => True
theorem ps_raise {X : Cx} {x : Str} {np cpos pos : Pos} (hl : Lets X C) (hK : ExcC X.K C) (hc : X.calm = true) (hg : Gl X x) (hm : X.mg x = some (.ref C)) (hd : (x == ("__debug__" : Str)) = false := by decide) :
    PS X (.Raise (some (.Call (.Name x np) [] [] cpos)) none pos) tRaise := by
  intro pins s σ H D I _
  obtain ⟨bm, N, nm, q, bs, hdct, sn, sub, ab, col, dd, k0, k1, k2, k3, k5, mN, hC, hN, hni, T⟩ := ExcC.obj I.kIn hK
  refine wpAny_Raise_call_subT (C := C) (nm := nm) (q := q) (N := N) (bs := bs) (bm := bm) (hdct := hdct) (sn := sn) (sub := sub) (ab := ab)
    (col := col) (dd := dd) (k0 := k0) (k1 := k1) (k2 := k2) (k3 := k3) (k5 := k5) PySem.F.excBase_Exception (mN := mN)
    (T.hasType PySem.F.excBase_Exception.hasBase) (I.ok.hd hc) rfl hni (ld_glob I hg hm ⟨rfl, ?_⟩ hd)
  refine evalArgs_empty ⟨rfl, Nat.zero_le _, hC, hN, T, fun h' e made => ?_⟩
  obtain ⟨t, he, _, _⟩ := made.there
  have I2 : Inv X pins σ H { s with heap := h' } := I.kept (t' := s.toks) made.keeps
  have hb := I.base
  rw [hl.ex] at hb
  refine hl.xe I.ok H _ e none (I2.out hl.ex hl.stk hl.fr) ⟨hb.none_there made.new, I.hok.untracked made.new, ⟨_, _, he, rfl, rfl, rfl⟩, fun t ht => nomatch ht⟩

/-! ### a def whose body is walked by hand -/
theorem fn_raw {CX : CXT} {k : Nat} {name : Str} {params : Arguments} {body : List Stmt} {dV kV doc pm cdv ct oc : Value} {an od : Option Addr}
    {osl : Array (Option Value)} {ps : List Str} {sp : Sp} (lk : K.lookup f = some ⟨oc, od, .func (PySem.W.fnOf name qual params body scope dV kV doc pm an cdv ct), osl⟩) (hcd : PySem.W.codeIn K cdv qual = true) (S : FnScope N ps scope)
    (len : ∀ vs H Q E, sp vs H Q E → vs.length = ps.length)
    (hbody : ∀ (A : Around) (outer : List Env) (s : Shared) (H : Hp) (vs : List V) (Q : VK) (E : XK) (s1 : Shared), Room k (A.deeper (envOfC qual scope s.heap.objs.size f cdv)) → sp vs H Q E →
      Inv (cxOf CX P w K mg base N qual scope f cdv A outer s H E) [] (start N vs) H s1 →
      wpAny (model P w) (A.deeper (envOfC qual scope s.heap.objs.size f cdv)) (execs body (envOfC qual scope s.heap.objs.size f cdv)) (fun fl s' => ∃ u, fl = .ret u ∧ CE outer P w H s Q u s')
        (cxOf CX P w K mg base N qual scope f cdv A outer s H E).xe s1) :
    FnOk P w K mg base CX (k + 1) f (PySem.W.fnOf name qual params body scope dV kV doc pm an cdv ct) ps sp := by
  refine ⟨len, fun A outer s H args us vs Q E hr e0 hb r hsp => ?_⟩
  have hl := len _ _ _ _ hsp
  have KX : K.In s.heap := e0.mod.kin.keeps fun b o e => (e0.bs b o e).1
  have lim : s.heap.NoLimit := e0.mod.nolimit.keeps fun b o e => (e0.bs b o e).1
  have hkind : ∀ y ∈ ps.zip us, scope.names.lookup y.1 = some .local ∨ (scope.names.lookup y.1 = some .cell ∧ ((cellsFrom (s.heap.objs.size + 1) scope.names []).lookup y.1).isSome = true) := fun ⟨n, v⟩ hy => by
    rcases S.par n (List.of_mem_zip hy).1 with q | q
    · exact .inl q
    · exact .inr ⟨q, PySem.W.cellsFrom_some _ _ _ (.inl q)⟩
  refine codeAny_call_function hr.depth (KX _ _ lk) rfl S.co S.gen rfl (PySem.W.codeRec_of KX hcd) (hb _ _ _ _ ?_)
  refine wpAny_newFunctionEnv_cells S.kind hkind fun env he s1 x => ?_
  subst he
  refine ⟨lim.keeps x.toInCall.keep, codeAny_func ?_⟩
  have I : Inv (cxOf CX P w K mg base N qual scope f cdv A outer s H E) [] (start N vs) H s1 := inv_start S hr.hd e0 hl r x
  refine wpAny_mono (hbody A outer s H vs Q E s1 (hr.deeper _) hsp I) (fun fl s' hs => ?_) fun e s' hs => hs
  obtain ⟨u, rfl, hc⟩ := hs
  exact hc

/-- try: return e / except C: return None -/
theorem try_ret {X : Cx} {σ : St} {s1 : Shared} {x : Str} {e : Expr} {te : TE} {Q : VK} {np rp tp hp cp : Pos} {j : Nat} (I : Inv X [] σ H s1) (hex : X.ex = []) (hstk : X.stack = X.env :: X.outer) (hfr : X.env.frame = some X.env.locals)
    (hK : ExcC X.K C) (hg : Gl X x) (hm : X.mg x = some (.ref C)) (hd : (x == ("__debug__" : Str)) = false)
    (he : ∀ E2 : Value → Shared → Prop, Passes (CXB X.prog X.w C) (X.wish E2) (fun _ _ H' => Q .non H') → PE (X.wish E2) e te) (hw : te σ H Q) :
    wpAny (model X.prog X.w) X.A (exec (.Try [.Return (some e) rp] [.ExceptHandler (some (.Name x np)) none [.Return (some (.Constant .none j cp)) tp] hp] [] [] pos) X.env)
      (fun fl s' => ∃ u, fl = .ret u ∧ CE X.outer X.prog X.w X.H_0 X.s_0 Q u s') X.xe s1 := by
  let E2 : Value → Shared → Prop := fun e s2 => ∃ pins' σ' H1 s0, Inv X pins' σ' H1 s0 ∧ CXB X.prog X.w C X.stack H1 s0 (fun _ _ H' => Q .non H') e s2
  have hp : Passes (CXB X.prog X.w C) (X.wish E2) (fun _ _ H' => Q .non H') := fun pins' σ' H1 s0 e s2 I' h => ⟨pins', σ', H1, s0, I'.unwish, h⟩
  have run := pss_one (ps_ret (pos := rp) (he E2 hp)) [] s1 σ H { nx := fun _ _ => False, rt := Q } (I.wish E2) hw
  refine wpAny_Try_except (wpAny_mono run (fun fl s2 h => ?_) fun e s2 h => ?_)
  · cases fl with
    | next => exact h.elim fun _ h => h.elim fun _ h => h.2.elim
    | brk => exact h.elim fun _ h => h.elim fun _ h => h.2.elim
    | cont => exact h.elim fun _ h => h.elim fun _ h => h.2.elim
    | ret u =>
      obtain ⟨v, σ', H', J, rv, q⟩ := h
      have O := (J.unwish).out hex hstk hfr
      exact ⟨u, rfl, v, H', O.os, O.bare, O.un, O.hok, rv, q⟩
  · obtain ⟨pins', σ', H1, s0, I', hc⟩ := h
    obtain ⟨a, t, H2, rfl, ex, I2, hQ⟩ := CXB.back I' hc
    have hb := I'.base
    rw [hex] at hb
    have fr : X.A.frames = some (X.env :: X.outer) := by rw [← hstk]; exact I.ok.frames
    refine note_ok (I2.out hex hstk hfr) (ex.older fun b => hb.none_there) fr hfr fun h1 t1 O1 X1 _ => ?_
    refine fly_ok O1 X1 fun h2 O2 X2 _ => ?_
    refine wpAny_handleBy_cons (codeAny_handlers_test ?_) (by intro q; cases q)
    refine Calls.Name_function_global I.ok.kind hg (Calls.loadGlobal_global (by rw [I.ok.glob]; exact I.mod.glob.keeps O2.st) hm ?_) hd
    obtain ⟨bm, N, nm, q, bs, hdct, sn, sub, ab, col, dd, k0, k1, k2, k3, k5, mN, hC, hN, hni, T⟩ := ExcC.obj (I.ok.mod.kin.keeps O2.st) hK
    obtain ⟨oe, vs, hoe, hcl, _⟩ := X2.obj
    refine wpAny_excMatches_sub_self hC hoe hcl (T.hasType PySem.F.excBase_Exception.hasBase) ?_
    refine codeAny_handlers_suite (fly_ok O2 X2 fun h3 O3 X3 _ => ?_)
    refine wpAny_execs_cons (wpAny_Return_some (Constant_none ?_))
    exact ⟨.none, rfl, .non, H2, O3.os, O3.bare, O3.un, O3.hok, rfl, hQ⟩
end
end L2

set_option Elab.async false
set_option linter.all false
set_option maxRecDepth 100000
namespace L2
open PySem PySem.Spec PyProof.Rows
section
variable {X : Cx}
theorem lc_coreX {Ca : Addr} {Ek : XK} {pins : List (Addr × Obj)} {s : Shared} {σ : St} {H : Hp} {Q : VK} {elt tg iter : Expr} {ifs : List Expr} {scope : Scope} {own : List (Str × Nat)} {pos pos' : Pos} {wi : TI} {g : TG} {tt : TT} {te : TE} {use : Option (Value → Sem Unit)} {Qf : Value → Shared → Prop}
    (hfr : X.env.frame = some X.env.locals) (hletF : ∀ H', Ek (.ref Ca) none H' → Lets X Ca) (hc : X.calm = true) (hN : X.N.Nodup) (I : Inv X pins σ H s) (hi : PI X tg iter wi) (ok : BlkOk X.N X.env.scope scope own)
    (hg : ∀ (s : Shared) (H : Hp) (C : Addr) (cl : List (Str × Addr)) (fp : List Addr), PG (X.blk s H scope (compEnvC scope cl C X.env) fp) tg g) (ht : ∀ (s : Shared) (H : Hp) (C : Addr) (cl : List (Str × Addr)) (fp : List Addr), PTs (X.blk s H scope (compEnvC scope cl C X.env) fp) ifs tt)
    (he : ∀ (s : Shared) (H : Hp) (C : Addr) (cl : List (Str × Addr)) (fp : List Addr) (E3 : Value → Shared → Prop), Passes (CXB X.prog X.w Ca) ((X.blk s H scope (compEnvC scope cl C X.env) fp).wish E3) Ek → PE ((X.blk s H scope (compEnvC scope cl C X.env) fp).wish E3) elt te) (hs : ∀ x, foldedSetIterable iter X.env x = pure x)
    (h : tLc wi g tt te (own.map (·.2)) σ H Q)
    (hRR : ∀ D C s' m H', Inv X pins σ H' s' → Q (.ref D) H' → s'.heap.Ns C m → FpOk X pins H' C → compPost (model X.prog X.w) X.A X.xe use Qf (.ref D) C (.ok .next) s') :
    wpAny (model X.prog X.w) X.A (comprehension (.ListComp elt [⟨tg, iter, ifs, 0⟩] scope pos) scope X.env pos' (newList []) false (eval iter X.env) use) Qf X.xe s := by
  have hfree : ∀ y ∈ scope.names, y.2 = .free → ∃ c, X.env.cells.lookup y.1 = some c := fun y hy e => by
    rcases ok.free y hy e with k | k
    · exact I.ok.has _ (.inl k)
    · exact I.ok.has _ (.inr k)
  refine wpAny_comprehension_free (use := use) rfl hs (closure_ok hfree) ok.kind (fun y hy e => by rw [ok.uniq y hy, e])
    (thn (hi pins s σ H _ I h) fun xv s1 hx => thn hx fun itv s2 h2 => ?_)
  obtain ⟨it, fp, tn, J, H2, e, I2, T, st2, f2, q⟩ := h2
  subst e
  refine wpAny_newObj_type (newEnv_comp ?_) (by show 0 ≤ sizeLine; decide)
  generalize hD : s2.heap.objs.size = D
  have hDn : H2 D = none := I2.hok.fresh (Nat.le_of_eq hD)
  obtain ⟨W, ⟨m0, w0⟩, turn⟩ := q D hDn
  -- the new list
  generalize hs3 : ({ s2 with heap := s2.heap.push { cls := .type "list", data := .seq ([] : List Value).toArray } } : Shared) = s3
  have I3 : Inv X pins σ (upd H2 D (.lst [])) s3 := by
    rw [← hs3]
    refine I2.laid (t' := s2.toks) (fun b o e => Heap.get?_push_of_some _ e) (Nat.le_of_eq hD) ⟨Nat.zero_le _, [], 0, .nil, ?_⟩
    rw [← hD]
    exact Heap.get?_push_size _ rfl
  have h3 : s3.heap = s2.heap.push { cls := .type "list", data := .seq ([] : List Value).toArray } := by rw [← hs3]
  have sz : ∀ b ∈ fp, b < s2.heap.objs.size := fun b hb => by
    obtain ⟨o, e, _⟩ := T.obj _ _ st2 b hb
    exact Heap.lt_size e
  have f3 : ∀ b ∈ fp, FpOk X pins (upd H2 D (.lst [])) b ∧ b < s3.heap.objs.size := fun b hb => by
    have hlt := sz b hb
    refine ⟨⟨?_, (f2 b hb).2⟩, by rw [h3, Heap.size_push]; exact Nat.lt_succ_of_lt hlt⟩
    rw [upd_ne (by rw [← hD]; exact Nat.ne_of_lt hlt)]
    exact (f2 b hb).1
  have st3 : tn 0 s3.heap := T.keep _ _ _ st2 fun b _ o e => by rw [h3]; exact Heap.get?_push_of_some _ e
  have I4 := block_start I3 ok hN f3
  have pg := hg s3 (upd H2 D (.lst [])) s3.heap.objs.size (cellsFrom (s3.heap.objs.size + 1) scope.names (cloFrom X.env.cells scope.names [])) fp
  have pt := ht s3 (upd H2 D (.lst [])) s3.heap.objs.size (cellsFrom (s3.heap.objs.size + 1) scope.names (cloFrom X.env.cells scope.names [])) fp
  have pe := he s3 (upd H2 D (.lst [])) s3.heap.objs.size (cellsFrom (s3.heap.objs.size + 1) scope.names (cloFrom X.env.cells scope.names [])) fp
  show codeAny _ _ (.compStart (.ListComp elt [⟨tg, iter, ifs, 0⟩] scope pos) 0 (.ref it) (.ref D) (compEnvC scope (cellsFrom (s3.heap.objs.size + 1) scope.names (cloFrom X.env.cells scope.names [])) s3.heap.objs.size X.env)) (compPost (model X.prog X.w) X.A X.xe use Qf (.ref D) s3.heap.objs.size) { s3 with heap := pushCells (s3.heap.push { cls := .type "dict", data := .dict #[] }) scope.names }
  have nfp : ∀ b ∈ fp, (upd H2 D (.lst [])) b = none := fun b hb => (f3 b hb).1.1
  generalize hce : compEnvC scope (cellsFrom (s3.heap.objs.size + 1) scope.names (cloFrom X.env.cells scope.names [])) s3.heap.objs.size X.env = ce at I4 pg pt pe ⊢
  have cL : ce.locals = s3.heap.objs.size := by subst hce; rfl
  have cF : ce.frame = some X.env.locals := by subst hce; exact hfr
  generalize hH3 : upd H2 D (.lst []) = H3 at I3 I4 pg pt pe w0 nfp f3
  generalize hs4 : ({ s3 with heap := pushCells (s3.heap.push { cls := .type "dict", data := .dict #[] }) scope.names } : Shared) = s4 at I4 ⊢
  have st4 : tn 0 s4.heap := T.keep _ _ _ st3 fun b _ o e => by rw [← hs4]; exact pushCells_keeps _ _ _ _ (Heap.get?_push_of_some _ e)
  have stat : ∀ {σ' : St} {H' : Hp} {s' : Shared}, Inv (X.blk s3 H3 scope ce fp) [] σ' H' s' → (∀ b ∈ fp, H' b = none) → ∀ b ∈ fp, FpOk (X.blk s3 H3 scope ce fp) [] H' b := fun {σ' H' s'} I' hn b hb =>
    ⟨hn b hb, (I'.ok.exf b hb).1, I'.ok.exfs b hb, .inl hb, fun x c e => (I'.ok.exf b hb).2 x c e, fun p hp => absurd (show p ∈ ([] : List (Addr × Obj)) ++ [] from hp) (by simp)⟩
  have loop : codeAny (model X.prog X.w) X.A (.compLoop (.ListComp elt [⟨tg, iter, ifs, 0⟩] scope pos) 0 (.ref it) (.ref D) ce) (compPost (model X.prog X.w) X.A X.xe use Qf (.ref D) s3.heap.objs.size) s4 := by
    refine compLoop_any (fun n s' => ∃ i H', Inv (X.blk s3 H3 scope ce fp) [] (wipe σ (own.map (·.2))) H' s' ∧ tn i s'.heap ∧ (∀ b ∈ fp, H' b = none) ∧ W i n H') ?_ m0 ⟨0, H3, I4, st4, nfp, w0⟩
    rintro n s5 ⟨i, H5, I5, st5, n5, w5⟩
    rcases turn i n H5 w5 with ⟨stop, qq⟩ | ⟨go, Nx, hNx, step⟩
    · have td := T.done (X.blk s3 H3 scope ce fp) rfl rfl rfl hc i [] s5 _ H5 (fun _ _ => False) I5 (stat I5 n5) st5 stop
      refine thnF td fun r s6 ⟨hr, I6⟩ => ?_
      subst hr
      -- back in the def's context
      have I7 : Inv X pins σ H5 s6 := I3.call' (ch := fp) I6.os I6.base I6.hok I6.bare fun b hb => ⟨(f3 b hb).1.2.2.2.1, (f3 b hb).1.2.1, (f3 b hb).1.2.2.2.2.1, (f3 b hb).1.2.2.2.2.2⟩
      have nC : H5 s3.heap.objs.size = none := by
        have z : H5 ce.locals = none := I6.free
        rw [cL] at z
        exact z
      obtain ⟨m, hn, _⟩ := I6.loc
      have hn : s6.heap.Ns ce.locals m := hn
      rw [cL] at hn
      exact hRR D s3.heap.objs.size s6 m H5 I7 qq hn (I3.fpOk (Nat.le_refl _) nC)
    · have ti := T.item (X.blk s3 H3 scope ce fp) rfl rfl rfl hc i [] s5 _ H5 (fun _ _ => False) I5 (stat I5 n5) st5 go
      refine thnF ti fun r s6 ⟨u, hr, h6⟩ => ?_
      subst hr
      refine thnF h6 fun _ s7 ⟨x, H7, I7, r7, y7, st7, n7⟩ => ?_
      have I7' := I7.pinned (stat I7 n7) (T.obj _ _ st7)
      refine thnF (pg _ s7 _ H7 x u _ I7' r7 (step x H7 y7)) fun _ s8 ⟨σ8, H8, I8, hw8, q8⟩ => ?_
      refine thnF (pt _ s8 σ8 H8 _ I8 q8) fun b s9 ⟨H9, I9, q9⟩ => ?_
      -- the turn's end
      have fin : ∀ {s' : Shared} {H' : Hp}, Inv (X.blk s3 H3 scope ce fp) ([] ++ pinsAt fp s7.heap) σ8 H' s' → Nx H' → ∃ m, m < n ∧ ∃ i H', Inv (X.blk s3 H3 scope ce fp) [] (wipe σ (own.map (·.2))) H' s' ∧ tn i s'.heap ∧ (∀ b ∈ fp, H' b = none) ∧ W i m H' := fun {s' H'} I' nx => by
        obtain ⟨m', hm, w'⟩ := hNx H' nx
        have pin' : ∀ b ∈ fp, ∀ o, s7.heap.get? b = some o → s'.heap.get? b = some o ∧ H' b = none := fun b hb o e =>
          let z := I'.pin (b, o) (List.mem_append_right _ (List.mem_append_right _ (mem_pinsAt hb e)))
          ⟨z.1, z.2.1⟩
        have hl : (wipe σ (own.map (·.2))).length = σ8.length := by rw [← hw8, wipe_length]
        refine ⟨m', hm, i + 1, H', (I'.unpinned (pins := [])).weak hl (fun j v e => ?_), T.keep _ _ _ st7 fun b hb o e => (pin' b hb o e).1, fun b hb => ?_, w'⟩
        · rw [← hw8] at e
          exact (wipe_some e).1
        · obtain ⟨o, e, _⟩ := T.obj _ _ st7 b hb
          exact (pin' b hb o e).2
      cases b with
      | false =>
        simp only [Bool.false_eq_true, if_false] at q9 ⊢
        exact fin I9 q9
      | true =>
        simp only [if_true] at q9 ⊢
        let E3 : Value → Shared → Prop := fun e s' => ∃ pins' σ' H1 s0, Inv (X.blk s3 H3 scope ce fp) pins' σ' H1 s0 ∧ CXB X.prog X.w Ca X.stack H1 s0 Ek e s'
        have hp3 : Passes (CXB X.prog X.w Ca) ((X.blk s3 H3 scope ce fp).wish E3) Ek := fun pins' σ' H1 s0 e s' I' h => ⟨pins', σ', H1, s0, I'.unwish, h⟩
        refine wpAny_mono (pe E3 hp3 _ s9 σ8 H9 _ (I9.wish E3) q9) (fun z s10 h10 => ?_) fun e s' he3 => ?_
        · obtain ⟨yv, H10, I10, r10, acc, hD10, hz10, nx⟩ := h10
          exact app_ok (X := X.blk s3 H3 scope ce fp) I10.unwish hD10 hz10 r10 fun s11 I11 => fin I11 nx
        · obtain ⟨pins', σ', H1, s0, Ib, hcx⟩ := he3
          obtain ⟨a, t, Hx, rfl, ex, I2', hEk⟩ := CXB.back Ib hcx
          have hlet := hletF _ hEk
          have IX : Inv X pins σ Hx s' := I3.call' (ch := fp) I2'.os I2'.base I2'.hok I2'.bare fun b hb => ⟨(f3 b hb).1.2.2.2.1, (f3 b hb).1.2.1, (f3 b hb).1.2.2.2.2.1, (f3 b hb).1.2.2.2.2.2⟩
          have old : ∀ b, s0.heap.get? b = none → X.s_0.heap.get? b = none := fun b nb => by
            cases q : X.s_0.heap.get? b with
            | none => rfl
            | some o =>
              have nfp' : b ∉ fp := fun hb => by
                rcases (f3 b hb).1.2.2.2.1 with z | z
                · rw [hlet.ex] at z
                  cases z
                · exact absurd (Nat.lt_of_lt_of_le (Heap.lt_size q) z) (Nat.lt_irrefl _)
              obtain ⟨o1, e1⟩ := I3.base.there b o q (by rw [hlet.ex]; simp)
              obtain ⟨o2, e2⟩ := Ib.base.there b o1 e1 nfp'
              rw [nb] at e2
              cases e2
          have fr : X.A.frames = some (X.env :: X.outer) := by rw [← hlet.stk]; exact I3.ok.frames
          show wpAny _ _ (noteFrame (.ref a) ce) _ _ s'
          refine note_ok (IX.out hlet.ex hlet.stk hlet.fr) (ex.older old) fr cF fun h1 t1 O1 X1 up => ?_
          obtain ⟨m, hnC, _⟩ := I2'.loc
          have hnC : s'.heap.Ns ce.locals m := hnC
          rw [cL] at hnC
          have hn1 := up.ns hnC
          have fC : Hx s3.heap.objs.size = none := by
            have z : Hx ce.locals = none := I2'.free
            rw [cL] at z
            exact z
          have fin3 : ∃ m, h1.Ns s3.heap.objs.size m ∧ ∀ h', Heap.SameBut s3.heap.objs.size h1 h' → ∀ cenv : Env, cenv.locals = s3.heap.objs.size →
              wpAny (model X.prog X.w) X.A (passOn "comprehension.variables-let-go" (.ref a) cenv : Sem Value) (fun _ _ => False) X.xe { s' with heap := h' } := by
            refine ⟨m, hn1, fun h2 sb cenv _ => ?_⟩
            obtain ⟨oC, es, ep, eC, dC, _⟩ := hn1
            obtain ⟨oe, vs, eo, hcl, hdv, hv1⟩ := X1.obj
            obtain ⟨ntx, nst, nht, oT, ts, fl, eT, dT, ht3⟩ := X1.tb t1 rfl
            have na : a ≠ s3.heap.objs.size := fun z => by
              rw [z, eC] at eo
              cases eo
              rw [dC] at hdv
              cases hdv
            have nt : t1 ≠ s3.heap.objs.size := fun z => by
              rw [z, eC] at eT
              cases eT
              rw [dC] at dT
              cases dT
            have hv1 : vs[1]? = some (.ref t1) := hv1
            have O2 : Out X.prog X.w X.base X.env X.outer X.env.locals X.s_0 X.H_0 Hx { s' with heap := h2 } := by
              refine O1.move [s3.heap.objs.size] (fun b hb => ?_) (fun b o n _ e => ?_) fun b o n _ e => ?_
              · obtain rfl : b = s3.heap.objs.size := by simpa using hb
                refine ⟨Heap.get?_none_of_le I3.sz, fC, fun z => ?_⟩
                rw [← hlet.stk] at z
                obtain ⟨_, o, e, _⟩ := I3.stack.mem z
                exact absurd (Heap.lt_size e) (Nat.lt_irrefl _)
              · exact (sb.2 b fun z => n (by simp [z])).trans e
              · exact ⟨o.slots, (sb.2 b fun z => n (by simp [z])).trans e⟩
            have X2 : Exc Ca a X.s_0 Hx h2 (some t1) := ⟨X1.new, X1.fx, ⟨oe, vs, (sb.2 a na).trans eo, hcl, hdv, hv1⟩, fun t' ht => by
              cases ht
              exact ⟨ntx, nst, nht, oT, ts, fl, (sb.2 t1 nt).trans eT, dT, ht3⟩⟩
            unfold PySem.passOn
            refine wpAny_bind (wpAny_field (s := { s' with heap := h2 }) ((sb.2 a na).trans eo) hdv hv1 ?_)
            rw [if_neg (by simp)]
            refine wpAny_bind (fly_ok O2 X2 fun h3' O3 X3 _ => ?_)
            exact wpAny_throw (hlet.xe I3.ok Hx _ a (some t1) O3 X3)
          cases use with
          | none => exact fin3
          | some u => exact fin3
  exact codeAny_compStart_list loop (T.self X.A 0 _ _ _ st4 loop)
theorem pe_lcX {Ca : Addr} {Ek : XK} {elt tg iter : Expr} {ifs : List Expr} {scope : Scope} {own : List (Str × Nat)} {pos : Pos} {wi : TI} {g : TG} {tt : TT} {te : TE} (hfr : X.env.frame = some X.env.locals) (hletF : ∀ H', Ek (.ref Ca) none H' → Lets X Ca) (hc : X.calm = true) (hN : X.N.Nodup) (hi : PI X tg iter wi) (ok : BlkOk X.N X.env.scope scope own)
    (hg : ∀ (s : Shared) (H : Hp) (C : Addr) (cl : List (Str × Addr)) (fp : List Addr), PG (X.blk s H scope (compEnvC scope cl C X.env) fp) tg g) (ht : ∀ (s : Shared) (H : Hp) (C : Addr) (cl : List (Str × Addr)) (fp : List Addr), PTs (X.blk s H scope (compEnvC scope cl C X.env) fp) ifs tt)
    (he : ∀ (s : Shared) (H : Hp) (C : Addr) (cl : List (Str × Addr)) (fp : List Addr) (E3 : Value → Shared → Prop), Passes (CXB X.prog X.w Ca) ((X.blk s H scope (compEnvC scope cl C X.env) fp).wish E3) Ek → PE ((X.blk s H scope (compEnvC scope cl C X.env) fp).wish E3) elt te) (hs : ∀ x, foldedSetIterable iter X.env x = pure x := by intro _; rfl) :
    PE X (.ListComp elt [⟨tg, iter, ifs, 0⟩] scope pos) (tLc wi g tt te (own.map (·.2))) := by
  intro pins s σ H Q I h
  rw [eval_ListComp]
  refine lc_coreX hfr hletF hc hN I hi ok hg ht he hs h fun D C s' m H' I' q hn f => ⟨m, hn, fun h'' sb => ?_⟩
  obtain ⟨f0, f1, f2, f3, f4, f5⟩ := f
  exact ⟨.ref D, H', I'.turned (t' := s'.toks) (fun b o hb e => (sb.2 b hb).trans e) f0 f1 f3 f4 f5, rfl, q⟩
end
/-! ### a def of the text out of which the exception may leave -/
def EE (C : Addr) (E : XK) : XK := fun _ _ _ => Esc C E
theorem EE.esc {C : Addr} {E : XK} (h : Esc C E) : Esc C (EE C E) := fun _ => h
section
variable {P : Program} {w : World} {K : PySem.W.Frag} {mg : Str → Option Value} {base : Heap} {N : List Str} {qual : Str} {scope : Scope} {f : Addr} {cd : Value} {A : Around} {outer : List Env} {s : Shared} {H : Hp} {E : XK} {C : Addr}
theorem pX : Passes (CXB P w C) (cxB P w K mg base C N qual scope f cd A outer s H E) (EE C E) := fun pins σ H1 s1 e s2 I h => by
  obtain ⟨x, t, H2, _, _, _, _, _, _, hE⟩ := id h
  have hE : Esc C E := hE
  exact passes_of (Ek := EE C E) (lets_def hE) pins σ H1 s1 e s2 I h
/-- raise C(): asked: that it may -/
def tRaiseB (C : Addr) (E : XK) : TS := fun _ _ _ => Esc C E
theorem ps_raiseB {x : Str} {np cpos pos : Pos} (hK : ExcC K C) (hg : Gl (cxB P w K mg base C N qual scope f cd A outer s H E) x) (hm : mg x = some (.ref C)) (hd : (x == ("__debug__" : Str)) = false := by decide) :
    PS (cxB P w K mg base C N qual scope f cd A outer s H E) (.Raise (some (.Call (.Name x np) [] [] cpos)) none pos) (tRaiseB C E) := fun pins s1 σ H1 D I h =>
  ps_raise (lets_def h) hK rfl hg hm hd pins s1 σ H1 D I trivial
theorem letF : ∀ H', (EE C E) (.ref C) none H' → Lets (cxB P w K mg base C N qual scope f cd A outer s H E) C := fun _ h => lets_def h
theorem Fun.okX {x : Str} {st : Stmt} {fd : FuncData} {ps : List Str} {k : Nat} {sp : Sp} (F : Fun K x qual st f fd) (S : FnScope N ps (defScope st)) (len : ∀ vs H Q E, sp vs H Q E → vs.length = ps.length)
    (hbody : ∀ (cdv : Value) (A : Around) (outer : List Env) (s : Shared) (H : Hp) (vs : List V) (Q : VK) (E : XK), Room k (A.deeper (envOfC qual (defScope st) s.heap.objs.size f cdv)) → sp vs H Q E →
      ∃ t, PSs (cxB P w K mg base C N qual (defScope st) f cdv A outer s H E) (defBody st) t ∧ t { nx := fun _ H' => Q .non H', rt := Q } (start N vs) H) : FnOk P w K mg base (CXB P w C) (k + 1) f fd ps sp := by
  obtain ⟨oc, od, kV, doc, pm, an, cdv, ct, osl, rfl, lk, hcd⟩ := F.ex
  exact fn_of lk hcd S len fun A outer s H vs Q E hr hsp => hbody cdv A outer s H vs Q E hr hsp
end
section
variable {X : Cx}
theorem pe_gint {x : Str} {i : Int} {pos : Pos} (hg : Gl X x) (h : ∃ tk, X.mg x = some (.int i tk)) (hd : (x == ("__debug__" : Str)) = false := by decide) : PE X (.Name x pos) (tC (.int i)) := by
  obtain ⟨tk, e⟩ := h
  exact pe_glob hg e ⟨tk, rfl⟩ hd
/-- not e, as a value, of whatever has a truth -/
def tNotT (K : PySem.W.Frag) (ta : TE) : TE := fun σ H Q => ta σ H fun x H1 => ∃ k, TruV K x H1 k ∧ Q (.bl (!k)) H1
theorem pe_notT {a : Expr} {ta : TE} {pos : Pos} (ha : PE X a ta) : PE X (.UnaryOp .Not a pos) (tNotT X.K ta) := by
  intro pins s σ H Q I h
  refine UnaryOp_ (thn (ha pins s σ H _ I h) fun v s1 ⟨x, H1, I1, r1, k, hk, q1⟩ => ?_)
  exact not_of (thn (tru_ok pins s1 σ H1 x v (fun b H' => b = k ∧ H' = H1) I1 r1 ⟨k, hk, rfl, rfl⟩) fun b s2 ⟨H2, I2, e1, e2⟩ => by subst e1 e2; exact ⟨.bl _, _, I2, rfl, q1⟩)
end
end L2

set_option Elab.async false
set_option linter.all false
set_option maxRecDepth 100000
set_option maxHeartbeats 0
namespace Film
open PySem PySem.Spec PyProof.Rows L2
def top (i : Nat) : Stmt := PySem.Challenge.pw_strictfilm_s03_frame.main.body.getD i (.Pass ⟨0, 0, 0, 0⟩)
abbrev s_join_bytes : Stmt := top 6
abbrev s_LengthNumber_init : Stmt := inClass (top 7) 0
abbrev s_LengthNumber_is_all_ones : Stmt := inClass (top 7) 1
abbrev s_Element_init : Stmt := inClass (top 8) 0
abbrev s_Cursor_init : Stmt := inClass (top 9) 0
abbrev s_Cursor_bytes_left : Stmt := inClass (top 9) 1
abbrev s_Cursor_skip : Stmt := inClass (top 9) 2
abbrev s_Cursor_take_byte : Stmt := inClass (top 9) 3
abbrev s_Cursor_take_length_number : Stmt := inClass (top 9) 4
abbrev s_Cursor_take_known_number : Stmt := inClass (top 9) 5
abbrev s_Cursor_take_name : Stmt := inClass (top 9) 6
abbrev s_Cursor_take_element : Stmt := inClass (top 9) 7
abbrev s_Cursor_take_element_or_rest : Stmt := inClass (top 9) 8
abbrev s_Cursor_take_body : Stmt := inClass (top 9) 9
abbrev s_Contents_init : Stmt := inClass (top 13) 0
abbrev s_Contents_all_named : Stmt := inClass (top 13) 1
abbrev s_Contents_at_most_once : Stmt := inClass (top 13) 2
abbrev s_Contents_once : Stmt := inClass (top 13) 3
abbrev s_Contents_number_once : Stmt := inClass (top 13) 4
abbrev s_Contents_number_or : Stmt := inClass (top 13) 5
abbrev s_take_children : Stmt := top 14
abbrev s_bounded_number : Stmt := top 15
abbrev s_check_before : Stmt := top 16
abbrev s_take_frame_lengths : Stmt := top 22
abbrev s_equal_lengths : Stmt := top 23
abbrev s_take_sums : Stmt := top 24
abbrev s_take_sum : Stmt := top 25
abbrev s_take_differences : Stmt := top 26
abbrev s_with_last_length : Stmt := top 27
abbrev s_Block_init : Stmt := inClass (top 37) 0
abbrev s_read_cluster : Stmt := top 38
abbrev s_read_holder : Stmt := top 39
abbrev s_read_block : Stmt := top 40
abbrev s_take_offset : Stmt := top 41
abbrev s_check_header : Stmt := top 50
abbrev s_Picture_init : Stmt := inClass (top 63) 0
abbrev s_Track_init : Stmt := inClass (top 64) 0
abbrev s_read_tracks : Stmt := top 65
abbrev s_read_track : Stmt := top 66
abbrev s_check_codec : Stmt := top 67
abbrev s_read_picture : Stmt := top 68
abbrev s_read_channels : Stmt := top 69
abbrev s_Film_init : Stmt := inClass (top 78) 0
abbrev s_Film_blocks : Stmt := inClass (top 78) 1
abbrev s_read_film : Stmt := top 79
abbrev s_read_body : Stmt := top 80
abbrev s_read_scale : Stmt := top 81
abbrev s_frame : Stmt := top 86
abbrev s_tell_frame : Stmt := top 87
abbrev s_film_or_none : Stmt := top 88
abbrev s_tell : Stmt := top 89
/-- where the top has put its classes, functions and tables -/
structure Adr where
  c_NotRight : Addr
  c_LengthNumber : Addr
  c_Element : Addr
  c_Cursor : Addr
  c_Contents : Addr
  c_Block : Addr
  c_Picture : Addr
  c_Track : Addr
  c_Film : Addr
  f_join_bytes : Addr
  d_join_bytes : FuncData
  f_LengthNumber_init : Addr
  d_LengthNumber_init : FuncData
  f_LengthNumber_is_all_ones : Addr
  d_LengthNumber_is_all_ones : FuncData
  f_Element_init : Addr
  d_Element_init : FuncData
  f_Cursor_init : Addr
  d_Cursor_init : FuncData
  f_Cursor_bytes_left : Addr
  d_Cursor_bytes_left : FuncData
  f_Cursor_skip : Addr
  d_Cursor_skip : FuncData
  f_Cursor_take_byte : Addr
  d_Cursor_take_byte : FuncData
  f_Cursor_take_length_number : Addr
  d_Cursor_take_length_number : FuncData
  f_Cursor_take_known_number : Addr
  d_Cursor_take_known_number : FuncData
  f_Cursor_take_name : Addr
  d_Cursor_take_name : FuncData
  f_Cursor_take_element : Addr
  d_Cursor_take_element : FuncData
  f_Cursor_take_element_or_rest : Addr
  d_Cursor_take_element_or_rest : FuncData
  f_Cursor_take_body : Addr
  d_Cursor_take_body : FuncData
  f_Contents_init : Addr
  d_Contents_init : FuncData
  f_Contents_all_named : Addr
  d_Contents_all_named : FuncData
  f_Contents_at_most_once : Addr
  d_Contents_at_most_once : FuncData
  f_Contents_once : Addr
  d_Contents_once : FuncData
  f_Contents_number_once : Addr
  d_Contents_number_once : FuncData
  f_Contents_number_or : Addr
  d_Contents_number_or : FuncData
  f_take_children : Addr
  d_take_children : FuncData
  f_bounded_number : Addr
  d_bounded_number : FuncData
  f_check_before : Addr
  d_check_before : FuncData
  f_take_frame_lengths : Addr
  d_take_frame_lengths : FuncData
  f_equal_lengths : Addr
  d_equal_lengths : FuncData
  f_take_sums : Addr
  d_take_sums : FuncData
  f_take_sum : Addr
  d_take_sum : FuncData
  f_take_differences : Addr
  d_take_differences : FuncData
  f_with_last_length : Addr
  d_with_last_length : FuncData
  f_Block_init : Addr
  d_Block_init : FuncData
  f_read_cluster : Addr
  d_read_cluster : FuncData
  f_read_holder : Addr
  d_read_holder : FuncData
  f_read_block : Addr
  d_read_block : FuncData
  f_take_offset : Addr
  d_take_offset : FuncData
  f_check_header : Addr
  d_check_header : FuncData
  f_Picture_init : Addr
  d_Picture_init : FuncData
  f_Track_init : Addr
  d_Track_init : FuncData
  f_read_tracks : Addr
  d_read_tracks : FuncData
  f_read_track : Addr
  d_read_track : FuncData
  f_check_codec : Addr
  d_check_codec : FuncData
  f_read_picture : Addr
  d_read_picture : FuncData
  f_read_channels : Addr
  d_read_channels : FuncData
  f_Film_init : Addr
  d_Film_init : FuncData
  f_Film_blocks : Addr
  d_Film_blocks : FuncData
  f_read_film : Addr
  d_read_film : FuncData
  f_read_body : Addr
  d_read_body : FuncData
  f_read_scale : Addr
  d_read_scale : FuncData
  f_frame : Addr
  d_frame : FuncData
  f_tell_frame : Addr
  d_tell_frame : FuncData
  f_film_or_none : Addr
  d_film_or_none : FuncData
  f_tell : Addr
  d_tell : FuncData
  a_ALL_ONES : Addr
  a_MATROSKA : Addr
  a_WEBM : Addr
structure Txt (K : PySem.W.Frag) (mg : Str → Option Value) (t : Adr) : Prop where
  exc : ExcC K t.c_NotRight
  mg_NotRight : mg "NotRight" = some (.ref t.c_NotRight)
  cl_LengthNumber : Cls K t.c_LengthNumber
  mk_LengthNumber : Mk K t.c_LengthNumber t.f_LengthNumber_init
  mg_LengthNumber : mg "LengthNumber" = some (.ref t.c_LengthNumber)
  na_LengthNumber_size : NoAttr K t.c_LengthNumber "size"
  na_LengthNumber_value : NoAttr K t.c_LengthNumber "value"
  me_LengthNumber_is_all_ones : Meth K t.c_LengthNumber "is_all_ones" t.f_LengthNumber_is_all_ones
  cl_Element : Cls K t.c_Element
  mk_Element : Mk K t.c_Element t.f_Element_init
  mg_Element : mg "Element" = some (.ref t.c_Element)
  na_Element_name : NoAttr K t.c_Element "name"
  na_Element_start : NoAttr K t.c_Element "start"
  na_Element_end : NoAttr K t.c_Element "end"
  cl_Cursor : Cls K t.c_Cursor
  mk_Cursor : Mk K t.c_Cursor t.f_Cursor_init
  mg_Cursor : mg "Cursor" = some (.ref t.c_Cursor)
  na_Cursor_file : NoAttr K t.c_Cursor "file"
  na_Cursor_place : NoAttr K t.c_Cursor "place"
  na_Cursor_limit : NoAttr K t.c_Cursor "limit"
  me_Cursor_bytes_left : Meth K t.c_Cursor "bytes_left" t.f_Cursor_bytes_left
  me_Cursor_skip : Meth K t.c_Cursor "skip" t.f_Cursor_skip
  me_Cursor_take_byte : Meth K t.c_Cursor "take_byte" t.f_Cursor_take_byte
  me_Cursor_take_length_number : Meth K t.c_Cursor "take_length_number" t.f_Cursor_take_length_number
  me_Cursor_take_known_number : Meth K t.c_Cursor "take_known_number" t.f_Cursor_take_known_number
  me_Cursor_take_name : Meth K t.c_Cursor "take_name" t.f_Cursor_take_name
  me_Cursor_take_element : Meth K t.c_Cursor "take_element" t.f_Cursor_take_element
  me_Cursor_take_element_or_rest : Meth K t.c_Cursor "take_element_or_rest" t.f_Cursor_take_element_or_rest
  me_Cursor_take_body : Meth K t.c_Cursor "take_body" t.f_Cursor_take_body
  cl_Contents : Cls K t.c_Contents
  mk_Contents : Mk K t.c_Contents t.f_Contents_init
  mg_Contents : mg "Contents" = some (.ref t.c_Contents)
  na_Contents_file : NoAttr K t.c_Contents "file"
  na_Contents_children : NoAttr K t.c_Contents "children"
  me_Contents_all_named : Meth K t.c_Contents "all_named" t.f_Contents_all_named
  me_Contents_at_most_once : Meth K t.c_Contents "at_most_once" t.f_Contents_at_most_once
  me_Contents_once : Meth K t.c_Contents "once" t.f_Contents_once
  me_Contents_number_once : Meth K t.c_Contents "number_once" t.f_Contents_number_once
  me_Contents_number_or : Meth K t.c_Contents "number_or" t.f_Contents_number_or
  cl_Block : Cls K t.c_Block
  mk_Block : Mk K t.c_Block t.f_Block_init
  mg_Block : mg "Block" = some (.ref t.c_Block)
  na_Block_track_number : NoAttr K t.c_Block "track_number"
  na_Block_time : NoAttr K t.c_Block "time"
  na_Block_is_key : NoAttr K t.c_Block "is_key"
  na_Block_start : NoAttr K t.c_Block "start"
  na_Block_lengths : NoAttr K t.c_Block "lengths"
  cl_Picture : Cls K t.c_Picture
  mk_Picture : Mk K t.c_Picture t.f_Picture_init
  mg_Picture : mg "Picture" = some (.ref t.c_Picture)
  na_Picture_width : NoAttr K t.c_Picture "width"
  na_Picture_height : NoAttr K t.c_Picture "height"
  cl_Track : Cls K t.c_Track
  mk_Track : Mk K t.c_Track t.f_Track_init
  mg_Track : mg "Track" = some (.ref t.c_Track)
  na_Track_number : NoAttr K t.c_Track "number"
  na_Track_lasting_number : NoAttr K t.c_Track "lasting_number"
  na_Track_kind : NoAttr K t.c_Track "kind"
  na_Track_picture : NoAttr K t.c_Track "picture"
  na_Track_channels : NoAttr K t.c_Track "channels"
  na_Track_codec : NoAttr K t.c_Track "codec"
  cl_Film : Cls K t.c_Film
  mk_Film : Mk K t.c_Film t.f_Film_init
  mg_Film : mg "Film" = some (.ref t.c_Film)
  na_Film_tracks : NoAttr K t.c_Film "tracks"
  na_Film_scale : NoAttr K t.c_Film "scale"
  na_Film_clusters : NoAttr K t.c_Film "clusters"
  me_Film_blocks : Meth K t.c_Film "blocks" t.f_Film_blocks
  F_join_bytes : Fun K "join_bytes" "join_bytes" s_join_bytes t.f_join_bytes t.d_join_bytes
  b_join_bytes : Binds K t.d_join_bytes ["file", "start", "end", "front"] []
  mg_join_bytes : mg "join_bytes" = some (.ref t.f_join_bytes)
  F_LengthNumber_init : Fun K "__init__" "LengthNumber.__init__" s_LengthNumber_init t.f_LengthNumber_init t.d_LengthNumber_init
  b_LengthNumber_init : Binds K t.d_LengthNumber_init ["self", "size", "value"] []
  F_LengthNumber_is_all_ones : Fun K "is_all_ones" "LengthNumber.is_all_ones" s_LengthNumber_is_all_ones t.f_LengthNumber_is_all_ones t.d_LengthNumber_is_all_ones
  b_LengthNumber_is_all_ones : Binds K t.d_LengthNumber_is_all_ones ["self"] []
  F_Element_init : Fun K "__init__" "Element.__init__" s_Element_init t.f_Element_init t.d_Element_init
  b_Element_init : Binds K t.d_Element_init ["self", "name", "start", "end"] []
  F_Cursor_init : Fun K "__init__" "Cursor.__init__" s_Cursor_init t.f_Cursor_init t.d_Cursor_init
  b_Cursor_init : Binds K t.d_Cursor_init ["self", "file", "start", "end"] []
  F_Cursor_bytes_left : Fun K "bytes_left" "Cursor.bytes_left" s_Cursor_bytes_left t.f_Cursor_bytes_left t.d_Cursor_bytes_left
  b_Cursor_bytes_left : Binds K t.d_Cursor_bytes_left ["self"] []
  F_Cursor_skip : Fun K "skip" "Cursor.skip" s_Cursor_skip t.f_Cursor_skip t.d_Cursor_skip
  b_Cursor_skip : Binds K t.d_Cursor_skip ["self", "size"] []
  F_Cursor_take_byte : Fun K "take_byte" "Cursor.take_byte" s_Cursor_take_byte t.f_Cursor_take_byte t.d_Cursor_take_byte
  b_Cursor_take_byte : Binds K t.d_Cursor_take_byte ["self"] []
  F_Cursor_take_length_number : Fun K "take_length_number" "Cursor.take_length_number" s_Cursor_take_length_number t.f_Cursor_take_length_number t.d_Cursor_take_length_number
  b_Cursor_take_length_number : Binds K t.d_Cursor_take_length_number ["self", "most_bytes"] []
  F_Cursor_take_known_number : Fun K "take_known_number" "Cursor.take_known_number" s_Cursor_take_known_number t.f_Cursor_take_known_number t.d_Cursor_take_known_number
  b_Cursor_take_known_number : Binds K t.d_Cursor_take_known_number ["self", "most_bytes"] []
  F_Cursor_take_name : Fun K "take_name" "Cursor.take_name" s_Cursor_take_name t.f_Cursor_take_name t.d_Cursor_take_name
  b_Cursor_take_name : Binds K t.d_Cursor_take_name ["self"] []
  F_Cursor_take_element : Fun K "take_element" "Cursor.take_element" s_Cursor_take_element t.f_Cursor_take_element t.d_Cursor_take_element
  b_Cursor_take_element : Binds K t.d_Cursor_take_element ["self"] []
  F_Cursor_take_element_or_rest : Fun K "take_element_or_rest" "Cursor.take_element_or_rest" s_Cursor_take_element_or_rest t.f_Cursor_take_element_or_rest t.d_Cursor_take_element_or_rest
  b_Cursor_take_element_or_rest : Binds K t.d_Cursor_take_element_or_rest ["self"] []
  F_Cursor_take_body : Fun K "take_body" "Cursor.take_body" s_Cursor_take_body t.f_Cursor_take_body t.d_Cursor_take_body
  b_Cursor_take_body : Binds K t.d_Cursor_take_body ["self", "name", "size"] []
  F_Contents_init : Fun K "__init__" "Contents.__init__" s_Contents_init t.f_Contents_init t.d_Contents_init
  b_Contents_init : Binds K t.d_Contents_init ["self", "file", "element"] []
  F_Contents_all_named : Fun K "all_named" "Contents.all_named" s_Contents_all_named t.f_Contents_all_named t.d_Contents_all_named
  b_Contents_all_named : Binds K t.d_Contents_all_named ["self", "names"] []
  F_Contents_at_most_once : Fun K "at_most_once" "Contents.at_most_once" s_Contents_at_most_once t.f_Contents_at_most_once t.d_Contents_at_most_once
  b_Contents_at_most_once : Binds K t.d_Contents_at_most_once ["self", "name"] []
  F_Contents_once : Fun K "once" "Contents.once" s_Contents_once t.f_Contents_once t.d_Contents_once
  b_Contents_once : Binds K t.d_Contents_once ["self", "name"] []
  F_Contents_number_once : Fun K "number_once" "Contents.number_once" s_Contents_number_once t.f_Contents_number_once t.d_Contents_number_once
  b_Contents_number_once : Binds K t.d_Contents_number_once ["self", "name", "least", "most"] []
  F_Contents_number_or : Fun K "number_or" "Contents.number_or" s_Contents_number_or t.f_Contents_number_or t.d_Contents_number_or
  b_Contents_number_or : Binds K t.d_Contents_number_or ["self", "name", "least", "most", "otherwise"] []
  F_take_children : Fun K "take_children" "take_children" s_take_children t.f_take_children t.d_take_children
  b_take_children : Binds K t.d_take_children ["file", "element"] []
  mg_take_children : mg "take_children" = some (.ref t.f_take_children)
  F_bounded_number : Fun K "bounded_number" "bounded_number" s_bounded_number t.f_bounded_number t.d_bounded_number
  b_bounded_number : Binds K t.d_bounded_number ["file", "element", "least", "most"] []
  mg_bounded_number : mg "bounded_number" = some (.ref t.f_bounded_number)
  F_check_before : Fun K "check_before" "check_before" s_check_before t.f_check_before t.d_check_before
  b_check_before : Binds K t.d_check_before ["first", "others"] []
  mg_check_before : mg "check_before" = some (.ref t.f_check_before)
  F_take_frame_lengths : Fun K "take_frame_lengths" "take_frame_lengths" s_take_frame_lengths t.f_take_frame_lengths t.d_take_frame_lengths
  b_take_frame_lengths : Binds K t.d_take_frame_lengths ["cursor", "flags"] []
  mg_take_frame_lengths : mg "take_frame_lengths" = some (.ref t.f_take_frame_lengths)
  F_equal_lengths : Fun K "equal_lengths" "equal_lengths" s_equal_lengths t.f_equal_lengths t.d_equal_lengths
  b_equal_lengths : Binds K t.d_equal_lengths ["rest", "frames"] []
  mg_equal_lengths : mg "equal_lengths" = some (.ref t.f_equal_lengths)
  F_take_sums : Fun K "take_sums" "take_sums" s_take_sums t.f_take_sums t.d_take_sums
  b_take_sums : Binds K t.d_take_sums ["cursor", "count"] []
  mg_take_sums : mg "take_sums" = some (.ref t.f_take_sums)
  F_take_sum : Fun K "take_sum" "take_sum" s_take_sum t.f_take_sum t.d_take_sum
  b_take_sum : Binds K t.d_take_sum ["cursor"] []
  mg_take_sum : mg "take_sum" = some (.ref t.f_take_sum)
  F_take_differences : Fun K "take_differences" "take_differences" s_take_differences t.f_take_differences t.d_take_differences
  b_take_differences : Binds K t.d_take_differences ["cursor", "count"] []
  mg_take_differences : mg "take_differences" = some (.ref t.f_take_differences)
  F_with_last_length : Fun K "with_last_length" "with_last_length" s_with_last_length t.f_with_last_length t.d_with_last_length
  b_with_last_length : Binds K t.d_with_last_length ["lengths", "rest"] []
  mg_with_last_length : mg "with_last_length" = some (.ref t.f_with_last_length)
  F_Block_init : Fun K "__init__" "Block.__init__" s_Block_init t.f_Block_init t.d_Block_init
  b_Block_init : Binds K t.d_Block_init ["self", "track_number", "time", "is_key", "start", "lengths"] []
  F_read_cluster : Fun K "read_cluster" "read_cluster" s_read_cluster t.f_read_cluster t.d_read_cluster
  b_read_cluster : Binds K t.d_read_cluster ["file", "cluster", "tracks"] []
  mg_read_cluster : mg "read_cluster" = some (.ref t.f_read_cluster)
  F_read_holder : Fun K "read_holder" "read_holder" s_read_holder t.f_read_holder t.d_read_holder
  b_read_holder : Binds K t.d_read_holder ["file", "holder", "cluster_time", "tracks"] []
  mg_read_holder : mg "read_holder" = some (.ref t.f_read_holder)
  F_read_block : Fun K "read_block" "read_block" s_read_block t.f_read_block t.d_read_block
  b_read_block : Binds K t.d_read_block ["file", "element", "cluster_time", "tracks", "is_key"] []
  mg_read_block : mg "read_block" = some (.ref t.f_read_block)
  F_take_offset : Fun K "take_offset" "take_offset" s_take_offset t.f_take_offset t.d_take_offset
  b_take_offset : Binds K t.d_take_offset ["cursor"] []
  mg_take_offset : mg "take_offset" = some (.ref t.f_take_offset)
  F_check_header : Fun K "check_header" "check_header" s_check_header t.f_check_header t.d_check_header
  b_check_header : Binds K t.d_check_header ["file", "header"] []
  mg_check_header : mg "check_header" = some (.ref t.f_check_header)
  F_Picture_init : Fun K "__init__" "Picture.__init__" s_Picture_init t.f_Picture_init t.d_Picture_init
  b_Picture_init : Binds K t.d_Picture_init ["self", "width", "height"] []
  F_Track_init : Fun K "__init__" "Track.__init__" s_Track_init t.f_Track_init t.d_Track_init
  b_Track_init : Binds K t.d_Track_init ["self", "number", "lasting_number", "kind", "picture", "channels", "codec"] []
  F_read_tracks : Fun K "read_tracks" "read_tracks" s_read_tracks t.f_read_tracks t.d_read_tracks
  b_read_tracks : Binds K t.d_read_tracks ["file", "element"] []
  mg_read_tracks : mg "read_tracks" = some (.ref t.f_read_tracks)
  F_read_track : Fun K "read_track" "read_track" s_read_track t.f_read_track t.d_read_track
  b_read_track : Binds K t.d_read_track ["file", "element"] []
  mg_read_track : mg "read_track" = some (.ref t.f_read_track)
  F_check_codec : Fun K "check_codec" "check_codec" s_check_codec t.f_check_codec t.d_check_codec
  b_check_codec : Binds K t.d_check_codec ["file", "codec"] []
  mg_check_codec : mg "check_codec" = some (.ref t.f_check_codec)
  F_read_picture : Fun K "read_picture" "read_picture" s_read_picture t.f_read_picture t.d_read_picture
  b_read_picture : Binds K t.d_read_picture ["file", "element"] []
  mg_read_picture : mg "read_picture" = some (.ref t.f_read_picture)
  F_read_channels : Fun K "read_channels" "read_channels" s_read_channels t.f_read_channels t.d_read_channels
  b_read_channels : Binds K t.d_read_channels ["file", "sound"] []
  mg_read_channels : mg "read_channels" = some (.ref t.f_read_channels)
  F_Film_init : Fun K "__init__" "Film.__init__" s_Film_init t.f_Film_init t.d_Film_init
  b_Film_init : Binds K t.d_Film_init ["self", "tracks", "scale", "clusters"] []
  F_Film_blocks : Fun K "blocks" "Film.blocks" s_Film_blocks t.f_Film_blocks t.d_Film_blocks
  b_Film_blocks : Binds K t.d_Film_blocks ["self"] []
  F_read_film : Fun K "read_film" "read_film" s_read_film t.f_read_film t.d_read_film
  b_read_film : Binds K t.d_read_film ["file"] []
  mg_read_film : mg "read_film" = some (.ref t.f_read_film)
  F_read_body : Fun K "read_body" "read_body" s_read_body t.f_read_body t.d_read_body
  b_read_body : Binds K t.d_read_body ["file", "body"] []
  mg_read_body : mg "read_body" = some (.ref t.f_read_body)
  F_read_scale : Fun K "read_scale" "read_scale" s_read_scale t.f_read_scale t.d_read_scale
  b_read_scale : Binds K t.d_read_scale ["file", "about"] []
  mg_read_scale : mg "read_scale" = some (.ref t.f_read_scale)
  F_frame : Fun K "frame" "frame" s_frame t.f_frame t.d_frame
  b_frame : Binds K t.d_frame ["k", "most", "file"] []
  mg_frame : mg "frame" = some (.ref t.f_frame)
  F_tell_frame : Fun K "tell_frame" "tell_frame" s_tell_frame t.f_tell_frame t.d_tell_frame
  b_tell_frame : Binds K t.d_tell_frame ["block", "place", "most", "file"] []
  mg_tell_frame : mg "tell_frame" = some (.ref t.f_tell_frame)
  F_film_or_none : Fun K "film_or_none" "film_or_none" s_film_or_none t.f_film_or_none t.d_film_or_none
  b_film_or_none : Binds K t.d_film_or_none ["file"] []
  mg_film_or_none : mg "film_or_none" = some (.ref t.f_film_or_none)
  F_tell : Fun K "tell" "tell" s_tell t.f_tell t.d_tell
  b_tell : Binds K t.d_tell ["numbers", "content", "most"] []
  mg_tell : mg "tell" = some (.ref t.f_tell)
  c_LONGEST_NAME : ∃ tk, mg "LONGEST_NAME" = some (.int 4 tk)
  c_LONGEST_LENGTH : ∃ tk, mg "LONGEST_LENGTH" = some (.int 8 tk)
  mg_ALL_ONES : mg "ALL_ONES" = some (.ref t.a_ALL_ONES)
  sq_ALL_ONES : ∀ H, SqT K H t.a_ALL_ONES ([0, 127, 16383, 2097151, 268435455, 34359738367, 4398046511103, 562949953421311, 72057594037927935].map V.int)
  c_LONGEST_NUMBER : ∃ tk, mg "LONGEST_NUMBER" = some (.int 8 tk)
  c_GREATEST_NUMBER : ∃ tk, mg "GREATEST_NUMBER" = some (.int 18446744073709551615 tk)
  c_LACING_BITS : ∃ tk, mg "LACING_BITS" = some (.int 6 tk)
  c_NO_LACING : ∃ tk, mg "NO_LACING" = some (.int 0 tk)
  c_BY_SUMS : ∃ tk, mg "BY_SUMS" = some (.int 2 tk)
  c_BY_EQUAL_PARTS : ∃ tk, mg "BY_EQUAL_PARTS" = some (.int 4 tk)
  c_TIME : ∃ tk, mg "TIME" = some (.int 231 tk)
  c_SIMPLE_BLOCK : ∃ tk, mg "SIMPLE_BLOCK" = some (.int 163 tk)
  c_BLOCK_GROUP : ∃ tk, mg "BLOCK_GROUP" = some (.int 160 tk)
  c_GROUPED_BLOCK : ∃ tk, mg "GROUPED_BLOCK" = some (.int 161 tk)
  c_REFERENCE : ∃ tk, mg "REFERENCE" = some (.int 251 tk)
  c_LATEST_TIME : ∃ tk, mg "LATEST_TIME" = some (.int 281474976710656 tk)
  c_LONGEST_TRACK_NUMBER : ∃ tk, mg "LONGEST_TRACK_NUMBER" = some (.int 2 tk)
  c_KEY_BIT : ∃ tk, mg "KEY_BIT" = some (.int 128 tk)
  c_FORM : ∃ tk, mg "FORM" = some (.int 17026 tk)
  c_READ_VERSION : ∃ tk, mg "READ_VERSION" = some (.int 17143 tk)
  c_NAME_BYTES : ∃ tk, mg "NAME_BYTES" = some (.int 17138 tk)
  c_LENGTH_BYTES : ∃ tk, mg "LENGTH_BYTES" = some (.int 17139 tk)
  c_FORM_READ_VERSION : ∃ tk, mg "FORM_READ_VERSION" = some (.int 17029 tk)
  mg_MATROSKA : mg "MATROSKA" = some (.ref t.a_MATROSKA)
  sq_MATROSKA : ∀ H, SqT K H t.a_MATROSKA ([109, 97, 116, 114, 111, 115, 107, 97].map V.int)
  mg_WEBM : mg "WEBM" = some (.ref t.a_WEBM)
  sq_WEBM : ∀ H, SqT K H t.a_WEBM ([119, 101, 98, 109].map V.int)
  c_TRACK : ∃ tk, mg "TRACK" = some (.int 174 tk)
  c_NUMBER : ∃ tk, mg "NUMBER" = some (.int 215 tk)
  c_LASTING_NUMBER : ∃ tk, mg "LASTING_NUMBER" = some (.int 29637 tk)
  c_KIND : ∃ tk, mg "KIND" = some (.int 131 tk)
  c_CODEC : ∃ tk, mg "CODEC" = some (.int 134 tk)
  c_PICTURE : ∃ tk, mg "PICTURE" = some (.int 224 tk)
  c_WIDTH : ∃ tk, mg "WIDTH" = some (.int 176 tk)
  c_HEIGHT : ∃ tk, mg "HEIGHT" = some (.int 186 tk)
  c_SOUND : ∃ tk, mg "SOUND" = some (.int 225 tk)
  c_CHANNELS : ∃ tk, mg "CHANNELS" = some (.int 159 tk)
  c_LONGEST_CODEC : ∃ tk, mg "LONGEST_CODEC" = some (.int 64 tk)
  c_HEADER : ∃ tk, mg "HEADER" = some (.int 440786851 tk)
  c_BODY : ∃ tk, mg "BODY" = some (.int 408125543 tk)
  c_ABOUT : ∃ tk, mg "ABOUT" = some (.int 357149030 tk)
  c_SCALE : ∃ tk, mg "SCALE" = some (.int 2807729 tk)
  c_TRACKS : ∃ tk, mg "TRACKS" = some (.int 374648427 tk)
  c_CLUSTER : ∃ tk, mg "CLUSTER" = some (.int 524531317 tk)
  c_USUAL_SCALE : ∃ tk, mg "USUAL_SCALE" = some (.int 1000000 tk)
  c_FILE_NOT_RIGHT : ∃ tk, mg "FILE_NOT_RIGHT" = some (.int (-1) tk)
  c_NOT_THERE : ∃ tk, mg "NOT_THERE" = some (.int (-2) tk)
  c_TOO_LONG : ∃ tk, mg "TOO_LONG" = some (.int (-3) tk)
  n_len : mg "len" = none
  n_min : mg "min" = none
  n_range : mg "range" = none
  n_sum : mg "sum" = none
  n_tuple : mg "tuple" = none
end Film

set_option Elab.async false
set_option linter.all false
set_option maxRecDepth 100000
set_option maxHeartbeats 0
namespace Film
open PySem PySem.Spec PyProof.Rows L2
theorem txt_mk {K : PySem.W.Frag} {h : Heap} {mg : Str → Option Value} (X : K.In h) (G : h.Ns mainGlobals mg)
    {c_NotRight c_LengthNumber c_Element c_Cursor c_Contents c_Block c_Picture c_Track c_Film f_join_bytes f_LengthNumber_init f_LengthNumber_is_all_ones f_Element_init f_Cursor_init f_Cursor_bytes_left f_Cursor_skip f_Cursor_take_byte f_Cursor_take_length_number f_Cursor_take_known_number f_Cursor_take_name f_Cursor_take_element f_Cursor_take_element_or_rest f_Cursor_take_body f_Contents_init f_Contents_all_named f_Contents_at_most_once f_Contents_once f_Contents_number_once f_Contents_number_or f_take_children f_bounded_number f_check_before f_take_frame_lengths f_equal_lengths f_take_sums f_take_sum f_take_differences f_with_last_length f_Block_init f_read_cluster f_read_holder f_read_block f_take_offset f_check_header f_Picture_init f_Track_init f_read_tracks f_read_track f_check_codec f_read_picture f_read_channels f_Film_init f_Film_blocks f_read_film f_read_body f_read_scale f_frame f_tell_frame f_film_or_none f_tell a_ALL_ONES a_MATROSKA a_WEBM : Addr}
    {od_join_bytes an_join_bytes od_LengthNumber_init an_LengthNumber_init od_LengthNumber_is_all_ones an_LengthNumber_is_all_ones od_Element_init an_Element_init od_Cursor_init an_Cursor_init od_Cursor_bytes_left an_Cursor_bytes_left od_Cursor_skip an_Cursor_skip od_Cursor_take_byte an_Cursor_take_byte od_Cursor_take_length_number an_Cursor_take_length_number od_Cursor_take_known_number an_Cursor_take_known_number od_Cursor_take_name an_Cursor_take_name od_Cursor_take_element an_Cursor_take_element od_Cursor_take_element_or_rest an_Cursor_take_element_or_rest od_Cursor_take_body an_Cursor_take_body od_Contents_init an_Contents_init od_Contents_all_named an_Contents_all_named od_Contents_at_most_once an_Contents_at_most_once od_Contents_once an_Contents_once od_Contents_number_once an_Contents_number_once od_Contents_number_or an_Contents_number_or od_take_children an_take_children od_bounded_number an_bounded_number od_check_before an_check_before od_take_frame_lengths an_take_frame_lengths od_equal_lengths an_equal_lengths od_take_sums an_take_sums od_take_sum an_take_sum od_take_differences an_take_differences od_with_last_length an_with_last_length od_Block_init an_Block_init od_read_cluster an_read_cluster od_read_holder an_read_holder od_read_block an_read_block od_take_offset an_take_offset od_check_header an_check_header od_Picture_init an_Picture_init od_Track_init an_Track_init od_read_tracks an_read_tracks od_read_track an_read_track od_check_codec an_check_codec od_read_picture an_read_picture od_read_channels an_read_channels od_Film_init an_Film_init od_Film_blocks an_Film_blocks od_read_film an_read_film od_read_body an_read_body od_read_scale an_read_scale od_frame an_frame od_tell_frame an_tell_frame od_film_or_none an_film_or_none od_tell an_tell odt_ALL_ONES odt_MATROSKA odt_WEBM : Option Addr}
    {oc_join_bytes kV_join_bytes dc_join_bytes pm_join_bytes cd_join_bytes ct_join_bytes oc_LengthNumber_init kV_LengthNumber_init dc_LengthNumber_init pm_LengthNumber_init cd_LengthNumber_init ct_LengthNumber_init oc_LengthNumber_is_all_ones kV_LengthNumber_is_all_ones dc_LengthNumber_is_all_ones pm_LengthNumber_is_all_ones cd_LengthNumber_is_all_ones ct_LengthNumber_is_all_ones oc_Element_init kV_Element_init dc_Element_init pm_Element_init cd_Element_init ct_Element_init oc_Cursor_init kV_Cursor_init dc_Cursor_init pm_Cursor_init cd_Cursor_init ct_Cursor_init oc_Cursor_bytes_left kV_Cursor_bytes_left dc_Cursor_bytes_left pm_Cursor_bytes_left cd_Cursor_bytes_left ct_Cursor_bytes_left oc_Cursor_skip kV_Cursor_skip dc_Cursor_skip pm_Cursor_skip cd_Cursor_skip ct_Cursor_skip oc_Cursor_take_byte kV_Cursor_take_byte dc_Cursor_take_byte pm_Cursor_take_byte cd_Cursor_take_byte ct_Cursor_take_byte oc_Cursor_take_length_number kV_Cursor_take_length_number dc_Cursor_take_length_number pm_Cursor_take_length_number cd_Cursor_take_length_number ct_Cursor_take_length_number oc_Cursor_take_known_number kV_Cursor_take_known_number dc_Cursor_take_known_number pm_Cursor_take_known_number cd_Cursor_take_known_number ct_Cursor_take_known_number oc_Cursor_take_name kV_Cursor_take_name dc_Cursor_take_name pm_Cursor_take_name cd_Cursor_take_name ct_Cursor_take_name oc_Cursor_take_element kV_Cursor_take_element dc_Cursor_take_element pm_Cursor_take_element cd_Cursor_take_element ct_Cursor_take_element oc_Cursor_take_element_or_rest kV_Cursor_take_element_or_rest dc_Cursor_take_element_or_rest pm_Cursor_take_element_or_rest cd_Cursor_take_element_or_rest ct_Cursor_take_element_or_rest oc_Cursor_take_body kV_Cursor_take_body dc_Cursor_take_body pm_Cursor_take_body cd_Cursor_take_body ct_Cursor_take_body oc_Contents_init kV_Contents_init dc_Contents_init pm_Contents_init cd_Contents_init ct_Contents_init oc_Contents_all_named kV_Contents_all_named dc_Contents_all_named pm_Contents_all_named cd_Contents_all_named ct_Contents_all_named oc_Contents_at_most_once kV_Contents_at_most_once dc_Contents_at_most_once pm_Contents_at_most_once cd_Contents_at_most_once ct_Contents_at_most_once oc_Contents_once kV_Contents_once dc_Contents_once pm_Contents_once cd_Contents_once ct_Contents_once oc_Contents_number_once kV_Contents_number_once dc_Contents_number_once pm_Contents_number_once cd_Contents_number_once ct_Contents_number_once oc_Contents_number_or kV_Contents_number_or dc_Contents_number_or pm_Contents_number_or cd_Contents_number_or ct_Contents_number_or oc_take_children kV_take_children dc_take_children pm_take_children cd_take_children ct_take_children oc_bounded_number kV_bounded_number dc_bounded_number pm_bounded_number cd_bounded_number ct_bounded_number oc_check_before kV_check_before dc_check_before pm_check_before cd_check_before ct_check_before oc_take_frame_lengths kV_take_frame_lengths dc_take_frame_lengths pm_take_frame_lengths cd_take_frame_lengths ct_take_frame_lengths oc_equal_lengths kV_equal_lengths dc_equal_lengths pm_equal_lengths cd_equal_lengths ct_equal_lengths oc_take_sums kV_take_sums dc_take_sums pm_take_sums cd_take_sums ct_take_sums oc_take_sum kV_take_sum dc_take_sum pm_take_sum cd_take_sum ct_take_sum oc_take_differences kV_take_differences dc_take_differences pm_take_differences cd_take_differences ct_take_differences oc_with_last_length kV_with_last_length dc_with_last_length pm_with_last_length cd_with_last_length ct_with_last_length oc_Block_init kV_Block_init dc_Block_init pm_Block_init cd_Block_init ct_Block_init oc_read_cluster kV_read_cluster dc_read_cluster pm_read_cluster cd_read_cluster ct_read_cluster oc_read_holder kV_read_holder dc_read_holder pm_read_holder cd_read_holder ct_read_holder oc_read_block kV_read_block dc_read_block pm_read_block cd_read_block ct_read_block oc_take_offset kV_take_offset dc_take_offset pm_take_offset cd_take_offset ct_take_offset oc_check_header kV_check_header dc_check_header pm_check_header cd_check_header ct_check_header oc_Picture_init kV_Picture_init dc_Picture_init pm_Picture_init cd_Picture_init ct_Picture_init oc_Track_init kV_Track_init dc_Track_init pm_Track_init cd_Track_init ct_Track_init oc_read_tracks kV_read_tracks dc_read_tracks pm_read_tracks cd_read_tracks ct_read_tracks oc_read_track kV_read_track dc_read_track pm_read_track cd_read_track ct_read_track oc_check_codec kV_check_codec dc_check_codec pm_check_codec cd_check_codec ct_check_codec oc_read_picture kV_read_picture dc_read_picture pm_read_picture cd_read_picture ct_read_picture oc_read_channels kV_read_channels dc_read_channels pm_read_channels cd_read_channels ct_read_channels oc_Film_init kV_Film_init dc_Film_init pm_Film_init cd_Film_init ct_Film_init oc_Film_blocks kV_Film_blocks dc_Film_blocks pm_Film_blocks cd_Film_blocks ct_Film_blocks oc_read_film kV_read_film dc_read_film pm_read_film cd_read_film ct_read_film oc_read_body kV_read_body dc_read_body pm_read_body cd_read_body ct_read_body oc_read_scale kV_read_scale dc_read_scale pm_read_scale cd_read_scale ct_read_scale oc_frame kV_frame dc_frame pm_frame cd_frame ct_frame oc_tell_frame kV_tell_frame dc_tell_frame pm_tell_frame cd_tell_frame ct_tell_frame oc_film_or_none kV_film_or_none dc_film_or_none pm_film_or_none cd_film_or_none ct_film_or_none oc_tell kV_tell dc_tell pm_tell cd_tell ct_tell : Value}
    {sl_join_bytes sl_LengthNumber_init sl_LengthNumber_is_all_ones sl_Element_init sl_Cursor_init sl_Cursor_bytes_left sl_Cursor_skip sl_Cursor_take_byte sl_Cursor_take_length_number sl_Cursor_take_known_number sl_Cursor_take_name sl_Cursor_take_element sl_Cursor_take_element_or_rest sl_Cursor_take_body sl_Contents_init sl_Contents_all_named sl_Contents_at_most_once sl_Contents_once sl_Contents_number_once sl_Contents_number_or sl_take_children sl_bounded_number sl_check_before sl_take_frame_lengths sl_equal_lengths sl_take_sums sl_take_sum sl_take_differences sl_with_last_length sl_Block_init sl_read_cluster sl_read_holder sl_read_block sl_take_offset sl_check_header sl_Picture_init sl_Track_init sl_read_tracks sl_read_track sl_check_codec sl_read_picture sl_read_channels sl_Film_init sl_Film_blocks sl_read_film sl_read_body sl_read_scale sl_frame sl_tell_frame sl_film_or_none sl_tell slt_ALL_ONES slt_MATROSKA slt_WEBM : Array (Option Value)}
    {tk_LONGEST_NAME tk_LONGEST_LENGTH tk_ALL_ONES_0 tk_ALL_ONES_1 tk_ALL_ONES_2 tk_ALL_ONES_3 tk_ALL_ONES_4 tk_ALL_ONES_5 tk_ALL_ONES_6 tk_ALL_ONES_7 tk_ALL_ONES_8 tk_LONGEST_NUMBER tk_GREATEST_NUMBER tk_LACING_BITS tk_NO_LACING tk_BY_SUMS tk_BY_EQUAL_PARTS tk_TIME tk_SIMPLE_BLOCK tk_BLOCK_GROUP tk_GROUPED_BLOCK tk_REFERENCE tk_LATEST_TIME tk_LONGEST_TRACK_NUMBER tk_KEY_BIT tk_FORM tk_READ_VERSION tk_NAME_BYTES tk_LENGTH_BYTES tk_FORM_READ_VERSION tk_MATROSKA_0 tk_MATROSKA_1 tk_MATROSKA_2 tk_MATROSKA_3 tk_MATROSKA_4 tk_MATROSKA_5 tk_MATROSKA_6 tk_MATROSKA_7 tk_WEBM_0 tk_WEBM_1 tk_WEBM_2 tk_WEBM_3 tk_TRACK tk_NUMBER tk_LASTING_NUMBER tk_KIND tk_CODEC tk_PICTURE tk_WIDTH tk_HEIGHT tk_SOUND tk_CHANNELS tk_LONGEST_CODEC tk_HEADER tk_BODY tk_ABOUT tk_SCALE tk_TRACKS tk_CLUSTER tk_USUAL_SCALE tk_FILE_NOT_RIGHT tk_NOT_THERE tk_TOO_LONG : Tok}
    {nt_ALL_ONES nt_MATROSKA nt_WEBM : Nat}
    (x0 : PySem.W.nsIn K mainGlobals "NotRight" = some (some (.ref c_NotRight)))
    (x1 : PySem.W.excIn K c_NotRight [.type "Exception", .type "BaseException", .type "object"] "Exception.__new__" = true)
    (ac_LengthNumber : PySem.W.nsIn K mainGlobals "LengthNumber" = some (some (.ref c_LengthNumber)))
    (pg_LengthNumber : PySem.W.plainGet K c_LengthNumber Str.empty = true)
    (hd_LengthNumber : PySem.W.hasDictIn K c_LengthNumber = true)
    (po_LengthNumber : PySem.W.plainOver K c_LengthNumber = true)
    (sa_LengthNumber : PySem.W.findIn K (.ref c_LengthNumber) "__setattr__" = some (some (.builtin "object.__setattr__")))
    (mk_LengthNumber : PySem.W.makesIn K c_LengthNumber = true)
    (kc_LengthNumber : PySem.W.keepIn K (.ref c_LengthNumber) = true)
    (na_LengthNumber_size : PySem.W.findIn K (.ref c_LengthNumber) "size" = some none)
    (na_LengthNumber_value : PySem.W.findIn K (.ref c_LengthNumber) "value" = some none)
    (ac_Element : PySem.W.nsIn K mainGlobals "Element" = some (some (.ref c_Element)))
    (pg_Element : PySem.W.plainGet K c_Element Str.empty = true)
    (hd_Element : PySem.W.hasDictIn K c_Element = true)
    (po_Element : PySem.W.plainOver K c_Element = true)
    (sa_Element : PySem.W.findIn K (.ref c_Element) "__setattr__" = some (some (.builtin "object.__setattr__")))
    (mk_Element : PySem.W.makesIn K c_Element = true)
    (kc_Element : PySem.W.keepIn K (.ref c_Element) = true)
    (na_Element_name : PySem.W.findIn K (.ref c_Element) "name" = some none)
    (na_Element_start : PySem.W.findIn K (.ref c_Element) "start" = some none)
    (na_Element_end : PySem.W.findIn K (.ref c_Element) "end" = some none)
    (ac_Cursor : PySem.W.nsIn K mainGlobals "Cursor" = some (some (.ref c_Cursor)))
    (pg_Cursor : PySem.W.plainGet K c_Cursor Str.empty = true)
    (hd_Cursor : PySem.W.hasDictIn K c_Cursor = true)
    (po_Cursor : PySem.W.plainOver K c_Cursor = true)
    (sa_Cursor : PySem.W.findIn K (.ref c_Cursor) "__setattr__" = some (some (.builtin "object.__setattr__")))
    (mk_Cursor : PySem.W.makesIn K c_Cursor = true)
    (kc_Cursor : PySem.W.keepIn K (.ref c_Cursor) = true)
    (na_Cursor_file : PySem.W.findIn K (.ref c_Cursor) "file" = some none)
    (na_Cursor_place : PySem.W.findIn K (.ref c_Cursor) "place" = some none)
    (na_Cursor_limit : PySem.W.findIn K (.ref c_Cursor) "limit" = some none)
    (ac_Contents : PySem.W.nsIn K mainGlobals "Contents" = some (some (.ref c_Contents)))
    (pg_Contents : PySem.W.plainGet K c_Contents Str.empty = true)
    (hd_Contents : PySem.W.hasDictIn K c_Contents = true)
    (po_Contents : PySem.W.plainOver K c_Contents = true)
    (sa_Contents : PySem.W.findIn K (.ref c_Contents) "__setattr__" = some (some (.builtin "object.__setattr__")))
    (mk_Contents : PySem.W.makesIn K c_Contents = true)
    (kc_Contents : PySem.W.keepIn K (.ref c_Contents) = true)
    (na_Contents_file : PySem.W.findIn K (.ref c_Contents) "file" = some none)
    (na_Contents_children : PySem.W.findIn K (.ref c_Contents) "children" = some none)
    (ac_Block : PySem.W.nsIn K mainGlobals "Block" = some (some (.ref c_Block)))
    (pg_Block : PySem.W.plainGet K c_Block Str.empty = true)
    (hd_Block : PySem.W.hasDictIn K c_Block = true)
    (po_Block : PySem.W.plainOver K c_Block = true)
    (sa_Block : PySem.W.findIn K (.ref c_Block) "__setattr__" = some (some (.builtin "object.__setattr__")))
    (mk_Block : PySem.W.makesIn K c_Block = true)
    (kc_Block : PySem.W.keepIn K (.ref c_Block) = true)
    (na_Block_track_number : PySem.W.findIn K (.ref c_Block) "track_number" = some none)
    (na_Block_time : PySem.W.findIn K (.ref c_Block) "time" = some none)
    (na_Block_is_key : PySem.W.findIn K (.ref c_Block) "is_key" = some none)
    (na_Block_start : PySem.W.findIn K (.ref c_Block) "start" = some none)
    (na_Block_lengths : PySem.W.findIn K (.ref c_Block) "lengths" = some none)
    (ac_Picture : PySem.W.nsIn K mainGlobals "Picture" = some (some (.ref c_Picture)))
    (pg_Picture : PySem.W.plainGet K c_Picture Str.empty = true)
    (hd_Picture : PySem.W.hasDictIn K c_Picture = true)
    (po_Picture : PySem.W.plainOver K c_Picture = true)
    (sa_Picture : PySem.W.findIn K (.ref c_Picture) "__setattr__" = some (some (.builtin "object.__setattr__")))
    (mk_Picture : PySem.W.makesIn K c_Picture = true)
    (kc_Picture : PySem.W.keepIn K (.ref c_Picture) = true)
    (na_Picture_width : PySem.W.findIn K (.ref c_Picture) "width" = some none)
    (na_Picture_height : PySem.W.findIn K (.ref c_Picture) "height" = some none)
    (ac_Track : PySem.W.nsIn K mainGlobals "Track" = some (some (.ref c_Track)))
    (pg_Track : PySem.W.plainGet K c_Track Str.empty = true)
    (hd_Track : PySem.W.hasDictIn K c_Track = true)
    (po_Track : PySem.W.plainOver K c_Track = true)
    (sa_Track : PySem.W.findIn K (.ref c_Track) "__setattr__" = some (some (.builtin "object.__setattr__")))
    (mk_Track : PySem.W.makesIn K c_Track = true)
    (kc_Track : PySem.W.keepIn K (.ref c_Track) = true)
    (na_Track_number : PySem.W.findIn K (.ref c_Track) "number" = some none)
    (na_Track_lasting_number : PySem.W.findIn K (.ref c_Track) "lasting_number" = some none)
    (na_Track_kind : PySem.W.findIn K (.ref c_Track) "kind" = some none)
    (na_Track_picture : PySem.W.findIn K (.ref c_Track) "picture" = some none)
    (na_Track_channels : PySem.W.findIn K (.ref c_Track) "channels" = some none)
    (na_Track_codec : PySem.W.findIn K (.ref c_Track) "codec" = some none)
    (ac_Film : PySem.W.nsIn K mainGlobals "Film" = some (some (.ref c_Film)))
    (pg_Film : PySem.W.plainGet K c_Film Str.empty = true)
    (hd_Film : PySem.W.hasDictIn K c_Film = true)
    (po_Film : PySem.W.plainOver K c_Film = true)
    (sa_Film : PySem.W.findIn K (.ref c_Film) "__setattr__" = some (some (.builtin "object.__setattr__")))
    (mk_Film : PySem.W.makesIn K c_Film = true)
    (kc_Film : PySem.W.keepIn K (.ref c_Film) = true)
    (na_Film_tracks : PySem.W.findIn K (.ref c_Film) "tracks" = some none)
    (na_Film_scale : PySem.W.findIn K (.ref c_Film) "scale" = some none)
    (na_Film_clusters : PySem.W.findIn K (.ref c_Film) "clusters" = some none)
    (a_join_bytes : PySem.W.nsIn K mainGlobals "join_bytes" = some (some (.ref f_join_bytes)))
    (l_join_bytes : K.lookup f_join_bytes = some ⟨oc_join_bytes, od_join_bytes, .func (PySem.W.fnOf "join_bytes" "join_bytes" (defArgs s_join_bytes) (defBody s_join_bytes) (defScope s_join_bytes) .none kV_join_bytes dc_join_bytes pm_join_bytes an_join_bytes cd_join_bytes ct_join_bytes), sl_join_bytes⟩)
    (c_join_bytes : PySem.W.codeIn K cd_join_bytes "join_bytes" = true)
    (k_join_bytes : PySem.W.keepIn K (.ref f_join_bytes) = true)
    (a_LengthNumber_init : PySem.W.findIn K (.ref c_LengthNumber) "__init__" = some (some (.ref f_LengthNumber_init)))
    (i_LengthNumber_init : PySem.W.isFn K (.ref f_LengthNumber_init) = true)
    (l_LengthNumber_init : K.lookup f_LengthNumber_init = some ⟨oc_LengthNumber_init, od_LengthNumber_init, .func (PySem.W.fnOf "__init__" "LengthNumber.__init__" (defArgs s_LengthNumber_init) (defBody s_LengthNumber_init) (defScope s_LengthNumber_init) .none kV_LengthNumber_init dc_LengthNumber_init pm_LengthNumber_init an_LengthNumber_init cd_LengthNumber_init ct_LengthNumber_init), sl_LengthNumber_init⟩)
    (c_LengthNumber_init : PySem.W.codeIn K cd_LengthNumber_init "LengthNumber.__init__" = true)
    (k_LengthNumber_init : PySem.W.keepIn K (.ref f_LengthNumber_init) = true)
    (a_LengthNumber_is_all_ones : PySem.W.findIn K (.ref c_LengthNumber) "is_all_ones" = some (some (.ref f_LengthNumber_is_all_ones)))
    (i_LengthNumber_is_all_ones : PySem.W.isFn K (.ref f_LengthNumber_is_all_ones) = true)
    (l_LengthNumber_is_all_ones : K.lookup f_LengthNumber_is_all_ones = some ⟨oc_LengthNumber_is_all_ones, od_LengthNumber_is_all_ones, .func (PySem.W.fnOf "is_all_ones" "LengthNumber.is_all_ones" (defArgs s_LengthNumber_is_all_ones) (defBody s_LengthNumber_is_all_ones) (defScope s_LengthNumber_is_all_ones) .none kV_LengthNumber_is_all_ones dc_LengthNumber_is_all_ones pm_LengthNumber_is_all_ones an_LengthNumber_is_all_ones cd_LengthNumber_is_all_ones ct_LengthNumber_is_all_ones), sl_LengthNumber_is_all_ones⟩)
    (c_LengthNumber_is_all_ones : PySem.W.codeIn K cd_LengthNumber_is_all_ones "LengthNumber.is_all_ones" = true)
    (k_LengthNumber_is_all_ones : PySem.W.keepIn K (.ref f_LengthNumber_is_all_ones) = true)
    (a_Element_init : PySem.W.findIn K (.ref c_Element) "__init__" = some (some (.ref f_Element_init)))
    (i_Element_init : PySem.W.isFn K (.ref f_Element_init) = true)
    (l_Element_init : K.lookup f_Element_init = some ⟨oc_Element_init, od_Element_init, .func (PySem.W.fnOf "__init__" "Element.__init__" (defArgs s_Element_init) (defBody s_Element_init) (defScope s_Element_init) .none kV_Element_init dc_Element_init pm_Element_init an_Element_init cd_Element_init ct_Element_init), sl_Element_init⟩)
    (c_Element_init : PySem.W.codeIn K cd_Element_init "Element.__init__" = true)
    (k_Element_init : PySem.W.keepIn K (.ref f_Element_init) = true)
    (a_Cursor_init : PySem.W.findIn K (.ref c_Cursor) "__init__" = some (some (.ref f_Cursor_init)))
    (i_Cursor_init : PySem.W.isFn K (.ref f_Cursor_init) = true)
    (l_Cursor_init : K.lookup f_Cursor_init = some ⟨oc_Cursor_init, od_Cursor_init, .func (PySem.W.fnOf "__init__" "Cursor.__init__" (defArgs s_Cursor_init) (defBody s_Cursor_init) (defScope s_Cursor_init) .none kV_Cursor_init dc_Cursor_init pm_Cursor_init an_Cursor_init cd_Cursor_init ct_Cursor_init), sl_Cursor_init⟩)
    (c_Cursor_init : PySem.W.codeIn K cd_Cursor_init "Cursor.__init__" = true)
    (k_Cursor_init : PySem.W.keepIn K (.ref f_Cursor_init) = true)
    (a_Cursor_bytes_left : PySem.W.findIn K (.ref c_Cursor) "bytes_left" = some (some (.ref f_Cursor_bytes_left)))
    (i_Cursor_bytes_left : PySem.W.isFn K (.ref f_Cursor_bytes_left) = true)
    (l_Cursor_bytes_left : K.lookup f_Cursor_bytes_left = some ⟨oc_Cursor_bytes_left, od_Cursor_bytes_left, .func (PySem.W.fnOf "bytes_left" "Cursor.bytes_left" (defArgs s_Cursor_bytes_left) (defBody s_Cursor_bytes_left) (defScope s_Cursor_bytes_left) .none kV_Cursor_bytes_left dc_Cursor_bytes_left pm_Cursor_bytes_left an_Cursor_bytes_left cd_Cursor_bytes_left ct_Cursor_bytes_left), sl_Cursor_bytes_left⟩)
    (c_Cursor_bytes_left : PySem.W.codeIn K cd_Cursor_bytes_left "Cursor.bytes_left" = true)
    (k_Cursor_bytes_left : PySem.W.keepIn K (.ref f_Cursor_bytes_left) = true)
    (a_Cursor_skip : PySem.W.findIn K (.ref c_Cursor) "skip" = some (some (.ref f_Cursor_skip)))
    (i_Cursor_skip : PySem.W.isFn K (.ref f_Cursor_skip) = true)
    (l_Cursor_skip : K.lookup f_Cursor_skip = some ⟨oc_Cursor_skip, od_Cursor_skip, .func (PySem.W.fnOf "skip" "Cursor.skip" (defArgs s_Cursor_skip) (defBody s_Cursor_skip) (defScope s_Cursor_skip) .none kV_Cursor_skip dc_Cursor_skip pm_Cursor_skip an_Cursor_skip cd_Cursor_skip ct_Cursor_skip), sl_Cursor_skip⟩)
    (c_Cursor_skip : PySem.W.codeIn K cd_Cursor_skip "Cursor.skip" = true)
    (k_Cursor_skip : PySem.W.keepIn K (.ref f_Cursor_skip) = true)
    (a_Cursor_take_byte : PySem.W.findIn K (.ref c_Cursor) "take_byte" = some (some (.ref f_Cursor_take_byte)))
    (i_Cursor_take_byte : PySem.W.isFn K (.ref f_Cursor_take_byte) = true)
    (l_Cursor_take_byte : K.lookup f_Cursor_take_byte = some ⟨oc_Cursor_take_byte, od_Cursor_take_byte, .func (PySem.W.fnOf "take_byte" "Cursor.take_byte" (defArgs s_Cursor_take_byte) (defBody s_Cursor_take_byte) (defScope s_Cursor_take_byte) .none kV_Cursor_take_byte dc_Cursor_take_byte pm_Cursor_take_byte an_Cursor_take_byte cd_Cursor_take_byte ct_Cursor_take_byte), sl_Cursor_take_byte⟩)
    (c_Cursor_take_byte : PySem.W.codeIn K cd_Cursor_take_byte "Cursor.take_byte" = true)
    (k_Cursor_take_byte : PySem.W.keepIn K (.ref f_Cursor_take_byte) = true)
    (a_Cursor_take_length_number : PySem.W.findIn K (.ref c_Cursor) "take_length_number" = some (some (.ref f_Cursor_take_length_number)))
    (i_Cursor_take_length_number : PySem.W.isFn K (.ref f_Cursor_take_length_number) = true)
    (l_Cursor_take_length_number : K.lookup f_Cursor_take_length_number = some ⟨oc_Cursor_take_length_number, od_Cursor_take_length_number, .func (PySem.W.fnOf "take_length_number" "Cursor.take_length_number" (defArgs s_Cursor_take_length_number) (defBody s_Cursor_take_length_number) (defScope s_Cursor_take_length_number) .none kV_Cursor_take_length_number dc_Cursor_take_length_number pm_Cursor_take_length_number an_Cursor_take_length_number cd_Cursor_take_length_number ct_Cursor_take_length_number), sl_Cursor_take_length_number⟩)
    (c_Cursor_take_length_number : PySem.W.codeIn K cd_Cursor_take_length_number "Cursor.take_length_number" = true)
    (k_Cursor_take_length_number : PySem.W.keepIn K (.ref f_Cursor_take_length_number) = true)
    (a_Cursor_take_known_number : PySem.W.findIn K (.ref c_Cursor) "take_known_number" = some (some (.ref f_Cursor_take_known_number)))
    (i_Cursor_take_known_number : PySem.W.isFn K (.ref f_Cursor_take_known_number) = true)
    (l_Cursor_take_known_number : K.lookup f_Cursor_take_known_number = some ⟨oc_Cursor_take_known_number, od_Cursor_take_known_number, .func (PySem.W.fnOf "take_known_number" "Cursor.take_known_number" (defArgs s_Cursor_take_known_number) (defBody s_Cursor_take_known_number) (defScope s_Cursor_take_known_number) .none kV_Cursor_take_known_number dc_Cursor_take_known_number pm_Cursor_take_known_number an_Cursor_take_known_number cd_Cursor_take_known_number ct_Cursor_take_known_number), sl_Cursor_take_known_number⟩)
    (c_Cursor_take_known_number : PySem.W.codeIn K cd_Cursor_take_known_number "Cursor.take_known_number" = true)
    (k_Cursor_take_known_number : PySem.W.keepIn K (.ref f_Cursor_take_known_number) = true)
    (a_Cursor_take_name : PySem.W.findIn K (.ref c_Cursor) "take_name" = some (some (.ref f_Cursor_take_name)))
    (i_Cursor_take_name : PySem.W.isFn K (.ref f_Cursor_take_name) = true)
    (l_Cursor_take_name : K.lookup f_Cursor_take_name = some ⟨oc_Cursor_take_name, od_Cursor_take_name, .func (PySem.W.fnOf "take_name" "Cursor.take_name" (defArgs s_Cursor_take_name) (defBody s_Cursor_take_name) (defScope s_Cursor_take_name) .none kV_Cursor_take_name dc_Cursor_take_name pm_Cursor_take_name an_Cursor_take_name cd_Cursor_take_name ct_Cursor_take_name), sl_Cursor_take_name⟩)
    (c_Cursor_take_name : PySem.W.codeIn K cd_Cursor_take_name "Cursor.take_name" = true)
    (k_Cursor_take_name : PySem.W.keepIn K (.ref f_Cursor_take_name) = true)
    (a_Cursor_take_element : PySem.W.findIn K (.ref c_Cursor) "take_element" = some (some (.ref f_Cursor_take_element)))
    (i_Cursor_take_element : PySem.W.isFn K (.ref f_Cursor_take_element) = true)
    (l_Cursor_take_element : K.lookup f_Cursor_take_element = some ⟨oc_Cursor_take_element, od_Cursor_take_element, .func (PySem.W.fnOf "take_element" "Cursor.take_element" (defArgs s_Cursor_take_element) (defBody s_Cursor_take_element) (defScope s_Cursor_take_element) .none kV_Cursor_take_element dc_Cursor_take_element pm_Cursor_take_element an_Cursor_take_element cd_Cursor_take_element ct_Cursor_take_element), sl_Cursor_take_element⟩)
    (c_Cursor_take_element : PySem.W.codeIn K cd_Cursor_take_element "Cursor.take_element" = true)
    (k_Cursor_take_element : PySem.W.keepIn K (.ref f_Cursor_take_element) = true)
    (a_Cursor_take_element_or_rest : PySem.W.findIn K (.ref c_Cursor) "take_element_or_rest" = some (some (.ref f_Cursor_take_element_or_rest)))
    (i_Cursor_take_element_or_rest : PySem.W.isFn K (.ref f_Cursor_take_element_or_rest) = true)
    (l_Cursor_take_element_or_rest : K.lookup f_Cursor_take_element_or_rest = some ⟨oc_Cursor_take_element_or_rest, od_Cursor_take_element_or_rest, .func (PySem.W.fnOf "take_element_or_rest" "Cursor.take_element_or_rest" (defArgs s_Cursor_take_element_or_rest) (defBody s_Cursor_take_element_or_rest) (defScope s_Cursor_take_element_or_rest) .none kV_Cursor_take_element_or_rest dc_Cursor_take_element_or_rest pm_Cursor_take_element_or_rest an_Cursor_take_element_or_rest cd_Cursor_take_element_or_rest ct_Cursor_take_element_or_rest), sl_Cursor_take_element_or_rest⟩)
    (c_Cursor_take_element_or_rest : PySem.W.codeIn K cd_Cursor_take_element_or_rest "Cursor.take_element_or_rest" = true)
    (k_Cursor_take_element_or_rest : PySem.W.keepIn K (.ref f_Cursor_take_element_or_rest) = true)
    (a_Cursor_take_body : PySem.W.findIn K (.ref c_Cursor) "take_body" = some (some (.ref f_Cursor_take_body)))
    (i_Cursor_take_body : PySem.W.isFn K (.ref f_Cursor_take_body) = true)
    (l_Cursor_take_body : K.lookup f_Cursor_take_body = some ⟨oc_Cursor_take_body, od_Cursor_take_body, .func (PySem.W.fnOf "take_body" "Cursor.take_body" (defArgs s_Cursor_take_body) (defBody s_Cursor_take_body) (defScope s_Cursor_take_body) .none kV_Cursor_take_body dc_Cursor_take_body pm_Cursor_take_body an_Cursor_take_body cd_Cursor_take_body ct_Cursor_take_body), sl_Cursor_take_body⟩)
    (c_Cursor_take_body : PySem.W.codeIn K cd_Cursor_take_body "Cursor.take_body" = true)
    (k_Cursor_take_body : PySem.W.keepIn K (.ref f_Cursor_take_body) = true)
    (a_Contents_init : PySem.W.findIn K (.ref c_Contents) "__init__" = some (some (.ref f_Contents_init)))
    (i_Contents_init : PySem.W.isFn K (.ref f_Contents_init) = true)
    (l_Contents_init : K.lookup f_Contents_init = some ⟨oc_Contents_init, od_Contents_init, .func (PySem.W.fnOf "__init__" "Contents.__init__" (defArgs s_Contents_init) (defBody s_Contents_init) (defScope s_Contents_init) .none kV_Contents_init dc_Contents_init pm_Contents_init an_Contents_init cd_Contents_init ct_Contents_init), sl_Contents_init⟩)
    (c_Contents_init : PySem.W.codeIn K cd_Contents_init "Contents.__init__" = true)
    (k_Contents_init : PySem.W.keepIn K (.ref f_Contents_init) = true)
    (a_Contents_all_named : PySem.W.findIn K (.ref c_Contents) "all_named" = some (some (.ref f_Contents_all_named)))
    (i_Contents_all_named : PySem.W.isFn K (.ref f_Contents_all_named) = true)
    (l_Contents_all_named : K.lookup f_Contents_all_named = some ⟨oc_Contents_all_named, od_Contents_all_named, .func (PySem.W.fnOf "all_named" "Contents.all_named" (defArgs s_Contents_all_named) (defBody s_Contents_all_named) (defScope s_Contents_all_named) .none kV_Contents_all_named dc_Contents_all_named pm_Contents_all_named an_Contents_all_named cd_Contents_all_named ct_Contents_all_named), sl_Contents_all_named⟩)
    (c_Contents_all_named : PySem.W.codeIn K cd_Contents_all_named "Contents.all_named" = true)
    (k_Contents_all_named : PySem.W.keepIn K (.ref f_Contents_all_named) = true)
    (a_Contents_at_most_once : PySem.W.findIn K (.ref c_Contents) "at_most_once" = some (some (.ref f_Contents_at_most_once)))
    (i_Contents_at_most_once : PySem.W.isFn K (.ref f_Contents_at_most_once) = true)
    (l_Contents_at_most_once : K.lookup f_Contents_at_most_once = some ⟨oc_Contents_at_most_once, od_Contents_at_most_once, .func (PySem.W.fnOf "at_most_once" "Contents.at_most_once" (defArgs s_Contents_at_most_once) (defBody s_Contents_at_most_once) (defScope s_Contents_at_most_once) .none kV_Contents_at_most_once dc_Contents_at_most_once pm_Contents_at_most_once an_Contents_at_most_once cd_Contents_at_most_once ct_Contents_at_most_once), sl_Contents_at_most_once⟩)
    (c_Contents_at_most_once : PySem.W.codeIn K cd_Contents_at_most_once "Contents.at_most_once" = true)
    (k_Contents_at_most_once : PySem.W.keepIn K (.ref f_Contents_at_most_once) = true)
    (a_Contents_once : PySem.W.findIn K (.ref c_Contents) "once" = some (some (.ref f_Contents_once)))
    (i_Contents_once : PySem.W.isFn K (.ref f_Contents_once) = true)
    (l_Contents_once : K.lookup f_Contents_once = some ⟨oc_Contents_once, od_Contents_once, .func (PySem.W.fnOf "once" "Contents.once" (defArgs s_Contents_once) (defBody s_Contents_once) (defScope s_Contents_once) .none kV_Contents_once dc_Contents_once pm_Contents_once an_Contents_once cd_Contents_once ct_Contents_once), sl_Contents_once⟩)
    (c_Contents_once : PySem.W.codeIn K cd_Contents_once "Contents.once" = true)
    (k_Contents_once : PySem.W.keepIn K (.ref f_Contents_once) = true)
    (a_Contents_number_once : PySem.W.findIn K (.ref c_Contents) "number_once" = some (some (.ref f_Contents_number_once)))
    (i_Contents_number_once : PySem.W.isFn K (.ref f_Contents_number_once) = true)
    (l_Contents_number_once : K.lookup f_Contents_number_once = some ⟨oc_Contents_number_once, od_Contents_number_once, .func (PySem.W.fnOf "number_once" "Contents.number_once" (defArgs s_Contents_number_once) (defBody s_Contents_number_once) (defScope s_Contents_number_once) .none kV_Contents_number_once dc_Contents_number_once pm_Contents_number_once an_Contents_number_once cd_Contents_number_once ct_Contents_number_once), sl_Contents_number_once⟩)
    (c_Contents_number_once : PySem.W.codeIn K cd_Contents_number_once "Contents.number_once" = true)
    (k_Contents_number_once : PySem.W.keepIn K (.ref f_Contents_number_once) = true)
    (a_Contents_number_or : PySem.W.findIn K (.ref c_Contents) "number_or" = some (some (.ref f_Contents_number_or)))
    (i_Contents_number_or : PySem.W.isFn K (.ref f_Contents_number_or) = true)
    (l_Contents_number_or : K.lookup f_Contents_number_or = some ⟨oc_Contents_number_or, od_Contents_number_or, .func (PySem.W.fnOf "number_or" "Contents.number_or" (defArgs s_Contents_number_or) (defBody s_Contents_number_or) (defScope s_Contents_number_or) .none kV_Contents_number_or dc_Contents_number_or pm_Contents_number_or an_Contents_number_or cd_Contents_number_or ct_Contents_number_or), sl_Contents_number_or⟩)
    (c_Contents_number_or : PySem.W.codeIn K cd_Contents_number_or "Contents.number_or" = true)
    (k_Contents_number_or : PySem.W.keepIn K (.ref f_Contents_number_or) = true)
    (a_take_children : PySem.W.nsIn K mainGlobals "take_children" = some (some (.ref f_take_children)))
    (l_take_children : K.lookup f_take_children = some ⟨oc_take_children, od_take_children, .func (PySem.W.fnOf "take_children" "take_children" (defArgs s_take_children) (defBody s_take_children) (defScope s_take_children) .none kV_take_children dc_take_children pm_take_children an_take_children cd_take_children ct_take_children), sl_take_children⟩)
    (c_take_children : PySem.W.codeIn K cd_take_children "take_children" = true)
    (k_take_children : PySem.W.keepIn K (.ref f_take_children) = true)
    (a_bounded_number : PySem.W.nsIn K mainGlobals "bounded_number" = some (some (.ref f_bounded_number)))
    (l_bounded_number : K.lookup f_bounded_number = some ⟨oc_bounded_number, od_bounded_number, .func (PySem.W.fnOf "bounded_number" "bounded_number" (defArgs s_bounded_number) (defBody s_bounded_number) (defScope s_bounded_number) .none kV_bounded_number dc_bounded_number pm_bounded_number an_bounded_number cd_bounded_number ct_bounded_number), sl_bounded_number⟩)
    (c_bounded_number : PySem.W.codeIn K cd_bounded_number "bounded_number" = true)
    (k_bounded_number : PySem.W.keepIn K (.ref f_bounded_number) = true)
    (a_check_before : PySem.W.nsIn K mainGlobals "check_before" = some (some (.ref f_check_before)))
    (l_check_before : K.lookup f_check_before = some ⟨oc_check_before, od_check_before, .func (PySem.W.fnOf "check_before" "check_before" (defArgs s_check_before) (defBody s_check_before) (defScope s_check_before) .none kV_check_before dc_check_before pm_check_before an_check_before cd_check_before ct_check_before), sl_check_before⟩)
    (c_check_before : PySem.W.codeIn K cd_check_before "check_before" = true)
    (k_check_before : PySem.W.keepIn K (.ref f_check_before) = true)
    (a_take_frame_lengths : PySem.W.nsIn K mainGlobals "take_frame_lengths" = some (some (.ref f_take_frame_lengths)))
    (l_take_frame_lengths : K.lookup f_take_frame_lengths = some ⟨oc_take_frame_lengths, od_take_frame_lengths, .func (PySem.W.fnOf "take_frame_lengths" "take_frame_lengths" (defArgs s_take_frame_lengths) (defBody s_take_frame_lengths) (defScope s_take_frame_lengths) .none kV_take_frame_lengths dc_take_frame_lengths pm_take_frame_lengths an_take_frame_lengths cd_take_frame_lengths ct_take_frame_lengths), sl_take_frame_lengths⟩)
    (c_take_frame_lengths : PySem.W.codeIn K cd_take_frame_lengths "take_frame_lengths" = true)
    (k_take_frame_lengths : PySem.W.keepIn K (.ref f_take_frame_lengths) = true)
    (a_equal_lengths : PySem.W.nsIn K mainGlobals "equal_lengths" = some (some (.ref f_equal_lengths)))
    (l_equal_lengths : K.lookup f_equal_lengths = some ⟨oc_equal_lengths, od_equal_lengths, .func (PySem.W.fnOf "equal_lengths" "equal_lengths" (defArgs s_equal_lengths) (defBody s_equal_lengths) (defScope s_equal_lengths) .none kV_equal_lengths dc_equal_lengths pm_equal_lengths an_equal_lengths cd_equal_lengths ct_equal_lengths), sl_equal_lengths⟩)
    (c_equal_lengths : PySem.W.codeIn K cd_equal_lengths "equal_lengths" = true)
    (k_equal_lengths : PySem.W.keepIn K (.ref f_equal_lengths) = true)
    (a_take_sums : PySem.W.nsIn K mainGlobals "take_sums" = some (some (.ref f_take_sums)))
    (l_take_sums : K.lookup f_take_sums = some ⟨oc_take_sums, od_take_sums, .func (PySem.W.fnOf "take_sums" "take_sums" (defArgs s_take_sums) (defBody s_take_sums) (defScope s_take_sums) .none kV_take_sums dc_take_sums pm_take_sums an_take_sums cd_take_sums ct_take_sums), sl_take_sums⟩)
    (c_take_sums : PySem.W.codeIn K cd_take_sums "take_sums" = true)
    (k_take_sums : PySem.W.keepIn K (.ref f_take_sums) = true)
    (a_take_sum : PySem.W.nsIn K mainGlobals "take_sum" = some (some (.ref f_take_sum)))
    (l_take_sum : K.lookup f_take_sum = some ⟨oc_take_sum, od_take_sum, .func (PySem.W.fnOf "take_sum" "take_sum" (defArgs s_take_sum) (defBody s_take_sum) (defScope s_take_sum) .none kV_take_sum dc_take_sum pm_take_sum an_take_sum cd_take_sum ct_take_sum), sl_take_sum⟩)
    (c_take_sum : PySem.W.codeIn K cd_take_sum "take_sum" = true)
    (k_take_sum : PySem.W.keepIn K (.ref f_take_sum) = true)
    (a_take_differences : PySem.W.nsIn K mainGlobals "take_differences" = some (some (.ref f_take_differences)))
    (l_take_differences : K.lookup f_take_differences = some ⟨oc_take_differences, od_take_differences, .func (PySem.W.fnOf "take_differences" "take_differences" (defArgs s_take_differences) (defBody s_take_differences) (defScope s_take_differences) .none kV_take_differences dc_take_differences pm_take_differences an_take_differences cd_take_differences ct_take_differences), sl_take_differences⟩)
    (c_take_differences : PySem.W.codeIn K cd_take_differences "take_differences" = true)
    (k_take_differences : PySem.W.keepIn K (.ref f_take_differences) = true)
    (a_with_last_length : PySem.W.nsIn K mainGlobals "with_last_length" = some (some (.ref f_with_last_length)))
    (l_with_last_length : K.lookup f_with_last_length = some ⟨oc_with_last_length, od_with_last_length, .func (PySem.W.fnOf "with_last_length" "with_last_length" (defArgs s_with_last_length) (defBody s_with_last_length) (defScope s_with_last_length) .none kV_with_last_length dc_with_last_length pm_with_last_length an_with_last_length cd_with_last_length ct_with_last_length), sl_with_last_length⟩)
    (c_with_last_length : PySem.W.codeIn K cd_with_last_length "with_last_length" = true)
    (k_with_last_length : PySem.W.keepIn K (.ref f_with_last_length) = true)
    (a_Block_init : PySem.W.findIn K (.ref c_Block) "__init__" = some (some (.ref f_Block_init)))
    (i_Block_init : PySem.W.isFn K (.ref f_Block_init) = true)
    (l_Block_init : K.lookup f_Block_init = some ⟨oc_Block_init, od_Block_init, .func (PySem.W.fnOf "__init__" "Block.__init__" (defArgs s_Block_init) (defBody s_Block_init) (defScope s_Block_init) .none kV_Block_init dc_Block_init pm_Block_init an_Block_init cd_Block_init ct_Block_init), sl_Block_init⟩)
    (c_Block_init : PySem.W.codeIn K cd_Block_init "Block.__init__" = true)
    (k_Block_init : PySem.W.keepIn K (.ref f_Block_init) = true)
    (a_read_cluster : PySem.W.nsIn K mainGlobals "read_cluster" = some (some (.ref f_read_cluster)))
    (l_read_cluster : K.lookup f_read_cluster = some ⟨oc_read_cluster, od_read_cluster, .func (PySem.W.fnOf "read_cluster" "read_cluster" (defArgs s_read_cluster) (defBody s_read_cluster) (defScope s_read_cluster) .none kV_read_cluster dc_read_cluster pm_read_cluster an_read_cluster cd_read_cluster ct_read_cluster), sl_read_cluster⟩)
    (c_read_cluster : PySem.W.codeIn K cd_read_cluster "read_cluster" = true)
    (k_read_cluster : PySem.W.keepIn K (.ref f_read_cluster) = true)
    (a_read_holder : PySem.W.nsIn K mainGlobals "read_holder" = some (some (.ref f_read_holder)))
    (l_read_holder : K.lookup f_read_holder = some ⟨oc_read_holder, od_read_holder, .func (PySem.W.fnOf "read_holder" "read_holder" (defArgs s_read_holder) (defBody s_read_holder) (defScope s_read_holder) .none kV_read_holder dc_read_holder pm_read_holder an_read_holder cd_read_holder ct_read_holder), sl_read_holder⟩)
    (c_read_holder : PySem.W.codeIn K cd_read_holder "read_holder" = true)
    (k_read_holder : PySem.W.keepIn K (.ref f_read_holder) = true)
    (a_read_block : PySem.W.nsIn K mainGlobals "read_block" = some (some (.ref f_read_block)))
    (l_read_block : K.lookup f_read_block = some ⟨oc_read_block, od_read_block, .func (PySem.W.fnOf "read_block" "read_block" (defArgs s_read_block) (defBody s_read_block) (defScope s_read_block) .none kV_read_block dc_read_block pm_read_block an_read_block cd_read_block ct_read_block), sl_read_block⟩)
    (c_read_block : PySem.W.codeIn K cd_read_block "read_block" = true)
    (k_read_block : PySem.W.keepIn K (.ref f_read_block) = true)
    (a_take_offset : PySem.W.nsIn K mainGlobals "take_offset" = some (some (.ref f_take_offset)))
    (l_take_offset : K.lookup f_take_offset = some ⟨oc_take_offset, od_take_offset, .func (PySem.W.fnOf "take_offset" "take_offset" (defArgs s_take_offset) (defBody s_take_offset) (defScope s_take_offset) .none kV_take_offset dc_take_offset pm_take_offset an_take_offset cd_take_offset ct_take_offset), sl_take_offset⟩)
    (c_take_offset : PySem.W.codeIn K cd_take_offset "take_offset" = true)
    (k_take_offset : PySem.W.keepIn K (.ref f_take_offset) = true)
    (a_check_header : PySem.W.nsIn K mainGlobals "check_header" = some (some (.ref f_check_header)))
    (l_check_header : K.lookup f_check_header = some ⟨oc_check_header, od_check_header, .func (PySem.W.fnOf "check_header" "check_header" (defArgs s_check_header) (defBody s_check_header) (defScope s_check_header) .none kV_check_header dc_check_header pm_check_header an_check_header cd_check_header ct_check_header), sl_check_header⟩)
    (c_check_header : PySem.W.codeIn K cd_check_header "check_header" = true)
    (k_check_header : PySem.W.keepIn K (.ref f_check_header) = true)
    (a_Picture_init : PySem.W.findIn K (.ref c_Picture) "__init__" = some (some (.ref f_Picture_init)))
    (i_Picture_init : PySem.W.isFn K (.ref f_Picture_init) = true)
    (l_Picture_init : K.lookup f_Picture_init = some ⟨oc_Picture_init, od_Picture_init, .func (PySem.W.fnOf "__init__" "Picture.__init__" (defArgs s_Picture_init) (defBody s_Picture_init) (defScope s_Picture_init) .none kV_Picture_init dc_Picture_init pm_Picture_init an_Picture_init cd_Picture_init ct_Picture_init), sl_Picture_init⟩)
    (c_Picture_init : PySem.W.codeIn K cd_Picture_init "Picture.__init__" = true)
    (k_Picture_init : PySem.W.keepIn K (.ref f_Picture_init) = true)
    (a_Track_init : PySem.W.findIn K (.ref c_Track) "__init__" = some (some (.ref f_Track_init)))
    (i_Track_init : PySem.W.isFn K (.ref f_Track_init) = true)
    (l_Track_init : K.lookup f_Track_init = some ⟨oc_Track_init, od_Track_init, .func (PySem.W.fnOf "__init__" "Track.__init__" (defArgs s_Track_init) (defBody s_Track_init) (defScope s_Track_init) .none kV_Track_init dc_Track_init pm_Track_init an_Track_init cd_Track_init ct_Track_init), sl_Track_init⟩)
    (c_Track_init : PySem.W.codeIn K cd_Track_init "Track.__init__" = true)
    (k_Track_init : PySem.W.keepIn K (.ref f_Track_init) = true)
    (a_read_tracks : PySem.W.nsIn K mainGlobals "read_tracks" = some (some (.ref f_read_tracks)))
    (l_read_tracks : K.lookup f_read_tracks = some ⟨oc_read_tracks, od_read_tracks, .func (PySem.W.fnOf "read_tracks" "read_tracks" (defArgs s_read_tracks) (defBody s_read_tracks) (defScope s_read_tracks) .none kV_read_tracks dc_read_tracks pm_read_tracks an_read_tracks cd_read_tracks ct_read_tracks), sl_read_tracks⟩)
    (c_read_tracks : PySem.W.codeIn K cd_read_tracks "read_tracks" = true)
    (k_read_tracks : PySem.W.keepIn K (.ref f_read_tracks) = true)
    (a_read_track : PySem.W.nsIn K mainGlobals "read_track" = some (some (.ref f_read_track)))
    (l_read_track : K.lookup f_read_track = some ⟨oc_read_track, od_read_track, .func (PySem.W.fnOf "read_track" "read_track" (defArgs s_read_track) (defBody s_read_track) (defScope s_read_track) .none kV_read_track dc_read_track pm_read_track an_read_track cd_read_track ct_read_track), sl_read_track⟩)
    (c_read_track : PySem.W.codeIn K cd_read_track "read_track" = true)
    (k_read_track : PySem.W.keepIn K (.ref f_read_track) = true)
    (a_check_codec : PySem.W.nsIn K mainGlobals "check_codec" = some (some (.ref f_check_codec)))
    (l_check_codec : K.lookup f_check_codec = some ⟨oc_check_codec, od_check_codec, .func (PySem.W.fnOf "check_codec" "check_codec" (defArgs s_check_codec) (defBody s_check_codec) (defScope s_check_codec) .none kV_check_codec dc_check_codec pm_check_codec an_check_codec cd_check_codec ct_check_codec), sl_check_codec⟩)
    (c_check_codec : PySem.W.codeIn K cd_check_codec "check_codec" = true)
    (k_check_codec : PySem.W.keepIn K (.ref f_check_codec) = true)
    (a_read_picture : PySem.W.nsIn K mainGlobals "read_picture" = some (some (.ref f_read_picture)))
    (l_read_picture : K.lookup f_read_picture = some ⟨oc_read_picture, od_read_picture, .func (PySem.W.fnOf "read_picture" "read_picture" (defArgs s_read_picture) (defBody s_read_picture) (defScope s_read_picture) .none kV_read_picture dc_read_picture pm_read_picture an_read_picture cd_read_picture ct_read_picture), sl_read_picture⟩)
    (c_read_picture : PySem.W.codeIn K cd_read_picture "read_picture" = true)
    (k_read_picture : PySem.W.keepIn K (.ref f_read_picture) = true)
    (a_read_channels : PySem.W.nsIn K mainGlobals "read_channels" = some (some (.ref f_read_channels)))
    (l_read_channels : K.lookup f_read_channels = some ⟨oc_read_channels, od_read_channels, .func (PySem.W.fnOf "read_channels" "read_channels" (defArgs s_read_channels) (defBody s_read_channels) (defScope s_read_channels) .none kV_read_channels dc_read_channels pm_read_channels an_read_channels cd_read_channels ct_read_channels), sl_read_channels⟩)
    (c_read_channels : PySem.W.codeIn K cd_read_channels "read_channels" = true)
    (k_read_channels : PySem.W.keepIn K (.ref f_read_channels) = true)
    (a_Film_init : PySem.W.findIn K (.ref c_Film) "__init__" = some (some (.ref f_Film_init)))
    (i_Film_init : PySem.W.isFn K (.ref f_Film_init) = true)
    (l_Film_init : K.lookup f_Film_init = some ⟨oc_Film_init, od_Film_init, .func (PySem.W.fnOf "__init__" "Film.__init__" (defArgs s_Film_init) (defBody s_Film_init) (defScope s_Film_init) .none kV_Film_init dc_Film_init pm_Film_init an_Film_init cd_Film_init ct_Film_init), sl_Film_init⟩)
    (c_Film_init : PySem.W.codeIn K cd_Film_init "Film.__init__" = true)
    (k_Film_init : PySem.W.keepIn K (.ref f_Film_init) = true)
    (a_Film_blocks : PySem.W.findIn K (.ref c_Film) "blocks" = some (some (.ref f_Film_blocks)))
    (i_Film_blocks : PySem.W.isFn K (.ref f_Film_blocks) = true)
    (l_Film_blocks : K.lookup f_Film_blocks = some ⟨oc_Film_blocks, od_Film_blocks, .func (PySem.W.fnOf "blocks" "Film.blocks" (defArgs s_Film_blocks) (defBody s_Film_blocks) (defScope s_Film_blocks) .none kV_Film_blocks dc_Film_blocks pm_Film_blocks an_Film_blocks cd_Film_blocks ct_Film_blocks), sl_Film_blocks⟩)
    (c_Film_blocks : PySem.W.codeIn K cd_Film_blocks "Film.blocks" = true)
    (k_Film_blocks : PySem.W.keepIn K (.ref f_Film_blocks) = true)
    (a_read_film : PySem.W.nsIn K mainGlobals "read_film" = some (some (.ref f_read_film)))
    (l_read_film : K.lookup f_read_film = some ⟨oc_read_film, od_read_film, .func (PySem.W.fnOf "read_film" "read_film" (defArgs s_read_film) (defBody s_read_film) (defScope s_read_film) .none kV_read_film dc_read_film pm_read_film an_read_film cd_read_film ct_read_film), sl_read_film⟩)
    (c_read_film : PySem.W.codeIn K cd_read_film "read_film" = true)
    (k_read_film : PySem.W.keepIn K (.ref f_read_film) = true)
    (a_read_body : PySem.W.nsIn K mainGlobals "read_body" = some (some (.ref f_read_body)))
    (l_read_body : K.lookup f_read_body = some ⟨oc_read_body, od_read_body, .func (PySem.W.fnOf "read_body" "read_body" (defArgs s_read_body) (defBody s_read_body) (defScope s_read_body) .none kV_read_body dc_read_body pm_read_body an_read_body cd_read_body ct_read_body), sl_read_body⟩)
    (c_read_body : PySem.W.codeIn K cd_read_body "read_body" = true)
    (k_read_body : PySem.W.keepIn K (.ref f_read_body) = true)
    (a_read_scale : PySem.W.nsIn K mainGlobals "read_scale" = some (some (.ref f_read_scale)))
    (l_read_scale : K.lookup f_read_scale = some ⟨oc_read_scale, od_read_scale, .func (PySem.W.fnOf "read_scale" "read_scale" (defArgs s_read_scale) (defBody s_read_scale) (defScope s_read_scale) .none kV_read_scale dc_read_scale pm_read_scale an_read_scale cd_read_scale ct_read_scale), sl_read_scale⟩)
    (c_read_scale : PySem.W.codeIn K cd_read_scale "read_scale" = true)
    (k_read_scale : PySem.W.keepIn K (.ref f_read_scale) = true)
    (a_frame : PySem.W.nsIn K mainGlobals "frame" = some (some (.ref f_frame)))
    (l_frame : K.lookup f_frame = some ⟨oc_frame, od_frame, .func (PySem.W.fnOf "frame" "frame" (defArgs s_frame) (defBody s_frame) (defScope s_frame) .none kV_frame dc_frame pm_frame an_frame cd_frame ct_frame), sl_frame⟩)
    (c_frame : PySem.W.codeIn K cd_frame "frame" = true)
    (k_frame : PySem.W.keepIn K (.ref f_frame) = true)
    (a_tell_frame : PySem.W.nsIn K mainGlobals "tell_frame" = some (some (.ref f_tell_frame)))
    (l_tell_frame : K.lookup f_tell_frame = some ⟨oc_tell_frame, od_tell_frame, .func (PySem.W.fnOf "tell_frame" "tell_frame" (defArgs s_tell_frame) (defBody s_tell_frame) (defScope s_tell_frame) .none kV_tell_frame dc_tell_frame pm_tell_frame an_tell_frame cd_tell_frame ct_tell_frame), sl_tell_frame⟩)
    (c_tell_frame : PySem.W.codeIn K cd_tell_frame "tell_frame" = true)
    (k_tell_frame : PySem.W.keepIn K (.ref f_tell_frame) = true)
    (a_film_or_none : PySem.W.nsIn K mainGlobals "film_or_none" = some (some (.ref f_film_or_none)))
    (l_film_or_none : K.lookup f_film_or_none = some ⟨oc_film_or_none, od_film_or_none, .func (PySem.W.fnOf "film_or_none" "film_or_none" (defArgs s_film_or_none) (defBody s_film_or_none) (defScope s_film_or_none) .none kV_film_or_none dc_film_or_none pm_film_or_none an_film_or_none cd_film_or_none ct_film_or_none), sl_film_or_none⟩)
    (c_film_or_none : PySem.W.codeIn K cd_film_or_none "film_or_none" = true)
    (k_film_or_none : PySem.W.keepIn K (.ref f_film_or_none) = true)
    (a_tell : PySem.W.nsIn K mainGlobals "tell" = some (some (.ref f_tell)))
    (l_tell : K.lookup f_tell = some ⟨oc_tell, od_tell, .func (PySem.W.fnOf "tell" "tell" (defArgs s_tell) (defBody s_tell) (defScope s_tell) .none kV_tell dc_tell pm_tell an_tell cd_tell ct_tell), sl_tell⟩)
    (c_tell : PySem.W.codeIn K cd_tell "tell" = true)
    (k_tell : PySem.W.keepIn K (.ref f_tell) = true)
    (n_LONGEST_NAME : PySem.W.nsIn K mainGlobals "LONGEST_NAME" = some (some (.int 4 tk_LONGEST_NAME)))
    (n_LONGEST_LENGTH : PySem.W.nsIn K mainGlobals "LONGEST_LENGTH" = some (some (.int 8 tk_LONGEST_LENGTH)))
    (n_ALL_ONES : PySem.W.nsIn K mainGlobals "ALL_ONES" = some (some (.ref a_ALL_ONES)))
    (t_ALL_ONES : K.lookup a_ALL_ONES = some ⟨.type "tuple", odt_ALL_ONES, .seq #[.int 0 tk_ALL_ONES_0, .int 127 tk_ALL_ONES_1, .int 16383 tk_ALL_ONES_2, .int 2097151 tk_ALL_ONES_3, .int 268435455 tk_ALL_ONES_4, .int 34359738367 tk_ALL_ONES_5, .int 4398046511103 tk_ALL_ONES_6, .int 562949953421311 tk_ALL_ONES_7, .int 72057594037927935 tk_ALL_ONES_8] nt_ALL_ONES, slt_ALL_ONES⟩)
    (n_LONGEST_NUMBER : PySem.W.nsIn K mainGlobals "LONGEST_NUMBER" = some (some (.int 8 tk_LONGEST_NUMBER)))
    (n_GREATEST_NUMBER : PySem.W.nsIn K mainGlobals "GREATEST_NUMBER" = some (some (.int 18446744073709551615 tk_GREATEST_NUMBER)))
    (n_LACING_BITS : PySem.W.nsIn K mainGlobals "LACING_BITS" = some (some (.int 6 tk_LACING_BITS)))
    (n_NO_LACING : PySem.W.nsIn K mainGlobals "NO_LACING" = some (some (.int 0 tk_NO_LACING)))
    (n_BY_SUMS : PySem.W.nsIn K mainGlobals "BY_SUMS" = some (some (.int 2 tk_BY_SUMS)))
    (n_BY_EQUAL_PARTS : PySem.W.nsIn K mainGlobals "BY_EQUAL_PARTS" = some (some (.int 4 tk_BY_EQUAL_PARTS)))
    (n_TIME : PySem.W.nsIn K mainGlobals "TIME" = some (some (.int 231 tk_TIME)))
    (n_SIMPLE_BLOCK : PySem.W.nsIn K mainGlobals "SIMPLE_BLOCK" = some (some (.int 163 tk_SIMPLE_BLOCK)))
    (n_BLOCK_GROUP : PySem.W.nsIn K mainGlobals "BLOCK_GROUP" = some (some (.int 160 tk_BLOCK_GROUP)))
    (n_GROUPED_BLOCK : PySem.W.nsIn K mainGlobals "GROUPED_BLOCK" = some (some (.int 161 tk_GROUPED_BLOCK)))
    (n_REFERENCE : PySem.W.nsIn K mainGlobals "REFERENCE" = some (some (.int 251 tk_REFERENCE)))
    (n_LATEST_TIME : PySem.W.nsIn K mainGlobals "LATEST_TIME" = some (some (.int 281474976710656 tk_LATEST_TIME)))
    (n_LONGEST_TRACK_NUMBER : PySem.W.nsIn K mainGlobals "LONGEST_TRACK_NUMBER" = some (some (.int 2 tk_LONGEST_TRACK_NUMBER)))
    (n_KEY_BIT : PySem.W.nsIn K mainGlobals "KEY_BIT" = some (some (.int 128 tk_KEY_BIT)))
    (n_FORM : PySem.W.nsIn K mainGlobals "FORM" = some (some (.int 17026 tk_FORM)))
    (n_READ_VERSION : PySem.W.nsIn K mainGlobals "READ_VERSION" = some (some (.int 17143 tk_READ_VERSION)))
    (n_NAME_BYTES : PySem.W.nsIn K mainGlobals "NAME_BYTES" = some (some (.int 17138 tk_NAME_BYTES)))
    (n_LENGTH_BYTES : PySem.W.nsIn K mainGlobals "LENGTH_BYTES" = some (some (.int 17139 tk_LENGTH_BYTES)))
    (n_FORM_READ_VERSION : PySem.W.nsIn K mainGlobals "FORM_READ_VERSION" = some (some (.int 17029 tk_FORM_READ_VERSION)))
    (n_MATROSKA : PySem.W.nsIn K mainGlobals "MATROSKA" = some (some (.ref a_MATROSKA)))
    (t_MATROSKA : K.lookup a_MATROSKA = some ⟨.type "tuple", odt_MATROSKA, .seq #[.int 109 tk_MATROSKA_0, .int 97 tk_MATROSKA_1, .int 116 tk_MATROSKA_2, .int 114 tk_MATROSKA_3, .int 111 tk_MATROSKA_4, .int 115 tk_MATROSKA_5, .int 107 tk_MATROSKA_6, .int 97 tk_MATROSKA_7] nt_MATROSKA, slt_MATROSKA⟩)
    (n_WEBM : PySem.W.nsIn K mainGlobals "WEBM" = some (some (.ref a_WEBM)))
    (t_WEBM : K.lookup a_WEBM = some ⟨.type "tuple", odt_WEBM, .seq #[.int 119 tk_WEBM_0, .int 101 tk_WEBM_1, .int 98 tk_WEBM_2, .int 109 tk_WEBM_3] nt_WEBM, slt_WEBM⟩)
    (n_TRACK : PySem.W.nsIn K mainGlobals "TRACK" = some (some (.int 174 tk_TRACK)))
    (n_NUMBER : PySem.W.nsIn K mainGlobals "NUMBER" = some (some (.int 215 tk_NUMBER)))
    (n_LASTING_NUMBER : PySem.W.nsIn K mainGlobals "LASTING_NUMBER" = some (some (.int 29637 tk_LASTING_NUMBER)))
    (n_KIND : PySem.W.nsIn K mainGlobals "KIND" = some (some (.int 131 tk_KIND)))
    (n_CODEC : PySem.W.nsIn K mainGlobals "CODEC" = some (some (.int 134 tk_CODEC)))
    (n_PICTURE : PySem.W.nsIn K mainGlobals "PICTURE" = some (some (.int 224 tk_PICTURE)))
    (n_WIDTH : PySem.W.nsIn K mainGlobals "WIDTH" = some (some (.int 176 tk_WIDTH)))
    (n_HEIGHT : PySem.W.nsIn K mainGlobals "HEIGHT" = some (some (.int 186 tk_HEIGHT)))
    (n_SOUND : PySem.W.nsIn K mainGlobals "SOUND" = some (some (.int 225 tk_SOUND)))
    (n_CHANNELS : PySem.W.nsIn K mainGlobals "CHANNELS" = some (some (.int 159 tk_CHANNELS)))
    (n_LONGEST_CODEC : PySem.W.nsIn K mainGlobals "LONGEST_CODEC" = some (some (.int 64 tk_LONGEST_CODEC)))
    (n_HEADER : PySem.W.nsIn K mainGlobals "HEADER" = some (some (.int 440786851 tk_HEADER)))
    (n_BODY : PySem.W.nsIn K mainGlobals "BODY" = some (some (.int 408125543 tk_BODY)))
    (n_ABOUT : PySem.W.nsIn K mainGlobals "ABOUT" = some (some (.int 357149030 tk_ABOUT)))
    (n_SCALE : PySem.W.nsIn K mainGlobals "SCALE" = some (some (.int 2807729 tk_SCALE)))
    (n_TRACKS : PySem.W.nsIn K mainGlobals "TRACKS" = some (some (.int 374648427 tk_TRACKS)))
    (n_CLUSTER : PySem.W.nsIn K mainGlobals "CLUSTER" = some (some (.int 524531317 tk_CLUSTER)))
    (n_USUAL_SCALE : PySem.W.nsIn K mainGlobals "USUAL_SCALE" = some (some (.int 1000000 tk_USUAL_SCALE)))
    (n_FILE_NOT_RIGHT : PySem.W.nsIn K mainGlobals "FILE_NOT_RIGHT" = some (some (.int (-1) tk_FILE_NOT_RIGHT)))
    (n_NOT_THERE : PySem.W.nsIn K mainGlobals "NOT_THERE" = some (some (.int (-2) tk_NOT_THERE)))
    (n_TOO_LONG : PySem.W.nsIn K mainGlobals "TOO_LONG" = some (some (.int (-3) tk_TOO_LONG)))
    (b_len : PySem.W.nsIn K mainGlobals "len" = some none)
    (b_min : PySem.W.nsIn K mainGlobals "min" = some none)
    (b_range : PySem.W.nsIn K mainGlobals "range" = some none)
    (b_sum : PySem.W.nsIn K mainGlobals "sum" = some none)
    (b_tuple : PySem.W.nsIn K mainGlobals "tuple" = some none) : ∃ t : Adr, Txt K mg t := by
  refine ⟨⟨c_NotRight, c_LengthNumber, c_Element, c_Cursor, c_Contents, c_Block, c_Picture, c_Track, c_Film, f_join_bytes, (PySem.W.fnOf "join_bytes" "join_bytes" (defArgs s_join_bytes) (defBody s_join_bytes) (defScope s_join_bytes) .none kV_join_bytes dc_join_bytes pm_join_bytes an_join_bytes cd_join_bytes ct_join_bytes), f_LengthNumber_init, (PySem.W.fnOf "__init__" "LengthNumber.__init__" (defArgs s_LengthNumber_init) (defBody s_LengthNumber_init) (defScope s_LengthNumber_init) .none kV_LengthNumber_init dc_LengthNumber_init pm_LengthNumber_init an_LengthNumber_init cd_LengthNumber_init ct_LengthNumber_init), f_LengthNumber_is_all_ones, (PySem.W.fnOf "is_all_ones" "LengthNumber.is_all_ones" (defArgs s_LengthNumber_is_all_ones) (defBody s_LengthNumber_is_all_ones) (defScope s_LengthNumber_is_all_ones) .none kV_LengthNumber_is_all_ones dc_LengthNumber_is_all_ones pm_LengthNumber_is_all_ones an_LengthNumber_is_all_ones cd_LengthNumber_is_all_ones ct_LengthNumber_is_all_ones), f_Element_init, (PySem.W.fnOf "__init__" "Element.__init__" (defArgs s_Element_init) (defBody s_Element_init) (defScope s_Element_init) .none kV_Element_init dc_Element_init pm_Element_init an_Element_init cd_Element_init ct_Element_init), f_Cursor_init, (PySem.W.fnOf "__init__" "Cursor.__init__" (defArgs s_Cursor_init) (defBody s_Cursor_init) (defScope s_Cursor_init) .none kV_Cursor_init dc_Cursor_init pm_Cursor_init an_Cursor_init cd_Cursor_init ct_Cursor_init), f_Cursor_bytes_left, (PySem.W.fnOf "bytes_left" "Cursor.bytes_left" (defArgs s_Cursor_bytes_left) (defBody s_Cursor_bytes_left) (defScope s_Cursor_bytes_left) .none kV_Cursor_bytes_left dc_Cursor_bytes_left pm_Cursor_bytes_left an_Cursor_bytes_left cd_Cursor_bytes_left ct_Cursor_bytes_left), f_Cursor_skip, (PySem.W.fnOf "skip" "Cursor.skip" (defArgs s_Cursor_skip) (defBody s_Cursor_skip) (defScope s_Cursor_skip) .none kV_Cursor_skip dc_Cursor_skip pm_Cursor_skip an_Cursor_skip cd_Cursor_skip ct_Cursor_skip), f_Cursor_take_byte, (PySem.W.fnOf "take_byte" "Cursor.take_byte" (defArgs s_Cursor_take_byte) (defBody s_Cursor_take_byte) (defScope s_Cursor_take_byte) .none kV_Cursor_take_byte dc_Cursor_take_byte pm_Cursor_take_byte an_Cursor_take_byte cd_Cursor_take_byte ct_Cursor_take_byte), f_Cursor_take_length_number, (PySem.W.fnOf "take_length_number" "Cursor.take_length_number" (defArgs s_Cursor_take_length_number) (defBody s_Cursor_take_length_number) (defScope s_Cursor_take_length_number) .none kV_Cursor_take_length_number dc_Cursor_take_length_number pm_Cursor_take_length_number an_Cursor_take_length_number cd_Cursor_take_length_number ct_Cursor_take_length_number), f_Cursor_take_known_number, (PySem.W.fnOf "take_known_number" "Cursor.take_known_number" (defArgs s_Cursor_take_known_number) (defBody s_Cursor_take_known_number) (defScope s_Cursor_take_known_number) .none kV_Cursor_take_known_number dc_Cursor_take_known_number pm_Cursor_take_known_number an_Cursor_take_known_number cd_Cursor_take_known_number ct_Cursor_take_known_number), f_Cursor_take_name, (PySem.W.fnOf "take_name" "Cursor.take_name" (defArgs s_Cursor_take_name) (defBody s_Cursor_take_name) (defScope s_Cursor_take_name) .none kV_Cursor_take_name dc_Cursor_take_name pm_Cursor_take_name an_Cursor_take_name cd_Cursor_take_name ct_Cursor_take_name), f_Cursor_take_element, (PySem.W.fnOf "take_element" "Cursor.take_element" (defArgs s_Cursor_take_element) (defBody s_Cursor_take_element) (defScope s_Cursor_take_element) .none kV_Cursor_take_element dc_Cursor_take_element pm_Cursor_take_element an_Cursor_take_element cd_Cursor_take_element ct_Cursor_take_element), f_Cursor_take_element_or_rest, (PySem.W.fnOf "take_element_or_rest" "Cursor.take_element_or_rest" (defArgs s_Cursor_take_element_or_rest) (defBody s_Cursor_take_element_or_rest) (defScope s_Cursor_take_element_or_rest) .none kV_Cursor_take_element_or_rest dc_Cursor_take_element_or_rest pm_Cursor_take_element_or_rest an_Cursor_take_element_or_rest cd_Cursor_take_element_or_rest ct_Cursor_take_element_or_rest), f_Cursor_take_body, (PySem.W.fnOf "take_body" "Cursor.take_body" (defArgs s_Cursor_take_body) (defBody s_Cursor_take_body) (defScope s_Cursor_take_body) .none kV_Cursor_take_body dc_Cursor_take_body pm_Cursor_take_body an_Cursor_take_body cd_Cursor_take_body ct_Cursor_take_body), f_Contents_init, (PySem.W.fnOf "__init__" "Contents.__init__" (defArgs s_Contents_init) (defBody s_Contents_init) (defScope s_Contents_init) .none kV_Contents_init dc_Contents_init pm_Contents_init an_Contents_init cd_Contents_init ct_Contents_init), f_Contents_all_named, (PySem.W.fnOf "all_named" "Contents.all_named" (defArgs s_Contents_all_named) (defBody s_Contents_all_named) (defScope s_Contents_all_named) .none kV_Contents_all_named dc_Contents_all_named pm_Contents_all_named an_Contents_all_named cd_Contents_all_named ct_Contents_all_named), f_Contents_at_most_once, (PySem.W.fnOf "at_most_once" "Contents.at_most_once" (defArgs s_Contents_at_most_once) (defBody s_Contents_at_most_once) (defScope s_Contents_at_most_once) .none kV_Contents_at_most_once dc_Contents_at_most_once pm_Contents_at_most_once an_Contents_at_most_once cd_Contents_at_most_once ct_Contents_at_most_once), f_Contents_once, (PySem.W.fnOf "once" "Contents.once" (defArgs s_Contents_once) (defBody s_Contents_once) (defScope s_Contents_once) .none kV_Contents_once dc_Contents_once pm_Contents_once an_Contents_once cd_Contents_once ct_Contents_once), f_Contents_number_once, (PySem.W.fnOf "number_once" "Contents.number_once" (defArgs s_Contents_number_once) (defBody s_Contents_number_once) (defScope s_Contents_number_once) .none kV_Contents_number_once dc_Contents_number_once pm_Contents_number_once an_Contents_number_once cd_Contents_number_once ct_Contents_number_once), f_Contents_number_or, (PySem.W.fnOf "number_or" "Contents.number_or" (defArgs s_Contents_number_or) (defBody s_Contents_number_or) (defScope s_Contents_number_or) .none kV_Contents_number_or dc_Contents_number_or pm_Contents_number_or an_Contents_number_or cd_Contents_number_or ct_Contents_number_or), f_take_children, (PySem.W.fnOf "take_children" "take_children" (defArgs s_take_children) (defBody s_take_children) (defScope s_take_children) .none kV_take_children dc_take_children pm_take_children an_take_children cd_take_children ct_take_children), f_bounded_number, (PySem.W.fnOf "bounded_number" "bounded_number" (defArgs s_bounded_number) (defBody s_bounded_number) (defScope s_bounded_number) .none kV_bounded_number dc_bounded_number pm_bounded_number an_bounded_number cd_bounded_number ct_bounded_number), f_check_before, (PySem.W.fnOf "check_before" "check_before" (defArgs s_check_before) (defBody s_check_before) (defScope s_check_before) .none kV_check_before dc_check_before pm_check_before an_check_before cd_check_before ct_check_before), f_take_frame_lengths, (PySem.W.fnOf "take_frame_lengths" "take_frame_lengths" (defArgs s_take_frame_lengths) (defBody s_take_frame_lengths) (defScope s_take_frame_lengths) .none kV_take_frame_lengths dc_take_frame_lengths pm_take_frame_lengths an_take_frame_lengths cd_take_frame_lengths ct_take_frame_lengths), f_equal_lengths, (PySem.W.fnOf "equal_lengths" "equal_lengths" (defArgs s_equal_lengths) (defBody s_equal_lengths) (defScope s_equal_lengths) .none kV_equal_lengths dc_equal_lengths pm_equal_lengths an_equal_lengths cd_equal_lengths ct_equal_lengths), f_take_sums, (PySem.W.fnOf "take_sums" "take_sums" (defArgs s_take_sums) (defBody s_take_sums) (defScope s_take_sums) .none kV_take_sums dc_take_sums pm_take_sums an_take_sums cd_take_sums ct_take_sums), f_take_sum, (PySem.W.fnOf "take_sum" "take_sum" (defArgs s_take_sum) (defBody s_take_sum) (defScope s_take_sum) .none kV_take_sum dc_take_sum pm_take_sum an_take_sum cd_take_sum ct_take_sum), f_take_differences, (PySem.W.fnOf "take_differences" "take_differences" (defArgs s_take_differences) (defBody s_take_differences) (defScope s_take_differences) .none kV_take_differences dc_take_differences pm_take_differences an_take_differences cd_take_differences ct_take_differences), f_with_last_length, (PySem.W.fnOf "with_last_length" "with_last_length" (defArgs s_with_last_length) (defBody s_with_last_length) (defScope s_with_last_length) .none kV_with_last_length dc_with_last_length pm_with_last_length an_with_last_length cd_with_last_length ct_with_last_length), f_Block_init, (PySem.W.fnOf "__init__" "Block.__init__" (defArgs s_Block_init) (defBody s_Block_init) (defScope s_Block_init) .none kV_Block_init dc_Block_init pm_Block_init an_Block_init cd_Block_init ct_Block_init), f_read_cluster, (PySem.W.fnOf "read_cluster" "read_cluster" (defArgs s_read_cluster) (defBody s_read_cluster) (defScope s_read_cluster) .none kV_read_cluster dc_read_cluster pm_read_cluster an_read_cluster cd_read_cluster ct_read_cluster), f_read_holder, (PySem.W.fnOf "read_holder" "read_holder" (defArgs s_read_holder) (defBody s_read_holder) (defScope s_read_holder) .none kV_read_holder dc_read_holder pm_read_holder an_read_holder cd_read_holder ct_read_holder), f_read_block, (PySem.W.fnOf "read_block" "read_block" (defArgs s_read_block) (defBody s_read_block) (defScope s_read_block) .none kV_read_block dc_read_block pm_read_block an_read_block cd_read_block ct_read_block), f_take_offset, (PySem.W.fnOf "take_offset" "take_offset" (defArgs s_take_offset) (defBody s_take_offset) (defScope s_take_offset) .none kV_take_offset dc_take_offset pm_take_offset an_take_offset cd_take_offset ct_take_offset), f_check_header, (PySem.W.fnOf "check_header" "check_header" (defArgs s_check_header) (defBody s_check_header) (defScope s_check_header) .none kV_check_header dc_check_header pm_check_header an_check_header cd_check_header ct_check_header), f_Picture_init, (PySem.W.fnOf "__init__" "Picture.__init__" (defArgs s_Picture_init) (defBody s_Picture_init) (defScope s_Picture_init) .none kV_Picture_init dc_Picture_init pm_Picture_init an_Picture_init cd_Picture_init ct_Picture_init), f_Track_init, (PySem.W.fnOf "__init__" "Track.__init__" (defArgs s_Track_init) (defBody s_Track_init) (defScope s_Track_init) .none kV_Track_init dc_Track_init pm_Track_init an_Track_init cd_Track_init ct_Track_init), f_read_tracks, (PySem.W.fnOf "read_tracks" "read_tracks" (defArgs s_read_tracks) (defBody s_read_tracks) (defScope s_read_tracks) .none kV_read_tracks dc_read_tracks pm_read_tracks an_read_tracks cd_read_tracks ct_read_tracks), f_read_track, (PySem.W.fnOf "read_track" "read_track" (defArgs s_read_track) (defBody s_read_track) (defScope s_read_track) .none kV_read_track dc_read_track pm_read_track an_read_track cd_read_track ct_read_track), f_check_codec, (PySem.W.fnOf "check_codec" "check_codec" (defArgs s_check_codec) (defBody s_check_codec) (defScope s_check_codec) .none kV_check_codec dc_check_codec pm_check_codec an_check_codec cd_check_codec ct_check_codec), f_read_picture, (PySem.W.fnOf "read_picture" "read_picture" (defArgs s_read_picture) (defBody s_read_picture) (defScope s_read_picture) .none kV_read_picture dc_read_picture pm_read_picture an_read_picture cd_read_picture ct_read_picture), f_read_channels, (PySem.W.fnOf "read_channels" "read_channels" (defArgs s_read_channels) (defBody s_read_channels) (defScope s_read_channels) .none kV_read_channels dc_read_channels pm_read_channels an_read_channels cd_read_channels ct_read_channels), f_Film_init, (PySem.W.fnOf "__init__" "Film.__init__" (defArgs s_Film_init) (defBody s_Film_init) (defScope s_Film_init) .none kV_Film_init dc_Film_init pm_Film_init an_Film_init cd_Film_init ct_Film_init), f_Film_blocks, (PySem.W.fnOf "blocks" "Film.blocks" (defArgs s_Film_blocks) (defBody s_Film_blocks) (defScope s_Film_blocks) .none kV_Film_blocks dc_Film_blocks pm_Film_blocks an_Film_blocks cd_Film_blocks ct_Film_blocks), f_read_film, (PySem.W.fnOf "read_film" "read_film" (defArgs s_read_film) (defBody s_read_film) (defScope s_read_film) .none kV_read_film dc_read_film pm_read_film an_read_film cd_read_film ct_read_film), f_read_body, (PySem.W.fnOf "read_body" "read_body" (defArgs s_read_body) (defBody s_read_body) (defScope s_read_body) .none kV_read_body dc_read_body pm_read_body an_read_body cd_read_body ct_read_body), f_read_scale, (PySem.W.fnOf "read_scale" "read_scale" (defArgs s_read_scale) (defBody s_read_scale) (defScope s_read_scale) .none kV_read_scale dc_read_scale pm_read_scale an_read_scale cd_read_scale ct_read_scale), f_frame, (PySem.W.fnOf "frame" "frame" (defArgs s_frame) (defBody s_frame) (defScope s_frame) .none kV_frame dc_frame pm_frame an_frame cd_frame ct_frame), f_tell_frame, (PySem.W.fnOf "tell_frame" "tell_frame" (defArgs s_tell_frame) (defBody s_tell_frame) (defScope s_tell_frame) .none kV_tell_frame dc_tell_frame pm_tell_frame an_tell_frame cd_tell_frame ct_tell_frame), f_film_or_none, (PySem.W.fnOf "film_or_none" "film_or_none" (defArgs s_film_or_none) (defBody s_film_or_none) (defScope s_film_or_none) .none kV_film_or_none dc_film_or_none pm_film_or_none an_film_or_none cd_film_or_none ct_film_or_none), f_tell, (PySem.W.fnOf "tell" "tell" (defArgs s_tell) (defBody s_tell) (defScope s_tell) .none kV_tell dc_tell pm_tell an_tell cd_tell ct_tell), a_ALL_ONES, a_MATROSKA, a_WEBM⟩, ?_⟩
  exact {
    exc := x1,
    mg_NotRight := PySem.W.mg_of X G x0,
    cl_LengthNumber := ⟨pg_LengthNumber, hd_LengthNumber, po_LengthNumber, sa_LengthNumber⟩,
    mk_LengthNumber := ⟨mk_LengthNumber, a_LengthNumber_init, i_LengthNumber_init, kc_LengthNumber⟩,
    mg_LengthNumber := PySem.W.mg_of X G ac_LengthNumber,
    na_LengthNumber_size := na_LengthNumber_size,
    na_LengthNumber_value := na_LengthNumber_value,
    me_LengthNumber_is_all_ones := ⟨a_LengthNumber_is_all_ones, i_LengthNumber_is_all_ones, k_LengthNumber_is_all_ones⟩,
    cl_Element := ⟨pg_Element, hd_Element, po_Element, sa_Element⟩,
    mk_Element := ⟨mk_Element, a_Element_init, i_Element_init, kc_Element⟩,
    mg_Element := PySem.W.mg_of X G ac_Element,
    na_Element_name := na_Element_name,
    na_Element_start := na_Element_start,
    na_Element_end := na_Element_end,
    cl_Cursor := ⟨pg_Cursor, hd_Cursor, po_Cursor, sa_Cursor⟩,
    mk_Cursor := ⟨mk_Cursor, a_Cursor_init, i_Cursor_init, kc_Cursor⟩,
    mg_Cursor := PySem.W.mg_of X G ac_Cursor,
    na_Cursor_file := na_Cursor_file,
    na_Cursor_place := na_Cursor_place,
    na_Cursor_limit := na_Cursor_limit,
    me_Cursor_bytes_left := ⟨a_Cursor_bytes_left, i_Cursor_bytes_left, k_Cursor_bytes_left⟩,
    me_Cursor_skip := ⟨a_Cursor_skip, i_Cursor_skip, k_Cursor_skip⟩,
    me_Cursor_take_byte := ⟨a_Cursor_take_byte, i_Cursor_take_byte, k_Cursor_take_byte⟩,
    me_Cursor_take_length_number := ⟨a_Cursor_take_length_number, i_Cursor_take_length_number, k_Cursor_take_length_number⟩,
    me_Cursor_take_known_number := ⟨a_Cursor_take_known_number, i_Cursor_take_known_number, k_Cursor_take_known_number⟩,
    me_Cursor_take_name := ⟨a_Cursor_take_name, i_Cursor_take_name, k_Cursor_take_name⟩,
    me_Cursor_take_element := ⟨a_Cursor_take_element, i_Cursor_take_element, k_Cursor_take_element⟩,
    me_Cursor_take_element_or_rest := ⟨a_Cursor_take_element_or_rest, i_Cursor_take_element_or_rest, k_Cursor_take_element_or_rest⟩,
    me_Cursor_take_body := ⟨a_Cursor_take_body, i_Cursor_take_body, k_Cursor_take_body⟩,
    cl_Contents := ⟨pg_Contents, hd_Contents, po_Contents, sa_Contents⟩,
    mk_Contents := ⟨mk_Contents, a_Contents_init, i_Contents_init, kc_Contents⟩,
    mg_Contents := PySem.W.mg_of X G ac_Contents,
    na_Contents_file := na_Contents_file,
    na_Contents_children := na_Contents_children,
    me_Contents_all_named := ⟨a_Contents_all_named, i_Contents_all_named, k_Contents_all_named⟩,
    me_Contents_at_most_once := ⟨a_Contents_at_most_once, i_Contents_at_most_once, k_Contents_at_most_once⟩,
    me_Contents_once := ⟨a_Contents_once, i_Contents_once, k_Contents_once⟩,
    me_Contents_number_once := ⟨a_Contents_number_once, i_Contents_number_once, k_Contents_number_once⟩,
    me_Contents_number_or := ⟨a_Contents_number_or, i_Contents_number_or, k_Contents_number_or⟩,
    cl_Block := ⟨pg_Block, hd_Block, po_Block, sa_Block⟩,
    mk_Block := ⟨mk_Block, a_Block_init, i_Block_init, kc_Block⟩,
    mg_Block := PySem.W.mg_of X G ac_Block,
    na_Block_track_number := na_Block_track_number,
    na_Block_time := na_Block_time,
    na_Block_is_key := na_Block_is_key,
    na_Block_start := na_Block_start,
    na_Block_lengths := na_Block_lengths,
    cl_Picture := ⟨pg_Picture, hd_Picture, po_Picture, sa_Picture⟩,
    mk_Picture := ⟨mk_Picture, a_Picture_init, i_Picture_init, kc_Picture⟩,
    mg_Picture := PySem.W.mg_of X G ac_Picture,
    na_Picture_width := na_Picture_width,
    na_Picture_height := na_Picture_height,
    cl_Track := ⟨pg_Track, hd_Track, po_Track, sa_Track⟩,
    mk_Track := ⟨mk_Track, a_Track_init, i_Track_init, kc_Track⟩,
    mg_Track := PySem.W.mg_of X G ac_Track,
    na_Track_number := na_Track_number,
    na_Track_lasting_number := na_Track_lasting_number,
    na_Track_kind := na_Track_kind,
    na_Track_picture := na_Track_picture,
    na_Track_channels := na_Track_channels,
    na_Track_codec := na_Track_codec,
    cl_Film := ⟨pg_Film, hd_Film, po_Film, sa_Film⟩,
    mk_Film := ⟨mk_Film, a_Film_init, i_Film_init, kc_Film⟩,
    mg_Film := PySem.W.mg_of X G ac_Film,
    na_Film_tracks := na_Film_tracks,
    na_Film_scale := na_Film_scale,
    na_Film_clusters := na_Film_clusters,
    me_Film_blocks := ⟨a_Film_blocks, i_Film_blocks, k_Film_blocks⟩,
    F_join_bytes := fun_mk (st := s_join_bytes) l_join_bytes c_join_bytes k_join_bytes,
    b_join_bytes := (fun_mk (st := s_join_bytes) l_join_bytes c_join_bytes k_join_bytes).binds (ps := ["file", "start", "end", "front"]) fun _ _ _ _ _ _ us hl => match us, hl with | [_, _, _, _], _ => rfl,
    mg_join_bytes := PySem.W.mg_of X G a_join_bytes,
    F_LengthNumber_init := fun_mk (st := s_LengthNumber_init) l_LengthNumber_init c_LengthNumber_init k_LengthNumber_init,
    b_LengthNumber_init := (fun_mk (st := s_LengthNumber_init) l_LengthNumber_init c_LengthNumber_init k_LengthNumber_init).binds (ps := ["self", "size", "value"]) fun _ _ _ _ _ _ us hl => match us, hl with | [_, _, _], _ => rfl,
    F_LengthNumber_is_all_ones := fun_mk (st := s_LengthNumber_is_all_ones) l_LengthNumber_is_all_ones c_LengthNumber_is_all_ones k_LengthNumber_is_all_ones,
    b_LengthNumber_is_all_ones := (fun_mk (st := s_LengthNumber_is_all_ones) l_LengthNumber_is_all_ones c_LengthNumber_is_all_ones k_LengthNumber_is_all_ones).binds (ps := ["self"]) fun _ _ _ _ _ _ us hl => match us, hl with | [_], _ => rfl,
    F_Element_init := fun_mk (st := s_Element_init) l_Element_init c_Element_init k_Element_init,
    b_Element_init := (fun_mk (st := s_Element_init) l_Element_init c_Element_init k_Element_init).binds (ps := ["self", "name", "start", "end"]) fun _ _ _ _ _ _ us hl => match us, hl with | [_, _, _, _], _ => rfl,
    F_Cursor_init := fun_mk (st := s_Cursor_init) l_Cursor_init c_Cursor_init k_Cursor_init,
    b_Cursor_init := (fun_mk (st := s_Cursor_init) l_Cursor_init c_Cursor_init k_Cursor_init).binds (ps := ["self", "file", "start", "end"]) fun _ _ _ _ _ _ us hl => match us, hl with | [_, _, _, _], _ => rfl,
    F_Cursor_bytes_left := fun_mk (st := s_Cursor_bytes_left) l_Cursor_bytes_left c_Cursor_bytes_left k_Cursor_bytes_left,
    b_Cursor_bytes_left := (fun_mk (st := s_Cursor_bytes_left) l_Cursor_bytes_left c_Cursor_bytes_left k_Cursor_bytes_left).binds (ps := ["self"]) fun _ _ _ _ _ _ us hl => match us, hl with | [_], _ => rfl,
    F_Cursor_skip := fun_mk (st := s_Cursor_skip) l_Cursor_skip c_Cursor_skip k_Cursor_skip,
    b_Cursor_skip := (fun_mk (st := s_Cursor_skip) l_Cursor_skip c_Cursor_skip k_Cursor_skip).binds (ps := ["self", "size"]) fun _ _ _ _ _ _ us hl => match us, hl with | [_, _], _ => rfl,
    F_Cursor_take_byte := fun_mk (st := s_Cursor_take_byte) l_Cursor_take_byte c_Cursor_take_byte k_Cursor_take_byte,
    b_Cursor_take_byte := (fun_mk (st := s_Cursor_take_byte) l_Cursor_take_byte c_Cursor_take_byte k_Cursor_take_byte).binds (ps := ["self"]) fun _ _ _ _ _ _ us hl => match us, hl with | [_], _ => rfl,
    F_Cursor_take_length_number := fun_mk (st := s_Cursor_take_length_number) l_Cursor_take_length_number c_Cursor_take_length_number k_Cursor_take_length_number,
    b_Cursor_take_length_number := (fun_mk (st := s_Cursor_take_length_number) l_Cursor_take_length_number c_Cursor_take_length_number k_Cursor_take_length_number).binds (ps := ["self", "most_bytes"]) fun _ _ _ _ _ _ us hl => match us, hl with | [_, _], _ => rfl,
    F_Cursor_take_known_number := fun_mk (st := s_Cursor_take_known_number) l_Cursor_take_known_number c_Cursor_take_known_number k_Cursor_take_known_number,
    b_Cursor_take_known_number := (fun_mk (st := s_Cursor_take_known_number) l_Cursor_take_known_number c_Cursor_take_known_number k_Cursor_take_known_number).binds (ps := ["self", "most_bytes"]) fun _ _ _ _ _ _ us hl => match us, hl with | [_, _], _ => rfl,
    F_Cursor_take_name := fun_mk (st := s_Cursor_take_name) l_Cursor_take_name c_Cursor_take_name k_Cursor_take_name,
    b_Cursor_take_name := (fun_mk (st := s_Cursor_take_name) l_Cursor_take_name c_Cursor_take_name k_Cursor_take_name).binds (ps := ["self"]) fun _ _ _ _ _ _ us hl => match us, hl with | [_], _ => rfl,
    F_Cursor_take_element := fun_mk (st := s_Cursor_take_element) l_Cursor_take_element c_Cursor_take_element k_Cursor_take_element,
    b_Cursor_take_element := (fun_mk (st := s_Cursor_take_element) l_Cursor_take_element c_Cursor_take_element k_Cursor_take_element).binds (ps := ["self"]) fun _ _ _ _ _ _ us hl => match us, hl with | [_], _ => rfl,
    F_Cursor_take_element_or_rest := fun_mk (st := s_Cursor_take_element_or_rest) l_Cursor_take_element_or_rest c_Cursor_take_element_or_rest k_Cursor_take_element_or_rest,
    b_Cursor_take_element_or_rest := (fun_mk (st := s_Cursor_take_element_or_rest) l_Cursor_take_element_or_rest c_Cursor_take_element_or_rest k_Cursor_take_element_or_rest).binds (ps := ["self"]) fun _ _ _ _ _ _ us hl => match us, hl with | [_], _ => rfl,
    F_Cursor_take_body := fun_mk (st := s_Cursor_take_body) l_Cursor_take_body c_Cursor_take_body k_Cursor_take_body,
    b_Cursor_take_body := (fun_mk (st := s_Cursor_take_body) l_Cursor_take_body c_Cursor_take_body k_Cursor_take_body).binds (ps := ["self", "name", "size"]) fun _ _ _ _ _ _ us hl => match us, hl with | [_, _, _], _ => rfl,
    F_Contents_init := fun_mk (st := s_Contents_init) l_Contents_init c_Contents_init k_Contents_init,
    b_Contents_init := (fun_mk (st := s_Contents_init) l_Contents_init c_Contents_init k_Contents_init).binds (ps := ["self", "file", "element"]) fun _ _ _ _ _ _ us hl => match us, hl with | [_, _, _], _ => rfl,
    F_Contents_all_named := fun_mk (st := s_Contents_all_named) l_Contents_all_named c_Contents_all_named k_Contents_all_named,
    b_Contents_all_named := (fun_mk (st := s_Contents_all_named) l_Contents_all_named c_Contents_all_named k_Contents_all_named).binds (ps := ["self", "names"]) fun _ _ _ _ _ _ us hl => match us, hl with | [_, _], _ => rfl,
    F_Contents_at_most_once := fun_mk (st := s_Contents_at_most_once) l_Contents_at_most_once c_Contents_at_most_once k_Contents_at_most_once,
    b_Contents_at_most_once := (fun_mk (st := s_Contents_at_most_once) l_Contents_at_most_once c_Contents_at_most_once k_Contents_at_most_once).binds (ps := ["self", "name"]) fun _ _ _ _ _ _ us hl => match us, hl with | [_, _], _ => rfl,
    F_Contents_once := fun_mk (st := s_Contents_once) l_Contents_once c_Contents_once k_Contents_once,
    b_Contents_once := (fun_mk (st := s_Contents_once) l_Contents_once c_Contents_once k_Contents_once).binds (ps := ["self", "name"]) fun _ _ _ _ _ _ us hl => match us, hl with | [_, _], _ => rfl,
    F_Contents_number_once := fun_mk (st := s_Contents_number_once) l_Contents_number_once c_Contents_number_once k_Contents_number_once,
    b_Contents_number_once := (fun_mk (st := s_Contents_number_once) l_Contents_number_once c_Contents_number_once k_Contents_number_once).binds (ps := ["self", "name", "least", "most"]) fun _ _ _ _ _ _ us hl => match us, hl with | [_, _, _, _], _ => rfl,
    F_Contents_number_or := fun_mk (st := s_Contents_number_or) l_Contents_number_or c_Contents_number_or k_Contents_number_or,
    b_Contents_number_or := (fun_mk (st := s_Contents_number_or) l_Contents_number_or c_Contents_number_or k_Contents_number_or).binds (ps := ["self", "name", "least", "most", "otherwise"]) fun _ _ _ _ _ _ us hl => match us, hl with | [_, _, _, _, _], _ => rfl,
    F_take_children := fun_mk (st := s_take_children) l_take_children c_take_children k_take_children,
    b_take_children := (fun_mk (st := s_take_children) l_take_children c_take_children k_take_children).binds (ps := ["file", "element"]) fun _ _ _ _ _ _ us hl => match us, hl with | [_, _], _ => rfl,
    mg_take_children := PySem.W.mg_of X G a_take_children,
    F_bounded_number := fun_mk (st := s_bounded_number) l_bounded_number c_bounded_number k_bounded_number,
    b_bounded_number := (fun_mk (st := s_bounded_number) l_bounded_number c_bounded_number k_bounded_number).binds (ps := ["file", "element", "least", "most"]) fun _ _ _ _ _ _ us hl => match us, hl with | [_, _, _, _], _ => rfl,
    mg_bounded_number := PySem.W.mg_of X G a_bounded_number,
    F_check_before := fun_mk (st := s_check_before) l_check_before c_check_before k_check_before,
    b_check_before := (fun_mk (st := s_check_before) l_check_before c_check_before k_check_before).binds (ps := ["first", "others"]) fun _ _ _ _ _ _ us hl => match us, hl with | [_, _], _ => rfl,
    mg_check_before := PySem.W.mg_of X G a_check_before,
    F_take_frame_lengths := fun_mk (st := s_take_frame_lengths) l_take_frame_lengths c_take_frame_lengths k_take_frame_lengths,
    b_take_frame_lengths := (fun_mk (st := s_take_frame_lengths) l_take_frame_lengths c_take_frame_lengths k_take_frame_lengths).binds (ps := ["cursor", "flags"]) fun _ _ _ _ _ _ us hl => match us, hl with | [_, _], _ => rfl,
    mg_take_frame_lengths := PySem.W.mg_of X G a_take_frame_lengths,
    F_equal_lengths := fun_mk (st := s_equal_lengths) l_equal_lengths c_equal_lengths k_equal_lengths,
    b_equal_lengths := (fun_mk (st := s_equal_lengths) l_equal_lengths c_equal_lengths k_equal_lengths).binds (ps := ["rest", "frames"]) fun _ _ _ _ _ _ us hl => match us, hl with | [_, _], _ => rfl,
    mg_equal_lengths := PySem.W.mg_of X G a_equal_lengths,
    F_take_sums := fun_mk (st := s_take_sums) l_take_sums c_take_sums k_take_sums,
    b_take_sums := (fun_mk (st := s_take_sums) l_take_sums c_take_sums k_take_sums).binds (ps := ["cursor", "count"]) fun _ _ _ _ _ _ us hl => match us, hl with | [_, _], _ => rfl,
    mg_take_sums := PySem.W.mg_of X G a_take_sums,
    F_take_sum := fun_mk (st := s_take_sum) l_take_sum c_take_sum k_take_sum,
    b_take_sum := (fun_mk (st := s_take_sum) l_take_sum c_take_sum k_take_sum).binds (ps := ["cursor"]) fun _ _ _ _ _ _ us hl => match us, hl with | [_], _ => rfl,
    mg_take_sum := PySem.W.mg_of X G a_take_sum,
    F_take_differences := fun_mk (st := s_take_differences) l_take_differences c_take_differences k_take_differences,
    b_take_differences := (fun_mk (st := s_take_differences) l_take_differences c_take_differences k_take_differences).binds (ps := ["cursor", "count"]) fun _ _ _ _ _ _ us hl => match us, hl with | [_, _], _ => rfl,
    mg_take_differences := PySem.W.mg_of X G a_take_differences,
    F_with_last_length := fun_mk (st := s_with_last_length) l_with_last_length c_with_last_length k_with_last_length,
    b_with_last_length := (fun_mk (st := s_with_last_length) l_with_last_length c_with_last_length k_with_last_length).binds (ps := ["lengths", "rest"]) fun _ _ _ _ _ _ us hl => match us, hl with | [_, _], _ => rfl,
    mg_with_last_length := PySem.W.mg_of X G a_with_last_length,
    F_Block_init := fun_mk (st := s_Block_init) l_Block_init c_Block_init k_Block_init,
    b_Block_init := (fun_mk (st := s_Block_init) l_Block_init c_Block_init k_Block_init).binds (ps := ["self", "track_number", "time", "is_key", "start", "lengths"]) fun _ _ _ _ _ _ us hl => match us, hl with | [_, _, _, _, _, _], _ => rfl,
    F_read_cluster := fun_mk (st := s_read_cluster) l_read_cluster c_read_cluster k_read_cluster,
    b_read_cluster := (fun_mk (st := s_read_cluster) l_read_cluster c_read_cluster k_read_cluster).binds (ps := ["file", "cluster", "tracks"]) fun _ _ _ _ _ _ us hl => match us, hl with | [_, _, _], _ => rfl,
    mg_read_cluster := PySem.W.mg_of X G a_read_cluster,
    F_read_holder := fun_mk (st := s_read_holder) l_read_holder c_read_holder k_read_holder,
    b_read_holder := (fun_mk (st := s_read_holder) l_read_holder c_read_holder k_read_holder).binds (ps := ["file", "holder", "cluster_time", "tracks"]) fun _ _ _ _ _ _ us hl => match us, hl with | [_, _, _, _], _ => rfl,
    mg_read_holder := PySem.W.mg_of X G a_read_holder,
    F_read_block := fun_mk (st := s_read_block) l_read_block c_read_block k_read_block,
    b_read_block := (fun_mk (st := s_read_block) l_read_block c_read_block k_read_block).binds (ps := ["file", "element", "cluster_time", "tracks", "is_key"]) fun _ _ _ _ _ _ us hl => match us, hl with | [_, _, _, _, _], _ => rfl,
    mg_read_block := PySem.W.mg_of X G a_read_block,
    F_take_offset := fun_mk (st := s_take_offset) l_take_offset c_take_offset k_take_offset,
    b_take_offset := (fun_mk (st := s_take_offset) l_take_offset c_take_offset k_take_offset).binds (ps := ["cursor"]) fun _ _ _ _ _ _ us hl => match us, hl with | [_], _ => rfl,
    mg_take_offset := PySem.W.mg_of X G a_take_offset,
    F_check_header := fun_mk (st := s_check_header) l_check_header c_check_header k_check_header,
    b_check_header := (fun_mk (st := s_check_header) l_check_header c_check_header k_check_header).binds (ps := ["file", "header"]) fun _ _ _ _ _ _ us hl => match us, hl with | [_, _], _ => rfl,
    mg_check_header := PySem.W.mg_of X G a_check_header,
    F_Picture_init := fun_mk (st := s_Picture_init) l_Picture_init c_Picture_init k_Picture_init,
    b_Picture_init := (fun_mk (st := s_Picture_init) l_Picture_init c_Picture_init k_Picture_init).binds (ps := ["self", "width", "height"]) fun _ _ _ _ _ _ us hl => match us, hl with | [_, _, _], _ => rfl,
    F_Track_init := fun_mk (st := s_Track_init) l_Track_init c_Track_init k_Track_init,
    b_Track_init := (fun_mk (st := s_Track_init) l_Track_init c_Track_init k_Track_init).binds (ps := ["self", "number", "lasting_number", "kind", "picture", "channels", "codec"]) fun _ _ _ _ _ _ us hl => match us, hl with | [_, _, _, _, _, _, _], _ => rfl,
    F_read_tracks := fun_mk (st := s_read_tracks) l_read_tracks c_read_tracks k_read_tracks,
    b_read_tracks := (fun_mk (st := s_read_tracks) l_read_tracks c_read_tracks k_read_tracks).binds (ps := ["file", "element"]) fun _ _ _ _ _ _ us hl => match us, hl with | [_, _], _ => rfl,
    mg_read_tracks := PySem.W.mg_of X G a_read_tracks,
    F_read_track := fun_mk (st := s_read_track) l_read_track c_read_track k_read_track,
    b_read_track := (fun_mk (st := s_read_track) l_read_track c_read_track k_read_track).binds (ps := ["file", "element"]) fun _ _ _ _ _ _ us hl => match us, hl with | [_, _], _ => rfl,
    mg_read_track := PySem.W.mg_of X G a_read_track,
    F_check_codec := fun_mk (st := s_check_codec) l_check_codec c_check_codec k_check_codec,
    b_check_codec := (fun_mk (st := s_check_codec) l_check_codec c_check_codec k_check_codec).binds (ps := ["file", "codec"]) fun _ _ _ _ _ _ us hl => match us, hl with | [_, _], _ => rfl,
    mg_check_codec := PySem.W.mg_of X G a_check_codec,
    F_read_picture := fun_mk (st := s_read_picture) l_read_picture c_read_picture k_read_picture,
    b_read_picture := (fun_mk (st := s_read_picture) l_read_picture c_read_picture k_read_picture).binds (ps := ["file", "element"]) fun _ _ _ _ _ _ us hl => match us, hl with | [_, _], _ => rfl,
    mg_read_picture := PySem.W.mg_of X G a_read_picture,
    F_read_channels := fun_mk (st := s_read_channels) l_read_channels c_read_channels k_read_channels,
    b_read_channels := (fun_mk (st := s_read_channels) l_read_channels c_read_channels k_read_channels).binds (ps := ["file", "sound"]) fun _ _ _ _ _ _ us hl => match us, hl with | [_, _], _ => rfl,
    mg_read_channels := PySem.W.mg_of X G a_read_channels,
    F_Film_init := fun_mk (st := s_Film_init) l_Film_init c_Film_init k_Film_init,
    b_Film_init := (fun_mk (st := s_Film_init) l_Film_init c_Film_init k_Film_init).binds (ps := ["self", "tracks", "scale", "clusters"]) fun _ _ _ _ _ _ us hl => match us, hl with | [_, _, _, _], _ => rfl,
    F_Film_blocks := fun_mk (st := s_Film_blocks) l_Film_blocks c_Film_blocks k_Film_blocks,
    b_Film_blocks := (fun_mk (st := s_Film_blocks) l_Film_blocks c_Film_blocks k_Film_blocks).binds (ps := ["self"]) fun _ _ _ _ _ _ us hl => match us, hl with | [_], _ => rfl,
    F_read_film := fun_mk (st := s_read_film) l_read_film c_read_film k_read_film,
    b_read_film := (fun_mk (st := s_read_film) l_read_film c_read_film k_read_film).binds (ps := ["file"]) fun _ _ _ _ _ _ us hl => match us, hl with | [_], _ => rfl,
    mg_read_film := PySem.W.mg_of X G a_read_film,
    F_read_body := fun_mk (st := s_read_body) l_read_body c_read_body k_read_body,
    b_read_body := (fun_mk (st := s_read_body) l_read_body c_read_body k_read_body).binds (ps := ["file", "body"]) fun _ _ _ _ _ _ us hl => match us, hl with | [_, _], _ => rfl,
    mg_read_body := PySem.W.mg_of X G a_read_body,
    F_read_scale := fun_mk (st := s_read_scale) l_read_scale c_read_scale k_read_scale,
    b_read_scale := (fun_mk (st := s_read_scale) l_read_scale c_read_scale k_read_scale).binds (ps := ["file", "about"]) fun _ _ _ _ _ _ us hl => match us, hl with | [_, _], _ => rfl,
    mg_read_scale := PySem.W.mg_of X G a_read_scale,
    F_frame := fun_mk (st := s_frame) l_frame c_frame k_frame,
    b_frame := (fun_mk (st := s_frame) l_frame c_frame k_frame).binds (ps := ["k", "most", "file"]) fun _ _ _ _ _ _ us hl => match us, hl with | [_, _, _], _ => rfl,
    mg_frame := PySem.W.mg_of X G a_frame,
    F_tell_frame := fun_mk (st := s_tell_frame) l_tell_frame c_tell_frame k_tell_frame,
    b_tell_frame := (fun_mk (st := s_tell_frame) l_tell_frame c_tell_frame k_tell_frame).binds (ps := ["block", "place", "most", "file"]) fun _ _ _ _ _ _ us hl => match us, hl with | [_, _, _, _], _ => rfl,
    mg_tell_frame := PySem.W.mg_of X G a_tell_frame,
    F_film_or_none := fun_mk (st := s_film_or_none) l_film_or_none c_film_or_none k_film_or_none,
    b_film_or_none := (fun_mk (st := s_film_or_none) l_film_or_none c_film_or_none k_film_or_none).binds (ps := ["file"]) fun _ _ _ _ _ _ us hl => match us, hl with | [_], _ => rfl,
    mg_film_or_none := PySem.W.mg_of X G a_film_or_none,
    F_tell := fun_mk (st := s_tell) l_tell c_tell k_tell,
    b_tell := (fun_mk (st := s_tell) l_tell c_tell k_tell).binds (ps := ["numbers", "content", "most"]) fun _ _ _ _ _ _ us hl => match us, hl with | [_, _, _], _ => rfl,
    mg_tell := PySem.W.mg_of X G a_tell,
    c_LONGEST_NAME := ⟨_, PySem.W.mg_of X G n_LONGEST_NAME⟩,
    c_LONGEST_LENGTH := ⟨_, PySem.W.mg_of X G n_LONGEST_LENGTH⟩,
    mg_ALL_ONES := PySem.W.mg_of X G n_ALL_ONES,
    sq_ALL_ONES := fun H => .inr ⟨_, _, _, t_ALL_ONES, rfl, rfl, (by show 9 ≤ sizeLine; decide), .cons ⟨_, rfl⟩ (.cons ⟨_, rfl⟩ (.cons ⟨_, rfl⟩ (.cons ⟨_, rfl⟩ (.cons ⟨_, rfl⟩ (.cons ⟨_, rfl⟩ (.cons ⟨_, rfl⟩ (.cons ⟨_, rfl⟩ (.cons ⟨_, rfl⟩ (.nil)))))))))⟩,
    c_LONGEST_NUMBER := ⟨_, PySem.W.mg_of X G n_LONGEST_NUMBER⟩,
    c_GREATEST_NUMBER := ⟨_, PySem.W.mg_of X G n_GREATEST_NUMBER⟩,
    c_LACING_BITS := ⟨_, PySem.W.mg_of X G n_LACING_BITS⟩,
    c_NO_LACING := ⟨_, PySem.W.mg_of X G n_NO_LACING⟩,
    c_BY_SUMS := ⟨_, PySem.W.mg_of X G n_BY_SUMS⟩,
    c_BY_EQUAL_PARTS := ⟨_, PySem.W.mg_of X G n_BY_EQUAL_PARTS⟩,
    c_TIME := ⟨_, PySem.W.mg_of X G n_TIME⟩,
    c_SIMPLE_BLOCK := ⟨_, PySem.W.mg_of X G n_SIMPLE_BLOCK⟩,
    c_BLOCK_GROUP := ⟨_, PySem.W.mg_of X G n_BLOCK_GROUP⟩,
    c_GROUPED_BLOCK := ⟨_, PySem.W.mg_of X G n_GROUPED_BLOCK⟩,
    c_REFERENCE := ⟨_, PySem.W.mg_of X G n_REFERENCE⟩,
    c_LATEST_TIME := ⟨_, PySem.W.mg_of X G n_LATEST_TIME⟩,
    c_LONGEST_TRACK_NUMBER := ⟨_, PySem.W.mg_of X G n_LONGEST_TRACK_NUMBER⟩,
    c_KEY_BIT := ⟨_, PySem.W.mg_of X G n_KEY_BIT⟩,
    c_FORM := ⟨_, PySem.W.mg_of X G n_FORM⟩,
    c_READ_VERSION := ⟨_, PySem.W.mg_of X G n_READ_VERSION⟩,
    c_NAME_BYTES := ⟨_, PySem.W.mg_of X G n_NAME_BYTES⟩,
    c_LENGTH_BYTES := ⟨_, PySem.W.mg_of X G n_LENGTH_BYTES⟩,
    c_FORM_READ_VERSION := ⟨_, PySem.W.mg_of X G n_FORM_READ_VERSION⟩,
    mg_MATROSKA := PySem.W.mg_of X G n_MATROSKA,
    sq_MATROSKA := fun H => .inr ⟨_, _, _, t_MATROSKA, rfl, rfl, (by show 8 ≤ sizeLine; decide), .cons ⟨_, rfl⟩ (.cons ⟨_, rfl⟩ (.cons ⟨_, rfl⟩ (.cons ⟨_, rfl⟩ (.cons ⟨_, rfl⟩ (.cons ⟨_, rfl⟩ (.cons ⟨_, rfl⟩ (.cons ⟨_, rfl⟩ (.nil))))))))⟩,
    mg_WEBM := PySem.W.mg_of X G n_WEBM,
    sq_WEBM := fun H => .inr ⟨_, _, _, t_WEBM, rfl, rfl, (by show 4 ≤ sizeLine; decide), .cons ⟨_, rfl⟩ (.cons ⟨_, rfl⟩ (.cons ⟨_, rfl⟩ (.cons ⟨_, rfl⟩ (.nil))))⟩,
    c_TRACK := ⟨_, PySem.W.mg_of X G n_TRACK⟩,
    c_NUMBER := ⟨_, PySem.W.mg_of X G n_NUMBER⟩,
    c_LASTING_NUMBER := ⟨_, PySem.W.mg_of X G n_LASTING_NUMBER⟩,
    c_KIND := ⟨_, PySem.W.mg_of X G n_KIND⟩,
    c_CODEC := ⟨_, PySem.W.mg_of X G n_CODEC⟩,
    c_PICTURE := ⟨_, PySem.W.mg_of X G n_PICTURE⟩,
    c_WIDTH := ⟨_, PySem.W.mg_of X G n_WIDTH⟩,
    c_HEIGHT := ⟨_, PySem.W.mg_of X G n_HEIGHT⟩,
    c_SOUND := ⟨_, PySem.W.mg_of X G n_SOUND⟩,
    c_CHANNELS := ⟨_, PySem.W.mg_of X G n_CHANNELS⟩,
    c_LONGEST_CODEC := ⟨_, PySem.W.mg_of X G n_LONGEST_CODEC⟩,
    c_HEADER := ⟨_, PySem.W.mg_of X G n_HEADER⟩,
    c_BODY := ⟨_, PySem.W.mg_of X G n_BODY⟩,
    c_ABOUT := ⟨_, PySem.W.mg_of X G n_ABOUT⟩,
    c_SCALE := ⟨_, PySem.W.mg_of X G n_SCALE⟩,
    c_TRACKS := ⟨_, PySem.W.mg_of X G n_TRACKS⟩,
    c_CLUSTER := ⟨_, PySem.W.mg_of X G n_CLUSTER⟩,
    c_USUAL_SCALE := ⟨_, PySem.W.mg_of X G n_USUAL_SCALE⟩,
    c_FILE_NOT_RIGHT := ⟨_, PySem.W.mg_of X G n_FILE_NOT_RIGHT⟩,
    c_NOT_THERE := ⟨_, PySem.W.mg_of X G n_NOT_THERE⟩,
    c_TOO_LONG := ⟨_, PySem.W.mg_of X G n_TOO_LONG⟩,
    n_len := PySem.W.ns_none_of X G b_len,
    n_min := PySem.W.ns_none_of X G b_min,
    n_range := PySem.W.ns_none_of X G b_range,
    n_sum := PySem.W.ns_none_of X G b_sum,
    n_tuple := PySem.W.ns_none_of X G b_tuple }
end Film

set_option linter.all false
/-! Plain mathematics: stretches of the file, length numbers, names, elements. -/
namespace Film
open Sg32
/-- the file's bytes from p to e -/
def sl (B : Bytes) (p e : Nat) : Bytes := (B.take e).drop p
theorem sl_length {B : Bytes} {p e : Nat} (h : e ≤ B.length) : (sl B p e).length = e - p := by
  unfold sl; rw [List.length_drop, List.length_take]; omega
theorem sl_nil (B : Bytes) {p e : Nat} (h : e ≤ p) : sl B p e = [] := by
  unfold sl; rw [List.drop_eq_nil_iff, List.length_take]; omega
theorem sl_drop (B : Bytes) (p e k : Nat) : (sl B p e).drop k = sl B (p + k) e := by
  unfold sl; rw [List.drop_drop]
theorem sl_take (B : Bytes) {p e k : Nat} (h : p + k ≤ e) : (sl B p e).take k = sl B p (p + k) := by
  unfold sl
  rw [List.take_drop, List.take_take, Nat.min_eq_left (by omega)]
theorem sl_cons {B : Bytes} {p e : Nat} (h : p < e) (he : e ≤ B.length) : sl B p e = B[p]'(by omega) :: sl B (p + 1) e := by
  unfold sl
  rw [List.drop_eq_getElem_cons (by rw [List.length_take]; omega)]
  simp
theorem sl_all (B : Bytes) : sl B 0 B.length = B := by unfold sl; simp

def fold (n : Nat) (b : Bytes) : Nat := b.foldl (fun n c => 256 * n + c.toNat) n
theorem fold_nil (n : Nat) : fold n [] = n := rfl
theorem fold_cons (n : Nat) (c : UInt8) (b : Bytes) : fold n (c :: b) = fold (256 * n + c.toNat) b := rfl
theorem number_fold (b : Bytes) : number b = fold 0 b := rfl
theorem fold_snoc (n : Nat) (b : Bytes) (c : UInt8) : fold n (b ++ [c]) = 256 * fold n b + c.toNat := by
  unfold fold; rw [List.foldl_append]; rfl
theorem fold_eq : ∀ (b : Bytes) (n : Nat), fold n b = n * 256 ^ b.length + number b
  | [], n => by simp [fold_nil, number]
  | c :: b, n => by
    rw [fold_cons, fold_eq b, number_fold (c :: b), fold_cons, fold_eq b (256 * 0 + c.toNat), List.length_cons, Nat.pow_succ]
    simp only [Nat.add_mul, Nat.mul_zero, Nat.zero_add, Nat.zero_mul]
    rw [Nat.mul_comm 256 n, Nat.mul_assoc, Nat.mul_comm 256 (256 ^ b.length), Nat.add_assoc]
theorem number_lt : ∀ b : Bytes, number b < 256 ^ b.length
  | [] => by simp [number]
  | c :: b => by
    rw [number_fold, fold_cons, fold_eq, List.length_cons, Nat.pow_succ]
    have h1 := number_lt b
    have h2 : c.toNat ≤ 255 := by have := c.toNat_lt; omega
    have h3 : (256 * 0 + c.toNat) * 256 ^ b.length ≤ 255 * 256 ^ b.length := Nat.mul_le_mul_right _ (by omega)
    omega
theorem size_le (c : Nat) : size c ≤ 8 := by
  unfold size; repeat' split <;> try omega
/-- the leading bits -/
theorem size_bits : ∀ c : Fin 256, 0 < c.val → size c.val = 9 - (if (c.val : Int) = 0 then 0 else (c.val.log2 + 1)) ∧ 1 ≤ size c.val := by decide +kernel
theorem mask_val : ∀ k : Fin 9, (255 : Int) / 2 ^ k.val = 2 ^ (8 - k.val) - 1 := by decide
/-- a length number's value -/
theorem value_mod {c : UInt8} {r : Bytes} {k : Nat} (hk : 1 ≤ k) (hk8 : k ≤ 8) (hr : r.length = k - 1) :
    number (c :: r) % 2 ^ (7 * k) = fold (c.toNat % 2 ^ (8 - k)) r := by
  have e1 : (2 : Nat) ^ (7 * k) = 256 ^ (k - 1) * 2 ^ (8 - k) := by
    have : (256 : Nat) = 2 ^ 8 := by decide
    rw [this, ← Nat.pow_mul, ← Nat.pow_add]
    congr 1
    omega
  rw [number_fold, fold_cons, fold_eq, fold_eq, hr, e1]
  have h1 := number_lt r
  rw [hr] at h1
  generalize 256 ^ (k - 1) = Wd at h1 ⊢
  generalize 2 ^ (8 - k) = m
  generalize number r = R at h1 ⊢
  have ec : 256 * 0 + c.toNat = c.toNat := by omega
  rw [ec]
  generalize c.toNat = x
  have hW : 0 < Wd := by omega
  rw [Nat.mod_mul]
  have e2 : (x * Wd + R) % Wd = R := by rw [Nat.mul_comm, Nat.mul_add_mod, Nat.mod_eq_of_lt h1]
  have e3 : (x * Wd + R) / Wd = x := by rw [Nat.mul_comm, Nat.mul_add_div hW, Nat.div_eq_of_lt h1, Nat.add_zero]
  rw [e2, e3, Nat.mul_comm, Nat.add_comm]
theorem vint_nil : vint [] = none := rfl
/-- a length number, read: the program's way -/
theorem vint_zero {c : UInt8} {b : Bytes} (h : c.toNat = 0) : vint (c :: b) = none := by
  unfold vint; simp [h, size]
theorem vint_short {c : UInt8} {b : Bytes} (h : (c :: b).length < size c.toNat) : vint (c :: b) = none := by
  unfold vint; simp only; rw [if_pos (.inr h)]
theorem vint_ok {c : UInt8} {b : Bytes} (h0 : 0 < c.toNat) (h : size c.toNat ≤ (c :: b).length) :
    vint (c :: b) = some (size c.toNat, fold (c.toNat % 2 ^ (8 - size c.toNat)) (b.take (size c.toNat - 1)), b.drop (size c.toNat - 1)) := by
  have hb := size_bits ⟨c.toNat, c.toNat_lt⟩ h0
  have h1 : 1 ≤ size c.toNat := hb.2
  have h8 := size_le c.toNat
  unfold vint
  simp only
  rw [if_neg (by omega)]
  obtain ⟨j, hj⟩ : ∃ j, size c.toNat = j + 1 := ⟨size c.toNat - 1, by omega⟩
  rw [hj] at h h8 ⊢
  rw [List.take_succ_cons, List.drop_succ_cons, Nat.add_sub_cancel]
  rw [value_mod (by omega) h8 (by rw [List.length_take]; simp at h; omega)]
theorem vint_facts {b : Bytes} {k v : Nat} {r : Bytes} (h : vint b = some (k, v, r)) : 1 ≤ k ∧ k ≤ 8 ∧ k ≤ b.length ∧ r = b.drop k ∧ v < 2 ^ (7 * k) := by
  unfold vint at h
  split at h
  · cases h
  · rename_i c b'
    simp only at h
    split at h
    · cases h
    · rename_i hn
      simp only [Option.some.injEq, Prod.mk.injEq] at h
      obtain ⟨rfl, rfl, rfl⟩ := h
      refine ⟨by omega, size_le _, by omega, rfl, Nat.mod_lt _ (Nat.two_pow_pos _)⟩
/-- a name as the program makes it -/
theorem number_take {b : Bytes} {k v : Nat} {r : Bytes} (h : vint b = some (k, v, r)) : number (b.take k) = v + 2 ^ (7 * k) := by
  unfold vint at h
  split at h
  · cases h
  · rename_i c b'
    simp only at h
    split at h
    · cases h
    · rename_i hn
      simp only [Option.some.injEq, Prod.mk.injEq] at h
      obtain ⟨rfl, rfl, rfl⟩ := h
      generalize hk : size c.toNat = k at hn ⊢
      have h8 : k ≤ 8 := by rw [← hk]; exact size_le _
      have hlen : ((c :: b').take k).length = k := by rw [List.length_take]; omega
      have hx : ∀ c : Fin 256, size c.val ≠ 0 → c.val / 2 ^ (8 - size c.val) = 1 := by decide +kernel
      have hc := hx ⟨c.toNat, c.toNat_lt⟩ (by simp only; rw [hk]; omega)
      simp only [hk] at hc
      obtain ⟨j, rfl⟩ : ∃ j, k = j + 1 := ⟨k - 1, by omega⟩
      rw [List.take_succ_cons]
      have hj : (b'.take j).length = j := by simp only [List.take_succ_cons, List.length_cons] at hlen; omega
      rw [number_fold, fold_cons, fold_eq, hj]
      have hR := number_lt (b'.take j)
      rw [hj] at hR
      have e1 : (2 : Nat) ^ (7 * (j + 1)) = 2 ^ (8 - (j + 1)) * 256 ^ j := by
        have : (256 : Nat) = 2 ^ 8 := by decide
        rw [this, ← Nat.pow_mul, ← Nat.pow_add]
        congr 1
        omega
      rw [e1]
      generalize number (b'.take j) = R at hR ⊢
      have hWd : 0 < 256 ^ j := Nat.pow_pos (by decide)
      generalize 256 ^ j = Wd at hR hWd ⊢
      have ec : 256 * 0 + c.toNat = c.toNat := by omega
      rw [ec]
      have hm : 0 < 2 ^ (8 - (j + 1)) := Nat.two_pow_pos _
      generalize 2 ^ (8 - (j + 1)) = m at hc hm ⊢
      generalize c.toNat = x at hc ⊢
      -- m ≤ x < 2 m
      have hdm := Nat.div_add_mod x m
      rw [hc, Nat.mul_one] at hdm
      have hlt : x % m < m := Nat.mod_lt _ hm
      have : (x * Wd + R) = m * Wd + ((x % m) * Wd + R) := by
        rw [← Nat.add_assoc, ← Nat.add_mul, hdm]
      have hlt2 : (x % m) * Wd + R < m * Wd := by
        calc (x % m) * Wd + R < (x % m) * Wd + Wd := by omega
          _ = (x % m + 1) * Wd := by rw [Nat.add_mul, Nat.one_mul]
          _ ≤ m * Wd := Nat.mul_le_mul_right _ hlt
      rw [this, Nat.add_mod_left, Nat.mod_eq_of_lt hlt2]
      omega
end Film

set_option linter.all false
namespace Film
open Sg32
theorem named_facts {b : Bytes} {n : Nat} {r : Bytes} (h : named b = some (n, r)) : r.length < b.length := by
  unfold named at h
  split at h
  · rename_i k v r' hv
    obtain ⟨h1, _, h2, h3, _⟩ := vint_facts hv
    split at h
    · cases h
    · cases h
      rw [h3, List.length_drop]
      omega
  · cases h
theorem element_shrinks {o : Bool} {b r : Bytes} {x : Element} (h : element o b = some (x, r)) : r.length + 2 ≤ b.length := by
  unfold element at h
  split at h
  · cases h
  · rename_i n r1 hn
    have l1 := named_facts hn
    split at h
    · cases h
    · rename_i k v t hv
      obtain ⟨h1, _, h2, h3, _⟩ := vint_facts hv
      have l2 : t.length < r1.length := by rw [h3, List.length_drop]; omega
      split at h
      · split at h
        · cases h; simp; omega
        · cases h
      · split at h
        · cases h
        · cases h
          rw [List.length_drop]
          omega
theorem children_nil (k : Nat) : children k [] = some [] := by cases k <;> rfl
theorem children_step (k : Nat) {b : Bytes} (h : b ≠ []) : children (k + 1) b = match element false b with
    | none => none
    | some (e, r) => (children k r).map (e :: ·) := by
  cases b with
  | nil => exact absurd rfl h
  | cons c b =>
    show (do let (e, r) ← element false (c :: b); let l ← children k r; return e :: l) = _
    cases element false (c :: b) with
    | none => rfl
    | some x =>
      obtain ⟨e, r⟩ := x
      show (children k r).bind (fun l => some (e :: l)) = (children k r).map (e :: ·)
      cases children k r <;> rfl
theorem children_fuel : ∀ (n : Nat) (b : Bytes), b.length ≤ n → ∀ k, b.length < k → children k b = children (b.length + 1) b := by
  intro n
  induction n with
  | zero =>
    intro b hb k _
    have : b = [] := List.length_eq_zero_iff.mp (by omega)
    subst this
    rw [children_nil, children_nil]
  | succ n ih =>
    intro b hb k hk
    by_cases he : b = []
    · subst he
      rw [children_nil, children_nil]
    · obtain ⟨j, rfl⟩ : ∃ j, k = j + 1 := ⟨k - 1, by omega⟩
      rw [children_step _ he, children_step _ he]
      cases hq : element false b with
      | none => rfl
      | some x =>
        obtain ⟨e, r⟩ := x
        have l := element_shrinks hq
        simp only
        rw [ih r (by omega) j (by omega), ih r (by omega) b.length (by omega)]
theorem inside_nil : inside [] = some [] := children_nil _
theorem inside_none {b : Bytes} (h : b ≠ []) (he : element false b = none) : inside b = none := by
  unfold inside; rw [children_step _ h, he]
theorem inside_some {b r : Bytes} {x : Element} (h : b ≠ []) (he : element false b = some (x, r)) : inside b = (inside r).map (x :: ·) := by
  have l := element_shrinks he
  unfold inside; rw [children_step _ h, he]
  simp only
  rw [children_fuel _ r (Nat.le_refl _) b.length (by omega)]
end Film

set_option linter.all false
namespace Film
open Sg32
/-- consecutive parts of these lengths -/
def parts : List Nat → Bytes → List Bytes
  | [], _ => []
  | n :: l, b => b.take n :: parts l (b.drop n)
theorem parts_len : ∀ (l : List Nat) (b : Bytes), (parts l b).length = l.length
  | [], _ => rfl
  | n :: l, b => by show (parts l (b.drop n)).length + 1 = l.length + 1; rw [parts_len l]
theorem cut_parts : ∀ (l : List Nat) (b : Bytes), cut l b = if l.sum ≤ b.length then some (parts (l ++ [b.length - l.sum]) b) else none
  | [], b => by simp [cut, parts]
  | n :: l, b => by
    unfold cut
    rw [cut_parts l, List.length_drop, List.sum_cons]
    by_cases h1 : b.length < n
    · rw [if_pos h1, if_neg (by omega)]
    · rw [if_neg h1]
      by_cases h2 : l.sum ≤ b.length - n
      · rw [if_pos h2, if_pos (by omega)]
        show some (b.take n :: parts (l ++ [b.length - n - l.sum]) (b.drop n)) = some (b.take n :: parts (l ++ [b.length - (n + l.sum)]) (b.drop n))
        rw [Nat.sub_sub]
      · rw [if_neg h2, if_neg (by omega)]
        rfl
theorem even_parts : ∀ (k n : Nat) (b : Bytes), even k n b = parts (List.replicate k n) b
  | 0, _, _ => rfl
  | k + 1, n, b => by
    show b.take n :: even k n (b.drop n) = _
    rw [even_parts k, List.replicate_succ]
    rfl
/-- one length in bytes FF and one below -/
def sum1 : Bytes → Option (Nat × Bytes)
  | [] => none
  | c :: r => if c.toNat = 255 then (sum1 r).map fun x => (255 + x.1, x.2) else some (c.toNat, r)
theorem u255 (c : UInt8) : (c == 0xFF) = true ↔ c.toNat = 255 := by
  constructor
  · intro h
    have h := eq_of_beq h
    rw [h]
    rfl
  · intro h
    have : c = 0xFF := UInt8.toNat_inj.mp (by rw [h]; rfl)
    rw [this]
    rfl
theorem sum1_eq : ∀ b : Bytes, sum1 b = match b.drop (b.takeWhile fun c => c == 0xFF).length with
    | [] => none
    | c :: r => some (255 * (b.takeWhile fun c => c == 0xFF).length + c.toNat, r)
  | [] => rfl
  | c :: b => by
    unfold sum1
    by_cases h : c.toNat = 255
    · rw [if_pos h, sum1_eq b]
      have hc := (u255 c).mpr h
      rw [List.takeWhile_cons, if_pos hc, List.length_cons, List.drop_succ_cons]
      cases b.drop (b.takeWhile fun c => c == 0xFF).length with
      | nil => rfl
      | cons d r =>
        simp only [Option.map_some]
        congr 2
        omega
    · rw [if_neg h]
      have hc : ¬ ((c == 0xFF) = true) := fun z => h ((u255 c).mp z)
      rw [List.takeWhile_cons, if_neg hc]
      simp
theorem xiph_zero (b : Bytes) : xiph 0 b = some ([], b) := rfl
theorem xiph_succ (k : Nat) (b : Bytes) : xiph (k + 1) b = match sum1 b with
    | none => none
    | some (v, r) => (xiph k r).map fun x => (v :: x.1, x.2) := by
  rw [sum1_eq]
  show (match b.drop (b.takeWhile fun c => c == 0xFF).length with
    | [] => none
    | c :: r => (xiph k r).map fun (x : List Nat × Bytes) => ((255 * (b.takeWhile fun c => c == 0xFF).length + c.toNat) :: x.1, x.2)) = _
  cases b.drop (b.takeWhile fun c => c == 0xFF).length <;> rfl
/-- lengths by differences, below 0 too -/
def diffsI : Nat → Int → Bytes → Option (List Int × Bytes)
  | 0, _, b => some ([], b)
  | k + 1, before, b => match vint b with
    | none => none
    | some (n, v, r) => if unknown n v = true then none else (diffsI k (before + ((v : Int) - (2 ^ (7 * n - 1) - 1))) r).map fun y => ((before + ((v : Int) - (2 ^ (7 * n - 1) - 1))) :: y.1, y.2)
def nonneg (x : List Int × Bytes) : Option (List Nat × Bytes) := if x.1.all (fun z => decide (0 ≤ z)) = true then some (x.1.map Int.toNat, x.2) else none
theorem diffs_eq : ∀ (k : Nat) (before : Int) (b : Bytes), differences k before b = (diffsI k before b).bind nonneg
  | 0, _, b => rfl
  | k + 1, before, b => by
    unfold differences diffsI
    cases hv : vint b with
    | none => rfl
    | some x =>
      obtain ⟨n, v, r⟩ := x
      simp only
      generalize before + ((v : Int) - (2 ^ (7 * n - 1) - 1)) = z
      by_cases hu : unknown n v = true
      · rw [if_pos hu, if_pos (.inl hu)]
        rfl
      · rw [if_neg hu]
        by_cases hz : z < 0
        · rw [if_pos (.inr hz)]
          cases diffsI k z r with
          | none => rfl
          | some y =>
            show none = nonneg (z :: y.1, y.2)
            unfold nonneg
            rw [if_neg]
            intro h
            simp only [List.all_cons, Bool.and_eq_true, decide_eq_true_eq] at h
            omega
        · rw [if_neg (by rintro (h | h); exact hu h; exact hz h), diffs_eq k z r]
          cases diffsI k z r with
          | none => rfl
          | some y =>
            show (nonneg y).map _ = nonneg (z :: y.1, y.2)
            unfold nonneg
            have h0 : decide (0 ≤ z) = true := decide_eq_true (by omega)
            simp only [List.all_cons, h0, Bool.true_and]
            by_cases ha : (y.1.all fun z => decide (0 ≤ z)) = true
            · rw [if_pos ha, if_pos ha]
              rfl
            · rw [if_neg ha, if_neg ha]
              rfl
def firstDiffs : Nat → Bytes → Option (List Int × Bytes)
  | 0, b => some ([], b)
  | k + 1, b => match vint b with
    | none => none
    | some (n, v, r) => if unknown n v = true then none else (diffsI k v r).map fun y => ((v : Int) :: y.1, y.2)
/-- parts by lengths that may be below 0; the rest is the last -/
def cutI (x : List Int × Bytes) : Option (List Bytes) :=
  if (x.1 ++ [(x.2.length : Int) - x.1.sum]).all (fun z => decide (0 ≤ z)) = true then some (parts ((x.1 ++ [(x.2.length : Int) - x.1.sum]).map Int.toNat) x.2) else none
theorem sum_toNat : ∀ l : List Int, l.all (fun z => decide (0 ≤ z)) = true → ((l.map Int.toNat).sum : Int) = l.sum
  | [], _ => rfl
  | z :: l, h => by
    simp only [List.all_cons, Bool.and_eq_true, decide_eq_true_eq] at h
    rw [List.map_cons, List.sum_cons, List.sum_cons, Int.natCast_add, sum_toNat l h.2]
    omega
theorem cutI_eq (x : List Int × Bytes) : (nonneg x).bind (fun y => cut y.1 y.2) = cutI x := by
  unfold nonneg cutI
  by_cases h : x.1.all (fun z => decide (0 ≤ z)) = true
  · rw [if_pos h]
    show cut (x.1.map Int.toNat) x.2 = _
    rw [cut_parts]
    have hs := sum_toNat x.1 h
    by_cases h2 : (x.1.map Int.toNat).sum ≤ x.2.length
    · rw [if_pos h2, if_pos]
      · rw [List.map_append]
        congr 3
        show [x.2.length - (x.1.map Int.toNat).sum] = [((x.2.length : Int) - x.1.sum).toNat]
        congr 1
        omega
      · rw [List.all_append, h, List.all_cons, List.all_nil]
        simp
        omega
    · rw [if_neg h2, if_neg]
      intro h3
      rw [List.all_append, Bool.and_eq_true] at h3
      have := h3.2
      simp at this
      omega
  · rw [if_neg h, if_neg]
    · rfl
    · intro h3
      rw [List.all_append, Bool.and_eq_true] at h3
      exact h h3.1
/-- the flags -/
theorem how_mask : ∀ c : Fin 256, c.val / 2 % 4 = 0 ∨ c.val / 2 % 4 = 1 ∨ c.val / 2 % 4 = 2 ∨ c.val / 2 % 4 = 3 := by decide +kernel
theorem laced_plain {fl : Nat} {b : Bytes} (h : fl / 2 % 4 = 0) : laced fl b = some [b] := by
  unfold laced; simp [h]
theorem laced_nil {fl : Nat} (h : fl / 2 % 4 ≠ 0) : laced fl [] = none := by
  unfold laced; simp [h]
theorem laced_even {fl : Nat} {c : UInt8} {r : Bytes} (h : fl / 2 % 4 = 2) : laced fl (c :: r) = if r.length % (c.toNat + 1) ≠ 0 then none else some (parts (List.replicate (c.toNat + 1) (r.length / (c.toNat + 1))) r) := by
  unfold laced; simp [h, even_parts]
theorem map_natCast_nonneg (l : List Nat) : (l.map (fun n : Nat => (n : Int))).all (fun z => decide (0 ≤ z)) = true := by
  rw [List.all_eq_true]
  intro z hz
  obtain ⟨n, _, rfl⟩ := List.mem_map.mp hz
  exact decide_eq_true (by omega)
theorem map_toNat_natCast (l : List Nat) : (l.map (fun n : Nat => (n : Int))).map Int.toNat = l := by
  rw [List.map_map]
  conv => rhs; rw [← List.map_id l]
  apply List.map_congr_left
  intro n _
  exact Int.toNat_natCast n
theorem laced_sums {fl : Nat} {c : UInt8} {r : Bytes} (h : fl / 2 % 4 = 1) : laced fl (c :: r) = (xiph c.toNat r).bind fun x => cutI (x.1.map (fun n : Nat => (n : Int)), x.2) := by
  unfold laced
  simp only [h]
  rw [if_neg (by decide), if_neg (by decide), if_pos trivial, Nat.add_sub_cancel]
  congr 1
  funext x
  rw [← cutI_eq]
  unfold nonneg
  rw [if_pos (map_natCast_nonneg _), map_toNat_natCast]
  rfl
theorem laced_diffs {fl : Nat} {c : UInt8} {r : Bytes} (h : fl / 2 % 4 = 3) : laced fl (c :: r) = (firstDiffs c.toNat r).bind cutI := by
  unfold laced
  simp only [h]
  rw [if_neg (by decide), if_neg (by decide), if_neg (by decide)]
  cases hc : c.toNat with
  | zero =>
    rw [if_pos (by omega)]
    show some [r] = cutI ([], r)
    unfold cutI
    simp [parts]
  | succ k =>
    rw [if_neg (by omega)]
    have ef : firstDiffs (k + 1) r = match vint r with
      | none => none
      | some (n, v, r) => if unknown n v = true then none else (diffsI k v r).map fun y => ((v : Int) :: y.1, y.2) := rfl
    rw [ef]
    cases hv : vint r with
    | none => rfl
    | some x =>
      obtain ⟨n, v, t⟩ := x
      simp only
      by_cases hu : unknown n v = true
      · rw [if_pos hu, if_pos hu]
        rfl
      · rw [if_neg hu, if_neg hu]
        have e1 : k + 1 + 1 - 2 = k := by omega
        rw [e1, diffs_eq]
        cases diffsI k v t with
        | none => rfl
        | some y =>
          show (nonneg y).bind (fun x => cut (v :: x.1) x.2) = cutI ((v : Int) :: y.1, y.2)
          rw [← cutI_eq]
          unfold nonneg
          have h0 : decide (0 ≤ (v : Int)) = true := decide_eq_true (by omega)
          simp only [List.all_cons, h0, Bool.true_and]
          by_cases ha : (y.1.all fun z => decide (0 ≤ z)) = true
          · rw [if_pos ha, if_pos ha]
            show cut (v :: y.1.map Int.toNat) y.2 = cut (((v : Int) :: y.1).map Int.toNat) y.2
            rw [List.map_cons, Int.toNat_natCast]
          · rw [if_neg ha, if_neg ha]
            rfl
end Film

set_option linter.all false
namespace Film
open Sg32
theorem mapM_none {α β : Type} {f : α → Option β} : ∀ {l : List α} {x : α}, x ∈ l → f x = none → l.mapM f = none
  | y :: l, x, h, e => by
    rw [List.mapM_cons]
    rcases List.mem_cons.mp h with z | z
    · rw [← z, e]; rfl
    · cases f y with
      | none => rfl
      | some b => show (l.mapM f).bind _ = none; rw [mapM_none z e]; rfl
theorem mapM_snoc {α β : Type} {f : α → Option β} {l : List α} {x : α} {ys : List β} {y : β} (h : l.mapM f = some ys) (e : f x = some y) : (l ++ [x]).mapM f = some (ys ++ [y]) := by
  rw [List.mapM_append, h]
  show ((([x] : List α).mapM f).bind fun zs => some (ys ++ zs)) = _
  rw [List.mapM_cons, e]
  rfl
theorem mapM_nil {α β : Type} {f : α → Option β} : ([] : List α).mapM f = some [] := rfl
/-- one block's frames from what is behind its track's number -/
def behind (time : Nat) (key : Nat → Bool) (v : Nat) (r : Bytes) : Option (List Frame) :=
  (laced (number ((r.drop 2).take 1)) (r.drop 3)).map fun l => l.map fun x => ⟨v, (time : Int) + signed (number (r.take 2)), key (number ((r.drop 2).take 1)), x⟩
theorem block_none {tr : List Track} {time : Nat} {key : Nat → Bool} {b : Bytes} (h : vint b = none) : block tr time key b = none := by
  unfold block; rw [h]; rfl
theorem block_bad {tr : List Track} {time : Nat} {key : Nat → Bool} {b r : Bytes} {k v : Nat} (h : vint b = some (k, v, r)) (hb : 2 < k ∨ unknown k v = true ∨ (tr.any fun t => t.number == v) = false ∨ r.length < 3) : block tr time key b = none := by
  unfold block; rw [h]
  show (must _).bind _ = none
  have : must (decide (k ≤ 2) && (!unknown k v && (tr.any (fun t => t.number == v) && decide (3 ≤ r.length)))) = none := by
    unfold must
    rw [if_neg]
    intro z
    simp only [Bool.and_eq_true, decide_eq_true_eq, Bool.not_eq_true'] at z
    obtain ⟨z1, z2, z3, z4⟩ := z
    rcases hb with y | y | y | y
    · omega
    · rw [y] at z2; cases z2
    · rw [y] at z3; cases z3
    · omega
  rw [this]
  rfl
theorem block_ok {tr : List Track} {time : Nat} {key : Nat → Bool} {b r : Bytes} {k v : Nat} (h : vint b = some (k, v, r)) (h1 : k ≤ 2) (h2 : unknown k v = false) (h3 : (tr.any fun t => t.number == v) = true) (h4 : 3 ≤ r.length) :
    block tr time key b = behind time key v r := by
  unfold block; rw [h]
  show (must _).bind _ = _
  have : must (decide (k ≤ 2) && (!unknown k v && (tr.any (fun t => t.number == v) && decide (3 ≤ r.length)))) = some () := by
    unfold must
    rw [if_pos]
    simp [h1, h2, h3, h4]
  rw [this]
  unfold behind
  show (laced _ _).bind _ = _
  cases laced (number ((r.drop 2).take 1)) (r.drop 3) <;> rfl
/-- what a holder of a block gives -/
def hold (tr : List Track) (time : Nat) (x : Element) : Option (List Frame) :=
  if x.1 = 0xA3 then block tr time (fun x => decide (128 ≤ x)) x.2
  else (inside x.2).bind fun m => (once 0xA1 m).bind fun c => block tr time (fun _ => (of 0xFB m).isEmpty) c
def isHold (x : Element) : Bool := ([0xA3, 0xA0] : List Nat).contains x.1
theorem blocks_late (tr : List Track) (time : Nat) : ∀ l : List Element, (∀ x, x ∈ l → x.1 ≠ 0xE7) → blocks tr (some time) l = ((l.filter isHold).mapM (hold tr time)).map List.flatten
  | [], _ => rfl
  | (n, b) :: l, h => by
    have hn : n ≠ 0xE7 := h (n, b) (List.mem_cons_self ..)
    have ih := blocks_late tr time l fun x hx => h x (List.mem_cons_of_mem _ hx)
    unfold blocks
    rw [if_neg hn]
    by_cases h3 : n = 0xA3
    · subst h3
      rw [if_pos rfl, List.filter_cons, if_pos (show isHold (0xA3, b) = true from rfl), List.mapM_cons, ih]
      have eh : hold tr time (0xA3, b) = block tr time (fun x => decide (128 ≤ x)) b := rfl
      rw [eh]
      show ((some time).bind fun v => (block tr v (fun x => decide (128 ≤ x)) b).bind fun f => _) = _
      show ((block tr time (fun x => decide (128 ≤ x)) b).bind fun f => ((((l.filter isHold).mapM (hold tr time)).map List.flatten).bind fun r => some (f ++ r))) = _
      cases block tr time (fun x => decide (128 ≤ x)) b with
      | none => rfl
      | some f =>
        cases (l.filter isHold).mapM (hold tr time) <;> rfl
    · rw [if_neg h3]
      by_cases h0 : n = 0xA0
      · subst h0
        rw [if_pos rfl, List.filter_cons, if_pos (show isHold (0xA0, b) = true from rfl), List.mapM_cons, ih]
        have eh : hold tr time (0xA0, b) = (inside b).bind fun m => (once 0xA1 m).bind fun c => block tr time (fun _ => (of 0xFB m).isEmpty) c := rfl
        rw [eh]
        show ((inside b).bind fun m => (once 0xA1 m).bind fun c => (block tr time (fun _ => (of 0xFB m).isEmpty) c).bind fun f => ((((l.filter isHold).mapM (hold tr time)).map List.flatten).bind fun r => some (f ++ r))) = _
        cases inside b with
        | none => rfl
        | some m =>
          show ((once 0xA1 m).bind fun c => _) = (((once 0xA1 m).bind fun c => _).bind _).map _
          cases once 0xA1 m with
          | none => rfl
          | some c =>
            show ((block tr time (fun _ => (of 0xFB m).isEmpty) c).bind fun f => _) = ((block tr time (fun _ => (of 0xFB m).isEmpty) c).bind fun f => _).map _
            cases block tr time (fun _ => (of 0xFB m).isEmpty) c with
            | none => rfl
            | some f =>
              cases (l.filter isHold).mapM (hold tr time) <;> rfl
      · rw [if_neg h0, List.filter_cons, if_neg, ih]
        unfold isHold
        simp [h3, h0]
theorem blocks_early (tr : List Track) (b : Bytes) (post : List Element) : ∀ pre : List Element, (∀ x, x ∈ pre → x.1 ≠ 0xE7) → blocks tr none (pre ++ (0xE7, b) :: post) =
    if (pre.any isHold) = true then none else match value b with
      | none => none
      | some v => if v ≤ 2 ^ 48 then blocks tr (some v) post else none
  | [], _ => by
    show (if (0xE7 : Nat) = 0xE7 then _ else _) = _
    rw [if_pos rfl, if_neg (show ¬ (([] : List Element).any isHold = true) from by decide)]
    cases value b <;> rfl
  | (n, c) :: pre, h => by
    have hn : n ≠ 0xE7 := h (n, c) (List.mem_cons_self ..)
    have ih := blocks_early tr b post pre fun x hx => h x (List.mem_cons_of_mem _ hx)
    show blocks tr none ((n, c) :: (pre ++ (0xE7, b) :: post)) = _
    generalize (match value b with
      | none => none
      | some v => if v ≤ 2 ^ 48 then blocks tr (some v) post else none : Option (List Frame)) = R at ih ⊢
    unfold blocks
    rw [if_neg hn]
    by_cases h3 : n = 0xA3
    · subst h3
      rw [if_pos rfl, if_pos (by rw [List.any_cons]; rfl)]
      rfl
    · rw [if_neg h3]
      by_cases h0 : n = 0xA0
      · subst h0
        rw [if_pos rfl, if_pos (by rw [List.any_cons]; rfl)]
        rfl
      · rw [if_neg h0, ih]
        have e : ((n, c) :: pre).any isHold = pre.any isHold := by
          have : isHold (n, c) = false := by unfold isHold; simp [h3, h0]
          rw [List.any_cons, this, Bool.false_or]
        rw [e]
end Film

set_option linter.all false
namespace Film
open Sg32
theorem erase_le : ∀ (n : Nat) (l : List Nat), l.length ≤ n → l.eraseDups.length ≤ l.length := by
  intro n
  induction n with
  | zero =>
    intro l h
    have : l = [] := List.length_eq_zero_iff.mp (by omega)
    subst this
    simp
  | succ n ih =>
    intro l h
    cases l with
    | nil => simp
    | cons a l =>
      rw [List.eraseDups_cons, List.length_cons, List.length_cons]
      have h1 : (l.filter fun b => !b == a).length ≤ l.length := List.length_filter_le _ _
      have h2 := ih (l.filter fun b => !b == a) (by simp at h; omega)
      omega
theorem distinct_iff : ∀ (n : Nat) (l : List Nat), l.length ≤ n → (l.eraseDups.length = l.length ↔ l.Nodup) := by
  intro n
  induction n with
  | zero =>
    intro l h
    have : l = [] := List.length_eq_zero_iff.mp (by omega)
    subst this
    simp
  | succ n ih =>
    intro l h
    cases l with
    | nil => simp
    | cons a l =>
      rw [List.eraseDups_cons, List.length_cons, List.length_cons, List.nodup_cons]
      have hl : l.length ≤ n := by simp at h; omega
      have h1 : (l.filter fun b => !b == a).length ≤ l.length := List.length_filter_le _ _
      have h2 := erase_le _ (l.filter fun b => !b == a) (Nat.le_refl _)
      by_cases ha : a ∈ l
      · have h3 : (l.filter fun b => !b == a).length < l.length := by
          rw [List.length_filter_lt_length_iff_exists]
          exact ⟨a, ha, by simp⟩
        constructor
        · intro e
          omega
        · intro e
          exact absurd ha e.1
      · have e : (l.filter fun b => !b == a) = l := by
          rw [List.filter_eq_self]
          intro b hb
          have : b ≠ a := fun z => ha (z ▸ hb)
          simp [this]
        rw [e]
        have := ih l hl
        constructor
        · intro q
          exact ⟨ha, this.mp (by omega)⟩
        · intro q
          rw [this.mpr q.2]
theorem distinct_eq (l : List Nat) : distinct l = decide l.Nodup := by
  unfold distinct
  have h := distinct_iff _ l (Nat.le_refl _)
  by_cases hn : l.Nodup
  · rw [decide_eq_true hn, h.mpr hn]
    simp
  · rw [decide_eq_false hn, beq_eq_false_iff_ne]
    exact fun e => hn (h.mp e)
/-- the tracks of an element -/
def readTracks (b : Bytes) : Option (List Track) := (inside b).bind fun es => ((of 0xAE es).mapM track).bind fun tr => (must (!tr.isEmpty && distinct (tr.map fun x => x.number))).bind fun _ => some tr
end Film

set_option Elab.async false
set_option linter.all false
set_option maxRecDepth 100000
set_option maxHeartbeats 1000000
namespace L2
open PySem PySem.Spec PyProof.Rows
section
variable {X : Cx}
theorem mt_bitlen : MtR X "int.bit_length" (fun x xs H Q => ∃ i, x = .int i ∧ xs = [] ∧ Q (.int ((Builtin.Int.intBits i : Nat) : Int)) H) := by
  intro pins s σ H x xs v us Q I rx rv h
  obtain ⟨i, rfl, rfl, q⟩ := h
  obtain ⟨tk, rfl⟩ := rx
  obtain rfl := rv.zero
  exact call_int_bit_length ⟨.int _, H, I.tok _, ⟨_, rfl⟩, q⟩
theorem pe_bitlen {o : Expr} {to : TE} {apos cpos : Pos} (ho : PE X o to) (hbase : attributeBase o "bit_length" X.env (eval o X.env) = eval o X.env := by rfl) (hline : (apos.endLine == cpos.line) = true := by rfl) :
    PE X (.Call (.Attribute o "bit_length" apos) [] [] cpos) (tBM0 X.K "int" (fun x xs H Q => ∃ i, x = .int i ∧ xs = [] ∧ Q (.int ((Builtin.Int.intBits i : Nat) : Int)) H) to) :=
  pe_bm0 PySem.F.plainAttrs_int PySem.F.slot_int_bit_length PySem.F.type_int_bit_length mt_bitlen ho hbase hline
end
end L2
namespace Film
open PySem PySem.Spec PyProof.Rows L2
open Sg32 (Bytes)
/-! ### the data -/
def byV (b : UInt8) : V := .int ((b.toNat : Nat) : Int)
def bys (B : Bytes) : List V := B.map byV
theorem bys_at {B : Bytes} {p : Nat} (h : p < B.length) : (bys B)[p]? = some (byV B[p]) := by
  unfold bys
  rw [List.getElem?_map, List.getElem?_eq_getElem h]
  rfl
theorem bys_len (B : Bytes) : (bys B).length = B.length := by unfold bys; rw [List.length_map]
/-- an instance of C stands at a -/
def Ins (H : Hp) (a C : Addr) (fs : List (Str × V)) : Prop := ∃ dx, H a = some (.ins C dx fs)
theorem Ins.same {H H' : Hp} {a C : Addr} {fs : List (Str × V)} (h : Ins H a C fs) (s : Same H H') : Ins H' a C fs := by
  obtain ⟨dx, e⟩ := h
  exact ⟨dx, s _ _ e⟩
/-- everything but what stands at c stays -/
def Keep (c : Addr) (H H' : Hp) : Prop := ∀ b o, H b = some o → b ≠ c → H' b = some o
theorem Keep.refl (c : Addr) (H : Hp) : Keep c H H := fun _ _ e _ => e
theorem Keep.trans {c : Addr} {H H1 H2 : Hp} (a : Keep c H H1) (b : Keep c H1 H2) : Keep c H H2 := fun x o e n => b x o (a x o e n) n
theorem Same.keep {H H' : Hp} (s : Same H H') (c : Addr) : Keep c H H' := fun b o e _ => s b o e
theorem Keep.ins {c : Addr} {H H' : Hp} {a C D : Addr} {fs gs : List (Str × V)} (k : Keep c H H') (h : Ins H a C fs) (hc : Ins H c D gs) (n : fs ≠ gs) : Ins H' a C fs := by
  obtain ⟨dx, e⟩ := h
  obtain ⟨dy, e'⟩ := hc
  exact ⟨dx, k _ _ e fun z => by rw [z, e'] at e; cases e; exact n rfl⟩
theorem Keep.sq {c : Addr} {K : PySem.W.Frag} {H H' : Hp} {a D : Addr} {xs : List V} {gs : List (Str × V)} (k : Keep c H H') (h : SqL K H a xs) (hc : Ins H c D gs) : SqL K H' a xs := by
  obtain ⟨dy, e'⟩ := hc
  rcases h with (h | ⟨o, h⟩) | h
  · exact .inl (.inl (k _ _ h fun z => by rw [z, e'] at h; cases h))
  · exact .inl (.inr ⟨o, k _ _ h fun z => by rw [z, e'] at h; cases h⟩)
  · exact .inr h
/-- a new instance -/
theorem made_same {H : Hp} {x dx : Addr} {o : HO} (nx : H x = none) (nd : H dx = none) : Same H (upd (upd H dx (.own x)) x o) := fun b u e => by
  rw [upd_ne (ne_of_none e nx), upd_ne (ne_of_none e nd)]
  exact e
abbrev fsLN (k v : V) : List (Str × V) := [("size", k), ("value", v)]
abbrev fsEl (n s e : V) : List (Str × V) := [("name", n), ("start", s), ("end", e)]
abbrev fsCur (f p e : V) : List (Str × V) := [("file", f), ("place", p), ("limit", e)]
theorem pf_LN (a b : V) : putF "value" b (putF "size" a []) = fsLN a b := by kernel_rfl
theorem pf_El (a b c : V) : putF "end" c (putF "start" b (putF "name" a [])) = fsEl a b c := by kernel_rfl
theorem pf_Cur (a b c : V) : putF "limit" c (putF "place" b (putF "file" a [])) = fsCur a b c := by kernel_rfl
theorem pf_place (a b c d : V) : putF "place" d (fsCur a b c) = fsCur a d c := by kernel_rfl
theorem lk_LN_size (a b : V) : (fsLN a b).lookup ("size" : Str) = some a := by kernel_rfl
theorem lk_LN_value (a b : V) : (fsLN a b).lookup ("value" : Str) = some b := by kernel_rfl
theorem lk_El_name (a b c : V) : (fsEl a b c).lookup ("name" : Str) = some a := by kernel_rfl
theorem lk_El_start (a b c : V) : (fsEl a b c).lookup ("start" : Str) = some b := by kernel_rfl
theorem lk_El_end (a b c : V) : (fsEl a b c).lookup ("end" : Str) = some c := by kernel_rfl
theorem lk_Cur_file (a b c : V) : (fsCur a b c).lookup ("file" : Str) = some a := by kernel_rfl
theorem lk_Cur_place (a b c : V) : (fsCur a b c).lookup ("place" : Str) = some b := by kernel_rfl
theorem lk_Cur_limit (a b c : V) : (fsCur a b c).lookup ("limit" : Str) = some c := by kernel_rfl
section
variable {P : Program} {w : World} {K : PySem.W.Frag} {mg : Str → Option Value} {base : Heap} {t : Adr}

/-! ### join_bytes -/
def spJoin (K : PySem.W.Frag) (B : Bytes) : Sp := fun vs H Q _ => ∃ (f : Addr) (s e n : Nat), vs = [.ref f, .int s, .int e, .int n] ∧ SqL K H f (bys B) ∧ s ≤ e ∧ e ≤ B.length ∧ B.length ≤ 100000 ∧ Q (.int ((fold n (sl B s e) : Nat) : Int)) H
theorem sc_join_bytes : FnScope ["file", "start", "end", "front", "value", "place"] ["file", "start", "end", "front"] (defScope s_join_bytes) := ⟨rfl, rfl, rfl, by decide +kernel, rfl, by decide +kernel, by decide +kernel⟩
theorem ok_join_bytes (B : Bytes) (T : Txt K mg t) : FnOk P w K mg base (CXB P w t.c_NotRight) 1 t.f_join_bytes t.d_join_bytes ["file", "start", "end", "front"] (spJoin K B) := by
  refine T.F_join_bytes.okX sc_join_bytes (fun vs H Q E h => ?_) (fun cdv A outer s H vs Q E hr h => ?_)
  · obtain ⟨f, s, e, n, rfl, _⟩ := h
    rfl
  · obtain ⟨f, p, e, n, rfl, hf, hpe, he, hB, k⟩ := h
    refine ⟨_, (pss_cons (ps_set (i := 4) sc_join_bytes.nd rfl (Or.inl rfl) (pv 3))
      (pss_cons (ps_for PassesOwn.leaving rfl (pi_range2 rfl T.n_range (pa_cons (pv 1) (pa_cons (pv 2) pa_nil))) (pg_name (i := 5) sc_join_bytes.nd rfl (Or.inl rfl)) (pss_one (ps_set (i := 4) sc_join_bytes.nd rfl (Or.inl rfl) (pe_op op_add (pe_op op_mul (pv 4) pe_int) (pe_ix ix_list (pv 0) (pv 5) (fun _ _ => rfl))))))
      (pss_one (ps_ret (pv 4))))), ?_⟩
    refine ⟨_, rfl, ?_⟩
    refine ⟨_, rfl, _, rfl, _, _, rfl, ⟨by omega, by omega, by omega, by omega⟩, ?_⟩
    refine for_range (lo := (p : Int)) (n := ((e : Int) - (p : Int)).toNat) (fun i σ H2 => H2 = H ∧ ∃ v5 : Option V, σ = [some (.ref f), some (.int p), some (.int e), some (.int n), some (.int ((fold n (sl B p (p + i)) : Nat) : Int)), v5]) ⟨rfl, none, ?_⟩ ?_ ?_
    · have e0 : sl B p (p + 0) = [] := sl_nil B (Nat.le_refl p)
      rw [e0]
      rfl
    · rintro i σ H2 hi ⟨rfl, v5, rfl⟩
      have hlt : p + i < B.length := by omega
      refine ⟨_, rfl, _, _, rfl, rfl, .inr ⟨by decide, by decide⟩, _, rfl, _, rfl, f, _, _, _, rfl, rfl, hf, at_of (j := p + i) (by omega) (bys_at hlt), _, _, rfl, rfl, ?_⟩
      refine ⟨rfl, some (.int (p + i)), ?_⟩
      have e1 : sl B p (p + (i + 1)) = sl B p (p + i) ++ [B[p + i]] := by
        unfold sl
        rw [← Nat.add_assoc, List.take_succ_eq_append_getElem hlt, List.drop_append_of_le_length (by rw [List.length_take]; omega)]
      rw [e1, fold_snoc]
      have e2 : ((256 * fold n (sl B p (p + i)) + (B[p + i]).toNat : Nat) : Int) = ((fold n (sl B p (p + i)) : Nat) : Int) * 256 + (((B[p + i]).toNat : Nat) : Int) := by omega
      rw [e2]
      rfl
    · rintro σ H2 ⟨rfl, v5, rfl⟩
      refine ⟨_, rfl, ?_⟩
      have e1 : p + ((e : Int) - (p : Int)).toNat = e := by omega
      rw [e1]
      exact k

/-! ### LengthNumber -/
def spI_LN (t : Adr) : Sp := fun vs H Q _ => ∃ (p dx : Addr) (a b : V), vs = [.ref p, a, b] ∧ H p = some (.ins t.c_LengthNumber dx []) ∧ Q .non (upd H p (.ins t.c_LengthNumber dx (fsLN a b)))
theorem sc_LengthNumber_init : FnScope ["self", "size", "value"] ["self", "size", "value"] (defScope s_LengthNumber_init) := ⟨rfl, rfl, rfl, by decide +kernel, rfl, by decide +kernel, by decide +kernel⟩
theorem ok_LengthNumber_init (T : Txt K mg t) : FnOk P w K mg base (CXB P w t.c_NotRight) 1 t.f_LengthNumber_init t.d_LengthNumber_init ["self", "size", "value"] (spI_LN t) := by
  refine T.F_LengthNumber_init.okX sc_LengthNumber_init (fun vs H Q E h => ?_) (fun cdv A outer s H vs Q E hr h => ?_)
  · obtain ⟨p, dx, a, b, rfl, _⟩ := h
    rfl
  · obtain ⟨p, dx, a, b, rfl, hp, k⟩ := h
    refine ⟨_, (pss_cons (ps_fld (pv 0) (pv 1) rfl)
      (pss_one (ps_fld (pv 0) (pv 2) rfl))), ?_⟩
    refine ⟨_, rfl, _, rfl, p, _, dx, [], rfl, hp, T.cl_LengthNumber, T.na_LengthNumber_size, (by show 0 < 1000; decide), ?_⟩
    refine ⟨_, rfl, _, rfl, p, _, dx, _, rfl, upd_same, T.cl_LengthNumber, T.na_LengthNumber_value, (by show 1 < 1000; decide), ?_⟩
    rw [upd_upd, pf_LN]
    exact k
def LnAt (t : Adr) (H : Hp) (a : Addr) (k v : Nat) : Prop := Ins H a t.c_LengthNumber (fsLN (.int k) (.int v))
def ElAt (t : Adr) (H : Hp) (a : Addr) (n s e : Nat) : Prop := Ins H a t.c_Element (fsEl (.int n) (.int s) (.int e))
def CurAt (t : Adr) (H : Hp) (c f : Addr) (p e : Nat) : Prop := Ins H c t.c_Cursor (fsCur (.ref f) (.int p) (.int e))
theorem El_ne_Cur (a b c x y z : V) : fsEl a b c ≠ fsCur x y z := fun e => by
  have h := congrArg (fun l => List.lookup ("limit" : Str) l) e
  rw [lk_Cur_limit] at h
  have h0 : (fsEl a b c).lookup ("limit" : Str) = none := by kernel_rfl
  exact absurd (h0.symm.trans h) (fun q => by cases q)
theorem LN_ne_Cur (a b x y z : V) : fsLN a b ≠ fsCur x y z := fun e => by
  have h := congrArg (fun l => List.lookup ("limit" : Str) l) e
  rw [lk_Cur_limit] at h
  have h0 : (fsLN a b).lookup ("limit" : Str) = none := by kernel_rfl
  exact absurd (h0.symm.trans h) (fun q => by cases q)
/-- what is all ones, by how many bytes -/
theorem ones_at : ∀ k : Fin 9, ([0, 127, 16383, 2097151, 268435455, 34359738367, 4398046511103, 562949953421311, 72057594037927935].map V.int)[k.val]? = some (.int (2 ^ (7 * k.val) - 1)) := by decide +kernel
theorem ones_of {k : Nat} (h : k ≤ 8) : atI ([0, 127, 16383, 2097151, 268435455, 34359738367, 4398046511103, 562949953421311, 72057594037927935].map V.int) (k : Int) = some (.int (2 ^ (7 * k) - 1)) :=
  at_of (j := k) rfl (ones_at ⟨k, by omega⟩)
theorem pow_cast (n : Nat) : ((2 ^ n : Nat) : Int) = 2 ^ n := by rw [Int.natCast_pow]; rfl
def spOnes (t : Adr) : Sp := fun vs H Q _ => ∃ (a : Addr) (k v : Nat), vs = [.ref a] ∧ LnAt t H a k v ∧ k ≤ 8 ∧ Q (.bl (Sg32.unknown k v)) H
theorem sc_LengthNumber_is_all_ones : FnScope ["self"] ["self"] (defScope s_LengthNumber_is_all_ones) := ⟨rfl, rfl, rfl, by decide +kernel, rfl, by decide +kernel, by decide +kernel⟩
theorem ok_LengthNumber_is_all_ones (T : Txt K mg t) : FnOk P w K mg base (CXB P w t.c_NotRight) 1 t.f_LengthNumber_is_all_ones t.d_LengthNumber_is_all_ones ["self"] (spOnes t) := by
  refine T.F_LengthNumber_is_all_ones.okX sc_LengthNumber_is_all_ones (fun vs H Q E h => ?_) (fun cdv A outer s H vs Q E hr h => ?_)
  · obtain ⟨a, k, v, rfl, _⟩ := h
    rfl
  · obtain ⟨a, k, v, rfl, ⟨dx, ha⟩, hk, q⟩ := h
    refine ⟨_, (pss_one (ps_ret (pe_cmpR op_eq (pe_fld (pv 0) rfl) (pe_ix ix_tup (pe_glob (v := V.ref t.a_ALL_ONES) rfl T.mg_ALL_ONES rfl) (pe_fld (pv 0) rfl) (fun _ _ => rfl)) (nomark _)))), ?_⟩
    refine ⟨_, rfl, a, _, dx, _, _, rfl, ha, T.cl_LengthNumber, T.na_LengthNumber_value, lk_LN_value _ _, _, rfl, a, _, dx, _, _, rfl, ha, T.cl_LengthNumber, T.na_LengthNumber_size, lk_LN_size _ _, t.a_ALL_ONES, _, _, _, rfl, rfl, T.sq_ALL_ONES H, ones_of hk, rfl, ?_⟩
    have e : decide (V.int (v : Int) = V.int (2 ^ (7 * k) - 1)) = Sg32.unknown k v := by
      unfold Sg32.unknown
      rw [dec_int]
      have hp : 0 < 2 ^ (7 * k) := Nat.two_pow_pos _
      rw [← pow_cast]
      generalize 2 ^ (7 * k) = m at hp ⊢
      have e1 : ((m : Nat) : Int) - 1 = ((m - 1 : Nat) : Int) := by omega
      rw [e1]
      by_cases h : v = m - 1
      · simp [h]
      · have h2 : ¬ ((v : Int) = ((m - 1 : Nat) : Int)) := by omega
        rw [beq_eq_false_iff_ne.mpr h2, beq_eq_false_iff_ne.mpr h]
    rw [e]
    exact q

/-! ### Element, Cursor -/
def spI_El (t : Adr) : Sp := fun vs H Q _ => ∃ (p dx : Addr) (a b c : V), vs = [.ref p, a, b, c] ∧ H p = some (.ins t.c_Element dx []) ∧ Q .non (upd H p (.ins t.c_Element dx (fsEl a b c)))
theorem sc_Element_init : FnScope ["self", "name", "start", "end"] ["self", "name", "start", "end"] (defScope s_Element_init) := ⟨rfl, rfl, rfl, by decide +kernel, rfl, by decide +kernel, by decide +kernel⟩
theorem ok_Element_init (T : Txt K mg t) : FnOk P w K mg base (CXB P w t.c_NotRight) 1 t.f_Element_init t.d_Element_init ["self", "name", "start", "end"] (spI_El t) := by
  refine T.F_Element_init.okX sc_Element_init (fun vs H Q E h => ?_) (fun cdv A outer s H vs Q E hr h => ?_)
  · obtain ⟨p, dx, a, b, c, rfl, _⟩ := h
    rfl
  · obtain ⟨p, dx, a, b, c, rfl, hp, k⟩ := h
    refine ⟨_, (pss_cons (ps_fld (pv 0) (pv 1) rfl)
      (pss_cons (ps_fld (pv 0) (pv 2) rfl)
      (pss_one (ps_fld (pv 0) (pv 3) rfl)))), ?_⟩
    refine ⟨_, rfl, _, rfl, p, _, dx, [], rfl, hp, T.cl_Element, T.na_Element_name, (by show 0 < 1000; decide), ?_⟩
    refine ⟨_, rfl, _, rfl, p, _, dx, _, rfl, upd_same, T.cl_Element, T.na_Element_start, (by show 1 < 1000; decide), ?_⟩
    refine ⟨_, rfl, _, rfl, p, _, dx, _, rfl, upd_same, T.cl_Element, T.na_Element_end, Nat.lt_of_le_of_lt (length_putF _ _ _) (by show 2 < 1000; decide), ?_⟩
    rw [upd_upd, upd_upd, pf_El]
    exact k
def spI_Cur (t : Adr) : Sp := fun vs H Q _ => ∃ (p dx : Addr) (a b c : V), vs = [.ref p, a, b, c] ∧ H p = some (.ins t.c_Cursor dx []) ∧ Q .non (upd H p (.ins t.c_Cursor dx (fsCur a b c)))
theorem sc_Cursor_init : FnScope ["self", "file", "start", "end"] ["self", "file", "start", "end"] (defScope s_Cursor_init) := ⟨rfl, rfl, rfl, by decide +kernel, rfl, by decide +kernel, by decide +kernel⟩
theorem ok_Cursor_init (T : Txt K mg t) : FnOk P w K mg base (CXB P w t.c_NotRight) 1 t.f_Cursor_init t.d_Cursor_init ["self", "file", "start", "end"] (spI_Cur t) := by
  refine T.F_Cursor_init.okX sc_Cursor_init (fun vs H Q E h => ?_) (fun cdv A outer s H vs Q E hr h => ?_)
  · obtain ⟨p, dx, a, b, c, rfl, _⟩ := h
    rfl
  · obtain ⟨p, dx, a, b, c, rfl, hp, k⟩ := h
    refine ⟨_, (pss_cons (ps_fld (pv 0) (pv 1) rfl)
      (pss_cons (ps_fld (pv 0) (pv 2) rfl)
      (pss_one (ps_fld (pv 0) (pv 3) rfl)))), ?_⟩
    refine ⟨_, rfl, _, rfl, p, _, dx, [], rfl, hp, T.cl_Cursor, T.na_Cursor_file, (by show 0 < 1000; decide), ?_⟩
    refine ⟨_, rfl, _, rfl, p, _, dx, _, rfl, upd_same, T.cl_Cursor, T.na_Cursor_place, (by show 1 < 1000; decide), ?_⟩
    refine ⟨_, rfl, _, rfl, p, _, dx, _, rfl, upd_same, T.cl_Cursor, T.na_Cursor_limit, Nat.lt_of_le_of_lt (length_putF _ _ _) (by show 2 < 1000; decide), ?_⟩
    rw [upd_upd, upd_upd, pf_Cur]
    exact k
def spLeft (t : Adr) : Sp := fun vs H Q _ => ∃ (c f : Addr) (p e : Nat), vs = [.ref c] ∧ CurAt t H c f p e ∧ Q (.int ((e : Int) - (p : Int))) H
theorem sc_Cursor_bytes_left : FnScope ["self"] ["self"] (defScope s_Cursor_bytes_left) := ⟨rfl, rfl, rfl, by decide +kernel, rfl, by decide +kernel, by decide +kernel⟩
theorem ok_Cursor_bytes_left (T : Txt K mg t) : FnOk P w K mg base (CXB P w t.c_NotRight) 1 t.f_Cursor_bytes_left t.d_Cursor_bytes_left ["self"] (spLeft t) := by
  refine T.F_Cursor_bytes_left.okX sc_Cursor_bytes_left (fun vs H Q E h => ?_) (fun cdv A outer s H vs Q E hr h => ?_)
  · obtain ⟨c, f, p, e, rfl, _⟩ := h
    rfl
  · obtain ⟨c, f, p, e, rfl, ⟨dx, hc⟩, q⟩ := h
    refine ⟨_, (pss_one (ps_ret (pe_op op_sub (pe_fld (pv 0) rfl) (pe_fld (pv 0) rfl)))), ?_⟩
    exact ⟨_, rfl, c, _, dx, _, _, rfl, hc, T.cl_Cursor, T.na_Cursor_limit, lk_Cur_limit _ _ _, _, rfl, c, _, dx, _, _, rfl, hc, T.cl_Cursor, T.na_Cursor_place, lk_Cur_place _ _ _, _, _, rfl, rfl, q⟩
def spSkip (t : Adr) : Sp := fun vs H Q E => ∃ (c f : Addr) (p e n : Nat), vs = [.ref c, .int n] ∧ CurAt t H c f p e ∧ p ≤ e ∧
  (if p + n ≤ e then ∀ H', CurAt t H' c f (p + n) e → Keep c H H' → Q .non H' else Esc t.c_NotRight E)
theorem sc_Cursor_skip : FnScope ["self", "size"] ["self", "size"] (defScope s_Cursor_skip) := ⟨rfl, rfl, rfl, by decide +kernel, rfl, by decide +kernel, by decide +kernel⟩
theorem ok_Cursor_skip (T : Txt K mg t) : FnOk P w K mg base (CXB P w t.c_NotRight) 2 t.f_Cursor_skip t.d_Cursor_skip ["self", "size"] (spSkip t) := by
  have G_Cursor_bytes_left := ok_Cursor_bytes_left (P := P) (w := w) (base := base) T
  refine T.F_Cursor_skip.okX sc_Cursor_skip (fun vs H Q E h => ?_) (fun cdv A outer s H vs Q E hr h => ?_)
  · obtain ⟨c, f, p, e, n, rfl, _⟩ := h
    rfl
  · obtain ⟨c, f, p, e, n, rfl, ⟨dx, hc⟩, hpe, q⟩ := h
    refine ⟨_, (pss_cons (ps_if (pt_cmpR op_gt (pv 1) (pe_meth0 (pv 0) T.cl_Cursor T.me_Cursor_bytes_left G_Cursor_bytes_left (hr.mono (by decide)) T.b_Cursor_bytes_left .nil pX) (nomark _)) (pss_one (ps_raiseB T.exc rfl T.mg_NotRight)) pss_nil)
      (pss_one (ps_fldaug (pv 0) (pv 1) in_add))), ?_⟩
    refine ⟨_, rfl, _, rfl, c, dx, _, rfl, hc, (by kernel_rfl), c, f, p, e, rfl, ⟨dx, hc⟩, _, _, rfl, rfl, _, rfl, ?_⟩
    refine ite2 (fun hd => ?_) fun hd => ?_
    · have hd := of_decide_eq_true hd
      rw [if_neg (by omega)] at q
      exact q
    · have hd : ¬ ((e : Int) - p < n) := fun z => hd (decide_eq_true z)
      rw [if_pos (by omega)] at q
      refine ⟨_, rfl, c, _, dx, _, _, rfl, hc, T.cl_Cursor, T.na_Cursor_place, lk_Cur_place _ _ _, _, rfl, _, _, rfl, rfl, dx, _, hc, (by show 3 < 1000; decide), ?_⟩
      have e1 : putF "place" (V.int ((p : Int) + (n : Int))) (fsCur (.ref f) (.int p) (.int e)) = fsCur (.ref f) (.int ((p + n : Nat) : Int)) (.int e) := by rw [pf_place]; rfl
      exact q _ ⟨dx, Eq.trans upd_same (congrArg (fun z => some (HO.ins t.c_Cursor dx z)) e1)⟩ fun b o eb nb => by rw [upd_ne nb]; exact eb
end
end Film

set_option Elab.async false
set_option linter.all false
set_option maxRecDepth 100000
set_option maxHeartbeats 1000000
namespace Film
open PySem PySem.Spec PyProof.Rows L2
open Sg32 (Bytes vint named element unknown)
section
variable {P : Program} {w : World} {K : PySem.W.Frag} {mg : Str → Option Value} {base : Heap} {t : Adr}
/-- a cursor over the file's stretch from p to e -/
structure CurB (t : Adr) (K : PySem.W.Frag) (B : Bytes) (H : Hp) (c f : Addr) (p e : Nat) : Prop where
  cur : CurAt t H c f p e
  pe : p ≤ e
  eB : e ≤ B.length
  fl : SqL K H f (bys B)
  len : B.length ≤ 100000
theorem CurB.step {B : Bytes} {H H' : Hp} {c f : Addr} {p q e : Nat} (h : CurB t K B H c f p e) (k : Keep c H H') (hc : CurAt t H' c f q e) (hq : q ≤ e) : CurB t K B H' c f q e :=
  ⟨hc, hq, h.eB, k.sq h.fl h.cur, h.len⟩
def spByte (t : Adr) (K : PySem.W.Frag) (B : Bytes) : Sp := fun vs H Q E => ∃ (c f : Addr) (p e : Nat), vs = [.ref c] ∧ CurB t K B H c f p e ∧
  (∀ b r, sl B p e = b :: r → ∀ H', CurB t K B H' c f (p + 1) e → Keep c H H' → Q (byV b) H') ∧ (sl B p e = [] → Esc t.c_NotRight E)
theorem sc_Cursor_take_byte : FnScope ["self"] ["self"] (defScope s_Cursor_take_byte) := ⟨rfl, rfl, rfl, by decide +kernel, rfl, by decide +kernel, by decide +kernel⟩
theorem ok_Cursor_take_byte (B : Bytes) (T : Txt K mg t) : FnOk P w K mg base (CXB P w t.c_NotRight) 3 t.f_Cursor_take_byte t.d_Cursor_take_byte ["self"] (spByte t K B) := by
  have G_Cursor_skip := ok_Cursor_skip (P := P) (w := w) (base := base) T
  refine T.F_Cursor_take_byte.okX sc_Cursor_take_byte (fun vs H Q E h => ?_) (fun cdv A outer s H vs Q E hr h => ?_)
  · obtain ⟨c, f, p, e, rfl, _⟩ := h
    rfl
  · obtain ⟨c, f, p, e, rfl, cb, q1, q2⟩ := h
    obtain ⟨dx, hc⟩ := cb.cur
    refine ⟨_, (pss_cons (ps_expr (pe_meth (pv 0) T.cl_Cursor T.me_Cursor_skip G_Cursor_skip (hr.mono (by decide)) T.b_Cursor_skip .nil pX (pa_cons pe_int pa_nil)))
      (pss_one (ps_ret (pe_ix ix_list (pe_fld (pv 0) rfl) (pe_op op_sub (pe_fld (pv 0) rfl) pe_int) (fun _ _ => rfl))))), ?_⟩
    refine ⟨_, rfl, c, dx, _, rfl, hc, (by kernel_rfl), c, f, p, e, 1, rfl, ⟨dx, hc⟩, cb.pe, ?_⟩
    have hpe := cb.pe
    have heB := cb.eB
    by_cases hlt : p + 1 ≤ e
    · rw [if_pos hlt]
      intro H1 c1 k1
      obtain ⟨dx1, hc1⟩ := id c1
      have cb1 := cb.step k1 c1 hlt
      have hp : p < B.length := by omega
      refine ⟨_, rfl, c, _, dx1, _, _, rfl, hc1, T.cl_Cursor, T.na_Cursor_file, lk_Cur_file _ _ _, _, rfl, c, _, dx1, _, _, rfl, hc1, T.cl_Cursor, T.na_Cursor_place, lk_Cur_place _ _ _, _, _, rfl, rfl,
        f, _, _, _, rfl, rfl, cb1.fl, at_of (j := p) (by omega) (bys_at hp), ?_⟩
      exact q1 _ _ (sl_cons (by omega) heB) H1 cb1 k1
    · rw [if_neg hlt]
      exact EE.esc (q2 (sl_nil B (by omega)))

def spLen (t : Adr) (K : PySem.W.Frag) (B : Bytes) : Sp := fun vs H Q E => ∃ (c f : Addr) (p e m : Nat), vs = [.ref c, .int m] ∧ CurB t K B H c f p e ∧ m ≤ 8 ∧
  (vint (sl B p e) = none → Esc t.c_NotRight E) ∧ (∀ k v r, vint (sl B p e) = some (k, v, r) → m < k → Esc t.c_NotRight E) ∧
  (∀ k v r, vint (sl B p e) = some (k, v, r) → k ≤ m → ∀ H' a, CurB t K B H' c f (p + k) e → LnAt t H' a k v → H a = none → Keep c H H' → Q (.ref a) H')
theorem bits_size {b : UInt8} : (9 : Int) - ((Builtin.Int.intBits ((b.toNat : Nat) : Int) : Nat) : Int) = if b.toNat = 0 then 9 else ((Sg32.size b.toNat : Nat) : Int) := by
  have h : ∀ c : _root_.Fin 256, (9 : Int) - ((Builtin.Int.intBits ((c.val : Nat) : Int) : Nat) : Int) = if c.val = 0 then 9 else ((Sg32.size c.val : Nat) : Int) := by decide +kernel
  exact h ⟨b.toNat, b.toNat_lt⟩
theorem mask_size {b : UInt8} {k : Nat} (hk : k ≤ 8) : Builtin.bitAnd ((b.toNat : Nat) : Int) ((255 : Int) / 2 ^ ((k : Nat) : Int).toNat) = ((b.toNat % 2 ^ (8 - k) : Nat) : Int) := by
  rw [Int.toNat_natCast, mask_val ⟨k, by omega⟩, Bits.bitAnd_mask _ (by omega)]
  simp only
  rw [Int.natCast_emod, pow_cast]
theorem sc_Cursor_take_length_number : FnScope ["self", "most_bytes", "first", "size", "start"] ["self", "most_bytes"] (defScope s_Cursor_take_length_number) := ⟨rfl, rfl, rfl, by decide +kernel, rfl, by decide +kernel, by decide +kernel⟩
theorem ok_Cursor_take_length_number (B : Bytes) (T : Txt K mg t) : FnOk P w K mg base (CXB P w t.c_NotRight) 4 t.f_Cursor_take_length_number t.d_Cursor_take_length_number ["self", "most_bytes"] (spLen t K B) := by
  have G_Cursor_take_byte := ok_Cursor_take_byte (P := P) (w := w) (base := base) B T
  have G_Cursor_skip := ok_Cursor_skip (P := P) (w := w) (base := base) T
  have G_LengthNumber_init := ok_LengthNumber_init (P := P) (w := w) (base := base) T
  have G_join_bytes := ok_join_bytes (P := P) (w := w) (base := base) B T
  refine T.F_Cursor_take_length_number.okX sc_Cursor_take_length_number (fun vs H Q E h => ?_) (fun cdv A outer s H vs Q E hr h => ?_)
  · obtain ⟨c, f, p, e, m, rfl, _⟩ := h
    rfl
  · obtain ⟨c, f, p, e, m, rfl, cb, hm, q1, q2, q3⟩ := h
    obtain ⟨dx, hc⟩ := cb.cur
    refine ⟨_, (pss_cons (ps_set (i := 2) sc_Cursor_take_length_number.nd rfl (Or.inl rfl) (pe_meth0 (pv 0) T.cl_Cursor T.me_Cursor_take_byte G_Cursor_take_byte (hr.mono (by decide)) T.b_Cursor_take_byte .nil pX))
      (pss_cons (ps_set (i := 3) sc_Cursor_take_length_number.nd rfl (Or.inl rfl) (pe_op op_sub pe_int (pe_bitlen (pv 2))))
      (pss_cons (ps_if (pt_cmpR op_gt (pv 3) (pv 1) (nomark _)) (pss_one (ps_raiseB T.exc rfl T.mg_NotRight)) pss_nil)
      (pss_cons (ps_set (i := 4) sc_Cursor_take_length_number.nd rfl (Or.inl rfl) (pe_fld (pv 0) rfl))
      (pss_cons (ps_expr (pe_meth (pv 0) T.cl_Cursor T.me_Cursor_skip G_Cursor_skip (hr.mono (by decide)) T.b_Cursor_skip .nil pX (pa_cons (pe_op op_sub (pv 3) pe_int) pa_nil)))
      (pss_one (ps_ret (pe_make T.mk_LengthNumber G_LengthNumber_init (hr.mono (by decide)) rfl T.mg_LengthNumber T.b_LengthNumber_init .nil pX (pa_cons (pv 3) (pa_cons (pe_call G_join_bytes (hr.mono (by decide)) rfl T.mg_join_bytes T.F_join_bytes.kp T.b_join_bytes .nil pX (pa_cons (pe_fld (pv 0) rfl) (pa_cons (pv 4) (pa_cons (pe_fld (pv 0) rfl) (pa_cons (pe_op op_and (pv 2) (pe_op op_shr pe_int (pv 3))) pa_nil))))) pa_nil)))))))))), ?_⟩
    -- first = self.take_byte()
    refine ⟨_, rfl, c, dx, _, rfl, hc, (by kernel_rfl), c, f, p, e, rfl, cb, fun b r hb H1 cb1 k1 => ?_, fun hnil => EE.esc (q1 (by rw [hnil]; rfl))⟩
    obtain ⟨dx1, hc1⟩ := cb1.cur
    have er : r = sl B (p + 1) e := by
      have := sl_drop B p e 1
      rw [hb] at this
      exact this
    subst er
    -- size = 9 - first.bit_length()
    refine ⟨_, rfl, rfl, _, rfl, rfl, _, _, rfl, rfl, ?_⟩
    dsimp only
    rw [bits_size]
    have hl : (sl B p e).length = e - p := sl_length cb.eB
    by_cases h0 : b.toNat = 0
    · rw [if_pos h0]
      refine ⟨_, rfl, _, rfl, _, _, rfl, rfl, _, rfl, ?_⟩
      have hd : decide ((m : Int) < 9) = true := decide_eq_true (by omega)
      rw [hd]
      exact iteT (q1 (by rw [hb]; exact vint_zero h0))
    · rw [if_neg h0]
      have hk8 : Sg32.size b.toNat ≤ 8 := size_le _
      have hk1 : 1 ≤ Sg32.size b.toNat := (size_bits ⟨b.toNat, b.toNat_lt⟩ (by simp only; omega)).2
      generalize hk : Sg32.size b.toNat = k at hk8 hk1 ⊢
      refine ⟨_, rfl, _, rfl, _, _, rfl, rfl, _, rfl, ite2 (fun hd => ?_) fun hd => ?_⟩
      · -- too long
        have hd := of_decide_eq_true hd
        by_cases hs : k ≤ e - p
        · have hv := vint_ok (c := b) (b := sl B (p + 1) e) (by omega) (by rw [← hb, hl, hk]; exact hs)
          rw [← hb] at hv
          exact q2 _ _ _ hv (by omega)
        · exact q1 (by rw [hb]; exact vint_short (by rw [← hb, hl, hk]; omega))
      · have hd : ¬ ((m : Int) < (k : Int)) := fun z => hd (decide_eq_true z)
        -- start = self.place; self.skip(size - 1)
        refine ⟨_, rfl, c, _, dx1, _, _, rfl, hc1, T.cl_Cursor, T.na_Cursor_place, lk_Cur_place _ _ _, ?_⟩
        refine ⟨_, rfl, c, dx1, _, rfl, hc1, (by kernel_rfl), _, rfl, _, _, rfl, rfl, c, f, p + 1, e, k - 1, congrArg (fun z => [V.ref c, V.int z]) (by omega), ⟨dx1, hc1⟩, cb1.pe, ?_⟩
        have hpe := cb.pe
        have hpe1 := cb1.pe
        by_cases hs : p + 1 + (k - 1) ≤ e
        · rw [if_pos hs]
          intro H2 c2 k2
          have cb2 := cb1.step k2 c2 hs
          obtain ⟨dx2, hc2⟩ := id c2
          have hv := vint_ok (c := b) (b := sl B (p + 1) e) (by omega) (by rw [← hb, hl, hk]; omega)
          rw [← hb, hk] at hv
          -- return LengthNumber(..)
          refine ⟨_, rfl, _, rfl, c, _, dx2, _, _, rfl, hc2, T.cl_Cursor, T.na_Cursor_file, lk_Cur_file _ _ _, _, rfl, _, rfl, c, _, dx2, _, _, rfl, hc2, T.cl_Cursor, T.na_Cursor_place, lk_Cur_place _ _ _,
            _, rfl, _, rfl, _, _, rfl, rfl, (by omega), _, _, rfl, rfl, f, p + 1, p + 1 + (k - 1), b.toNat % 2 ^ (8 - k), ?_, cb2.fl, by omega, by have := cb.eB; omega, cb.len, ?_⟩
          · show [V.ref f, V.int ((p + 1 : Nat) : Int), V.int ((p + 1 + (k - 1) : Nat) : Int), V.int (Builtin.bitAnd ((b.toNat : Nat) : Int) ((255 : Int) / 2 ^ ((k : Nat) : Int).toNat))] = _
            rw [mask_size hk8]
          · intro x dy nx nd ne
            refine ⟨x, dy, _, _, rfl, upd_same, rfl, ?_⟩
            rw [upd_upd]
            have s3 := made_same (o := .ins t.c_LengthNumber dy (fsLN (.int k) (.int ((fold (b.toNat % 2 ^ (8 - k)) (sl B (p + 1) (p + 1 + (k - 1))) : Nat) : Int)))) nx nd
            have c3 : CurB t K B _ c f (p + k) e := (cb2.step (Same.keep s3 c) (Ins.same (show CurAt t H2 c f (p + k) e by rw [show p + k = p + 1 + (k - 1) by omega]; exact c2) s3) (by omega))
            refine q3 k _ _ hv (by omega) _ x c3 ?_ ?_ (k1.trans (k2.trans (Same.keep s3 c)))
            · refine ⟨dy, ?_⟩
              rw [sl_take B (by omega)]
              exact upd_same
            · cases z : H x with
              | none => rfl
              | some o =>
                by_cases zc : x = c
                · rw [zc, hc2] at nx
                  cases nx
                · rw [(k1.trans k2) x o z zc] at nx
                  cases nx
        · rw [if_neg hs]
          exact EE.esc (q1 (by rw [hb]; exact vint_short (by rw [← hb, hl, hk]; omega)))
end
end Film

set_option Elab.async false
set_option linter.all false
set_option maxRecDepth 100000
set_option maxHeartbeats 1000000
namespace Film
open PySem PySem.Spec PyProof.Rows L2
open Sg32 (Bytes vint named element unknown)
theorem named_none {b : Bytes} (h : vint b = none) : named b = none := by unfold named; rw [h]
theorem named_bad {b : Bytes} {k v : Nat} {r : Bytes} (h : vint b = some (k, v, r)) (hb : 4 < k ∨ unknown k v = true ∨ (1 < k ∧ v ≤ 2 ^ (7 * (k - 1)) - 2)) : named b = none := by
  unfold named; rw [h]; simp only; rw [if_pos hb]
theorem named_ok {b : Bytes} {k v : Nat} {r : Bytes} (h : vint b = some (k, v, r)) (h1 : k ≤ 4) (h2 : unknown k v = false) (h3 : ¬ (1 < k ∧ v ≤ 2 ^ (7 * (k - 1)) - 2)) : named b = some (v + 2 ^ (7 * k), r) := by
  unfold named; rw [h]; simp only
  rw [if_neg (by rintro (z | z | z); omega; rw [h2] at z; cases z; exact h3 z), number_take h]
theorem element_name {o : Bool} {b : Bytes} (h : named b = none) : element o b = none := by unfold element; rw [h]
theorem element_vint {o : Bool} {b r : Bytes} {n : Nat} (h : named b = some (n, r)) (h2 : vint r = none) : element o b = none := by unfold element; rw [h]; simp only; rw [h2]
theorem element_unk {b r t : Bytes} {n k v : Nat} (h : named b = some (n, r)) (h2 : vint r = some (k, v, t)) (h3 : unknown k v = true) : element false b = none := by
  unfold element; rw [h]; simp only; rw [h2]; simp [h3]
theorem element_open {b r t : Bytes} {n k v : Nat} (h : named b = some (n, r)) (h2 : vint r = some (k, v, t)) (h3 : unknown k v = true) : element true b = some ((n, t), []) := by
  unfold element; rw [h]; simp only; rw [h2]; simp [h3]
theorem element_far {o : Bool} {b r t : Bytes} {n k v : Nat} (h : named b = some (n, r)) (h2 : vint r = some (k, v, t)) (h3 : unknown k v = false) (h4 : t.length < v) : element o b = none := by
  unfold element; rw [h]; simp only; rw [h2]; simp [h3, h4]
theorem element_ok {o : Bool} {b r t : Bytes} {n k v : Nat} (h : named b = some (n, r)) (h2 : vint r = some (k, v, t)) (h3 : unknown k v = false) (h4 : ¬ t.length < v) : element o b = some ((n, t.take v), t.drop v) := by
  unfold element; rw [h]; simp only; rw [h2]; simp [h3, h4]
section
variable {P : Program} {w : World} {K : PySem.W.Frag} {mg : Str → Option Value} {base : Heap} {t : Adr}
theorem Keep.none {c : Addr} {H H' : Hp} {a : Addr} {D : Addr} {fs : List (Str × V)} (k : Keep c H H') (hc : Ins H' c D fs) (n : H' a = Option.none) : H a = Option.none := by
  cases z : H a with
  | none => rfl
  | some o =>
    by_cases zc : a = c
    · obtain ⟨dx, e⟩ := hc
      rw [zc, e] at n
      cases n
    · rw [k a o z zc] at n
      cases n
def spKnown (t : Adr) (K : PySem.W.Frag) (B : Bytes) : Sp := fun vs H Q E => ∃ (c f : Addr) (p e m : Nat), vs = [.ref c, .int m] ∧ CurB t K B H c f p e ∧ m ≤ 8 ∧
  (vint (sl B p e) = none → Esc t.c_NotRight E) ∧ (∀ k v r, vint (sl B p e) = some (k, v, r) → (m < k ∨ unknown k v = true) → Esc t.c_NotRight E) ∧
  (∀ k v r, vint (sl B p e) = some (k, v, r) → k ≤ m → unknown k v = false → ∀ H' a, CurB t K B H' c f (p + k) e → LnAt t H' a k v → H a = none → Keep c H H' → Q (.ref a) H')
theorem sc_Cursor_take_known_number : FnScope ["self", "most_bytes", "number"] ["self", "most_bytes"] (defScope s_Cursor_take_known_number) := ⟨rfl, rfl, rfl, by decide +kernel, rfl, by decide +kernel, by decide +kernel⟩
theorem ok_Cursor_take_known_number (B : Bytes) (T : Txt K mg t) : FnOk P w K mg base (CXB P w t.c_NotRight) 5 t.f_Cursor_take_known_number t.d_Cursor_take_known_number ["self", "most_bytes"] (spKnown t K B) := by
  have G_Cursor_take_length_number := ok_Cursor_take_length_number (P := P) (w := w) (base := base) B T
  have G_LengthNumber_is_all_ones := ok_LengthNumber_is_all_ones (P := P) (w := w) (base := base) T
  refine T.F_Cursor_take_known_number.okX sc_Cursor_take_known_number (fun vs H Q E h => ?_) (fun cdv A outer s H vs Q E hr h => ?_)
  · obtain ⟨c, f, p, e, m, rfl, _⟩ := h
    rfl
  · obtain ⟨c, f, p, e, m, rfl, cb, hm, q1, q2, q3⟩ := h
    obtain ⟨dx, hc⟩ := cb.cur
    refine ⟨_, (pss_cons (ps_set (i := 2) sc_Cursor_take_known_number.nd rfl (Or.inl rfl) (pe_meth (pv 0) T.cl_Cursor T.me_Cursor_take_length_number G_Cursor_take_length_number (hr.mono (by decide)) T.b_Cursor_take_length_number .nil pX (pa_cons (pv 1) pa_nil)))
      (pss_cons (ps_if (pt_val (pe_meth0 (pv 2) T.cl_LengthNumber T.me_LengthNumber_is_all_ones G_LengthNumber_is_all_ones (hr.mono (by decide)) T.b_LengthNumber_is_all_ones .nil pX)) (pss_one (ps_raiseB T.exc rfl T.mg_NotRight)) pss_nil)
      (pss_one (ps_ret (pv 2))))), ?_⟩
    refine ⟨_, rfl, c, dx, _, rfl, hc, (by kernel_rfl), _, rfl, c, f, p, e, m, rfl, cb, hm, fun hn => EE.esc (q1 hn), fun k v r hv hk => EE.esc (q2 k v r hv (.inl hk)), fun k v r hv hk H1 a cb1 ln na k1 => ?_⟩
    obtain ⟨dy, ha⟩ := id ln
    have hk8 := (vint_facts hv).2.1
    refine ⟨_, rfl, a, dy, _, rfl, ha, (by kernel_rfl), a, k, v, rfl, ln, hk8, _, rfl, ite2 (fun hu => ?_) fun hu => ?_⟩
    · exact q2 k v r hv (.inr hu)
    · exact ⟨_, rfl, q3 k v r hv hk (by simpa using hu) H1 a cb1 ln na k1⟩

def spName (t : Adr) (K : PySem.W.Frag) (B : Bytes) : Sp := fun vs H Q E => ∃ (c f : Addr) (p e : Nat), vs = [.ref c] ∧ CurB t K B H c f p e ∧
  (named (sl B p e) = none → Esc t.c_NotRight E) ∧
  (∀ n r, named (sl B p e) = some (n, r) → ∀ q H', p < q → q ≤ e → r = sl B q e → CurB t K B H' c f q e → Keep c H H' → Q (.int ((n : Nat) : Int)) H')
theorem sc_Cursor_take_name : FnScope ["self", "number"] ["self"] (defScope s_Cursor_take_name) := ⟨rfl, rfl, rfl, by decide +kernel, rfl, by decide +kernel, by decide +kernel⟩
theorem ok_Cursor_take_name (B : Bytes) (T : Txt K mg t) : FnOk P w K mg base (CXB P w t.c_NotRight) 6 t.f_Cursor_take_name t.d_Cursor_take_name ["self"] (spName t K B) := by
  have G_Cursor_take_known_number := ok_Cursor_take_known_number (P := P) (w := w) (base := base) B T
  refine T.F_Cursor_take_name.okX sc_Cursor_take_name (fun vs H Q E h => ?_) (fun cdv A outer s H vs Q E hr h => ?_)
  · obtain ⟨c, f, p, e, rfl, _⟩ := h
    rfl
  · obtain ⟨c, f, p, e, rfl, cb, q1, q2⟩ := h
    obtain ⟨dx, hc⟩ := cb.cur
    refine ⟨_, (pss_cons (ps_set (i := 1) sc_Cursor_take_name.nd rfl (Or.inl rfl) (pe_meth (pv 0) T.cl_Cursor T.me_Cursor_take_known_number G_Cursor_take_known_number (hr.mono (by decide)) T.b_Cursor_take_known_number .nil pX (pa_cons (pe_gint rfl T.c_LONGEST_NAME) pa_nil)))
      (pss_cons (ps_if (pt_cmpR op_lt (pe_fld (pv 1) rfl) (pe_ix ix_tup (pe_glob (v := V.ref t.a_ALL_ONES) rfl T.mg_ALL_ONES rfl) (pe_op op_sub (pe_fld (pv 1) rfl) pe_int) (fun _ _ => rfl)) (nomark _)) (pss_one (ps_raiseB T.exc rfl T.mg_NotRight)) pss_nil)
      (pss_one (ps_ret (pe_op op_add (pe_op op_add (pe_fld (pv 1) rfl) (pe_ix ix_tup (pe_glob (v := V.ref t.a_ALL_ONES) rfl T.mg_ALL_ONES rfl) (pe_fld (pv 1) rfl) (fun _ _ => rfl))) pe_int))))), ?_⟩
    refine ⟨_, rfl, c, dx, _, rfl, hc, (by kernel_rfl), c, f, p, e, 4, rfl, cb, by decide, fun hn => EE.esc (q1 (named_none hn)), fun k v r hv hk => EE.esc (q1 (named_bad hv (hk.elim .inl fun z => .inr (.inl z)))), fun k v r hv hk hu H1 a cb1 ln na k1 => ?_⟩
    obtain ⟨dy, ha⟩ := id ln
    obtain ⟨hk1, hk8, hkl, hr', hvlt⟩ := vint_facts hv
    rw [sl_length cb.eB] at hkl
    have hpe := cb.pe
    refine ⟨_, rfl, a, _, dy, _, _, rfl, ha, T.cl_LengthNumber, T.na_LengthNumber_value, lk_LN_value _ _, _, rfl, a, _, dy, _, _, rfl, ha, T.cl_LengthNumber, T.na_LengthNumber_size, lk_LN_size _ _, _, _, rfl, rfl,
      t.a_ALL_ONES, _, _, _, rfl, rfl, T.sq_ALL_ONES H1, at_of (j := k - 1) (by omega) (ones_at ⟨k - 1, by omega⟩), _, _, rfl, rfl, _, rfl, ite2 (fun hd => ?_) fun hd => ?_⟩
    · have hd := of_decide_eq_true hd
      simp only at hd
      rw [← pow_cast] at hd
      refine q1 (named_bad hv (.inr (.inr ⟨?_, ?_⟩)))
      · rcases Nat.lt_or_ge 1 k with z | z
        · exact z
        · obtain rfl : k = 1 := by omega
          simp at hd
          omega
      · omega
    · have hd : ¬ ((v : Int) < 2 ^ (7 * (k - 1)) - 1) := fun z => hd (decide_eq_true z)
      rw [← pow_cast] at hd
      have hp : 0 < 2 ^ (7 * (k - 1)) := Nat.two_pow_pos _
      refine ⟨_, rfl, a, _, dy, _, _, rfl, ha, T.cl_LengthNumber, T.na_LengthNumber_value, lk_LN_value _ _, _, rfl, a, _, dy, _, _, rfl, ha, T.cl_LengthNumber, T.na_LengthNumber_size, lk_LN_size _ _,
        t.a_ALL_ONES, _, _, _, rfl, rfl, T.sq_ALL_ONES H1, ones_of hk8, _, _, rfl, rfl, _, _, rfl, rfl, ?_⟩
      have h3 : ¬ (1 < k ∧ v ≤ 2 ^ (7 * (k - 1)) - 2) := fun ⟨z1, z2⟩ => by
        have : 2 ^ 7 ≤ 2 ^ (7 * (k - 1)) := Nat.pow_le_pow_right (by decide) (by omega)
        omega
      have q := q2 _ r (named_ok hv hk hu h3) (p + k) H1 (by omega) (by omega) (by rw [hr', sl_drop]) cb1 k1
      have e1 : (((v + 2 ^ (7 * k) : Nat)) : Int) = (v : Int) + (2 ^ (7 * k) - 1) + 1 := by
        rw [Int.natCast_add, pow_cast]
        omega
      rw [e1] at q
      exact q

def spBody (t : Adr) (K : PySem.W.Frag) (B : Bytes) : Sp := fun vs H Q E => ∃ (c f : Addr) (p e n z : Nat), vs = [.ref c, .int n, .int z] ∧ CurB t K B H c f p e ∧
  (e < p + z → Esc t.c_NotRight E) ∧ (p + z ≤ e → ∀ H' a, CurB t K B H' c f (p + z) e → ElAt t H' a n p (p + z) → H a = none → Keep c H H' → Q (.ref a) H')
theorem sc_Cursor_take_body : FnScope ["self", "name", "size", "start"] ["self", "name", "size"] (defScope s_Cursor_take_body) := ⟨rfl, rfl, rfl, by decide +kernel, rfl, by decide +kernel, by decide +kernel⟩
theorem ok_Cursor_take_body (B : Bytes) (T : Txt K mg t) : FnOk P w K mg base (CXB P w t.c_NotRight) 3 t.f_Cursor_take_body t.d_Cursor_take_body ["self", "name", "size"] (spBody t K B) := by
  have G_Cursor_skip := ok_Cursor_skip (P := P) (w := w) (base := base) T
  have G_Element_init := ok_Element_init (P := P) (w := w) (base := base) T
  refine T.F_Cursor_take_body.okX sc_Cursor_take_body (fun vs H Q E h => ?_) (fun cdv A outer s H vs Q E hr h => ?_)
  · obtain ⟨c, f, p, e, n, z, rfl, _⟩ := h
    rfl
  · obtain ⟨c, f, p, e, n, z, rfl, cb, q1, q2⟩ := h
    obtain ⟨dx, hc⟩ := cb.cur
    refine ⟨_, (pss_cons (ps_set (i := 3) sc_Cursor_take_body.nd rfl (Or.inl rfl) (pe_fld (pv 0) rfl))
      (pss_cons (ps_expr (pe_meth (pv 0) T.cl_Cursor T.me_Cursor_skip G_Cursor_skip (hr.mono (by decide)) T.b_Cursor_skip .nil pX (pa_cons (pv 2) pa_nil)))
      (pss_one (ps_ret (pe_make T.mk_Element G_Element_init (hr.mono (by decide)) rfl T.mg_Element T.b_Element_init .nil pX (pa_cons (pv 1) (pa_cons (pv 3) (pa_cons (pe_fld (pv 0) rfl) pa_nil)))))))), ?_⟩
    refine ⟨_, rfl, c, _, dx, _, _, rfl, hc, T.cl_Cursor, T.na_Cursor_place, lk_Cur_place _ _ _, ?_⟩
    refine ⟨_, rfl, c, dx, _, rfl, hc, (by kernel_rfl), _, rfl, c, f, p, e, z, rfl, ⟨dx, hc⟩, cb.pe, ?_⟩
    by_cases hs : p + z ≤ e
    · rw [if_pos hs]
      intro H1 c1 k1
      have cb1 := cb.step k1 c1 hs
      obtain ⟨dx1, hc1⟩ := id c1
      refine ⟨_, rfl, _, rfl, _, rfl, c, _, dx1, _, _, rfl, hc1, T.cl_Cursor, T.na_Cursor_place, lk_Cur_place _ _ _, ?_⟩
      intro x dy nx nd ne
      refine ⟨x, dy, _, _, _, rfl, upd_same, rfl, ?_⟩
      rw [upd_upd]
      have s3 := made_same (o := .ins t.c_Element dy (fsEl (.int n) (.int p) (.int ((p + z : Nat) : Int)))) nx nd
      exact q2 hs _ x (cb1.step (Same.keep s3 c) (Ins.same c1 s3) hs) ⟨dy, upd_same⟩ (k1.none c1 nx) (k1.trans (Same.keep s3 c))
    · rw [if_neg hs]
      exact EE.esc (q1 (by omega))

def spElem (t : Adr) (K : PySem.W.Frag) (B : Bytes) (o : Bool) : Sp := fun vs H Q E => ∃ (c f : Addr) (p e : Nat), vs = [.ref c] ∧ CurB t K B H c f p e ∧
  (element o (sl B p e) = none → Esc t.c_NotRight E) ∧
  (∀ n b r, element o (sl B p e) = some ((n, b), r) → ∀ s q H' a, p < s → s ≤ q → q ≤ e → b = sl B s q → r = sl B q e → CurB t K B H' c f q e → ElAt t H' a n s q → H a = none → Keep c H H' → Q (.ref a) H')
theorem sc_Cursor_take_element : FnScope ["self", "name"] ["self"] (defScope s_Cursor_take_element) := ⟨rfl, rfl, rfl, by decide +kernel, rfl, by decide +kernel, by decide +kernel⟩
theorem ok_Cursor_take_element (B : Bytes) (T : Txt K mg t) : FnOk P w K mg base (CXB P w t.c_NotRight) 7 t.f_Cursor_take_element t.d_Cursor_take_element ["self"] (spElem t K B false) := by
  have G_Cursor_take_name := ok_Cursor_take_name (P := P) (w := w) (base := base) B T
  have G_Cursor_take_body := ok_Cursor_take_body (P := P) (w := w) (base := base) B T
  have G_Cursor_take_known_number := ok_Cursor_take_known_number (P := P) (w := w) (base := base) B T
  refine T.F_Cursor_take_element.okX sc_Cursor_take_element (fun vs H Q E h => ?_) (fun cdv A outer s H vs Q E hr h => ?_)
  · obtain ⟨c, f, p, e, rfl, _⟩ := h
    rfl
  · obtain ⟨c, f, p, e, rfl, cb, q1, q2⟩ := h
    obtain ⟨dx, hc⟩ := cb.cur
    refine ⟨_, (pss_cons (ps_set (i := 1) sc_Cursor_take_element.nd rfl (Or.inl rfl) (pe_meth0 (pv 0) T.cl_Cursor T.me_Cursor_take_name G_Cursor_take_name (hr.mono (by decide)) T.b_Cursor_take_name .nil pX))
      (pss_one (ps_ret (pe_meth (pv 0) T.cl_Cursor T.me_Cursor_take_body G_Cursor_take_body (hr.mono (by decide)) T.b_Cursor_take_body .nil pX (pa_cons (pv 1) (pa_cons (pe_fld (pe_meth (pv 0) T.cl_Cursor T.me_Cursor_take_known_number G_Cursor_take_known_number (hr.mono (by decide)) T.b_Cursor_take_known_number .nil pX (pa_cons (pe_gint rfl T.c_LONGEST_LENGTH) pa_nil)) rfl) pa_nil)))))), ?_⟩
    refine ⟨_, rfl, c, dx, _, rfl, hc, (by kernel_rfl), c, f, p, e, rfl, cb, fun hn => EE.esc (q1 (element_name hn)), fun n r hn q H1 hpq hqe er cb1 k1 => ?_⟩
    obtain ⟨dx1, hc1⟩ := cb1.cur
    subst er
    refine ⟨_, rfl, c, dx1, _, rfl, hc1, (by kernel_rfl), _, rfl, _, rfl, c, dx1, _, rfl, hc1, (by kernel_rfl), c, f, q, e, 8, rfl, cb1, by decide, fun hv => EE.esc (q1 (element_vint hn hv)),
      fun k v r hv hk => EE.esc (q1 ?_), fun k v r hv hk hu H2 a cb2 ln na k2 => ?_⟩
    · rcases hk with z | z
      · exact absurd (vint_facts hv).2.1 (by omega)
      · exact element_unk hn hv z
    · obtain ⟨dy, ha⟩ := id ln
      obtain ⟨hk1, hk8, hkl, er, hvlt⟩ := vint_facts hv
      rw [sl_drop] at er
      subst er
      have hlen : (sl B (q + k) e).length = e - (q + k) := sl_length cb.eB
      have hqk := cb2.pe
      refine ⟨a, _, dy, _, _, rfl, ha, T.cl_LengthNumber, T.na_LengthNumber_value, lk_LN_value _ _, c, f, q + k, e, n, v, rfl, cb2, fun hs => EE.esc (q1 (element_far hn hv hu (by omega))), fun hs H3 a3 cb3 el na3 k3 => ?_⟩
      refine q2 n _ _ (element_ok hn hv hu (by omega)) (q + k) (q + k + v) H3 a3 (by omega) (by omega) hs (by rw [sl_take B hs]) (by rw [sl_drop]) cb3 el ?_ (k1.trans (k2.trans k3))
      exact k1.none cb1.cur (k2.none cb2.cur na3)
theorem sc_Cursor_take_element_or_rest : FnScope ["self", "name", "length"] ["self"] (defScope s_Cursor_take_element_or_rest) := ⟨rfl, rfl, rfl, by decide +kernel, rfl, by decide +kernel, by decide +kernel⟩
theorem ok_Cursor_take_element_or_rest (B : Bytes) (T : Txt K mg t) : FnOk P w K mg base (CXB P w t.c_NotRight) 7 t.f_Cursor_take_element_or_rest t.d_Cursor_take_element_or_rest ["self"] (spElem t K B true) := by
  have G_Cursor_take_name := ok_Cursor_take_name (P := P) (w := w) (base := base) B T
  have G_Cursor_take_body := ok_Cursor_take_body (P := P) (w := w) (base := base) B T
  have G_Cursor_take_length_number := ok_Cursor_take_length_number (P := P) (w := w) (base := base) B T
  have G_LengthNumber_is_all_ones := ok_LengthNumber_is_all_ones (P := P) (w := w) (base := base) T
  have G_Cursor_bytes_left := ok_Cursor_bytes_left (P := P) (w := w) (base := base) T
  refine T.F_Cursor_take_element_or_rest.okX sc_Cursor_take_element_or_rest (fun vs H Q E h => ?_) (fun cdv A outer s H vs Q E hr h => ?_)
  · obtain ⟨c, f, p, e, rfl, _⟩ := h
    rfl
  · obtain ⟨c, f, p, e, rfl, cb, q1, q2⟩ := h
    obtain ⟨dx, hc⟩ := cb.cur
    refine ⟨_, (pss_cons (ps_set (i := 1) sc_Cursor_take_element_or_rest.nd rfl (Or.inl rfl) (pe_meth0 (pv 0) T.cl_Cursor T.me_Cursor_take_name G_Cursor_take_name (hr.mono (by decide)) T.b_Cursor_take_name .nil pX))
      (pss_cons (ps_set (i := 2) sc_Cursor_take_element_or_rest.nd rfl (Or.inl rfl) (pe_meth (pv 0) T.cl_Cursor T.me_Cursor_take_length_number G_Cursor_take_length_number (hr.mono (by decide)) T.b_Cursor_take_length_number .nil pX (pa_cons (pe_gint rfl T.c_LONGEST_LENGTH) pa_nil)))
      (pss_one (ps_ret (pe_meth (pv 0) T.cl_Cursor T.me_Cursor_take_body G_Cursor_take_body (hr.mono (by decide)) T.b_Cursor_take_body .nil pX (pa_cons (pv 1) (pa_cons (pe_ifExp (pt_val (pe_meth0 (pv 2) T.cl_LengthNumber T.me_LengthNumber_is_all_ones G_LengthNumber_is_all_ones (hr.mono (by decide)) T.b_LengthNumber_is_all_ones .nil pX)) (pe_meth0 (pv 0) T.cl_Cursor T.me_Cursor_bytes_left G_Cursor_bytes_left (hr.mono (by decide)) T.b_Cursor_bytes_left .nil pX) (pe_fld (pv 2) rfl)) pa_nil))))))), ?_⟩
    refine ⟨_, rfl, c, dx, _, rfl, hc, (by kernel_rfl), c, f, p, e, rfl, cb, fun hn => EE.esc (q1 (element_name hn)), fun n r hn q H1 hpq hqe er cb1 k1 => ?_⟩
    obtain ⟨dx1, hc1⟩ := cb1.cur
    subst er
    refine ⟨_, rfl, c, dx1, _, rfl, hc1, (by kernel_rfl), c, f, q, e, 8, rfl, cb1, by decide, fun hv => EE.esc (q1 (element_vint hn hv)),
      fun k v r hv hk => absurd (vint_facts hv).2.1 (by omega), fun k v r hv hk H2 a cb2 ln na k2 => ?_⟩
    obtain ⟨dy, ha⟩ := id ln
    obtain ⟨dx2, hc2⟩ := cb2.cur
    obtain ⟨hk1, hk8, hkl, er, hvlt⟩ := vint_facts hv
    rw [sl_drop] at er
    subst er
    have hlen : (sl B (q + k) e).length = e - (q + k) := sl_length cb.eB
    have hqk := cb2.pe
    have fr : ∀ a3, H2 a3 = none → H a3 = none := fun a3 na3 => k1.none cb1.cur (k2.none cb2.cur na3)
    refine ⟨_, rfl, c, dx2, _, rfl, hc2, (by kernel_rfl), _, rfl, _, rfl, a, dy, _, rfl, ha, (by kernel_rfl), a, k, v, rfl, ln, hk8, _, rfl, ite2 (fun hu => ?_) fun hu => ?_⟩
    · refine ⟨_, rfl, c, dx2, _, rfl, hc2, (by kernel_rfl), c, f, q + k, e, rfl, cb2.cur, c, f, q + k, e, n, e - (q + k), congrArg (fun z => [V.ref c, V.int (n : Int), V.int z]) (by omega), cb2, fun hs => absurd hs (by omega), fun hs H3 a3 cb3 el na3 k3 => ?_⟩
      have e1 : q + k + (e - (q + k)) = e := by omega
      rw [e1] at cb3 el
      refine q2 n _ _ (element_open hn hv hu) (q + k) e H3 a3 (by omega) (by omega) (Nat.le_refl _) rfl (by rw [sl_nil B (Nat.le_refl e)]) cb3 el (fr a3 na3) (k1.trans (k2.trans k3))
    · have hu : unknown k v = false := by simpa using hu
      refine ⟨_, rfl, a, _, dy, _, _, rfl, ha, T.cl_LengthNumber, T.na_LengthNumber_value, lk_LN_value _ _, c, f, q + k, e, n, v, rfl, cb2, fun hs => EE.esc (q1 (element_far hn hv hu (by omega))), fun hs H3 a3 cb3 el na3 k3 => ?_⟩
      exact q2 n _ _ (element_ok hn hv hu (by omega)) (q + k) (q + k + v) H3 a3 (by omega) (by omega) hs (by rw [sl_take B hs]) (by rw [sl_drop]) cb3 el (fr a3 na3) (k1.trans (k2.trans k3))
end
end Film

set_option Elab.async false
set_option linter.all false
set_option maxRecDepth 100000
set_option maxHeartbeats 1000000
namespace Film
open PySem PySem.Spec PyProof.Rows L2
open Sg32 (Bytes vint named element unknown inside)
section
variable {P : Program} {w : World} {K : PySem.W.Frag} {mg : Str → Option Value} {base : Heap} {t : Adr}
/-- an element by its places -/
structure El where
  nm : Nat
  st : Nat
  en : Nat
def ElA (t : Adr) (H : Hp) (x : Addr × El) : Prop := ElAt t H x.1 x.2.nm x.2.st x.2.en
def den (B : Bytes) (x : Addr × El) : Nat × Bytes := (x.2.nm, sl B x.2.st x.2.en)
def refs {α : Type} (cs : List (Addr × α)) : List V := cs.map fun x => V.ref x.1
theorem refs_len {α : Type} (cs : List (Addr × α)) : (refs cs).length = cs.length := by unfold refs; rw [List.length_map]
theorem refs_snoc {α : Type} (cs : List (Addr × α)) (x : Addr × α) : refs (cs ++ [x]) = refs cs ++ [V.ref x.1] := by unfold refs; rw [List.map_append]; rfl
theorem refs_at {α : Type} {cs : List (Addr × α)} {i : Nat} {y : V} (h : (refs cs)[i]? = some y) : ∃ x, cs[i]? = some x ∧ y = .ref x.1 := by
  unfold refs at h
  rw [List.getElem?_map] at h
  cases e : cs[i]? with
  | none => rw [e] at h; cases h
  | some x => rw [e] at h; exact ⟨x, rfl, (Option.some.inj h).symm⟩
structure Kids (t : Adr) (H : Hp) (cs : List (Addr × El)) (e : Nat) : Prop where
  at_ : ∀ x, x ∈ cs → ElA t H x
  rng : ∀ x, x ∈ cs → x.2.st ≤ x.2.en ∧ x.2.en ≤ e
  srt : cs.Pairwise fun x y => x.2.st < y.2.st
  dis : cs.Pairwise fun x y => x.2.en ≤ y.2.st
  len : cs.length ≤ 100000
theorem Kids.same {H H' : Hp} {cs : List (Addr × El)} {e : Nat} (k : Kids t H cs e) (s : Same H H') : Kids t H' cs e :=
  ⟨fun x hx => Ins.same (k.at_ x hx) s, k.rng, k.srt, k.dis, k.len⟩
/-- the file at f -/
structure FileB (K : PySem.W.Frag) (B : Bytes) (H : Hp) (f : Addr) : Prop where
  fl : SqL K H f (bys B)
  len : B.length ≤ 100000
theorem FileB.same {B : Bytes} {H H' : Hp} {f : Addr} (h : FileB K B H f) (s : Same H H') : FileB K B H' f := ⟨s.seq h.fl, h.len⟩
/-- an element of the file at a -/
structure ElB (t : Adr) (B : Bytes) (H : Hp) (a : Addr) (x : El) : Prop where
  at_ : ElAt t H a x.nm x.st x.en
  le : x.st ≤ x.en
  eB : x.en ≤ B.length
theorem ElB.same {B : Bytes} {H H' : Hp} {a : Addr} {x : El} (h : ElB t B H a x) (s : Same H H') : ElB t B H' a x := ⟨Ins.same h.at_ s, h.le, h.eB⟩
def spKids (t : Adr) (K : PySem.W.Frag) (B : Bytes) : Sp := fun vs H Q E => ∃ (f a : Addr) (x : El), vs = [.ref f, .ref a] ∧ FileB K B H f ∧ ElB t B H a x ∧
  (inside (sl B x.st x.en) = none → Esc t.c_NotRight E) ∧
  (∀ l, inside (sl B x.st x.en) = some l → ∀ H' b cs, H' b = some (.lst (refs cs)) → H b = none → Kids t H' cs x.en → cs.map (den B) = l → Same H H' → cs.length + x.st ≤ x.en → Q (.ref b) H')
theorem Same.ofKeep {c : Addr} {H H1 H2 : Hp} (s : Same H H1) (n : H c = none) (k : Keep c H1 H2) : Same H H2 := fun b o e => k b o (s b o e) (ne_of_none e n)
theorem lst_ne_ins {H : Hp} {a b C dx : Addr} {xs : List V} {fs : List (Str × V)} (h : H a = some (.lst xs)) (h' : H b = some (.ins C dx fs)) : a ≠ b := ne_of h h' (by intro z; cases z)
theorem upd_keepIns {H : Hp} {l a C : Addr} {o : HO} {xs : List V} {fs : List (Str × V)} (hl : H l = some (.lst xs)) (h : Ins H a C fs) : Ins (upd H l o) a C fs := by
  obtain ⟨dx, e⟩ := h
  exact ⟨dx, by rw [upd_ne (lst_ne_ins hl e).symm]; exact e⟩
theorem sc_take_children : FnScope ["file", "element", "cursor", "children"] ["file", "element"] (defScope s_take_children) := ⟨rfl, rfl, rfl, by decide +kernel, rfl, by decide +kernel, by decide +kernel⟩
theorem ok_take_children (B : Bytes) (T : Txt K mg t) : FnOk P w K mg base (CXB P w t.c_NotRight) 8 t.f_take_children t.d_take_children ["file", "element"] (spKids t K B) := by
  have G_Cursor_init := ok_Cursor_init (P := P) (w := w) (base := base) T
  have G_Cursor_bytes_left := ok_Cursor_bytes_left (P := P) (w := w) (base := base) T
  have G_Cursor_take_element := ok_Cursor_take_element (P := P) (w := w) (base := base) B T
  refine T.F_take_children.okX sc_take_children (fun vs H Q E h => ?_) (fun cdv A outer s H vs Q E hr h => ?_)
  · obtain ⟨f, a, x, rfl, _⟩ := h
    rfl
  · obtain ⟨f, a, ⟨nm, st, en⟩, rfl, hf, hx, q1, q2⟩ := h
    obtain ⟨da, ha⟩ := hx.at_
    have hle := hx.le
    have heB := hx.eB
    simp only at ha hle heB q1 q2
    refine ⟨_, (pss_cons (ps_set (i := 2) sc_take_children.nd rfl (Or.inl rfl) (pe_make T.mk_Cursor G_Cursor_init (hr.mono (by decide)) rfl T.mg_Cursor T.b_Cursor_init .nil pX (pa_cons (pv 0) (pa_cons (pe_fld (pv 1) rfl) (pa_cons (pe_fld (pv 1) rfl) pa_nil)))))
      (pss_cons (ps_set (i := 3) sc_take_children.nd rfl (Or.inl rfl) (pe_lst pa_nil))
      (pss_cons (ps_while PassesOwn.leaving (pt_cmpR op_gt (pe_meth0 (pv 2) T.cl_Cursor T.me_Cursor_bytes_left G_Cursor_bytes_left (hr.mono (by decide)) T.b_Cursor_bytes_left .nil pX) pe_int (nomark _)) (pss_one (ps_expr (pe_bm PySem.F.plainAttrs_list PySem.F.slot_list_append PySem.F.type_list_append mt_append (pv 3) (pa_cons (pe_meth0 (pv 2) T.cl_Cursor T.me_Cursor_take_element G_Cursor_take_element (hr.mono (by decide)) T.b_Cursor_take_element .nil pX) pa_nil)))))
      (pss_one (ps_ret (pv 3)))))), ?_⟩
    -- cursor = Cursor(file, element.start, element.end)
    refine ⟨_, rfl, _, rfl, a, _, da, _, _, rfl, ha, T.cl_Element, T.na_Element_start, lk_El_start _ _ _, _, rfl, a, _, da, _, _, rfl, ha, T.cl_Element, T.na_Element_end, lk_El_end _ _ _, ?_⟩
    intro c dc nc nd ne
    refine ⟨c, dc, _, _, _, rfl, upd_same, rfl, ?_⟩
    rw [upd_upd]
    generalize hH1 : upd (upd H dc (.own c)) c (.ins t.c_Cursor dc (fsCur (.ref f) (.int st) (.int en))) = H1
    have s1 : Same H H1 := by rw [← hH1]; exact made_same nc nd
    have c1 : CurAt t H1 c f st en := by rw [← hH1]; exact ⟨dc, upd_same⟩
    -- children = []
    refine ⟨by show 0 ≤ sizeLine; decide, fun l hl => ?_⟩
    generalize hH2 : upd H1 l (.lst []) = H2
    have l2 : H2 l = some (.lst []) := by rw [← hH2]; exact upd_same
    have s12 : Same H1 H2 := fun b o e => by rw [← hH2, upd_ne (ne_of_none e hl)]; exact e
    have s2 : Same H H2 := s1.trans s12
    have nl : H l = none := s1.free hl
    -- the loop
    refine ⟨fun m σ H3 => ∃ (q : Nat) (cs : List (Addr × El)), m = en - q ∧ σ = [some (.ref f), some (.ref a), some (.ref c), some (.ref l)] ∧ CurB t K B H3 c f q en ∧ H3 l = some (.lst (refs cs)) ∧ st + cs.length ≤ q ∧
      (∀ x, x ∈ cs → ElA t H3 x) ∧ (∀ x, x ∈ cs → x.2.st ≤ x.2.en ∧ x.2.en ≤ q) ∧ (cs.Pairwise fun x y => x.2.st < y.2.st) ∧ (cs.Pairwise fun x y => x.2.en ≤ y.2.st) ∧ Same H H3 ∧
      inside (sl B st en) = (inside (sl B q en)).map (cs.map (den B) ++ ·), ⟨_, st, [], rfl, rfl, ⟨Ins.same c1 s12, hle, heB, s2.seq hf.fl, hf.len⟩, l2, by simp, by simp, by simp, by simp, by simp, s2, ?_⟩, ?_⟩
    · simp
    · rintro m σ H3 ⟨q, cs, rfl, rfl, cb, hl3, hlen, hat, hrg, hsr, hds, s3, hin⟩
      obtain ⟨d3, hc3⟩ := cb.cur
      have hqe := cb.pe
      have hBl := cb.len
      refine ⟨_, rfl, c, d3, _, rfl, hc3, (by kernel_rfl), c, f, q, en, rfl, cb.cur, _, _, rfl, rfl, _, rfl, ite2 (fun hd => ?_) fun hd => ?_⟩
      · have hd := of_decide_eq_true hd
        have hne : sl B q en ≠ [] := fun z => by
          have := sl_length (B := B) (p := q) heB
          rw [z] at this
          simp at this
          omega
        -- children.append(cursor.take_element())
        refine ⟨_, fun σ' H' z => z, ?_⟩
        refine ⟨_, rfl, .inl ⟨rfl, _, SqL.of hl3⟩, _, rfl, c, d3, _, rfl, hc3, (by kernel_rfl), c, f, q, en, rfl, cb, fun hn => EE.esc (q1 (by rw [hin, inside_none hne hn]; rfl)), fun n b r he s' q' H4 a4 h1 h2 h3 eb er cb4 el na k4 => ?_⟩
        have hl4 : H4 l = some (.lst (refs cs)) := k4 l _ hl3 (lst_ne_ins hl3 hc3)
        have nlc : l ≠ c := lst_ne_ins hl3 hc3
        refine ⟨l, _, _, rfl, rfl, hl4, ?_, ?_⟩
        · rw [refs_len]
          show cs.length < 16777216
          omega
        · have i4 : ∀ {a' C : Addr} {fs : List (Str × V)}, Ins H4 a' C fs → Ins (upd H4 l (.lst (refs cs ++ [V.ref a4]))) a' C fs := fun h => upd_keepIns hl4 h
          refine ⟨en - q', by omega, q', cs ++ [(a4, ⟨n, s', q'⟩)], rfl, rfl, ⟨i4 cb4.cur, cb4.pe, heB, ?_, hBl⟩, ?_, ?_, ?_, ?_, ?_, ?_, ?_, ?_⟩
          · have z : SqL K H4 f (bys B) := cb4.fl
            rcases hf.fl with (z0 | ⟨o, z0⟩) | z0
            · have hfl : H3 f = some (.lst (bys B)) := s3 _ _ z0
              refine .inl (.inl ?_)
              rw [upd_ne fun e => ?_]
              · exact k4 f _ hfl (lst_ne_ins hfl hc3)
              · rw [e, nl] at z0
                cases z0
            · have hfl := s3 _ _ z0
              refine .inl (.inr ⟨o, ?_⟩)
              rw [upd_ne fun e => ?_]
              · exact k4 f _ hfl (ne_of hfl hc3 (by intro z; cases z))
              · rw [e, nl] at z0
                cases z0
            · exact .inr z0
          · rw [refs_snoc]
            exact upd_same
          · rw [List.length_append, List.length_singleton]
            omega
          · intro y hy
            rcases List.mem_append.mp hy with z | z
            · exact i4 (k4.ins (hat y z) cb.cur (El_ne_Cur _ _ _ _ _ _))
            · obtain rfl := List.mem_singleton.mp z
              exact i4 el
          · intro y hy
            rcases List.mem_append.mp hy with z | z
            · have := hrg y z
              exact ⟨this.1, by omega⟩
            · obtain rfl := List.mem_singleton.mp z
              exact ⟨h2, Nat.le_refl _⟩
          · rw [List.pairwise_append]
            refine ⟨hsr, by simp, fun y hy z hz => ?_⟩
            obtain rfl := List.mem_singleton.mp hz
            have := hrg y hy
            show y.2.st < s'
            omega
          · rw [List.pairwise_append]
            refine ⟨hds, by simp, fun y hy z hz => ?_⟩
            obtain rfl := List.mem_singleton.mp hz
            have := hrg y hy
            show y.2.en ≤ s'
            omega
          · intro b' o e
            rw [upd_ne (ne_of_none e nl)]
            exact k4 b' o (s3 b' o e) fun z => by
              rw [z, nc] at e
              cases e
          · rw [hin, inside_some hne he, ← er]
            cases inside r with
            | none => rfl
            | some l' =>
              simp [den, eb]
      · have hd : ¬ ((0 : Int) < (en : Int) - (q : Int)) := fun z => hd (decide_eq_true z)
        obtain rfl : q = en := by omega
        refine ⟨_, rfl, q2 (cs.map (den B)) ?_ H3 l cs hl3 nl ⟨hat, hrg, hsr, hds, by omega⟩ rfl s3 (by show cs.length + st ≤ q; omega)⟩
        rw [hin, sl_nil B (Nat.le_refl _), inside_nil]
        simp
end
end Film

set_option Elab.async false
set_option linter.all false
set_option maxRecDepth 100000
set_option maxHeartbeats 1000000
namespace L2
open PySem PySem.Spec PyProof.Rows
section
variable {X : Cx} {K : PySem.W.Frag}
theorem pe_fldK {e : Expr} {ta : TE} {f : Str} {pos : Pos} (hK : X.K = K) (he : PE X e ta) (hb : attributeBase e f X.env (eval e X.env) = eval e X.env) : PE X (.Attribute e f pos) (tFld K ta f) := hK ▸ pe_fld he hb
theorem op_in_seqK (hK : X.K = K) : OpR X (compareOp .In) (rIn K false) := hK ▸ op_in_seq
theorem call_len_seqK (hK : X.K = K) : CallR X (.builtin "len") (fun xs H Q => ∃ p ys, xs = [.ref p] ∧ (SqL K H p ys ∨ SqT K H p ys) ∧ Q (.int ys.length) H) := hK ▸ call_len_seq
end
end L2
namespace Film
open PySem PySem.Spec PyProof.Rows L2
open Sg32 (Bytes vint named element unknown inside value once atMost onceNumber numberOr)
theorem inV_nats (n : Nat) : ∀ l : List Nat, inV (.int (n : Int)) (l.map fun k => V.int ((k : Nat) : Int)) = l.contains n
  | [] => rfl
  | k :: l => by
    have ih := inV_nats n l
    unfold inV at ih ⊢
    rw [List.map_cons, List.any_cons, ih, List.contains_cons]
    congr 1
    show (((k : Nat) : Int) == (n : Int)) = (n == k)
    by_cases h : n = k
    · subst h; simp
    · have h2 : ¬ ((k : Int) = (n : Int)) := by omega
      rw [beq_eq_false_iff_ne.mpr h2, beq_eq_false_iff_ne.mpr h]
theorem flat_nats (l : List Nat) : (l.map fun k => V.int ((k : Nat) : Int)).all flatV = true := by
  rw [List.all_eq_true]
  intro y hy
  obtain ⟨k, _, rfl⟩ := List.mem_map.mp hy
  rfl
section
variable {P : Program} {w : World} {K : PySem.W.Frag} {mg : Str → Option Value} {base : Heap} {t : Adr}
theorem Same.seqT {H H' : Hp} {a : Addr} {xs : List V} (e : Same H H') (h : SqT K H a xs) : SqT K H' a xs := by
  rcases h with (h | ⟨o, h⟩) | h
  · exact .inl (.inl (e _ _ h))
  · exact .inl (.inr ⟨o, e _ _ h⟩)
  · exact .inr h
theorem same_upd {H : Hp} {a : Addr} {o : HO} (n : H a = none) : Same H (upd H a o) := fun b u e => by rw [upd_ne (ne_of_none e n)]; exact e
abbrev fsCon (f l : V) : List (Str × V) := [("file", f), ("children", l)]
theorem pf_Con (a b : V) : putF "children" b (putF "file" a []) = fsCon a b := by kernel_rfl
theorem lk_Con_file (a b : V) : (fsCon a b).lookup ("file" : Str) = some a := by kernel_rfl
theorem lk_Con_children (a b : V) : (fsCon a b).lookup ("children" : Str) = some b := by kernel_rfl
/-- the contents at a: the file, the children -/
structure ConB (t : Adr) (K : PySem.W.Frag) (B : Bytes) (H : Hp) (a f : Addr) (cs : List (Addr × El)) : Prop where
  ob : ∃ l, Ins H a t.c_Contents (fsCon (.ref f) (.ref l)) ∧ H l = some (.lst (refs cs))
  kids : Kids t H cs B.length
  file : FileB K B H f
theorem ConB.same {B : Bytes} {H H' : Hp} {a f : Addr} {cs : List (Addr × El)} (h : ConB t K B H a f cs) (s : Same H H') : ConB t K B H' a f cs :=
  ⟨let ⟨l, h1, h2⟩ := h.ob; ⟨l, Ins.same h1 s, s _ _ h2⟩, h.kids.same s, h.file.same s⟩
theorem ConB.el {B : Bytes} {H : Hp} {a f : Addr} {cs : List (Addr × El)} (h : ConB t K B H a f cs) {x : Addr × El} (hx : x ∈ cs) : ElB t B H x.1 x.2 :=
  ⟨h.kids.at_ x hx, (h.kids.rng x hx).1, (h.kids.rng x hx).2⟩
def spI_Con (t : Adr) (K : PySem.W.Frag) (B : Bytes) : Sp := fun vs H Q E => ∃ (p dx f a : Addr) (x : El), vs = [.ref p, .ref f, .ref a] ∧ H p = some (.ins t.c_Contents dx []) ∧ FileB K B H f ∧ ElB t B H a x ∧
  (inside (sl B x.st x.en) = none → Esc t.c_NotRight E) ∧
  (∀ l, inside (sl B x.st x.en) = some l → ∀ H' cs, ConB t K B H' p f cs → cs.map (den B) = l → Keep p H H' → cs.length + x.st ≤ x.en → Q .non H')
theorem Con0_ne (a b c x : V) : fsEl a b c ≠ [] := by intro h; cases h
theorem sc_Contents_init : FnScope ["self", "file", "element"] ["self", "file", "element"] (defScope s_Contents_init) := ⟨rfl, rfl, rfl, by decide +kernel, rfl, by decide +kernel, by decide +kernel⟩
theorem ok_Contents_init (B : Bytes) (T : Txt K mg t) : FnOk P w K mg base (CXB P w t.c_NotRight) 9 t.f_Contents_init t.d_Contents_init ["self", "file", "element"] (spI_Con t K B) := by
  have G_take_children := ok_take_children (P := P) (w := w) (base := base) B T
  refine T.F_Contents_init.okX sc_Contents_init (fun vs H Q E h => ?_) (fun cdv A outer s H vs Q E hr h => ?_)
  · obtain ⟨p, dx, f, a, x, rfl, _⟩ := h
    rfl
  · obtain ⟨p, dx, f, a, x, rfl, hp, hf, hx, q1, q2⟩ := h
    refine ⟨_, (pss_cons (ps_fld (pv 0) (pv 1) rfl)
      (pss_one (ps_fld (pv 0) (pe_call G_take_children (hr.mono (by decide)) rfl T.mg_take_children T.F_take_children.kp T.b_take_children .nil pX (pa_cons (pv 1) (pa_cons (pv 2) pa_nil))) rfl))), ?_⟩
    refine ⟨_, rfl, _, rfl, p, _, dx, [], rfl, hp, T.cl_Contents, T.na_Contents_file, (by show 0 < 1000; decide), ?_⟩
    generalize hH1 : upd H p (.ins t.c_Contents dx (putF "file" (.ref f) [])) = H1
    have k1 : Keep p H H1 := fun b o e n => by rw [← hH1, upd_ne n]; exact e
    have hp1 : H1 p = some (.ins t.c_Contents dx (putF "file" (.ref f) [])) := by rw [← hH1]; exact upd_same
    have hf1 : FileB K B H1 f := ⟨k1.sq hf.fl ⟨dx, hp⟩, hf.len⟩
    have hx1 : ElB t B H1 a x := ⟨k1.ins hx.at_ ⟨dx, hp⟩ (by intro h; cases h), hx.le, hx.eB⟩
    refine ⟨_, rfl, _, rfl, f, a, x, rfl, hf1, hx1, fun hn => EE.esc (q1 hn), fun l hl H2 b cs hb nb kd hcs s2 hcn => ?_⟩
    have hp2 := s2 _ _ hp1
    refine ⟨_, rfl, p, _, dx, _, rfl, hp2, T.cl_Contents, T.na_Contents_children, (by show 1 < 1000; decide), ?_⟩
    rw [pf_Con]
    generalize hH3 : upd H2 p (.ins t.c_Contents dx (fsCon (.ref f) (.ref b))) = H3
    have k3 : Keep p H2 H3 := fun b o e n => by rw [← hH3, upd_ne n]; exact e
    have hp3 : H3 p = some (.ins t.c_Contents dx (fsCon (.ref f) (.ref b))) := by rw [← hH3]; exact upd_same
    refine q2 l hl H3 cs ⟨⟨b, ⟨dx, hp3⟩, k3 _ _ hb (lst_ne_ins hb hp2)⟩, ⟨fun y hy => ?_, fun y hy => ?_, kd.srt, kd.dis, kd.len⟩, ⟨k3.sq (s2.seq hf1.fl) ⟨dx, hp2⟩, hf.len⟩⟩ hcs (k1.trans (Keep.trans (Same.keep s2 p) k3)) hcn
    · refine k3.ins (kd.at_ y hy) ⟨dx, hp2⟩ (fun e => ?_)
      have h := congrArg (fun l => List.lookup ("end" : Str) l) e
      rw [lk_El_end] at h
      have h0 : (putF "file" (V.ref f) []).lookup ("end" : Str) = none := by kernel_rfl
      exact absurd (h.trans h0) (fun q => by cases q)
    · have := kd.rng y hy
      exact ⟨this.1, Nat.le_trans this.2 hx.eB⟩

def spAll (t : Adr) (K : PySem.W.Frag) (B : Bytes) : Sp := fun vs H Q _ => ∃ (a f tn : Addr) (cs : List (Addr × El)) (nms : List Nat), vs = [.ref a, .ref tn] ∧ ConB t K B H a f cs ∧ SqT K H tn (nms.map fun k => V.int ((k : Nat) : Int)) ∧
  (∀ H' b, H' b = some (.lst (refs (cs.filter fun x => nms.contains x.2.nm))) → H b = none → Same H H' → Q (.ref b) H')
theorem sc_Contents_all_named : FnScope ["self", "names", "child"] ["self", "names"] (defScope s_Contents_all_named) := ⟨rfl, rfl, rfl, by decide +kernel, rfl, by decide +kernel, by decide +kernel⟩
theorem ok_Contents_all_named (B : Bytes) (T : Txt K mg t) : FnOk P w K mg base (CXB P w t.c_NotRight) 1 t.f_Contents_all_named t.d_Contents_all_named ["self", "names"] (spAll t K B) := by
  refine T.F_Contents_all_named.okX sc_Contents_all_named (fun vs H Q E h => ?_) (fun cdv A outer s H vs Q E hr h => ?_)
  · obtain ⟨a, f, tn, cs, nms, rfl, _⟩ := h
    rfl
  · obtain ⟨a, f, tn, cs, nms, rfl, hc, hT, q⟩ := h
    obtain ⟨l, ⟨da, ha⟩, hl⟩ := hc.ob
    refine' ⟨_, (pss_one (ps_ret (pe_lc (own := [("child", 2)]) rfl sc_Contents_all_named.nd (pi_list (pe_fld (pv 0) rfl)) (blkOk_by (by kernel_rfl)) ?lcg ?lct ?lce))), ?main⟩
    case lcg => exact (fun _ _ _ _ _ => pg_name (i := 2) sc_Contents_all_named.nd rfl (Or.inl rfl))
    case lct => (intro _ _ _ _ _; exact pts_one (pt_cmpR (op_in_seqK (K := K) rfl) (pe_fldK (K := K) rfl (pv 2) rfl) (pv 1) rfl))
    case lce => exact fun _ _ _ _ _ => (pv 2)
    case main =>
      refine ⟨_, rfl, a, _, da, _, _, rfl, ha, T.cl_Contents, T.na_Contents_children, lk_Con_children _ _, l, rfl, ⟨_, SqL.of hl⟩, fun D hD => ?_⟩
      refine lc_list (K := K) (a := l) (xs := refs cs) (fun i H2 => H2 D = some (.lst (refs ((cs.take i).filter fun x => nms.contains x.2.nm))) ∧ Same H H2) ⟨upd_same, same_upd hD⟩ (fun i H2 _ ⟨_, s2⟩ => SqL.of (s2 _ _ hl)) ?_ ?_
      · rintro i y H2 hi ⟨hD2, s2⟩
        obtain ⟨x, hx, rfl⟩ := refs_at hi
        obtain ⟨dx, hxa⟩ := hc.kids.at_ x (List.mem_of_getElem? hx)
        refine ⟨rfl, ?_⟩
        refine ⟨_, rfl, x.1, _, dx, _, _, rfl, s2 _ _ hxa, T.cl_Element, T.na_Element_name, lk_El_name _ _ _, _, rfl, tn, _, rfl, .inr (Same.seqT s2 hT), rfl, flat_nats nms, _, rfl, ?_⟩
        have et : cs.take (i + 1) = cs.take i ++ [x] := by
          obtain ⟨hlt, e⟩ := List.getElem?_eq_some_iff.mp hx
          rw [List.take_succ_eq_append_getElem hlt, e]
        rw [show (if (false : Bool) = true then !inV (V.int (x.2.nm : Int)) (nms.map fun k => V.int ((k : Nat) : Int)) else inV (V.int (x.2.nm : Int)) (nms.map fun k => V.int ((k : Nat) : Int))) = nms.contains x.2.nm from (if_neg (by decide)).trans (inV_nats _ _)]
        refine ite2 (fun hm => ?_) fun hm => ?_
        · refine ⟨_, rfl, _, hD2, ?_, ?_, fun b o e => ?_⟩
          · rw [refs_len]
            have h1 := List.length_filter_le (fun x : Addr × El => nms.contains x.2.nm) (cs.take i)
            have h2 : (cs.take i).length ≤ cs.length := by rw [List.length_take]; omega
            have h3 := hc.kids.len
            show _ < 16777216
            omega
          · rw [et, List.filter_append, upd_same]
            have e1 : [x].filter (fun x : Addr × El => nms.contains x.2.nm) = [x] := by simp only [List.filter_cons, hm, if_true, List.filter_nil]
            rw [e1, refs_snoc]
          · have hne : b ≠ D := fun z => by
              rw [z, hD] at e
              cases e
            rw [upd_ne hne]
            exact s2 b o e
        · refine ⟨?_, s2⟩
          rw [et, List.filter_append]
          have e1 : [x].filter (fun x : Addr × El => nms.contains x.2.nm) = [] := by simp only [List.filter_cons, hm, List.filter_nil]; rfl
          rw [e1, List.append_nil]
          exact hD2
      · rintro H2 ⟨hD2, s2⟩
        rw [refs_len, List.take_length] at hD2
        exact q H2 D hD2 hD s2

/-- the children of a name -/
def named1 (n : Nat) (cs : List (Addr × El)) : List (Addr × El) := cs.filter fun x => x.2.nm == n
theorem named1_eq (n : Nat) (cs : List (Addr × El)) : (cs.filter fun x => ([n] : List Nat).contains x.2.nm) = named1 n cs := by
  unfold named1
  congr 1
  funext x
  rw [List.contains_cons, List.contains_nil, Bool.or_false]
theorem named1_mem {n : Nat} {cs : List (Addr × El)} {x : Addr × El} (h : x ∈ named1 n cs) : x ∈ cs ∧ x.2.nm = n := by
  unfold named1 at h
  rw [List.mem_filter] at h
  exact ⟨h.1, by simpa using h.2⟩
theorem of_named1 (B : Bytes) (n : Nat) (cs : List (Addr × El)) : Sg32.of n (cs.map (den B)) = (named1 n cs).map fun x => sl B x.2.st x.2.en := by
  unfold Sg32.of named1
  rw [List.filter_map, List.map_map]
  rfl
def spAtMost (t : Adr) (K : PySem.W.Frag) (B : Bytes) : Sp := fun vs H Q E => ∃ (a f : Addr) (cs : List (Addr × El)) (n : Nat), vs = [.ref a, .int n] ∧ ConB t K B H a f cs ∧
  (2 ≤ (named1 n cs).length → Esc t.c_NotRight E) ∧ (named1 n cs = [] → ∀ H', Same H H' → Q .non H') ∧ (∀ x, named1 n cs = [x] → ∀ H', Same H H' → Q (.ref x.1) H')
theorem sc_Contents_at_most_once : FnScope ["self", "name", "found"] ["self", "name"] (defScope s_Contents_at_most_once) := ⟨rfl, rfl, rfl, by decide +kernel, rfl, by decide +kernel, by decide +kernel⟩
theorem ok_Contents_at_most_once (B : Bytes) (T : Txt K mg t) : FnOk P w K mg base (CXB P w t.c_NotRight) 2 t.f_Contents_at_most_once t.d_Contents_at_most_once ["self", "name"] (spAtMost t K B) := by
  have G_Contents_all_named := ok_Contents_all_named (P := P) (w := w) (base := base) B T
  refine T.F_Contents_at_most_once.okX sc_Contents_at_most_once (fun vs H Q E h => ?_) (fun cdv A outer s H vs Q E hr h => ?_)
  · obtain ⟨a, f, cs, n, rfl, _⟩ := h
    rfl
  · obtain ⟨a, f, cs, n, rfl, hc, q1, q2, q3⟩ := h
    obtain ⟨l, ⟨da, ha⟩, hl⟩ := hc.ob
    refine ⟨_, (pss_cons (ps_set (i := 2) sc_Contents_at_most_once.nd rfl (Or.inl rfl) (pe_meth (pv 0) T.cl_Contents T.me_Contents_all_named G_Contents_all_named (hr.mono (by decide)) T.b_Contents_all_named .nil pX (pa_cons (pe_tup (pa_cons (pv 1) pa_nil)) pa_nil)))
      (pss_cons (ps_if (pt_cmpR op_gt (pe_callB call_len_seq rfl T.n_len PySem.boot_len (pa_cons (pv 2) pa_nil)) pe_int (nomark _)) (pss_one (ps_raiseB T.exc rfl T.mg_NotRight)) pss_nil)
      (pss_one (ps_ret (pe_ifExp (pt_truth (pv 2) (fun _ => rfl)) (pe_ix ix_list (pv 2) pe_int (fun _ _ => rfl)) pe_non))))), ?_⟩
    refine ⟨_, rfl, a, da, _, rfl, ha, (by kernel_rfl), _, rfl, (by show 1 ≤ sizeLine; decide), fun tn htn => ?_⟩
    refine ⟨a, f, tn, cs, [n], rfl, hc.same (same_upd htn), SqT.of upd_same, fun H1 b hb nb s1 => ?_⟩
    have s01 : Same H H1 := (same_upd htn).trans s1
    rw [named1_eq] at hb
    refine ⟨_, rfl, b, _, rfl, .inl (SqL.of hb), _, _, rfl, rfl, _, rfl, ite2 (fun hd => ?_) fun hd => ?_⟩
    · have hd := of_decide_eq_true hd
      rw [refs_len] at hd
      exact q1 (by omega)
    · have hd : ¬ ((1 : Int) < (((refs (named1 n cs)).length : Nat) : Int)) := fun z => hd (decide_eq_true z)
      rw [refs_len] at hd
      refine ⟨_, rfl, _, .inl ⟨_, SqL.of hb, rfl⟩, ?_⟩
      match hm : named1 n cs with
      | [] =>
        rw [hm] at hb
        exact q2 hm H1 s01
      | [x] =>
        rw [hm] at hb
        refine ⟨_, rfl, b, _, _, _, rfl, rfl, SqL.of hb, at_of (j := 0) rfl rfl, q3 x hm H1 s01⟩
      | x :: y :: r =>
        rw [hm] at hd
        simp at hd
        omega
def spOnce (t : Adr) (K : PySem.W.Frag) (B : Bytes) : Sp := fun vs H Q E => ∃ (a f : Addr) (cs : List (Addr × El)) (n : Nat), vs = [.ref a, .int n] ∧ ConB t K B H a f cs ∧
  ((∀ x, named1 n cs ≠ [x]) → Esc t.c_NotRight E) ∧ (∀ x, named1 n cs = [x] → ∀ H', Same H H' → Q (.ref x.1) H')
theorem sc_Contents_once : FnScope ["self", "name", "child"] ["self", "name"] (defScope s_Contents_once) := ⟨rfl, rfl, rfl, by decide +kernel, rfl, by decide +kernel, by decide +kernel⟩
theorem ok_Contents_once (B : Bytes) (T : Txt K mg t) : FnOk P w K mg base (CXB P w t.c_NotRight) 3 t.f_Contents_once t.d_Contents_once ["self", "name"] (spOnce t K B) := by
  have G_Contents_at_most_once := ok_Contents_at_most_once (P := P) (w := w) (base := base) B T
  refine T.F_Contents_once.okX sc_Contents_once (fun vs H Q E h => ?_) (fun cdv A outer s H vs Q E hr h => ?_)
  · obtain ⟨a, f, cs, n, rfl, _⟩ := h
    rfl
  · obtain ⟨a, f, cs, n, rfl, hc, q1, q2⟩ := h
    obtain ⟨l, ⟨da, ha⟩, hl⟩ := hc.ob
    refine ⟨_, (pss_cons (ps_set (i := 2) sc_Contents_once.nd rfl (Or.inl rfl) (pe_meth (pv 0) T.cl_Contents T.me_Contents_at_most_once G_Contents_at_most_once (hr.mono (by decide)) T.b_Contents_at_most_once .nil pX (pa_cons (pv 1) pa_nil)))
      (pss_cons (ps_if (pt_cmp (pc_isN (pv 2))) (pss_one (ps_raiseB T.exc rfl T.mg_NotRight)) pss_nil)
      (pss_one (ps_ret (pv 2))))), ?_⟩
    refine ⟨_, rfl, a, da, _, rfl, ha, (by kernel_rfl), _, rfl, a, f, cs, n, rfl, hc, fun h2 => EE.esc (q1 fun x z => ?_), fun hn H1 s1 => ?_, fun x hx H1 s1 => ?_⟩
    · rw [z] at h2
      simp at h2
    · exact ⟨_, rfl, _, rfl, iteT (q1 fun x z => by rw [hn] at z; cases z)⟩
    · exact ⟨_, rfl, _, rfl, iteF ⟨_, rfl, q2 x hx H1 s1⟩⟩

/-! ### numbers -/
def spBound (t : Adr) (K : PySem.W.Frag) (B : Bytes) : Sp := fun vs H Q E => ∃ (f a : Addr) (x : El) (lo hi : Nat), vs = [.ref f, .ref a, .int lo, .int hi] ∧ FileB K B H f ∧ ElB t B H a x ∧
  (value (sl B x.st x.en) = none → Esc t.c_NotRight E) ∧ (∀ v, value (sl B x.st x.en) = some v → ¬ (lo ≤ v ∧ v ≤ hi) → Esc t.c_NotRight E) ∧
  (∀ v, value (sl B x.st x.en) = some v → lo ≤ v → v ≤ hi → Q (.int ((v : Nat) : Int)) H)
theorem sc_bounded_number : FnScope ["file", "element", "least", "most", "value"] ["file", "element", "least", "most"] (defScope s_bounded_number) := ⟨rfl, rfl, rfl, by decide +kernel, rfl, by decide +kernel, by decide +kernel⟩
theorem ok_bounded_number (B : Bytes) (T : Txt K mg t) : FnOk P w K mg base (CXB P w t.c_NotRight) 2 t.f_bounded_number t.d_bounded_number ["file", "element", "least", "most"] (spBound t K B) := by
  have G_join_bytes := ok_join_bytes (P := P) (w := w) (base := base) B T
  refine T.F_bounded_number.okX sc_bounded_number (fun vs H Q E h => ?_) (fun cdv A outer s H vs Q E hr h => ?_)
  · obtain ⟨f, a, x, lo, hi, rfl, _⟩ := h
    rfl
  · obtain ⟨f, a, ⟨nm, st, en⟩, lo, hi, rfl, hf, hx, q1, q2, q3⟩ := h
    obtain ⟨da, ha⟩ := hx.at_
    have hle := hx.le
    have heB := hx.eB
    simp only at ha hle heB q1 q2 q3
    have hlen : (sl B st en).length = en - st := sl_length heB
    refine ⟨_, (pss_cons (ps_if (pt_cmpR op_gt (pe_op op_sub (pe_fld (pv 1) rfl) (pe_fld (pv 1) rfl)) (pe_gint rfl T.c_LONGEST_NUMBER) (nomark _)) (pss_one (ps_raiseB T.exc rfl T.mg_NotRight)) pss_nil)
      (pss_cons (ps_set (i := 4) sc_bounded_number.nd rfl (Or.inl rfl) (pe_call G_join_bytes (hr.mono (by decide)) rfl T.mg_join_bytes T.F_join_bytes.kp T.b_join_bytes .nil pX (pa_cons (pv 0) (pa_cons (pe_fld (pv 1) rfl) (pa_cons (pe_fld (pv 1) rfl) (pa_cons pe_int pa_nil))))))
      (pss_cons (ps_if (PW.pt (pw_or (pt_cmpR op_lt (pv 4) (pv 2) (nomark _)) (pw_or1 (pt_cmpR op_gt (pv 4) (pv 3) (nomark _))))) (pss_one (ps_raiseB T.exc rfl T.mg_NotRight)) pss_nil)
      (pss_one (ps_ret (pv 4)))))), ?_⟩
    refine ⟨_, rfl, a, _, da, _, _, rfl, ha, T.cl_Element, T.na_Element_end, lk_El_end _ _ _, _, rfl, a, _, da, _, _, rfl, ha, T.cl_Element, T.na_Element_start, lk_El_start _ _ _, _, _, rfl, rfl, _, _, rfl, rfl, _, rfl, ite2 (fun hd => ?_) fun hd => ?_⟩
    · have hd := of_decide_eq_true hd
      exact q1 (by unfold value; rw [if_neg (by omega)])
    · have hd : ¬ ((8 : Int) < (en : Int) - (st : Int)) := fun z => hd (decide_eq_true z)
      have hv : value (sl B st en) = some (fold 0 (sl B st en)) := by unfold value; rw [if_pos (by omega)]; rfl
      refine ⟨_, rfl, _, rfl, a, _, da, _, _, rfl, ha, T.cl_Element, T.na_Element_start, lk_El_start _ _ _, _, rfl, a, _, da, _, _, rfl, ha, T.cl_Element, T.na_Element_end, lk_El_end _ _ _, f, st, en, 0, rfl, hf.fl, hle, heB, hf.len, ?_⟩
      generalize fold 0 (sl B st en) = v at hv
      refine ⟨_, rfl, _, rfl, _, _, rfl, rfl, _, rfl, ite2 (fun h1 => ?_) fun h1 => ?_⟩
      · have h1 := of_decide_eq_true h1
        exact iteT (q2 v hv (by omega))
      · have h1 : ¬ ((v : Int) < (lo : Int)) := fun z => h1 (decide_eq_true z)
        refine ⟨_, rfl, _, rfl, _, _, rfl, rfl, _, rfl, ite2 (fun h2 => ?_) fun h2 => ?_⟩
        · have h2 := of_decide_eq_true h2
          exact q2 v hv (by omega)
        · have h2 : ¬ ((hi : Int) < (v : Int)) := fun z => h2 (decide_eq_true z)
          exact ⟨_, rfl, q3 v hv (by omega) (by omega)⟩
theorem once_of {B : Bytes} {n : Nat} {cs : List (Addr × El)} {x : Addr × El} (h : named1 n cs = [x]) : once n (cs.map (den B)) = some (sl B x.2.st x.2.en) := by
  unfold once; rw [of_named1, h]; rfl
theorem once_not {B : Bytes} {n : Nat} {cs : List (Addr × El)} (h : ∀ x, named1 n cs ≠ [x]) : once n (cs.map (den B)) = none := by
  unfold once; rw [of_named1]
  match hm : named1 n cs with
  | [] => rfl
  | [x] => exact absurd hm (h x)
  | _ :: _ :: _ => rfl
theorem atMost_nil {B : Bytes} {n : Nat} {cs : List (Addr × El)} (h : named1 n cs = []) : atMost n (cs.map (den B)) = some none := by
  unfold atMost; rw [of_named1, h]; rfl
theorem atMost_one {B : Bytes} {n : Nat} {cs : List (Addr × El)} {x : Addr × El} (h : named1 n cs = [x]) : atMost n (cs.map (den B)) = some (some (sl B x.2.st x.2.en)) := by
  unfold atMost; rw [of_named1, h]; rfl
theorem atMost_two {B : Bytes} {n : Nat} {cs : List (Addr × El)} (h : 2 ≤ (named1 n cs).length) : atMost n (cs.map (den B)) = none := by
  unfold atMost; rw [of_named1]
  match hm : named1 n cs with
  | [] => rw [hm] at h; simp at h
  | [x] => rw [hm] at h; simp at h
  | _ :: _ :: _ => rfl
/-- a number within bounds -/
def bnd (lo hi : Nat) (b : Bytes) : Option Nat := match value b with
  | none => none
  | some v => if lo ≤ v ∧ v ≤ hi then some v else none
theorem bnd_eq (lo hi : Nat) (b : Bytes) : (do let v ← value b; Sg32.must (decide (lo ≤ v) && decide (v ≤ hi)); return v) = bnd lo hi b := by
  unfold bnd
  cases value b with
  | none => rfl
  | some v =>
    show (Sg32.must (decide (lo ≤ v) && decide (v ≤ hi))).bind (fun _ => some v) = if lo ≤ v ∧ v ≤ hi then some v else none
    unfold Sg32.must
    by_cases h1 : lo ≤ v <;> by_cases h2 : v ≤ hi <;> simp [h1, h2]
theorem onceNumber_of {lo hi n : Nat} {l : List (Nat × Bytes)} : onceNumber n lo hi l = (once n l).bind (bnd lo hi) := by
  unfold onceNumber
  cases once n l with
  | none => rfl
  | some b => exact bnd_eq lo hi b
theorem numberOr_of {lo hi n o : Nat} {l : List (Nat × Bytes)} : numberOr n lo hi o l = (atMost n l).bind fun x => match x with
    | none => some o
    | some b => bnd lo hi b := by
  unfold numberOr
  cases atMost n l with
  | none => rfl
  | some x =>
    cases x with
    | none => rfl
    | some b => exact bnd_eq lo hi b
def spNumOnce (t : Adr) (K : PySem.W.Frag) (B : Bytes) : Sp := fun vs H Q E => ∃ (a f : Addr) (cs : List (Addr × El)) (n lo hi : Nat), vs = [.ref a, .int n, .int lo, .int hi] ∧ ConB t K B H a f cs ∧
  (onceNumber n lo hi (cs.map (den B)) = none → Esc t.c_NotRight E) ∧ (∀ v, onceNumber n lo hi (cs.map (den B)) = some v → ∀ H', Same H H' → Q (.int ((v : Nat) : Int)) H')
theorem bnd_none {lo hi : Nat} {b : Bytes} (h : value b = none) : bnd lo hi b = none := by unfold bnd; rw [h]
theorem bnd_out {lo hi v : Nat} {b : Bytes} (h : value b = some v) (h2 : ¬ (lo ≤ v ∧ v ≤ hi)) : bnd lo hi b = none := by unfold bnd; rw [h]; simp only; rw [if_neg h2]
theorem bnd_in {lo hi v : Nat} {b : Bytes} (h : value b = some v) (h1 : lo ≤ v) (h2 : v ≤ hi) : bnd lo hi b = some v := by unfold bnd; rw [h]; simp only; rw [if_pos ⟨h1, h2⟩]
theorem sc_Contents_number_once : FnScope ["self", "name", "least", "most"] ["self", "name", "least", "most"] (defScope s_Contents_number_once) := ⟨rfl, rfl, rfl, by decide +kernel, rfl, by decide +kernel, by decide +kernel⟩
theorem ok_Contents_number_once (B : Bytes) (T : Txt K mg t) : FnOk P w K mg base (CXB P w t.c_NotRight) 4 t.f_Contents_number_once t.d_Contents_number_once ["self", "name", "least", "most"] (spNumOnce t K B) := by
  have G_bounded_number := ok_bounded_number (P := P) (w := w) (base := base) B T
  have G_Contents_once := ok_Contents_once (P := P) (w := w) (base := base) B T
  refine T.F_Contents_number_once.okX sc_Contents_number_once (fun vs H Q E h => ?_) (fun cdv A outer s H vs Q E hr h => ?_)
  · obtain ⟨a, f, cs, n, lo, hi, rfl, _⟩ := h
    rfl
  · obtain ⟨a, f, cs, n, lo, hi, rfl, hc, q1, q2⟩ := h
    obtain ⟨l, ⟨da, ha⟩, hl⟩ := hc.ob
    refine ⟨_, (pss_one (ps_ret (pe_call G_bounded_number (hr.mono (by decide)) rfl T.mg_bounded_number T.F_bounded_number.kp T.b_bounded_number .nil pX (pa_cons (pe_fld (pv 0) rfl) (pa_cons (pe_meth (pv 0) T.cl_Contents T.me_Contents_once G_Contents_once (hr.mono (by decide)) T.b_Contents_once .nil pX (pa_cons (pv 1) pa_nil)) (pa_cons (pv 2) (pa_cons (pv 3) pa_nil))))))), ?_⟩
    refine ⟨_, rfl, a, _, da, _, _, rfl, ha, T.cl_Contents, T.na_Contents_file, lk_Con_file _ _, _, rfl, a, da, _, rfl, ha, (by kernel_rfl), _, rfl, a, f, cs, n, rfl, hc, fun h2 => EE.esc (q1 (by rw [onceNumber_of, once_not h2]; rfl)), fun x hx H1 s1 => ?_⟩
    have hm : x ∈ cs := (named1_mem (n := n) (by rw [hx]; exact List.mem_singleton.mpr rfl)).1
    have eo : onceNumber n lo hi (cs.map (den B)) = bnd lo hi (sl B x.2.st x.2.en) := by rw [onceNumber_of, once_of hx]; rfl
    refine ⟨_, rfl, _, rfl, f, x.1, x.2, lo, hi, rfl, hc.file.same s1, (hc.el hm).same s1, fun hv => EE.esc (q1 (by rw [eo, bnd_none hv])), fun v hv ho => EE.esc (q1 (by rw [eo, bnd_out hv ho])), fun v hv h1 h2 => q2 v (by rw [eo, bnd_in hv h1 h2]) H1 s1⟩
def spNumOr (t : Adr) (K : PySem.W.Frag) (B : Bytes) : Sp := fun vs H Q E => ∃ (a f : Addr) (cs : List (Addr × El)) (n lo hi oth : Nat) (o : V), vs = [.ref a, .int n, .int lo, .int hi, o] ∧ ConB t K B H a f cs ∧
  (numberOr n lo hi oth (cs.map (den B)) = none → Esc t.c_NotRight E) ∧
  (∀ v y, numberOr n lo hi oth (cs.map (den B)) = some v → (y = .int ((v : Nat) : Int) ∨ (y = o ∧ v = oth)) → ∀ H', Same H H' → Q y H')
theorem sc_Contents_number_or : FnScope ["self", "name", "least", "most", "otherwise", "child"] ["self", "name", "least", "most", "otherwise"] (defScope s_Contents_number_or) := ⟨rfl, rfl, rfl, by decide +kernel, rfl, by decide +kernel, by decide +kernel⟩
theorem ok_Contents_number_or (B : Bytes) (T : Txt K mg t) : FnOk P w K mg base (CXB P w t.c_NotRight) 3 t.f_Contents_number_or t.d_Contents_number_or ["self", "name", "least", "most", "otherwise"] (spNumOr t K B) := by
  have G_bounded_number := ok_bounded_number (P := P) (w := w) (base := base) B T
  have G_Contents_at_most_once := ok_Contents_at_most_once (P := P) (w := w) (base := base) B T
  refine T.F_Contents_number_or.okX sc_Contents_number_or (fun vs H Q E h => ?_) (fun cdv A outer s H vs Q E hr h => ?_)
  · obtain ⟨a, f, cs, n, lo, hi, oth, o, rfl, _⟩ := h
    rfl
  · obtain ⟨a, f, cs, n, lo, hi, oth, o, rfl, hc, q1, q2⟩ := h
    obtain ⟨l, ⟨da, ha⟩, hl⟩ := hc.ob
    refine ⟨_, (pss_cons (ps_set (i := 5) sc_Contents_number_or.nd rfl (Or.inl rfl) (pe_meth (pv 0) T.cl_Contents T.me_Contents_at_most_once G_Contents_at_most_once (hr.mono (by decide)) T.b_Contents_at_most_once .nil pX (pa_cons (pv 1) pa_nil)))
      (pss_cons (ps_if (pt_cmp (pc_isN (pv 5))) (pss_one (ps_ret (pv 4))) pss_nil)
      (pss_one (ps_ret (pe_call G_bounded_number (hr.mono (by decide)) rfl T.mg_bounded_number T.F_bounded_number.kp T.b_bounded_number .nil pX (pa_cons (pe_fld (pv 0) rfl) (pa_cons (pv 5) (pa_cons (pv 2) (pa_cons (pv 3) pa_nil))))))))), ?_⟩
    refine ⟨_, rfl, a, da, _, rfl, ha, (by kernel_rfl), _, rfl, a, f, cs, n, rfl, hc, fun h2 => EE.esc (q1 (by rw [numberOr_of, atMost_two h2]; rfl)), fun hn H1 s1 => ?_, fun x hx H1 s1 => ?_⟩
    · exact ⟨_, rfl, _, rfl, iteT ⟨_, rfl, q2 oth o (by rw [numberOr_of, atMost_nil hn]; rfl) (.inr ⟨rfl, rfl⟩) H1 s1⟩⟩
    · have hm : x ∈ cs := (named1_mem (n := n) (by rw [hx]; exact List.mem_singleton.mpr rfl)).1
      have eo : numberOr n lo hi oth (cs.map (den B)) = bnd lo hi (sl B x.2.st x.2.en) := by rw [numberOr_of, atMost_one hx]; rfl
      have ha1 := s1 _ _ ha
      refine ⟨_, rfl, _, rfl, iteF ?_⟩
      refine ⟨_, rfl, a, _, da, _, _, rfl, ha1, T.cl_Contents, T.na_Contents_file, lk_Con_file _ _, _, rfl, _, rfl, _, rfl, f, x.1, x.2, lo, hi, rfl, hc.file.same s1, (hc.el hm).same s1, fun hv => EE.esc (q1 (by rw [eo, bnd_none hv])), fun v hv ho => EE.esc (q1 (by rw [eo, bnd_out hv ho])), fun v hv h1 h2 => q2 v _ (by rw [eo, bnd_in hv h1 h2]) (.inl rfl) H1 s1⟩
def spBefore (t : Adr) (K : PySem.W.Frag) : Sp := fun vs H Q E => ∃ (a l : Addr) (x : El) (cs : List (Addr × El)), vs = [.ref a, .ref l] ∧ ElAt t H a x.nm x.st x.en ∧ H l = some (.lst (refs cs)) ∧ (∀ y, y ∈ cs → ElA t H y) ∧
  ((∃ y, y ∈ cs ∧ y.2.st < x.st) → Esc t.c_NotRight E) ∧ ((∀ y, y ∈ cs → x.st ≤ y.2.st) → Q .non H)
theorem sc_check_before : FnScope ["first", "others", "other"] ["first", "others"] (defScope s_check_before) := ⟨rfl, rfl, rfl, by decide +kernel, rfl, by decide +kernel, by decide +kernel⟩
theorem ok_check_before (T : Txt K mg t) : FnOk P w K mg base (CXB P w t.c_NotRight) 1 t.f_check_before t.d_check_before ["first", "others"] (spBefore t K) := by
  refine T.F_check_before.okX sc_check_before (fun vs H Q E h => ?_) (fun cdv A outer s H vs Q E hr h => ?_)
  · obtain ⟨a, l, x, cs, rfl, _⟩ := h
    rfl
  · obtain ⟨a, l, x, cs, rfl, ⟨da, ha⟩, hl, hcs, q1, q2⟩ := h
    refine ⟨_, (pss_one (ps_for PassesOwn.leaving rfl (pi_list (pv 1)) (pg_name (i := 2) sc_check_before.nd rfl (Or.inl rfl)) (pss_one (ps_if (pt_cmpR op_lt (pe_fld (pv 2) rfl) (pe_fld (pv 0) rfl) (nomark _)) (pss_one (ps_raiseB T.exc rfl T.mg_NotRight)) pss_nil)))), ?_⟩
    refine ⟨_, rfl, l, rfl, ⟨_, SqL.of hl⟩, for_list (K := K) (a := l) (xs := refs cs) (fun i σ H2 => H2 = H ∧ (∃ v2 : Option V, σ = [some (.ref a), some (.ref l), v2]) ∧ ∀ y, y ∈ cs.take i → x.st ≤ y.2.st)
      ⟨rfl, ⟨none, rfl⟩, by simp⟩ (fun i σ H2 _ ⟨e, _⟩ => by rw [e]; exact SqL.of hl) ?_ ?_⟩
    · rintro i y σ H2 hi ⟨rfl, ⟨v2, rfl⟩, hy⟩
      obtain ⟨z, hz, rfl⟩ := refs_at hi
      have hzm : z ∈ cs := List.mem_of_getElem? hz
      obtain ⟨dz, hza⟩ := hcs z hzm
      refine ⟨_, rfl, z.1, _, dz, _, _, rfl, hza, T.cl_Element, T.na_Element_start, lk_El_start _ _ _, _, rfl, a, _, da, _, _, rfl, ha, T.cl_Element, T.na_Element_start, lk_El_start _ _ _, _, _, rfl, rfl, _, rfl, ite2 (fun hd => ?_) fun hd => ?_⟩
      · have hd := of_decide_eq_true hd
        exact q1 ⟨z, hzm, by omega⟩
      · have hd : ¬ ((z.2.st : Int) < (x.st : Int)) := fun q => hd (decide_eq_true q)
        refine ⟨rfl, ⟨_, rfl⟩, fun y' hy' => ?_⟩
        obtain ⟨hlt, e⟩ := List.getElem?_eq_some_iff.mp hz
        rw [List.take_succ_eq_append_getElem hlt, e] at hy'
        rcases List.mem_append.mp hy' with m | m
        · exact hy y' m
        · obtain rfl := List.mem_singleton.mp m
          omega
    · rintro σ H2 ⟨rfl, _, hy⟩
      rw [refs_len, List.take_length] at hy
      exact q2 hy
end
end Film

set_option Elab.async false
set_option linter.all false
set_option maxRecDepth 100000
set_option maxHeartbeats 1000000
namespace Film
open PySem PySem.Spec PyProof.Rows L2
open Sg32 (Bytes vint unknown xiph laced)
section
variable {P : Program} {w : World} {K : PySem.W.Frag} {mg : Str → Option Value} {base : Heap} {t : Adr}
/-! ### lacing -/
def nats (l : List Nat) : List V := l.map fun n => V.int ((n : Nat) : Int)
theorem nats_int (l : List Nat) : nats l = (l.map fun n : Nat => (n : Int)).map V.int := by unfold nats; rw [List.map_map]; rfl
def spLast (t : Adr) : Sp := fun vs H Q E => ∃ (a : Addr) (zs : List Int) (r : Int), vs = [.ref a, .int r] ∧ H a = some (.lst (zs.map V.int)) ∧ zs.length ≤ 255 ∧
  ((zs ++ [r - zs.sum]).all (fun z => decide (0 ≤ z)) = false → Esc t.c_NotRight E) ∧
  ((zs ++ [r - zs.sum]).all (fun z => decide (0 ≤ z)) = true → ∀ H' b, H' b = some (.lst ((zs ++ [r - zs.sum]).map V.int)) → H b = none → Same H H' → Q (.ref b) H')
theorem sc_with_last_length : FnScope ["lengths", "rest", "whole"] ["lengths", "rest"] (defScope s_with_last_length) := ⟨rfl, rfl, rfl, by decide +kernel, rfl, by decide +kernel, by decide +kernel⟩
theorem ok_with_last_length (T : Txt K mg t) : FnOk P w K mg base (CXB P w t.c_NotRight) 1 t.f_with_last_length t.d_with_last_length ["lengths", "rest"] (spLast t) := by
  refine T.F_with_last_length.okX sc_with_last_length (fun vs H Q E h => ?_) (fun cdv A outer s H vs Q E hr h => ?_)
  · obtain ⟨a, zs, r, rfl, _⟩ := h
    rfl
  · obtain ⟨a, zs, r, rfl, ha, hl, q1, q2⟩ := h
    refine ⟨_, (pss_cons (ps_set (i := 2) sc_with_last_length.nd rfl (Or.inl rfl) (pe_op op_cat (pv 0) (pe_lst (pa_cons (pe_op op_sub (pv 1) (pe_callB (cr_sum rfl) rfl T.n_sum boot_sum (pa_cons (pv 0) pa_nil))) pa_nil))))
      (pss_cons (ps_if (pt_cmpR op_lt (pe_callB (cr_min rfl) rfl T.n_min boot_min (pa_cons (pv 2) pa_nil)) pe_int (nomark _)) (pss_one (ps_raiseB T.exc rfl T.mg_NotRight)) pss_nil)
      (pss_one (ps_ret (pv 2))))), ?_⟩
    refine ⟨_, rfl, _, rfl, _, rfl, a, zs, rfl, SqL.of ha, _, _, rfl, rfl, by show 1 ≤ sizeLine; decide, fun l nl => ?_⟩
    have s1 := same_upd (o := .lst [V.int (r - zs.sum)]) nl
    refine ⟨a, l, _, _, rfl, rfl, s1 _ _ ha, upd_same, ?_, fun b nb => ?_⟩
    · rw [List.length_map]
      show zs.length + 1 ≤ 16777216
      omega
    · have s2 := s1.trans (same_upd (o := .lst (zs.map V.int ++ [V.int (r - zs.sum)])) nb)
      have eb : zs.map V.int ++ [V.int (r - zs.sum)] = (zs ++ [r - zs.sum]).map V.int := by rw [List.map_append]; rfl
      refine ⟨_, rfl, b, zs ++ [r - zs.sum], rfl, SqL.of (by rw [← eb]; exact upd_same), by simp, fun m hm hmin => ⟨_, _, rfl, rfl, _, rfl, ite2 (fun hd => ?_) fun hd => ?_⟩⟩
      · have hd := of_decide_eq_true hd
        refine q1 (by
          rw [List.all_eq_false]
          exact ⟨m, hm, by simp; omega⟩)
      · have hd : ¬ (m < 0) := fun z => hd (decide_eq_true z)
        refine ⟨_, rfl, q2 ?_ _ b (by rw [← eb]; exact upd_same) (s1.free nb) s2⟩
        rw [List.all_eq_true]
        intro z hz
        have := hmin z hz
        exact decide_eq_true (by omega)
theorem flat_rep (v : V) : ∀ n : Nat, (List.replicate n [v]).flatten = List.replicate n v
  | 0 => rfl
  | n + 1 => by rw [List.replicate_succ, List.flatten_cons, flat_rep v n, List.replicate_succ]; rfl
def spEqual (t : Adr) : Sp := fun vs H Q E => ∃ (r n : Nat), vs = [.int r, .int n] ∧ 1 ≤ n ∧ n ≤ 256 ∧ (r % n ≠ 0 → Esc t.c_NotRight E) ∧
  (r % n = 0 → ∀ H' b, H' b = some (.lst (nats (List.replicate n (r / n)))) → H b = none → Same H H' → Q (.ref b) H')
theorem sc_equal_lengths : FnScope ["rest", "frames"] ["rest", "frames"] (defScope s_equal_lengths) := ⟨rfl, rfl, rfl, by decide +kernel, rfl, by decide +kernel, by decide +kernel⟩
theorem ok_equal_lengths (T : Txt K mg t) : FnOk P w K mg base (CXB P w t.c_NotRight) 1 t.f_equal_lengths t.d_equal_lengths ["rest", "frames"] (spEqual t) := by
  refine T.F_equal_lengths.okX sc_equal_lengths (fun vs H Q E h => ?_) (fun cdv A outer s H vs Q E hr h => ?_)
  · obtain ⟨r, n, rfl, _⟩ := h
    rfl
  · obtain ⟨r, n, rfl, h1, h2, q1, q2⟩ := h
    refine ⟨_, (pss_cons (ps_if (pt_cmpR op_ne (pe_op op_mod (pv 0) (pv 1)) pe_int (nomark _)) (pss_one (ps_raiseB T.exc rfl T.mg_NotRight)) pss_nil)
      (pss_one (ps_ret (pe_op op_rep (pe_lst (pa_cons (pe_op op_fdiv (pv 0) (pv 1)) pa_nil)) (pv 1))))), ?_⟩
    refine ⟨_, rfl, _, rfl, _, _, rfl, rfl, (by show (0 : Int) < (n : Int); omega), rfl, _, rfl, ite2 (fun hd => ?_) fun hd => ?_⟩
    · refine q1 fun z => ?_
      have e : decide (V.int ((r : Int) % (n : Int)) = V.int 0) = true := decide_eq_true (by rw [← Int.natCast_emod, z]; rfl)
      have hd : (!decide (V.int ((r : Int) % (n : Int)) = V.int 0)) = true := hd
      rw [e] at hd
      cases hd
    · have hz : r % n = 0 := by
        have hd : ¬ ((!decide (V.int ((r : Int) % (n : Int)) = V.int 0)) = true) := hd
        by_cases z : V.int ((r : Int) % (n : Int)) = V.int 0
        · have z : (r : Int) % (n : Int) = 0 := by injection z
          rw [← Int.natCast_emod] at z
          omega
        · rw [decide_eq_false z] at hd
          exact absurd rfl hd
      refine ⟨_, rfl, _, rfl, _, _, rfl, rfl, ⟨by omega, by omega⟩, by show 1 ≤ sizeLine; decide, fun l nl => ?_⟩
      have s1 := same_upd (o := .lst [V.int ((r : Int) / (n : Int))]) nl
      refine ⟨_, rfl, l, _, _, rfl, rfl, upd_same, by omega, by omega, ?_, fun b nb => ?_⟩
      · show 1 * ((n : Nat) : Int).toNat ≤ 16777216
        rw [Int.toNat_natCast]
        omega
      · have e1 : (List.replicate ((n : Nat) : Int).toNat [V.int ((r : Int) / (n : Int))]).flatten = nats (List.replicate n (r / n)) := by
          rw [Int.toNat_natCast]
          unfold nats
          rw [List.map_replicate, Int.natCast_ediv, flat_rep]
        refine q2 hz _ b ?_ (s1.free nb) (s1.trans (same_upd nb))
        rw [← e1]
        exact upd_same
def spSum (t : Adr) (K : PySem.W.Frag) (B : Bytes) : Sp := fun vs H Q E => ∃ (c f : Addr) (p e : Nat), vs = [.ref c] ∧ CurB t K B H c f p e ∧
  (sum1 (sl B p e) = none → Esc t.c_NotRight E) ∧
  (∀ v r, sum1 (sl B p e) = some (v, r) → ∀ q H', p < q → q ≤ e → r = sl B q e → CurB t K B H' c f q e → Keep c H H' → Q (.int ((v : Nat) : Int)) H')
theorem sl_tail {B : Bytes} {p e : Nat} {b : UInt8} {r : Bytes} (h : sl B p e = b :: r) : r = sl B (p + 1) e := by
  have := sl_drop B p e 1
  rw [h] at this
  exact this
theorem sc_take_sum : FnScope ["cursor", "byte", "total"] ["cursor"] (defScope s_take_sum) := ⟨rfl, rfl, rfl, by decide +kernel, rfl, by decide +kernel, by decide +kernel⟩
theorem ok_take_sum (B : Bytes) (T : Txt K mg t) : FnOk P w K mg base (CXB P w t.c_NotRight) 4 t.f_take_sum t.d_take_sum ["cursor"] (spSum t K B) := by
  have G_Cursor_take_byte := ok_Cursor_take_byte (P := P) (w := w) (base := base) B T
  refine T.F_take_sum.okX sc_take_sum (fun vs H Q E h => ?_) (fun cdv A outer s H vs Q E hr h => ?_)
  · obtain ⟨c, f, p, e, rfl, _⟩ := h
    rfl
  · obtain ⟨c, f, p, e, rfl, cb, q1, q2⟩ := h
    obtain ⟨dx, hc⟩ := cb.cur
    refine ⟨_, (pss_cons (ps_set (i := 1) sc_take_sum.nd rfl (Or.inl rfl) (pe_meth0 (pv 0) T.cl_Cursor T.me_Cursor_take_byte G_Cursor_take_byte (hr.mono (by decide)) T.b_Cursor_take_byte .nil pX))
      (pss_cons (ps_set (i := 2) sc_take_sum.nd rfl (Or.inl rfl) (pv 1))
      (pss_cons (ps_while PassesOwn.leaving (pt_cmpR op_eq (pv 1) pe_int (nomark _)) (pss_cons (ps_set (i := 1) sc_take_sum.nd rfl (Or.inl rfl) (pe_meth0 (pv 0) T.cl_Cursor T.me_Cursor_take_byte G_Cursor_take_byte (hr.mono (by decide)) T.b_Cursor_take_byte .nil pX))
      (pss_one (ps_aug (i := 2) sc_take_sum.nd rfl (Or.inl rfl) (pv 1) ip_add))))
      (pss_one (ps_ret (pv 2)))))), ?_⟩
    refine ⟨_, rfl, c, dx, _, rfl, hc, (by kernel_rfl), c, f, p, e, rfl, cb, fun b r hb H1 cb1 k1 => ?_, fun hnil => EE.esc (q1 (by rw [hnil]; rfl))⟩
    obtain rfl := sl_tail hb
    refine ⟨_, rfl, ?_⟩
    refine ⟨fun m σ H2 => ∃ (q tot : Nat) (b : UInt8), m = e - q ∧ σ = [some (.ref c), some (byV b), some (.int tot)] ∧ p < q ∧ CurB t K B H2 c f q e ∧ Keep c H H2 ∧
      sum1 (sl B p e) = (if b.toNat = 255 then (sum1 (sl B q e)).map (fun x => (tot + x.1, x.2)) else some (tot, sl B q e)), ⟨_, p + 1, b.toNat, b, rfl, rfl, by omega, cb1, k1, ?_⟩, ?_⟩
    · rw [hb]
      show (if b.toNat = 255 then _ else _) = _
      by_cases h : b.toNat = 255
      · rw [if_pos h, if_pos h, h]
      · rw [if_neg h, if_neg h]
    · rintro m σ H2 ⟨q, tot, b, rfl, rfl, hpq, cb2, k2, hs⟩
      obtain ⟨d2, hc2⟩ := cb2.cur
      refine ⟨_, rfl, rfl, _, rfl, ite2 (fun hd => ?_) fun hd => ?_⟩
      · have hd : b.toNat = 255 := by
          have z : V.int ((b.toNat : Nat) : Int) = V.int 255 := of_decide_eq_true hd
          have z : ((b.toNat : Nat) : Int) = 255 := by injection z
          omega
        rw [if_pos hd] at hs
        refine ⟨_, fun σ' H' z => z, ?_⟩
        refine ⟨_, rfl, c, d2, _, rfl, hc2, (by kernel_rfl), c, f, q, e, rfl, cb2, fun b' r hb' H3 cb3 k3 => ?_, fun hnil => EE.esc (q1 (by rw [hs, hnil]; rfl))⟩
        obtain rfl := sl_tail hb'
        have hqe := cb3.pe
        refine ⟨_, rfl, _, rfl, _, _, rfl, rfl, e - (q + 1), by omega, q + 1, tot + b'.toNat, b', rfl, ?_, by omega, cb3, k2.trans k3, ?_⟩
        · rfl
        · rw [hs, hb']
          show (if b'.toNat = 255 then (sum1 (sl B (q + 1) e)).map (fun x => (255 + x.1, x.2)) else some (b'.toNat, sl B (q + 1) e)).map (fun x => (tot + x.1, x.2)) = _
          by_cases h : b'.toNat = 255
          · rw [if_pos h, if_pos h, h, Option.map_map]
            congr 1
            funext x
            simp [Function.comp]
            omega
          · rw [if_neg h, if_neg h]
            rfl
      · have hd : ¬ (b.toNat = 255) := fun z => hd (decide_eq_true (by show V.int ((b.toNat : Nat) : Int) = V.int 255; rw [z]; rfl))
        rw [if_neg hd] at hs
        exact ⟨_, rfl, q2 tot _ hs q H2 hpq cb2.pe rfl cb2 k2⟩
def spSums (t : Adr) (K : PySem.W.Frag) (B : Bytes) : Sp := fun vs H Q E => ∃ (c f : Addr) (p e k : Nat), vs = [.ref c, .int k] ∧ CurB t K B H c f p e ∧ k ≤ 255 ∧
  (xiph k (sl B p e) = none → Esc t.c_NotRight E) ∧
  (∀ ls r, xiph k (sl B p e) = some (ls, r) → ∀ q H' a, q ≤ e → r = sl B q e → CurB t K B H' c f q e → H' a = some (.lst (nats ls)) → H a = none → ls.length = k → Keep c H H' → Q (.ref a) H')
theorem nats_snoc (l : List Nat) (n : Nat) : nats (l ++ [n]) = nats l ++ [V.int ((n : Nat) : Int)] := by unfold nats; rw [List.map_append]; rfl
theorem nats_len (l : List Nat) : (nats l).length = l.length := by unfold nats; rw [List.length_map]
/-- a list grows, the cursor's things stay -/
theorem CurB.grow {B : Bytes} {H : Hp} {c f l : Addr} {p e : Nat} {xs : List V} {o : HO} (h : CurB t K B H c f p e) (hl : H l = some (.lst xs)) (hne : l ≠ f) : CurB t K B (upd H l o) c f p e := by
  refine ⟨upd_keepIns hl h.cur, h.pe, h.eB, ?_, h.len⟩
  rcases h.fl with (z | ⟨o', z⟩) | z
  · exact .inl (.inl (by rw [upd_ne hne.symm]; exact z))
  · exact .inl (.inr ⟨o', by rw [upd_ne hne.symm]; exact z⟩)
  · exact .inr z
theorem new_ne_file {B : Bytes} {H : Hp} {f l : Addr} (hn : H l = none) : SqL K H f (bys B) → (l = f → ∃ o, K.lookup f = some o) := fun h e => by
  rcases h with (z | ⟨o', z⟩) | ⟨o, _, _, z, _⟩
  · rw [← e, hn] at z
    cases z
  · rw [← e, hn] at z
    cases z
  · exact ⟨o, z⟩
/-- what is read at f stays when the new thing at l is written -/
theorem sq_upd {H H0 : Hp} {f l : Addr} {xs : List V} {o : HO} (h0 : SqL K H0 f xs) (hn : H0 l = none) (h : Same H0 H) : SqL K (upd H l o) f xs := by
  rcases h0 with (z | ⟨o', z⟩) | z
  · exact .inl (.inl (by rw [upd_ne (ne_of_none z hn)]; exact h _ _ z))
  · exact .inl (.inr ⟨o', by rw [upd_ne (ne_of_none z hn)]; exact h _ _ z⟩)
  · exact .inr z
/-- .. where only c has changed since -/
theorem sq_updK {H H0 : Hp} {c f l D : Addr} {xs : List V} {gs : List (Str × V)} {o : HO} (h0 : SqL K H0 f xs) (hn : H0 l = none) (h : Keep c H0 H) (hc : Ins H0 c D gs) : SqL K (upd H l o) f xs := by
  obtain ⟨dc, hc⟩ := hc
  rcases h0 with (z | ⟨o', z⟩) | z
  · exact .inl (.inl (by rw [upd_ne (ne_of_none z hn)]; exact h _ _ z (ne_of z hc (by intro q; cases q))))
  · exact .inl (.inr ⟨o', by rw [upd_ne (ne_of_none z hn)]; exact h _ _ z (ne_of z hc (by intro q; cases q))⟩)
  · exact .inr z
theorem sc_take_sums : FnScope ["cursor", "count", "lengths"] ["cursor", "count"] (defScope s_take_sums) := ⟨rfl, rfl, rfl, by decide +kernel, rfl, by decide +kernel, by decide +kernel⟩
theorem ok_take_sums (B : Bytes) (T : Txt K mg t) : FnOk P w K mg base (CXB P w t.c_NotRight) 5 t.f_take_sums t.d_take_sums ["cursor", "count"] (spSums t K B) := by
  have G_take_sum := ok_take_sum (P := P) (w := w) (base := base) B T
  refine T.F_take_sums.okX sc_take_sums (fun vs H Q E h => ?_) (fun cdv A outer s H vs Q E hr h => ?_)
  · obtain ⟨c, f, p, e, k, rfl, _⟩ := h
    rfl
  · obtain ⟨c, f, p, e, k, rfl, cb, hk, q1, q2⟩ := h
    refine ⟨_, (pss_cons (ps_set (i := 2) sc_take_sums.nd rfl (Or.inl rfl) (pe_lst pa_nil))
      (pss_cons (ps_while PassesOwn.leaving (pt_cmpR op_lt (pe_callB call_len_seq rfl T.n_len PySem.boot_len (pa_cons (pv 2) pa_nil)) (pv 1) (nomark _)) (pss_one (ps_expr (pe_bm PySem.F.plainAttrs_list PySem.F.slot_list_append PySem.F.type_list_append mt_append (pv 2) (pa_cons (pe_call G_take_sum (hr.mono (by decide)) rfl T.mg_take_sum T.F_take_sum.kp T.b_take_sum .nil pX (pa_cons (pv 0) pa_nil)) pa_nil)))))
      (pss_one (ps_ret (pv 2))))), ?_⟩
    refine ⟨by show 0 ≤ sizeLine; decide, fun l nl => ?_⟩
    have s1 := same_upd (o := .lst []) nl
    refine ⟨fun m σ H2 => ∃ (q : Nat) (ls : List Nat), m = k - ls.length ∧ ls.length ≤ k ∧ σ = [some (.ref c), some (.int k), some (.ref l)] ∧ CurB t K B H2 c f q e ∧ H2 l = some (.lst (nats ls)) ∧ Keep c H H2 ∧
      xiph k (sl B p e) = (xiph (k - ls.length) (sl B q e)).map fun x => (ls ++ x.1, x.2), ⟨_, p, [], rfl, by simp, rfl, ⟨Ins.same cb.cur s1, cb.pe, cb.eB, s1.seq cb.fl, cb.len⟩, upd_same, Same.keep s1 c, ?_⟩, ?_⟩
    · simp
    · rintro m σ H2 ⟨q, ls, rfl, hlen, rfl, cb2, hl2, k2, hx⟩
      refine ⟨_, rfl, l, _, rfl, .inl (SqL.of hl2), _, rfl, _, _, rfl, rfl, _, rfl, ite2 (fun hd => ?_) fun hd => ?_⟩
      · have hd := of_decide_eq_true hd
        rw [nats_len] at hd
        obtain ⟨j, hj⟩ : ∃ j, k - ls.length = j + 1 := ⟨k - ls.length - 1, by omega⟩
        rw [hj, xiph_succ] at hx
        refine ⟨_, fun σ' H' z => z, ?_⟩
        refine ⟨_, rfl, .inl ⟨rfl, _, SqL.of hl2⟩, _, rfl, c, f, q, e, rfl, cb2, fun hn => EE.esc (q1 (by rw [hx, hn]; rfl)), fun v r hv q' H3 hqq hqe er cb3 k3 => ?_⟩
        obtain ⟨d2, hc2⟩ := cb2.cur
        have hl3 := k3 _ _ hl2 (lst_ne_ins hl2 hc2)
        refine ⟨l, _, _, rfl, rfl, hl3, ?_, k - (ls.length + 1), by omega, q', ls ++ [v], by simp, by simp; omega, rfl, ⟨upd_keepIns hl3 cb3.cur, cb3.pe, cb3.eB, sq_updK cb.fl nl (k2.trans k3) cb.cur, cb3.len⟩, ?_, ?_, ?_⟩
        · rw [nats_len]
          show ls.length < 16777216
          omega
        · rw [nats_snoc]
          exact upd_same
        · intro b o eb nb
          rw [upd_ne (ne_of_none eb nl)]
          exact (k2.trans k3) b o eb nb
        · rw [hx, hv]
          simp only
          have ej : k - (ls ++ [v]).length = j := by simp; omega
          rw [ej, ← er, Option.map_map]
          congr 1
          funext x
          simp [Function.comp]
      · have hd : ¬ ((((nats ls).length : Nat) : Int) < (k : Int)) := fun z => hd (decide_eq_true z)
        rw [nats_len] at hd
        have ek : k - ls.length = 0 := by omega
        rw [ek, xiph_zero] at hx
        have hx : xiph k (sl B p e) = some (ls, sl B q e) := by simpa using hx
        exact ⟨_, rfl, q2 ls _ hx q H2 l cb2.pe rfl cb2 hl2 nl (by omega) k2⟩
/-- half of all ones -/
theorem half_ones : ∀ k : _root_.Fin 9, 1 ≤ k.val → ((2 : Int) ^ (7 * k.val) - 1) / 2 = 2 ^ (7 * k.val - 1) - 1 := by decide
/-- lengths by differences, from what has been read: nothing yet, or the last -/
def moreDiffs (k : Nat) (zs : List Int) (b : Bytes) : Option (List Int × Bytes) := match zs.getLast? with
  | none => firstDiffs k b
  | some z => diffsI k z b
theorem moreDiffs_zero (zs : List Int) (b : Bytes) : moreDiffs 0 zs b = some ([], b) := by
  unfold moreDiffs
  cases zs.getLast? <;> rfl
/-- the next length -/
def nextD (zs : List Int) (n v : Nat) : Int := match zs.getLast? with
  | none => (v : Int)
  | some z => z + ((v : Int) - (2 ^ (7 * n - 1) - 1))
theorem moreDiffs_none {k : Nat} {zs : List Int} {b : Bytes} (h : vint b = none) : moreDiffs (k + 1) zs b = none := by
  unfold moreDiffs
  cases zs.getLast? with
  | none => show (match vint b with | none => none | some (n, v, r) => _) = _; rw [h]
  | some z => show (match vint b with | none => none | some (n, v, r) => _) = _; rw [h]
theorem moreDiffs_unk {k n v : Nat} {zs : List Int} {b r : Bytes} (h : vint b = some (n, v, r)) (hu : unknown n v = true) : moreDiffs (k + 1) zs b = none := by
  unfold moreDiffs
  cases zs.getLast? with
  | none => show (match vint b with | none => none | some (n, v, r) => _) = _; rw [h]; simp only; rw [if_pos hu]
  | some z => show (match vint b with | none => none | some (n, v, r) => _) = _; rw [h]; simp only; rw [if_pos hu]
theorem moreDiffs_some {k n v : Nat} {zs : List Int} {b r : Bytes} (h : vint b = some (n, v, r)) (hu : unknown n v = false) :
    moreDiffs (k + 1) zs b = (moreDiffs k (zs ++ [nextD zs n v]) r).map fun x => (nextD zs n v :: x.1, x.2) := by
  have hu : ¬ (unknown n v = true) := by rw [hu]; decide
  have e : moreDiffs k (zs ++ [nextD zs n v]) r = diffsI k (nextD zs n v) r := by
    unfold moreDiffs
    rw [List.getLast?_append, List.getLast?_singleton]
    rfl
  rw [e]
  unfold moreDiffs nextD
  cases zs.getLast? with
  | none => show (match vint b with | none => none | some (n, v, r) => _) = _; rw [h]; simp only; rw [if_neg hu]
  | some z => show (match vint b with | none => none | some (n, v, r) => _) = _; rw [h]; simp only; rw [if_neg hu]
def spDiffs (t : Adr) (K : PySem.W.Frag) (B : Bytes) : Sp := fun vs H Q E => ∃ (c f : Addr) (p e k : Nat), vs = [.ref c, .int k] ∧ CurB t K B H c f p e ∧ k ≤ 255 ∧
  (firstDiffs k (sl B p e) = none → Esc t.c_NotRight E) ∧
  (∀ zs r, firstDiffs k (sl B p e) = some (zs, r) → ∀ q H' a, q ≤ e → r = sl B q e → CurB t K B H' c f q e → H' a = some (.lst (zs.map V.int)) → H a = none → zs.length = k → Keep c H H' → Q (.ref a) H')
theorem sc_take_differences : FnScope ["cursor", "count", "lengths", "number"] ["cursor", "count"] (defScope s_take_differences) := ⟨rfl, rfl, rfl, by decide +kernel, rfl, by decide +kernel, by decide +kernel⟩
theorem ok_take_differences (B : Bytes) (T : Txt K mg t) : FnOk P w K mg base (CXB P w t.c_NotRight) 6 t.f_take_differences t.d_take_differences ["cursor", "count"] (spDiffs t K B) := by
  have G_Cursor_take_known_number := ok_Cursor_take_known_number (P := P) (w := w) (base := base) B T
  refine T.F_take_differences.okX sc_take_differences (fun vs H Q E h => ?_) (fun cdv A outer s H vs Q E hr h => ?_)
  · obtain ⟨c, f, p, e, k, rfl, _⟩ := h
    rfl
  · obtain ⟨c, f, p, e, k, rfl, cb, hk, q1, q2⟩ := h
    refine ⟨_, (pss_cons (ps_set (i := 2) sc_take_differences.nd rfl (Or.inl rfl) (pe_lst pa_nil))
      (pss_cons (ps_while PassesOwn.leaving (pt_cmpR op_lt (pe_callB call_len_seq rfl T.n_len PySem.boot_len (pa_cons (pv 2) pa_nil)) (pv 1) (nomark _)) (pss_cons (ps_set (i := 3) sc_take_differences.nd rfl (Or.inl rfl) (pe_meth (pv 0) T.cl_Cursor T.me_Cursor_take_known_number G_Cursor_take_known_number (hr.mono (by decide)) T.b_Cursor_take_known_number .nil pX (pa_cons (pe_gint rfl T.c_LONGEST_LENGTH) pa_nil)))
      (pss_one (ps_if (pt_truth (pv 2) (fun _ => rfl)) (pss_one (ps_expr (pe_bm PySem.F.plainAttrs_list PySem.F.slot_list_append PySem.F.type_list_append mt_append (pv 2) (pa_cons (pe_op op_sub (pe_op op_add (pe_ix ix_list (pv 2) (pe_un un_neg pe_int) (fun _ _ => rfl)) (pe_fld (pv 3) rfl)) (pe_op op_fdiv (pe_ix ix_tup (pe_glob (v := V.ref t.a_ALL_ONES) rfl T.mg_ALL_ONES rfl) (pe_fld (pv 3) rfl) (fun _ _ => rfl)) pe_int)) pa_nil)))) (pss_one (ps_expr (pe_bm PySem.F.plainAttrs_list PySem.F.slot_list_append PySem.F.type_list_append mt_append (pv 2) (pa_cons (pe_fld (pv 3) rfl) pa_nil))))))))
      (pss_one (ps_ret (pv 2))))), ?_⟩
    refine ⟨by show 0 ≤ sizeLine; decide, fun l nl => ?_⟩
    have s1 := same_upd (o := .lst []) nl
    refine ⟨fun m σ H2 => ∃ (q : Nat) (zs : List Int) (v3 : Option V), m = k - zs.length ∧ zs.length ≤ k ∧ σ = [some (.ref c), some (.int k), some (.ref l), v3] ∧ CurB t K B H2 c f q e ∧ H2 l = some (.lst (zs.map V.int)) ∧ Keep c H H2 ∧
      firstDiffs k (sl B p e) = (moreDiffs (k - zs.length) zs (sl B q e)).map fun x => (zs ++ x.1, x.2), ⟨_, p, [], none, rfl, by simp, rfl, ⟨Ins.same cb.cur s1, cb.pe, cb.eB, s1.seq cb.fl, cb.len⟩, upd_same, Same.keep s1 c, ?_⟩, ?_⟩
    · show firstDiffs k (sl B p e) = (firstDiffs (k - 0) (sl B p e)).map _
      rw [Nat.sub_zero]
      cases firstDiffs k (sl B p e) <;> rfl
    · rintro m σ H2 ⟨q, zs, v3, rfl, hlen, rfl, cb2, hl2, k2, hx⟩
      obtain ⟨d2, hc2⟩ := cb2.cur
      refine ⟨_, rfl, l, _, rfl, .inl (SqL.of hl2), _, rfl, _, _, rfl, rfl, _, rfl, ite2 (fun hd => ?_) fun hd => ?_⟩
      · have hd := of_decide_eq_true hd
        rw [List.length_map] at hd
        obtain ⟨j, hj⟩ : ∃ j, k - zs.length = j + 1 := ⟨k - zs.length - 1, by omega⟩
        rw [hj] at hx
        refine ⟨_, fun σ' H' z => z, ?_⟩
        -- number = cursor.take_known_number(LONGEST_LENGTH)
        refine ⟨_, rfl, c, d2, _, rfl, hc2, (by kernel_rfl), c, f, q, e, 8, rfl, cb2, by decide, fun hn => EE.esc (q1 (by rw [hx, moreDiffs_none hn]; rfl)),
          fun n v r hv hn => EE.esc (q1 ?_), fun n v r hv hn hu H3 a cb3 ln na k3 => ?_⟩
        · rcases hn with z | z
          · exact absurd (vint_facts hv).2.1 (by omega)
          · rw [hx, moreDiffs_unk hv z]
            rfl
        · obtain ⟨dy, ha⟩ := id ln
          obtain ⟨hn1, hn8, hnl, er, _⟩ := vint_facts hv
          rw [sl_drop] at er
          have hl3 := k3 _ _ hl2 (lst_ne_ins hl2 hc2)
          rw [moreDiffs_some hv hu] at hx
          -- the turn's end
          have fin : ∀ z, z = nextD zs n v → ∃ m', m' < k - zs.length ∧ ∃ (q : Nat) (zs' : List Int) (v3 : Option V), m' = k - zs'.length ∧ zs'.length ≤ k ∧ [some (V.ref c), some (V.int k), some (V.ref l), some (V.ref a)] = [some (.ref c), some (.int k), some (.ref l), v3] ∧
              CurB t K B (upd H3 l (.lst (zs.map V.int ++ [V.int z]))) c f q e ∧ (upd H3 l (.lst (zs.map V.int ++ [V.int z]))) l = some (.lst (zs'.map V.int)) ∧ Keep c H (upd H3 l (.lst (zs.map V.int ++ [V.int z]))) ∧
              firstDiffs k (sl B p e) = (moreDiffs (k - zs'.length) zs' (sl B q e)).map fun x => (zs' ++ x.1, x.2) := by
            rintro z rfl
            refine ⟨k - (zs.length + 1), by omega, q + n, zs ++ [nextD zs n v], some (V.ref a), by simp, by simp; omega, rfl, ⟨upd_keepIns hl3 cb3.cur, cb3.pe, cb3.eB, sq_updK cb.fl nl (k2.trans k3) cb.cur, cb3.len⟩, ?_, ?_, ?_⟩
            · rw [List.map_append]
              exact upd_same
            · intro b o eb nb
              rw [upd_ne (ne_of_none eb nl)]
              exact (k2.trans k3) b o eb nb
            · rw [hx]
              have ej : k - (zs ++ [nextD zs n v]).length = j := by simp; omega
              rw [ej, ← er, Option.map_map]
              congr 1
              funext x
              simp [Function.comp]
          have hsz : (zs.map V.int).length < sizeLine := by
            rw [List.length_map]
            show zs.length < 16777216
            omega
          refine ⟨_, rfl, _, .inl ⟨_, SqL.of hl3, rfl⟩, ite2 (fun ht => ?_) fun ht => ?_⟩
          · -- lengths is not empty
            obtain ⟨ys, z, rfl⟩ : ∃ ys z, zs = ys ++ [z] := by
              rcases List.eq_nil_or_concat zs with h | ⟨ys, z, h⟩
              · rw [h] at ht
                exact absurd ht (by decide)
              · exact ⟨ys, z, by rw [h, List.concat_eq_append]⟩
            have el : (ys ++ [z]).map V.int = ys.map V.int ++ [V.int z] := by rw [List.map_append]; rfl
            refine ⟨_, rfl, .inl ⟨rfl, _, SqL.of hl3⟩, _, rfl, _, rfl, l, _, _, _, rfl, rfl, SqL.of hl3, (by rw [el]; exact atI_last _ _), _, rfl, a, _, dy, _, _, rfl, ha, T.cl_LengthNumber, T.na_LengthNumber_value, lk_LN_value _ _, _, _, rfl, rfl,
              _, rfl, a, _, dy, _, _, rfl, ha, T.cl_LengthNumber, T.na_LengthNumber_size, lk_LN_size _ _, t.a_ALL_ONES, _, _, _, rfl, rfl, T.sq_ALL_ONES H3, ones_of hn8, _, _, rfl, rfl, ⟨by decide, by decide⟩, _, _, rfl, rfl, l, _, _, rfl, rfl, hl3, hsz, ?_⟩
            refine fin _ ?_
            unfold nextD
            rw [List.getLast?_append, List.getLast?_singleton]
            have e2 := half_ones ⟨n, by omega⟩ hn1
            simp only at e2
            show z + (v : Int) - (2 ^ (7 * n) - 1) / 2 = z + ((v : Int) - (2 ^ (7 * n - 1) - 1))
            rw [e2]
            omega
          · obtain rfl : zs = [] := by
              cases zs with
              | nil => rfl
              | cons z ys => exact absurd rfl ht
            exact ⟨_, rfl, .inl ⟨rfl, _, SqL.of hl3⟩, _, rfl, a, _, dy, _, _, rfl, ha, T.cl_LengthNumber, T.na_LengthNumber_value, lk_LN_value _ _, l, _, _, rfl, rfl, hl3, hsz, fin _ rfl⟩
      · have hd : ¬ ((((zs.map V.int).length : Nat) : Int) < (k : Int)) := fun z => hd (decide_eq_true z)
        rw [List.length_map] at hd
        have ek : k - zs.length = 0 := by omega
        rw [ek, moreDiffs_zero] at hx
        have hx : firstDiffs k (sl B p e) = some (zs, sl B q e) := by simpa using hx
        exact ⟨_, rfl, q2 zs _ hx q H2 l cb2.pe rfl cb2 hl2 nl (by omega) k2⟩

/-! ### the frames' lengths -/
def spLace (t : Adr) (K : PySem.W.Frag) (B : Bytes) : Sp := fun vs H Q E => ∃ (c f : Addr) (p e : Nat) (fl : UInt8), vs = [.ref c, byV fl] ∧ CurB t K B H c f p e ∧
  (laced fl.toNat (sl B p e) = none → Esc t.c_NotRight E) ∧
  (∀ l, laced fl.toNat (sl B p e) = some l → ∀ q H' a ls, q ≤ e → CurB t K B H' c f q e → H' a = some (.lst (nats ls)) → H a = none → l = parts ls (sl B q e) → ls.sum = e - q → ls.length ≤ 256 → ls ≠ [] → Keep c H H' → Q (.ref a) H')
theorem mask6 (b : UInt8) : Builtin.bitAnd ((b.toNat : Nat) : Int) 6 = ((2 * (b.toNat / 2 % 4) : Nat) : Int) := by
  have h : ∀ c : _root_.Fin 256, Builtin.bitAnd ((c.val : Nat) : Int) 6 = ((2 * (c.val / 2 % 4) : Nat) : Int) := by decide +kernel
  exact h ⟨b.toNat, b.toNat_lt⟩
theorem sum_rep (k n : Nat) : (List.replicate k n).sum = k * n := by
  induction k with
  | zero => simp
  | succ k ih => rw [List.replicate_succ, List.sum_cons, ih, Nat.succ_mul]; omega
theorem cutI_some {zs : List Int} {b : Bytes} (h : (zs ++ [(b.length : Int) - zs.sum]).all (fun z => decide (0 ≤ z)) = true) : cutI (zs, b) = some (parts ((zs ++ [(b.length : Int) - zs.sum]).map Int.toNat) b) := by
  unfold cutI; simp only; rw [if_pos h]
theorem cutI_none {zs : List Int} {b : Bytes} (h : (zs ++ [(b.length : Int) - zs.sum]).all (fun z => decide (0 ≤ z)) = false) : cutI (zs, b) = none := by
  unfold cutI; simp only; rw [if_neg (by rw [h]; decide)]
theorem ints_nats {zs : List Int} (h : zs.all (fun z => decide (0 ≤ z)) = true) : zs.map V.int = nats (zs.map Int.toNat) := by
  unfold nats
  rw [List.map_map]
  apply List.map_congr_left
  intro z hz
  have := of_decide_eq_true (List.all_eq_true.mp h z hz)
  show V.int z = V.int ((z.toNat : Nat) : Int)
  rw [Int.toNat_of_nonneg this]
theorem sc_take_frame_lengths : FnScope ["cursor", "flags", "lacing", "frames", "lengths"] ["cursor", "flags"] (defScope s_take_frame_lengths) := ⟨rfl, rfl, rfl, by decide +kernel, rfl, by decide +kernel, by decide +kernel⟩
theorem ok_take_frame_lengths (B : Bytes) (T : Txt K mg t) : FnOk P w K mg base (CXB P w t.c_NotRight) 7 t.f_take_frame_lengths t.d_take_frame_lengths ["cursor", "flags"] (spLace t K B) := by
  have G_Cursor_bytes_left := ok_Cursor_bytes_left (P := P) (w := w) (base := base) T
  have G_Cursor_take_byte := ok_Cursor_take_byte (P := P) (w := w) (base := base) B T
  have G_equal_lengths := ok_equal_lengths (P := P) (w := w) (base := base) T
  have G_take_sums := ok_take_sums (P := P) (w := w) (base := base) B T
  have G_take_differences := ok_take_differences (P := P) (w := w) (base := base) B T
  have G_with_last_length := ok_with_last_length (P := P) (w := w) (base := base) T
  refine T.F_take_frame_lengths.okX sc_take_frame_lengths (fun vs H Q E h => ?_) (fun cdv A outer s H vs Q E hr h => ?_)
  · obtain ⟨c, f, p, e, fl, rfl, _⟩ := h
    rfl
  · obtain ⟨c, f, p, e, fl, rfl, cb, q1, q2⟩ := h
    obtain ⟨dx, hc⟩ := cb.cur
    have hpe := cb.pe
    have heB := cb.eB
    have hBl := cb.len
    refine ⟨_, (pss_cons (ps_set (i := 2) sc_take_frame_lengths.nd rfl (Or.inl rfl) (pe_op op_and (pv 1) (pe_gint rfl T.c_LACING_BITS)))
      (pss_cons (ps_if (pt_cmpR op_eq (pv 2) (pe_gint rfl T.c_NO_LACING) (nomark _)) (pss_one (ps_ret (pe_lst (pa_cons (pe_meth0 (pv 0) T.cl_Cursor T.me_Cursor_bytes_left G_Cursor_bytes_left (hr.mono (by decide)) T.b_Cursor_bytes_left .nil pX) pa_nil)))) pss_nil)
      (pss_cons (ps_set (i := 3) sc_take_frame_lengths.nd rfl (Or.inl rfl) (pe_op op_add (pe_meth0 (pv 0) T.cl_Cursor T.me_Cursor_take_byte G_Cursor_take_byte (hr.mono (by decide)) T.b_Cursor_take_byte .nil pX) pe_int))
      (pss_cons (ps_if (pt_cmpR op_eq (pv 2) (pe_gint rfl T.c_BY_EQUAL_PARTS) (nomark _)) (pss_one (ps_ret (pe_call G_equal_lengths (hr.mono (by decide)) rfl T.mg_equal_lengths T.F_equal_lengths.kp T.b_equal_lengths .nil pX (pa_cons (pe_meth0 (pv 0) T.cl_Cursor T.me_Cursor_bytes_left G_Cursor_bytes_left (hr.mono (by decide)) T.b_Cursor_bytes_left .nil pX) (pa_cons (pv 3) pa_nil))))) pss_nil)
      (pss_cons (ps_if (pt_cmpR op_eq (pv 2) (pe_gint rfl T.c_BY_SUMS) (nomark _)) (pss_one (ps_set (i := 4) sc_take_frame_lengths.nd rfl (Or.inl rfl) (pe_call G_take_sums (hr.mono (by decide)) rfl T.mg_take_sums T.F_take_sums.kp T.b_take_sums .nil pX (pa_cons (pv 0) (pa_cons (pe_op op_sub (pv 3) pe_int) pa_nil))))) (pss_one (ps_set (i := 4) sc_take_frame_lengths.nd rfl (Or.inl rfl) (pe_call G_take_differences (hr.mono (by decide)) rfl T.mg_take_differences T.F_take_differences.kp T.b_take_differences .nil pX (pa_cons (pv 0) (pa_cons (pe_op op_sub (pv 3) pe_int) pa_nil))))))
      (pss_one (ps_ret (pe_call G_with_last_length (hr.mono (by decide)) rfl T.mg_with_last_length T.F_with_last_length.kp T.b_with_last_length .nil pX (pa_cons (pv 4) (pa_cons (pe_meth0 (pv 0) T.cl_Cursor T.me_Cursor_bytes_left G_Cursor_bytes_left (hr.mono (by decide)) T.b_Cursor_bytes_left .nil pX) pa_nil)))))))))), ?_⟩
    refine ⟨_, rfl, _, _, rfl, rfl, ?_⟩
    dsimp only
    rw [mask6]
    have hh := how_mask ⟨fl.toNat, fl.toNat_lt⟩
    simp only at hh
    generalize hw : fl.toNat / 2 % 4 = how at hh ⊢
    have dec : ∀ a b : Nat, decide (V.int ((a : Nat) : Int) = V.int ((b : Nat) : Int)) = decide (a = b) := fun a b => by
      by_cases h : a = b
      · subst h; simp
      · have : ¬ (V.int ((a : Nat) : Int) = V.int ((b : Nat) : Int)) := fun z => h (by injection z with z; omega)
        rw [decide_eq_false this, decide_eq_false h]
    -- lengths, then the last
    have last : ∀ (q : Nat) (H3 : Hp) (a : Addr) (zs : List Int), CurB t K B H3 c f q e → H3 a = some (.lst (zs.map V.int)) → zs.length ≤ 255 → H a = none → Keep c H H3 → laced fl.toNat (sl B p e) = cutI (zs, sl B q e) →
        spLast t [.ref a, .int ((e : Int) - (q : Int))] H3 Q (EE t.c_NotRight E) := by
      intro q H3 a zs cb3 ha3 hlen na k3 hlc
      have hq := cb3.pe
      have hl : ((sl B q e).length : Int) = (e : Int) - (q : Int) := by rw [sl_length heB]; omega
      rw [← hl]
      refine ⟨a, zs, _, rfl, ha3, hlen, fun h => EE.esc (q1 (by rw [hlc, cutI_none h])), fun h H4 b hb nb s4 => ?_⟩
      rw [ints_nats h] at hb
      refine q2 _ (by rw [hlc, cutI_some h]) q H4 b _ hq (cb3.step (Same.keep s4 c) (Ins.same cb3.cur s4) hq) hb ?_ rfl ?_ ?_ (by simp) (k3.trans (Same.keep s4 c))
      · exact k3.none cb3.cur nb
      · have := sum_toNat _ h
        rw [List.sum_append] at this
        simp only [List.sum_cons, List.sum_nil] at this
        omega
      · rw [List.length_map, List.length_append, List.length_singleton]
        omega
    refine ⟨_, rfl, rfl, _, rfl, ?_⟩
    rw [show decide (V.int ((2 * how : Nat) : Int) = V.int 0) = decide (2 * how = 0) from dec (2 * how) 0]
    refine ite2 (fun h0 => ?_) fun h0 => ?_
    · have h0 : how = 0 := by have := of_decide_eq_true h0; omega
      refine ⟨_, rfl, c, dx, _, rfl, hc, (by kernel_rfl), c, f, p, e, rfl, cb.cur, by show 1 ≤ sizeLine; decide, fun b nb => ?_⟩
      have s1 := same_upd (o := .lst [V.int ((e : Int) - (p : Int))]) nb
      refine q2 [sl B p e] (laced_plain (by omega)) p _ b [e - p] hpe (cb.step (Same.keep s1 c) (Ins.same cb.cur s1) hpe) ?_ nb ?_ (by simp) (by simp) (by simp) (Same.keep s1 c)
      · rw [upd_same]
        show some (HO.lst [V.int ((e : Int) - (p : Int))]) = some (.lst [V.int ((e - p : Nat) : Int)])
        rw [Int.natCast_sub hpe]
      · show [sl B p e] = [(sl B p e).take (e - p)]
        rw [List.take_of_length_le (by rw [sl_length heB]; exact Nat.le_refl _)]
    · have h0 : how ≠ 0 := fun z => h0 (decide_eq_true (by omega))
      -- frames = cursor.take_byte() + 1
      refine ⟨_, rfl, c, dx, _, rfl, hc, (by kernel_rfl), c, f, p, e, rfl, cb, fun b r hb H1 cb1 k1 => ?_, fun hnil => EE.esc (q1 (by rw [hnil]; exact laced_nil (by omega)))⟩
      obtain rfl := sl_tail hb
      obtain ⟨d1, hc1⟩ := cb1.cur
      have hp1 := cb1.pe
      have hb255 := b.toNat_lt
      refine ⟨_, _, rfl, rfl, ?_⟩
      refine ⟨_, rfl, rfl, _, rfl, ?_⟩
      rw [show decide (V.int ((2 * how : Nat) : Int) = V.int 4) = decide (2 * how = 4) from dec (2 * how) 4]
      refine ite2 (fun h2 => ?_) fun h2 => ?_
      · have h2 : how = 2 := by have := of_decide_eq_true h2; omega
        have hlc : laced fl.toNat (sl B p e) = if (e - (p + 1)) % (b.toNat + 1) ≠ 0 then none else some (parts (List.replicate (b.toNat + 1) ((e - (p + 1)) / (b.toNat + 1))) (sl B (p + 1) e)) := by
          rw [hb, laced_even (by omega), sl_length heB]
        refine ⟨_, rfl, c, d1, _, rfl, hc1, (by kernel_rfl), c, f, p + 1, e, rfl, cb1.cur, _, rfl, e - (p + 1), b.toNat + 1, ?_, by omega, by omega, fun hm => EE.esc (q1 (by rw [hlc, if_pos hm])), fun hm H2 a ha na s2 => ?_⟩
        · show [V.int ((e : Int) - ((p + 1 : Nat) : Int)), V.int (((b.toNat : Nat) : Int) + 1)] = [V.int ((e - (p + 1) : Nat) : Int), V.int ((b.toNat + 1 : Nat) : Int)]
          rw [Int.natCast_sub hp1]
          rfl
        · refine q2 _ (by rw [hlc, if_neg (by omega)]) (p + 1) H2 a _ hp1 (cb1.step (Same.keep s2 c) (Ins.same cb1.cur s2) hp1) ha (k1.none cb1.cur na) rfl ?_ (by rw [List.length_replicate]; omega) (by rw [List.replicate_succ]; simp) (k1.trans (Same.keep s2 c))
          rw [sum_rep, Nat.mul_div_cancel' (Nat.dvd_of_mod_eq_zero hm)]
      · have h2 : how ≠ 2 := fun z => h2 (decide_eq_true (by omega))
        refine ⟨_, rfl, rfl, _, rfl, ?_⟩
        rw [show decide (V.int ((2 * how : Nat) : Int) = V.int 2) = decide (2 * how = 2) from dec (2 * how) 2]
        have ea : [V.ref c, V.int (((b.toNat : Nat) : Int) + 1 - 1)] = [V.ref c, V.int ((b.toNat : Nat) : Int)] := by rw [Int.add_sub_cancel]
        refine ite2 (fun h3 => ?_) fun h3 => ?_
        · have h3 : how = 1 := by have := of_decide_eq_true h3; omega
          have hlc : laced fl.toNat (sl B p e) = (xiph b.toNat (sl B (p + 1) e)).bind fun x => cutI (x.1.map (fun n : Nat => (n : Int)), x.2) := by
            rw [hb, laced_sums (by omega)]
          refine ⟨_, rfl, _, rfl, _, _, rfl, rfl, c, f, p + 1, e, b.toNat, ea, cb1, by omega, fun hn => EE.esc (q1 (by rw [hlc, hn]; rfl)), fun ls r hx q H2 a hq er cb2 ha na hll k2 => ?_⟩
          obtain ⟨d2, hc2⟩ := cb2.cur
          rw [nats_int] at ha
          refine ⟨_, rfl, _, rfl, c, d2, _, rfl, hc2, (by kernel_rfl), c, f, q, e, rfl, cb2.cur, ?_⟩
          refine last q H2 a _ cb2 ha (by rw [List.length_map]; omega) (k1.none cb1.cur na) (k1.trans k2) ?_
          rw [hlc, hx, er]
          rfl
        · have h3 : how = 3 := by
            have : ¬ (how = 1) := fun z => h3 (decide_eq_true (by omega))
            omega
          have hlc : laced fl.toNat (sl B p e) = (firstDiffs b.toNat (sl B (p + 1) e)).bind cutI := by
            rw [hb, laced_diffs (by omega)]
          refine ⟨_, rfl, _, rfl, _, _, rfl, rfl, c, f, p + 1, e, b.toNat, ea, cb1, by omega, fun hn => EE.esc (q1 (by rw [hlc, hn]; rfl)), fun zs r hx q H2 a hq er cb2 ha na hll k2 => ?_⟩
          obtain ⟨d2, hc2⟩ := cb2.cur
          refine ⟨_, rfl, _, rfl, c, d2, _, rfl, hc2, (by kernel_rfl), c, f, q, e, rfl, cb2.cur, ?_⟩
          refine last q H2 a zs cb2 ha (by omega) (k1.none cb1.cur na) (k1.trans k2) ?_
          rw [hlc, hx, er]
          rfl
end
end Film

set_option Elab.async false
set_option linter.all false
set_option maxRecDepth 100000
set_option maxHeartbeats 1000000
namespace Film
open PySem PySem.Spec PyProof.Rows L2
open Sg32 (Bytes vint unknown laced block signed number inside once)
section
variable {P : Program} {w : World} {K : PySem.W.Frag} {mg : Str → Option Value} {base : Heap} {t : Adr}
/-! ### blocks -/
structure Blk where
  v : Nat
  tm : Int
  ky : Bool
  st : Nat
  ls : List Nat
abbrev fsBlk (a b c d e : V) : List (Str × V) := [("track_number", a), ("time", b), ("is_key", c), ("start", d), ("lengths", e)]
theorem pf_Blk (a b c d e : V) : putF "lengths" e (putF "start" d (putF "is_key" c (putF "time" b (putF "track_number" a [])))) = fsBlk a b c d e := by kernel_rfl
theorem lk_Blk_track (a b c d e : V) : (fsBlk a b c d e).lookup ("track_number" : Str) = some a := by kernel_rfl
theorem lk_Blk_time (a b c d e : V) : (fsBlk a b c d e).lookup ("time" : Str) = some b := by kernel_rfl
theorem lk_Blk_key (a b c d e : V) : (fsBlk a b c d e).lookup ("is_key" : Str) = some c := by kernel_rfl
theorem lk_Blk_start (a b c d e : V) : (fsBlk a b c d e).lookup ("start" : Str) = some d := by kernel_rfl
theorem lk_Blk_lengths (a b c d e : V) : (fsBlk a b c d e).lookup ("lengths" : Str) = some e := by kernel_rfl
/-- the frames of a block -/
def frm (B : Bytes) (k : Blk) : List Sg32.Frame := (parts k.ls (sl B k.st (k.st + k.ls.sum))).map fun x => ⟨k.v, k.tm, k.ky, x⟩
structure BlkB (t : Adr) (B : Bytes) (H : Hp) (a : Addr) (k : Blk) : Prop where
  at_ : ∃ l, Ins H a t.c_Block (fsBlk (.int k.v) (.int k.tm) (.bl k.ky) (.int k.st) (.ref l)) ∧ H l = some (.lst (nats k.ls))
  eB : k.st + k.ls.sum ≤ B.length
  len : k.ls.length ≤ 256
  ne : k.ls ≠ []
theorem BlkB.same {B : Bytes} {H H' : Hp} {a : Addr} {k : Blk} (h : BlkB t B H a k) (s : Same H H') : BlkB t B H' a k :=
  ⟨let ⟨l, h1, h2⟩ := h.at_; ⟨l, Ins.same h1 s, s _ _ h2⟩, h.eB, h.len, h.ne⟩
def spI_Blk (t : Adr) : Sp := fun vs H Q _ => ∃ (p dx : Addr) (a b c d e : V), vs = [.ref p, a, b, c, d, e] ∧ H p = some (.ins t.c_Block dx []) ∧ Q .non (upd H p (.ins t.c_Block dx (fsBlk a b c d e)))
theorem len_put2 (f g h : Str) (a b c : V) : (putF f a (putF g b (putF h c []))).length < 1000 := by
  have h1 := length_putF f a (putF g b (putF h c []))
  have h2 := length_putF g b (putF h c [])
  have h3 := length_putF h c []
  simp at h3
  omega
theorem sc_Block_init : FnScope ["self", "track_number", "time", "is_key", "start", "lengths"] ["self", "track_number", "time", "is_key", "start", "lengths"] (defScope s_Block_init) := ⟨rfl, rfl, rfl, by decide +kernel, rfl, by decide +kernel, by decide +kernel⟩
theorem ok_Block_init (T : Txt K mg t) : FnOk P w K mg base (CXB P w t.c_NotRight) 1 t.f_Block_init t.d_Block_init ["self", "track_number", "time", "is_key", "start", "lengths"] (spI_Blk t) := by
  refine T.F_Block_init.okX sc_Block_init (fun vs H Q E h => ?_) (fun cdv A outer s H vs Q E hr h => ?_)
  · obtain ⟨p, dx, a, b, c, d, e, rfl, _⟩ := h
    rfl
  · obtain ⟨p, dx, a, b, c, d, e, rfl, hp, k⟩ := h
    refine ⟨_, (pss_cons (ps_fld (pv 0) (pv 1) rfl)
      (pss_cons (ps_fld (pv 0) (pv 2) rfl)
      (pss_cons (ps_fld (pv 0) (pv 3) rfl)
      (pss_cons (ps_fld (pv 0) (pv 4) rfl)
      (pss_one (ps_fld (pv 0) (pv 5) rfl)))))), ?_⟩
    refine ⟨_, rfl, _, rfl, p, _, dx, [], rfl, hp, T.cl_Block, T.na_Block_track_number, (by show 0 < 1000; decide), ?_⟩
    refine ⟨_, rfl, _, rfl, p, _, dx, _, rfl, upd_same, T.cl_Block, T.na_Block_time, (by show 1 < 1000; decide), ?_⟩
    refine ⟨_, rfl, _, rfl, p, _, dx, _, rfl, upd_same, T.cl_Block, T.na_Block_is_key, Nat.lt_of_le_of_lt (length_putF _ _ _) (by show 2 < 1000; decide), ?_⟩
    refine ⟨_, rfl, _, rfl, p, _, dx, _, rfl, upd_same, T.cl_Block, T.na_Block_start, len_put2 _ _ _ _ _ _, ?_⟩
    refine ⟨_, rfl, _, rfl, p, _, dx, _, rfl, upd_same, T.cl_Block, T.na_Block_lengths, ?_, ?_⟩
    · have h1 := length_putF "start" d (putF "is_key" c (putF "time" b (putF "track_number" a [])))
      have h2 := length_putF "is_key" c (putF "time" b (putF "track_number" a []))
      have h3 := len_put2 "is_key" "time" "track_number" c b a
      have h4 := length_putF "time" b (putF "track_number" a [])
      have h5 : (putF "track_number" a []).length = 1 := rfl
      omega
    · rw [upd_upd, upd_upd, upd_upd, upd_upd, pf_Blk]
      exact k
def spOff (t : Adr) (K : PySem.W.Frag) (B : Bytes) : Sp := fun vs H Q E => ∃ (c f : Addr) (p e : Nat), vs = [.ref c] ∧ CurB t K B H c f p e ∧
  (e < p + 2 → Esc t.c_NotRight E) ∧ (p + 2 ≤ e → ∀ H', CurB t K B H' c f (p + 2) e → Keep c H H' → Q (.int (signed (number (sl B p (p + 2))))) H')
theorem signed_eq (a b : UInt8) : signed (number [a, b]) = if (128 : Int) ≤ ((a.toNat : Nat) : Int) then ((a.toNat : Nat) : Int) * 256 + ((b.toNat : Nat) : Int) - 65536 else ((a.toNat : Nat) : Int) * 256 + ((b.toNat : Nat) : Int) := by
  have e : number [a, b] = a.toNat * 256 + b.toNat := by
    show 256 * (256 * 0 + a.toNat) + b.toNat = _
    omega
  rw [e]
  unfold signed
  have hb := b.toNat_lt
  by_cases h : 128 ≤ a.toNat
  · rw [if_neg (by omega), if_pos (by omega)]
    omega
  · rw [if_pos (by omega), if_neg (by omega)]
    omega
theorem sc_take_offset : FnScope ["cursor", "high", "value"] ["cursor"] (defScope s_take_offset) := ⟨rfl, rfl, rfl, by decide +kernel, rfl, by decide +kernel, by decide +kernel⟩
theorem ok_take_offset (B : Bytes) (T : Txt K mg t) : FnOk P w K mg base (CXB P w t.c_NotRight) 4 t.f_take_offset t.d_take_offset ["cursor"] (spOff t K B) := by
  have G_Cursor_take_byte := ok_Cursor_take_byte (P := P) (w := w) (base := base) B T
  refine T.F_take_offset.okX sc_take_offset (fun vs H Q E h => ?_) (fun cdv A outer s H vs Q E hr h => ?_)
  · obtain ⟨c, f, p, e, rfl, _⟩ := h
    rfl
  · obtain ⟨c, f, p, e, rfl, cb, q1, q2⟩ := h
    obtain ⟨dx, hc⟩ := cb.cur
    have hl : (sl B p e).length = e - p := sl_length cb.eB
    refine ⟨_, (pss_cons (ps_set (i := 1) sc_take_offset.nd rfl (Or.inl rfl) (pe_meth0 (pv 0) T.cl_Cursor T.me_Cursor_take_byte G_Cursor_take_byte (hr.mono (by decide)) T.b_Cursor_take_byte .nil pX))
      (pss_cons (ps_set (i := 2) sc_take_offset.nd rfl (Or.inl rfl) (pe_op op_add (pe_op op_mul (pv 1) pe_int) (pe_meth0 (pv 0) T.cl_Cursor T.me_Cursor_take_byte G_Cursor_take_byte (hr.mono (by decide)) T.b_Cursor_take_byte .nil pX)))
      (pss_one (ps_ret (pe_ifExp (pt_cmpR op_ge (pv 1) pe_int (nomark _)) (pe_op op_sub (pv 2) pe_int) (pv 2)))))), ?_⟩
    refine ⟨_, rfl, c, dx, _, rfl, hc, (by kernel_rfl), c, f, p, e, rfl, cb, fun b r hb H1 cb1 k1 => ?_, fun hnil => EE.esc (q1 (by rw [hnil] at hl; simp at hl; omega))⟩
    obtain rfl := sl_tail hb
    obtain ⟨d1, hc1⟩ := cb1.cur
    have hl1 : (sl B (p + 1) e).length = e - (p + 1) := sl_length cb.eB
    refine ⟨_, rfl, _, _, rfl, rfl, .inr ⟨by decide, by decide⟩, _, rfl, c, d1, _, rfl, hc1, (by kernel_rfl), c, f, p + 1, e, rfl, cb1, fun b' r hb' H2 cb2 k2 => ?_, fun hnil => EE.esc (q1 (by rw [hnil] at hl1; simp at hl1; omega))⟩
    obtain rfl := sl_tail hb'
    have hpe := cb2.pe
    have hs : sl B p (p + 2) = [b, b'] := by
      have e1 := sl_take B (p := p) (e := e) (k := 2) (by omega)
      rw [hb, hb'] at e1
      exact e1.symm
    have q := q2 (by omega) H2 cb2 (k1.trans k2)
    rw [hs, signed_eq] at q
    refine ⟨_, _, rfl, rfl, ?_⟩
    refine ⟨_, rfl, _, _, rfl, rfl, _, rfl, ite2 (fun hd => ?_) fun hd => ?_⟩
    · have hd := of_decide_eq_true hd
      rw [if_pos hd] at q
      exact ⟨_, rfl, _, _, rfl, rfl, q⟩
    · have hd : ¬ ((128 : Int) ≤ ((b.toNat : Nat) : Int)) := fun z => hd (decide_eq_true z)
      rw [if_neg hd] at q
      exact ⟨_, rfl, q⟩
/-- the dict of tracks: its keys -/
def TrkD (H : Hp) (d : Addr) (nums : List Nat) : Prop := ∃ kvs : List (Key × V), H d = some (.dK kvs) ∧ kvs.map (·.1) = nums.map fun n : Nat => (Sum.inl ((n : Nat) : Int) : Key)
theorem TrkD.same {H H' : Hp} {d : Addr} {nums : List Nat} (h : TrkD H d nums) (s : Same H H') : TrkD H' d nums := let ⟨k, h1, h2⟩ := h; ⟨k, s _ _ h1, h2⟩
theorem val_keys {kvs : List (Key × V)} {n : Nat} : ∀ {nums : List Nat}, kvs.map (·.1) = nums.map (fun n : Nat => (Sum.inl ((n : Nat) : Int) : Key)) → (valV kvs (Sum.inl ((n : Nat) : Int))).isSome = nums.contains n := by
  intro nums h
  rw [← valV_any]
  have e : (kvs.any fun kv => decide (kv.1 = Sum.inl ((n : Nat) : Int))) = (kvs.map (·.1)).any fun k => decide (k = Sum.inl ((n : Nat) : Int)) := by rw [List.any_map]; rfl
  rw [e, h, List.any_map]
  induction nums with
  | nil => rfl
  | cons m l ih =>
    rw [List.any_cons, List.contains_cons]
    have e2 : ((fun k => decide (k = (Sum.inl ((n : Nat) : Int) : Key))) ∘ fun n : Nat => (Sum.inl ((n : Nat) : Int) : Key)) m = (n == m) := by
      show decide ((Sum.inl ((m : Nat) : Int) : Key) = Sum.inl ((n : Nat) : Int)) = (n == m)
      by_cases hz : n = m
      · subst hz; simp
      · have : ¬ ((Sum.inl ((m : Nat) : Int) : Key) = Sum.inl ((n : Nat) : Int)) := fun z => hz (by injection z with z; omega)
        rw [decide_eq_false this, beq_eq_false_iff_ne.mpr hz]
    rw [e2]
    congr 1
    clear ih h e e2
    induction l with
    | nil => rfl
    | cons m l ih =>
      rw [List.any_cons, List.contains_cons, ih]
      congr 1
      show decide ((Sum.inl ((m : Nat) : Int) : Key) = Sum.inl ((n : Nat) : Int)) = (n == m)
      by_cases hz : n = m
      · subst hz; simp
      · have : ¬ ((Sum.inl ((m : Nat) : Int) : Key) = Sum.inl ((n : Nat) : Int)) := fun z => hz (by injection z with z; omega)
        rw [decide_eq_false this, beq_eq_false_iff_ne.mpr hz]
theorem any_nums (tr : List Sg32.Track) (v : Nat) : (tr.any fun t => t.number == v) = (tr.map fun t => t.number).contains v := by
  induction tr with
  | nil => rfl
  | cons a l ih =>
    rw [List.any_cons, List.map_cons, List.contains_cons, ih]
    congr 1
    by_cases h : a.number = v
    · subst h; simp
    · rw [beq_eq_false_iff_ne.mpr h, beq_eq_false_iff_ne.mpr (Ne.symm h)]
def ikV : Option Bool → V
  | none => .non
  | some b => .bl b
def ikF : Option Bool → Nat → Bool
  | none => fun x => decide (128 ≤ x)
  | some b => fun _ => b
def spBlock (t : Adr) (K : PySem.W.Frag) (B : Bytes) (tr : List Sg32.Track) : Sp := fun vs H Q E => ∃ (f a d : Addr) (x : El) (tm : Nat) (ik : Option Bool), vs = [.ref f, .ref a, .int tm, .ref d, ikV ik] ∧ FileB K B H f ∧ ElB t B H a x ∧ TrkD H d (tr.map fun t => t.number) ∧
  (block tr tm (ikF ik) (sl B x.st x.en) = none → Esc t.c_NotRight E) ∧
  (∀ fr, block tr tm (ikF ik) (sl B x.st x.en) = some fr → ∀ H' b k, BlkB t B H' b k → frm B k = fr → H b = none → Same H H' → Q (.ref b) H')
theorem key_bit (b : UInt8) : (!decide (V.int (Builtin.bitAnd ((b.toNat : Nat) : Int) 128) = V.int 0)) = decide (128 ≤ b.toNat) := by
  have h : ∀ c : _root_.Fin 256, (Builtin.bitAnd ((c.val : Nat) : Int) 128 = 0) ↔ ¬ (128 ≤ c.val) := by decide +kernel
  have h := h ⟨b.toNat, b.toNat_lt⟩
  simp only at h
  by_cases z : 128 ≤ b.toNat
  · have : ¬ (V.int (Builtin.bitAnd ((b.toNat : Nat) : Int) 128) = V.int 0) := fun y => (h.mp (by injection y)) z
    rw [decide_eq_false this, decide_eq_true z]
    rfl
  · have : V.int (Builtin.bitAnd ((b.toNat : Nat) : Int) 128) = V.int 0 := by rw [h.mpr z]
    rw [decide_eq_true this, decide_eq_false z]
    rfl
theorem sc_read_block : FnScope ["file", "element", "cluster_time", "tracks", "is_key", "cursor", "track_number", "time", "flags", "lengths"] ["file", "element", "cluster_time", "tracks", "is_key"] (defScope s_read_block) := ⟨rfl, rfl, rfl, by decide +kernel, rfl, by decide +kernel, by decide +kernel⟩
theorem ok_read_block (B : Bytes) (tr : List Sg32.Track) (T : Txt K mg t) : FnOk P w K mg base (CXB P w t.c_NotRight) 8 t.f_read_block t.d_read_block ["file", "element", "cluster_time", "tracks", "is_key"] (spBlock t K B tr) := by
  have G_Cursor_init := ok_Cursor_init (P := P) (w := w) (base := base) T
  have G_Cursor_take_known_number := ok_Cursor_take_known_number (P := P) (w := w) (base := base) B T
  have G_take_offset := ok_take_offset (P := P) (w := w) (base := base) B T
  have G_Cursor_take_byte := ok_Cursor_take_byte (P := P) (w := w) (base := base) B T
  have G_take_frame_lengths := ok_take_frame_lengths (P := P) (w := w) (base := base) B T
  have G_Block_init := ok_Block_init (P := P) (w := w) (base := base) T
  refine T.F_read_block.okX sc_read_block (fun vs H Q E h => ?_) (fun cdv A outer s H vs Q E hr h => ?_)
  · obtain ⟨f, a, d, x, tm, ik, rfl, _⟩ := h
    rfl
  · obtain ⟨f, a, d, ⟨nm, st, en⟩, tm, ik, rfl, hf, hx, hd, q1, q2⟩ := h
    obtain ⟨da, ha⟩ := hx.at_
    have hle := hx.le
    have heB := hx.eB
    simp only at ha hle heB q1 q2
    refine ⟨_, (pss_cons (ps_set (i := 5) sc_read_block.nd rfl (Or.inl rfl) (pe_make T.mk_Cursor G_Cursor_init (hr.mono (by decide)) rfl T.mg_Cursor T.b_Cursor_init .nil pX (pa_cons (pv 0) (pa_cons (pe_fld (pv 1) rfl) (pa_cons (pe_fld (pv 1) rfl) pa_nil)))))
      (pss_cons (ps_set (i := 6) sc_read_block.nd rfl (Or.inl rfl) (pe_fld (pe_meth (pv 5) T.cl_Cursor T.me_Cursor_take_known_number G_Cursor_take_known_number (hr.mono (by decide)) T.b_Cursor_take_known_number .nil pX (pa_cons (pe_gint rfl T.c_LONGEST_TRACK_NUMBER) pa_nil)) rfl))
      (pss_cons (ps_if (pt_cmp (pc_dnotin (hu_of hr) (pv 6) (pv 3))) (pss_one (ps_raiseB T.exc rfl T.mg_NotRight)) pss_nil)
      (pss_cons (ps_set (i := 7) sc_read_block.nd rfl (Or.inl rfl) (pe_op op_add (pv 2) (pe_call G_take_offset (hr.mono (by decide)) rfl T.mg_take_offset T.F_take_offset.kp T.b_take_offset .nil pX (pa_cons (pv 5) pa_nil))))
      (pss_cons (ps_set (i := 8) sc_read_block.nd rfl (Or.inl rfl) (pe_meth0 (pv 5) T.cl_Cursor T.me_Cursor_take_byte G_Cursor_take_byte (hr.mono (by decide)) T.b_Cursor_take_byte .nil pX))
      (pss_cons (ps_if (pt_cmp (pc_isN (pv 4))) (pss_one (ps_set (i := 4) sc_read_block.nd rfl (Or.inl rfl) (pe_cmpR op_ne (pe_op op_and (pv 8) (pe_gint rfl T.c_KEY_BIT)) pe_int (nomark _)))) pss_nil)
      (pss_cons (ps_set (i := 9) sc_read_block.nd rfl (Or.inl rfl) (pe_call G_take_frame_lengths (hr.mono (by decide)) rfl T.mg_take_frame_lengths T.F_take_frame_lengths.kp T.b_take_frame_lengths .nil pX (pa_cons (pv 5) (pa_cons (pv 8) pa_nil))))
      (pss_one (ps_ret (pe_make T.mk_Block G_Block_init (hr.mono (by decide)) rfl T.mg_Block T.b_Block_init .nil pX (pa_cons (pv 6) (pa_cons (pv 7) (pa_cons (pv 4) (pa_cons (pe_fld (pv 5) rfl) (pa_cons (pv 9) pa_nil))))))))))))))), ?_⟩
    -- cursor = Cursor(file, element.start, element.end)
    refine ⟨_, rfl, _, rfl, a, _, da, _, _, rfl, ha, T.cl_Element, T.na_Element_start, lk_El_start _ _ _, _, rfl, a, _, da, _, _, rfl, ha, T.cl_Element, T.na_Element_end, lk_El_end _ _ _, ?_⟩
    intro c dc nc nd ne
    refine ⟨c, dc, _, _, _, rfl, upd_same, rfl, ?_⟩
    rw [upd_upd]
    generalize hH1 : upd (upd H dc (.own c)) c (.ins t.c_Cursor dc (fsCur (.ref f) (.int st) (.int en))) = H1
    have s1 : Same H H1 := by rw [← hH1]; exact made_same nc nd
    have hc1 : H1 c = some (.ins t.c_Cursor dc (fsCur (.ref f) (.int st) (.int en))) := by rw [← hH1]; exact upd_same
    have cb1 : CurB t K B H1 c f st en := ⟨⟨dc, hc1⟩, hle, heB, s1.seq hf.fl, hf.len⟩
    -- track_number
    refine ⟨_, rfl, c, dc, _, rfl, hc1, (by kernel_rfl), c, f, st, en, 2, rfl, cb1, by decide, fun hn => EE.esc (q1 (block_none hn)), fun k v r hv hk => EE.esc (q1 (block_bad hv (hk.elim .inl fun z => .inr (.inl z)))), fun k v r hv hk hu H2 al cb2 ln na k2 => ?_⟩
    obtain ⟨dy, hal⟩ := id ln
    obtain ⟨hk1, hk8, hkl, er, _⟩ := vint_facts hv
    rw [sl_drop] at er
    refine ⟨al, _, dy, _, _, rfl, hal, T.cl_LengthNumber, T.na_LengthNumber_value, lk_LN_value _ _, ?_⟩
    have s2 : Same H H2 := Same.ofKeep s1 nc k2
    obtain ⟨kvs, hd2, hkv⟩ := hd.same s2
    generalize hq : st + k = q at cb2 er
    have hlen : r.length = en - q := by rw [er, sl_length heB]
    have hqe := cb2.pe
    refine ⟨_, rfl, _, rfl, d, _, rfl, DGet.k (k := Sum.inl ((v : Nat) : Int)) hd2, _, rfl, ?_⟩
    rw [val_keys hkv]
    refine ite2 (fun hm => ?_) fun hm => ?_
    · refine q1 (block_bad hv (.inr (.inr (.inl ?_))))
      rw [any_nums]
      simpa using hm
    · have hm : (tr.any fun t => t.number == v) = true := by
        rw [any_nums]
        simpa using hm
      -- time = cluster_time + take_offset(cursor)
      refine ⟨_, rfl, _, rfl, c, f, q, en, rfl, cb2, fun hs => EE.esc (q1 (block_bad hv (.inr (.inr (.inr (by omega)))))), fun hs H3 cb3 k3 => ?_⟩
      refine ⟨_, _, rfl, rfl, ?_⟩
      obtain ⟨d3, hc3⟩ := cb3.cur
      have hl3 : (sl B (q + 2) en).length = en - (q + 2) := sl_length heB
      -- flags = cursor.take_byte()
      refine ⟨_, rfl, c, d3, _, rfl, hc3, (by kernel_rfl), c, f, q + 2, en, rfl, cb3, fun fl r' hb H4 cb4 k4 => ?_, fun hnil => EE.esc (q1 (block_bad hv (.inr (.inr (.inr (by rw [hnil] at hl3; simp at hl3; omega))))))⟩
      obtain rfl := sl_tail hb
      have hq3 := cb4.pe
      have hbk : block tr tm (ikF ik) (sl B st en) = (laced fl.toNat (sl B (q + 3) en)).map fun l => l.map fun x => ⟨v, (tm : Int) + signed (number (sl B q (q + 2))), ikF ik fl.toNat, x⟩ := by
        rw [block_ok hv hk hu hm (by omega)]
        unfold behind
        have e1 : number ((r.drop 2).take 1) = fl.toNat := by
          rw [er, sl_drop, hb]
          show 256 * 0 + fl.toNat = _
          omega
        have e2 : r.drop 3 = sl B (q + 3) en := by rw [er, sl_drop]
        have e3 : r.take 2 = sl B q (q + 2) := by rw [er, sl_take B (by omega)]
        rw [e1, e2, e3]
      have s4 : Same H H4 := Same.ofKeep s2 nc (k3.trans k4)
      -- the end
      have fin : ∀ (l : List Bytes), laced fl.toNat (sl B (q + 3) en) = some l → ∀ q' H5 al ls, q' ≤ en → CurB t K B H5 c f q' en → H5 al = some (.lst (nats ls)) → l = parts ls (sl B q' en) → ls.sum = en - q' → ls.length ≤ 256 → ls ≠ [] → Keep c H4 H5 →
          ∀ x dx, H5 x = none → H5 dx = none → Q (.ref x) (upd (upd H5 dx (.own x)) x (.ins t.c_Block dx (fsBlk (.int v) (.int ((tm : Int) + signed (number (sl B q (q + 2))))) (.bl (ikF ik fl.toNat)) (.int ((q' : Nat) : Int)) (.ref al)))) := by
        intro l hl q' H5 al ls hq' cb5 hal5 epar hsum hlen5 hne5 k5 x dx nx nd'
        have s6 := made_same (o := .ins t.c_Block dx (fsBlk (.int v) (.int ((tm : Int) + signed (number (sl B q (q + 2))))) (.bl (ikF ik fl.toNat)) (.int ((q' : Nat) : Int)) (.ref al))) nx nd'
        have s5 : Same H H5 := Same.ofKeep s4 nc k5
        refine q2 _ (by rw [hbk, hl]; rfl) _ x ⟨v, (tm : Int) + signed (number (sl B q (q + 2))), ikF ik fl.toNat, q', ls⟩ ⟨⟨al, ⟨dx, upd_same⟩, s6 _ _ hal5⟩, ?_, hlen5, hne5⟩ ?_ (s5.free nx) (s5.trans s6)
        · show q' + ls.sum ≤ B.length
          omega
        · unfold frm
          simp only
          have : q' + ls.sum = en := by omega
          rw [this, epar]
      cases ik with
      | none =>
        refine ⟨_, rfl, _, rfl, iteT ?_⟩
        refine ⟨_, rfl, _, _, rfl, rfl, rfl, ?_⟩
        refine ⟨_, rfl, _, rfl, c, f, q + 2 + 1, en, fl, rfl, cb4, fun hn => EE.esc (q1 (by rw [hbk, hn]; rfl)), fun l hl q' H5 al ls hq' cb5 hal5 nal epar hsum hlen5 hne5 k5 => ?_⟩
        obtain ⟨d5, hc5⟩ := cb5.cur
        refine ⟨_, rfl, _, rfl, _, rfl, _, rfl, c, _, d5, _, _, rfl, hc5, T.cl_Cursor, T.na_Cursor_place, lk_Cur_place _ _ _, _, rfl, ?_⟩
        intro x dx nx nd' ne'
        refine ⟨x, dx, _, _, _, _, _, rfl, upd_same, rfl, ?_⟩
        rw [upd_upd]
        have q := fin l hl q' H5 al ls hq' cb5 hal5 epar hsum hlen5 hne5 k5 x dx nx nd'
        have ek : V.bl (!decide (V.int (Builtin.bitAnd ((fl.toNat : Nat) : Int) 128) = V.int 0)) = V.bl (ikF none fl.toNat) := by rw [key_bit]; rfl
        rw [← ek] at q
        exact q
      | some b =>
        refine ⟨_, rfl, _, rfl, iteF ?_⟩
        refine ⟨_, rfl, _, rfl, c, f, q + 2 + 1, en, fl, rfl, cb4, fun hn => EE.esc (q1 (by rw [hbk, hn]; rfl)), fun l hl q' H5 al ls hq' cb5 hal5 nal epar hsum hlen5 hne5 k5 => ?_⟩
        obtain ⟨d5, hc5⟩ := cb5.cur
        refine ⟨_, rfl, _, rfl, _, rfl, _, rfl, c, _, d5, _, _, rfl, hc5, T.cl_Cursor, T.na_Cursor_place, lk_Cur_place _ _ _, _, rfl, ?_⟩
        intro x dx nx nd' ne'
        refine ⟨x, dx, _, _, _, _, _, rfl, upd_same, rfl, ?_⟩
        rw [upd_upd]
        exact fin l hl q' H5 al ls hq' cb5 hal5 epar hsum hlen5 hne5 k5 x dx nx nd'
/-! ### holders, clusters -/
def spHold (t : Adr) (K : PySem.W.Frag) (B : Bytes) (tr : List Sg32.Track) : Sp := fun vs H Q E => ∃ (f a d : Addr) (x : El) (tm : Nat), vs = [.ref f, .ref a, .int tm, .ref d] ∧ FileB K B H f ∧ ElB t B H a x ∧ TrkD H d (tr.map fun t => t.number) ∧
  (hold tr tm (x.nm, sl B x.st x.en) = none → Esc t.c_NotRight E) ∧
  (∀ fr, hold tr tm (x.nm, sl B x.st x.en) = some fr → ∀ H' b k, BlkB t B H' b k → frm B k = fr → H b = none → Same H H' → Q (.ref b) H')
theorem sc_read_holder : FnScope ["file", "holder", "cluster_time", "tracks", "contents", "is_key"] ["file", "holder", "cluster_time", "tracks"] (defScope s_read_holder) := ⟨rfl, rfl, rfl, by decide +kernel, rfl, by decide +kernel, by decide +kernel⟩
theorem ok_read_holder (B : Bytes) (tr : List Sg32.Track) (T : Txt K mg t) : FnOk P w K mg base (CXB P w t.c_NotRight) 11 t.f_read_holder t.d_read_holder ["file", "holder", "cluster_time", "tracks"] (spHold t K B tr) := by
  have G_read_block := ok_read_block (P := P) (w := w) (base := base) B tr T
  have G_Contents_init := ok_Contents_init (P := P) (w := w) (base := base) B T
  have G_Contents_all_named := ok_Contents_all_named (P := P) (w := w) (base := base) B T
  have G_Contents_once := ok_Contents_once (P := P) (w := w) (base := base) B T
  refine T.F_read_holder.okX sc_read_holder (fun vs H Q E h => ?_) (fun cdv A outer s H vs Q E hr h => ?_)
  · obtain ⟨f, a, d, x, tm, rfl, _⟩ := h
    rfl
  · obtain ⟨f, a, d, x, tm, rfl, hf, hx, hd, q1, q2⟩ := h
    obtain ⟨da, ha⟩ := hx.at_
    refine ⟨_, (pss_cons (ps_if (pt_cmpR op_eq (pe_fld (pv 1) rfl) (pe_gint rfl T.c_SIMPLE_BLOCK) (nomark _)) (pss_one (ps_ret (pe_call G_read_block (hr.mono (by decide)) rfl T.mg_read_block T.F_read_block.kp T.b_read_block .nil pX (pa_cons (pv 0) (pa_cons (pv 1) (pa_cons (pv 2) (pa_cons (pv 3) (pa_cons pe_non pa_nil)))))))) pss_nil)
      (pss_cons (ps_set (i := 4) sc_read_holder.nd rfl (Or.inl rfl) (pe_make T.mk_Contents G_Contents_init (hr.mono (by decide)) rfl T.mg_Contents T.b_Contents_init .nil pX (pa_cons (pv 0) (pa_cons (pv 1) pa_nil))))
      (pss_cons (ps_set (i := 5) sc_read_holder.nd rfl (Or.inl rfl) (pe_notT (pe_meth (pv 4) T.cl_Contents T.me_Contents_all_named G_Contents_all_named (hr.mono (by decide)) T.b_Contents_all_named .nil pX (pa_cons (pe_tup (pa_cons (pe_gint rfl T.c_REFERENCE) pa_nil)) pa_nil))))
      (pss_one (ps_ret (pe_call G_read_block (hr.mono (by decide)) rfl T.mg_read_block T.F_read_block.kp T.b_read_block .nil pX (pa_cons (pv 0) (pa_cons (pe_meth (pv 4) T.cl_Contents T.me_Contents_once G_Contents_once (hr.mono (by decide)) T.b_Contents_once .nil pX (pa_cons (pe_gint rfl T.c_GROUPED_BLOCK) pa_nil)) (pa_cons (pv 2) (pa_cons (pv 3) (pa_cons (pv 5) pa_nil))))))))))), ?_⟩
    refine ⟨_, rfl, a, _, da, _, _, rfl, ha, T.cl_Element, T.na_Element_name, lk_El_name _ _ _, rfl, _, rfl, ite2 (fun hn => ?_) fun hn => ?_⟩
    · have hn : x.nm = 0xA3 := by
        have z : V.int ((x.nm : Nat) : Int) = V.int 163 := of_decide_eq_true hn
        injection z with z
        omega
      have eh : hold tr tm (x.nm, sl B x.st x.en) = block tr tm (ikF none) (sl B x.st x.en) := by unfold hold; rw [if_pos hn]; rfl
      rw [eh] at q1 q2
      exact ⟨_, rfl, _, rfl, _, rfl, _, rfl, f, a, d, x, tm, none, rfl, hf, hx, hd, fun h => EE.esc (q1 h), q2⟩
    · have hn : x.nm ≠ 0xA3 := fun z => hn (decide_eq_true (by show V.int ((x.nm : Nat) : Int) = V.int 163; rw [z]; rfl))
      have eh : hold tr tm (x.nm, sl B x.st x.en) = (inside (sl B x.st x.en)).bind fun m => (once 0xA1 m).bind fun c => block tr tm (fun _ => (Sg32.of 0xFB m).isEmpty) c := by unfold hold; rw [if_neg hn]
      rw [eh] at q1 q2
      -- contents = Contents(file, holder)
      refine ⟨_, rfl, _, rfl, ?_⟩
      intro p dp np nd ne
      have s0 := made_same (o := .ins t.c_Contents dp []) np nd
      refine ⟨p, dp, f, a, x, rfl, upd_same, hf.same s0, hx.same s0, fun hn => EE.esc (q1 (by rw [hn]; rfl)), fun l hl H1 cs hc hcs k1 hcn => ⟨rfl, ?_⟩⟩
      have s1 : Same H H1 := Same.ofKeep s0 np k1
      rw [hl] at q1 q2
      have q1 : (once 0xA1 l).bind (fun c => block tr tm (fun _ => (Sg32.of 0xFB l).isEmpty) c) = none → Esc t.c_NotRight E := q1
      obtain ⟨lc, ⟨d1, hp1⟩, _⟩ := hc.ob
      -- is_key = not contents.all_named((REFERENCE,))
      refine ⟨_, rfl, p, d1, _, rfl, hp1, (by kernel_rfl), by show 1 ≤ sizeLine; decide, fun tn htn => ?_⟩
      have s2 := same_upd (o := .tup [V.int 251]) htn
      refine ⟨p, f, tn, cs, [251], rfl, hc.same s2, SqT.of upd_same, fun H3 b hb nb s3 => ?_⟩
      rw [named1_eq] at hb
      refine ⟨_, .inl ⟨_, SqL.of hb, rfl⟩, ?_⟩
      have s13 : Same H1 H3 := s2.trans s3
      have ek : (!!(refs (named1 251 cs)).isEmpty) = (Sg32.of 0xFB l).isEmpty := by
        rw [Bool.not_not, ← hcs, of_named1]
        unfold refs
        cases named1 251 cs <;> rfl
      rw [ek]
      -- return read_block(file, contents.once(GROUPED_BLOCK), ..)
      refine ⟨_, rfl, _, rfl, p, d1, _, rfl, s13 _ _ hp1, (by kernel_rfl), p, f, cs, 161, rfl, hc.same s13, fun hn => EE.esc (q1 (by rw [← hcs, once_not hn]; rfl)), fun y hy H4 s4 => ?_⟩
      have s14 : Same H1 H4 := s13.trans s4
      have hym : y ∈ cs := (named1_mem (n := 161) (by rw [hy]; exact List.mem_singleton.mpr rfl)).1
      have eo : once 0xA1 l = some (sl B y.2.st y.2.en) := by rw [← hcs]; exact once_of hy
      rw [eo] at q1
      have s04 := s1.trans s14
      refine ⟨_, rfl, _, rfl, _, rfl, f, y.1, d, y.2, tm, some (Sg32.of 0xFB l).isEmpty, rfl, hf.same s04, (hc.el hym).same s14, hd.same s04, fun hn => EE.esc (q1 hn), fun fr hfr H5 b5 k5 hb5 e5 n5 s5 => q2 fr ?_ H5 b5 k5 hb5 e5 (s04.free n5) (s04.trans s5)⟩
      show (once 0xA1 l).bind _ = _
      rw [eo]
      exact hfr
end
end Film

set_option Elab.async false
set_option linter.all false
set_option maxRecDepth 100000
set_option maxHeartbeats 1000000
namespace Film
open PySem PySem.Spec PyProof.Rows L2
open Sg32 (Bytes inside once value onceNumber)
theorem split1 {n : Nat} : ∀ {cs : List (Addr × El)} {x : Addr × El}, named1 n cs = [x] → ∃ pre post, cs = pre ++ x :: post ∧ (∀ y, y ∈ pre → y.2.nm ≠ n) ∧ (∀ y, y ∈ post → y.2.nm ≠ n) ∧ x.2.nm = n
  | [], x, h => by cases h
  | c :: cs, x, h => by
    unfold named1 at h
    rw [List.filter_cons] at h
    by_cases hc : c.2.nm = n
    · rw [if_pos (by simp [hc])] at h
      have h1 := (List.cons.inj h).1
      have h2 := (List.cons.inj h).2
      subst h1
      refine ⟨[], cs, rfl, by simp, fun y hy z => ?_, hc⟩
      have := List.filter_eq_nil_iff.mp h2 y hy
      simp [z] at this
    · rw [if_neg (by simp [hc])] at h
      obtain ⟨pre, post, e, h1, h2, h3⟩ := split1 (n := n) (cs := cs) h
      refine ⟨c :: pre, post, by rw [e]; rfl, fun y hy => ?_, h2, h3⟩
      rcases List.mem_cons.mp hy with z | z
      · rw [z]; exact hc
      · exact h1 y z
def isH (x : Addr × El) : Bool := ([0xA3, 0xA0] : List Nat).contains x.2.nm
theorem cluster_at {tr : List Sg32.Track} {B b : Bytes} {cs pre post : List (Addr × El)} {x : Addr × El} (hi : inside b = some (cs.map (den B))) (hx : named1 0xE7 cs = [x]) (hcs : cs = pre ++ x :: post)
    (h1 : ∀ y, y ∈ pre → y.2.nm ≠ 0xE7) (h2 : ∀ y, y ∈ post → y.2.nm ≠ 0xE7) (h3 : x.2.nm = 0xE7) :
    Sg32.cluster tr b = if (pre.any isH) = true then none else match value (sl B x.2.st x.2.en) with
      | none => none
      | some v => if v ≤ 2 ^ 48 then (((cs.filter isH).map (den B)).mapM (hold tr v)).map List.flatten else none := by
  unfold Sg32.cluster
  rw [hi]
  show ((once 0xE7 (cs.map (den B))).bind fun _ => Sg32.blocks tr none (cs.map (den B))) = _
  rw [once_of hx]
  show Sg32.blocks tr none (cs.map (den B)) = _
  have e1 : cs.map (den B) = pre.map (den B) ++ (0xE7, sl B x.2.st x.2.en) :: post.map (den B) := by
    rw [hcs, List.map_append, List.map_cons]
    congr 2
    show (x.2.nm, sl B x.2.st x.2.en) = _
    rw [h3]
  have nd : ∀ {l : List (Addr × El)}, (∀ y, y ∈ l → y.2.nm ≠ 0xE7) → ∀ z, z ∈ l.map (den B) → z.1 ≠ 0xE7 := fun h z hz => by
    obtain ⟨y, hy, rfl⟩ := List.mem_map.mp hz
    exact h y hy
  rw [e1, blocks_early tr _ _ _ (nd h1), List.any_map]
  have e2 : (isHold ∘ den B) = isH := rfl
  rw [e2]
  by_cases hp : pre.any isH = true
  · rw [if_pos hp, if_pos hp]
  · rw [if_neg hp, if_neg hp]
    cases value (sl B x.2.st x.2.en) with
    | none => rfl
    | some v =>
      simp only
      by_cases hv : v ≤ 2 ^ 48
      · rw [if_pos hv, if_pos hv, blocks_late tr v _ (nd h2), List.filter_map, e2]
        have e3 : cs.filter isH = post.filter isH := by
          have hx0 : isH x = false := by
            unfold isH
            rw [h3]
            decide
          have hpre : pre.filter isH = [] := List.filter_eq_nil_iff.mpr fun y hy z => hp (List.any_eq_true.mpr ⟨y, hy, z⟩)
          rw [hcs, List.filter_append, List.filter_cons, hx0, hpre]
          rfl
        rw [e3]
      · rw [if_neg hv, if_neg hv]
section
variable {P : Program} {w : World} {K : PySem.W.Frag} {mg : Str → Option Value} {base : Heap} {t : Adr}
theorem nats_ne_refs {α : Type} {ls : List Nat} {cs : List (Addr × α)} (h : ls ≠ []) : nats ls ≠ refs cs := fun e => by
  cases ls with
  | nil => exact h rfl
  | cons n l =>
    cases cs with
    | nil => cases e
    | cons c l' =>
      have := (List.cons.inj e).1
      cases this
theorem BlkB.grow {B : Bytes} {H : Hp} {a D : Addr} {k : Blk} {α : Type} {cs : List (Addr × α)} {o : HO} (h : BlkB t B H a k) (hD : H D = some (.lst (refs cs))) : BlkB t B (upd H D o) a k := by
  obtain ⟨l, h1, h2⟩ := h.at_
  refine ⟨⟨l, upd_keepIns hD h1, ?_⟩, h.eB, h.len, h.ne⟩
  rw [upd_ne fun z => ?_]
  · exact h2
  · rw [z, hD] at h2
    injection h2 with h2
    injection h2 with h2
    exact nats_ne_refs h.ne h2.symm
def spCluster (t : Adr) (K : PySem.W.Frag) (B : Bytes) (tr : List Sg32.Track) : Sp := fun vs H Q E => ∃ (f a d : Addr) (x : El), vs = [.ref f, .ref a, .ref d] ∧ FileB K B H f ∧ ElB t B H a x ∧ TrkD H d (tr.map fun t => t.number) ∧
  (Sg32.cluster tr (sl B x.st x.en) = none → Esc t.c_NotRight E) ∧
  (∀ fr, Sg32.cluster tr (sl B x.st x.en) = some fr → ∀ H' b ks, H' b = some (.lst (refs ks)) → (∀ y, y ∈ ks → BlkB t B H' y.1 y.2) → (ks.map fun y => frm B y.2).flatten = fr → ks.length + x.st ≤ x.en → H b = none → Same H H' → Q (.ref b) H')
theorem sc_read_cluster : FnScope ["file", "cluster", "tracks", "contents", "time", "holders", "holder"] ["file", "cluster", "tracks"] (defScope s_read_cluster) := ⟨rfl, rfl, rfl, by decide +kernel, rfl, by decide +kernel, by decide +kernel⟩
theorem ok_read_cluster (B : Bytes) (tr : List Sg32.Track) (T : Txt K mg t) : FnOk P w K mg base (CXB P w t.c_NotRight) 12 t.f_read_cluster t.d_read_cluster ["file", "cluster", "tracks"] (spCluster t K B tr) := by
  have G_Contents_init := ok_Contents_init (P := P) (w := w) (base := base) B T
  have G_Contents_number_once := ok_Contents_number_once (P := P) (w := w) (base := base) B T
  have G_Contents_all_named := ok_Contents_all_named (P := P) (w := w) (base := base) B T
  have G_Contents_once := ok_Contents_once (P := P) (w := w) (base := base) B T
  have G_check_before := ok_check_before (P := P) (w := w) (base := base) T
  have G_read_holder := ok_read_holder (P := P) (w := w) (base := base) B tr T
  refine T.F_read_cluster.okX sc_read_cluster (fun vs H Q E h => ?_) (fun cdv A outer s H vs Q E hr h => ?_)
  · obtain ⟨f, a, d, x, rfl, _⟩ := h
    rfl
  · obtain ⟨f, a, d, x, rfl, hf, hx, hd, q1, q2⟩ := h
    refine' ⟨_, (pss_cons (ps_set (i := 3) sc_read_cluster.nd rfl (Or.inl rfl) (pe_make T.mk_Contents G_Contents_init (hr.mono (by decide)) rfl T.mg_Contents T.b_Contents_init .nil pX (pa_cons (pv 0) (pa_cons (pv 1) pa_nil))))
      (pss_cons (ps_set (i := 4) sc_read_cluster.nd rfl (Or.inr rfl) (pe_meth (pv 3) T.cl_Contents T.me_Contents_number_once G_Contents_number_once (hr.mono (by decide)) T.b_Contents_number_once .nil pX (pa_cons (pe_gint rfl T.c_TIME) (pa_cons pe_int (pa_cons (pe_gint rfl T.c_LATEST_TIME) pa_nil)))))
      (pss_cons (ps_set (i := 5) sc_read_cluster.nd rfl (Or.inl rfl) (pe_meth (pv 3) T.cl_Contents T.me_Contents_all_named G_Contents_all_named (hr.mono (by decide)) T.b_Contents_all_named .nil pX (pa_cons (pe_tup (pa_cons (pe_gint rfl T.c_SIMPLE_BLOCK) (pa_cons (pe_gint rfl T.c_BLOCK_GROUP) pa_nil))) pa_nil)))
      (pss_cons (ps_expr (pe_call G_check_before (hr.mono (by decide)) rfl T.mg_check_before T.F_check_before.kp T.b_check_before .nil pX (pa_cons (pe_meth (pv 3) T.cl_Contents T.me_Contents_once G_Contents_once (hr.mono (by decide)) T.b_Contents_once .nil pX (pa_cons (pe_gint rfl T.c_TIME) pa_nil)) (pa_cons (pv 5) pa_nil))))
      (pss_one (ps_ret (pe_lcX (own := [("holder", 6)]) (Ek := EE t.c_NotRight E) rfl letF rfl sc_read_cluster.nd (pi_list (pv 5)) (blkOk_by (by kernel_rfl)) ?lcg ?lct ?lce))))))), ?main⟩
    case lcg => exact (fun _ _ _ _ _ => pg_name (i := 6) sc_read_cluster.nd rfl (Or.inl rfl))
    case lct => (intro _ _ _ _ _; exact pts_nil)
    case lce => exact fun _ _ _ _ _ _ hx => (pe_call G_read_holder (hr.mono (by decide)) rfl T.mg_read_holder T.F_read_holder.kp T.b_read_holder .nil hx (pa_cons (pv 0) (pa_cons (pv 6) (pa_cons (pv 4) (pa_cons (pv 2) pa_nil)))))
    case main =>
      -- contents = Contents(file, cluster)
      refine ⟨_, rfl, _, rfl, ?_⟩
      intro p dp np nd ne
      have s0 := made_same (o := .ins t.c_Contents dp []) np nd
      refine ⟨p, dp, f, a, x, rfl, upd_same, hf.same s0, hx.same s0, fun hn => EE.esc (q1 (by unfold Sg32.cluster; rw [hn]; rfl)), fun l hl H1 cs hc hcs k1 hcn => ⟨rfl, ?_⟩⟩
      have s1 : Same H H1 := Same.ofKeep s0 np k1
      obtain ⟨lc, ⟨d1, hp1⟩, _⟩ := hc.ob
      subst hcs
      -- time = contents.number_once(TIME, 0, LATEST_TIME)
      have hno : onceNumber 0xE7 0 281474976710656 (cs.map (den B)) = none → Sg32.cluster tr (sl B x.st x.en) = none := fun hn => by
        by_cases h1 : ∃ y, named1 0xE7 cs = [y]
        · obtain ⟨y, hy⟩ := h1
          obtain ⟨pre, post, e, g1, g2, g3⟩ := split1 hy
          rw [cluster_at hl hy e g1 g2 g3]
          rw [onceNumber_of, once_of hy] at hn
          have hn : bnd 0 281474976710656 (sl B y.2.st y.2.en) = none := hn
          by_cases hp : pre.any isH = true
          · rw [if_pos hp]
          · rw [if_neg hp]
            unfold bnd at hn
            cases hv : value (sl B y.2.st y.2.en) with
            | none => rfl
            | some v =>
              rw [hv] at hn
              simp only at hn ⊢
              by_cases hle : v ≤ 2 ^ 48
              · rw [if_pos ⟨Nat.zero_le _, hle⟩] at hn
                cases hn
              · rw [if_neg hle]
        · unfold Sg32.cluster
          rw [hl]
          show ((once 0xE7 (cs.map (den B))).bind fun _ => _) = none
          rw [once_not fun y z => h1 ⟨y, z⟩]
          rfl
      refine ⟨_, rfl, p, d1, _, rfl, hp1, (by kernel_rfl), p, f, cs, 231, 0, 281474976710656, rfl, hc, fun hn => EE.esc (q1 (hno hn)), fun v hv H2 s2 => ?_⟩
      obtain ⟨y, hy⟩ : ∃ y, named1 0xE7 cs = [y] := by
        refine Classical.byContradiction fun z => ?_
        rw [onceNumber_of, once_not fun y e => z ⟨y, e⟩] at hv
        cases hv
      obtain ⟨pre, post, epp, g1, g2, g3⟩ := split1 hy
      have hym : y ∈ cs := (named1_mem (n := 231) (by rw [hy]; exact List.mem_singleton.mpr rfl)).1
      have hval : value (sl B y.2.st y.2.en) = some v ∧ v ≤ 2 ^ 48 := by
        rw [onceNumber_of, once_of hy] at hv
        have hv : bnd 0 281474976710656 (sl B y.2.st y.2.en) = some v := hv
        unfold bnd at hv
        cases hz : value (sl B y.2.st y.2.en) with
        | none =>
          rw [hz] at hv
          cases hv
        | some u =>
          rw [hz] at hv
          simp only at hv
          split at hv
          · rename_i hb
            cases hv
            exact ⟨rfl, hb.2⟩
          · cases hv
      have hcl : Sg32.cluster tr (sl B x.st x.en) = if (pre.any isH) = true then none else (((cs.filter isH).map (den B)).mapM (hold tr v)).map List.flatten := by
        rw [cluster_at hl hy epp g1 g2 g3, hval.1]
        simp only
        rw [if_pos hval.2]
      have s02 := s1.trans s2
      -- holders = contents.all_named((SIMPLE_BLOCK, BLOCK_GROUP))
      refine ⟨_, rfl, p, d1, _, rfl, s2 _ _ hp1, (by kernel_rfl), by show 2 ≤ sizeLine; decide, fun tn htn => ?_⟩
      have s3 := same_upd (o := .tup [V.int 163, V.int 160]) htn
      refine ⟨p, f, tn, cs, [163, 160], rfl, (hc.same s2).same s3, SqT.of upd_same, fun H4 lh hlh nlh s4 => ?_⟩
      have hlh : H4 lh = some (.lst (refs (cs.filter isH))) := hlh
      have s14 : Same H1 H4 := (s2.trans s3).trans s4
      -- check_before(contents.once(TIME), holders)
      refine ⟨_, rfl, p, d1, _, rfl, s14 _ _ hp1, (by kernel_rfl), p, f, cs, 231, rfl, hc.same s14, fun hn => absurd hy (hn y), fun y' hy' H5 s5 => ?_⟩
      obtain rfl : y' = y := by
        rw [hy] at hy'
        exact ((List.cons.inj hy').1).symm
      have s15 := s14.trans s5
      have hmem : ∀ z, z ∈ cs.filter isH → z ∈ cs := fun z hz => (List.mem_filter.mp hz).1
      refine ⟨_, rfl, y'.1, lh, y'.2, cs.filter isH, rfl, Ins.same (hc.kids.at_ y' hym) s15, s5 _ _ hlh, fun z hz => Ins.same (hc.kids.at_ z (hmem z hz)) s15, fun ⟨z, hz, hlt⟩ => EE.esc (q1 ?_), fun hall => ?_⟩
      · rw [hcl, if_pos]
        have hzc := hmem z hz
        have hzh : isH z = true := (List.mem_filter.mp hz).2
        rw [epp] at hzc
        rcases List.mem_append.mp hzc with m | m
        · exact List.any_eq_true.mpr ⟨z, m, hzh⟩
        · exfalso
          have srt := hc.kids.srt
          rw [epp, List.pairwise_append] at srt
          rcases List.mem_cons.mp m with e | e
          · rw [e] at hlt
            exact Nat.lt_irrefl _ hlt
          · have := List.rel_of_pairwise_cons srt.2.1 e
            omega
      · have hpre : ¬ (pre.any isH = true) := fun hp => by
          obtain ⟨z, hz, hzh⟩ := List.any_eq_true.mp hp
          have hzc : z ∈ cs := by rw [epp]; exact List.mem_append_left _ hz
          have h1 := hall z (List.mem_filter.mpr ⟨hzc, hzh⟩)
          have srt := hc.kids.srt
          rw [epp, List.pairwise_append] at srt
          have := srt.2.2 z hz y' (List.mem_cons_self ..)
          omega
        rw [if_neg hpre] at hcl
        have hlh5 := s5 _ _ hlh
        have s05 : Same H H5 := s1.trans s15
        generalize hhs : cs.filter isH = hs at hlh5 hcl hmem hlh hall
        have hhl0 : hs.length ≤ cs.length := by
          rw [← hhs]
          exact List.length_filter_le _ _
        have hhl : hs.length ≤ 100000 := Nat.le_trans hhl0 hc.kids.len
        -- the comprehension
        refine ⟨_, rfl, lh, rfl, ⟨_, SqL.of hlh5⟩, fun D hD => ?_⟩
        refine lc_list (K := K) (a := lh) (xs := refs hs) (fun i H6 => ∃ ks : List (Addr × Blk), H6 D = some (.lst (refs ks)) ∧ Same H5 H6 ∧ (∀ y, y ∈ ks → BlkB t B H6 y.1 y.2) ∧ ((hs.take i).map (den B)).mapM (hold tr v) = some (ks.map fun y => frm B y.2) ∧ ks.length = i)
          ⟨[], upd_same, same_upd hD, by simp, rfl, rfl⟩ (fun i H6 _ ⟨_, _, s6, _⟩ => SqL.of (s6 _ _ hlh5)) ?_ ?_
        · rintro i yv H6 hi ⟨ks, hD6, s6, hks, hmm, hlen⟩
          obtain ⟨z, hz, rfl⟩ := refs_at hi
          have hzm : z ∈ hs := List.mem_of_getElem? hz
          have hzc := hmem z hzm
          have hil : i < hs.length := (List.getElem?_eq_some_iff.mp hz).1
          have s06 := s05.trans s6
          have s16 := s15.trans s6
          refine ⟨rfl, ?_⟩
          unfold tYes
          dsimp only
          rw [if_pos rfl]
          refine ⟨_, rfl, _, rfl, _, rfl, _, rfl, f, z.1, d, z.2, v, rfl, hf.same s06, (hc.el hzc).same s16, hd.same s06, fun hn => EE.esc (q1 ?_), fun fr hfr H7 b7 k7 hb7 e7 n7 s7 => ?_⟩
          · rw [hcl, mapM_none (x := den B z) (List.mem_map.mpr ⟨z, hzm, rfl⟩) hn]
            rfl
          · have hD7 := s7 _ _ hD6
            refine ⟨_, hD7, ?_, ks ++ [(b7, k7)], ?_, fun b' o e => ?_, fun y hy => ?_, ?_, by simp [hlen]⟩
            · rw [refs_len]
              show ks.length < 16777216
              omega
            · rw [refs_snoc]
              exact upd_same
            · rw [upd_ne (ne_of_none e hD)]
              exact s7 _ _ (s6 _ _ e)
            · rcases List.mem_append.mp hy with m | m
              · exact ((hks y m).same s7).grow hD7
              · obtain rfl := List.mem_singleton.mp m
                exact hb7.grow hD7
            · have et : hs.take (i + 1) = hs.take i ++ [z] := by
                obtain ⟨hlt, e⟩ := List.getElem?_eq_some_iff.mp hz
                rw [List.take_succ_eq_append_getElem hlt, e]
              rw [et, List.map_append, List.map_append]
              exact mapM_snoc hmm (by show hold tr v (den B z) = some (frm B k7); rw [e7]; exact hfr)
        · rintro H6 ⟨ks, hD6, s6, hks, hmm, hlen⟩
          rw [refs_len, List.take_length] at hmm
          rw [refs_len] at hlen
          exact q2 _ (by rw [hcl, hmm]; rfl) H6 D ks hD6 hks rfl (by omega) (s05.free hD) (s05.trans s6)
end
end Film

set_option Elab.async false
set_option linter.all false
set_option maxRecDepth 100000
set_option maxHeartbeats 1000000
namespace L2
open PySem PySem.Spec PyProof.Rows
/-! ### not in a tuple of tuples of ints -/
theorem dp_ints {K : PySem.W.Frag} {H : Hp} : ∀ xs : List Int, DpAll K H (xs.map V.int) (xs.map PyData.int)
  | [] => .nil
  | x :: xs => .cons (.int x) (dp_ints xs)
theorem lay_ints : ∀ xs : List Int, PyData.canLayAll0 (xs.map PyData.int) = true
  | [] => by simp [PyData.canLayAll0]
  | x :: xs => by
    rw [List.map_cons, PyData.canLayAll0, lay_ints xs]
    simp [PyData.canLay0]
theorem depth_ints : ∀ xs : List Int, PyData.depthAll (xs.map PyData.int) = 0
  | [] => by simp [PyData.depthAll]
  | x :: xs => by
    rw [List.map_cons, PyData.depthAll, depth_ints xs]
    simp [PyData.depth]
theorem eqv_ints : ∀ xs ys : List Int, PyData.eqvAll (xs.map PyData.int) (ys.map PyData.int) = decide (xs = ys)
  | [], [] => by simp [PyData.eqvAll]
  | [], y :: ys => by simp [PyData.eqvAll]
  | x :: xs, [] => by simp [PyData.eqvAll]
  | x :: xs, y :: ys => by
    rw [List.map_cons, List.map_cons, PyData.eqvAll, eqv_ints xs ys]
    rw [PyData.eqv]
    by_cases h : x = y
    · subst h; simp
    · rw [beq_eq_false_iff_ne.mpr h, Bool.false_and]
      exact (decide_eq_false fun z => h (List.cons.inj z).1).symm
theorem eqAt_tups {X : Cx} {pins : List (Addr × Obj)} {σ : St} {H : Hp} {s : Shared} {A : Around} (I : Inv X pins σ H s) {a b : Addr} {xs ys : List Int} (ha : SqT X.K H a (xs.map V.int)) (hb : SqT X.K H b (ys.map V.int)) (hu : A.units + 64 < cLine) :
    SeqAt.EqAt A s (.ref a) (.ref b) (decide (xs = ys)) := by
  obtain ⟨as, ra⟩ := Dp.reads I (.tuple (xs.map PyData.int)) (.ref a) (.ref a) (.tup ha (dp_ints xs)) rfl
  obtain ⟨bs, rb⟩ := Dp.reads I (.tuple (ys.map PyData.int)) (.ref b) (.ref b) (.tup hb (dp_ints ys)) rfl
  have e : PyData.eqv (.tuple (xs.map PyData.int)) (.tuple (ys.map PyData.int)) = decide (xs = ys) := by rw [PyData.eqv]; exact eqv_ints xs ys
  rw [← e]
  refine SeqAt.eqAt_reads _ _ _ _ _ _ as bs ra rb (by rw [PyData.canLay0]; exact lay_ints xs) (by rw [PyData.canLay0]; exact lay_ints ys) ?_
  have h1 : (PyData.tuple (xs.map PyData.int)).depth = 1 := by rw [PyData.depth, depth_ints]
  omega
theorem hu1 {k : Nat} {A : Around} (hr : Room k A) : A.in1.units + 64 < cLine := by
  have := hr.un
  show A.units + 1 + 64 < cLine
  omega
def rNotTups (K : PySem.W.Frag) : R2 := fun x y H Q => ∃ (a p b1 b2 : Addr) (xs ys zs : List Int), x = .ref a ∧ y = .ref p ∧ SqT K H a (xs.map V.int) ∧ SqT K H p [.ref b1, .ref b2] ∧ SqT K H b1 (ys.map V.int) ∧ SqT K H b2 (zs.map V.int) ∧
  Q (.bl (!(decide (ys = xs) || decide (zs = xs)))) H
theorem op_notIn_tups {X : Cx} (hu : X.A.in1.units + 64 < cLine) : OpR X (compareOp .NotIn) (rNotTups X.K) := by
  intro pins s σ H x y v u Q I rx ry h
  obtain ⟨a, p, b1, b2, xs, ys, zs, rfl, rfl, ha, hp, h1, h2, q⟩ := h
  cases rx
  cases ry
  obtain ⟨its, r, pl, hz⟩ := I.tuple hp
  obtain ⟨u1, u2, rfl, r1, r2⟩ := r.two
  cases r1
  cases r2
  by_cases hb : b1 = b2
  · subst hb
    have e12 : zs = ys := by
      have := I.tuple_inj h2 h1
      exact (List.map_inj_right (fun a b e => by injection e)).mp this
    subst e12
    refine SeqAt.notIn_tupleAt (fun _ => decide (zs = xs)) pl (fun w hw => ?_) ⟨.bl _, H, I, rfl, ?_⟩
    · have hw : w = .ref b1 := by simpa using hw
      subst hw
      exact eqAt_tups I h1 ha hu
    · simpa using q
  · refine SeqAt.notIn_tupleAt (fun w => if w = .ref b1 then decide (ys = xs) else decide (zs = xs)) pl (fun w hw => ?_) ⟨.bl _, H, I, rfl, ?_⟩
    · have hw : w = .ref b1 ∨ w = .ref b2 := by simpa using hw
      rcases hw with rfl | rfl
      · rw [if_pos rfl]
        exact eqAt_tups I h1 ha hu
      · rw [if_neg (fun e => hb (by injection e with e; exact e.symm))]
        exact eqAt_tups I h2 ha hu
    · have e : (#[Value.ref b1, Value.ref b2].any fun w => if w = .ref b1 then decide (ys = xs) else decide (zs = xs)) = (decide (ys = xs) || decide (zs = xs)) := by
        have hne : ¬ (Value.ref b2 = Value.ref b1) := fun e => hb (by injection e with e; exact e.symm)
        show ([Value.ref b1, Value.ref b2].toArray.any _) = _
        rw [List.any_toArray, List.any_cons, List.any_cons, List.any_nil, if_pos rfl, if_neg hne, Bool.or_false]
      rw [show [Value.ref b1, Value.ref b2].toArray = #[Value.ref b1, Value.ref b2] from rfl, e]
      exact q
end L2
namespace Film
open PySem PySem.Spec PyProof.Rows L2
open Sg32 (Bytes inside once numberOr header must)
theorem cut_bys {B : Bytes} {s e : Nat} (h : s ≤ e) (he : e ≤ B.length) : cutV (bys B) (some ((s : Nat) : Int)) (some ((e : Nat) : Int)) = bys (sl B s e) := by
  unfold cutV
  rw [HT.sIx_nat, HT.sIx_nat, bys_len, Nat.min_eq_left he, Nat.min_eq_left (Nat.le_trans h he)]
  unfold bys sl
  rw [← List.map_drop, ← List.map_take, List.drop_take]
def bysI (B : Bytes) : List Int := B.map fun c => ((c.toNat : Nat) : Int)
theorem bys_ints (B : Bytes) : bys B = (bysI B).map V.int := by unfold bys bysI; rw [List.map_map]; rfl
theorem bysI_inj : ∀ {a b : Bytes}, bysI a = bysI b → a = b := fun {a b} h => by
  unfold bysI at h
  exact (List.map_inj_right (fun x y e => UInt8.toNat_inj.mp (by omega))).mp h
theorem names_eq (d : Bytes) : (decide ([109, 97, 116, 114, 111, 115, 107, 97] = bysI d) || decide ([119, 101, 98, 109] = bysI d)) = Sg32.NAMES.contains d := by
  have h1 : ([109, 97, 116, 114, 111, 115, 107, 97] : List Int) = bysI [0x6D, 0x61, 0x74, 0x72, 0x6F, 0x73, 0x6B, 0x61] := by decide
  have h2 : ([119, 101, 98, 109] : List Int) = bysI [0x77, 0x65, 0x62, 0x6D] := by decide
  rw [h1, h2]
  have dc : ∀ m : Bytes, decide (bysI m = bysI d) = (d == m) := fun m => by
    by_cases h : d = m
    · subst h; simp
    · rw [decide_eq_false fun z => h (bysI_inj z).symm, beq_eq_false_iff_ne.mpr h]
  rw [dc, dc]
  unfold Sg32.NAMES
  rw [List.contains_cons, List.contains_cons, List.contains_nil, Bool.or_false]
def headerL (l : List (Nat × Bytes)) : Option Unit := (once 0x4282 l).bind fun d => (must (Sg32.NAMES.contains d)).bind fun _ => (numberOr 0x42F7 1 1 1 l).bind fun _ => (numberOr 0x42F2 4 4 4 l).bind fun _ => (numberOr 0x42F3 8 8 8 l).bind fun _ => (numberOr 0x4285 0 4 1 l).bind fun _ => some ()
theorem header_eq (b : Bytes) : header b = (inside b).bind headerL := rfl
section
variable {P : Program} {w : World} {K : PySem.W.Frag} {mg : Str → Option Value} {base : Heap} {t : Adr}
def spHeader (t : Adr) (K : PySem.W.Frag) (B : Bytes) : Sp := fun vs H Q E => ∃ (f a : Addr) (x : El), vs = [.ref f, .ref a] ∧ FileB K B H f ∧ ElB t B H a x ∧
  (header (sl B x.st x.en) = none → Esc t.c_NotRight E) ∧ (header (sl B x.st x.en) = some () → ∀ H', Same H H' → Q .non H')
theorem sc_check_header : FnScope ["file", "header", "contents", "form"] ["file", "header"] (defScope s_check_header) := ⟨rfl, rfl, rfl, by decide +kernel, rfl, by decide +kernel, by decide +kernel⟩
theorem ok_check_header (B : Bytes) (T : Txt K mg t) : FnOk P w K mg base (CXB P w t.c_NotRight) 11 t.f_check_header t.d_check_header ["file", "header"] (spHeader t K B) := by
  have G_Contents_init := ok_Contents_init (P := P) (w := w) (base := base) B T
  have G_Contents_once := ok_Contents_once (P := P) (w := w) (base := base) B T
  have G_Contents_number_or := ok_Contents_number_or (P := P) (w := w) (base := base) B T
  refine T.F_check_header.okX sc_check_header (fun vs H Q E h => ?_) (fun cdv A outer s H vs Q E hr h => ?_)
  · obtain ⟨f, a, x, rfl, _⟩ := h
    rfl
  · obtain ⟨f, a, x, rfl, hf, hx, q1, q2⟩ := h
    rw [header_eq] at q1 q2
    refine ⟨_, (pss_cons (ps_set (i := 2) sc_check_header.nd rfl (Or.inl rfl) (pe_make T.mk_Contents G_Contents_init (hr.mono (by decide)) rfl T.mg_Contents T.b_Contents_init .nil pX (pa_cons (pv 0) (pa_cons (pv 1) pa_nil))))
      (pss_cons (ps_set (i := 3) sc_check_header.nd rfl (Or.inl rfl) (pe_meth (pv 2) T.cl_Contents T.me_Contents_once G_Contents_once (hr.mono (by decide)) T.b_Contents_once .nil pX (pa_cons (pe_gint rfl T.c_FORM) pa_nil)))
      (pss_cons (ps_if (pt_cmpR (op_notIn_tups (hu1 hr)) (pe_callTy call_tuple_of rfl T.n_tuple boot_tuple (pa_cons (pe_slice sl_list (pv 0) (po_some (pe_fld (pv 3) rfl)) (po_some (pe_fld (pv 3) rfl))) pa_nil)) (pe_tup (pa_cons (pe_glob (v := V.ref t.a_MATROSKA) rfl T.mg_MATROSKA rfl) (pa_cons (pe_glob (v := V.ref t.a_WEBM) rfl T.mg_WEBM rfl) pa_nil))) rfl) (pss_one (ps_raiseB T.exc rfl T.mg_NotRight)) pss_nil)
      (pss_cons (ps_expr (pe_meth (pv 2) T.cl_Contents T.me_Contents_number_or G_Contents_number_or (hr.mono (by decide)) T.b_Contents_number_or .nil pX (pa_cons (pe_gint rfl T.c_READ_VERSION) (pa_cons pe_int (pa_cons pe_int (pa_cons pe_non pa_nil))))))
      (pss_cons (ps_expr (pe_meth (pv 2) T.cl_Contents T.me_Contents_number_or G_Contents_number_or (hr.mono (by decide)) T.b_Contents_number_or .nil pX (pa_cons (pe_gint rfl T.c_NAME_BYTES) (pa_cons pe_int (pa_cons pe_int (pa_cons pe_non pa_nil))))))
      (pss_cons (ps_expr (pe_meth (pv 2) T.cl_Contents T.me_Contents_number_or G_Contents_number_or (hr.mono (by decide)) T.b_Contents_number_or .nil pX (pa_cons (pe_gint rfl T.c_LENGTH_BYTES) (pa_cons pe_int (pa_cons pe_int (pa_cons pe_non pa_nil))))))
      (pss_one (ps_expr (pe_meth (pv 2) T.cl_Contents T.me_Contents_number_or G_Contents_number_or (hr.mono (by decide)) T.b_Contents_number_or .nil pX (pa_cons (pe_gint rfl T.c_FORM_READ_VERSION) (pa_cons pe_int (pa_cons pe_int (pa_cons pe_non pa_nil))))))))))))), ?_⟩
    refine ⟨_, rfl, _, rfl, ?_⟩
    intro p dp np nd ne
    have s0 := made_same (o := .ins t.c_Contents dp []) np nd
    refine ⟨p, dp, f, a, x, rfl, upd_same, hf.same s0, hx.same s0, fun hn => EE.esc (q1 (by rw [hn]; rfl)), fun l hl H1 cs hc hcs k1 hcn => ⟨rfl, ?_⟩⟩
    have s1 : Same H H1 := Same.ofKeep s0 np k1
    obtain ⟨lc, ⟨d1, hp1⟩, _⟩ := hc.ob
    rw [hl] at q1 q2
    have q1 : headerL l = none → Esc t.c_NotRight E := q1
    have q2 : headerL l = some () → ∀ H', Same H H' → Q .non H' := q2
    subst hcs
    -- form = contents.once(FORM)
    refine ⟨_, rfl, p, d1, _, rfl, hp1, (by kernel_rfl), p, f, cs, 17026, rfl, hc, fun hn => EE.esc (q1 (by unfold headerL; rw [once_not hn]; rfl)), fun y hy H2 s2 => ?_⟩
    have hym : y ∈ cs := (named1_mem (n := 17026) (by rw [hy]; exact List.mem_singleton.mpr rfl)).1
    have ye := (hc.el hym).same s2
    obtain ⟨dy, hya⟩ := ye.at_
    unfold headerL at q1 q2
    rw [once_of hy] at q1 q2
    have q1 : ((must (Sg32.NAMES.contains (sl B y.2.st y.2.en))).bind fun _ => (numberOr 0x42F7 1 1 1 (cs.map (den B))).bind fun _ => (numberOr 0x42F2 4 4 4 (cs.map (den B))).bind fun _ => (numberOr 0x42F3 8 8 8 (cs.map (den B))).bind fun _ => (numberOr 0x4285 0 4 1 (cs.map (den B))).bind fun _ => some ()) = none → Esc t.c_NotRight E := q1
    have q2 : ((must (Sg32.NAMES.contains (sl B y.2.st y.2.en))).bind fun _ => (numberOr 0x42F7 1 1 1 (cs.map (den B))).bind fun _ => (numberOr 0x42F2 4 4 4 (cs.map (den B))).bind fun _ => (numberOr 0x42F3 8 8 8 (cs.map (den B))).bind fun _ => (numberOr 0x4285 0 4 1 (cs.map (den B))).bind fun _ => some ()) = some () → ∀ H', Same H H' → Q .non H' := q2
    -- the form
    refine ⟨_, rfl, _, rfl, y.1, _, dy, _, _, rfl, hya, T.cl_Element, T.na_Element_start, lk_El_start _ _ _, _, rfl, _, rfl, y.1, _, dy, _, _, rfl, hya, T.cl_Element, T.na_Element_end, lk_El_end _ _ _, _, rfl, f, _, rfl, (hf.same (s1.trans s2)).fl, fun lp hlp => ?_⟩
    rw [cut_bys ye.le ye.eB]
    have s3 := same_upd (o := .lst (bys (sl B y.2.st y.2.en))) hlp
    refine ⟨lp, _, rfl, .inl ⟨SqL.of upd_same, fun tp htp => ?_⟩⟩
    have s4 := same_upd (o := .tup (bys (sl B y.2.st y.2.en))) htp
    refine ⟨by show 2 ≤ sizeLine; decide, fun pp hpp => ?_⟩
    have s5 := same_upd (o := .tup [V.ref t.a_MATROSKA, V.ref t.a_WEBM]) hpp
    have s25 := (s3.trans s4).trans s5
    refine ⟨tp, pp, t.a_MATROSKA, t.a_WEBM, bysI (sl B y.2.st y.2.en), _, _, rfl, rfl, SqT.of (by rw [← bys_ints]; exact s5 _ _ upd_same), SqT.of upd_same, T.sq_MATROSKA _, T.sq_WEBM _, _, rfl, ?_⟩
    rw [names_eq]
    have s15 := s2.trans s25
    refine ite2 (fun hm => ?_) fun hm => ?_
    · refine q1 ?_
      have : must (Sg32.NAMES.contains (sl B y.2.st y.2.en)) = none := by
        unfold must
        rw [if_neg]
        simpa using hm
      rw [this]
      rfl
    · have : must (Sg32.NAMES.contains (sl B y.2.st y.2.en)) = some () := by
        unfold must
        rw [if_pos]
        simpa using hm
      rw [this] at q1 q2
      have q1 : ((numberOr 0x42F7 1 1 1 (cs.map (den B))).bind fun _ => (numberOr 0x42F2 4 4 4 (cs.map (den B))).bind fun _ => (numberOr 0x42F3 8 8 8 (cs.map (den B))).bind fun _ => (numberOr 0x4285 0 4 1 (cs.map (den B))).bind fun _ => some ()) = none → Esc t.c_NotRight E := q1
      have q2 : ((numberOr 0x42F7 1 1 1 (cs.map (den B))).bind fun _ => (numberOr 0x42F2 4 4 4 (cs.map (den B))).bind fun _ => (numberOr 0x42F3 8 8 8 (cs.map (den B))).bind fun _ => (numberOr 0x4285 0 4 1 (cs.map (den B))).bind fun _ => some ()) = some () → ∀ H', Same H H' → Q .non H' := q2
      refine ⟨_, rfl, p, d1, _, rfl, s15 _ _ hp1, (by kernel_rfl), p, f, cs, 17143, 1, 1, 1, .non, rfl, hc.same s15, fun hn => EE.esc (q1 (by rw [hn]; rfl)), fun v1 y1 hv1 _ H6 s6 => ?_⟩
      have s16 := s15.trans s6
      rw [hv1] at q1 q2
      refine ⟨_, rfl, p, d1, _, rfl, s16 _ _ hp1, (by kernel_rfl), p, f, cs, 17138, 4, 4, 4, .non, rfl, hc.same s16, fun hn => EE.esc (q1 (by show (numberOr 0x42F2 4 4 4 (cs.map (den B))).bind _ = none; rw [hn]; rfl)), fun v2 y2 hv2 _ H7 s7 => ?_⟩
      have s17 := s16.trans s7
      refine ⟨_, rfl, p, d1, _, rfl, s17 _ _ hp1, (by kernel_rfl), p, f, cs, 17139, 8, 8, 8, .non, rfl, hc.same s17, fun hn => EE.esc (q1 (by show (numberOr 0x42F2 4 4 4 (cs.map (den B))).bind _ = none; rw [hv2]; show (numberOr 0x42F3 8 8 8 (cs.map (den B))).bind _ = none; rw [hn]; rfl)), fun v3 y3 hv3 _ H8 s8 => ?_⟩
      have s18 := s17.trans s8
      refine ⟨_, rfl, p, d1, _, rfl, s18 _ _ hp1, (by kernel_rfl), p, f, cs, 17029, 0, 4, 1, .non, rfl, hc.same s18, fun hn => EE.esc (q1 (by show (numberOr 0x42F2 4 4 4 (cs.map (den B))).bind _ = none; rw [hv2]; show (numberOr 0x42F3 8 8 8 (cs.map (den B))).bind _ = none; rw [hv3]; show (numberOr 0x4285 0 4 1 (cs.map (den B))).bind _ = none; rw [hn]; rfl)), fun v4 y4 hv4 _ H9 s9 => ?_⟩
      refine q2 ?_ H9 ((s1.trans s18).trans s9)
      show (numberOr 0x42F2 4 4 4 (cs.map (den B))).bind _ = some ()
      rw [hv2]
      show (numberOr 0x42F3 8 8 8 (cs.map (den B))).bind _ = some ()
      rw [hv3]
      show (numberOr 0x4285 0 4 1 (cs.map (den B))).bind _ = some ()
      rw [hv4]
      rfl
end
end Film

set_option Elab.async false
set_option linter.all false
set_option maxRecDepth 100000
set_option maxHeartbeats 1000000
namespace Film
open PySem PySem.Spec PyProof.Rows L2
open Sg32 (Bytes inside once atMost onceNumber numberOr must ALL)
/-! ### tracks: what is due -/
def goodC (c : Bytes) : Bool := decide (1 ≤ c.length ∧ c.length ≤ 64) && c.all fun x => 0x20 ≤ x && x ≤ 0x7E
def pic : Option Bytes → Option (Nat × Nat)
  | none => some (0, 0)
  | some b => (inside b).bind fun m => (onceNumber 0xB0 1 65535 m).bind fun w => (onceNumber 0xBA 1 65535 m).bind fun h => some (w, h)
def chn : Option Bytes → Option Nat
  | none => some 0
  | some b => (inside b).bind fun m => numberOr 0x9F 1 255 1 m
def trackL (l : List (Nat × Bytes)) : Option Sg32.Track := (onceNumber 0xD7 1 255 l).bind fun n => (onceNumber 0x73C5 1 ALL l).bind fun u => (onceNumber 0x83 1 255 l).bind fun k => (once 0x86 l).bind fun c => (must (goodC c)).bind fun _ =>
  (atMost 0xE0 l).bind fun v => (pic v).bind fun p => (atMost 0xE1 l).bind fun a => (chn a).bind fun ch => some ⟨n, u, k, c, p.1, p.2, ch⟩
theorem track_eq (b : Bytes) : Sg32.track b = (inside b).bind trackL := by
  unfold Sg32.track
  show (inside b).bind _ = _
  congr 1
/-- all of a track's parts -/
structure Parts (l : List (Nat × Bytes)) (T : Sg32.Track) : Prop where
  n : onceNumber 0xD7 1 255 l = some T.number
  u : onceNumber 0x73C5 1 ALL l = some T.uid
  k : onceNumber 0x83 1 255 l = some T.kind
  c : once 0x86 l = some T.codec
  g : goodC T.codec = true
  p : (atMost 0xE0 l).bind pic = some (T.width, T.height)
  ch : (atMost 0xE1 l).bind chn = some T.channels
theorem Parts.eq {l : List (Nat × Bytes)} {T : Sg32.Track} (h : Parts l T) : trackL l = some T := by
  unfold trackL
  rw [h.n, Option.bind_some, h.u, Option.bind_some, h.k, Option.bind_some, h.c, Option.bind_some]
  have : must (goodC T.codec) = some () := by unfold must; rw [if_pos h.g]
  rw [this, Option.bind_some]
  have hp := h.p
  have hc := h.ch
  cases h1 : atMost 0xE0 l with
  | none => rw [h1] at hp; cases hp
  | some v =>
    rw [h1, Option.bind_some] at hp
    rw [Option.bind_some, hp, Option.bind_some]
    cases h2 : atMost 0xE1 l with
    | none => rw [h2] at hc; cases hc
    | some a =>
      rw [h2, Option.bind_some] at hc
      rw [Option.bind_some, hc, Option.bind_some]
theorem bind_none' {α β : Type} (o : Option α) : (o.bind fun _ => (none : Option β)) = none := by cases o <;> rfl
theorem trackL_n {l : List (Nat × Bytes)} (h : onceNumber 0xD7 1 255 l = none) : trackL l = none := by unfold trackL; rw [h]; rfl
theorem trackL_u {l : List (Nat × Bytes)} (h : onceNumber 0x73C5 1 ALL l = none) : trackL l = none := by unfold trackL; rw [h]; exact bind_none' _
theorem trackL_k {l : List (Nat × Bytes)} (h : onceNumber 0x83 1 255 l = none) : trackL l = none := by
  unfold trackL; rw [h]
  cases onceNumber 0xD7 1 255 l <;> cases onceNumber 0x73C5 1 ALL l <;> rfl
theorem trackL_c {l : List (Nat × Bytes)} (h : once 0x86 l = none) : trackL l = none := by
  unfold trackL; rw [h]
  cases onceNumber 0xD7 1 255 l <;> cases onceNumber 0x73C5 1 ALL l <;> cases onceNumber 0x83 1 255 l <;> rfl
theorem trackL_g {l : List (Nat × Bytes)} {c : Bytes} (h : once 0x86 l = some c) (hg : goodC c = false) : trackL l = none := by
  have : must (goodC c) = none := by unfold must; rw [if_neg (by rw [hg]; decide)]
  unfold trackL; rw [h]
  simp only [Option.bind_some, this]
  cases onceNumber 0xD7 1 255 l <;> cases onceNumber 0x73C5 1 ALL l <;> cases onceNumber 0x83 1 255 l <;> rfl
theorem trackL_p {l : List (Nat × Bytes)} (h : (atMost 0xE0 l).bind pic = none) : trackL l = none := by
  unfold trackL
  have e : ∀ f : Nat × Nat → Option Sg32.Track, ((atMost 0xE0 l).bind fun v => (pic v).bind f) = none := fun f => by
    rw [← Option.bind_assoc, h]
    rfl
  simp only [e]
  cases onceNumber 0xD7 1 255 l <;> cases onceNumber 0x73C5 1 ALL l <;> cases onceNumber 0x83 1 255 l <;> cases once 0x86 l with
  | none => rfl
  | some c => first | rfl | exact bind_none' _
theorem trackL_ch {l : List (Nat × Bytes)} (h : (atMost 0xE1 l).bind chn = none) : trackL l = none := by
  unfold trackL
  have e : ∀ f : Nat → Option Sg32.Track, ((atMost 0xE1 l).bind fun a => (chn a).bind f) = none := fun f => by
    rw [← Option.bind_assoc, h]
    rfl
  simp only [e]
  have z : ∀ o : Option (Option Bytes), (o.bind fun v => (pic v).bind fun _ => (none : Option Sg32.Track)) = none := fun o => by
    cases o with
    | none => rfl
    | some v => exact bind_none' _
  simp only [z]
  cases onceNumber 0xD7 1 255 l <;> cases onceNumber 0x73C5 1 ALL l <;> cases onceNumber 0x83 1 255 l <;> cases once 0x86 l with
  | none => rfl
  | some c => first | rfl | exact bind_none' _
section
variable {P : Program} {w : World} {K : PySem.W.Frag} {mg : Str → Option Value} {base : Heap} {t : Adr}
abbrev fsPic (a b : V) : List (Str × V) := [("width", a), ("height", b)]
theorem pf_Pic (a b : V) : putF "height" b (putF "width" a []) = fsPic a b := by kernel_rfl
theorem lk_Pic_width (a b : V) : (fsPic a b).lookup ("width" : Str) = some a := by kernel_rfl
theorem lk_Pic_height (a b : V) : (fsPic a b).lookup ("height" : Str) = some b := by kernel_rfl
abbrev fsTrk (a b c d e f : V) : List (Str × V) := [("number", a), ("lasting_number", b), ("kind", c), ("picture", d), ("channels", e), ("codec", f)]
theorem pf_Trk (a b c d e f : V) : putF "codec" f (putF "channels" e (putF "picture" d (putF "kind" c (putF "lasting_number" b (putF "number" a []))))) = fsTrk a b c d e f := by kernel_rfl
theorem lk_Trk_number (a b c d e f : V) : (fsTrk a b c d e f).lookup ("number" : Str) = some a := by kernel_rfl
theorem lk_Trk_lasting (a b c d e f : V) : (fsTrk a b c d e f).lookup ("lasting_number" : Str) = some b := by kernel_rfl
theorem lk_Trk_kind (a b c d e f : V) : (fsTrk a b c d e f).lookup ("kind" : Str) = some c := by kernel_rfl
theorem lk_Trk_picture (a b c d e f : V) : (fsTrk a b c d e f).lookup ("picture" : Str) = some d := by kernel_rfl
theorem lk_Trk_channels (a b c d e f : V) : (fsTrk a b c d e f).lookup ("channels" : Str) = some e := by kernel_rfl
theorem lk_Trk_codec (a b c d e f : V) : (fsTrk a b c d e f).lookup ("codec" : Str) = some f := by kernel_rfl
def PicAt (t : Adr) (H : Hp) (a : Addr) (w h : Nat) : Prop := Ins H a t.c_Picture (fsPic (.int w) (.int h))
def spI_Pic (t : Adr) : Sp := fun vs H Q _ => ∃ (p dx : Addr) (a b : V), vs = [.ref p, a, b] ∧ H p = some (.ins t.c_Picture dx []) ∧ Q .non (upd H p (.ins t.c_Picture dx (fsPic a b)))
theorem sc_Picture_init : FnScope ["self", "width", "height"] ["self", "width", "height"] (defScope s_Picture_init) := ⟨rfl, rfl, rfl, by decide +kernel, rfl, by decide +kernel, by decide +kernel⟩
theorem ok_Picture_init (T : Txt K mg t) : FnOk P w K mg base (CXB P w t.c_NotRight) 1 t.f_Picture_init t.d_Picture_init ["self", "width", "height"] (spI_Pic t) := by
  refine T.F_Picture_init.okX sc_Picture_init (fun vs H Q E h => ?_) (fun cdv A outer s H vs Q E hr h => ?_)
  · obtain ⟨p, dx, a, b, rfl, _⟩ := h
    rfl
  · obtain ⟨p, dx, a, b, rfl, hp, k⟩ := h
    refine ⟨_, (pss_cons (ps_fld (pv 0) (pv 1) rfl)
      (pss_one (ps_fld (pv 0) (pv 2) rfl))), ?_⟩
    refine ⟨_, rfl, _, rfl, p, _, dx, [], rfl, hp, T.cl_Picture, T.na_Picture_width, (by show 0 < 1000; decide), ?_⟩
    refine ⟨_, rfl, _, rfl, p, _, dx, _, rfl, upd_same, T.cl_Picture, T.na_Picture_height, (by show 1 < 1000; decide), ?_⟩
    rw [upd_upd, pf_Pic]
    exact k
def spI_Trk (t : Adr) : Sp := fun vs H Q _ => ∃ (p dx : Addr) (a b c d e f : V), vs = [.ref p, a, b, c, d, e, f] ∧ H p = some (.ins t.c_Track dx []) ∧ Q .non (upd H p (.ins t.c_Track dx (fsTrk a b c d e f)))
theorem len_more {fs : List (Str × V)} {n : Nat} (f : Str) (a : V) (h : fs.length ≤ n) : (putF f a fs).length ≤ n + 1 := Nat.le_trans (length_putF f a fs) (Nat.succ_le_succ h)
theorem sc_Track_init : FnScope ["self", "number", "lasting_number", "kind", "picture", "channels", "codec"] ["self", "number", "lasting_number", "kind", "picture", "channels", "codec"] (defScope s_Track_init) := ⟨rfl, rfl, rfl, by decide +kernel, rfl, by decide +kernel, by decide +kernel⟩
theorem ok_Track_init (T : Txt K mg t) : FnOk P w K mg base (CXB P w t.c_NotRight) 1 t.f_Track_init t.d_Track_init ["self", "number", "lasting_number", "kind", "picture", "channels", "codec"] (spI_Trk t) := by
  refine T.F_Track_init.okX sc_Track_init (fun vs H Q E h => ?_) (fun cdv A outer s H vs Q E hr h => ?_)
  · obtain ⟨p, dx, a, b, c, d, e, f, rfl, _⟩ := h
    rfl
  · obtain ⟨p, dx, a, b, c, d, e, f, rfl, hp, k⟩ := h
    have l1 : (putF "number" a []).length ≤ 1 := by show 1 ≤ 1; decide
    have l2 := len_more "lasting_number" b l1
    have l3 := len_more "kind" c l2
    have l4 := len_more "picture" d l3
    have l5 := len_more "channels" e l4
    refine ⟨_, (pss_cons (ps_fld (pv 0) (pv 1) rfl)
      (pss_cons (ps_fld (pv 0) (pv 2) rfl)
      (pss_cons (ps_fld (pv 0) (pv 3) rfl)
      (pss_cons (ps_fld (pv 0) (pv 4) rfl)
      (pss_cons (ps_fld (pv 0) (pv 5) rfl)
      (pss_one (ps_fld (pv 0) (pv 6) rfl))))))), ?_⟩
    refine ⟨_, rfl, _, rfl, p, _, dx, [], rfl, hp, T.cl_Track, T.na_Track_number, (by show 0 < 1000; decide), ?_⟩
    refine ⟨_, rfl, _, rfl, p, _, dx, _, rfl, upd_same, T.cl_Track, T.na_Track_lasting_number, (by show 1 < 1000; decide), ?_⟩
    refine ⟨_, rfl, _, rfl, p, _, dx, _, rfl, upd_same, T.cl_Track, T.na_Track_kind, Nat.lt_of_le_of_lt l2 (by decide), ?_⟩
    refine ⟨_, rfl, _, rfl, p, _, dx, _, rfl, upd_same, T.cl_Track, T.na_Track_picture, Nat.lt_of_le_of_lt l3 (by decide), ?_⟩
    refine ⟨_, rfl, _, rfl, p, _, dx, _, rfl, upd_same, T.cl_Track, T.na_Track_channels, Nat.lt_of_le_of_lt l4 (by decide), ?_⟩
    refine ⟨_, rfl, _, rfl, p, _, dx, _, rfl, upd_same, T.cl_Track, T.na_Track_codec, Nat.lt_of_le_of_lt l5 (by decide), ?_⟩
    rw [upd_upd, upd_upd, upd_upd, upd_upd, upd_upd, pf_Trk]
    exact k
/-! ### the codec -/
def spCodec (t : Adr) (K : PySem.W.Frag) (B : Bytes) : Sp := fun vs H Q E => ∃ (f a : Addr) (x : El), vs = [.ref f, .ref a] ∧ FileB K B H f ∧ ElB t B H a x ∧
  (goodC (sl B x.st x.en) = false → Esc t.c_NotRight E) ∧ (goodC (sl B x.st x.en) = true → Q .non H)
theorem u8_le (a : UInt8) : ((0x20 ≤ a && a ≤ 0x7E : Bool) = true) ↔ (32 ≤ a.toNat ∧ a.toNat ≤ 126) := by
  rw [Bool.and_eq_true, decide_eq_true_eq, decide_eq_true_eq, UInt8.le_iff_toNat_le, UInt8.le_iff_toNat_le]
  exact Iff.rfl
theorem sc_check_codec : FnScope ["file", "codec", "size", "place"] ["file", "codec"] (defScope s_check_codec) := ⟨rfl, rfl, rfl, by decide +kernel, rfl, by decide +kernel, by decide +kernel⟩
theorem ok_check_codec (B : Bytes) (T : Txt K mg t) : FnOk P w K mg base (CXB P w t.c_NotRight) 1 t.f_check_codec t.d_check_codec ["file", "codec"] (spCodec t K B) := by
  refine T.F_check_codec.okX sc_check_codec (fun vs H Q E h => ?_) (fun cdv A outer s H vs Q E hr h => ?_)
  · obtain ⟨f, a, x, rfl, _⟩ := h
    rfl
  · obtain ⟨f, a, ⟨nm, st, en⟩, rfl, hf, hx, q1, q2⟩ := h
    obtain ⟨da, ha⟩ := hx.at_
    have hle := hx.le
    have heB := hx.eB
    have hBl := hf.len
    simp only at ha hle heB q1 q2
    have hlen : (sl B st en).length = en - st := sl_length heB
    refine ⟨_, (pss_cons (ps_set (i := 2) sc_check_codec.nd rfl (Or.inl rfl) (pe_op op_sub (pe_fld (pv 1) rfl) (pe_fld (pv 1) rfl)))
      (pss_cons (ps_if (PW.pt (pw_or (pt_cmpR op_lt (pv 2) pe_int (nomark _)) (pw_or1 (pt_cmpR op_gt (pv 2) (pe_gint rfl T.c_LONGEST_CODEC) (nomark _))))) (pss_one (ps_raiseB T.exc rfl T.mg_NotRight)) pss_nil)
      (pss_one (ps_for PassesOwn.leaving rfl (pi_range2 rfl T.n_range (pa_cons (pe_fld (pv 1) rfl) (pa_cons (pe_fld (pv 1) rfl) pa_nil))) (pg_name (i := 3) sc_check_codec.nd rfl (Or.inl rfl)) (pss_one (ps_if (PW.pt (pw_or (pt_cmpR op_lt (pe_ix ix_list (pv 0) (pv 3) (fun _ _ => rfl)) pe_int (nomark _)) (pw_or1 (pt_cmpR op_gt (pe_ix ix_list (pv 0) (pv 3) (fun _ _ => rfl)) pe_int (nomark _))))) (pss_one (ps_raiseB T.exc rfl T.mg_NotRight)) pss_nil)))))), ?_⟩
    refine ⟨_, rfl, a, _, da, _, _, rfl, ha, T.cl_Element, T.na_Element_end, lk_El_end _ _ _, _, rfl, a, _, da, _, _, rfl, ha, T.cl_Element, T.na_Element_start, lk_El_start _ _ _, _, _, rfl, rfl, ?_⟩
    have bad : ¬ (1 ≤ en - st ∧ en - st ≤ 64) → goodC (sl B st en) = false := fun h => by
      unfold goodC
      rw [hlen, decide_eq_false h, Bool.false_and]
    refine ⟨_, rfl, _, _, rfl, rfl, _, rfl, ite2 (fun h1 => ?_) fun h1 => ?_⟩
    · have h1 := of_decide_eq_true h1
      exact iteT (q1 (bad (by omega)))
    · have h1 : ¬ ((en : Int) - (st : Int) < 1) := fun z => h1 (decide_eq_true z)
      refine ⟨_, rfl, _, _, rfl, rfl, _, rfl, ite2 (fun h2 => ?_) fun h2 => ?_⟩
      · have h2 := of_decide_eq_true h2
        exact q1 (bad (by omega))
      · have h2 : ¬ ((64 : Int) < (en : Int) - (st : Int)) := fun z => h2 (decide_eq_true z)
        have sz : 1 ≤ en - st ∧ en - st ≤ 64 := by omega
        have badc : ∀ i, (hi : st + i < B.length) → i < en - st → ¬ (32 ≤ (B[st + i]).toNat ∧ (B[st + i]).toNat ≤ 126) → goodC (sl B st en) = false := fun i hi hlt hb => by
          unfold goodC
          have : (sl B st en).all (fun x => 0x20 ≤ x && x ≤ 0x7E) = false := by
            rw [List.all_eq_false]
            refine ⟨B[st + i], ?_, fun z => hb ((u8_le _).mp z)⟩
            have e : (sl B st en)[i]? = some B[st + i] := by
              unfold sl
              rw [List.getElem?_drop, List.getElem?_take_of_lt (by omega), List.getElem?_eq_getElem hi]
            exact List.mem_of_getElem? e
          rw [this, Bool.and_false]
        refine ⟨_, rfl, a, _, da, _, _, rfl, ha, T.cl_Element, T.na_Element_start, lk_El_start _ _ _, _, rfl, a, _, da, _, _, rfl, ha, T.cl_Element, T.na_Element_end, lk_El_end _ _ _, _, _, rfl, ⟨by omega, by omega, by omega, by omega⟩, ?_⟩
        refine for_range (lo := (st : Int)) (n := ((en : Int) - (st : Int)).toNat) (fun i σ H2 => H2 = H ∧ (∃ v3 : Option V, σ = [some (.ref f), some (.ref a), some (.int ((en : Int) - (st : Int))), v3]) ∧ ∀ j, j < i → ∀ hj : st + j < B.length, 32 ≤ (B[st + j]).toNat ∧ (B[st + j]).toNat ≤ 126) ⟨rfl, ⟨none, rfl⟩, fun j hj => absurd hj (by omega)⟩ ?_ ?_
        · rintro i σ H2 hi ⟨rfl, ⟨v3, rfl⟩, hok⟩
          have hlt : st + i < B.length := by omega
          refine ⟨_, rfl, _, rfl, f, _, _, _, rfl, rfl, hf.fl, at_of (j := st + i) (by omega) (bys_at hlt), _, _, rfl, rfl, _, rfl, ite2 (fun g1 => ?_) fun g1 => ?_⟩
          · have g1 := of_decide_eq_true g1
            exact iteT (q1 (badc i hlt (by omega) (by omega)))
          · have g1 : ¬ ((((B[st + i]).toNat : Nat) : Int) < 32) := fun z => g1 (decide_eq_true z)
            refine ⟨_, rfl, _, rfl, f, _, _, _, rfl, rfl, hf.fl, at_of (j := st + i) (by omega) (bys_at hlt), _, _, rfl, rfl, _, rfl, ite2 (fun g2 => ?_) fun g2 => ?_⟩
            · have g2 := of_decide_eq_true g2
              exact q1 (badc i hlt (by omega) (by omega))
            · have g2 : ¬ ((126 : Int) < (((B[st + i]).toNat : Nat) : Int)) := fun z => g2 (decide_eq_true z)
              refine ⟨rfl, ⟨_, rfl⟩, fun j hj hjl => ?_⟩
              rcases Nat.lt_or_ge j i with z | z
              · exact hok j z hjl
              · obtain rfl : j = i := by omega
                omega
        · rintro σ H2 ⟨rfl, _, hok⟩
          refine q2 ?_
          unfold goodC
          rw [hlen, decide_eq_true sz, Bool.true_and, List.all_eq_true]
          intro x hx'
          obtain ⟨i, hil, rfl⟩ := List.mem_iff_getElem.mp hx'
          rw [hlen] at hil
          have hib : st + i < B.length := by omega
          have e : (sl B st en)[i]'(by rw [hlen]; exact hil) = B[st + i] := by
            unfold sl
            rw [List.getElem_drop, List.getElem_take]
          rw [e]
          exact (u8_le _).mpr (hok i (by omega) hib)
/-! ### pictures, sound -/
/-- an element or None -/
inductive OptE (t : Adr) (B : Bytes) (H : Hp) : V → Option Bytes → Prop
  | non : OptE t B H .non none
  | el {a : Addr} {x : El} : ElB t B H a x → OptE t B H (.ref a) (some (sl B x.st x.en))
def spPic (t : Adr) (K : PySem.W.Frag) (B : Bytes) : Sp := fun vs H Q E => ∃ (f : Addr) (v : V) (o : Option Bytes), vs = [.ref f, v] ∧ FileB K B H f ∧ OptE t B H v o ∧
  (pic o = none → Esc t.c_NotRight E) ∧ (∀ w h, pic o = some (w, h) → ∀ H' a, PicAt t H' a w h → H a = none → Same H H' → Q (.ref a) H')
theorem sc_read_picture : FnScope ["file", "element", "contents"] ["file", "element"] (defScope s_read_picture) := ⟨rfl, rfl, rfl, by decide +kernel, rfl, by decide +kernel, by decide +kernel⟩
theorem ok_read_picture (B : Bytes) (T : Txt K mg t) : FnOk P w K mg base (CXB P w t.c_NotRight) 11 t.f_read_picture t.d_read_picture ["file", "element"] (spPic t K B) := by
  have G_Picture_init := ok_Picture_init (P := P) (w := w) (base := base) T
  have G_Contents_init := ok_Contents_init (P := P) (w := w) (base := base) B T
  have G_Contents_number_once := ok_Contents_number_once (P := P) (w := w) (base := base) B T
  refine T.F_read_picture.okX sc_read_picture (fun vs H Q E h => ?_) (fun cdv A outer s H vs Q E hr h => ?_)
  · obtain ⟨f, v, o, rfl, _⟩ := h
    rfl
  · obtain ⟨f, v, o, rfl, hf, ho, q1, q2⟩ := h
    refine ⟨_, (pss_cons (ps_if (pt_cmp (pc_isN (pv 1))) (pss_one (ps_ret (pe_make T.mk_Picture G_Picture_init (hr.mono (by decide)) rfl T.mg_Picture T.b_Picture_init .nil pX (pa_cons pe_int (pa_cons pe_int pa_nil))))) pss_nil)
      (pss_cons (ps_set (i := 2) sc_read_picture.nd rfl (Or.inl rfl) (pe_make T.mk_Contents G_Contents_init (hr.mono (by decide)) rfl T.mg_Contents T.b_Contents_init .nil pX (pa_cons (pv 0) (pa_cons (pv 1) pa_nil))))
      (pss_one (ps_ret (pe_make T.mk_Picture G_Picture_init (hr.mono (by decide)) rfl T.mg_Picture T.b_Picture_init .nil pX (pa_cons (pe_meth (pv 2) T.cl_Contents T.me_Contents_number_once G_Contents_number_once (hr.mono (by decide)) T.b_Contents_number_once .nil pX (pa_cons (pe_gint rfl T.c_WIDTH) (pa_cons pe_int (pa_cons pe_int pa_nil)))) (pa_cons (pe_meth (pv 2) T.cl_Contents T.me_Contents_number_once G_Contents_number_once (hr.mono (by decide)) T.b_Contents_number_once .nil pX (pa_cons (pe_gint rfl T.c_HEIGHT) (pa_cons pe_int (pa_cons pe_int pa_nil)))) pa_nil))))))), ?_⟩
    cases ho with
    | non =>
      refine ⟨_, rfl, _, rfl, iteT ?_⟩
      intro x dx nx nd ne
      refine ⟨x, dx, _, _, rfl, upd_same, rfl, ?_⟩
      rw [upd_upd]
      exact q2 0 0 rfl _ x ⟨dx, upd_same⟩ nx (made_same nx nd)
    | @el a x hx =>
      refine ⟨_, rfl, _, rfl, iteF ?_⟩
      refine ⟨_, rfl, _, rfl, ?_⟩
      intro p dp np nd ne
      have s0 := made_same (o := .ins t.c_Contents dp []) np nd
      have q1 : ((inside (sl B x.st x.en)).bind fun m => (onceNumber 0xB0 1 65535 m).bind fun w => (onceNumber 0xBA 1 65535 m).bind fun h => some (w, h)) = none → Esc t.c_NotRight E := q1
      have q2 : ∀ w h, ((inside (sl B x.st x.en)).bind fun m => (onceNumber 0xB0 1 65535 m).bind fun w => (onceNumber 0xBA 1 65535 m).bind fun h => some (w, h)) = some (w, h) → ∀ H' a, PicAt t H' a w h → H a = none → Same H H' → Q (.ref a) H' := q2
      refine ⟨p, dp, f, a, x, rfl, upd_same, hf.same s0, hx.same s0, fun hn => EE.esc (q1 (by rw [hn]; rfl)), fun l hl H1 cs hc hcs k1 hcn => ⟨rfl, ?_⟩⟩
      have s1 : Same H H1 := Same.ofKeep s0 np k1
      obtain ⟨lc, ⟨d1, hp1⟩, _⟩ := hc.ob
      rw [hl, Option.bind_some] at q1
      simp only [hl, Option.bind_some] at q2
      subst hcs
      refine ⟨_, rfl, p, d1, _, rfl, hp1, (by kernel_rfl), p, f, cs, 176, 1, 65535, rfl, hc, fun hn => EE.esc (q1 (by rw [hn]; rfl)), fun v1 hv1 H2 s2 => ?_⟩
      rw [hv1, Option.bind_some] at q1
      simp only [hv1, Option.bind_some] at q2
      refine ⟨_, rfl, p, d1, _, rfl, s2 _ _ hp1, (by kernel_rfl), p, f, cs, 186, 1, 65535, rfl, hc.same s2, fun hn => EE.esc (q1 (by rw [hn]; rfl)), fun v2 hv2 H3 s3 => ?_⟩
      intro x' dx nx nd' ne'
      refine ⟨x', dx, _, _, rfl, upd_same, rfl, ?_⟩
      rw [upd_upd]
      have s03 := (s1.trans s2).trans s3
      exact q2 v1 v2 (by rw [hv2]; rfl) _ x' ⟨dx, upd_same⟩ (s03.free nx) (s03.trans (made_same nx nd'))
def spChn (t : Adr) (K : PySem.W.Frag) (B : Bytes) : Sp := fun vs H Q E => ∃ (f : Addr) (v : V) (o : Option Bytes), vs = [.ref f, v] ∧ FileB K B H f ∧ OptE t B H v o ∧
  (chn o = none → Esc t.c_NotRight E) ∧ (∀ n, chn o = some n → ∀ H', Same H H' → Q (.int ((n : Nat) : Int)) H')
theorem sc_read_channels : FnScope ["file", "sound"] ["file", "sound"] (defScope s_read_channels) := ⟨rfl, rfl, rfl, by decide +kernel, rfl, by decide +kernel, by decide +kernel⟩
theorem ok_read_channels (B : Bytes) (T : Txt K mg t) : FnOk P w K mg base (CXB P w t.c_NotRight) 11 t.f_read_channels t.d_read_channels ["file", "sound"] (spChn t K B) := by
  have G_Contents_init := ok_Contents_init (P := P) (w := w) (base := base) B T
  have G_Contents_number_or := ok_Contents_number_or (P := P) (w := w) (base := base) B T
  refine T.F_read_channels.okX sc_read_channels (fun vs H Q E h => ?_) (fun cdv A outer s H vs Q E hr h => ?_)
  · obtain ⟨f, v, o, rfl, _⟩ := h
    rfl
  · obtain ⟨f, v, o, rfl, hf, ho, q1, q2⟩ := h
    refine ⟨_, (pss_cons (ps_if (pt_cmp (pc_isN (pv 1))) (pss_one (ps_ret pe_int)) pss_nil)
      (pss_one (ps_ret (pe_meth (pe_make T.mk_Contents G_Contents_init (hr.mono (by decide)) rfl T.mg_Contents T.b_Contents_init .nil pX (pa_cons (pv 0) (pa_cons (pv 1) pa_nil))) T.cl_Contents T.me_Contents_number_or G_Contents_number_or (hr.mono (by decide)) T.b_Contents_number_or .nil pX (pa_cons (pe_gint rfl T.c_CHANNELS) (pa_cons pe_int (pa_cons pe_int (pa_cons pe_int pa_nil)))))))), ?_⟩
    cases ho with
    | non => exact ⟨_, rfl, _, rfl, iteT (q2 0 rfl H (Same.refl H))⟩
    | @el a x hx =>
      refine ⟨_, rfl, _, rfl, iteF ?_⟩
      refine ⟨_, rfl, _, rfl, ?_⟩
      intro p dp np nd ne
      have s0 := made_same (o := .ins t.c_Contents dp []) np nd
      have q1 : ((inside (sl B x.st x.en)).bind fun m => numberOr 0x9F 1 255 1 m) = none → Esc t.c_NotRight E := q1
      have q2 : ∀ n, ((inside (sl B x.st x.en)).bind fun m => numberOr 0x9F 1 255 1 m) = some n → ∀ H', Same H H' → Q (.int ((n : Nat) : Int)) H' := q2
      refine ⟨p, dp, f, a, x, rfl, upd_same, hf.same s0, hx.same s0, fun hn => EE.esc (q1 (by rw [hn]; rfl)), fun l hl H1 cs hc hcs k1 hcn => ⟨rfl, ?_⟩⟩
      have s1 : Same H H1 := Same.ofKeep s0 np k1
      obtain ⟨lc, ⟨d1, hp1⟩, _⟩ := hc.ob
      rw [hl, Option.bind_some] at q1
      simp only [hl, Option.bind_some] at q2
      subst hcs
      refine ⟨p, d1, _, rfl, hp1, (by kernel_rfl), p, f, cs, 159, 1, 255, 1, .int 1, rfl, hc, fun hn => EE.esc (q1 hn), fun v y hv hy H2 s2 => ?_⟩
      have hy : y = .int ((v : Nat) : Int) := by
        rcases hy with h | ⟨h1, h2⟩
        · exact h
        · rw [h1, h2]
          rfl
      subst hy
      exact q2 v hv H2 (s1.trans s2)
end
end Film

set_option Elab.async false
set_option linter.all false
set_option maxRecDepth 100000
set_option maxHeartbeats 1000000
namespace Film
open PySem PySem.Spec PyProof.Rows L2
open Sg32 (Bytes inside once atMost onceNumber numberOr must ALL)
section
variable {P : Program} {w : World} {K : PySem.W.Frag} {mg : Str → Option Value} {base : Heap} {t : Adr}
def spAtMostO (t : Adr) (K : PySem.W.Frag) (B : Bytes) : Sp := fun vs H Q E => ∃ (a f : Addr) (cs : List (Addr × El)) (n : Nat), vs = [.ref a, .int n] ∧ ConB t K B H a f cs ∧
  (atMost n (cs.map (den B)) = none → Esc t.c_NotRight E) ∧ (∀ o v H', atMost n (cs.map (den B)) = some o → OptE t B H' v o → Same H H' → Q v H')
theorem ok_at_most (B : Bytes) (T : Txt K mg t) : FnOk P w K mg base (CXB P w t.c_NotRight) 2 t.f_Contents_at_most_once t.d_Contents_at_most_once ["self", "name"] (spAtMostO t K B) := by
  refine (ok_Contents_at_most_once B T).imp fun vs H Q E h => ?_
  obtain ⟨a, f, cs, n, e, hc, q1, q2⟩ := h
  refine ⟨a, f, cs, n, e, hc, fun h2 => q1 (atMost_two h2), fun hn H' s => q2 none .non H' (atMost_nil hn) .non s, fun x hx H' s => q2 _ (.ref x.1) H' (atMost_one hx) (.el ?_) s⟩
  exact (hc.el (named1_mem (n := n) (by rw [hx]; exact List.mem_singleton.mpr rfl)).1).same s
structure TrkB (t : Adr) (B : Bytes) (H : Hp) (a : Addr) (T : Sg32.Track) : Prop where
  at_ : ∃ (pa ca : Addr) (x : El), Ins H a t.c_Track (fsTrk (.int T.number) (.int T.uid) (.int T.kind) (.ref pa) (.int T.channels) (.ref ca)) ∧ PicAt t H pa T.width T.height ∧ ElB t B H ca x ∧ T.codec = sl B x.st x.en
theorem TrkB.same {B : Bytes} {H H' : Hp} {a : Addr} {T : Sg32.Track} (h : TrkB t B H a T) (s : Same H H') : TrkB t B H' a T :=
  let ⟨pa, ca, x, h1, h2, h3, h4⟩ := h.at_; ⟨⟨pa, ca, x, Ins.same h1 s, Ins.same h2 s, h3.same s, h4⟩⟩
def spTrack (t : Adr) (K : PySem.W.Frag) (B : Bytes) : Sp := fun vs H Q E => ∃ (f a : Addr) (x : El), vs = [.ref f, .ref a] ∧ FileB K B H f ∧ ElB t B H a x ∧
  (Sg32.track (sl B x.st x.en) = none → Esc t.c_NotRight E) ∧ (∀ T, Sg32.track (sl B x.st x.en) = some T → ∀ H' b, TrkB t B H' b T → H b = none → Same H H' → Q (.ref b) H')
theorem sc_read_track : FnScope ["file", "element", "contents", "codec"] ["file", "element"] (defScope s_read_track) := ⟨rfl, rfl, rfl, by decide +kernel, rfl, by decide +kernel, by decide +kernel⟩
theorem ok_read_track (B : Bytes) (T : Txt K mg t) : FnOk P w K mg base (CXB P w t.c_NotRight) 12 t.f_read_track t.d_read_track ["file", "element"] (spTrack t K B) := by
  have G_Contents_init := ok_Contents_init (P := P) (w := w) (base := base) B T
  have G_Contents_once := ok_Contents_once (P := P) (w := w) (base := base) B T
  have G_check_codec := ok_check_codec (P := P) (w := w) (base := base) B T
  have G_Contents_number_once := ok_Contents_number_once (P := P) (w := w) (base := base) B T
  have G_Contents_at_most_once := ok_at_most (P := P) (w := w) (base := base) B T
  have G_read_picture := ok_read_picture (P := P) (w := w) (base := base) B T
  have G_read_channels := ok_read_channels (P := P) (w := w) (base := base) B T
  have G_Track_init := ok_Track_init (P := P) (w := w) (base := base) T
  refine T.F_read_track.okX sc_read_track (fun vs H Q E h => ?_) (fun cdv A outer s H vs Q E hr h => ?_)
  · obtain ⟨f, a, x, rfl, _⟩ := h
    rfl
  · obtain ⟨f, a, x, rfl, hf, hx, q1, q2⟩ := h
    rw [track_eq] at q1
    simp only [track_eq] at q2
    refine ⟨_, (pss_cons (ps_set (i := 2) sc_read_track.nd rfl (Or.inl rfl) (pe_make T.mk_Contents G_Contents_init (hr.mono (by decide)) rfl T.mg_Contents T.b_Contents_init .nil pX (pa_cons (pv 0) (pa_cons (pv 1) pa_nil))))
      (pss_cons (ps_set (i := 3) sc_read_track.nd rfl (Or.inl rfl) (pe_meth (pv 2) T.cl_Contents T.me_Contents_once G_Contents_once (hr.mono (by decide)) T.b_Contents_once .nil pX (pa_cons (pe_gint rfl T.c_CODEC) pa_nil)))
      (pss_cons (ps_expr (pe_call G_check_codec (hr.mono (by decide)) rfl T.mg_check_codec T.F_check_codec.kp T.b_check_codec .nil pX (pa_cons (pv 0) (pa_cons (pv 3) pa_nil))))
      (pss_one (ps_ret (pe_make T.mk_Track G_Track_init (hr.mono (by decide)) rfl T.mg_Track T.b_Track_init .nil pX (pa_cons (pe_meth (pv 2) T.cl_Contents T.me_Contents_number_once G_Contents_number_once (hr.mono (by decide)) T.b_Contents_number_once .nil pX (pa_cons (pe_gint rfl T.c_NUMBER) (pa_cons pe_int (pa_cons pe_int pa_nil)))) (pa_cons (pe_meth (pv 2) T.cl_Contents T.me_Contents_number_once G_Contents_number_once (hr.mono (by decide)) T.b_Contents_number_once .nil pX (pa_cons (pe_gint rfl T.c_LASTING_NUMBER) (pa_cons pe_int (pa_cons (pe_gint rfl T.c_GREATEST_NUMBER) pa_nil)))) (pa_cons (pe_meth (pv 2) T.cl_Contents T.me_Contents_number_once G_Contents_number_once (hr.mono (by decide)) T.b_Contents_number_once .nil pX (pa_cons (pe_gint rfl T.c_KIND) (pa_cons pe_int (pa_cons pe_int pa_nil)))) (pa_cons (pe_call G_read_picture (hr.mono (by decide)) rfl T.mg_read_picture T.F_read_picture.kp T.b_read_picture .nil pX (pa_cons (pv 0) (pa_cons (pe_meth (pv 2) T.cl_Contents T.me_Contents_at_most_once G_Contents_at_most_once (hr.mono (by decide)) T.b_Contents_at_most_once .nil pX (pa_cons (pe_gint rfl T.c_PICTURE) pa_nil)) pa_nil))) (pa_cons (pe_call G_read_channels (hr.mono (by decide)) rfl T.mg_read_channels T.F_read_channels.kp T.b_read_channels .nil pX (pa_cons (pv 0) (pa_cons (pe_meth (pv 2) T.cl_Contents T.me_Contents_at_most_once G_Contents_at_most_once (hr.mono (by decide)) T.b_Contents_at_most_once .nil pX (pa_cons (pe_gint rfl T.c_SOUND) pa_nil)) pa_nil))) (pa_cons (pv 3) pa_nil)))))))))))), ?_⟩
    refine ⟨_, rfl, _, rfl, ?_⟩
    intro p dp np nd ne
    have s0 := made_same (o := .ins t.c_Contents dp []) np nd
    refine ⟨p, dp, f, a, x, rfl, upd_same, hf.same s0, hx.same s0, fun hn => EE.esc (q1 (by rw [hn]; rfl)), fun l hl H1 cs hc hcs k1 hcn => ⟨rfl, ?_⟩⟩
    have s1 : Same H H1 := Same.ofKeep s0 np k1
    obtain ⟨lc, ⟨d1, hp1⟩, _⟩ := hc.ob
    rw [hl, Option.bind_some] at q1
    simp only [hl, Option.bind_some] at q2
    subst hcs
    -- codec = contents.once(CODEC); check_codec(file, codec)
    refine ⟨_, rfl, p, d1, _, rfl, hp1, (by kernel_rfl), p, f, cs, 134, rfl, hc, fun hn => EE.esc (q1 (trackL_c (once_not hn))), fun y hy H2 s2 => ?_⟩
    have hym : y ∈ cs := (named1_mem (n := 134) (by rw [hy]; exact List.mem_singleton.mpr rfl)).1
    have hyo := once_of (B := B) hy
    refine ⟨_, rfl, _, rfl, f, y.1, y.2, rfl, hf.same (s1.trans s2), (hc.el hym).same s2, fun hg => EE.esc (q1 (trackL_g hyo hg)), fun hg => ?_⟩
    -- Track(..)
    refine ⟨_, rfl, p, d1, _, rfl, s2 _ _ hp1, (by kernel_rfl), p, f, cs, 215, 1, 255, rfl, hc.same s2, fun hn => EE.esc (q1 (trackL_n hn)), fun v1 hv1 H3 s3 => ?_⟩
    have s13 := s2.trans s3
    refine ⟨_, rfl, p, d1, _, rfl, s13 _ _ hp1, (by kernel_rfl), p, f, cs, 29637, 1, 18446744073709551615, rfl, hc.same s13, fun hn => EE.esc (q1 (trackL_u hn)), fun v2 hv2 H4 s4 => ?_⟩
    have s14 := s13.trans s4
    refine ⟨_, rfl, p, d1, _, rfl, s14 _ _ hp1, (by kernel_rfl), p, f, cs, 131, 1, 255, rfl, hc.same s14, fun hn => EE.esc (q1 (trackL_k hn)), fun v3 hv3 H5 s5 => ?_⟩
    have s15 := s14.trans s5
    refine ⟨_, rfl, _, rfl, p, d1, _, rfl, s15 _ _ hp1, (by kernel_rfl), p, f, cs, 224, rfl, hc.same s15, fun hn => EE.esc (q1 (trackL_p (by rw [hn]; rfl))), fun o6 v6 H6 ho6 hoe6 s6 => ?_⟩
    have s16 := s15.trans s6
    refine ⟨f, v6, o6, rfl, hf.same (s1.trans s16), hoe6, fun hn => EE.esc (q1 (trackL_p (by rw [ho6]; exact hn))), fun wd ht hwh H7 pa hpa npa s7 => ?_⟩
    have s17 := s16.trans s7
    refine ⟨_, rfl, _, rfl, p, d1, _, rfl, s17 _ _ hp1, (by kernel_rfl), p, f, cs, 225, rfl, hc.same s17, fun hn => EE.esc (q1 (trackL_ch (by rw [hn]; rfl))), fun o8 v8 H8 ho8 hoe8 s8 => ?_⟩
    have s18 := s17.trans s8
    refine ⟨f, v8, o8, rfl, hf.same (s1.trans s18), hoe8, fun hn => EE.esc (q1 (trackL_ch (by rw [ho8]; exact hn))), fun ch hch H9 s9 => ?_⟩
    have s19 := s18.trans s9
    refine ⟨_, rfl, ?_⟩
    intro x' dx nx nd' ne'
    refine ⟨x', dx, _, _, _, _, _, _, rfl, upd_same, rfl, ?_⟩
    rw [upd_upd]
    have sm := made_same (o := .ins t.c_Track dx (fsTrk (.int v1) (.int v2) (.int v3) (.ref pa) (.int ch) (.ref y.1))) nx nd'
    have s09 := s1.trans s19
    have hP : Parts (cs.map (den B)) ⟨v1, v2, v3, sl B y.2.st y.2.en, wd, ht, ch⟩ := ⟨hv1, hv2, hv3, hyo, hg, by rw [ho6]; exact hwh, by rw [ho8]; exact hch⟩
    refine q2 _ hP.eq _ x' ⟨⟨pa, y.1, y.2, ⟨dx, upd_same⟩, Ins.same (Ins.same (Ins.same hpa s8) s9) sm, ((hc.el hym).same s19).same sm, rfl⟩⟩ (s09.free nx) (s09.trans sm)
/-! ### the dict -/
def kvsOf (xs : List (Addr × Sg32.Track)) : List (Key × V) := xs.map fun x => ((Sum.inl ((x.2.number : Nat) : Int) : Key), V.ref x.1)
structure TrksB (t : Adr) (B : Bytes) (H : Hp) (d : Addr) (xs : List (Addr × Sg32.Track)) : Prop where
  at_ : H d = some (.dK (kvsOf xs))
  each : ∀ x, x ∈ xs → TrkB t B H x.1 x.2
  len : xs.length ≤ 100000
theorem TrksB.same {B : Bytes} {H H' : Hp} {d : Addr} {xs : List (Addr × Sg32.Track)} (h : TrksB t B H d xs) (s : Same H H') : TrksB t B H' d xs := ⟨s _ _ h.at_, fun x hx => (h.each x hx).same s, h.len⟩
theorem kvs_keys (xs : List (Addr × Sg32.Track)) : (kvsOf xs).map (·.1) = ((xs.map fun x => x.2).map fun T => T.number).map fun n : Nat => (Sum.inl ((n : Nat) : Int) : Key) := by
  unfold kvsOf
  rw [List.map_map, List.map_map, List.map_map]
  rfl
theorem TrksB.trk {B : Bytes} {H : Hp} {d : Addr} {xs : List (Addr × Sg32.Track)} (h : TrksB t B H d xs) : TrkD H d ((xs.map fun x => x.2).map fun T => T.number) := ⟨_, h.at_, kvs_keys xs⟩
def spTracks (t : Adr) (K : PySem.W.Frag) (B : Bytes) : Sp := fun vs H Q E => ∃ (f a : Addr) (x : El), vs = [.ref f, .ref a] ∧ FileB K B H f ∧ ElB t B H a x ∧
  (readTracks (sl B x.st x.en) = none → Esc t.c_NotRight E) ∧ (∀ tr, readTracks (sl B x.st x.en) = some tr → ∀ H' d xs, TrksB t B H' d xs → (xs.map fun x => x.2) = tr → H d = none → Same H H' → Q (.ref d) H')
theorem upd_dk_ins {H : Hp} {d a C : Addr} {kvs : List (Key × V)} {o : HO} {fs : List (Str × V)} (hd : H d = some (.dK kvs)) (h : Ins H a C fs) : Ins (upd H d o) a C fs := by
  obtain ⟨dx, e⟩ := h
  exact ⟨dx, by rw [upd_ne (ne_of e hd (by intro z; cases z))]; exact e⟩
theorem TrkB.dk {B : Bytes} {H : Hp} {d a : Addr} {kvs : List (Key × V)} {o : HO} {T : Sg32.Track} (h : TrkB t B H a T) (hd : H d = some (.dK kvs)) : TrkB t B (upd H d o) a T :=
  let ⟨pa, ca, x, h1, h2, h3, h4⟩ := h.at_; ⟨⟨pa, ca, x, upd_dk_ins hd h1, upd_dk_ins hd h2, ⟨upd_dk_ins hd h3.at_, h3.le, h3.eB⟩, h4⟩⟩
theorem sc_read_tracks : FnScope ["file", "element", "tracks", "child", "track"] ["file", "element"] (defScope s_read_tracks) := ⟨rfl, rfl, rfl, by decide +kernel, rfl, by decide +kernel, by decide +kernel⟩
theorem ok_read_tracks (B : Bytes) (T : Txt K mg t) : FnOk P w K mg base (CXB P w t.c_NotRight) 13 t.f_read_tracks t.d_read_tracks ["file", "element"] (spTracks t K B) := by
  have G_Contents_init := ok_Contents_init (P := P) (w := w) (base := base) B T
  have G_Contents_all_named := ok_Contents_all_named (P := P) (w := w) (base := base) B T
  have G_read_track := ok_read_track (P := P) (w := w) (base := base) B T
  refine T.F_read_tracks.okX sc_read_tracks (fun vs H Q E h => ?_) (fun cdv A outer s H vs Q E hr h => ?_)
  · obtain ⟨f, a, x, rfl, _⟩ := h
    rfl
  · obtain ⟨f, a, x, rfl, hf, hx, q1, q2⟩ := h
    unfold readTracks at q1
    simp only [readTracks] at q2
    refine ⟨_, (pss_cons (ps_set (i := 2) sc_read_tracks.nd rfl (Or.inl rfl) pe_dnewK)
      (pss_cons (ps_for PassesOwn.leaving rfl (pi_list (pe_meth (pe_make T.mk_Contents G_Contents_init (hr.mono (by decide)) rfl T.mg_Contents T.b_Contents_init .nil pX (pa_cons (pv 0) (pa_cons (pv 1) pa_nil))) T.cl_Contents T.me_Contents_all_named G_Contents_all_named (hr.mono (by decide)) T.b_Contents_all_named .nil pX (pa_cons (pe_tup (pa_cons (pe_gint rfl T.c_TRACK) pa_nil)) pa_nil))) (pg_name (i := 3) sc_read_tracks.nd rfl (Or.inl rfl)) (pss_cons (ps_set (i := 4) sc_read_tracks.nd rfl (Or.inl rfl) (pe_call G_read_track (hr.mono (by decide)) rfl T.mg_read_track T.F_read_track.kp T.b_read_track .nil pX (pa_cons (pv 0) (pa_cons (pv 3) pa_nil))))
      (pss_cons (ps_if (pt_cmp (pc_din (hu_of hr) (pe_fld (pv 4) rfl) (pv 2))) (pss_one (ps_raiseB T.exc rfl T.mg_NotRight)) pss_nil)
      (pss_one (ps_dput (hu_of hr) (pv 2) (pe_fld (pv 4) rfl) (pv 4) rfl)))))
      (pss_cons (ps_if (pt_not (pt_truth (pv 2) (fun _ => rfl))) (pss_one (ps_raiseB T.exc rfl T.mg_NotRight)) pss_nil)
      (pss_one (ps_ret (pv 2)))))), ?_⟩
    -- tracks = {}
    intro d nd0
    have sd := same_upd (o := .dK []) nd0
    -- the children
    refine ⟨_, rfl, _, rfl, ?_⟩
    intro p dp np nd ne
    have s0 := sd.trans (made_same (o := .ins t.c_Contents dp []) np nd)
    refine ⟨p, dp, f, a, x, rfl, upd_same, hf.same s0, hx.same s0, fun hn => EE.esc (q1 (by rw [hn]; rfl)), fun l hl H1 cs hc hcs k1 hcn => ⟨rfl, ?_⟩⟩
    have hd0 : (upd (upd (upd H d (.dK [])) dp (.own p)) p (.ins t.c_Contents dp [])) d = some (.dK []) := made_same np nd _ _ upd_same
    have s1 : Same H H1 := Same.ofKeep s0 (sd.free np) k1
    have hd1 : H1 d = some (.dK []) := k1 _ _ hd0 (ne_of hd0 upd_same (by intro z; cases z))
    obtain ⟨lc, ⟨d1, hp1⟩, _⟩ := hc.ob
    rw [hl, Option.bind_some] at q1
    simp only [hl, Option.bind_some] at q2
    subst hcs
    refine ⟨p, d1, _, rfl, hp1, (by kernel_rfl), by show 1 ≤ sizeLine; decide, fun tn htn => ?_⟩
    have s2 := same_upd (o := .tup [V.int 174]) htn
    refine ⟨p, f, tn, cs, [174], rfl, hc.same s2, SqT.of upd_same, fun H3 lb hlb nlb s3 => ?_⟩
    rw [named1_eq] at hlb
    have s13 := s2.trans s3
    have s03 := s1.trans s13
    rw [of_named1] at q1
    simp only [of_named1] at q2
    have hmem : ∀ z, z ∈ named1 174 cs → z ∈ cs := fun z hz => (named1_mem hz).1
    have hnl : (named1 174 cs).length ≤ 100000 := Nat.le_trans (List.length_filter_le _ _) hc.kids.len
    generalize named1 174 cs = ts at hlb hmem hnl q1 q2
    refine ⟨lb, rfl, ⟨_, SqL.of hlb⟩, for_list (K := K) (a := lb) (xs := refs ts) (fun i σ H4 => ∃ (xs : List (Addr × Sg32.Track)) (v3 v4 : Option V), σ = [some (.ref f), some (.ref a), some (.ref d), v3, v4] ∧ TrksB t B H4 d xs ∧ Keep d H3 H4 ∧
      ((ts.take i).map fun x => sl B x.2.st x.2.en).mapM Sg32.track = some (xs.map fun x => x.2) ∧ (xs.map fun x => x.2.number).Nodup ∧ xs.length = i)
      ⟨[], none, none, rfl, ⟨s13 _ _ hd1, by simp, by simp⟩, Keep.refl _ _, rfl, by simp, rfl⟩ (fun i σ H4 _ ⟨xs, v3, v4, _, _, k4, _⟩ => SqL.of (k4 _ _ hlb (ne_of hlb (s13 _ _ hd1) (by intro z; cases z)))) ?_ ?_⟩
    · rintro i yv σ H4 hi ⟨xs, v3, v4, rfl, htr, k4, hmm, hnd, hlen⟩
      obtain ⟨z, hz, rfl⟩ := refs_at hi
      have hzm : z ∈ ts := List.mem_of_getElem? hz
      have hzc := hmem z hzm
      have hil : i < ts.length := (List.getElem?_eq_some_iff.mp hz).1
      have s04 : Same H H4 := Same.ofKeep s03 nd0 k4
      have ez : ElB t B H4 z.1 z.2 := by
        have e0 := (hc.el hzc).same s13
        obtain ⟨dz, hza⟩ := e0.at_
        exact ⟨⟨dz, k4 _ _ hza (ne_of hza (s13 _ _ hd1) (by intro z; cases z))⟩, e0.le, e0.eB⟩
      have et : ts.take (i + 1) = ts.take i ++ [z] := by
        obtain ⟨hlt, e⟩ := List.getElem?_eq_some_iff.mp hz
        rw [List.take_succ_eq_append_getElem hlt, e]
      refine ⟨_, rfl, _, rfl, f, z.1, z.2, rfl, hf.same s04, ez, fun hn => EE.esc (q1 ?_), fun Tk hT H5 b hb nb s5 => ?_⟩
      · rw [mapM_none (x := sl B z.2.st z.2.en) (List.mem_map.mpr ⟨z, hzm, rfl⟩) hn]
        rfl
      · obtain ⟨pa, ca, ex, ⟨db, hba⟩, hpa, hca, hcod⟩ := id hb.at_
        have htr5 := htr.same s5
        have hd5 := htr5.at_
        have hmm' : ((ts.take (i + 1)).map fun x => sl B x.2.st x.2.en).mapM Sg32.track = some ((xs ++ [(b, Tk)]).map fun x => x.2) := by
          rw [et, List.map_append, List.map_append]
          exact mapM_snoc hmm hT
        -- if track.number in tracks
        refine ⟨_, rfl, b, _, db, _, _, rfl, hba, T.cl_Track, T.na_Track_number, lk_Trk_number _ _ _ _ _ _, _, rfl, d, _, rfl, DGet.k (k := Sum.inl ((Tk.number : Nat) : Int)) hd5, _, rfl, ?_⟩
        have hvk := val_keys (n := Tk.number) (kvs_keys xs)
        rw [hvk]
        refine ite2 (fun hin => ?_) fun hin => ?_
        · refine q1 ?_
          cases hall : (ts.map fun x => sl B x.2.st x.2.en).mapM Sg32.track with
          | none => rfl
          | some tr =>
            rw [Option.bind_some]
            have hsp : ts = ts.take (i + 1) ++ ts.drop (i + 1) := (List.take_append_drop _ _).symm
            rw [hsp, List.map_append, List.mapM_append, hmm'] at hall
            have hall : ((ts.drop (i + 1)).map fun x => sl B x.2.st x.2.en).mapM Sg32.track >>= (fun r => pure ((xs ++ [(b, Tk)]).map (fun x => x.2) ++ r)) = some tr := hall
            cases hr2 : ((ts.drop (i + 1)).map fun x => sl B x.2.st x.2.en).mapM Sg32.track with
            | none => rw [hr2] at hall; cases hall
            | some rr =>
              rw [hr2] at hall
              have hall : some ((xs ++ [(b, Tk)]).map (fun x => x.2) ++ rr) = some tr := hall
              have hall := Option.some.inj hall
              have : Sg32.distinct (tr.map fun x => x.number) = false := by
                rw [← hall]
                skip
                rw [distinct_eq]
                refine decide_eq_false fun hnd' => ?_
                rw [List.map_append, List.map_append, List.map_append, List.map_map] at hnd'
                have h1 := (List.nodup_append.mp hnd').1
                have h2 := List.nodup_append.mp h1
                have hin' : Tk.number ∈ xs.map (fun x => x.2.number) := by
                  rw [List.map_map] at hin
                  simpa using hin
                exact h2.2.2 Tk.number hin' Tk.number (by simp) rfl
              skip
              rw [this, Bool.and_false]
              rfl
        · have hnone : valV (kvsOf xs) (Sum.inl ((Tk.number : Nat) : Int)) = none := by
            cases e : valV (kvsOf xs) (Sum.inl ((Tk.number : Nat) : Int)) with
            | none => rfl
            | some v =>
              rw [e] at hvk
              exact absurd hvk.symm hin
          have hni : ¬ (Tk.number ∈ xs.map fun x => x.2.number) := fun z => hin (by
            rw [List.map_map]
            simpa using z)
          -- tracks[track.number] = track
          refine ⟨_, rfl, _, rfl, _, rfl, b, _, db, _, _, rfl, hba, T.cl_Track, T.na_Track_number, lk_Trk_number _ _ _ _ _ _, d, _, rfl, DPut.k (k := Sum.inl ((Tk.number : Nat) : Int)) hd5 ?_, ?_⟩
          · unfold kvsOf
            rw [List.length_map]
            show xs.length < 16777216
            omega
          · rw [putK_new _ hnone]
            have ek : kvsOf xs ++ [((Sum.inl ((Tk.number : Nat) : Int) : Key), V.ref b)] = kvsOf (xs ++ [(b, Tk)]) := by unfold kvsOf; rw [List.map_append]; rfl
            refine ⟨xs ++ [(b, Tk)], _, _, rfl, ⟨?_, fun y hy => ?_, by simp; omega⟩, fun b' o e n => ?_, hmm', ?_, by simp [hlen]⟩
            · rw [← ek]
              exact upd_same
            · rcases List.mem_append.mp hy with m | m
              · exact (htr5.each y m).dk hd5
              · obtain rfl := List.mem_singleton.mp m
                exact hb.dk hd5
            · rw [upd_ne n]
              exact s5 _ _ (k4 b' o e n)
            · rw [List.map_append]
              refine List.nodup_append.mpr ⟨hnd, by simp, fun u hu v hv e => ?_⟩
              have hv : v = Tk.number := by simpa using hv
              rw [e, hv] at hu
              exact hni hu
    · rintro σ H4 ⟨xs, v3, v4, rfl, htr, k4, hmm, hnd, hlen⟩
      rw [refs_len, List.take_length] at hmm
      rw [hmm, Option.bind_some] at q1
      simp only [hmm, Option.bind_some] at q2
      have s04 : Same H H4 := Same.ofKeep s03 nd0 k4
      refine ⟨_, rfl, _, .inr (.inr ⟨_, htr.at_, rfl⟩), ?_⟩
      have hds : Sg32.distinct ((xs.map fun x => x.2).map fun x => x.number) = true := by
        rw [distinct_eq, List.map_map]
        exact decide_eq_true hnd
      rw [hds, Bool.and_true] at q1
      simp only [hds, Bool.and_true] at q2
      have eem : (kvsOf xs).isEmpty = (xs.map fun x => x.2).isEmpty := by unfold kvsOf; cases xs <;> rfl
      rw [eem]
      refine ite2 (fun he => ?_) fun he => ?_
      · have he : (xs.map fun x => x.2).isEmpty = true := by simpa using he
        refine q1 ?_
        rw [he]
        rfl
      · have he : (xs.map fun x => x.2).isEmpty = false := by simpa using he
        refine ⟨_, rfl, q2 _ ?_ H4 d xs htr rfl nd0 s04⟩
        rw [he]
        rfl
end
end Film

set_option Elab.async false
set_option linter.all false
set_option maxRecDepth 100000
set_option maxHeartbeats 1000000
namespace Film
open PySem PySem.Spec PyProof.Rows L2
open Sg32 (Bytes inside once numberOr must ALL element header)
/-! ### a whole file: what is due -/
def scl (b : Bytes) : Option Nat := (inside b).bind fun m => numberOr 0x2AD7B1 1 ALL 1000000 m
def noneBefore (l : List (Nat × Bytes)) : Bool := (Sg32.of 0x1F43B675 (l.takeWhile fun x => x.1 != 0x1654AE6B)).isEmpty
def bodyL (l : List (Nat × Bytes)) : Option Sg32.File := (once 0x1549A966 l).bind fun i => (scl i).bind fun scale => (once 0x1654AE6B l).bind fun t => (must (noneBefore l)).bind fun _ => (readTracks t).bind fun tr =>
  ((Sg32.of 0x1F43B675 l).mapM (Sg32.cluster tr)).bind fun f => some ⟨scale, tr, f.length, f.flatten⟩
def fileL (h s : Nat × Bytes) (e : Bytes) : Option Sg32.File := (must (h.1 == 0x1A45DFA3)).bind fun _ => (header h.2).bind fun _ => (must (s.1 == 0x18538067 && e.isEmpty)).bind fun _ => (inside s.2).bind bodyL
theorem file_eq (p : Bytes) : Sg32.file p = (element false p).bind fun x => (must (x.1.1 == 0x1A45DFA3)).bind fun _ => (header x.1.2).bind fun _ => (element true x.2).bind fun y => (must (y.1.1 == 0x18538067 && y.2.isEmpty)).bind fun _ => (inside y.1.2).bind bodyL := by
  unfold Sg32.file
  show (element false p).bind _ = _
  congr 1
  funext x
  obtain ⟨h, r⟩ := x
  show (must (h.1 == 0x1A45DFA3)).bind _ = _
  congr 1
  funext _
  show (header h.2).bind _ = _
  congr 1
  funext _
  show (element true r).bind _ = _
  congr 1
  funext y
  obtain ⟨s, e⟩ := y
  show (must (s.1 == 0x18538067 && e.isEmpty)).bind _ = _
  congr 1
  funext _
  show (inside s.2).bind _ = _
  congr 1
  funext l
  unfold bodyL
  show (once 0x1549A966 l).bind _ = _
  congr 1
  funext i
  unfold scl
  rw [Option.bind_assoc]
  show (inside i).bind _ = _
  congr 1
  funext m
  show (numberOr 0x2AD7B1 1 ALL 1000000 m).bind _ = _
  congr 1
  funext scale
  show (once 0x1654AE6B l).bind _ = _
  congr 1
  funext t
  show (must (noneBefore l)).bind _ = _
  congr 1
  funext _
  unfold readTracks
  rw [Option.bind_assoc]
  show (inside t).bind _ = _
  congr 1
  funext es
  rw [Option.bind_assoc]
  show ((Sg32.of 0xAE es).mapM Sg32.track).bind _ = _
  congr 1
  funext tr
  rw [Option.bind_assoc]
  rfl
theorem file_first {p : Bytes} (h : element false p = none) : Sg32.file p = none := by rw [file_eq, h]; rfl
theorem file_second {p r : Bytes} {x : Nat × Bytes} (h : element false p = some (x, r)) (h2 : element true r = none) : Sg32.file p = none := by
  rw [file_eq, h]
  show (must (x.1 == 0x1A45DFA3)).bind (fun _ => (header x.2).bind fun _ => (element true r).bind _) = none
  rw [h2]
  cases must (x.1 == 0x1A45DFA3) with
  | none => rfl
  | some _ => exact bind_none' _
theorem file_both {p r e : Bytes} {x y : Nat × Bytes} (h : element false p = some (x, r)) (h2 : element true r = some (y, e)) : Sg32.file p = fileL x y e := by
  rw [file_eq, h]
  show (must (x.1 == 0x1A45DFA3)).bind (fun _ => (header x.2).bind fun _ => (element true r).bind _) = _
  rw [h2]
  rfl
theorem fileL_h {h s : Nat × Bytes} {e : Bytes} (c : h.1 ≠ 0x1A45DFA3) : fileL h s e = none := by
  have : must (h.1 == 0x1A45DFA3) = none := by unfold must; rw [if_neg (by simpa using c)]
  unfold fileL; rw [this]; rfl
theorem fileL_s {h s : Nat × Bytes} {e : Bytes} (c : (s.1 == 0x18538067 && e.isEmpty) = false) : fileL h s e = none := by
  have : must (s.1 == 0x18538067 && e.isEmpty) = none := by unfold must; rw [if_neg (by rw [c]; decide)]
  unfold fileL; rw [this]
  cases must (h.1 == 0x1A45DFA3) with
  | none => rfl
  | some _ => exact bind_none' _
theorem fileL_ok {h s : Nat × Bytes} {e : Bytes} (c : h.1 = 0x1A45DFA3) (c2 : (s.1 == 0x18538067 && e.isEmpty) = true) : fileL h s e = (header h.2).bind fun _ => (inside s.2).bind bodyL := by
  have e1 : must (h.1 == 0x1A45DFA3) = some () := by unfold must; rw [if_pos (by simpa using c)]
  have e2 : must (s.1 == 0x18538067 && e.isEmpty) = some () := by unfold must; rw [if_pos c2]
  unfold fileL; rw [e1, e2]
  rfl
theorem takeWhile_pre {B : Bytes} {n : Nat} {pre post : List (Addr × El)} {x : Addr × El} (h1 : ∀ y, y ∈ pre → y.2.nm ≠ n) (h3 : x.2.nm = n) : ((pre ++ x :: post).map (den B)).takeWhile (fun z => z.1 != n) = pre.map (den B) := by
  induction pre with
  | nil =>
    show List.takeWhile _ (den B x :: post.map (den B)) = []
    rw [List.takeWhile_cons, if_neg]
    show ¬ ((x.2.nm != n) = true)
    simp [h3]
  | cons y pre ih =>
    show List.takeWhile _ (den B y :: (pre ++ x :: post).map (den B)) = den B y :: pre.map (den B)
    rw [List.takeWhile_cons, if_pos, ih fun z hz => h1 z (List.mem_cons_of_mem _ hz)]
    show (y.2.nm != n) = true
    have := h1 y (List.mem_cons_self ..)
    simpa using this
theorem noneBefore_of {B : Bytes} {cs pre post : List (Addr × El)} {x : Addr × El} (hcs : cs = pre ++ x :: post) (h1 : ∀ y, y ∈ pre → y.2.nm ≠ 0x1654AE6B) (h3 : x.2.nm = 0x1654AE6B) : noneBefore (cs.map (den B)) = (named1 0x1F43B675 pre).isEmpty := by
  unfold noneBefore
  rw [hcs, takeWhile_pre h1 h3, of_named1]
  cases named1 0x1F43B675 pre <;> rfl
/-- stretches one behind another: their lengths -/
theorem sum_span : ∀ (ys : List (Addr × El)) (lo N : Nat), lo ≤ N → (∀ y, y ∈ ys → lo ≤ y.2.st) → (∀ y, y ∈ ys → y.2.st ≤ y.2.en ∧ y.2.en ≤ N) → (ys.Pairwise fun x y => x.2.en ≤ y.2.st) → (ys.map fun y => y.2.en - y.2.st).sum + lo ≤ N
  | [], lo, N, h, _, _, _ => by simpa using h
  | y :: ys, lo, N, h, h1, h2, h3 => by
    have p := List.pairwise_cons.mp h3
    have hy := h2 y (List.mem_cons_self ..)
    have hl := h1 y (List.mem_cons_self ..)
    have ih := sum_span ys y.2.en N hy.2 (fun z hz => p.1 z hz) (fun z hz => h2 z (List.mem_cons_of_mem _ hz)) p.2
    rw [List.map_cons, List.sum_cons]
    omega
section
variable {P : Program} {w : World} {K : PySem.W.Frag} {mg : Str → Option Value} {base : Heap} {t : Adr}
def spScale (t : Adr) (K : PySem.W.Frag) (B : Bytes) : Sp := fun vs H Q E => ∃ (f a : Addr) (x : El), vs = [.ref f, .ref a] ∧ FileB K B H f ∧ ElB t B H a x ∧
  (scl (sl B x.st x.en) = none → Esc t.c_NotRight E) ∧ (∀ n, scl (sl B x.st x.en) = some n → ∀ H', Same H H' → Q (.int ((n : Nat) : Int)) H')
theorem sc_read_scale : FnScope ["file", "about"] ["file", "about"] (defScope s_read_scale) := ⟨rfl, rfl, rfl, by decide +kernel, rfl, by decide +kernel, by decide +kernel⟩
theorem ok_read_scale (B : Bytes) (T : Txt K mg t) : FnOk P w K mg base (CXB P w t.c_NotRight) 11 t.f_read_scale t.d_read_scale ["file", "about"] (spScale t K B) := by
  have G_Contents_init := ok_Contents_init (P := P) (w := w) (base := base) B T
  have G_Contents_number_or := ok_Contents_number_or (P := P) (w := w) (base := base) B T
  refine T.F_read_scale.okX sc_read_scale (fun vs H Q E h => ?_) (fun cdv A outer s H vs Q E hr h => ?_)
  · obtain ⟨f, a, x, rfl, _⟩ := h
    rfl
  · obtain ⟨f, a, x, rfl, hf, hx, q1, q2⟩ := h
    unfold scl at q1
    simp only [scl] at q2
    refine ⟨_, (pss_one (ps_ret (pe_meth (pe_make T.mk_Contents G_Contents_init (hr.mono (by decide)) rfl T.mg_Contents T.b_Contents_init .nil pX (pa_cons (pv 0) (pa_cons (pv 1) pa_nil))) T.cl_Contents T.me_Contents_number_or G_Contents_number_or (hr.mono (by decide)) T.b_Contents_number_or .nil pX (pa_cons (pe_gint rfl T.c_SCALE) (pa_cons pe_int (pa_cons (pe_gint rfl T.c_GREATEST_NUMBER) (pa_cons (pe_gint rfl T.c_USUAL_SCALE) pa_nil))))))), ?_⟩
    refine ⟨_, rfl, _, rfl, ?_⟩
    intro p dp np nd ne
    have s0 := made_same (o := .ins t.c_Contents dp []) np nd
    refine ⟨p, dp, f, a, x, rfl, upd_same, hf.same s0, hx.same s0, fun hn => EE.esc (q1 (by rw [hn]; rfl)), fun l hl H1 cs hc hcs k1 hcn => ⟨rfl, ?_⟩⟩
    have s1 : Same H H1 := Same.ofKeep s0 np k1
    obtain ⟨lc, ⟨d1, hp1⟩, _⟩ := hc.ob
    rw [hl, Option.bind_some] at q1
    simp only [hl, Option.bind_some] at q2
    subst hcs
    refine ⟨p, d1, _, rfl, hp1, (by kernel_rfl), p, f, cs, 2807729, 1, 18446744073709551615, 1000000, .int 1000000, rfl, hc, fun hn => EE.esc (q1 hn), fun v y hv hy H2 s2 => ?_⟩
    have hy : y = .int ((v : Nat) : Int) := by
      rcases hy with h | ⟨h1, h2⟩
      · exact h
      · rw [h1, h2]
        rfl
    subst hy
    exact q2 v hv H2 (s1.trans s2)
/-! ### films -/
abbrev fsFilm (a b c : V) : List (Str × V) := [("tracks", a), ("scale", b), ("clusters", c)]
theorem pf_Film (a b c : V) : putF "clusters" c (putF "scale" b (putF "tracks" a [])) = fsFilm a b c := by kernel_rfl
theorem lk_Film_tracks (a b c : V) : (fsFilm a b c).lookup ("tracks" : Str) = some a := by kernel_rfl
theorem lk_Film_scale (a b c : V) : (fsFilm a b c).lookup ("scale" : Str) = some b := by kernel_rfl
theorem lk_Film_clusters (a b c : V) : (fsFilm a b c).lookup ("clusters" : Str) = some c := by kernel_rfl
def spI_Film (t : Adr) : Sp := fun vs H Q _ => ∃ (p dx : Addr) (a b c : V), vs = [.ref p, a, b, c] ∧ H p = some (.ins t.c_Film dx []) ∧ Q .non (upd H p (.ins t.c_Film dx (fsFilm a b c)))
theorem sc_Film_init : FnScope ["self", "tracks", "scale", "clusters"] ["self", "tracks", "scale", "clusters"] (defScope s_Film_init) := ⟨rfl, rfl, rfl, by decide +kernel, rfl, by decide +kernel, by decide +kernel⟩
theorem ok_Film_init (T : Txt K mg t) : FnOk P w K mg base (CXB P w t.c_NotRight) 1 t.f_Film_init t.d_Film_init ["self", "tracks", "scale", "clusters"] (spI_Film t) := by
  refine T.F_Film_init.okX sc_Film_init (fun vs H Q E h => ?_) (fun cdv A outer s H vs Q E hr h => ?_)
  · obtain ⟨p, dx, a, b, c, rfl, _⟩ := h
    rfl
  · obtain ⟨p, dx, a, b, c, rfl, hp, k⟩ := h
    refine ⟨_, (pss_cons (ps_fld (pv 0) (pv 1) rfl)
      (pss_cons (ps_fld (pv 0) (pv 2) rfl)
      (pss_one (ps_fld (pv 0) (pv 3) rfl)))), ?_⟩
    refine ⟨_, rfl, _, rfl, p, _, dx, [], rfl, hp, T.cl_Film, T.na_Film_tracks, (by show 0 < 1000; decide), ?_⟩
    refine ⟨_, rfl, _, rfl, p, _, dx, _, rfl, upd_same, T.cl_Film, T.na_Film_scale, (by show 1 < 1000; decide), ?_⟩
    refine ⟨_, rfl, _, rfl, p, _, dx, _, rfl, upd_same, T.cl_Film, T.na_Film_clusters, Nat.lt_of_le_of_lt (length_putF _ _ _) (by show 2 < 1000; decide), ?_⟩
    rw [upd_upd, upd_upd, pf_Film]
    exact k
abbrev Cls1 := Addr × List (Addr × Blk)
structure FilmB (t : Adr) (B : Bytes) (H : Hp) (a : Addr) (sc : Nat) (xs : List (Addr × Sg32.Track)) (cls : List Cls1) : Prop where
  ob : ∃ d l, Ins H a t.c_Film (fsFilm (.ref d) (.int sc) (.ref l)) ∧ TrksB t B H d xs ∧ H l = some (.lst (refs cls))
  each : ∀ c, c ∈ cls → H c.1 = some (.lst (refs c.2)) ∧ ∀ y, y ∈ c.2 → BlkB t B H y.1 y.2
  cnt : (cls.map fun c => c.2.length).sum ≤ 100000
  ncl : cls.length ≤ 100000
theorem FilmB.same {B : Bytes} {H H' : Hp} {a : Addr} {sc : Nat} {xs : List (Addr × Sg32.Track)} {cls : List Cls1} (h : FilmB t B H a sc xs cls) (s : Same H H') : FilmB t B H' a sc xs cls :=
  ⟨let ⟨d, l, h1, h2, h3⟩ := h.ob; ⟨d, l, Ins.same h1 s, h2.same s, s _ _ h3⟩, fun c hc => ⟨s _ _ (h.each c hc).1, fun y hy => ((h.each c hc).2 y hy).same s⟩, h.cnt, h.ncl⟩
def filmOf (B : Bytes) (sc : Nat) (xs : List (Addr × Sg32.Track)) (cls : List Cls1) : Sg32.File := ⟨sc, xs.map fun x => x.2, cls.length, (cls.map fun c => (c.2.map fun y => frm B y.2).flatten).flatten⟩
def spBodyF (t : Adr) (K : PySem.W.Frag) (B : Bytes) : Sp := fun vs H Q E => ∃ (f a : Addr) (x : El), vs = [.ref f, .ref a] ∧ FileB K B H f ∧ ElB t B H a x ∧
  ((inside (sl B x.st x.en)).bind bodyL = none → Esc t.c_NotRight E) ∧ (∀ F, (inside (sl B x.st x.en)).bind bodyL = some F → ∀ H' b sc xs cls, FilmB t B H' b sc xs cls → F = filmOf B sc xs cls → H b = none → Same H H' → Q (.ref b) H')
theorem sc_read_body : FnScope ["file", "body", "contents", "scale", "clusters", "tracks", "cluster"] ["file", "body"] (defScope s_read_body) := ⟨rfl, rfl, rfl, by decide +kernel, rfl, by decide +kernel, by decide +kernel⟩
theorem ok_read_body (B : Bytes) (T : Txt K mg t) : FnOk P w K mg base (CXB P w t.c_NotRight) 14 t.f_read_body t.d_read_body ["file", "body"] (spBodyF t K B) := by
  have G_Contents_init := ok_Contents_init (P := P) (w := w) (base := base) B T
  have G_Contents_once := ok_Contents_once (P := P) (w := w) (base := base) B T
  have G_Contents_all_named := ok_Contents_all_named (P := P) (w := w) (base := base) B T
  have G_read_scale := ok_read_scale (P := P) (w := w) (base := base) B T
  have G_check_before := ok_check_before (P := P) (w := w) (base := base) T
  have G_read_tracks := ok_read_tracks (P := P) (w := w) (base := base) B T
  have G_Film_init := ok_Film_init (P := P) (w := w) (base := base) T
  refine T.F_read_body.okX sc_read_body (fun vs H Q E h => ?_) (fun cdv A outer s H vs Q E hr h => ?_)
  · obtain ⟨f, a, x, rfl, _⟩ := h
    rfl
  · obtain ⟨f, a, x, rfl, hf, hx, q1, q2⟩ := h
    -- the tracks that the clusters are read with
    obtain ⟨tr0, htr0⟩ : ∃ tr0 : List Sg32.Track, ∀ (l : List (Nat × Bytes)) (b : Bytes) (tr : List Sg32.Track), inside (sl B x.st x.en) = some l → once 0x1654AE6B l = some b → readTracks b = some tr → tr = tr0 := by
      cases hl : inside (sl B x.st x.en) with
      | none => exact ⟨[], fun l b tr h => by cases h⟩
      | some l =>
        cases hb : once 0x1654AE6B l with
        | none => exact ⟨[], fun l' b tr h h2 => by cases h; rw [hb] at h2; cases h2⟩
        | some b =>
          cases ht : readTracks b with
          | none => exact ⟨[], fun l' b' tr h h2 h3 => by cases h; rw [hb] at h2; cases h2; rw [ht] at h3; cases h3⟩
          | some tr => exact ⟨tr, fun l' b' tr' h h2 h3 => by cases h; rw [hb] at h2; cases h2; rw [ht] at h3; cases h3; rfl⟩
    have G_read_cluster := ok_read_cluster (P := P) (w := w) (base := base) B tr0 T
    refine' ⟨_, (pss_cons (ps_set (i := 2) sc_read_body.nd rfl (Or.inl rfl) (pe_make T.mk_Contents G_Contents_init (hr.mono (by decide)) rfl T.mg_Contents T.b_Contents_init .nil pX (pa_cons (pv 0) (pa_cons (pv 1) pa_nil))))
      (pss_cons (ps_set (i := 3) sc_read_body.nd rfl (Or.inl rfl) (pe_call G_read_scale (hr.mono (by decide)) rfl T.mg_read_scale T.F_read_scale.kp T.b_read_scale .nil pX (pa_cons (pv 0) (pa_cons (pe_meth (pv 2) T.cl_Contents T.me_Contents_once G_Contents_once (hr.mono (by decide)) T.b_Contents_once .nil pX (pa_cons (pe_gint rfl T.c_ABOUT) pa_nil)) pa_nil))))
      (pss_cons (ps_set (i := 4) sc_read_body.nd rfl (Or.inl rfl) (pe_meth (pv 2) T.cl_Contents T.me_Contents_all_named G_Contents_all_named (hr.mono (by decide)) T.b_Contents_all_named .nil pX (pa_cons (pe_tup (pa_cons (pe_gint rfl T.c_CLUSTER) pa_nil)) pa_nil)))
      (pss_cons (ps_expr (pe_call G_check_before (hr.mono (by decide)) rfl T.mg_check_before T.F_check_before.kp T.b_check_before .nil pX (pa_cons (pe_meth (pv 2) T.cl_Contents T.me_Contents_once G_Contents_once (hr.mono (by decide)) T.b_Contents_once .nil pX (pa_cons (pe_gint rfl T.c_TRACKS) pa_nil)) (pa_cons (pv 4) pa_nil))))
      (pss_cons (ps_set (i := 5) sc_read_body.nd rfl (Or.inr rfl) (pe_call G_read_tracks (hr.mono (by decide)) rfl T.mg_read_tracks T.F_read_tracks.kp T.b_read_tracks .nil pX (pa_cons (pv 0) (pa_cons (pe_meth (pv 2) T.cl_Contents T.me_Contents_once G_Contents_once (hr.mono (by decide)) T.b_Contents_once .nil pX (pa_cons (pe_gint rfl T.c_TRACKS) pa_nil)) pa_nil))))
      (pss_one (ps_ret (pe_make T.mk_Film G_Film_init (hr.mono (by decide)) rfl T.mg_Film T.b_Film_init .nil pX (pa_cons (pv 5) (pa_cons (pv 3) (pa_cons (pe_lcX (own := [("cluster", 6)]) (Ek := EE t.c_NotRight E) rfl letF rfl sc_read_body.nd (pi_list (pv 4)) (blkOk_by (by kernel_rfl)) ?lcg ?lct ?lce) pa_nil))))))))))), ?main⟩
    case lcg => exact (fun _ _ _ _ _ => pg_name (i := 6) sc_read_body.nd rfl (Or.inl rfl))
    case lct => (intro _ _ _ _ _; exact pts_nil)
    case lce => exact fun _ _ _ _ _ _ hx => (pe_call G_read_cluster (hr.mono (by decide)) rfl T.mg_read_cluster T.F_read_cluster.kp T.b_read_cluster .nil hx (pa_cons (pv 0) (pa_cons (pv 6) (pa_cons (pv 5) pa_nil))))
    case main =>
      refine ⟨_, rfl, _, rfl, ?_⟩
      intro p dp np nd ne
      have s0 := made_same (o := .ins t.c_Contents dp []) np nd
      refine ⟨p, dp, f, a, x, rfl, upd_same, hf.same s0, hx.same s0, fun hn => EE.esc (q1 (by rw [hn]; rfl)), fun l hl H1 cs hc hcs k1 hcn => ⟨rfl, ?_⟩⟩
      have s1 : Same H H1 := Same.ofKeep s0 np k1
      obtain ⟨lc, ⟨d1, hp1⟩, _⟩ := hc.ob
      rw [hl, Option.bind_some] at q1
      simp only [hl, Option.bind_some] at q2
      have htr0 := fun b tr => htr0 l b tr hl
      subst hcs
      -- scale = read_scale(file, contents.once(ABOUT))
      refine ⟨_, rfl, _, rfl, p, d1, _, rfl, hp1, (by kernel_rfl), p, f, cs, 357149030, rfl, hc, fun hn => EE.esc (q1 (by unfold bodyL; rw [once_not hn]; rfl)), fun y hy H2 s2 => ?_⟩
      have hym : y ∈ cs := (named1_mem (n := 357149030) (by rw [hy]; exact List.mem_singleton.mpr rfl)).1
      unfold bodyL at q1
      simp only [bodyL] at q2
      rw [once_of hy, Option.bind_some] at q1
      simp only [once_of hy, Option.bind_some] at q2
      refine ⟨f, y.1, y.2, rfl, hf.same (s1.trans s2), (hc.el hym).same s2, fun hn => EE.esc (q1 (by rw [hn]; rfl)), fun sc hsc H3 s3 => ?_⟩
      have s13 := s2.trans s3
      rw [hsc, Option.bind_some] at q1
      simp only [hsc, Option.bind_some] at q2
      -- clusters = contents.all_named((CLUSTER,))
      refine ⟨_, rfl, p, d1, _, rfl, s13 _ _ hp1, (by kernel_rfl), by show 1 ≤ sizeLine; decide, fun tn htn => ?_⟩
      have s4 := same_upd (o := .tup [V.int 524531317]) htn
      refine ⟨p, f, tn, cs, [524531317], rfl, (hc.same s13).same s4, SqT.of upd_same, fun H5 lh hlh nlh s5 => ?_⟩
      rw [named1_eq] at hlh
      have s15 := (s13.trans s4).trans s5
      -- check_before(contents.once(TRACKS), clusters)
      refine ⟨_, rfl, p, d1, _, rfl, s15 _ _ hp1, (by kernel_rfl), p, f, cs, 374648427, rfl, hc.same s15, fun hn => EE.esc (q1 (by rw [once_not hn]; rfl)), fun z hz H6 s6 => ?_⟩
      have hzm : z ∈ cs := (named1_mem (n := 374648427) (by rw [hz]; exact List.mem_singleton.mpr rfl)).1
      obtain ⟨pre, post, epp, g1, g2, g3⟩ := split1 hz
      have s16 := s15.trans s6
      have hzo := once_of (B := B) hz
      rw [hzo, Option.bind_some, noneBefore_of epp g1 g3] at q1
      simp only [hzo, Option.bind_some, noneBefore_of epp g1 g3] at q2
      have hmem : ∀ y, y ∈ named1 524531317 cs → y ∈ cs := fun y hy => (named1_mem hy).1
      refine ⟨_, rfl, z.1, lh, z.2, named1 524531317 cs, rfl, Ins.same (hc.kids.at_ z hzm) s16, s6 _ _ hlh, fun y hy => Ins.same (hc.kids.at_ y (hmem y hy)) s16, fun ⟨y, hy, hlt⟩ => EE.esc (q1 ?_), fun hall => ?_⟩
      · have hyc := hmem y hy
        have hyn : y.2.nm = 524531317 := (named1_mem hy).2
        have hyp : y ∈ pre := by
          rw [epp] at hyc
          rcases List.mem_append.mp hyc with m | m
          · exact m
          · exfalso
            have srt := hc.kids.srt
            rw [epp, List.pairwise_append] at srt
            rcases List.mem_cons.mp m with e | e
            · rw [e] at hlt
              exact Nat.lt_irrefl _ hlt
            · have := List.rel_of_pairwise_cons srt.2.1 e
              omega
        have : (named1 0x1F43B675 pre).isEmpty = false := by
          cases hq : named1 0x1F43B675 pre with
          | nil =>
            have hin : y ∈ named1 0x1F43B675 pre := by
              unfold named1
              rw [List.mem_filter]
              exact ⟨hyp, by simpa using hyn⟩
            rw [hq] at hin
            cases hin
          | cons _ _ => rfl
        rw [this]
        rfl
      · have hpre : (named1 0x1F43B675 pre).isEmpty = true := by
          cases hq : named1 0x1F43B675 pre with
          | nil => rfl
          | cons y r =>
            exfalso
            have hin : y ∈ named1 0x1F43B675 pre := by rw [hq]; exact List.mem_cons_self ..
            obtain ⟨hyp, hyn⟩ := named1_mem hin
            have hyc : y ∈ cs := by rw [epp]; exact List.mem_append_left _ hyp
            have h1 := hall y (by unfold named1; rw [List.mem_filter]; exact ⟨hyc, by simpa using hyn⟩)
            have srt := hc.kids.srt
            rw [epp, List.pairwise_append] at srt
            have := srt.2.2 y hyp z (List.mem_cons_self ..)
            omega
        have hmu : must true = some () := rfl
        rw [hpre, hmu, Option.bind_some] at q1
        simp only [hpre, hmu, Option.bind_some] at q2
        have s06 := s1.trans s16
        -- tracks = read_tracks(file, contents.once(TRACKS))
        refine ⟨_, rfl, _, rfl, p, d1, _, rfl, s16 _ _ hp1, (by kernel_rfl), p, f, cs, 374648427, rfl, hc.same s16, fun hn => absurd hz (hn z), fun z' hz' H7 s7 => ?_⟩
        obtain rfl : z' = z := by
          rw [hz] at hz'
          exact ((List.cons.inj hz').1).symm
        have s17 := s16.trans s7
        refine ⟨f, z'.1, z'.2, rfl, hf.same (s1.trans s17), (hc.el hzm).same s17, fun hn => EE.esc (q1 (by rw [hn]; rfl)), fun tr htr H8 d xs hxs exs ndd s8 => ?_⟩
        obtain rfl := htr0 _ tr hzo htr
        rw [htr, Option.bind_some, of_named1] at q1
        simp only [htr, Option.bind_some, of_named1] at q2
        have s18 := s17.trans s8
        have s08 := s1.trans s18
        have hlh8 : H8 lh = some (.lst (refs (named1 524531317 cs))) := s8 _ _ (s7 _ _ (s6 _ _ hlh))
        have htrk : TrkD H8 d (tr.map fun T => T.number) := by
          rw [← exs]
          exact hxs.trk
        have hnl : (named1 524531317 cs).length ≤ 100000 := Nat.le_trans (List.length_filter_le _ _) hc.kids.len
        have hspan : ((named1 524531317 cs).map fun y => y.2.en - y.2.st).sum + 0 ≤ B.length := by
          refine sum_span _ 0 _ (Nat.zero_le _) (fun _ _ => Nat.zero_le _) (fun y hy => hc.kids.rng y (hmem y hy)) ?_
          unfold named1
          exact hc.kids.dis.filter _
        have hBl := hf.len
        generalize named1 524531317 cs = hs at hlh8 hmem hnl hspan q1 q2 hlh hall
        -- the comprehension
        refine ⟨_, rfl, _, rfl, _, rfl, lh, rfl, ⟨_, SqL.of hlh8⟩, fun D hD => ?_⟩
        refine lc_list (K := K) (a := lh) (xs := refs hs) (fun i H9 => ∃ cls : List Cls1, H9 D = some (.lst (refs cls)) ∧ Same H8 H9 ∧ (∀ c, c ∈ cls → c.1 ≠ D ∧ H9 c.1 = some (.lst (refs c.2)) ∧ ∀ y, y ∈ c.2 → BlkB t B H9 y.1 y.2) ∧
          ((hs.take i).map fun x => sl B x.2.st x.2.en).mapM (Sg32.cluster tr) = some (cls.map fun c => (c.2.map fun y => frm B y.2).flatten) ∧ cls.length = i ∧ (cls.map fun c => c.2.length).sum ≤ ((hs.take i).map fun y => y.2.en - y.2.st).sum)
          ⟨[], upd_same, same_upd hD, by simp, rfl, rfl, by simp⟩ (fun i H9 _ ⟨_, _, s9, _⟩ => SqL.of (s9 _ _ hlh8)) ?_ ?_
        · rintro i yv H9 hi ⟨cls, hD9, s9, hcl, hmm, hlen, hsum⟩
          obtain ⟨u, hu, rfl⟩ := refs_at hi
          have hum : u ∈ hs := List.mem_of_getElem? hu
          have huc := hmem u hum
          have hil : i < hs.length := (List.getElem?_eq_some_iff.mp hu).1
          have s09 := s08.trans s9
          have s19 := s18.trans s9
          refine ⟨rfl, ?_⟩
          unfold tYes
          dsimp only
          rw [if_pos rfl]
          refine ⟨_, rfl, _, rfl, _, rfl, f, u.1, d, u.2, rfl, hf.same s09, (hc.el huc).same s19, htrk.same s9, fun hn => EE.esc (q1 ?_), fun fr hfr Ha b ks hb hks hfl hcnt nb sa => ?_⟩
          · rw [mapM_none (x := sl B u.2.st u.2.en) (List.mem_map.mpr ⟨u, hum, rfl⟩) hn]
            rfl
          · have hDa := sa _ _ hD9
            have et : hs.take (i + 1) = hs.take i ++ [u] := by
              obtain ⟨hlt, e⟩ := List.getElem?_eq_some_iff.mp hu
              rw [List.take_succ_eq_append_getElem hlt, e]
            have nbD : b ≠ D := fun e => by rw [e, hD9] at nb; cases nb
            refine ⟨_, hDa, ?_, cls ++ [(b, ks)], ?_, fun b' o e => ?_, fun c hcm => ?_, ?_, by simp [hlen], ?_⟩
            · rw [refs_len]
              show cls.length < 16777216
              omega
            · rw [refs_snoc]
              exact upd_same
            · rw [upd_ne (ne_of_none e hD)]
              exact sa _ _ (s9 _ _ e)
            · rcases List.mem_append.mp hcm with m | m
              · obtain ⟨m1, m2, m3⟩ := hcl c m
                exact ⟨m1, by rw [upd_ne m1]; exact sa _ _ m2, fun y hy => ((m3 y hy).same sa).grow hDa⟩
              · obtain rfl := List.mem_singleton.mp m
                exact ⟨nbD, by rw [upd_ne nbD]; exact hb, fun y hy => (hks y hy).grow hDa⟩
            · rw [et, List.map_append, List.map_append]
              exact mapM_snoc hmm (by show Sg32.cluster tr (sl B u.2.st u.2.en) = some ((ks.map fun y => frm B y.2).flatten); rw [hfl]; exact hfr)
            · rw [et, List.map_append, List.map_append, List.sum_append, List.sum_append]
              simp only [List.map_cons, List.map_nil, List.sum_cons, List.sum_nil]
              omega
        · rintro H9 ⟨cls, hD9, s9, hcl, hmm, hlen, hsum⟩
          rw [refs_len, List.take_length] at hmm hsum
          rw [refs_len] at hlen
          rw [hmm, Option.bind_some] at q1
          simp only [hmm, Option.bind_some] at q2
          intro x' dx nx nd' ne'
          refine ⟨x', dx, _, _, _, rfl, upd_same, rfl, ?_⟩
          rw [upd_upd]
          have sm := made_same (o := .ins t.c_Film dx (fsFilm (.ref d) (.int sc) (.ref D))) nx nd'
          have s09 := s08.trans s9
          refine q2 _ rfl _ x' sc xs cls ⟨⟨d, D, ⟨dx, upd_same⟩, (hxs.same s9).same sm, sm _ _ hD9⟩, fun c hcm => ⟨sm _ _ (hcl c hcm).2.1, fun y hy => ((hcl c hcm).2.2 y hy).same sm⟩, by omega, by omega⟩ ?_ (s09.free nx) (s09.trans sm)
          unfold filmOf
          rw [exs, List.length_map]
def spFilm (t : Adr) (K : PySem.W.Frag) (B : Bytes) : Sp := fun vs H Q E => ∃ (f : Addr), vs = [.ref f] ∧ FileB K B H f ∧
  (Sg32.file B = none → Esc t.c_NotRight E) ∧ (∀ F, Sg32.file B = some F → ∀ H' b sc xs cls, FilmB t B H' b sc xs cls → F = filmOf B sc xs cls → H b = none → Same H H' → Q (.ref b) H')
theorem sc_read_film : FnScope ["file", "cursor", "header", "body"] ["file"] (defScope s_read_film) := ⟨rfl, rfl, rfl, by decide +kernel, rfl, by decide +kernel, by decide +kernel⟩
theorem ok_read_film (B : Bytes) (T : Txt K mg t) : FnOk P w K mg base (CXB P w t.c_NotRight) 15 t.f_read_film t.d_read_film ["file"] (spFilm t K B) := by
  have G_Cursor_init := ok_Cursor_init (P := P) (w := w) (base := base) T
  have G_Cursor_take_element := ok_Cursor_take_element (P := P) (w := w) (base := base) B T
  have G_Cursor_take_element_or_rest := ok_Cursor_take_element_or_rest (P := P) (w := w) (base := base) B T
  have G_Cursor_bytes_left := ok_Cursor_bytes_left (P := P) (w := w) (base := base) T
  have G_check_header := ok_check_header (P := P) (w := w) (base := base) B T
  have G_read_body := ok_read_body (P := P) (w := w) (base := base) B T
  refine T.F_read_film.okX sc_read_film (fun vs H Q E h => ?_) (fun cdv A outer s H vs Q E hr h => ?_)
  · obtain ⟨f, rfl, _⟩ := h
    rfl
  · obtain ⟨f, rfl, hf, q1, q2⟩ := h
    refine ⟨_, (pss_cons (ps_set (i := 1) sc_read_film.nd rfl (Or.inl rfl) (pe_make T.mk_Cursor G_Cursor_init (hr.mono (by decide)) rfl T.mg_Cursor T.b_Cursor_init .nil pX (pa_cons (pv 0) (pa_cons pe_int (pa_cons (pe_callB call_len_seq rfl T.n_len PySem.boot_len (pa_cons (pv 0) pa_nil)) pa_nil)))))
      (pss_cons (ps_set (i := 2) sc_read_film.nd rfl (Or.inl rfl) (pe_meth0 (pv 1) T.cl_Cursor T.me_Cursor_take_element G_Cursor_take_element (hr.mono (by decide)) T.b_Cursor_take_element .nil pX))
      (pss_cons (ps_set (i := 3) sc_read_film.nd rfl (Or.inl rfl) (pe_meth0 (pv 1) T.cl_Cursor T.me_Cursor_take_element_or_rest G_Cursor_take_element_or_rest (hr.mono (by decide)) T.b_Cursor_take_element_or_rest .nil pX))
      (pss_cons (ps_if (PW.pt (pw_or (pt_cmpR op_ne (pe_fld (pv 2) rfl) (pe_gint rfl T.c_HEADER) (nomark _)) (pw_or (pt_cmpR op_ne (pe_fld (pv 3) rfl) (pe_gint rfl T.c_BODY) (nomark _)) (pw_or1 (pt_cmpR op_gt (pe_meth0 (pv 1) T.cl_Cursor T.me_Cursor_bytes_left G_Cursor_bytes_left (hr.mono (by decide)) T.b_Cursor_bytes_left .nil pX) pe_int (nomark _)))))) (pss_one (ps_raiseB T.exc rfl T.mg_NotRight)) pss_nil)
      (pss_cons (ps_expr (pe_call G_check_header (hr.mono (by decide)) rfl T.mg_check_header T.F_check_header.kp T.b_check_header .nil pX (pa_cons (pv 0) (pa_cons (pv 2) pa_nil))))
      (pss_one (ps_ret (pe_call G_read_body (hr.mono (by decide)) rfl T.mg_read_body T.F_read_body.kp T.b_read_body .nil pX (pa_cons (pv 0) (pa_cons (pv 3) pa_nil)))))))))), ?_⟩
    refine ⟨_, rfl, _, rfl, f, _, rfl, .inl hf.fl, ?_⟩
    intro c dc nc nd ne
    refine ⟨c, dc, _, _, _, rfl, upd_same, rfl, ?_⟩
    rw [upd_upd, bys_len]
    generalize hH1 : upd (upd H dc (.own c)) c (.ins t.c_Cursor dc (fsCur (.ref f) (.int 0) (.int ((B.length : Nat) : Int)))) = H1
    have s1 : Same H H1 := by rw [← hH1]; exact made_same nc nd
    have hc1 : H1 c = some (.ins t.c_Cursor dc (fsCur (.ref f) (.int 0) (.int ((B.length : Nat) : Int)))) := by rw [← hH1]; exact upd_same
    have cb1 : CurB t K B H1 c f 0 B.length := ⟨⟨dc, hc1⟩, Nat.zero_le _, Nat.le_refl _, s1.seq hf.fl, hf.len⟩
    have hB : sl B 0 B.length = B := sl_all B
    -- header = cursor.take_element()
    refine ⟨_, rfl, c, dc, _, rfl, hc1, (by kernel_rfl), c, f, 0, B.length, rfl, cb1, fun hn => EE.esc (q1 (file_first (by rw [← hB]; exact hn))), fun n1 b1 r1 he1 st1 en1 H2 a1 _ h12 h13 eb1 er1 cb2 el1 na1 k2 => ?_⟩
    rw [hB] at he1
    have s2 : Same H H2 := Same.ofKeep s1 nc k2
    obtain ⟨d2, hc2⟩ := cb2.cur
    subst er1
    -- body = cursor.take_element_or_rest()
    refine ⟨_, rfl, c, d2, _, rfl, hc2, (by kernel_rfl), c, f, en1, B.length, rfl, cb2, fun hn => EE.esc (q1 (file_second he1 hn)), fun n2 b2 r2 he2 st2 en2 H3 a2 _ h22 h23 eb2 er2 cb3 el2 na2 k3 => ?_⟩
    have s3 : Same H H3 := Same.ofKeep s2 nc k3
    obtain ⟨d3, hc3⟩ := cb3.cur
    have el1' : ElAt t H3 a1 n1 st1 en1 := k3.ins el1 cb2.cur (El_ne_Cur _ _ _ _ _ _)
    obtain ⟨da1, ha1⟩ := id el1'
    obtain ⟨da2, ha2⟩ := id el2
    have efile := file_both he1 he2
    rw [efile] at q1
    simp only [efile] at q2
    have hcb3 := cb3.pe
    have her2 : r2.isEmpty = decide (en2 = B.length) := by
      rw [er2]
      by_cases z : en2 = B.length
      · rw [decide_eq_true z, sl_nil B (by omega)]
        rfl
      · rw [decide_eq_false z]
        have hl := sl_length (B := B) (p := en2) (Nat.le_refl B.length)
        cases hsl : sl B en2 B.length with
        | nil =>
          rw [hsl] at hl
          simp at hl
          omega
        | cons _ _ => rfl
    have dn : ∀ a b : Nat, (!decide (V.int ((a : Nat) : Int) = V.int ((b : Nat) : Int))) = !decide (a = b) := fun a b => by
      by_cases h : a = b
      · subst h; simp
      · have : ¬ (V.int ((a : Nat) : Int) = V.int ((b : Nat) : Int)) := fun z => h (by injection z with z; omega)
        rw [decide_eq_false this, decide_eq_false h]
    -- the names
    refine ⟨_, rfl, a1, _, da1, _, _, rfl, ha1, T.cl_Element, T.na_Element_name, lk_El_name _ _ _, rfl, _, rfl, ?_⟩
    rw [show (!decide (V.int ((n1 : Nat) : Int) = V.int 440786851)) = !decide (n1 = 440786851) from dn n1 440786851]
    refine ite2 (fun g1 => ?_) fun g1 => ?_
    · have g1 : n1 ≠ 0x1A45DFA3 := by simpa using g1
      exact iteT (q1 (fileL_h g1))
    · have g1 : n1 = 0x1A45DFA3 := by simpa using g1
      refine ⟨_, rfl, a2, _, da2, _, _, rfl, ha2, T.cl_Element, T.na_Element_name, lk_El_name _ _ _, rfl, _, rfl, ?_⟩
      rw [show (!decide (V.int ((n2 : Nat) : Int) = V.int 408125543)) = !decide (n2 = 408125543) from dn n2 408125543]
      refine ite2 (fun g2 => ?_) fun g2 => ?_
      · have g2 : n2 ≠ 0x18538067 := by simpa using g2
        refine iteT (q1 (fileL_s ?_))
        show (n2 == 0x18538067 && r2.isEmpty) = false
        rw [beq_eq_false_iff_ne.mpr g2, Bool.false_and]
      · have g2 : n2 = 0x18538067 := by simpa using g2
        refine ⟨_, rfl, c, d3, _, rfl, hc3, (by kernel_rfl), c, f, en2, B.length, rfl, cb3.cur, _, _, rfl, rfl, _, rfl, ite2 (fun g3 => ?_) fun g3 => ?_⟩
        · have g3 := of_decide_eq_true g3
          refine q1 (fileL_s ?_)
          show (n2 == 0x18538067 && r2.isEmpty) = false
          rw [her2, decide_eq_false (by omega), Bool.and_false]
        · have g3 : ¬ ((0 : Int) < ((B.length : Nat) : Int) - (en2 : Int)) := fun z => g3 (decide_eq_true z)
          have hok := fileL_ok (h := (n1, b1)) (s := (n2, b2)) (e := r2) g1 (by
            show (n2 == 0x18538067 && r2.isEmpty) = true
            rw [her2, decide_eq_true (by omega), g2]
            rfl)
          rw [hok] at q1
          simp only [hok] at q2
          have q1 : ((header b1).bind fun _ => (inside b2).bind bodyL) = none → Esc t.c_NotRight E := q1
          have eb1 : b1 = sl B st1 en1 := eb1
          subst eb1
          subst eb2
          -- check_header(file, header); return read_body(file, body)
          refine ⟨_, rfl, _, rfl, f, a1, ⟨n1, st1, en1⟩, rfl, hf.same s3, ⟨el1', h12, h13⟩, fun hn => EE.esc (q1 (by rw [hn]; rfl)), fun hh H4 s4 => ?_⟩
          rw [hh, Option.bind_some] at q1
          simp only [hh, Option.bind_some] at q2
          have s04 := s3.trans s4
          exact ⟨_, rfl, _, rfl, f, a2, ⟨n2, st2, en2⟩, rfl, hf.same s04, ⟨Ins.same el2 s4, h22, h23⟩, fun hn => EE.esc (q1 hn), fun F hF H5 b sc xs cls hfb e nb s5 => q2 F hF H5 b sc xs cls hfb e (s04.free nb) (s04.trans s5)⟩
end
end Film

set_option Elab.async false
set_option linter.all false
set_option maxRecDepth 100000
set_option maxHeartbeats 1000000
namespace Film
open PySem PySem.Spec PyProof.Rows L2
open Sg32 (Bytes)
section
variable {P : Program} {w : World} {K : PySem.W.Frag} {mg : Str → Option Value} {base : Heap} {t : Adr}
/-- all blocks -/
def allB (cls : List Cls1) : List (Addr × Blk) := (cls.map fun c => c.2).flatten
theorem allB_len (cls : List Cls1) : (allB cls).length = (cls.map fun c => c.2.length).sum := by
  unfold allB
  rw [List.length_flatten, List.map_map]
  rfl
def spBlocks (t : Adr) (B : Bytes) : Sp := fun vs H Q _ => ∃ (a : Addr) (sc : Nat) (xs : List (Addr × Sg32.Track)) (cls : List Cls1), vs = [.ref a] ∧ FilmB t B H a sc xs cls ∧
  (∀ H' b, H' b = some (.lst (refs (allB cls))) → H b = none → Same H H' → Q (.ref b) H')
theorem sc_Film_blocks : FnScope ["self", "found", "cluster"] ["self"] (defScope s_Film_blocks) := ⟨rfl, rfl, rfl, by decide +kernel, rfl, by decide +kernel, by decide +kernel⟩
theorem ok_Film_blocks (B : Bytes) (T : Txt K mg t) : FnOk P w K mg base (CXB P w t.c_NotRight) 1 t.f_Film_blocks t.d_Film_blocks ["self"] (spBlocks t B) := by
  refine T.F_Film_blocks.okX sc_Film_blocks (fun vs H Q E h => ?_) (fun cdv A outer s H vs Q E hr h => ?_)
  · obtain ⟨a, sc, xs, cls, rfl, _⟩ := h
    rfl
  · obtain ⟨a, sc, xs, cls, rfl, hf, q⟩ := h
    obtain ⟨d, l, ⟨da, ha⟩, htr, hl⟩ := hf.ob
    refine ⟨_, (pss_cons (ps_set (i := 1) sc_Film_blocks.nd rfl (Or.inl rfl) (pe_lst pa_nil))
      (pss_cons (ps_for PassesOwn.leaving rfl (pi_list (pe_fld (pv 0) rfl)) (pg_name (i := 2) sc_Film_blocks.nd rfl (Or.inl rfl)) (pss_one (ps_expr (pe_bm PySem.F.plainAttrs_list PySem.F.slot_list_extend PySem.F.type_list_extend mt_extend (pv 1) (pa_cons (pv 2) pa_nil)))))
      (pss_one (ps_ret (pv 1))))), ?_⟩
    refine ⟨by show 0 ≤ sizeLine; decide, fun fo nfo => ?_⟩
    have s1 := same_upd (o := .lst []) nfo
    refine ⟨_, rfl, a, _, da, _, _, rfl, s1 _ _ ha, T.cl_Film, T.na_Film_clusters, lk_Film_clusters _ _ _, l, rfl, ⟨_, SqL.of (s1 _ _ hl)⟩, for_list (K := K) (a := l) (xs := refs cls) (fun i σ H2 => (∃ v2 : Option V, σ = [some (.ref a), some (.ref fo), v2]) ∧ H2 fo = some (.lst (refs (allB (cls.take i)))) ∧ Same H H2)
      ⟨⟨none, rfl⟩, upd_same, s1⟩ (fun i σ H2 _ ⟨_, _, s2⟩ => SqL.of (s2 _ _ hl)) ?_ ?_⟩
    · rintro i yv σ H2 hi ⟨⟨v2, rfl⟩, hfo, s2⟩
      obtain ⟨c, hc, rfl⟩ := refs_at hi
      have hcm : c ∈ cls := List.mem_of_getElem? hc
      have hc2 := s2 _ _ (hf.each c hcm).1
      have et : cls.take (i + 1) = cls.take i ++ [c] := by
        obtain ⟨hlt, e⟩ := List.getElem?_eq_some_iff.mp hc
        rw [List.take_succ_eq_append_getElem hlt, e]
      have ea : allB (cls.take (i + 1)) = allB (cls.take i) ++ c.2 := by
        unfold allB
        rw [et, List.map_append, List.flatten_append]
        simp
      have hcnt : (allB (cls.take (i + 1))).length ≤ 100000 := by
        rw [allB_len]
        have h1 : cls = cls.take (i + 1) ++ cls.drop (i + 1) := (List.take_append_drop _ _).symm
        have h2 := hf.cnt
        rw [h1, List.map_append, List.sum_append] at h2
        omega
      refine ⟨_, rfl, .inl ⟨rfl, _, SqL.of hfo⟩, _, rfl, fo, c.1, _, _, rfl, rfl, hfo, hc2, ?_, ⟨_, rfl⟩, ?_, fun b o e => ?_⟩
      · rw [refs_len, refs_len]
        rw [ea, List.length_append] at hcnt
        show _ ≤ 16777216
        omega
      · rw [ea]
        have e2 : refs (allB (cls.take i) ++ c.2) = refs (allB (cls.take i)) ++ refs c.2 := by unfold refs; rw [List.map_append]
        rw [e2]
        exact upd_same
      · rw [upd_ne (ne_of_none e nfo)]
        exact s2 b o e
    · rintro σ H2 ⟨⟨v2, rfl⟩, hfo, s2⟩
      rw [refs_len, List.take_length] at hfo
      exact ⟨_, rfl, q H2 fo hfo nfo s2⟩
/-! ### film_or_none -/
def spFON (t : Adr) (K : PySem.W.Frag) (B : Bytes) : Sp := fun vs H Q _ => ∃ (f : Addr), vs = [.ref f] ∧ FileB K B H f ∧
  (Sg32.file B = none → ∀ H', Q .non H') ∧ (∀ F, Sg32.file B = some F → ∀ H' b sc xs cls, FilmB t B H' b sc xs cls → F = filmOf B sc xs cls → H b = none → Same H H' → Q (.ref b) H')
theorem sc_film_or_none : FnScope ["file"] ["file"] (defScope s_film_or_none) := ⟨rfl, rfl, rfl, by decide +kernel, rfl, by decide +kernel, by decide +kernel⟩
theorem ok_film_or_none (B : Bytes) (T : Txt K mg t) : FnOk P w K mg base (CXB P w t.c_NotRight) 16 t.f_film_or_none t.d_film_or_none ["file"] (spFON t K B) := by
  have G_read_film := ok_read_film (P := P) (w := w) (base := base) B T
  obtain ⟨oc, od, kV, doc, pm, an, cdv, ct, osl, efd, lk, hcd⟩ := T.F_film_or_none.ex
  rw [efd] at lk ⊢
  refine fn_raw lk hcd sc_film_or_none (fun vs H Q E h => ?_) (fun A outer s H vs Q E s1 hr h I => ?_)
  · obtain ⟨f, rfl, _⟩ := h
    rfl
  · obtain ⟨f, rfl, hf, q1, q2⟩ := h
    refine wpAny_execs_cons (thn (try_ret (C := t.c_NotRight) (Q := Q) I rfl rfl rfl T.exc rfl T.mg_NotRight (by decide) (fun E2 hp => pe_call G_read_film (hr.mono (by decide)) rfl T.mg_read_film T.F_read_film.kp T.b_read_film .nil hp (pa_cons (pv 0) pa_nil)) ?_) fun fl s' h => ?_)
    · exact ⟨_, rfl, f, rfl, hf, fun hn H' => q1 hn H', q2⟩
    · obtain ⟨u, rfl, h⟩ := h
      exact ⟨u, rfl, h⟩
end
end Film

set_option Elab.async false
set_option linter.all false
set_option maxRecDepth 100000
set_option maxHeartbeats 1000000
namespace Film
open PySem PySem.Spec PyProof.Rows L2
open Sg32 (Bytes)
theorem frames_all (B : Bytes) (cls : List Cls1) : (cls.map fun c => (c.2.map fun y => frm B y.2).flatten).flatten = ((allB cls).map fun y => frm B y.2).flatten := by
  induction cls with
  | nil => rfl
  | cons c r ih =>
    have e : allB (c :: r) = c.2 ++ allB r := by unfold allB; rw [List.map_cons, List.flatten_cons]
    rw [List.map_cons, List.flatten_cons, ih, e, List.map_append, List.flatten_append]
theorem frm_len (B : Bytes) (k : Blk) : (frm B k).length = k.ls.length := by unfold frm; rw [List.length_map, parts_len]
theorem parts_at : ∀ {ls : List Nat} {j n : Nat} (b : Bytes), ls[j]? = some n → (parts ls b)[j]? = some ((b.drop (ls.take j).sum).take n)
  | [], j, n, b, h => by simp at h
  | m :: ls, 0, n, b, h => by
    have h : m = n := by simpa using h
    subst h
    simp [parts]
  | m :: ls, j + 1, n, b, h => by
    have h : ls[j]? = some n := by simpa using h
    show (parts ls (b.drop m))[j]? = _
    rw [parts_at (b.drop m) h, List.drop_drop, List.take_succ_cons, List.sum_cons]
def tellAns (zs : List Int) (b : Bytes) (most : Int) : List Int := if most < ((b.length : Nat) : Int) then [-3] else [((b.length : Nat) : Int), ((zs.length : Nat) : Int)] ++ zs ++ [((b.length : Nat) : Int)] ++ bysI b
section
variable {P : Program} {w : World} {K : PySem.W.Frag} {mg : Str → Option Value} {base : Heap} {t : Adr}
def spTell : Sp := fun vs H Q _ => ∃ (an ac : Addr) (zs : List Int) (b : Bytes) (most : Int), vs = [.ref an, .ref ac, .int most] ∧ H an = some (.lst (zs.map V.int)) ∧ H ac = some (.lst (bys b)) ∧ zs.length ≤ 100 ∧ b.length ≤ 100000 ∧
  ∀ H' r, H' r = some (.lst ((tellAns zs b most).map V.int)) → Q (.ref r) H'
theorem sc_tell : FnScope ["numbers", "content", "most", "length"] ["numbers", "content", "most"] (defScope s_tell) := ⟨rfl, rfl, rfl, by decide +kernel, rfl, by decide +kernel, by decide +kernel⟩
theorem ok_tell (T : Txt K mg t) : FnOk P w K mg base (CXB P w t.c_NotRight) 1 t.f_tell t.d_tell ["numbers", "content", "most"] (spTell) := by
  refine T.F_tell.okX sc_tell (fun vs H Q E h => ?_) (fun cdv A outer s H vs Q E hr h => ?_)
  · obtain ⟨an, ac, zs, b, most, rfl, _⟩ := h
    rfl
  · obtain ⟨an, ac, zs, b, most, rfl, hn, hc, hz, hb, q⟩ := h
    refine ⟨_, (pss_cons (ps_set (i := 3) sc_tell.nd rfl (Or.inl rfl) (pe_callB call_len_seq rfl T.n_len PySem.boot_len (pa_cons (pv 1) pa_nil)))
      (pss_cons (ps_if (pt_cmpR op_gt (pv 3) (pv 2) (nomark _)) (pss_one (ps_ret (pe_lst (pa_cons (pe_gint rfl T.c_TOO_LONG) pa_nil)))) pss_nil)
      (pss_one (ps_ret (pe_op op_cat (pe_op op_cat (pe_op op_cat (pe_lst (pa_cons (pv 3) (pa_cons (pe_callB call_len_seq rfl T.n_len PySem.boot_len (pa_cons (pv 0) pa_nil)) pa_nil))) (pv 0)) (pe_lst (pa_cons (pv 3) pa_nil))) (pv 1)))))), ?_⟩
    refine ⟨_, rfl, ac, _, rfl, .inl (SqL.of hc), ?_⟩
    rw [bys_len]
    refine ⟨_, rfl, _, rfl, _, _, rfl, rfl, _, rfl, ite2 (fun hd => ?_) fun hd => ?_⟩
    · have hd := of_decide_eq_true hd
      refine ⟨by show 1 ≤ sizeLine; decide, fun r nr => q _ r ?_⟩
      unfold tellAns
      rw [if_pos hd]
      exact upd_same
    · have hd : ¬ (most < ((b.length : Nat) : Int)) := fun z => hd (decide_eq_true z)
      -- [length, len(numbers)] + numbers + [length] + content
      refine ⟨_, rfl, _, rfl, an, _, rfl, .inl (SqL.of hn), by show 2 ≤ sizeLine; decide, fun l1 n1 => ?_⟩
      rw [List.length_map]
      have s1 := same_upd (o := .lst [V.int ((b.length : Nat) : Int), V.int ((zs.length : Nat) : Int)]) n1
      refine ⟨_, rfl, l1, an, _, _, rfl, rfl, upd_same, s1 _ _ hn, ?_, fun l2 n2 => ?_⟩
      · rw [List.length_map]
        show 2 + zs.length ≤ 16777216
        omega
      have s2 := s1.trans (same_upd (o := .lst ([V.int ((b.length : Nat) : Int), V.int ((zs.length : Nat) : Int)] ++ zs.map V.int)) n2)
      refine ⟨_, rfl, by show 1 ≤ sizeLine; decide, fun l3 n3 => ?_⟩
      have s3' := same_upd (o := .lst [V.int ((b.length : Nat) : Int)]) n3
      refine ⟨l2, l3, _, _, rfl, rfl, s3' _ _ upd_same, upd_same, ?_, fun l4 n4 => ?_⟩
      · rw [List.length_append, List.length_map]
        show 2 + zs.length + 1 ≤ 16777216
        omega
      have s4' := same_upd (o := .lst ([V.int ((b.length : Nat) : Int), V.int ((zs.length : Nat) : Int)] ++ zs.map V.int ++ [V.int ((b.length : Nat) : Int)])) n4
      refine ⟨_, rfl, l4, ac, _, _, rfl, rfl, upd_same, ((s2.trans s3').trans s4') _ _ hc, ?_, fun l5 n5 => q _ l5 ?_⟩
      · rw [List.length_append, List.length_append, List.length_map, bys_len]
        show 2 + zs.length + 1 + b.length ≤ 16777216
        omega
      · unfold tellAns
        rw [if_neg hd, upd_same, bys_ints]
        simp only [List.map_append, List.map_cons, List.map_nil]
/-! ### frames -/
def frameN (x : Sg32.Frame) : List Int := [((x.track : Nat) : Int), x.time, if x.key = true then 1 else 0, ((x.bytes.length : Nat) : Int)]
def frameAns (B : Bytes) (k most : Int) : List Int := match Sg32.file B with
  | none => [-1]
  | some F => if k < 0 then [-2] else match F.frames[k.toNat]? with
    | none => [-2]
    | some x => tellAns (frameN x) x.bytes most
def spTellF (t : Adr) (K : PySem.W.Frag) (B : Bytes) : Sp := fun vs H Q _ => ∃ (a f : Addr) (k : Blk) (j : Nat) (x : Sg32.Frame) (most : Int), vs = [.ref a, .int j, .int most, .ref f] ∧ FileB K B H f ∧ BlkB t B H a k ∧ (frm B k)[j]? = some x ∧
  ∀ H' r, H' r = some (.lst ((tellAns (frameN x) x.bytes most).map V.int)) → Q (.ref r) H'
theorem sl_part {B : Bytes} {st n m q : Nat} (h : n + m ≤ q) : ((sl B st (st + q)).drop n).take m = sl B (st + n) (st + n + m) := by
  rw [sl_drop, sl_take B (by omega)]
theorem sum_take_le : ∀ (ls : List Nat) (j n : Nat), ls[j]? = some n → (ls.take j).sum + n ≤ ls.sum
  | [], j, n, h => by simp at h
  | m :: ls, 0, n, h => by
    have h : m = n := by simpa using h
    subst h
    simp
  | m :: ls, j + 1, n, h => by
    have h : ls[j]? = some n := by simpa using h
    have := sum_take_le ls j n h
    rw [List.take_succ_cons, List.sum_cons, List.sum_cons]
    omega
theorem cut_nats {ls : List Nat} {j : Nat} (h : j ≤ ls.length) : cutV (nats ls) none (some ((j : Nat) : Int)) = nats (ls.take j) := by
  unfold cutV
  rw [HT.sIx_none, HT.sIx_nat, nats_len, Nat.min_eq_left h, List.drop_zero, Nat.sub_zero]
  unfold nats
  rw [List.map_take]
theorem sum_nats (l : List Nat) : (l.map fun n : Nat => (n : Int)).sum = ((l.sum : Nat) : Int) := by
  induction l with
  | nil => rfl
  | cons n l ih => rw [List.map_cons, List.sum_cons, List.sum_cons, ih, Int.natCast_add]
theorem sc_tell_frame : FnScope ["block", "place", "most", "file", "length", "start", "numbers"] ["block", "place", "most", "file"] (defScope s_tell_frame) := ⟨rfl, rfl, rfl, by decide +kernel, rfl, by decide +kernel, by decide +kernel⟩
theorem ok_tell_frame (B : Bytes) (T : Txt K mg t) : FnOk P w K mg base (CXB P w t.c_NotRight) 2 t.f_tell_frame t.d_tell_frame ["block", "place", "most", "file"] (spTellF t K B) := by
  have G_tell := ok_tell (P := P) (w := w) (base := base) T
  refine T.F_tell_frame.okX sc_tell_frame (fun vs H Q E h => ?_) (fun cdv A outer s H vs Q E hr h => ?_)
  · obtain ⟨a, f, k, j, x, most, rfl, _⟩ := h
    rfl
  · obtain ⟨a, f, k, j, x, most, rfl, hf, hk, hx, q⟩ := h
    obtain ⟨l, ⟨da, ha⟩, hl⟩ := hk.at_
    have hjl : j < k.ls.length := by
      have := (List.getElem?_eq_some_iff.mp hx).1
      rw [frm_len] at this
      exact this
    obtain ⟨n, hn⟩ : ∃ n, k.ls[j]? = some n := ⟨k.ls[j], List.getElem?_eq_getElem hjl⟩
    have hsum := sum_take_le _ _ _ hn
    have heB := hk.eB
    have hBl := hf.len
    have hxe : x = ⟨k.v, k.tm, k.ky, sl B (k.st + (k.ls.take j).sum) (k.st + (k.ls.take j).sum + n)⟩ := by
      unfold frm at hx
      rw [List.getElem?_map, parts_at _ hn, Option.map_some, sl_part hsum] at hx
      exact (Option.some.inj hx).symm
    have hlenx : (sl B (k.st + (k.ls.take j).sum) (k.st + (k.ls.take j).sum + n)).length = n := by rw [sl_length (by omega)]; omega
    refine ⟨_, (pss_cons (ps_set (i := 4) sc_tell_frame.nd rfl (Or.inl rfl) (pe_ix ix_list (pe_fld (pv 0) rfl) (pv 1) (fun _ _ => rfl)))
      (pss_cons (ps_set (i := 5) sc_tell_frame.nd rfl (Or.inl rfl) (pe_op op_add (pe_fld (pv 0) rfl) (pe_callB (cr_sum rfl) rfl T.n_sum boot_sum (pa_cons (pe_slice sl_list (pe_fld (pv 0) rfl) po_none (po_some (pv 1))) pa_nil))))
      (pss_cons (ps_set (i := 6) sc_tell_frame.nd rfl (Or.inl rfl) (pe_lst (pa_cons (pe_fld (pv 0) rfl) (pa_cons (pe_fld (pv 0) rfl) (pa_cons (pe_ifExp (pt_val (pe_fld (pv 0) rfl)) pe_int pe_int) (pa_cons (pv 4) pa_nil))))))
      (pss_one (ps_ret (pe_call G_tell (hr.mono (by decide)) rfl T.mg_tell T.F_tell.kp T.b_tell .nil pX (pa_cons (pv 6) (pa_cons (pe_slice sl_list (pv 3) (po_some (pv 5)) (po_some (pe_op op_add (pv 5) (pv 4)))) (pa_cons (pv 2) pa_nil))))))))), ?_⟩
    -- length = block.lengths[place]
    refine ⟨_, rfl, a, _, da, _, _, rfl, ha, T.cl_Block, T.na_Block_lengths, lk_Blk_lengths _ _ _ _ _, _, rfl, l, _, _, _, rfl, rfl, SqL.of hl, at_of (j := j) (v := V.int ((n : Nat) : Int)) rfl (by unfold nats; rw [List.getElem?_map, hn]; rfl), ?_⟩
    -- start = block.start + sum(block.lengths[:place])
    refine ⟨_, rfl, a, _, da, _, _, rfl, ha, T.cl_Block, T.na_Block_start, lk_Blk_start _ _ _ _ _, _, rfl, a, _, da, _, _, rfl, ha, T.cl_Block, T.na_Block_lengths, lk_Blk_lengths _ _ _ _ _, _, rfl, _, rfl, l, _, rfl, SqL.of hl, fun lp hlp => ?_⟩
    rw [cut_nats (by omega)]
    have s1 := same_upd (o := .lst (nats (k.ls.take j))) hlp
    refine ⟨lp, _, rfl, SqL.of (by rw [← nats_int]; exact upd_same), _, _, rfl, rfl, ?_⟩
    rw [sum_nats]
    have ha1 := s1 _ _ ha
    -- numbers = [..]
    have fin : ∀ z : Int, z = (if k.ky = true then 1 else 0) → ∀ (l2 : Addr) (H2 : Hp), H2 l2 = some (.lst [V.int ((k.v : Nat) : Int), V.int k.tm, V.int z, V.int ((n : Nat) : Int)]) → Same H H2 →
        ∃ v, (some (V.ref f)) = some v ∧ (∃ i : Int, V.int (((k.st : Nat) : Int) + (((k.ls.take j).sum : Nat) : Int)) = .int i ∧ ∃ i2 : Int, V.int (((k.st : Nat) : Int) + (((k.ls.take j).sum : Nat) : Int) + ((n : Nat) : Int)) = .int i2 ∧
          ∃ (a0 : Addr) (xs : List V), v = .ref a0 ∧ SqL K H2 a0 xs ∧ ∀ p, H2 p = none → spTell [.ref l2, .ref p, .int most] (upd H2 p (.lst (cutV xs (some i) (some i2)))) Q (EE t.c_NotRight E)) := by
      intro z hz l2 H2 hl2 s2
      refine ⟨_, rfl, _, rfl, _, rfl, f, _, rfl, (hf.same s2).fl, fun p np => ?_⟩
      have e1 : ((k.st : Nat) : Int) + (((k.ls.take j).sum : Nat) : Int) = ((k.st + (k.ls.take j).sum : Nat) : Int) := by omega
      have e2 : ((k.st : Nat) : Int) + (((k.ls.take j).sum : Nat) : Int) + ((n : Nat) : Int) = ((k.st + (k.ls.take j).sum + n : Nat) : Int) := by omega
      rw [e2, e1, cut_bys (by omega) (by omega)]
      refine ⟨l2, p, frameN x, x.bytes, most, rfl, ?_, ?_, by simp [frameN], by rw [hxe]; simp only; omega, fun H' r hr => q H' r hr⟩
      · rw [upd_ne (ne_of_none hl2 np), hl2]
        unfold frameN
        rw [hxe, hz]
        simp only [hlenx]
        rfl
      · rw [upd_same, hxe]
    cases hky : k.ky with
    | true =>
      rw [hky] at ha1
      refine ⟨_, rfl, a, _, da, _, _, rfl, ha1, T.cl_Block, T.na_Block_track_number, lk_Blk_track _ _ _ _ _, _, rfl, a, _, da, _, _, rfl, ha1, T.cl_Block, T.na_Block_time, lk_Blk_time _ _ _ _ _, _, rfl, a, _, da, _, _, rfl, ha1, T.cl_Block, T.na_Block_is_key, lk_Blk_key _ _ _ _ _, _, rfl, iteT ?_⟩
      refine ⟨_, rfl, by show 4 ≤ sizeLine; decide, fun l2 n2 => ?_⟩
      obtain ⟨v, ev, i, ei, i2, ei2, a0, xs, ea0, hs0, hp0⟩ := fin 1 (by rw [hky]; rfl) l2 _ upd_same (s1.trans (same_upd n2))
      cases ev
      cases ei
      cases ei2
      cases ea0
      exact ⟨_, rfl, _, rfl, _, rfl, _, rfl, _, rfl, _, rfl, _, _, rfl, rfl, _, rfl, f, xs, rfl, hs0, fun p np => ⟨_, rfl, hp0 p np⟩⟩
    | false =>
      rw [hky] at ha1
      refine ⟨_, rfl, a, _, da, _, _, rfl, ha1, T.cl_Block, T.na_Block_track_number, lk_Blk_track _ _ _ _ _, _, rfl, a, _, da, _, _, rfl, ha1, T.cl_Block, T.na_Block_time, lk_Blk_time _ _ _ _ _, _, rfl, a, _, da, _, _, rfl, ha1, T.cl_Block, T.na_Block_is_key, lk_Blk_key _ _ _ _ _, _, rfl, iteF ?_⟩
      refine ⟨_, rfl, by show 4 ≤ sizeLine; decide, fun l2 n2 => ?_⟩
      obtain ⟨v, ev, i, ei, i2, ei2, a0, xs, ea0, hs0, hp0⟩ := fin 0 (by rw [hky]; rfl) l2 _ upd_same (s1.trans (same_upd n2))
      cases ev
      cases ei
      cases ei2
      cases ea0
      exact ⟨_, rfl, _, rfl, _, rfl, _, rfl, _, rfl, _, rfl, _, _, rfl, rfl, _, rfl, f, xs, rfl, hs0, fun p np => ⟨_, rfl, hp0 p np⟩⟩
def spFrame (t : Adr) (K : PySem.W.Frag) (B : Bytes) : Sp := fun vs H Q _ => ∃ (f : Addr) (k most : Int), vs = [.int k, .int most, .ref f] ∧ FileB K B H f ∧ ∀ H' b, H' b = some (.lst ((frameAns B k most).map V.int)) → Q (.ref b) H'
theorem sc_frame : FnScope ["k", "most", "file", "film", "ahead", "block"] ["k", "most", "file"] (defScope s_frame) := ⟨rfl, rfl, rfl, by decide +kernel, rfl, by decide +kernel, by decide +kernel⟩
theorem ok_frame (B : Bytes) (T : Txt K mg t) : FnOk P w K mg base (CXB P w t.c_NotRight) 17 t.f_frame t.d_frame ["k", "most", "file"] (spFrame t K B) := by
  have G_film_or_none := ok_film_or_none (P := P) (w := w) (base := base) B T
  have G_Film_blocks := ok_Film_blocks (P := P) (w := w) (base := base) B T
  have G_tell_frame := ok_tell_frame (P := P) (w := w) (base := base) B T
  refine T.F_frame.okX sc_frame (fun vs H Q E h => ?_) (fun cdv A outer s H vs Q E hr h => ?_)
  · obtain ⟨f, k, most, rfl, _⟩ := h
    rfl
  · obtain ⟨f, k, most, rfl, hf, q⟩ := h
    refine ⟨_, (pss_cons (ps_set (i := 3) sc_frame.nd rfl (Or.inl rfl) (pe_call G_film_or_none (hr.mono (by decide)) rfl T.mg_film_or_none T.F_film_or_none.kp T.b_film_or_none .nil pX (pa_cons (pv 2) pa_nil)))
      (pss_cons (ps_if (pt_cmp (pc_isN (pv 3))) (pss_one (ps_ret (pe_lst (pa_cons (pe_gint rfl T.c_FILE_NOT_RIGHT) pa_nil)))) pss_nil)
      (pss_cons (ps_if (pt_cmpR op_lt (pv 0) pe_int (nomark _)) (pss_one (ps_ret (pe_lst (pa_cons (pe_gint rfl T.c_NOT_THERE) pa_nil)))) pss_nil)
      (pss_cons (ps_set (i := 4) sc_frame.nd rfl (Or.inl rfl) pe_int)
      (pss_cons (ps_for PassesOwn.leaving rfl (pi_list (pe_meth0 (pv 3) T.cl_Film T.me_Film_blocks G_Film_blocks (hr.mono (by decide)) T.b_Film_blocks .nil pX)) (pg_name (i := 5) sc_frame.nd rfl (Or.inl rfl)) (pss_cons (ps_if (pt_cmpR op_lt (pv 0) (pe_op op_add (pv 4) (pe_callB call_len_seq rfl T.n_len PySem.boot_len (pa_cons (pe_fld (pv 5) rfl) pa_nil))) (nomark _)) (pss_one (ps_ret (pe_call G_tell_frame (hr.mono (by decide)) rfl T.mg_tell_frame T.F_tell_frame.kp T.b_tell_frame .nil pX (pa_cons (pv 5) (pa_cons (pe_op op_sub (pv 0) (pv 4)) (pa_cons (pv 1) (pa_cons (pv 2) pa_nil))))))) pss_nil)
      (pss_one (ps_aug (i := 4) sc_frame.nd rfl (Or.inl rfl) (pe_callB call_len_seq rfl T.n_len PySem.boot_len (pa_cons (pe_fld (pv 5) rfl) pa_nil)) ip_add))))
      (pss_one (ps_ret (pe_lst (pa_cons (pe_gint rfl T.c_NOT_THERE) pa_nil))))))))), ?_⟩
    refine ⟨_, rfl, f, rfl, hf, fun hn H1 => ?_, fun F hF H1 b sc xs cls hfb e nb s1 => ?_⟩
    · refine ⟨_, rfl, _, rfl, iteT ?_⟩
      refine ⟨by show 1 ≤ sizeLine; decide, fun r nr => q _ r ?_⟩
      have : frameAns B k most = [-1] := by unfold frameAns; rw [hn]
      rw [this]
      exact upd_same
    · obtain ⟨d, l, ⟨db, hb⟩, htr, hl⟩ := hfb.ob
      refine ⟨_, rfl, _, rfl, iteF ?_⟩
      refine ⟨_, rfl, _, _, rfl, rfl, _, rfl, ite2 (fun g0 => ?_) fun g0 => ?_⟩
      · have g0 := of_decide_eq_true g0
        refine ⟨by show 1 ≤ sizeLine; decide, fun r nr => q _ r ?_⟩
        have : frameAns B k most = [-2] := by unfold frameAns; rw [hF]; simp only; rw [if_pos g0]
        rw [this]
        exact upd_same
      · have g0 : ¬ (k < 0) := fun z => g0 (decide_eq_true z)
        have eF : F.frames = ((allB cls).map fun y => frm B y.2).flatten := by rw [e]; exact frames_all B cls
        have eans : frameAns B k most = match (((allB cls).map fun y => frm B y.2).flatten)[k.toNat]? with
            | none => [-2]
            | some x => tellAns (frameN x) x.bytes most := by unfold frameAns; rw [hF]; simp only; rw [if_neg g0, eF]
        -- ahead = 0; for block in film.blocks()
        refine ⟨_, rfl, b, db, _, rfl, hb, (by kernel_rfl), b, sc, xs, cls, rfl, hfb, fun H2 lb hlb nlb s2 => ⟨lb, rfl, ⟨_, SqL.of hlb⟩, ?_⟩⟩
        have s02 := s1.trans s2
        refine for_list (K := K) (a := lb) (xs := refs (allB cls)) (fun i σ H3 => H3 = H2 ∧ (∃ v5 : Option V, σ = [some (.int k), some (.int most), some (.ref f), some (.ref b), some (.int (((((allB cls).take i).map fun y => frm B y.2).flatten.length : Nat) : Int)), v5]) ∧ (((((allB cls).take i).map fun y => frm B y.2).flatten.length : Nat) : Int) ≤ k)
          ⟨rfl, ⟨none, rfl⟩, by simp; omega⟩ (fun i σ H3 _ ⟨e, _⟩ => by rw [e]; exact SqL.of hlb) ?_ ?_
        · rintro i yv σ H3 hi ⟨rfl, ⟨v5, rfl⟩, hle⟩
          obtain ⟨y, hy, rfl⟩ := refs_at hi
          have hym : y ∈ allB cls := List.mem_of_getElem? hy
          have hyb : BlkB t B H3 y.1 y.2 := by
            unfold allB at hym
            obtain ⟨ks, hks, hyk⟩ := List.mem_flatten.mp hym
            obtain ⟨c, hc, rfl⟩ := List.mem_map.mp hks
            exact ((hfb.each c hc).2 y hyk).same s2
          obtain ⟨ll, ⟨dy, hya⟩, hll⟩ := hyb.at_
          have et : (allB cls).take (i + 1) = (allB cls).take i ++ [y] := by
            obtain ⟨hlt, e⟩ := List.getElem?_eq_some_iff.mp hy
            rw [List.take_succ_eq_append_getElem hlt, e]
          have esp : allB cls = (allB cls).take i ++ y :: (allB cls).drop (i + 1) := by
            conv => lhs; rw [← List.take_append_drop (i + 1) (allB cls), et]
            simp
          generalize hfs : (((allB cls).take i).map fun y => frm B y.2).flatten = fs at hle ⊢
          have ef : (((allB cls).take (i + 1)).map fun y => frm B y.2).flatten = fs ++ frm B y.2 := by
            rw [et, List.map_append, List.flatten_append, hfs]
            simp
          have eall : ((allB cls).map fun y => frm B y.2).flatten = fs ++ (frm B y.2 ++ (((allB cls).drop (i + 1)).map fun y => frm B y.2).flatten) := by
            conv => lhs; rw [esp]
            rw [List.map_append, List.flatten_append, hfs, List.map_cons, List.flatten_cons]
          refine ⟨_, rfl, _, rfl, _, rfl, y.1, _, dy, _, _, rfl, hya, T.cl_Block, T.na_Block_lengths, lk_Blk_lengths _ _ _ _ _, ll, _, rfl, .inl (SqL.of hll), _, _, rfl, rfl, _, _, rfl, rfl, _, rfl, ?_⟩
          rw [nats_len]
          refine ite2 (fun g1 => ?_) fun g1 => ?_
          · have g1 := of_decide_eq_true g1
            obtain ⟨j, hj⟩ : ∃ j : Nat, k = ((fs.length + j : Nat) : Int) := ⟨(k - (fs.length : Int)).toNat, by omega⟩
            have hjl : j < (frm B y.2).length := by rw [frm_len]; omega
            have hxj : (frm B y.2)[j]? = some ((frm B y.2)[j]) := List.getElem?_eq_getElem hjl
            refine ⟨_, rfl, _, rfl, _, rfl, _, _, rfl, rfl, _, rfl, _, rfl, y.1, f, y.2, j, (frm B y.2)[j], most, ?_, hf.same s02, hyb, hxj, fun H' r hr' => q H' r ?_⟩
            · show [V.ref y.1, V.int (k - ((fs.length : Nat) : Int)), V.int most, V.ref f] = [V.ref y.1, V.int ((j : Nat) : Int), V.int most, V.ref f]
              have : k - ((fs.length : Nat) : Int) = ((j : Nat) : Int) := by omega
              rw [this]
            · rw [eans, eall]
              have ek : k.toNat = fs.length + j := by omega
              rw [ek, List.getElem?_append_right (by omega), Nat.add_sub_cancel_left, List.getElem?_append_left hjl, hxj]
              exact hr'
          · have g1 : ¬ (k < ((fs.length : Nat) : Int) + ((y.2.ls.length : Nat) : Int)) := fun z => g1 (decide_eq_true z)
            refine ⟨_, rfl, _, rfl, y.1, _, dy, _, _, rfl, hya, T.cl_Block, T.na_Block_lengths, lk_Blk_lengths _ _ _ _ _, ll, _, rfl, .inl (SqL.of hll), _, _, rfl, rfl, rfl, ⟨some (V.ref y.1), ?_⟩, ?_⟩
            · rw [ef, List.length_append, frm_len, nats_len, Int.natCast_add]
              rfl
            · rw [ef, List.length_append, frm_len]
              omega
        · rintro σ H3 ⟨rfl, ⟨v5, rfl⟩, hle⟩
          rw [refs_len, List.take_length] at hle
          refine ⟨by show 1 ≤ sizeLine; decide, fun r nr => q _ r ?_⟩
          rw [eans, List.getElem?_eq_none (by omega)]
          exact upd_same

end
end Film

set_option Elab.async false
set_option linter.all false
set_option maxRecDepth 100000
/-! From a def's promise to the statement: a program against a Lean function; the answer a list of whole numbers. -/
namespace L2
open PySem PySem.Spec PyProof.Rows
/-- the call: among the arguments the list of whole numbers at a -/
theorem os_call {P : Program} {w : World} {K : PySem.W.Frag} {mg mb : Str → Option Value} {CX : CXT} {k : Nat} {fa a : Addr} {fd : FuncData} {ps : List Str} {sp : Sp} {s₁ : Shared} {vs us : List Value} {xs : List V} {ns ans : List Int}
    (KX : K.In s₁.heap) (hns : s₁.heap.Ns mainGlobals mg) (hb : s₁.heap.Ns builtinsNs mb) (hbb : ∀ x : Str, x ≠ "__name__" → mb x = bootBuiltins x) (hlim : s₁.heap.NoLimit) (hg : s₁.gens = #[])
    (ha : s₁.heap.get? a = some { cls := .type "list", data := .seq vs.toArray }) (hi : IntsAre vs ns) (hl : ns.length ≤ sizeLine) (hr : Room k callerA)
    (F : ∀ base : Heap, K.In base → base.Ns mainGlobals mg → FnOk P w K mg base CX k fa fd ps sp) (hbind : BindsTo s₁ fd ⟨us, []⟩ (ps.zip us)) (hv : Vals xs us)
    (hsp : ∀ H : Hp, Only H → SqL K H a (ns.map V.int) → sp xs H (fun v H' => ∃ b, v = .ref b ∧ H' b = some (.lst (ans.map V.int))) fun _ _ _ => False)
    (hCX : ∀ H e s', CX [] H s₁ (fun _ _ _ => False) e s' → False) :
    codeAny (model P w) callerA (.call (.ref fa) ⟨us, []⟩) (fun r s' => (∃ b its n, r = .ok (.ret (.ref b)) ∧ s'.heap.get? b = some { cls := .type "list", data := .seq its n } ∧ IntsAre its.toList ans) ∧ OldK s₁.heap s'.heap ∧ s'.os = s₁.os ∧ AllBare s'.gens) s₁ := by
  have rv := vals_ints hi
  have lenV := hi.length
  have core : ∀ H : Hp, Only H → SqL K H a (ns.map V.int) → HOk P w H s₁.heap → (∀ b, H b ≠ none → b = a) → (H a ≠ none → K.lookup a = none) →
      codeAny (model P w) callerA (.call (.ref fa) ⟨us, []⟩) (fun r s' => (∃ b its n, r = .ok (.ret (.ref b)) ∧ s'.heap.get? b = some { cls := .type "list", data := .seq its n } ∧ IntsAre its.toList ans) ∧ OldK s₁.heap s'.heap ∧ s'.os = s₁.os ∧ AllBare s'.gens) s₁ := by
    intro H hO hS hok hA hK
    have base_of : ∀ {b : Addr} {o : Obj}, s₁.heap.get? b = some o → H b = none → (hidT s₁.heap H).get? b = some o := fun e n => hidT_get e n
    have noA : ∀ {b : Addr} {o : Obj} {es : Array DictEntry} {ep : Nat}, s₁.heap.get? b = some o → o.data = .dict es ep → H b = none := fun {b o es ep} e d => by
      cases q : H b with
      | none => rfl
      | some u =>
        have e' : b = a := hA b (by rw [q]; simp)
        subst e'
        rw [ha] at e; cases e
        have d' : Data.seq vs.toArray _ = Data.dict es ep := d
        cases d'
    have nsK : ∀ {b : Addr} {m : Str → Option Value}, s₁.heap.Ns b m → (hidT s₁.heap H).Ns b m := fun {b m} ⟨o, es, ep, e, d, r⟩ => ⟨o, es, ep, base_of e (noA e d), d, r⟩
    have hKb : K.In (hidT s₁.heap H) := fun b o e => base_of (KX b o e) (by
      cases q : H b with
      | none => rfl
      | some u =>
        have e' : b = a := hA b (by rw [q]; simp)
        subst e'
        rw [hK (by rw [q]; simp)] at e; cases e)
    have hM : Mod K mg (hidT s₁.heap H) := ⟨hKb, nsK hns, ⟨mb, nsK hb, hbb⟩, let ⟨mc, h1, h2⟩ := hlim; ⟨mc, nsK h1, h2⟩⟩
    have e0 : Env0 P w K mg (hidT s₁.heap H) callerA [] s₁ H := ⟨rfl, hM, fun b o e => of_hidT e, Nat.le_of_eq (hidT_size _ _), trivial, fun b hb => absurd (show b ∈ ([] : List Addr) from hb) (by simp), hok, .of_eq hg⟩
    refine codeAny_mono ((F _ hKb (nsK hns)).run callerA [] s₁ H ⟨us, []⟩ us xs _ _ hr e0 hbind hv (hsp H hO hS)) fun r s' h => ?_
    cases r with
    | error e => exact (hCX H e s' h).elim
    | ok fl =>
      cases fl with
      | next => exact False.elim h
      | brk => exact False.elim h
      | cont => exact False.elim h
      | ret u =>
        obtain ⟨v, H', os, bare, un, hok', r', b, rfl, hb'⟩ := h
        obtain rfl : u = Value.ref b := r'
        obtain ⟨_, its, n, rits, hget⟩ := hok' b _ hb'
        refine ⟨⟨b, its.toArray, n, rfl, hget, by simpa using rits.ints⟩, OldK.of_keep fun b o e => ?_, os, bare⟩
        cases q : H b with
        | none => exact un.keep b o e q (by intro z; exact absurd (show b ∈ ([] : List Addr) from z) (by simp)) (by simp)
        | some u =>
          rcases hO b with z | ⟨ob, xs, z⟩
          · rw [q] at z; cases z
          · have z2 := un.frzs b ob _ z
            obtain ⟨e1, _⟩ := hok b _ z
            obtain ⟨e2, _⟩ := hok' b _ z2
            rw [e] at e1; cases e1
            exact e2
  cases hk : K.lookup a with
  | some o =>
    have e := KX a o hk
    rw [ha] at e
    cases e
    refine core (fun _ => none) (fun _ => .inl rfl) (.inr ⟨_, vs.toArray, _, hk, rfl, rfl, rfl, by rw [List.size_toArray, lenV]; exact hl, by simpa using rv⟩) (fun b u z => by have z' : (none : Option HO) = some u := z; cases z') (fun b z => absurd rfl z) fun z => absurd rfl z
  | none =>
    refine core (fun b => if b = a then some (.frz { cls := .type "list", data := .seq vs.toArray } (.lst (ns.map V.int))) else none) (fun b => ?_) (.inl (.inr ⟨{ cls := .type "list", data := .seq vs.toArray }, if_pos rfl⟩)) (fun b u z => ?_) (fun b z => ?_) fun _ => hk
    · by_cases hb : b = a
      · exact .inr ⟨_, _, if_pos hb⟩
      · exact .inl (if_neg hb)
    · by_cases hb : b = a
      · have z' := (if_pos hb).symm.trans z
        cases z'
        subst hb
        exact ⟨ha, by rw [List.length_map]; exact hl, vs, _, rv, ha⟩
      · have z' := (if_neg hb).symm.trans z
        cases z'
    · by_cases hb : b = a
      · exact hb
      · exact absurd (if_neg hb) z
theorem reads_ints {R : PySem.W.WRecords} {cl : Str → Option Addr} {h : Heap} : ∀ {us : List Value} {ns : List Int}, IntsAre us ns → PySem.W.ReadsAllW R cl h us (ns.map PySem.W.WData.int) []
  | _, _, .nil => .nil
  | _, _, .cons n t r => .cons (.int n t) (reads_ints r)
/-- the end: the answer's list -/
theorem good_list {r : PySem.W.OpenSpec} {cl : Str → Option Addr} {mean : ExcName → Option Value} {args : List PySem.W.WData} {s₁ s' : Shared} {b : Addr} {its : Array Value} {n : Nat} {ans : List Int}
    (hb : s'.heap.get? b = some { cls := .type "list", data := .seq its n }) (hi : IntsAre its.toList ans) (hp : r.post args (.list (ans.map PySem.W.WData.int)) = true) (ho : OldK s₁.heap s'.heap) (os : s'.os = s₁.os) (hg : AllBare s'.gens) :
    PySem.W.GoodWG r.claim cl mean args s₁ (.ok (.ret (.ref b))) s' :=
  ⟨.inl ⟨.ref b, _, _, rfl, fun _ => rfl, .list hb rfl rfl (reads_ints hi), hp, fun h => absurd h (by intro z; cases z)⟩, ho, os, hg⟩
end L2

set_option Elab.async false
set_option linter.all false
set_option maxRecDepth 100000
set_option maxHeartbeats 1000000
namespace Film
open PySem PySem.Spec PyProof.Rows L2
open Sg32 (Bytes)
open PySem.W (OpenSpec Codec WData WellAll GoodWG os_pre os_shut enter_call)
/-! ### the request -/
theorem bys_of {ns : List Int} (h : ∀ x, x ∈ ns → 0 ≤ x ∧ x ≤ 255) : bys (Sg32Neutral.bytesOf ns) = ns.map V.int := by
  unfold bys Sg32Neutral.bytesOf
  rw [List.map_map]
  apply List.map_congr_left
  intro z hz
  obtain ⟨h0, h1⟩ := h z hz
  show V.int (((UInt8.ofNat z.toNat).toNat : Nat) : Int) = V.int z
  have : (UInt8.ofNat z.toNat).toNat = z.toNat := by
    rw [UInt8.toNat_ofNat']
    omega
  rw [this, Int.toNat_of_nonneg h0]
theorem bytesOf_len (ns : List Int) : (Sg32Neutral.bytesOf ns).length = ns.length := by unfold Sg32Neutral.bytesOf; rw [List.length_map]
theorem withFile_of {ns : List Int} (hl : ns.length ≤ 100000) (g : Sg32.File → Sg32.Ans) : Sg32.withFile (Sg32Neutral.bytesOf ns) (ns.length : Int) g = match Sg32.file (Sg32Neutral.bytesOf ns) with
    | none => Sg32.says (-1)
    | some x => g x := by
  unfold Sg32.withFile
  have : Sg32.within (ns.length : Int) = true := by
    unfold Sg32.within Sg32.MOST
    rw [decide_eq_true (by omega), decide_eq_true (by omega)]
    rfl
  rw [if_neg (by rw [this]; decide)]
  cases Sg32.file (Sg32Neutral.bytesOf ns) <;> rfl
def outF (a : Sg32.Ans) : List Int := if a.code < 0 then [a.code] else a.code :: ((a.head.length : Nat) : Int) :: (a.head ++ (((a.out.length : Nat) : Int) :: a.out.map fun (b : UInt8) => ((b.toNat : Nat) : Int)))
theorem outF_tell (zs : List Int) (b : Bytes) (most : Int) : outF (if most < ((b.length : Nat) : Int) then Sg32.says (-3) else ⟨b.length, zs, b⟩) = tellAns zs b most := by
  unfold tellAns
  by_cases h : most < ((b.length : Nat) : Int)
  · rw [if_pos h, if_pos h]; rfl
  · rw [if_neg h, if_neg h]
    unfold outF
    rw [if_neg (by show ¬ ((b.length : Nat) : Int) < 0; omega)]
    show _ :: _ :: (zs ++ (_ :: bysI b)) = _
    simp only [List.cons_append, List.nil_append, List.append_assoc]
theorem frame_ans {ns : List Int} {k most : Int} (hl : ns.length ≤ 100000) : PySg32.frame k most ns = frameAns (Sg32Neutral.bytesOf ns) k most := by
  unfold PySg32.frame Sg32Neutral.f frameAns
  show outF (Sg32.does (.frame (Sg32Neutral.bytesOf ns) (ns.length : Int) k most)) = _
  have e : Sg32.does (.frame (Sg32Neutral.bytesOf ns) (ns.length : Int) k most) = Sg32.withFile (Sg32Neutral.bytesOf ns) (ns.length : Int) fun f => match Sg32.nth f.frames k with
    | none => Sg32.says (-2)
    | some x => if most < (x.bytes.length : Int) then Sg32.says (-3) else ⟨x.bytes.length, frameN x, x.bytes⟩ := rfl
  rw [e, withFile_of hl]
  cases Sg32.file (Sg32Neutral.bytesOf ns) with
  | none => rfl
  | some F =>
    simp only
    unfold Sg32.nth
    by_cases hk : k < 0
    · rw [if_pos hk, if_pos hk]; rfl
    · rw [if_neg hk, if_neg hk]
      cases F.frames[k.toNat]? with
      | none => rfl
      | some x => exact outF_tell (frameN x) x.bytes most
theorem said : PySem.Challenge.rw_strictfilm_s03_frame.wellSaid = true := by decide +kernel
theorem walk {q : Program} {loose : List Str} {XP : (Str → Option Value) → Heap → Prop} {YP : World → Heap → Prop} {d : DefRec} {K : Params → PySem.W.Frag}
    (hY : ∀ (w : World) (h : Heap), YP w h → (K w.params).In h)
    (F : ∀ (w : World) (mg : Str → Option Value) (fa : Addr) (h : Heap), (K w.params).In h → h.Ns mainGlobals mg → mg d.name = some (.ref fa) → ∃ t : Adr, Txt (K w.params) mg t ∧ fa = t.f_frame) :
    PySem.W.WalkOS q loose XP YP PySem.Challenge.rw_strictfilm_s03_frame d [] (fun f vs => PySem.call f vs) := by
  intro w s₀ s₁ mg mb G Y fa o pm cd doc dV kV ho hd hcd hD hmg hg args vals as hpre hlay hrd hwl hlo
  obtain ⟨a, hw, hq, rfl⟩ := os_pre said hpre
  obtain ⟨k1, k2, ns, u⟩ := a
  have hwl : WellAll w.params s₁.heap vals [.int k1, .int k2, .list (ns.map WData.int)] := hwl
  have hw' : (Codec.inInt _ _ k1 && (Codec.inInt _ _ k2 && (Codec.inList 0 100000 (Codec.inInt 0 255) ns && true))) = true := hw
  rw [Bool.and_eq_true, Bool.and_eq_true] at hw'
  have hw' := hw'.2.2
  unfold Codec.inList Codec.inLen Codec.inNat Codec.inInt at hw'
  simp only [Bool.and_true, Bool.and_eq_true, decide_eq_true_eq, List.all_eq_true] at hw'
  obtain ⟨⟨_, hlen⟩, hall⟩ := hw'
  have KX := hY w _ Y
  obtain ⟨t, T, rfl⟩ := F w mg fa _ KX G.T.g hmg
  cases hwl with
  | cons w1 w2 =>
    cases w1
    cases w2 with
    | cons w2 w3 =>
      cases w2
      cases w3 with
      | cons w3 w4 =>
        cases w4
        cases w3 with
        | @list la _ _ hobj hitems =>
          have hints := Att.ints_of_wellAll ns _ hitems
          refine enter_call (codeAny_mono (os_call (K := K w.params) (CX := CXB _ w t.c_NotRight) (ans := frameAns (Sg32Neutral.bytesOf ns) k1 k2) KX G.T.g G.T.b G.T.builtins G.T.nolimit hg hobj hints (Nat.le_trans hlen (by decide)) (k := 17) ⟨rfl, by decide, by decide⟩
            (fun base _ _ => ok_frame (Sg32Neutral.bytesOf ns) T) (T.b_frame s₁ [_, _, _] KX rfl) (xs := [V.int k1, V.int k2, V.ref la]) (.cons ⟨_, rfl⟩ (.cons ⟨_, rfl⟩ (.cons rfl .nil))) ?_ ?_) fun r s' hq => ?_)
          · intro H _ hS
            exact ⟨_, k1, k2, rfl, ⟨by rw [bys_of hall]; exact hS, by rw [bytesOf_len]; exact hlen⟩, fun H' b hb => ⟨b, rfl, hb⟩⟩
          · rintro H e s' ⟨_, _, _, _, _, _, _, _, _, h⟩
            exact h
          · obtain ⟨⟨b, its, n, rfl, hb, hi⟩, hold, hos, hbare⟩ := hq
            refine good_list hb hi (os_shut said hw ?_) hold hos hbare
            show WData.list ((frameAns (Sg32Neutral.bytesOf ns) k1 k2).map WData.int) = WData.list ((PySg32.frame k1 k2 ns).map WData.int)
            rw [frame_ans hlen]
end Film

set_option Elab.async false
open PySem PySem.W
def PySem.W.Fast.tw8176135247499445801 : Unit := ()
def PySem.W.Fast.tw8779313537890757531 : Unit := ()
def PySem.W.Fast.tw17924554341009469374 : Unit := ()
def PySem.W.Fast.tw8169077644006149040 : Unit := ()
def PySem.W.Fast.tw7981677068740008026 : Unit := ()
def PySem.W.Fast.tw5976857688934477026 : Unit := ()
def PySem.W.Fast.tw15365303450106744815 : Unit := ()
def PySem.W.Fast.tw15780645189133597648 : Unit := ()
def PySem.W.Fast.tw17872632002642502375 : Unit := ()
def PySem.W.Fast.tw4486815260183992919 : Unit := ()
def PySem.W.Fast.tw8826832706918975201 : Unit := ()
def PySem.W.Fast.tw10003888974690851046 : Unit := ()
def PySem.W.Fast.tw14794416437635138798 : Unit := ()
def PySem.W.Fast.tw17846033477476381983 : Unit := ()
def PySem.W.Fast.tw13758716762364243796 : Unit := ()
def PySem.W.Fast.tw1430136034119151867 : Unit := ()
def PySem.W.Fast.tw16000719806519471480 : Unit := ()
def PySem.W.Fast.tw10597993616607654035 : Unit := ()
def PySem.W.Fast.tw15184114953299649505 : Unit := ()
def PySem.W.Fast.tw15591467931731803151 : Unit := ()
def PySem.W.Fast.tw7452462218514932624 : Unit := ()
def PySem.W.Fast.tw17087886922438553850 : Unit := ()
def PySem.W.Fast.tw9611016099225559561 : Unit := ()
def PySem.W.Fast.tw10251054078996181307 : Unit := ()
def PySem.W.Fast.tw9628143231481257219 : Unit := ()
def PySem.W.Fast.tw1925328978296950970 : Unit := ()
def PySem.W.Fast.tw15116555467542936889 : Unit := ()
def PySem.W.Fast.tw17167740432572125441 : Unit := ()
def PySem.W.Fast.tw8387689941452604337 : Unit := ()
def PySem.W.Fast.tw15269066509391375077 : Unit := ()
def PySem.W.Fast.tw3093117427492692913 : Unit := ()
def PySem.W.Fast.tw9761454780486180446 : Unit := ()
def PySem.W.Fast.tw16301618221924683824 : Unit := ()
def PySem.W.Fast.tw13527760687662450482 : Unit := ()
def PySem.W.Fast.tw9743923987768908682 : Unit := ()
def PySem.W.Fast.tw8238401975593955527 : Unit := ()
def PySem.W.Fast.tw7275199395845133877 : Unit := ()
def PySem.W.Fast.tw2243219832434420823 : Unit := ()
def PySem.W.Fast.tw4359932683683901540 : Unit := ()
def PySem.W.Fast.tw11936365215922541844 : Unit := ()
def PySem.W.Fast.tw17739813093974429586 : Unit := ()
def PySem.W.Fast.tw16749237289921896020 : Unit := ()
def PySem.W.Fast.tw2731126675189310170 : Unit := ()
def PySem.W.Fast.tw7073911566402954585 : Unit := ()
def PySem.W.Fast.tw3446836045107963051 : Unit := ()
def PySem.W.Fast.tw10794401216411289227 : Unit := ()
def PySem.W.Fast.tw5816327691195305084 : Unit := ()
def PySem.W.Fast.tw322402020568400057 : Unit := ()
def PySem.W.Fast.tw12075792531894009805 : Unit := ()
def PySem.W.Fast.tw10834495018975625060 : Unit := ()
def PySem.W.Fast.tw8505980522882319010 : Unit := ()
def PySem.W.Fast.tw3541365697113158594 : Unit := ()
def PySem.W.Fast.tw6296652482753269600 : Unit := ()
def PySem.W.Fast.tw16128595480253251378 : Unit := ()
def PySem.W.Fast.tw9966360450470986559 : Unit := ()
def PySem.W.Fast.tw1956261297479393872 : Unit := ()
def PySem.W.Fast.tw2045305776551069637 : Unit := ()
def PySem.W.Fast.tw16584589678254796761 : Unit := ()
def PySem.W.Fast.tw12367948227788043869 : Unit := ()
def PySem.W.Fast.tw9297291521637752471 : Unit := ()
def PySem.W.Fast.tw12875629553245333124 : Unit := ()
def PySem.W.Fast.tw5914825321334019987 : Unit := ()
def PySem.W.Fast.tw17064450983676127083 : Unit := ()
def PySem.W.Fast.tw1351981596470006462 : Unit := ()
def PySem.W.Fast.tw3372416394803905072 : Unit := ()
def PySem.W.Fast.tw5819231732919064424 : Unit := ()
def PySem.W.Fast.tw14312663235288349200 : Unit := ()
def PySem.W.Fast.tw8940368278897531592 : Unit := ()
def PySem.W.Fast.tw14772271154772536424 : Unit := ()
def PySem.W.Fast.tw3163102330370229980 : Unit := ()
def PySem.W.Fast.tw4179876465087557835 : Unit := ()
def PySem.W.Fast.tw4250623644275502701 : Unit := ()
def PySem.W.Fast.tw14612561584544125601 : Unit := ()
def PySem.W.Fast.tw4623474166126765652 : Unit := ()
def PySem.W.Fast.tw8680629495495358024 : Unit := ()
def PySem.W.Fast.tw15433219838094855484 : Unit := ()
def PySem.W.Fast.tw11093073967019934108 : Unit := ()
def PySem.W.Fast.tw15688266000563202557 : Unit := ()
def PySem.W.Fast.tw17107127913220739265 : Unit := ()
def PySem.W.Fast.tw15025801708094741467 : Unit := ()
def PySem.W.Fast.tw10881560571689531428 : Unit := ()
def PySem.W.Fast.tw7269584033160813078 : Unit := ()
def PySem.W.Fast.tw16407517963932020178 : Unit := ()
def PySem.W.Fast.tw12539310058640139498 : Unit := ()
def PySem.W.Fast.tw14694278689513360727 : Unit := ()
def PySem.W.Fast.tw16296912692378931047 : Unit := ()
def PySem.W.Fast.tw10604280157875288864 : Unit := ()
def PySem.W.Fast.tw1849785207658577526 : Unit := ()
def PySem.W.Fast.tw9156534710975885844 : Unit := ()
def PySem.W.Fast.tw5862069257135701198 : Unit := ()
def PySem.W.Fast.tw17733100585151499102 : Unit := ()
def PySem.W.Fast.tw12729677935682169199 : Unit := ()
def PySem.W.Fast.tw2431398255462648967 : Unit := ()
def PySem.W.Fast.tw14521061312440117415 : Unit := ()
def PySem.W.Fast.tw8306068126770851661 : Unit := ()
def PySem.W.Fast.tw16256098142786210407 : Unit := ()
def PySem.W.Fast.tw1284444765606984265 : Unit := ()
def PySem.W.Fast.tw15119572434945292025 : Unit := ()
def PySem.W.Fast.tw15487545366632693120 : Unit := ()
def PySem.W.Fast.tw15206004634001577298 : Unit := ()
def PySem.W.Fast.tw2515993204444323237 : Unit := ()
def PySem.W.Fast.tw18061798033759322763 : Unit := ()
def PySem.W.Fast.tw11353559296665663654 : Unit := ()
def PySem.W.Fast.tw6097408574467035660 : Unit := ()
def PySem.W.Fast.tw876925691942506522 : Unit := ()
def PySem.W.Fast.tw10473468209249091784 : Unit := ()
def PySem.W.Fast.tw17283761392553972438 : Unit := ()
def PySem.W.Fast.tw10221222919018431725 : Unit := ()
def PySem.W.Fast.tw17821476971844115004 : Unit := ()
def PySem.W.Fast.tw5620246351872438608 : Unit := ()
def PySem.W.Fast.tw2021474570279364292 : Unit := ()
def PySem.W.Fast.tw12620964206495419029 : Unit := ()
def PySem.W.Fast.tw17979601197867288749 : Unit := ()
def PySem.W.Fast.tw15076899840479319334 : Unit := ()
def PySem.W.Fast.tw10046653966716720651 : Unit := ()
def PySem.W.Fast.tw5120692245872199461 : Unit := ()
def PySem.W.Fast.tw9367259164122581820 : Unit := ()
def PySem.W.Fast.tw7146988617993196450 : Unit := ()
def PySem.W.Fast.tw18088550985861133500 : Unit := ()
def PySem.W.Fast.tw7824301753381662656 : Unit := ()
def PySem.W.Fast.tw17028119648007687889 : Unit := ()
def PySem.W.Fast.tw9178877529291140239 : Unit := ()
def PySem.W.Fast.tw1437410418274050857 : Unit := ()
def PySem.W.Fast.tw1043305740301476186 : Unit := ()
def PySem.W.Fast.tw8780839454027305666 : Unit := ()
def PySem.W.Fast.tw9993821639291449860 : Unit := ()
def PySem.W.Fast.tw12052799026321154275 : Unit := ()
def PySem.W.Fast.tw300599268309906197 : Unit := ()
def PySem.W.Fast.tw17920024569220787956 : Unit := ()
def PySem.W.Fast.tw12663248742948055797 : Unit := ()
def PySem.W.Fast.tw14179250428758199291 : Unit := ()
def PySem.W.Fast.tw17925875721668845544 : Unit := ()
def PySem.W.Fast.tw1542304426936620966 : Unit := ()
def PySem.W.Fast.tw12395680688828039593 : Unit := ()
def PySem.W.Fast.tw9434437126179746407 : Unit := ()
def PySem.W.Fast.tw4424133451810402860 : Unit := ()
def PySem.W.Fast.tw15832029899275011623 : Unit := ()
def PySem.W.Fast.tw7291535259025603081 : Unit := ()
def PySem.W.Fast.tw4771891855447393856 : Unit := ()
def PySem.W.Fast.tw9625604752043143100 : Unit := ()
def PySem.W.Fast.tw6436608624484275378 : Unit := ()
def PySem.W.Fast.tw10489515047921456459 : Unit := ()
def PySem.W.Fast.tw3831583755768179978 : Unit := ()
def PySem.W.Fast.tw1223186513620856563 : Unit := ()
set_option maxRecDepth 100000 in
set_option maxHeartbeats 0 in
theorem PySem.Challenge.cw_strictfilm_s03_frame_holds : PySem.Challenge.rw_strictfilm_s03_frame.Holds := by
  w_on; k_headS; (case hw => exact ⟨[.int 0, .int 0, .list []], by decide +kernel, by decide +kernel⟩)
  k_fillS
  refine Film.walk (fun w h Y => PySem.W.kIn_of Y) ?F
  case F =>
    intro w mg fa h KX G hmg
    have T : ∃ t, Film.Txt (L2.KOf KX) mg t := by
      dsimp only [L2.KOf]
      refine' Film.txt_mk KX G ?x0 ?x1 ?ac_LengthNumber ?pg_LengthNumber ?hd_LengthNumber ?po_LengthNumber ?sa_LengthNumber ?mk_LengthNumber ?kc_LengthNumber ?na_LengthNumber_size ?na_LengthNumber_value ?ac_Element ?pg_Element ?hd_Element ?po_Element ?sa_Element ?mk_Element ?kc_Element ?na_Element_name ?na_Element_start ?na_Element_end ?ac_Cursor ?pg_Cursor ?hd_Cursor ?po_Cursor ?sa_Cursor ?mk_Cursor ?kc_Cursor ?na_Cursor_file ?na_Cursor_place ?na_Cursor_limit ?ac_Contents ?pg_Contents ?hd_Contents ?po_Contents ?sa_Contents ?mk_Contents ?kc_Contents ?na_Contents_file ?na_Contents_children ?ac_Block ?pg_Block ?hd_Block ?po_Block ?sa_Block ?mk_Block ?kc_Block ?na_Block_track_number ?na_Block_time ?na_Block_is_key ?na_Block_start ?na_Block_lengths ?ac_Picture ?pg_Picture ?hd_Picture ?po_Picture ?sa_Picture ?mk_Picture ?kc_Picture ?na_Picture_width ?na_Picture_height ?ac_Track ?pg_Track ?hd_Track ?po_Track ?sa_Track ?mk_Track ?kc_Track ?na_Track_number ?na_Track_lasting_number ?na_Track_kind ?na_Track_picture ?na_Track_channels ?na_Track_codec ?ac_Film ?pg_Film ?hd_Film ?po_Film ?sa_Film ?mk_Film ?kc_Film ?na_Film_tracks ?na_Film_scale ?na_Film_clusters ?a_join_bytes ?l_join_bytes ?c_join_bytes ?k_join_bytes ?a_LengthNumber_init ?i_LengthNumber_init ?l_LengthNumber_init ?c_LengthNumber_init ?k_LengthNumber_init ?a_LengthNumber_is_all_ones ?i_LengthNumber_is_all_ones ?l_LengthNumber_is_all_ones ?c_LengthNumber_is_all_ones ?k_LengthNumber_is_all_ones ?a_Element_init ?i_Element_init ?l_Element_init ?c_Element_init ?k_Element_init ?a_Cursor_init ?i_Cursor_init ?l_Cursor_init ?c_Cursor_init ?k_Cursor_init ?a_Cursor_bytes_left ?i_Cursor_bytes_left ?l_Cursor_bytes_left ?c_Cursor_bytes_left ?k_Cursor_bytes_left ?a_Cursor_skip ?i_Cursor_skip ?l_Cursor_skip ?c_Cursor_skip ?k_Cursor_skip ?a_Cursor_take_byte ?i_Cursor_take_byte ?l_Cursor_take_byte ?c_Cursor_take_byte ?k_Cursor_take_byte ?a_Cursor_take_length_number ?i_Cursor_take_length_number ?l_Cursor_take_length_number ?c_Cursor_take_length_number ?k_Cursor_take_length_number ?a_Cursor_take_known_number ?i_Cursor_take_known_number ?l_Cursor_take_known_number ?c_Cursor_take_known_number ?k_Cursor_take_known_number ?a_Cursor_take_name ?i_Cursor_take_name ?l_Cursor_take_name ?c_Cursor_take_name ?k_Cursor_take_name ?a_Cursor_take_element ?i_Cursor_take_element ?l_Cursor_take_element ?c_Cursor_take_element ?k_Cursor_take_element ?a_Cursor_take_element_or_rest ?i_Cursor_take_element_or_rest ?l_Cursor_take_element_or_rest ?c_Cursor_take_element_or_rest ?k_Cursor_take_element_or_rest ?a_Cursor_take_body ?i_Cursor_take_body ?l_Cursor_take_body ?c_Cursor_take_body ?k_Cursor_take_body ?a_Contents_init ?i_Contents_init ?l_Contents_init ?c_Contents_init ?k_Contents_init ?a_Contents_all_named ?i_Contents_all_named ?l_Contents_all_named ?c_Contents_all_named ?k_Contents_all_named ?a_Contents_at_most_once ?i_Contents_at_most_once ?l_Contents_at_most_once ?c_Contents_at_most_once ?k_Contents_at_most_once ?a_Contents_once ?i_Contents_once ?l_Contents_once ?c_Contents_once ?k_Contents_once ?a_Contents_number_once ?i_Contents_number_once ?l_Contents_number_once ?c_Contents_number_once ?k_Contents_number_once ?a_Contents_number_or ?i_Contents_number_or ?l_Contents_number_or ?c_Contents_number_or ?k_Contents_number_or ?a_take_children ?l_take_children ?c_take_children ?k_take_children ?a_bounded_number ?l_bounded_number ?c_bounded_number ?k_bounded_number ?a_check_before ?l_check_before ?c_check_before ?k_check_before ?a_take_frame_lengths ?l_take_frame_lengths ?c_take_frame_lengths ?k_take_frame_lengths ?a_equal_lengths ?l_equal_lengths ?c_equal_lengths ?k_equal_lengths ?a_take_sums ?l_take_sums ?c_take_sums ?k_take_sums ?a_take_sum ?l_take_sum ?c_take_sum ?k_take_sum ?a_take_differences ?l_take_differences ?c_take_differences ?k_take_differences ?a_with_last_length ?l_with_last_length ?c_with_last_length ?k_with_last_length ?a_Block_init ?i_Block_init ?l_Block_init ?c_Block_init ?k_Block_init ?a_read_cluster ?l_read_cluster ?c_read_cluster ?k_read_cluster ?a_read_holder ?l_read_holder ?c_read_holder ?k_read_holder ?a_read_block ?l_read_block ?c_read_block ?k_read_block ?a_take_offset ?l_take_offset ?c_take_offset ?k_take_offset ?a_check_header ?l_check_header ?c_check_header ?k_check_header ?a_Picture_init ?i_Picture_init ?l_Picture_init ?c_Picture_init ?k_Picture_init ?a_Track_init ?i_Track_init ?l_Track_init ?c_Track_init ?k_Track_init ?a_read_tracks ?l_read_tracks ?c_read_tracks ?k_read_tracks ?a_read_track ?l_read_track ?c_read_track ?k_read_track ?a_check_codec ?l_check_codec ?c_check_codec ?k_check_codec ?a_read_picture ?l_read_picture ?c_read_picture ?k_read_picture ?a_read_channels ?l_read_channels ?c_read_channels ?k_read_channels ?a_Film_init ?i_Film_init ?l_Film_init ?c_Film_init ?k_Film_init ?a_Film_blocks ?i_Film_blocks ?l_Film_blocks ?c_Film_blocks ?k_Film_blocks ?a_read_film ?l_read_film ?c_read_film ?k_read_film ?a_read_body ?l_read_body ?c_read_body ?k_read_body ?a_read_scale ?l_read_scale ?c_read_scale ?k_read_scale ?a_frame ?l_frame ?c_frame ?k_frame ?a_tell_frame ?l_tell_frame ?c_tell_frame ?k_tell_frame ?a_film_or_none ?l_film_or_none ?c_film_or_none ?k_film_or_none ?a_tell ?l_tell ?c_tell ?k_tell ?n_LONGEST_NAME ?n_LONGEST_LENGTH ?n_ALL_ONES ?t_ALL_ONES ?n_LONGEST_NUMBER ?n_GREATEST_NUMBER ?n_LACING_BITS ?n_NO_LACING ?n_BY_SUMS ?n_BY_EQUAL_PARTS ?n_TIME ?n_SIMPLE_BLOCK ?n_BLOCK_GROUP ?n_GROUPED_BLOCK ?n_REFERENCE ?n_LATEST_TIME ?n_LONGEST_TRACK_NUMBER ?n_KEY_BIT ?n_FORM ?n_READ_VERSION ?n_NAME_BYTES ?n_LENGTH_BYTES ?n_FORM_READ_VERSION ?n_MATROSKA ?t_MATROSKA ?n_WEBM ?t_WEBM ?n_TRACK ?n_NUMBER ?n_LASTING_NUMBER ?n_KIND ?n_CODEC ?n_PICTURE ?n_WIDTH ?n_HEIGHT ?n_SOUND ?n_CHANNELS ?n_LONGEST_CODEC ?n_HEADER ?n_BODY ?n_ABOUT ?n_SCALE ?n_TRACKS ?n_CLUSTER ?n_USUAL_SCALE ?n_FILE_NOT_RIGHT ?n_NOT_THERE ?n_TOO_LONG ?b_len ?b_min ?b_range ?b_sum ?b_tuple
      (case x0 => k_is)
      (case x1 => k_exc)
      (case ac_LengthNumber => k_is)
      (case pg_LengthNumber => k_is)
      (case hd_LengthNumber => k_is)
      (case po_LengthNumber => k_is)
      (case sa_LengthNumber => k_is)
      (case mk_LengthNumber => k_is)
      (case kc_LengthNumber => k_is)
      (case na_LengthNumber_size => k_is)
      (case na_LengthNumber_value => k_is)
      (case ac_Element => k_is)
      (case pg_Element => k_is)
      (case hd_Element => k_is)
      (case po_Element => k_is)
      (case sa_Element => k_is)
      (case mk_Element => k_is)
      (case kc_Element => k_is)
      (case na_Element_name => k_is)
      (case na_Element_start => k_is)
      (case na_Element_end => k_is)
      (case ac_Cursor => k_is)
      (case pg_Cursor => k_is)
      (case hd_Cursor => k_is)
      (case po_Cursor => k_is)
      (case sa_Cursor => k_is)
      (case mk_Cursor => k_is)
      (case kc_Cursor => k_is)
      (case na_Cursor_file => k_is)
      (case na_Cursor_place => k_is)
      (case na_Cursor_limit => k_is)
      (case ac_Contents => k_is)
      (case pg_Contents => k_is)
      (case hd_Contents => k_is)
      (case po_Contents => k_is)
      (case sa_Contents => k_is)
      (case mk_Contents => k_is)
      (case kc_Contents => k_is)
      (case na_Contents_file => k_is)
      (case na_Contents_children => k_is)
      (case ac_Block => k_is)
      (case pg_Block => k_is)
      (case hd_Block => k_is)
      (case po_Block => k_is)
      (case sa_Block => k_is)
      (case mk_Block => k_is)
      (case kc_Block => k_is)
      (case na_Block_track_number => k_is)
      (case na_Block_time => k_is)
      (case na_Block_is_key => k_is)
      (case na_Block_start => k_is)
      (case na_Block_lengths => k_is)
      (case ac_Picture => k_is)
      (case pg_Picture => k_is)
      (case hd_Picture => k_is)
      (case po_Picture => k_is)
      (case sa_Picture => k_is)
      (case mk_Picture => k_is)
      (case kc_Picture => k_is)
      (case na_Picture_width => k_is)
      (case na_Picture_height => k_is)
      (case ac_Track => k_is)
      (case pg_Track => k_is)
      (case hd_Track => k_is)
      (case po_Track => k_is)
      (case sa_Track => k_is)
      (case mk_Track => k_is)
      (case kc_Track => k_is)
      (case na_Track_number => k_is)
      (case na_Track_lasting_number => k_is)
      (case na_Track_kind => k_is)
      (case na_Track_picture => k_is)
      (case na_Track_channels => k_is)
      (case na_Track_codec => k_is)
      (case ac_Film => k_is)
      (case pg_Film => k_is)
      (case hd_Film => k_is)
      (case po_Film => k_is)
      (case sa_Film => k_is)
      (case mk_Film => k_is)
      (case kc_Film => k_is)
      (case na_Film_tracks => k_is)
      (case na_Film_scale => k_is)
      (case na_Film_clusters => k_is)
      (case a_join_bytes => k_is)
      (case l_join_bytes => k_is)
      (case c_join_bytes => k_is)
      (case k_join_bytes => k_is)
      (case a_LengthNumber_init => k_is)
      (case i_LengthNumber_init => k_is)
      (case l_LengthNumber_init => k_is)
      (case c_LengthNumber_init => k_is)
      (case k_LengthNumber_init => k_is)
      (case a_LengthNumber_is_all_ones => k_is)
      (case i_LengthNumber_is_all_ones => k_is)
      (case l_LengthNumber_is_all_ones => k_is)
      (case c_LengthNumber_is_all_ones => k_is)
      (case k_LengthNumber_is_all_ones => k_is)
      (case a_Element_init => k_is)
      (case i_Element_init => k_is)
      (case l_Element_init => k_is)
      (case c_Element_init => k_is)
      (case k_Element_init => k_is)
      (case a_Cursor_init => k_is)
      (case i_Cursor_init => k_is)
      (case l_Cursor_init => k_is)
      (case c_Cursor_init => k_is)
      (case k_Cursor_init => k_is)
      (case a_Cursor_bytes_left => k_is)
      (case i_Cursor_bytes_left => k_is)
      (case l_Cursor_bytes_left => k_is)
      (case c_Cursor_bytes_left => k_is)
      (case k_Cursor_bytes_left => k_is)
      (case a_Cursor_skip => k_is)
      (case i_Cursor_skip => k_is)
      (case l_Cursor_skip => k_is)
      (case c_Cursor_skip => k_is)
      (case k_Cursor_skip => k_is)
      (case a_Cursor_take_byte => k_is)
      (case i_Cursor_take_byte => k_is)
      (case l_Cursor_take_byte => k_is)
      (case c_Cursor_take_byte => k_is)
      (case k_Cursor_take_byte => k_is)
      (case a_Cursor_take_length_number => k_is)
      (case i_Cursor_take_length_number => k_is)
      (case l_Cursor_take_length_number => k_is)
      (case c_Cursor_take_length_number => k_is)
      (case k_Cursor_take_length_number => k_is)
      (case a_Cursor_take_known_number => k_is)
      (case i_Cursor_take_known_number => k_is)
      (case l_Cursor_take_known_number => k_is)
      (case c_Cursor_take_known_number => k_is)
      (case k_Cursor_take_known_number => k_is)
      (case a_Cursor_take_name => k_is)
      (case i_Cursor_take_name => k_is)
      (case l_Cursor_take_name => k_is)
      (case c_Cursor_take_name => k_is)
      (case k_Cursor_take_name => k_is)
      (case a_Cursor_take_element => k_is)
      (case i_Cursor_take_element => k_is)
      (case l_Cursor_take_element => k_is)
      (case c_Cursor_take_element => k_is)
      (case k_Cursor_take_element => k_is)
      (case a_Cursor_take_element_or_rest => k_is)
      (case i_Cursor_take_element_or_rest => k_is)
      (case l_Cursor_take_element_or_rest => k_is)
      (case c_Cursor_take_element_or_rest => k_is)
      (case k_Cursor_take_element_or_rest => k_is)
      (case a_Cursor_take_body => k_is)
      (case i_Cursor_take_body => k_is)
      (case l_Cursor_take_body => k_is)
      (case c_Cursor_take_body => k_is)
      (case k_Cursor_take_body => k_is)
      (case a_Contents_init => k_is)
      (case i_Contents_init => k_is)
      (case l_Contents_init => k_is)
      (case c_Contents_init => k_is)
      (case k_Contents_init => k_is)
      (case a_Contents_all_named => k_is)
      (case i_Contents_all_named => k_is)
      (case l_Contents_all_named => k_is)
      (case c_Contents_all_named => k_is)
      (case k_Contents_all_named => k_is)
      (case a_Contents_at_most_once => k_is)
      (case i_Contents_at_most_once => k_is)
      (case l_Contents_at_most_once => k_is)
      (case c_Contents_at_most_once => k_is)
      (case k_Contents_at_most_once => k_is)
      (case a_Contents_once => k_is)
      (case i_Contents_once => k_is)
      (case l_Contents_once => k_is)
      (case c_Contents_once => k_is)
      (case k_Contents_once => k_is)
      (case a_Contents_number_once => k_is)
      (case i_Contents_number_once => k_is)
      (case l_Contents_number_once => k_is)
      (case c_Contents_number_once => k_is)
      (case k_Contents_number_once => k_is)
      (case a_Contents_number_or => k_is)
      (case i_Contents_number_or => k_is)
      (case l_Contents_number_or => k_is)
      (case c_Contents_number_or => k_is)
      (case k_Contents_number_or => k_is)
      (case a_take_children => k_is)
      (case l_take_children => k_is)
      (case c_take_children => k_is)
      (case k_take_children => k_is)
      (case a_bounded_number => k_is)
      (case l_bounded_number => k_is)
      (case c_bounded_number => k_is)
      (case k_bounded_number => k_is)
      (case a_check_before => k_is)
      (case l_check_before => k_is)
      (case c_check_before => k_is)
      (case k_check_before => k_is)
      (case a_take_frame_lengths => k_is)
      (case l_take_frame_lengths => k_is)
      (case c_take_frame_lengths => k_is)
      (case k_take_frame_lengths => k_is)
      (case a_equal_lengths => k_is)
      (case l_equal_lengths => k_is)
      (case c_equal_lengths => k_is)
      (case k_equal_lengths => k_is)
      (case a_take_sums => k_is)
      (case l_take_sums => k_is)
      (case c_take_sums => k_is)
      (case k_take_sums => k_is)
      (case a_take_sum => k_is)
      (case l_take_sum => k_is)
      (case c_take_sum => k_is)
      (case k_take_sum => k_is)
      (case a_take_differences => k_is)
      (case l_take_differences => k_is)
      (case c_take_differences => k_is)
      (case k_take_differences => k_is)
      (case a_with_last_length => k_is)
      (case l_with_last_length => k_is)
      (case c_with_last_length => k_is)
      (case k_with_last_length => k_is)
      (case a_Block_init => k_is)
      (case i_Block_init => k_is)
      (case l_Block_init => k_is)
      (case c_Block_init => k_is)
      (case k_Block_init => k_is)
      (case a_read_cluster => k_is)
      (case l_read_cluster => k_is)
      (case c_read_cluster => k_is)
      (case k_read_cluster => k_is)
      (case a_read_holder => k_is)
      (case l_read_holder => k_is)
      (case c_read_holder => k_is)
      (case k_read_holder => k_is)
      (case a_read_block => k_is)
      (case l_read_block => k_is)
      (case c_read_block => k_is)
      (case k_read_block => k_is)
      (case a_take_offset => k_is)
      (case l_take_offset => k_is)
      (case c_take_offset => k_is)
      (case k_take_offset => k_is)
      (case a_check_header => k_is)
      (case l_check_header => k_is)
      (case c_check_header => k_is)
      (case k_check_header => k_is)
      (case a_Picture_init => k_is)
      (case i_Picture_init => k_is)
      (case l_Picture_init => k_is)
      (case c_Picture_init => k_is)
      (case k_Picture_init => k_is)
      (case a_Track_init => k_is)
      (case i_Track_init => k_is)
      (case l_Track_init => k_is)
      (case c_Track_init => k_is)
      (case k_Track_init => k_is)
      (case a_read_tracks => k_is)
      (case l_read_tracks => k_is)
      (case c_read_tracks => k_is)
      (case k_read_tracks => k_is)
      (case a_read_track => k_is)
      (case l_read_track => k_is)
      (case c_read_track => k_is)
      (case k_read_track => k_is)
      (case a_check_codec => k_is)
      (case l_check_codec => k_is)
      (case c_check_codec => k_is)
      (case k_check_codec => k_is)
      (case a_read_picture => k_is)
      (case l_read_picture => k_is)
      (case c_read_picture => k_is)
      (case k_read_picture => k_is)
      (case a_read_channels => k_is)
      (case l_read_channels => k_is)
      (case c_read_channels => k_is)
      (case k_read_channels => k_is)
      (case a_Film_init => k_is)
      (case i_Film_init => k_is)
      (case l_Film_init => k_is)
      (case c_Film_init => k_is)
      (case k_Film_init => k_is)
      (case a_Film_blocks => k_is)
      (case i_Film_blocks => k_is)
      (case l_Film_blocks => k_is)
      (case c_Film_blocks => k_is)
      (case k_Film_blocks => k_is)
      (case a_read_film => k_is)
      (case l_read_film => k_is)
      (case c_read_film => k_is)
      (case k_read_film => k_is)
      (case a_read_body => k_is)
      (case l_read_body => k_is)
      (case c_read_body => k_is)
      (case k_read_body => k_is)
      (case a_read_scale => k_is)
      (case l_read_scale => k_is)
      (case c_read_scale => k_is)
      (case k_read_scale => k_is)
      (case a_frame => k_is)
      (case l_frame => k_is)
      (case c_frame => k_is)
      (case k_frame => k_is)
      (case a_tell_frame => k_is)
      (case l_tell_frame => k_is)
      (case c_tell_frame => k_is)
      (case k_tell_frame => k_is)
      (case a_film_or_none => k_is)
      (case l_film_or_none => k_is)
      (case c_film_or_none => k_is)
      (case k_film_or_none => k_is)
      (case a_tell => k_is)
      (case l_tell => k_is)
      (case c_tell => k_is)
      (case k_tell => k_is)
      (case n_LONGEST_NAME => k_is)
      (case n_LONGEST_LENGTH => k_is)
      (case n_ALL_ONES => k_is)
      (case t_ALL_ONES => k_is)
      (case n_LONGEST_NUMBER => k_is)
      (case n_GREATEST_NUMBER => k_is)
      (case n_LACING_BITS => k_is)
      (case n_NO_LACING => k_is)
      (case n_BY_SUMS => k_is)
      (case n_BY_EQUAL_PARTS => k_is)
      (case n_TIME => k_is)
      (case n_SIMPLE_BLOCK => k_is)
      (case n_BLOCK_GROUP => k_is)
      (case n_GROUPED_BLOCK => k_is)
      (case n_REFERENCE => k_is)
      (case n_LATEST_TIME => k_is)
      (case n_LONGEST_TRACK_NUMBER => k_is)
      (case n_KEY_BIT => k_is)
      (case n_FORM => k_is)
      (case n_READ_VERSION => k_is)
      (case n_NAME_BYTES => k_is)
      (case n_LENGTH_BYTES => k_is)
      (case n_FORM_READ_VERSION => k_is)
      (case n_MATROSKA => k_is)
      (case t_MATROSKA => k_is)
      (case n_WEBM => k_is)
      (case t_WEBM => k_is)
      (case n_TRACK => k_is)
      (case n_NUMBER => k_is)
      (case n_LASTING_NUMBER => k_is)
      (case n_KIND => k_is)
      (case n_CODEC => k_is)
      (case n_PICTURE => k_is)
      (case n_WIDTH => k_is)
      (case n_HEIGHT => k_is)
      (case n_SOUND => k_is)
      (case n_CHANNELS => k_is)
      (case n_LONGEST_CODEC => k_is)
      (case n_HEADER => k_is)
      (case n_BODY => k_is)
      (case n_ABOUT => k_is)
      (case n_SCALE => k_is)
      (case n_TRACKS => k_is)
      (case n_CLUSTER => k_is)
      (case n_USUAL_SCALE => k_is)
      (case n_FILE_NOT_RIGHT => k_is)
      (case n_NOT_THERE => k_is)
      (case n_TOO_LONG => k_is)
      (case b_len => k_is)
      (case b_min => k_is)
      (case b_range => k_is)
      (case b_sum => k_is)
      (case b_tuple => k_is)
    obtain ⟨t, T⟩ := T
    have e := hmg.symm.trans T.mg_frame
    cases e
    exact ⟨t, T, rfl⟩
#print axioms PySem.Challenge.cw_strictfilm_s03_frame_holds
