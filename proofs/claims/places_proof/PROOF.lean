import PyProof.Rows.All
import Wide.All
import OpenK.AllK
import Wide.FinOn
import PyProof.EqAt
import PyProof.EqKinds
import PyProof.TupleCall
import KE.BitLaws
import KE.KSortTupG
import KE.KSortTupUse
import KE.KLam
import PyProof.Rows.SetFrom
import PyProof.ListRange
import KE.OsGo
import KE.OsEnd
import Open.SpecLaws
import PySem.Challenge.RW_bestplaces_s01_places
set_option Elab.async false
set_option linter.all false
set_option maxRecDepth 100000
namespace L2
open PySem PySem.Spec PyProof.Rows

/-- a key: an int or a str -/
abbrev Key := Sum Int Str
def keyIs : Key → Value → Bool
  | .inl k, v => Value.isInt k v
  | .inr x, v => Value.isStrOf x v
def keyH (w : World) : Key → Int
  | .inl k => hashInt k
  | .inr x => hashStr w x
theorem keyIs_shape : ∀ {k : Key} {v : Value}, keyIs k v = true → (∃ i t, k = Sum.inl i ∧ v = Value.int i t) ∨ (∃ x t, k = Sum.inr x ∧ v = Value.str x t)
  | .inl i, v, h => by
    obtain ⟨t, e⟩ := Value.isInt_shape (k := i) (v := v) h
    exact .inl ⟨i, t, rfl, e⟩
  | .inr x, v, h => by
    obtain ⟨t, e⟩ := Value.isStrOf_shape (x := x) (v := v) h
    exact .inr ⟨x, t, rfl, e⟩
theorem keyIs_int (i : Int) (t : Tok) : keyIs (.inl i) (.int i t) = true := by simp [keyIs, Value.isInt]
theorem keyIs_str (x : Str) (t : Tok) : keyIs (.inr x) (.str x t) = true := by simp [keyIs, Value.isStrOf]
theorem key_ll (a b : Int) : decide ((Sum.inl a : Key) = Sum.inl b) = (a == b) := by
  by_cases e : a = b
  · subst e; simp
  · have h : ¬ (Sum.inl a : Key) = Sum.inl b := fun q => e (Sum.inl.inj q)
    rw [decide_eq_false h]
    exact (beq_eq_false_iff_ne.mpr e).symm
theorem key_rr (a b : Str) : decide ((Sum.inr a : Key) = Sum.inr b) = decide (a = b) := by
  by_cases e : a = b
  · subst e; simp
  · have h : ¬ (Sum.inr a : Key) = Sum.inr b := fun q => e (Sum.inr.inj q)
    rw [decide_eq_false h, decide_eq_false e]
theorem key_lr (a : Int) (b : Str) : decide ((Sum.inl a : Key) = Sum.inr b) = false := decide_eq_false (fun q => nomatch q)
theorem key_rl (a : Str) (b : Int) : decide ((Sum.inr a : Key) = Sum.inl b) = false := decide_eq_false (fun q => nomatch q)

def mixKind (prog : Program) (w : World) : PySem.KeyKind prog w Key where
  is := keyIs
  hash := keyH w
  inj := fun v a b ha hb => by
    rcases keyIs_shape ha with ⟨i, t, rfl, rfl⟩ | ⟨x, t, rfl, rfl⟩
    · rcases keyIs_shape hb with ⟨j, u, rfl, e⟩ | ⟨y, u, rfl, e⟩
      · injection e with e1 _; rw [e1]
      · exact nomatch e
    · rcases keyIs_shape hb with ⟨j, u, rfl, e⟩ | ⟨y, u, rfl, e⟩
      · exact nomatch e
      · injection e with e1 _; rw [e1]
  byValue := fun k v h => by
    rcases keyIs_shape h with ⟨i, t, rfl, rfl⟩ | ⟨x, t, rfl, rfl⟩ <;> rfl
  pyHash := fun hv h => by
    rcases keyIs_shape hv with ⟨i, t, rfl, rfl⟩ | ⟨x, t, rfl, rfl⟩
    · exact wpAny_pyHash_int h
    · exact wpAny_pyHash_str h
  eqBool := fun hu hv h => by
    rcases keyIs_shape hu with ⟨i, t, rfl, rfl⟩ | ⟨x, t, rfl, rfl⟩
    · rcases keyIs_shape hv with ⟨j, u, rfl, rfl⟩ | ⟨y, u, rfl, rfl⟩
      · rw [key_ll] at h; exact wpAny_eqBool_int h
      · rw [key_lr] at h; exact SeqAt.EqAt.int_str i t y u _ _ _ _ h
    · rcases keyIs_shape hv with ⟨j, u, rfl, rfl⟩ | ⟨y, u, rfl, rfl⟩
      · rw [key_rl] at h; exact SeqAt.EqAt.str_int x t j u _ _ _ _ h
      · rw [key_rr] at h; exact wpAny_eqBool_str h
  «strs» := fun k x t v h => by
    rcases keyIs_shape h with ⟨i, u, rfl, e⟩ | ⟨y, u, rfl, e⟩
    · exact nomatch e
    · injection e with e1 _
      subst e1
      cases v <;> rfl

theorem mixKind_int (prog : Program) (w : World) (i : Int) (t : Tok) : (mixKind prog w).is (.inl i) (.int i t) = true := keyIs_int i t
theorem mixKind_str (prog : Program) (w : World) (x : Str) (t : Tok) : (mixKind prog w).is (.inr x) (.str x t) = true := keyIs_str x t
end L2

namespace L2
open PySem PySem.Spec PyProof.Rows

/-- a value, without the heap -/
inductive V where
  | non | bl (b : Bool) | int (i : Int) | str (x : Str) | byt (b : Array UInt8) | flt (b : UInt64) | ref (a : Addr) | ty (n : String)
  deriving DecidableEq

def RelV : V → Value → Prop
  | .non, u => u = Value.none
  | .bl b, u => u = Value.bool b
  | .int i, u => ∃ t, u = Value.int i t
  | .str x, u => ∃ t, u = Value.str x t
  | .byt b, u => ∃ t, u = Value.bytes b t
  | .flt b, u => ∃ t, u = Value.float b t
  | .ref a, u => u = Value.ref a
  | .ty n, u => u = Value.type n

abbrev Vals : List V → List Value → Prop := Paired RelV
theorem Vals.length {xs : List V} {us : List Value} (r : Vals xs us) : xs.length = us.length := Paired.length r
theorem Vals.get : ∀ {xs : List V} {us : List Value} {i : Nat} {x : V}, Vals xs us → xs[i]? = some x → ∃ u, us[i]? = some u ∧ RelV x u
  | _, _, _, _, .nil, e => by simp at e
  | _, _, 0, _, .cons r _, e => by simp at e; subst e; exact ⟨_, rfl, r⟩
  | _, _, i + 1, x, .cons _ t, e => by
    obtain ⟨u, h1, h2⟩ := Vals.get (i := i) (x := x) t (by simpa using e)
    exact ⟨u, by simpa using h1, h2⟩
theorem Vals.set {x : V} {u : Value} (r : RelV x u) : ∀ {xs : List V} {us : List Value} (i : Nat), Vals xs us → Vals (xs.set i x) (us.set i u)
  | _, _, _, .nil => .nil
  | _, _, 0, .cons _ t => .cons r t
  | _, _, i + 1, .cons q t => .cons q (Vals.set r i t)
theorem Vals.append : ∀ {xs ys : List V} {us ws : List Value}, Vals xs us → Vals ys ws → Vals (xs ++ ys) (us ++ ws)
  | _, _, _, _, .nil, s => s
  | _, _, _, _, .cons r t, s => .cons r (Vals.append t s)
theorem Vals.take : ∀ {xs : List V} {us : List Value} (n : Nat), Vals xs us → Vals (xs.take n) (us.take n)
  | _, _, 0, _ => .nil
  | _, _, _ + 1, .nil => .nil
  | _, _, n + 1, .cons r t => .cons r (Vals.take n t)
theorem Vals.drop : ∀ {xs : List V} {us : List Value} (n : Nat), Vals xs us → Vals (xs.drop n) (us.drop n)
  | _, _, 0, r => r
  | _, _, _ + 1, .nil => .nil
  | _, _, n + 1, .cons _ t => Vals.drop n t
def RelO : Option V → Option Value → Prop
  | some v, some u => RelV v u
  | none, none => True
  | _, _ => False
def KV {κ : Type} : List (κ × V) → List (κ × Value) → Prop := Paired fun (p : κ × V) (q : κ × Value) => p.1 = q.1 ∧ RelV p.2 q.2

/-- a key of a dict (00_mix): an int or a text -/
def kV : Key → V
  | .inl i => .int i
  | .inr x => .str x

/-- what stands at a tracked address -/
inductive HO where
  /-- a list -/
  | lst (xs : List V)
  /-- a tuple (never changes) -/
  | tup (xs : List V)
  /-- a dict whose keys are ints and texts; one whose keys are tuples of ints and texts (the empty one is both) -/
  | dK (kvs : List (Key × V)) | dT (kvs : List (List Key × V))
  /-- a set of ints: its members, its size -/
  | set (S : Int → Bool) (n : Nat)
  /-- an instance of the class at C, its dict at dx, its attributes -/
  | ins (C dx : Addr) (fs : List (Str × V))
  /-- the dict of the instance at x -/
  | own (x : Addr)
  /-- the dict of an exception -/
  | xd (fs : List (Str × V))
  /-- a bound method, f of x -/
  | met (f x : Addr)
  /-- a range object lo, lo + 1, .. below hi -/
  | rng (lo hi : Int)
  /-- a thing that is known to the object (the script; a dict while a loop walks it): read, never written while it is so -/
  | frz (o : Obj) (u : HO)
  /-- a code object's table -/
  | tbl (ps : Array Value)
  /-- any other thing, by what is true of its one object (a def of one's own: SetO a S n := HO.ext fun h => ..) -/
  | ext (φ : Heap → Prop)

abbrev Hp := Addr → Option HO
def upd (H : Hp) (a : Addr) (o : HO) : Hp := fun b => if b = a then some o else H b
theorem upd_same {H : Hp} {a : Addr} {o : HO} : upd H a o a = some o := by unfold upd; rw [if_pos rfl]
theorem upd_ne {H : Hp} {a b : Addr} {o : HO} (h : b ≠ a) : upd H a o b = H b := by unfold upd; rw [if_neg h]
/-- two objects of different content stand apart -/
theorem ne_of {H : Hp} {a b : Addr} {o u : HO} (h : H a = some o) (h' : H b = some u) (d : o ≠ u) : a ≠ b := by
  intro e; subst e; rw [h] at h'; exact d (Option.some.inj h')
theorem ne_of_none {H : Hp} {a b : Addr} {o : HO} (h : H a = some o) (h' : H b = none) : a ≠ b := by
  intro e; subst e; rw [h] at h'; cases h'

section
variable (P : Program) (w : World)
def ObjOk (H : Hp) (h : Heap) (a : Addr) : HO → Prop
  | .lst xs => xs.length ≤ sizeLine ∧ ∃ (its : List Value) (n : Nat), Vals xs its ∧ h.get? a = some { cls := .type "list", data := .seq its.toArray n }
  | .tup xs => xs.length ≤ sizeLine ∧ ∃ its : List Value, Vals xs its ∧ IsTup h a its.toArray
  | .dK kvs => kvs.length ≤ sizeLine ∧ (a == sysModules) = false ∧ ∃ vs, KV kvs vs ∧ h.DictOf (mixKind P w) a vs
  | .dT kvs => kvs.length ≤ sizeLine ∧ (a == sysModules) = false ∧ ∃ xs : List (List Key × Addr × Value),
      Paired (fun (p : List Key × V) (q : List Key × Addr × Value) => p.1 = q.1 ∧ H q.2.1 = some (.tup (p.1.map kV)) ∧ RelV p.2 q.2.2) kvs xs ∧
      ∃ o es ep, h.get? a = some o ∧ o.ExactDict ∧ o.data = .dict es ep ∧ es.toList = xs.map (entryOfKey (tupleKind (mixKind P w))) ∧ (xs.map (·.1)).Nodup
  | .set S n => h.SetOf (intKind P w) a S n
  | .ins C dx fs => H dx = some (.own a) ∧ fs.length ≤ 1000 ∧ dx ≠ a ∧ h.get? a = some (PySem.W.instObj C dx) ∧
      ∃ mA, h.Ns1 dx mA ∧ (∀ f, RelO (fs.lookup f) (mA f)) ∧ PySem.Within mA (fs.map (·.1))
  | .own _ => ∃ o, h.get? a = some o
  | .xd fs => ∃ mA, h.Ns1 a mA ∧ ∀ f, RelO (fs.lookup f) (mA f)
  | .rng lo hi => ∃ t u v, h.get? a = some { cls := .type "range", data := .fields #[.int lo t, .int hi u, .int 1 v] }
  | .frz o u => h.get? a = some o ∧ ObjOk H h a u
  | .tbl ps => h.get? a = some { cls := .none, data := .fields ps }
  | .met f x => h.get? a = some (PySem.W.methodObj (.ref f) (.ref x))
  | .ext φ => φ h ∧ (∃ o, h.get? a = some o) ∧ ∀ h1 h2 : Heap, φ h1 → (∀ o, h1.get? a = some o → h2.get? a = some o) → φ h2
/-- the abstract heap is held -/
def HOk (H : Hp) (h : Heap) : Prop := ∀ a o, H a = some o → ObjOk P w H h a o
end

section
variable {P : Program} {w : World} {H H' : Hp} {h h' : Heap} {a : Addr} {o : HO}
theorem ObjOk.lt (x : ObjOk P w H h a o) : a < h.objs.size := by
  cases o with
  | lst xs => obtain ⟨_, _, _, _, e⟩ := x; exact Heap.lt_size e
  | tup xs => obtain ⟨_, _, _, p⟩ := x; exact p.lt
  | dK kvs => obtain ⟨_, _, _, _, o, _, _, e, _⟩ := x; exact Heap.lt_size e
  | dT kvs => obtain ⟨_, _, _, _, o, _, _, e, _⟩ := x; exact Heap.lt_size e
  | set S n => obtain ⟨o, _, _, _, e, _⟩ := x; exact Heap.lt_size e
  | ins C dx fs => obtain ⟨_, _, _, e, _⟩ := x; exact Heap.lt_size e
  | own y => obtain ⟨_, e⟩ := x; exact Heap.lt_size e
  | xd fs => obtain ⟨_, ⟨_, _, _, e, _⟩, _⟩ := x; exact Heap.lt_size e
  | rng lo hi => obtain ⟨_, _, _, e⟩ := x; exact Heap.lt_size e
  | frz ob u => obtain ⟨e, _⟩ := x; exact Heap.lt_size e
  | tbl ps => exact Heap.lt_size (show h.get? a = some _ from x)
  | met f y => exact Heap.lt_size (show h.get? a = some _ from x)
  | ext φ => obtain ⟨_, ⟨_, e⟩, _⟩ := x; exact Heap.lt_size e
theorem Paired.mapP {α β : Type} {F G : α → β → Prop} : ∀ {l₁ : List α} {l₂ : List β}, Paired F l₁ l₂ → (∀ a b, F a b → G a b) → Paired G l₁ l₂
  | _, _, .nil, _ => .nil
  | _, _, .cons r t, f => .cons (f _ _ r) (Paired.mapP t f)
/-- what an object's description leans on: its own object, its own dict, the tuples -/
theorem ObjOk.stay (x : ObjOk P w H h a o) (k : ∀ b u, (b = a ∨ H b = some (.own a)) → h.get? b = some u → h'.get? b = some u)
    (ho : ∀ b, H b = some (.own a) → H' b = some (.own a)) (ht : ∀ b xs, H b = some (.tup xs) → H' b = some (.tup xs)) : ObjOk P w H' h' a o := by
  induction o with
  | lst xs => obtain ⟨z, its, n, r, e⟩ := x; exact ⟨z, its, n, r, k _ _ (.inl rfl) e⟩
  | tup xs => obtain ⟨z, its, r, ob, e, c⟩ := x; exact ⟨z, its, r, ob, k _ _ (.inl rfl) e, c⟩
  | dK kvs => obtain ⟨z, y, vs, r, ob, es, ep, e, c⟩ := x; exact ⟨z, y, vs, r, ob, es, ep, k _ _ (.inl rfl) e, c⟩
  | dT kvs =>
    obtain ⟨z, y, xs, r, ob, es, ep, e, c⟩ := x
    exact ⟨z, y, xs, Paired.mapP r fun p q z => ⟨z.1, ht _ _ z.2.1, z.2.2⟩, ob, es, ep, k _ _ (.inl rfl) e, c⟩
  | set S n => obtain ⟨ob, es, ep, t, e, c⟩ := x; exact ⟨ob, es, ep, t, k _ _ (.inl rfl) e, c⟩
  | ins C dx fs =>
    obtain ⟨d, z, ne, e, mA, ⟨od, es, ep, e2, c⟩, r⟩ := x
    exact ⟨ho _ d, z, ne, k _ _ (.inl rfl) e, mA, ⟨od, es, ep, k _ _ (.inr d) e2, c⟩, r⟩
  | own y => obtain ⟨ob, e⟩ := x; exact ⟨ob, k _ _ (.inl rfl) e⟩
  | xd fs => obtain ⟨mA, ⟨od, es, ep, e, c⟩, r⟩ := x; exact ⟨mA, ⟨od, es, ep, k _ _ (.inl rfl) e, c⟩, r⟩
  | rng lo hi => obtain ⟨t, u, v, e⟩ := x; exact ⟨t, u, v, k _ _ (.inl rfl) e⟩
  | frz ob u ih => obtain ⟨e, q⟩ := x; exact ⟨k _ _ (.inl rfl) e, ih q⟩
  | tbl ps =>
    have e : h.get? a = some { cls := .none, data := .fields ps } := x
    show h'.get? a = some { cls := .none, data := .fields ps }
    exact k a _ (.inl rfl) e
  | met f y =>
    have e : h.get? a = some (PySem.W.methodObj (.ref f) (.ref y)) := x
    show h'.get? a = some (PySem.W.methodObj (.ref f) (.ref y))
    exact k a _ (.inl rfl) e
  | ext φ => obtain ⟨p, ⟨o, e⟩, st⟩ := x; exact ⟨st _ _ p fun o q => k _ _ (.inl rfl) q, ⟨o, k _ _ (.inl rfl) e⟩, st⟩
theorem HOk.lt (x : HOk P w H h) (e : H a = some o) : a < h.objs.size := (x a o e).lt
theorem HOk.fresh (x : HOk P w H h) (e : h.objs.size ≤ a) : H a = none := by
  cases q : H a with
  | none => rfl
  | some u => exact absurd (Nat.lt_of_lt_of_le (x.lt q) e) (Nat.lt_irrefl _)
/-- every object of the heap is kept -/
theorem HOk.kept (x : HOk P w H h) (k : ∀ b u, h.get? b = some u → h'.get? b = some u) : HOk P w H h' := fun a o e =>
  (x a o e).stay (fun b u _ q => k b u q) (fun _ q => q) fun _ _ q => q
/-- a new object is laid and tracked -/
theorem HOk.laid (x : HOk P w H h) (k : ∀ b u, h.get? b = some u → h'.get? b = some u) (hp : h.objs.size ≤ a) (new : ObjOk P w (upd H a o) h' a o) : HOk P w (upd H a o) h' := fun b u e => by
  have hn := x.fresh hp
  by_cases hb : b = a
  · subst hb; rw [upd_same] at e; cases e; exact new
  · rw [upd_ne hb] at e
    exact (x b u e).stay (fun c v _ q => k c v q) (fun c q => by rw [upd_ne (ne_of_none q hn)]; exact q) fun c xs q => by rw [upd_ne (ne_of_none q hn)]; exact q
end

/-- what may be read as u: it is u, or a known u -/
def Rd (H : Hp) (a : Addr) (u : HO) : Prop := H a = some u ∨ ∃ o, H a = some (.frz o u)
theorem Rd.ok {P : Program} {w : World} {H : Hp} {h : Heap} {a : Addr} {u : HO} (r : Rd H a u) (x : HOk P w H h) : ObjOk P w H h a u := by
  rcases r with r | ⟨o, r⟩
  · exact x a u r
  · obtain ⟨_, q⟩ := x a _ r
    exact q
/-- what may be written -/
def Mut : Option HO → Prop
  | some (.lst _) => True
  | some (.dK _) => True
  | some (.dT _) => True
  | some (.set _ _) => True
  | some (.ins _ _ _) => True
  | some (.ext _) => True
  | _ => False
section
variable {P : Program} {w : World} {H : Hp} {h h' : Heap} {x e : Addr} {o' : HO}
/-- the object at e is changed: x itself, or the dict of the instance x -/
theorem HOk.write (ok : HOk P w H h) (mu : Mut (H x)) (he : e = x ∨ H e = some (.own x)) (k : ∀ b u, b ≠ e → h.get? b = some u → h'.get? b = some u) (heo : ∃ u, h'.get? e = some u)
    (new : ObjOk P w (upd H x o') h' x o') : HOk P w (upd H x o') h' := fun b u q => by
  have nown : ∀ c y, H c = some (.own y) → c ≠ x := fun c y r z => by subst z; rw [r] at mu; exact mu
  have ntup : ∀ c xs, H c = some (.tup xs) → c ≠ x := fun c xs r z => by subst z; rw [r] at mu; exact mu
  by_cases hb : b = x
  · subst hb; rw [upd_same] at q; cases q; exact new
  · rw [upd_ne hb] at q
    by_cases hbe : b = e
    · have q' : H b = some (.own x) := by
        rcases he with z | z
        · exact absurd (hbe.trans z) hb
        · rw [hbe]; exact z
      rw [q] at q'; cases q'
      obtain ⟨v, hv⟩ := heo
      exact ⟨v, by rw [hbe]; exact hv⟩
    · refine (ok b u q).stay (fun c v hc r => k c v ?_ r) (fun c r => by rw [upd_ne (nown c b r)]; exact r) fun c xs r => by rw [upd_ne (ntup c xs r)]; exact r
      rcases hc with rfl | hc
      · exact hbe
      · rintro rfl
        rcases he with z | z
        · exact nown c b hc z
        · rw [hc] at z; cases z; exact hb rfl
end

structure Un (fs ex : List Addr) (H H' : Hp) (h h' : Heap) : Prop where
  keep : ∀ b o, h.get? b = some o → H b = none → b ∉ fs → b ∉ ex → h'.get? b = some o
  slot : ∀ b o, h.get? b = some o → H b = none → b ∈ fs → b ∉ ex → ∃ sl, h'.get? b = some { o with slots := sl }
  free : ∀ b o, h.get? b = some o → H b = none → b ∉ ex → H' b = none
  there : ∀ b o, h.get? b = some o → b ∉ ex → ∃ o', h'.get? b = some o'
  tups : ∀ b xs, H b = some (.tup xs) → H' b = some (.tup xs)
  frzs : ∀ b o u, H b = some (.frz o u) → H' b = some (.frz o u)
  tbls : ∀ b ps, H b = some (.tbl ps) → ∃ more, H' b = some (.tbl (ps ++ more))
section
variable {fs fs' ex ex' : List Addr} {H H1 H2 : Hp} {h h1 h2 h' : Heap} {a x e : Addr} {o : HO}
theorem Un.any (u : Un fs ex H H1 h h1) {b : Addr} {ob : Obj} (q : h.get? b = some ob) (n : H b = none) (hx : b ∉ ex) : ∃ sl, h1.get? b = some { ob with slots := sl } := by
  by_cases hb : b ∈ fs
  · exact u.slot b ob q n hb hx
  · exact ⟨ob.slots, u.keep b ob q n hb hx⟩
theorem Un.kept (k : ∀ b u, h.get? b = some u → h'.get? b = some u) : Un fs ex H H h h' :=
  ⟨fun b ob q _ _ _ => k b ob q, fun b ob q _ _ _ => ⟨ob.slots, k b ob q⟩, fun _ _ _ n _ => n, fun b ob q _ => ⟨ob, k b ob q⟩, fun _ _ q => q, fun _ _ _ q => q, fun _ ps q => ⟨#[], by rw [q]; simp⟩⟩
theorem Un.refl : Un fs ex H H h h := Un.kept fun _ _ q => q
theorem Un.laid (k : ∀ b u, h.get? b = some u → h'.get? b = some u) (hp : h.objs.size ≤ a) (hn : H a = none) : Un fs ex H (upd H a o) h h' where
  keep := fun b u q _ _ _ => k b u q
  slot := fun b u q _ _ _ => ⟨u.slots, k b u q⟩
  free := fun b u q n _ => by rw [upd_ne (Nat.ne_of_lt (Nat.lt_of_lt_of_le (Heap.lt_size q) hp))]; exact n
  there := fun b u q _ => ⟨u, k b u q⟩
  tups := fun b xs q => by rw [upd_ne (ne_of_none q hn)]; exact q
  frzs := fun b u xs q => by rw [upd_ne (ne_of_none q hn)]; exact q
  tbls := fun b ps q => ⟨#[], by rw [upd_ne (ne_of_none q hn), q]; simp⟩
theorem Un.write (mu : Mut (H x)) (he : e = x ∨ H e = some (.own x)) (k : ∀ b u, b ≠ e → h.get? b = some u → h'.get? b = some u) (heo : ∃ u, h'.get? e = some u) : Un fs ex H (upd H x o) h h' := by
  have hx : ∀ b, H b = none → b ≠ x := fun b n z => by subst z; rw [n] at mu; exact mu
  have hb : ∀ b, H b = none → b ≠ e := fun b n z => by
    subst z
    rcases he with r | r
    · exact hx b n r
    · rw [n] at r; cases r
  have hm : ∀ b u, H b = some u → ¬ Mut (some u) → b ≠ x := fun b u q nm z => by subst z; rw [q] at mu; exact nm mu
  refine ⟨fun b u q n _ _ => k b u (hb b n) q, fun b u q n _ _ => ⟨u.slots, k b u (hb b n) q⟩, fun b u q n _ => by rw [upd_ne (hx b n)]; exact n, fun b u q _ => ?_,
    fun b xs q => by rw [upd_ne (hm b _ q fun z => z)]; exact q, fun b u xs q => by rw [upd_ne (hm b _ q fun z => z)]; exact q, fun b ps q => ⟨#[], by rw [upd_ne (hm b _ q fun z => z), q]; simp⟩⟩
  by_cases hbe : b = e
  · subst hbe; exact heo
  · exact ⟨u, k b u hbe q⟩
end

def trk (h : Heap) (H : Hp) : List Addr := (List.range h.objs.size).filter fun a => (H a).isSome
def hidT (h : Heap) (H : Hp) : Heap := PySem.W.hideAll h (trk h H)
theorem hidT_size (h : Heap) (H : Hp) : (hidT h H).objs.size = h.objs.size := PySem.W.hideAll_size _ _
theorem hidT_get {h : Heap} {H : Hp} {b : Addr} {o : Obj} (e : h.get? b = some o) (n : H b = none) : (hidT h H).get? b = some o :=
  PySem.W.hideAll_get _ e fun hm => by
    have q : (H b).isSome = true := (List.mem_filter.mp hm).2
    rw [n] at q; simp at q
theorem of_hidT {h : Heap} {H : Hp} {b : Addr} {o : Obj} (e : (hidT h H).get? b = some o) : h.get? b = some o ∧ H b = none := by
  have e' : h.get? b = some o := PySem.W.of_hideAll (trk h H) e
  refine ⟨e', ?_⟩
  cases q : H b with
  | none => rfl
  | some x =>
    have hm : b ∈ trk h H := List.mem_filter.mpr ⟨List.mem_range.mpr (Heap.lt_size e'), by simp [q]⟩
    have z : (hidT h H).get? b = none := PySem.W.hideAll_none (trk h H) hm
    rw [z] at e; cases e

end L2

namespace L2
open PySem PySem.Spec PyProof.Rows

/-- the module's facts, over the base: the heap at the law's entry without what is tracked there -/
structure Mod (K : PySem.W.Frag) (mg : Str → Option Value) (base : Heap) : Prop where
  kin : K.In base
  glob : base.Ns mainGlobals mg
  blt : ∃ mb, base.Ns builtinsNs mb ∧ ∀ x : Str, x ≠ "__name__" → mb x = bootBuiltins x
  nolimit : base.NoLimit

/-- the context: a def's body (or a comprehension's block) running. base: fixed through the whole law; s₀, H₀: the entry; outer: the frames whose slots others may change (a def's callers); stack: all frames that run;
   ex: iterators that were made ahead of the entry and are walked here (a comprehension's); fn: the names whose cells were made at the entry (a def: all; a comprehension's block: its own); calm: not within an except suite; pn: pins that every state bears; xe: what is wanted of an exception that leaves the code -/
structure Cx where
  prog : Program
  w : World
  K : PySem.W.Frag
  mg : Str → Option Value
  base : Heap
  A : Around
  N : List Str
  s₀ : Shared
  H₀ : Hp
  env : Env
  outer : List Env
  stack : List Env
  ex : List Addr
  fn : Str → Bool
  calm : Bool
  pn : List (Addr × Obj)
  xe : Value → Shared → Prop
/-- the callers' frames -/
def frs (l : List Env) : List Addr := l.filterMap (·.frame)
abbrev Cx.fs (X : Cx) : List Addr := frs X.outer

def Vis (sc : Scope) (x : Str) : Prop := sc.names.lookup x = some .local ∨ sc.names.lookup x = some .cell ∨ sc.names.lookup x = some .free
def Loc (sc : Scope) (x : Str) : Prop := sc.names.lookup x = some .local ∨ sc.names.lookup x = some .cell
def Look (env : Env) (h : Heap) (m : Str → Option Value) (x : Str) (u : Value) : Prop :=
  (env.kindOf x = some .local ∧ m x = some u) ∨ ((env.kindOf x = some .cell ∨ env.kindOf x = some .free) ∧ ∃ c, env.cells.lookup x = some c ∧ h.IsCell c (some u))

structure Cx.Ok (X : Cx) : Prop where
  mod : Mod X.K X.mg X.base
  kind : X.env.scope.kind = .function
  glob : X.env.globals = mainGlobals
  blt : X.env.builtins = builtinsNs
  above : X.s₀.heap.objs.size ≤ X.env.locals
  inj : ∀ x y c, X.env.cells.lookup x = some c → X.env.cells.lookup y = some c → x = y
  has : ∀ x, (X.env.kindOf x = some .cell ∨ X.env.kindOf x = some .free) → ∃ c, X.env.cells.lookup x = some c
  cab : ∀ x c, X.fn x = true → X.env.cells.lookup x = some c → X.s₀.heap.objs.size ≤ c
  hd : X.calm = true → X.A.handled = none
  frames : X.A.frames = some X.stack
  stk : X.stack = X.outer ∨ (X.stack = X.env :: X.outer ∧ X.env.frame = some X.env.locals)
  exf : ∀ b ∈ X.ex, b ≠ X.env.locals ∧ ∀ x c, X.env.cells.lookup x = some c → c ≠ b
  bs : ∀ b o, X.base.get? b = some o → X.s₀.heap.get? b = some o ∧ X.H₀ b = none
  bsz : X.base.objs.size ≤ X.s₀.heap.objs.size
  noex : ∀ b o, X.base.get? b = some o → b ∉ X.ex
  exfs : ∀ b ∈ X.ex, b ∉ X.fs
  funs : X.s₀.heap.FunFrames X.base X.outer
  frf : ∀ b ∈ X.fs, X.H₀ b = none

structure Inv (X : Cx) (pins : List (Addr × Obj)) (σ : List (Option V)) (H : Hp) (s : Shared) : Prop where
  ok : X.Ok
  os : s.os = X.s₀.os
  bare : AllBare s.gens
  base : Un X.fs X.ex X.H₀ H X.s₀.heap s.heap
  loc : ∃ m, s.heap.Ns X.env.locals m ∧ ∀ (i : Nat) (x : Str) (v : V), X.N[i]? = some x → σ[i]? = some (some v) → Vis X.env.scope x → ∃ u, RelV v u ∧ Look X.env s.heap m x u
  cell : ∀ x c, X.env.cells.lookup x = some c → ∃ v, s.heap.IsCell c v
  free : H X.env.locals = none
  freeC : ∀ x c, X.env.cells.lookup x = some c → H c = none
  pin : ∀ p ∈ X.pn ++ pins, s.heap.get? p.1 = some p.2 ∧ H p.1 = none ∧ p.1 ≠ X.env.locals ∧ p.1 ∉ X.fs ∧ ∀ v, p.2.data ≠ .cell v
  hok : HOk X.prog X.w H s.heap
  len : σ.length = X.N.length

section
variable {X : Cx} {pins : List (Addr × Obj)} {σ : List (Option V)} {H H' : Hp} {s : Shared} {h' : Heap}

theorem Cx.Ok.nofr (ok : X.Ok) {b : Addr} {o : Obj} (e : X.base.get? b = some o) : b ∉ X.fs := fun hb => by
  have := (ok.funs.mem hb).1
  rw [e] at this; cases this
theorem Inv.bs (I : Inv X pins σ H s) : ∀ b o, X.base.get? b = some o → s.heap.get? b = some o ∧ H b = none := fun b o e =>
  ⟨I.base.keep b o (I.ok.bs b o e).1 (I.ok.bs b o e).2 (I.ok.nofr e) (I.ok.noex b o e), I.base.free b o (I.ok.bs b o e).1 (I.ok.bs b o e).2 (I.ok.noex b o e)⟩
theorem Inv.bk (I : Inv X pins σ H s) : ∀ b o, X.base.get? b = some o → s.heap.get? b = some o := fun b o e => (I.bs b o e).1
theorem Inv.mod (I : Inv X pins σ H s) : Mod X.K X.mg X.base := I.ok.mod
theorem Inv.kIn (I : Inv X pins σ H s) : X.K.In s.heap := I.ok.mod.kin.keeps I.bk
theorem Inv.nolimit (I : Inv X pins σ H s) : s.heap.NoLimit := I.ok.mod.nolimit.keeps I.bk
theorem Inv.lt (I : Inv X pins σ H s) : X.env.locals < s.heap.objs.size := let ⟨_, hn, _⟩ := I.loc; hn.lt
theorem Inv.sz (I : Inv X pins σ H s) : X.s₀.heap.objs.size ≤ s.heap.objs.size := Nat.le_trans I.ok.above (Nat.le_of_lt I.lt)
theorem Inv.nofs (I : Inv X pins σ H s) {a : Addr} (h : s.heap.objs.size ≤ a) : a ∉ X.fs := fun hb => by
  obtain ⟨_, o, ho, _⟩ := I.ok.funs.mem hb
  exact absurd (Nat.lt_of_lt_of_le (Heap.lt_size ho) (Nat.le_trans I.sz h)) (Nat.lt_irrefl _)
theorem Inv.cne (I : Inv X pins σ H s) : ∀ x c, X.env.cells.lookup x = some c → c ≠ X.env.locals := fun x c e z => by
  obtain ⟨v, o, ho, hd⟩ := I.cell x c e
  obtain ⟨m, ⟨o', es, ep, ho', hd', _⟩, _⟩ := I.loc
  rw [z, ho'] at ho; cases ho; rw [hd'] at hd; cases hd
theorem Inv.funs (I : Inv X pins σ H s) : s.heap.FunFrames X.base X.outer := by
  have all : ∀ (l : List Env), (∀ b ∈ frs l, b ∈ X.fs) → X.s₀.heap.FunFrames X.base l → s.heap.FunFrames X.base l := by
    intro l
    induction l with
    | nil => intro _ _; trivial
    | cons env r ih =>
      intro hs hl
      obtain ⟨hk, ⟨L, o, hf, hn, ho, hd⟩, hr⟩ := hl
      have hL : L ∈ X.fs := hs L (by unfold frs; rw [List.filterMap_cons, hf]; exact List.mem_cons_self)
      obtain ⟨sl, e⟩ := I.base.slot L o ho (I.ok.frf L hL) hL fun z => I.ok.exfs L z hL
      exact ⟨hk, ⟨L, _, hf, hn, e, hd⟩, ih (fun b hb => hs b (by unfold frs; rw [List.filterMap_cons, hf]; exact List.mem_cons_of_mem _ hb)) hr⟩
  exact all X.outer (fun _ hb => hb) I.ok.funs

/-- the frames that run, for a call -/
theorem Inv.stack (I : Inv X pins σ H s) : s.heap.FunFrames X.base X.stack := by
  rcases I.ok.stk with e | ⟨e, hf⟩
  · rw [e]; exact I.funs
  · rw [e]
    obtain ⟨m, hn, _⟩ := I.loc
    refine .cons (by rw [I.ok.kind]; decide) hf hn ?_ I.funs
    exact Heap.get?_none_of_le (Nat.le_trans I.ok.bsz I.ok.above)
theorem Inv.stkSub (I : Inv X pins σ H s) : ∀ b ∈ frs X.stack, b ∈ X.env.locals :: X.fs := fun b hb => by
  rcases I.ok.stk with e | ⟨e, hf⟩
  · rw [e] at hb; exact List.mem_cons_of_mem _ hb
  · rw [e] at hb
    unfold frs at hb
    rw [List.filterMap_cons, hf] at hb
    exact hb
theorem Inv.stkFree (I : Inv X pins σ H s) : ∀ b ∈ frs X.stack, H b = none := fun b hb => by
  rcases List.mem_cons.mp (I.stkSub b hb) with e | hb
  · rw [e]; exact I.free
  · obtain ⟨_, o, ho, _⟩ := I.ok.funs.mem hb
    exact I.base.free b o ho (I.ok.frf b hb) fun z => I.ok.exfs b z hb

/-- THE STEP: the untracked objects but the frame and the records at ch are kept (the callers' frames up to slots), the frame's map is kept, the new abstract heap is held -/
theorem Inv.step {g' : Array GenState} {t' : Nat} {d' : Drawn} {ch : List Addr} (I : Inv X pins σ H s)
    (hch : ∀ b ∈ ch, (b ∈ X.ex ∨ X.s₀.heap.objs.size ≤ b) ∧ b ≠ X.env.locals ∧ (∀ x c, X.env.cells.lookup x = some c → c ≠ b) ∧ ∀ p ∈ X.pn ++ pins, p.1 ≠ b)
    (keep : ∀ b o, b ≠ X.env.locals → b ∉ X.fs → b ∉ ch → s.heap.get? b = some o → H b = none → h'.get? b = some o)
    (slot : ∀ b o, b ≠ X.env.locals → b ∈ X.fs → b ∉ ch → s.heap.get? b = some o → H b = none → ∃ sl, h'.get? b = some { o with slots := sl }) (free : ∀ b o, b ∉ ch → s.heap.get? b = some o → H b = none → H' b = none)
    (there : ∀ b o, b ∉ ch → s.heap.get? b = some o → ∃ o', h'.get? b = some o')
    (tups : ∀ b xs, H b = some (.tup xs) → H' b = some (.tup xs)) (frzs : ∀ b o u, H b = some (.frz o u) → H' b = some (.frz o u)) (tbls : ∀ b ps, H b = some (.tbl ps) → ∃ more, H' b = some (.tbl (ps ++ more)))
    (ns : ∀ m, s.heap.Ns X.env.locals m → h'.Ns X.env.locals m) (hok : HOk X.prog X.w H' h') (hg : AllBare g') :
    Inv X pins σ H' { s with heap := h', gens := g', drawn := d', toks := t' } := by
  have neL : ∀ b o, X.s₀.heap.get? b = some o → b ≠ X.env.locals := fun b o e => Nat.ne_of_lt (Nat.lt_of_lt_of_le (Heap.lt_size e) I.ok.above)
  have neC : ∀ b o, X.s₀.heap.get? b = some o → b ∉ X.ex → b ∉ ch := fun b o e hx hb => by
    rcases (hch b hb).1 with z | z
    · exact hx z
    · exact absurd (Nat.lt_of_lt_of_le (Heap.lt_size e) z) (Nat.lt_irrefl _)
  have cellK : ∀ x c, X.env.cells.lookup x = some c → ∀ v, s.heap.IsCell c v → h'.IsCell c v := fun x c e v ⟨o, ho, hd⟩ => by
    have nch : c ∉ ch := fun z => (hch c z).2.2.1 x c e rfl
    by_cases hc : c ∈ X.fs
    · obtain ⟨sl, q⟩ := slot c o (I.cne x c e) hc nch ho (I.freeC x c e)
      exact ⟨_, q, hd⟩
    · exact ⟨o, keep c o (I.cne x c e) hc nch ho (I.freeC x c e), hd⟩
  refine ⟨I.ok, I.os, hg, ⟨fun b o e n hb hx => ?_, fun b o e n hb hx => ?_, fun b o e n hx => ?_, fun b o e hx => ?_, fun b xs e => tups b xs (I.base.tups b xs e), fun b o xs e => frzs b o xs (I.base.frzs b o xs e), fun b ps e => ?_⟩, ?_, fun x c e => ?_, ?_, fun x c e => ?_, fun p hp => ?_, hok, I.len⟩
  · exact keep b o (neL b o e) hb (neC b o e hx) (I.base.keep b o e n hb hx) (I.base.free b o e n hx)
  · obtain ⟨sl, e1⟩ := I.base.slot b o e n hb hx
    obtain ⟨sl', e2⟩ := slot b _ (neL b o e) hb (neC b o e hx) e1 (I.base.free b o e n hx)
    exact ⟨sl', e2⟩
  · obtain ⟨o', e1⟩ := I.base.there b o e hx
    exact free b o' (neC b o e hx) e1 (I.base.free b o e n hx)
  · obtain ⟨o', e1⟩ := I.base.there b o e hx
    exact there b o' (neC b o e hx) e1
  · obtain ⟨m1, e1⟩ := I.base.tbls b ps e
    obtain ⟨m2, e2⟩ := tbls b _ e1
    exact ⟨m1 ++ m2, by rw [e2, Array.append_assoc]⟩
  · obtain ⟨m, hn, hl⟩ := I.loc
    refine ⟨m, ns m hn, fun i x v e1 e2 e3 => ?_⟩
    obtain ⟨u, r, l⟩ := hl i x v e1 e2 e3
    refine ⟨u, r, ?_⟩
    rcases l with l | ⟨k, c, e, z⟩
    · exact .inl l
    · exact .inr ⟨k, c, e, cellK x c e _ z⟩
  · obtain ⟨v, z⟩ := I.cell x c e
    exact ⟨v, cellK x c e v z⟩
  · obtain ⟨m, ⟨o, _, _, ho, _⟩, _⟩ := I.loc
    exact free _ o (fun z => (hch _ z).2.1 rfl) ho I.free
  · obtain ⟨v, o, ho, hd⟩ := I.cell x c e
    exact free c o (fun z => (hch c z).2.2.1 x c e rfl) ho (I.freeC x c e)
  · obtain ⟨e, n, ne, nf, d⟩ := I.pin p hp
    have nch : p.1 ∉ ch := fun z => (hch p.1 z).2.2.2 p hp rfl
    exact ⟨keep p.1 p.2 ne nf nch e n, free p.1 p.2 nch e n, ne, nf, d⟩
/-- .. where the frame's own object is kept too -/
theorem Inv.un {t' : Nat} (I : Inv X pins σ H s) (u : Un X.fs [] H H' s.heap h') (hok : HOk X.prog X.w H' h') : Inv X pins σ H' { s with heap := h', toks := t' } := by
  obtain ⟨m, ⟨o, es, ep, ho, r⟩, _⟩ := id I.loc
  obtain ⟨sl, hL⟩ := u.any ho I.free (by simp)
  exact I.step (g' := s.gens) (d' := s.drawn) (ch := []) (fun _ z => nomatch z) (fun b o _ hb _ e n => u.keep b o e n hb (by simp)) (fun b o _ hb _ e n => u.slot b o e n hb (by simp)) (fun b o _ e n => u.free b o e n (by simp)) (fun b o _ e => u.there b o e (by simp)) u.tups u.frzs u.tbls (fun m' hm => by
    obtain ⟨o', es', ep', ho', r'⟩ := hm
    rw [ho] at ho'; cases ho'
    exact ⟨_, es', ep', hL, r'⟩) hok I.bare
/-- behind a call (or a comprehension's block): the slots of this frame may have changed too, the records at ch may have turned -/
theorem Inv.call {g' : Array GenState} {t' : Nat} {d' : Drawn} {ch : List Addr} (I : Inv X pins σ H s) (u : Un (frs X.stack) ch H H' s.heap h') (hok : HOk X.prog X.w H' h') (hg : AllBare g')
    (hch : ∀ b ∈ ch, (b ∈ X.ex ∨ X.s₀.heap.objs.size ≤ b) ∧ b ≠ X.env.locals ∧ (∀ x c, X.env.cells.lookup x = some c → c ≠ b) ∧ ∀ p ∈ X.pn ++ pins, p.1 ≠ b) :
    Inv X pins σ H' { s with heap := h', gens := g', drawn := d', toks := t' } := by
  obtain ⟨m, ⟨o, es, ep, ho, r⟩, _⟩ := id I.loc
  obtain ⟨sl, hL⟩ := u.any ho I.free fun z => (hch _ z).2.1 rfl
  exact I.step (ch := ch) hch (fun b o hL hb hc e n => u.keep b o e n (fun z => (List.mem_cons.mp (I.stkSub b z)).elim hL hb) hc) (fun b o _ _ hc e n => u.any e n hc) (fun b o hc e n => u.free b o e n hc) (fun b o hc e => u.there b o e hc) u.tups u.frzs u.tbls (fun m' hm => by
    obtain ⟨o', es', ep', ho', r'⟩ := hm
    rw [ho] at ho'; cases ho'
    exact ⟨_, es', ep', hL, r'⟩) hok hg
/-- an untracked record of ours (an iterator) has turned -/
theorem Inv.turned {t' : Nat} {it : Addr} (I : Inv X pins σ H s) (k : ∀ b o, b ≠ it → s.heap.get? b = some o → h'.get? b = some o) (hn : H it = none) (hL : it ≠ X.env.locals)
    (h1 : it ∈ X.ex ∨ X.s₀.heap.objs.size ≤ it) (h2 : ∀ x c, X.env.cells.lookup x = some c → c ≠ it) (h3 : ∀ p ∈ X.pn ++ pins, p.1 ≠ it) : Inv X pins σ H { s with heap := h', toks := t' } := by
  have nit : ∀ b u, H b = some u → b ≠ it := fun b u e z => by rw [z, hn] at e; cases e
  refine I.step (g' := s.gens) (d' := s.drawn) (ch := [it]) (fun b hb => ?_) (fun b o _ _ hc e _ => k b o (fun z => hc (by simp [z])) e) (fun b o _ _ hc e _ => ⟨o.slots, k b o (fun z => hc (by simp [z])) e⟩) (fun _ _ _ _ n => n)
    (fun b o hc e => ⟨o, k b o (fun z => hc (by simp [z])) e⟩) (fun _ _ e => e) (fun _ _ _ e => e) (fun b ps e => ⟨#[], by rw [e]; simp⟩) (fun m hm => ?_) (fun b u e => ?_) I.bare
  · have e : b = it := by simpa using hb
    subst e
    exact ⟨h1, hL, h2, h3⟩
  · obtain ⟨o, es, ep, ho, r⟩ := hm
    exact ⟨o, es, ep, k _ o (Ne.symm hL) ho, r⟩
  · refine (I.hok b u e).stay (fun c v hc q => k c v ?_ q) (fun _ q => q) fun _ _ q => q
    rcases hc with z | z
    · rw [z]; exact nit b u e
    · exact nit c _ z
theorem Inv.tok (I : Inv X pins σ H s) (t : Nat) : Inv X pins σ H { s with toks := t } := I.un (h' := s.heap) (t' := t) Un.refl I.hok
/-- all objects kept -/
theorem Inv.kept {t' : Nat} (I : Inv X pins σ H s) (k : ∀ b u, s.heap.get? b = some u → h'.get? b = some u) : Inv X pins σ H { s with heap := h', toks := t' } := I.un (Un.kept k) (I.hok.kept k)
/-- a new object laid and tracked -/
theorem Inv.laid {a : Addr} {o : HO} {t' : Nat} (I : Inv X pins σ H s) (k : ∀ b u, s.heap.get? b = some u → h'.get? b = some u) (hp : s.heap.objs.size ≤ a) (new : ObjOk X.prog X.w (upd H a o) h' a o) :
    Inv X pins σ (upd H a o) { s with heap := h', toks := t' } := I.un (Un.laid k hp (I.hok.fresh hp)) (I.hok.laid k hp new)
/-- an object written -/
theorem Inv.write {x e : Addr} {o : HO} {t' : Nat} (I : Inv X pins σ H s) (mu : Mut (H x)) (he : e = x ∨ H e = some (.own x)) (k : ∀ b u, b ≠ e → s.heap.get? b = some u → h'.get? b = some u) (heo : ∃ u, h'.get? e = some u)
    (new : ObjOk X.prog X.w (upd H x o) h' x o) : Inv X pins σ (upd H x o) { s with heap := h', toks := t' } := I.un (Un.write mu he k heo) (I.hok.write mu he k heo new)
/-- forgetting slots, pins -/
theorem Inv.weak {σ' : List (Option V)} (I : Inv X pins σ H s) (hl : σ'.length = σ.length) (w : ∀ (i : Nat) v, σ'[i]? = some (some v) → σ[i]? = some (some v)) : Inv X pins σ' H s :=
  ⟨I.ok, I.os, I.bare, I.base, let ⟨m, hn, hl'⟩ := I.loc; ⟨m, hn, fun i x v e1 e2 e3 => hl' i x v e1 (w i v e2) e3⟩, I.cell, I.free, I.freeC, I.pin, I.hok, hl.trans I.len⟩
theorem Inv.pins_of {pins' : List (Addr × Obj)} (I : Inv X pins σ H s) (h : ∀ p ∈ pins', s.heap.get? p.1 = some p.2 ∧ H p.1 = none ∧ p.1 ≠ X.env.locals ∧ p.1 ∉ X.fs ∧ ∀ v, p.2.data ≠ .cell v) : Inv X pins' σ H s :=
  ⟨I.ok, I.os, I.bare, I.base, I.loc, I.cell, I.free, I.freeC, fun p hp => (List.mem_append.mp hp).elim (fun z => I.pin p (List.mem_append_left _ z)) (h p), I.hok, I.len⟩

theorem nodup_ix {N : List Str} (hN : N.Nodup) {i j : Nat} {x : Str} (a : N[i]? = some x) (b : N[j]? = some x) : i = j := by
  obtain ⟨h1, e1⟩ := List.getElem?_eq_some_iff.mp a
  obtain ⟨h2, e2⟩ := List.getElem?_eq_some_iff.mp b
  exact (List.getElem_inj hN).mp (e1.trans e2.symm)

/-- a name is stored; what changed -/
theorem store_ok2 {M : Model} {A : Around} {E : Value → Shared → Prop} {i : Nat} {x : Str} {v : V} {u : Value} {Q : Unit → Shared → Prop} (I : Inv X pins σ H s) (hN : X.N.Nodup) (hi : X.N[i]? = some x) (hx : Loc X.env.scope x) (r : RelV v u)
    (h : ∀ s', Inv X pins (σ.set i (some v)) H s' → (∃ a, Heap.SameBut a s.heap s'.heap ∧ (a = X.env.locals ∨ X.env.cells.lookup x = some a)) → Q () s') (hf : X.fn x = true ∨ X.env.scope.names.lookup x = some .local := by first | exact .inl rfl | exact .inr rfl | assumption) : wpAny M A (storeName X.env x u) Q E s := by
  obtain ⟨m, hn, hl⟩ := id I.loc
  have hcls : (X.env.scope.kind == .class || (X.env.scope.kind == .module && X.env.locals != X.env.globals)) = false := by rw [I.ok.kind]; rfl
  have hiσ : i < σ.length := by rw [I.len]; exact (List.getElem?_eq_some_iff.mp hi).1
  have cne := I.cne
  have tracked : ∀ {a : Addr} {h' : Heap}, (∃ o, s.heap.get? a = some o ∧ H a = none) → Heap.SameBut a s.heap h' → HOk X.prog X.w H h' := fun {a h'} ha hs b ob e => by
    obtain ⟨_, _, hfree⟩ := ha
    refine (I.hok b ob e).stay (fun c w' hc q => (hs.2 c ?_).trans q) (fun _ q => q) fun _ _ q => q
    rintro rfl
    rcases hc with rfl | hc
    · rw [hfree] at e; cases e
    · rw [hfree] at hc; cases hc
  rcases hx with hk | hk
  · refine wpAny_storeName_local hk hn (fun h' hn' hs => ?_) hcls
    obtain ⟨oL, _, _, hoL, _⟩ := id hn
    refine h _ ⟨I.ok, I.os, I.bare, ⟨fun b o e n hb hx => ?_, fun b o e n hb hx => ?_, I.base.free, fun b o e hx => ?_, I.base.tups, I.base.frzs, I.base.tbls⟩, ⟨_, hn', fun j y v' e1 e2 e3 => ?_⟩, fun y c e => ?_, I.free, I.freeC, fun p hp => ?_, tracked ⟨oL, hoL, I.free⟩ hs, by simpa using I.len⟩ ⟨_, hs, .inl rfl⟩
    · exact (hs.2 b (Nat.ne_of_lt (Nat.lt_of_lt_of_le (Heap.lt_size e) I.ok.above))).trans (I.base.keep b o e n hb hx)
    · obtain ⟨sl, e1⟩ := I.base.slot b o e n hb hx
      exact ⟨sl, (hs.2 b (Nat.ne_of_lt (Nat.lt_of_lt_of_le (Heap.lt_size e) I.ok.above))).trans e1⟩
    · obtain ⟨o', e1⟩ := I.base.there b o e hx
      exact ⟨o', (hs.2 b (Nat.ne_of_lt (Nat.lt_of_lt_of_le (Heap.lt_size e) I.ok.above))).trans e1⟩
    · by_cases hj : j = i
      · subst hj
        rw [hi] at e1; cases e1
        rw [List.getElem?_set_self hiσ] at e2
        cases e2
        exact ⟨u, r, .inl ⟨hk, by simp⟩⟩
      · rw [List.getElem?_set_ne (Ne.symm hj)] at e2
        obtain ⟨u', r', q⟩ := hl j y v' e1 e2 e3
        refine ⟨u', r', ?_⟩
        rcases q with ⟨k, e⟩ | ⟨k, c, e, z⟩
        · refine .inl ⟨k, ?_⟩
          have : y ≠ x := fun e => hj (nodup_ix hN e1 (e ▸ hi))
          simp [this, e]
        · exact .inr ⟨k, c, e, z.sameBut hs (cne y c e)⟩
    · obtain ⟨w', z⟩ := I.cell y c e
      exact ⟨w', z.sameBut hs (cne y c e)⟩
    · obtain ⟨e, n, ne, nf, d⟩ := I.pin p hp
      exact ⟨(hs.2 p.1 ne).trans e, n, ne, nf, d⟩
  · have hfn : X.fn x = true := by
      rcases hf with z | z
      · exact z
      · rw [z] at hk; cases hk
    obtain ⟨c, hc⟩ := I.ok.has x (.inl hk)
    obtain ⟨w', z⟩ := I.cell x c hc
    refine wpAny_storeName_cell I.ok.kind hk hc z (fun h' hc' hs => ?_)
    obtain ⟨oc, hoc, hocd⟩ := id z
    refine h { s with heap := h' } ⟨I.ok, I.os, I.bare, ⟨fun b o e n hb hx => ?_, fun b o e n hb hx => ?_, I.base.free, fun b o e hx => ?_, I.base.tups, I.base.frzs, I.base.tbls⟩, ⟨m, hn.sameBut hs (Ne.symm (cne x c hc)), fun j y v' e1 e2 e3 => ?_⟩, fun y c' e => ?_, I.free, I.freeC, fun p hp => ?_, tracked ⟨oc, hoc, I.freeC x c hc⟩ hs, by simpa using I.len⟩ ⟨c, hs, .inr hc⟩
    · exact (hs.2 b (Nat.ne_of_lt (Nat.lt_of_lt_of_le (Heap.lt_size e) (I.ok.cab x c hfn hc)))).trans (I.base.keep b o e n hb hx)
    · obtain ⟨sl, e1⟩ := I.base.slot b o e n hb hx
      exact ⟨sl, (hs.2 b (Nat.ne_of_lt (Nat.lt_of_lt_of_le (Heap.lt_size e) (I.ok.cab x c hfn hc)))).trans e1⟩
    · obtain ⟨o', e1⟩ := I.base.there b o e hx
      exact ⟨o', (hs.2 b (Nat.ne_of_lt (Nat.lt_of_lt_of_le (Heap.lt_size e) (I.ok.cab x c hfn hc)))).trans e1⟩
    · by_cases hj : j = i
      · subst hj
        rw [hi] at e1; cases e1
        rw [List.getElem?_set_self hiσ] at e2
        cases e2
        exact ⟨u, r, .inr ⟨.inl hk, c, hc, hc'⟩⟩
      · rw [List.getElem?_set_ne (Ne.symm hj)] at e2
        obtain ⟨u', r', q⟩ := hl j y v' e1 e2 e3
        refine ⟨u', r', ?_⟩
        rcases q with q | ⟨k, c', e, z'⟩
        · exact .inl q
        · refine .inr ⟨k, c', e, z'.sameBut hs ?_⟩
          rintro rfl
          exact hj (nodup_ix hN e1 (I.ok.inj _ _ _ e hc ▸ hi))
    · by_cases hcc : c' = c
      · subst hcc; exact ⟨_, hc'⟩
      · obtain ⟨w2, z2⟩ := I.cell y c' e
        exact ⟨w2, z2.sameBut hs hcc⟩
    · obtain ⟨e, n, ne, nf, d⟩ := I.pin p hp
      refine ⟨(hs.2 p.1 ?_).trans e, n, ne, nf, d⟩
      intro q
      rw [q, hoc] at e
      have q' : oc = p.2 := Option.some.inj e
      exact d w' (by rw [← q']; exact hocd)
theorem store_ok {M : Model} {A : Around} {E : Value → Shared → Prop} {i : Nat} {x : Str} {v : V} {u : Value} {Q : Unit → Shared → Prop} (I : Inv X pins σ H s) (hN : X.N.Nodup) (hi : X.N[i]? = some x) (hx : Loc X.env.scope x) (r : RelV v u)
    (h : ∀ s', Inv X pins (σ.set i (some v)) H s' → Q () s') (hf : X.fn x = true ∨ X.env.scope.names.lookup x = some .local := by first | exact .inl rfl | exact .inr rfl | assumption) : wpAny M A (storeName X.env x u) Q E s :=
  store_ok2 I hN hi hx r (fun s' I' _ => h s' I') hf
/-- behind a call or a block, the state as it is -/
theorem Inv.call' {s' : Shared} {ch : List Addr} (I : Inv X pins σ H s) (ho : s'.os = s.os) (u : Un (frs X.stack) ch H H' s.heap s'.heap) (hok : HOk X.prog X.w H' s'.heap) (hg : AllBare s'.gens)
    (hch : ∀ b ∈ ch, (b ∈ X.ex ∨ X.s₀.heap.objs.size ≤ b) ∧ b ≠ X.env.locals ∧ (∀ x c, X.env.cells.lookup x = some c → c ≠ b) ∧ ∀ p ∈ X.pn ++ pins, p.1 ≠ b) : Inv X pins σ H' s' := by
  obtain ⟨h', g', d', t', o'⟩ := s'
  have e : o' = s.os := ho
  subst e
  exact I.call (g' := g') (t' := t') (d' := d') u hok hg hch
end

/-- an exception: its class, its own dict's address (where it has one), the abstract heap behind it -/
abbrev XK := Value → Option Addr → Hp → Prop
abbrev St := List (Option V)
abbrev VK := V → Hp → Prop
/-- an expression's reading; a test's; an argument list's -/
abbrev TE := St → Hp → VK → Prop
abbrev TT := St → Hp → (Bool → Hp → Prop) → Prop
abbrev TA := St → Hp → (List V → Hp → Prop) → Prop
/-- what is wanted behind a statement -/
structure Ends where
  nx : St → Hp → Prop
  rt : VK
  bk : St → Hp → Prop := fun _ _ => False
  ct : St → Hp → Prop := fun _ _ => False
abbrev TS := Ends → St → Hp → Prop

def EP (X : Cx) (pins : List (Addr × Obj)) (σ : St) (Q : VK) (u : Value) (s' : Shared) : Prop := ∃ v H', Inv X pins σ H' s' ∧ RelV v u ∧ Q v H'
def TP (X : Cx) (pins : List (Addr × Obj)) (σ : St) (Q : Bool → Hp → Prop) (b : Bool) (s' : Shared) : Prop := ∃ H', Inv X pins σ H' s' ∧ Q b H'
def AP (X : Cx) (pins : List (Addr × Obj)) (σ : St) (Q : List V → Hp → Prop) (us : List Value) (s' : Shared) : Prop := ∃ vs H', Inv X pins σ H' s' ∧ Vals vs us ∧ Q vs H'
def SP (X : Cx) (pins : List (Addr × Obj)) (D : Ends) (f : Flow) (s' : Shared) : Prop :=
  match f with
  | .next => ∃ σ' H', Inv X pins σ' H' s' ∧ D.nx σ' H'
  | .brk => ∃ σ' H', Inv X pins σ' H' s' ∧ D.bk σ' H'
  | .cont => ∃ σ' H', Inv X pins σ' H' s' ∧ D.ct σ' H'
  | .ret u => ∃ v σ' H', Inv X pins σ' H' s' ∧ RelV v u ∧ D.rt v H'

def PE (X : Cx) (e : Expr) (t : TE) : Prop :=
  ∀ (pins : List (Addr × Obj)) (s : Shared) (σ : St) (H : Hp) (Q : VK), Inv X pins σ H s → t σ H Q → wpAny (model X.prog X.w) X.A (eval e X.env) (EP X pins σ Q) X.xe s
def PT (X : Cx) (e : Expr) (t : TT) : Prop :=
  ∀ (pins : List (Addr × Obj)) (s : Shared) (σ : St) (H : Hp) (Q : Bool → Hp → Prop), Inv X pins σ H s → t σ H Q → wpAny (model X.prog X.w) X.A (isTrue e X.env (eval e X.env)) (TP X pins σ Q) X.xe s
/-- a test whatever its 'whole' is (and, or) -/
def PW (X : Cx) (e : Expr) (t : TT) : Prop :=
  ∀ (whole : Sem Value) (pins : List (Addr × Obj)) (s : Shared) (σ : St) (H : Hp) (Q : Bool → Hp → Prop), Inv X pins σ H s → t σ H Q → wpAny (model X.prog X.w) X.A (isTrue e X.env whole) (TP X pins σ Q) X.xe s
theorem PW.pt {X : Cx} {e : Expr} {t : TT} (h : PW X e t) : PT X e t := h _
/-- an argument list (no star), from the left -/
def PA (X : Cx) (es : List Expr) (t : TA) : Prop :=
  ∀ (pos : Pos) (pins : List (Addr × Obj)) (s : Shared) (σ : St) (H : Hp) (Q : List V → Hp → Prop), Inv X pins σ H s → t σ H Q → wpAny (model X.prog X.w) X.A (spliced (backTo pos (starEach es X.env))) (AP X pins σ Q) X.xe s
def PS (X : Cx) (st : Stmt) (t : TS) : Prop :=
  ∀ (pins : List (Addr × Obj)) (s : Shared) (σ : St) (H : Hp) (D : Ends), Inv X pins σ H s → t D σ H → wpAny (model X.prog X.w) X.A (exec st X.env) (SP X pins D) X.xe s
def PSs (X : Cx) (st : List Stmt) (t : TS) : Prop :=
  ∀ (pins : List (Addr × Obj)) (s : Shared) (σ : St) (H : Hp) (D : Ends), Inv X pins σ H s → t D σ H → wpAny (model X.prog X.w) X.A (execs st X.env) (SP X pins D) X.xe s
/-- weaken the end -/
theorem thn {α : Type} {t : Sem α} {Q Q' : α → Shared → Prop} {M : Model} {A : Around} {E : Value → Shared → Prop} {s : Shared} (h : wpAny M A t Q E s) (hQ : ∀ a s, Q a s → Q' a s) : wpAny M A t Q' E s := wpAny_mono h hQ fun _ _ x => x
end L2

namespace L2
open PySem PySem.Spec PyProof.Rows
section
variable {X : Cx}

def tVar (i : Nat) : TE := fun σ H Q => ∃ v, σ[i]? = some (some v) ∧ Q v H
def tC (v : V) : TE := fun _ H Q => Q v H
theorem pe_var {i : Nat} {x : Str} {pos : Pos} (hN : X.N[i]? = some x) (hv : Vis X.env.scope x) (hd : (x == ("__debug__" : Str)) = false := by decide) (hcd : (x == ("__classdict__" : Str)) = false := by decide) : PE X (.Name x pos) (tVar i) := by
  intro pins s σ H Q I h
  obtain ⟨v, e, h⟩ := h
  obtain ⟨m, hn, hl⟩ := I.loc
  obtain ⟨u, r, l⟩ := hl i x v hN e hv
  have fin : EP X pins σ Q u s := ⟨v, H, I, r, h⟩
  rcases l with ⟨hk, hm⟩ | ⟨hk, c, hc, hcell⟩
  · exact wpAny_Name (wpAny_loadName_local I.ok.kind hk hn hm fin) hd
  · rcases hk with hk | hk
    · exact wpAny_Name (wpAny_loadName_cell I.ok.kind hk hc hcell fin) hd
    · exact wpAny_Name (wpAny_loadName_free I.ok.kind hk hc hcell fin hcd) hd
theorem pe_int {i j pos} : PE X (.Constant (.int i) j pos) (tC (.int i)) := fun _ _ _ H _ I h => wpAny_Constant_int ⟨.int i, H, I.tok _, ⟨_, rfl⟩, h⟩
theorem pe_bl {b j pos} : PE X (.Constant (.bool b) j pos) (tC (.bl b)) := fun _ _ _ H _ I h => Constant_bool ⟨.bl b, H, I, rfl, h⟩
/-- a global name of the def -/
def Gl (X : Cx) (x : Str) : Prop := X.env.kindOf x = some .globalImplicit
theorem ld_glob {E : Value → Shared → Prop} {pins : List (Addr × Obj)} {s : Shared} {σ : St} {H : Hp} {x : Str} {u : Value} {pos : Pos} {Q : Value → Shared → Prop} (I : Inv X pins σ H s) (hg : Gl X x) (hm : X.mg x = some u) (h : Q u s)
    (hd : (x == ("__debug__" : Str)) = false := by decide) : wpAny (model X.prog X.w) X.A (eval (.Name x pos) X.env) Q E s :=
  Calls.Name_function_global I.ok.kind hg (Calls.loadGlobal_global (by rw [I.ok.glob]; exact I.mod.glob.keeps I.bk) hm h) hd
theorem ld_blt {E : Value → Shared → Prop} {pins : List (Addr × Obj)} {s : Shared} {σ : St} {H : Hp} {x : Str} {u : Value} {pos : Pos} {Q : Value → Shared → Prop} (I : Inv X pins σ H s) (hg : Gl X x) (hm : X.mg x = none) (hv : bootBuiltins x = some u) (h : Q u s)
    (hn : x ≠ "__name__" := by decide) (hd : (x == ("__debug__" : Str)) = false := by decide) : wpAny (model X.prog X.w) X.A (eval (.Name x pos) X.env) Q E s := by
  obtain ⟨mb, h1, h2⟩ := I.mod.blt
  exact Calls.Name_function_global I.ok.kind hg (Calls.loadGlobal_builtin (by rw [I.ok.glob]; exact I.mod.glob.keeps I.bk) hm (by rw [I.ok.blt]; exact h1.keeps I.bk) ((h2 x hn).trans hv) h) hd
/-- a module's constant, a class, a function, as a value -/
theorem pe_glob {x : Str} {v : V} {u : Value} {pos : Pos} (hg : Gl X x) (hm : X.mg x = some u) (r : RelV v u) (hd : (x == ("__debug__" : Str)) = false := by decide) : PE X (.Name x pos) (tC v) :=
  fun _ _ _ H _ I h => ld_glob I hg hm ⟨v, H, I, r, h⟩ hd
variable {a b : Expr} {ta tb : TE} {pos : Pos}
def PC (X : Cx) (op : CmpOp) (a b : Expr) (t : TE) : Prop :=
  ∀ (pins : List (Addr × Obj)) (s : Shared) (σ : St) (H : Hp) (Q : VK), Inv X pins σ H s → t σ H Q →
    wpAny (model X.prog X.w) X.A (eval a X.env) (fun v s₁ => wpAny (model X.prog X.w) X.A (eval b X.env) (fun u s₂ => wpAny (model X.prog X.w) X.A (compareOp op v u) (EP X pins σ Q) X.xe s₂) X.xe s₁) X.xe s
/-- a comparison as a value, as a test -/
def tB (t : TE) : TT := fun σ H Q => t σ H fun x H1 => ∃ c, x = .bl c ∧ Q c H1
theorem pt_cmp {op : CmpOp} {t : TE} (h : PC X op a b t) (h1 : behindInMarks op b = false := by first | exact nobehind _ (by decide) (by decide) | rfl) : PT X (.Compare a [op] [b] pos) (tB t) := by
  intro pins s σ H Q I hw
  refine wpAny_isTrue_Compare1 (thn (h pins s σ H _ I hw) fun v s1 h1 => thn h1 fun u s2 h2 => thn h2 fun c s3 ⟨x, H1, I1, r1, q1⟩ => ?_) h1
  obtain ⟨d, rfl, q⟩ := q1
  cases r1
  exact wpAny_truthy_bool ⟨H1, I1, q⟩
/-- an expression whose value is a bool, as a test -/
theorem pt_val {e : Expr} {t : TE} (h : PE X e t) (he : ∀ whole, isTrue e X.env whole = (do let v ← whole; standAt e.pos; holding [v] (truthy v)) := by intro _; rfl) : PT X e (tB t) := by
  intro pins s σ H Q I hw
  refine isTrue_plain (thn (h pins s σ H _ I hw) fun v s1 ⟨x, H1, I1, r1, q1⟩ => ?_) (he _)
  obtain ⟨d, rfl, q⟩ := q1
  cases r1
  exact wpAny_truthy_bool ⟨H1, I1, q⟩

variable {tA tB' : TT} {rest : List Expr}
def tAnd (t u : TT) : TT := fun σ H Q => t σ H fun c H1 => if c = true then u σ H1 Q else Q false H1
def tOr (t u : TT) : TT := fun σ H Q => t σ H fun c H1 => if c = true then Q true H1 else u σ H1 Q
def tNot (t : TT) : TT := fun σ H Q => t σ H fun c H1 => Q (!c) H1
theorem pw_and1 (ha : PT X a tA) : PW X (.BoolOp .And [a] pos) tA := by
  intro wh pins s σ H Q I h
  refine isTrue_and (thn (ha pins s σ H Q I h) fun c s1 e => ?_)
  cases c with
  | true => exact isTrue_and_nil e
  | false => exact e
theorem pw_or1 (ha : PT X a tA) : PW X (.BoolOp .Or [a] pos) tA := by
  intro wh pins s σ H Q I h
  refine isTrue_or (thn (ha pins s σ H Q I h) fun c s1 e => ?_)
  cases c with
  | false => exact isTrue_or_nil e
  | true => exact e
theorem pw_and (ha : PT X a tA) (hb : PW X (.BoolOp .And (b :: rest) pos) tB') : PW X (.BoolOp .And (a :: b :: rest) pos) (tAnd tA tB') := by
  intro wh pins s σ H Q I h
  refine isTrue_and (thn (ha pins s σ H _ I h) fun c s1 ⟨H1, I1, q1⟩ => ?_)
  cases c with
  | true => exact hb wh pins s1 σ H1 Q I1 q1
  | false => exact ⟨H1, I1, q1⟩
theorem pw_or (ha : PT X a tA) (hb : PW X (.BoolOp .Or (b :: rest) pos) tB') : PW X (.BoolOp .Or (a :: b :: rest) pos) (tOr tA tB') := by
  intro wh pins s σ H Q I h
  refine isTrue_or (thn (ha pins s σ H _ I h) fun c s1 ⟨H1, I1, q1⟩ => ?_)
  cases c with
  | true => exact ⟨H1, I1, q1⟩
  | false => exact hb wh pins s1 σ H1 Q I1 q1
theorem pt_not (ha : PT X a tA) : PT X (.UnaryOp .Not a pos) (tNot tA) := by
  intro pins s σ H Q I h
  exact isTrue_not (ha pins s σ H (fun c H1 => Q (!c) H1) I h)
/-- .. as values (bools) -/
def tAndV (ta tb : TE) : TE := fun σ H Q => ta σ H fun x H1 => ∃ c, x = .bl c ∧ if c = true then tb σ H1 Q else Q (.bl false) H1
def tOrV (ta tb : TE) : TE := fun σ H Q => ta σ H fun x H1 => ∃ c, x = .bl c ∧ if c = true then Q (.bl true) H1 else tb σ H1 Q
def tNotV (ta : TE) : TE := fun σ H Q => ta σ H fun x H1 => ∃ c, x = .bl c ∧ Q (.bl (!c)) H1
theorem pe_one {op} {t : TE} (h : PE X a t) : PE X (.BoolOp op [a] pos) t := fun pins s σ H Q I hw => BoolOp_one (h pins s σ H Q I hw)
theorem pe_and (ha : PE X a ta) (hb : PE X (.BoolOp .And (b :: rest) pos) tb) : PE X (.BoolOp .And (a :: b :: rest) pos) (tAndV ta tb) := by
  intro pins s σ H Q I h
  refine BoolOp_and (thn (ha pins s σ H _ I h) fun v s1 ⟨x, H1, I1, r1, q1⟩ => ?_)
  obtain ⟨c, rfl, q1⟩ := q1
  cases r1
  refine wpAny_truthy_bool ?_
  cases c with
  | true => exact hb pins s1 σ H1 Q I1 q1
  | false => exact ⟨.bl false, H1, I1, rfl, q1⟩
theorem pe_or (ha : PE X a ta) (hb : PE X (.BoolOp .Or (b :: rest) pos) tb) : PE X (.BoolOp .Or (a :: b :: rest) pos) (tOrV ta tb) := by
  intro pins s σ H Q I h
  refine BoolOp_or (thn (ha pins s σ H _ I h) fun v s1 ⟨x, H1, I1, r1, q1⟩ => ?_)
  obtain ⟨c, rfl, q1⟩ := q1
  cases r1
  refine wpAny_truthy_bool ?_
  cases c with
  | false => exact hb pins s1 σ H1 Q I1 q1
  | true => exact ⟨.bl true, H1, I1, rfl, q1⟩
theorem pe_not (ha : PE X a ta) : PE X (.UnaryOp .Not a pos) (tNotV ta) := by
  intro pins s σ H Q I h
  refine UnaryOp_ (thn (ha pins s σ H _ I h) fun v s1 ⟨x, H1, I1, r1, q1⟩ => ?_)
  obtain ⟨c, rfl, q1⟩ := q1
  cases r1
  exact not_of (wpAny_truthy_bool ⟨.bl (!c), H1, I1, rfl, q1⟩)
end
end L2

namespace L2
open PySem PySem.Spec PyProof.Rows

def SqL (K : PySem.W.Frag) (H : Hp) (a : Addr) (xs : List V) : Prop :=
  Rd H a (.lst xs) ∨
    ∃ (o : Obj) (its : Array Value) (n : Nat), K.lookup a = some o ∧ o.cls = .type "list" ∧ o.dict = none ∧ o.data = .seq its n ∧ its.size ≤ sizeLine ∧ Vals xs its.toList
def SqT (K : PySem.W.Frag) (H : Hp) (a : Addr) (xs : List V) : Prop :=
  Rd H a (.tup xs) ∨
    ∃ (o : Obj) (its : Array Value) (n : Nat), K.lookup a = some o ∧ o.cls = .type "tuple" ∧ o.data = .seq its n ∧ its.size ≤ sizeLine ∧ Vals xs its.toList
def absV : Value → Option V
  | .none => some .non
  | .bool b => some (.bl b)
  | .int i _ => some (.int i)
  | .str x _ => some (.str x)
  | .bytes b _ => some (.byt b)
  | .float b _ => some (.flt b)
  | .ref a => some (.ref a)
  | .type n => some (.ty n)
  | _ => none
theorem RelV.abs {x : V} {u : Value} (r : RelV x u) : absV u = some x := by
  cases x with
  | non => cases r; rfl
  | bl _ => cases r; rfl
  | int _ => obtain ⟨t, rfl⟩ := r; rfl
  | str _ => obtain ⟨t, rfl⟩ := r; rfl
  | byt _ => obtain ⟨t, rfl⟩ := r; rfl
  | flt _ => obtain ⟨t, rfl⟩ := r; rfl
  | ref _ => cases r; rfl
  | ty _ => cases r; rfl
theorem RelV.inj {x y : V} {u : Value} (r : RelV x u) (q : RelV y u) : x = y := Option.some.inj (r.abs.symm.trans q.abs)
theorem Vals.inj : ∀ {xs ys : List V} {us : List Value}, Vals xs us → Vals ys us → xs = ys
  | _, _, _, .nil, .nil => rfl
  | _, _, _, .cons r t, .cons r' t' => by rw [r.inj r', Vals.inj t t']
section
variable {X : Cx} {pins : List (Addr × Obj)} {σ : St} {H : Hp} {s : Shared} {a : Addr} {xs ys : List V}
theorem SqL.of {K : PySem.W.Frag} (h : H a = some (.lst xs)) : SqL K H a xs := .inl (.inl h)
theorem SqT.of {K : PySem.W.Frag} (h : H a = some (.tup xs)) : SqT K H a xs := .inl (.inl h)
theorem Inv.list (I : Inv X pins σ H s) (h : SqL X.K H a xs) : ∃ its : List Value, Vals xs its ∧ PlainL s.heap a its.toArray ∧ xs.length ≤ sizeLine := by
  rcases h with h | ⟨o, its, n, hk, hc, hd, hs, hz, r⟩
  · obtain ⟨z, its, n, r, e⟩ := h.ok I.hok
    exact ⟨its, r, ⟨_, n, e, rfl, rfl, rfl⟩, z⟩
  · refine ⟨its.toList, r, ⟨o, n, I.kIn a o hk, hc, hd, by simpa using hs⟩, ?_⟩
    have e := r.length
    simp only [Array.length_toList] at e
    omega
theorem Inv.tuple (I : Inv X pins σ H s) (h : SqT X.K H a xs) : ∃ its : List Value, Vals xs its ∧ IsTup s.heap a its.toArray ∧ xs.length ≤ sizeLine := by
  rcases h with h | ⟨o, its, n, hk, hc, hs, hz, r⟩
  · obtain ⟨z, its, r, p⟩ := h.ok I.hok
    exact ⟨its, r, p, z⟩
  · refine ⟨its.toList, r, ⟨o, I.kIn a o hk, hc, n, by simpa using hs⟩, ?_⟩
    have e := r.length
    simp only [Array.length_toList] at e
    omega
theorem Inv.list_inj (I : Inv X pins σ H s) (h : SqL X.K H a xs) (h' : SqL X.K H a ys) : xs = ys := by
  obtain ⟨its, r, ⟨o, n, e, _, _, d⟩, _⟩ := I.list h
  obtain ⟨its', r', ⟨o', n', e', _, _, d'⟩, _⟩ := I.list h'
  rw [e] at e'; cases e'
  rw [d] at d'
  injection d' with d1 _
  have : its = its' := by simpa using congrArg Array.toList d1
  subst this
  exact r.inj r'
end

abbrev Cx.wish (X : Cx) (E : Value → Shared → Prop) : Cx := { X with xe := E }
/-- no exception leaves -/
abbrev Cx.nox (X : Cx) : Cx := X.wish fun _ _ => False
theorem Cx.Ok.wish {X : Cx} (ok : X.Ok) (E : Value → Shared → Prop) : (X.wish E).Ok :=
  ⟨ok.mod, ok.kind, ok.glob, ok.blt, ok.above, ok.inj, ok.has, ok.cab, ok.hd, ok.frames, ok.stk, ok.exf, ok.bs, ok.bsz, ok.noex, ok.exfs, ok.funs, ok.frf⟩
theorem Cx.Ok.unwish {X : Cx} {E : Value → Shared → Prop} (ok : (X.wish E).Ok) : X.Ok :=
  ⟨ok.mod, ok.kind, ok.glob, ok.blt, ok.above, ok.inj, ok.has, ok.cab, ok.hd, ok.frames, ok.stk, ok.exf, ok.bs, ok.bsz, ok.noex, ok.exfs, ok.funs, ok.frf⟩
section
variable {X : Cx} {pins : List (Addr × Obj)} {σ : St} {H : Hp} {s : Shared} {E : Value → Shared → Prop}
theorem Inv.wish (I : Inv X pins σ H s) (E : Value → Shared → Prop) : Inv (X.wish E) pins σ H s := ⟨I.ok.wish E, I.os, I.bare, I.base, I.loc, I.cell, I.free, I.freeC, I.pin, I.hok, I.len⟩
theorem Inv.unwish (I : Inv (X.wish E) pins σ H s) : Inv X pins σ H s := ⟨I.ok.unwish, I.os, I.bare, I.base, I.loc, I.cell, I.free, I.freeC, I.pin, I.hok, I.len⟩
theorem SP.unwish {D : Ends} {f : Flow} {s' : Shared} (h : SP (X.wish E) pins D f s') : SP X pins D f s' := by
  cases f with
  | next => obtain ⟨σ', H', I, q⟩ := h; exact ⟨σ', H', I.unwish, q⟩
  | brk => obtain ⟨σ', H', I, q⟩ := h; exact ⟨σ', H', I.unwish, q⟩
  | cont => obtain ⟨σ', H', I, q⟩ := h; exact ⟨σ', H', I.unwish, q⟩
  | ret u => obtain ⟨v, σ', H', I, r, q⟩ := h; exact ⟨v, σ', H', I.unwish, r, q⟩
theorem PSs.nox {st : List Stmt} {t : TS} (h : PSs X.nox st t) : PSs X st t := fun pins s σ H D I hw =>
  wpAny_mono (h pins s σ H D (I.wish _) hw) (fun _ _ q => q.unwish) fun _ _ z => False.elim z
end

section
variable {X : Cx} {st : Stmt} {rest : List Stmt} {t u : TS} {e : Expr} {te : TE} {pos : Pos}
def tNext : TS := fun D σ H => D.nx σ H
def tSeq (t u : TS) : TS := fun D σ H => t { D with nx := u D } σ H
theorem pss_nil : PSs X [] tNext := fun _ _ σ H _ I h => wpAny_execs_nil ⟨σ, H, I, h⟩
theorem pss_cons (h1 : PS X st t) (h2 : PSs X rest u) : PSs X (st :: rest) (tSeq t u) := by
  intro pins s σ H D I h
  refine wpAny_execs_cons (thn (h1 pins s σ H { D with nx := u D } I h) fun f s1 q => ?_)
  cases f with
  | next =>
    obtain ⟨σ', H', I', q⟩ := q
    exact h2 pins s1 σ' H' D I' q
  | ret v => exact q
  | brk => exact q
  | cont => exact q
theorem pss_one (h1 : PS X st t) : PSs X [st] t := by
  intro pins s σ H D I h
  refine wpAny_execs_cons (thn (h1 pins s σ H D I h) fun f s1 q => ?_)
  cases f with
  | next => exact wpAny_execs_nil q
  | ret v => exact q
  | brk => exact q
  | cont => exact q
/-- in a def's body nothing is shown -/
theorem Inv.quiet {pins : List (Addr × Obj)} {σ : St} {H : Hp} {s : Shared} (I : Inv X pins σ H s) : interactive X.env = false := by simp [interactive, I.ok.kind]
/-- an expression whose value is dropped -/
def tDrop (te : TE) : TS := fun D σ H => te σ H fun _ H1 => D.nx σ H1
theorem ps_expr (he : PE X e te) (hs : swapsWith e none pos.line X.env = pure false := by rfl) : PS X (.Expr e pos) (tDrop te) := by
  intro pins s σ H D I h
  exact wpAny_Expr_any (thn (he pins s σ H _ I h) fun v s1 ⟨x, H1, I1, r1, q1⟩ => ⟨σ, H1, I1, q1⟩) I.quiet hs
def tRet (te : TE) : TS := fun D σ H => te σ H D.rt
theorem ps_ret (he : PE X e te) : PS X (.Return (some e) pos) (tRet te) := by
  intro pins s σ H D I h
  exact wpAny_Return_some (thn (he pins s σ H _ I h) fun v s1 ⟨x, H1, I1, r1, q1⟩ => ⟨x, σ, H1, I1, r1, q1⟩)
def tIfS (c : TT) (t u : TS) : TS := fun D σ H => c σ H fun b H1 => if b = true then t D σ H1 else u D σ H1
theorem ps_if {c : Expr} {a b : List Stmt} {tc : TT} (hc : PT X c tc) (ha : PSs X a t) (hb : PSs X b u) : PS X (.If c a b pos) (tIfS tc t u) := by
  intro pins s σ H D I h
  refine wpAny_If (thn (hc pins s σ H _ I h) fun d s1 ⟨H1, I1, q1⟩ => ?_)
  cases d with
  | true => exact ha pins s1 σ H1 D I1 q1
  | false => exact hb pins s1 σ H1 D I1 q1
end

abbrev TG := V → St → Hp → (St → Hp → Prop) → Prop
abbrev TGs := List V → St → Hp → (St → Hp → Prop) → Prop
def PG (X : Cx) (target : Expr) (t : TG) : Prop :=
  ∀ (pins : List (Addr × Obj)) (s : Shared) (σ : St) (H : Hp) (v : V) (u : Value) (Q : St → Hp → Prop), Inv X pins σ H s → RelV v u → t v σ H Q →
    wpAny (model X.prog X.w) X.A (assign target X.env u) (fun _ s' => ∃ σ' H', Inv X pins σ' H' s' ∧ Q σ' H') X.xe s
/-- several targets, one after another -/
def PGs (X : Cx) (ts : List Expr) (t : TGs) : Prop :=
  ∀ (pins : List (Addr × Obj)) (s : Shared) (σ : St) (H : Hp) (vs : List V) (us : List Value) (Q : St → Hp → Prop), Inv X pins σ H s → Vals vs us → t vs σ H Q →
    wpAny (model X.prog X.w) X.A (assignInOrder ((assignEach ts X.env).map (·.2)) us) (fun _ s' => ∃ σ' H', Inv X pins σ' H' s' ∧ Q σ' H') X.xe s
/-- o[i] = v, by values -/
abbrev TSet := V → V → V → Hp → (Hp → Prop) → Prop
def PSet (X : Cx) (t : TSet) : Prop :=
  ∀ (pins : List (Addr × Obj)) (s : Shared) (σ : St) (H : Hp) (o i v : V) (ov iv u : Value) (Q : Hp → Prop), Inv X pins σ H s → RelV o ov → RelV i iv → RelV v u → t o i v H Q →
    wpAny (model X.prog X.w) X.A (setItem ov iv u) (fun _ s' => ∃ H', Inv X pins σ H' s' ∧ Q H') X.xe s
section
variable {X : Cx} {pos : Pos}
def gName (i : Nat) : TG := fun v σ H Q => Q (σ.set i (some v)) H
theorem pg_name {i : Nat} {x : Str} (hN : X.N.Nodup) (hi : X.N[i]? = some x) (hx : Loc X.env.scope x) (hf : X.fn x = true ∨ X.env.scope.names.lookup x = some .local := by first | exact .inl rfl | exact .inr rfl | assumption) : PG X (.Name x pos) (gName i) := by
  intro pins s σ H v u Q I r h
  exact wpAny_assign_Name (store_ok I hN hi hx r (fun s' I' => ⟨_, H, I', h⟩) hf)
def gNil : TGs := fun vs σ H Q => vs = [] ∧ Q σ H
def gCons (t : TG) (u : TGs) : TGs := fun vs σ H Q => ∃ v r, vs = v :: r ∧ t v σ H fun σ' H' => u r σ' H' Q
theorem pgs_nil : PGs X [] gNil := by
  intro pins s σ H vs us Q I r h
  obtain ⟨e, h⟩ := h
  subst e
  cases r
  exact assignInOrder_nil ⟨σ, H, I, h⟩
theorem pgs_cons {e : Expr} {es : List Expr} {t : TG} {u : TGs} (h1 : PG X e t) (h2 : PGs X es u)
    (hs : (assignEach (e :: es) X.env).map (·.2) = assign e X.env :: (assignEach es X.env).map (·.2) := by rfl) : PGs X (e :: es) (gCons t u) := by
  intro pins s σ H vs us Q I r h
  obtain ⟨v, vr, e1, h⟩ := h
  subst e1
  cases r with
  | cons r rr =>
    rw [hs]
    refine assignInOrder_cons (thn (h1 pins s σ H _ _ _ I r h) fun _ s1 ⟨σ1, H1, I1, q1⟩ => ?_)
    exact h2 pins s1 σ1 H1 _ _ Q I1 rr q1
/-- (a, b, ..) = a tuple of that length -/
def gTup (K : PySem.W.Frag) (n : Nat) (t : TGs) : TG := fun v σ H Q => ∃ a xs, v = .ref a ∧ SqT K H a xs ∧ xs.length = n ∧ t xs σ H Q
theorem pg_tup {es : List Expr} {k : Nat} {t : TGs} {n : Nat} (hc : X.calm = true) (h : PGs X es t)
    (hn : (assignEach es X.env).length = n := by rfl) (hst : (assignEach es X.env).findIdx? (·.1) = none := by rfl) : PG X (.Tuple es k pos) (gTup X.K n t) := by
  intro pins s σ H v u Q I r hw
  obtain ⟨a, xs, e1, hq, hl, hw⟩ := hw
  subst e1
  cases r
  obtain ⟨its, rv, ht, hz⟩ := I.tuple hq
  refine assign_Tuple_tuple (I.ok.hd hc) ht (by simp [hn, ← hl, rv.length]) hst fun h' hx => ?_
  have I1 : Inv X pins σ H { s with heap := h' } := I.kept (t' := s.toks) fun b o e => hx b o (Nat.ne_of_lt (Heap.lt_size e)) e
  exact h pins _ σ H xs _ Q I1 (by simpa using rv) hw
/-- o[i] = .. -/
def gSub (to ti : TE) (t : TSet) : TG := fun v σ H Q => to σ H fun o H1 => ti σ H1 fun i H2 => t o i v H2 fun H3 => Q σ H3
theorem pg_sub {o i : Expr} {to ti : TE} {t : TSet} (ho : PE X o to) (hi : PE X i ti) (hs : PSet X t)
    (ha : ∀ v, assign (.Subscript o i pos) X.env v = (do
      let ov ← holding [v] (eval o X.env)
      let iv ← holding [v, ov] (eval i X.env)
      standAt pos
      holding [v, ov, iv] (setItem ov iv v)
      release [v, ov, iv] []) := by intro _; rfl) : PG X (.Subscript o i pos) (gSub to ti t) := by
  intro pins s σ H v u Q I r h
  rw [ha]
  refine wpAny_bind (wpAny_holding (thn (ho pins s σ H _ I h) fun ov s1 ⟨x, H1, I1, r1, q1⟩ => ?_))
  refine wpAny_bind (wpAny_holding (thn (hi pins s1 σ H1 _ I1 q1) fun iv s2 ⟨y, H2, I2, r2, q2⟩ => ?_))
  refine wpAny_bind (wpAny_standAt (wpAny_bind (wpAny_holding (thn (hs pins s2 σ H2 x y v ov iv u _ I2 r1 r2 r q2) fun _ s3 ⟨H3, I3, q3⟩ => ?_))))
  exact wpAny_release ⟨σ, H3, I3, q3⟩
/-- target = value -/
def tAsg (te : TE) (g : TG) : TS := fun D σ H => te σ H fun x H1 => g x σ H1 D.nx
theorem ps_asg {tg e : Expr} {te : TE} {g : TG} (he : PE X e te) (hg : PG X tg g) (hs : swapsWithSole [tg] e pos.line X.env = pure false := by rfl) (hw : swappedStores [tg] e X.env = pure none := by rfl)
    (h1 : (assignEach [tg] X.env).map (·.2) = [assign tg X.env] := by rfl) : PS X (.Assign [tg] e pos) (tAsg te g) := by
  intro pins s σ H D I h
  refine wpAny_Assign_stores (thn (he pins s σ H _ I h) fun v s1 ⟨x, H1, I1, r1, q1⟩ => ?_) hs hw
  rw [h1]
  exact thn (hg pins s1 σ H1 x v _ I1 r1 q1) fun _ s2 q => q
/-- name = value -/
theorem ps_set {i : Nat} {x : Str} {e : Expr} {te : TE} {pos' : Pos} (hN : X.N.Nodup) (hi : X.N[i]? = some x) (hx : Loc X.env.scope x) (he : PE X e te) (hs : swapsWith e (some (.Name x pos')) pos.line X.env = pure false := by rfl) (hf : X.fn x = true ∨ X.env.scope.names.lookup x = some .local := by first | exact .inl rfl | exact .inr rfl | assumption) :
    PS X (.Assign [.Name x pos'] e pos) (tAsg te (gName i)) := by
  intro pins s σ H D I h
  refine wpAny_Assign_Name (thn (he pins s σ H _ I h) fun v s1 ⟨y, H1, I1, r1, q1⟩ => ?_) hs
  exact store_ok I1 hN hi hx r1 (fun s2 I2 => ⟨_, H1, I2, q1⟩) hf
end

section
variable {X : Cx} {pos : Pos}
/-- the invariant W with its measure -/
def tWhile (c : TT) (tb : TS) : TS := fun D σ H => ∃ W : Nat → St → Hp → Prop, (∃ m, W m σ H) ∧ ∀ m σ H, W m σ H →
  c σ H fun b H1 => if b = true then ∃ N : St → Hp → Prop, (∀ σ' H', N σ' H' → ∃ m', m' < m ∧ W m' σ' H') ∧ tb { D with nx := N, ct := N, bk := D.nx } σ H1 else D.nx σ H1
theorem ps_while {c : Expr} {body : List Stmt} {tc : TT} {tb : TS} (hp : PassesOwn (model X.prog X.w) X.A X.env X.xe) (hc : PT X c tc) (hb : PSs X body tb) : PS X (.While c body [] pos) (tWhile tc tb) := by
  intro pins s σ H D I h
  obtain ⟨W, ⟨m0, w0⟩, turn⟩ := h
  refine wpAny_While (codeAny_whileLoop (fun n s' => ∃ σ' H', Inv X pins σ' H' s' ∧ W n σ' H') ?_ m0 ⟨σ, H, I, w0⟩)
  rintro n s1 ⟨σ1, H1, I1, w1⟩
  refine wpAny_passesOwn hp (thn (hc pins s1 σ1 H1 _ I1 (turn n σ1 H1 w1)) fun b s2 ⟨H2, I2, q2⟩ => ?_)
  cases b with
  | true =>
    obtain ⟨N, hN, q2⟩ := q2
    rw [if_pos rfl]
    refine wpAny_passesOwn hp (thn (hb pins s2 σ1 H2 _ I2 q2) fun f s3 q3 => ?_)
    cases f with
    | next =>
      obtain ⟨σ3, H3, I3, n3⟩ := q3
      obtain ⟨m', hm, w3⟩ := hN σ3 H3 n3
      exact ⟨m', hm, σ3, H3, I3, w3⟩
    | cont =>
      obtain ⟨σ3, H3, I3, n3⟩ := q3
      obtain ⟨m', hm, w3⟩ := hN σ3 H3 n3
      exact ⟨m', hm, σ3, H3, I3, w3⟩
    | brk => exact q3
    | ret v => exact q3
  | false =>
    rw [if_neg Bool.false_ne_true]
    exact wpAny_execs_nil ⟨σ1, H2, I2, q2⟩
end

/-- at turn i: it yields x (the heap may grow), or it stops -/
structure It where
  go : Nat → Hp → Prop
  yld : Nat → Hp → V → Hp → Prop
  stop : Nat → Hp → Prop
/-- the iterator's own objects may turn: they are not the frame's, not pinned, younger than the entry (or a comprehension's own) -/
def FpOk (X : Cx) (pins : List (Addr × Obj)) (H : Hp) (b : Addr) : Prop :=
  H b = none ∧ b ≠ X.env.locals ∧ b ∉ X.fs ∧ (b ∈ X.ex ∨ X.s₀.heap.objs.size ≤ b) ∧ (∀ x c, X.env.cells.lookup x = some c → c ≠ b) ∧ ∀ p ∈ X.pn ++ pins, p.1 ≠ b
theorem Inv.fpOk {X : Cx} {pins : List (Addr × Obj)} {σ : St} {H H' : Hp} {s : Shared} {b : Addr} (I : Inv X pins σ H s) (hb : s.heap.objs.size ≤ b) (hn : H' b = none) : FpOk X pins H' b := by
  refine ⟨hn, Nat.ne_of_gt (Nat.lt_of_lt_of_le I.lt hb), I.nofs hb, .inr (Nat.le_trans I.sz hb), fun x c e z => ?_, fun p hp z => ?_⟩
  · obtain ⟨v, q⟩ := I.cell x c e
    exact absurd (Nat.lt_of_lt_of_le q.lt (by rw [z]; exact hb)) (Nat.lt_irrefl _)
  · exact absurd (Nat.lt_of_lt_of_le (Heap.lt_size (I.pin p hp).1) (by rw [z]; exact hb)) (Nat.lt_irrefl _)
structure Turn (P : Program) (w : World) (K : PySem.W.Frag) (tg : Expr) (J : It) (fp : List Addr) (it : Addr) (tn : Nat → Heap → Prop) : Prop where
  mem : it ∈ fp
  obj : ∀ i h, tn i h → ∀ b ∈ fp, ∃ o, h.get? b = some o ∧ ∀ v, o.data ≠ .cell v
  keep : ∀ i h h', tn i h → (∀ b ∈ fp, ∀ o, h.get? b = some o → h'.get? b = some o) → tn i h'
  item : ∀ (X : Cx), X.prog = P → X.w = w → X.K = K → X.calm = true → ∀ (i : Nat) (pins : List (Addr × Obj)) (s : Shared) (σ : St) (H : Hp) (E : Value → Shared → Prop), Inv X pins σ H s → (∀ b ∈ fp, FpOk X pins H b) → tn i s.heap → J.go i H →
    wpAny (model P w) X.A (pyNext (.ref it)) (fun r s1 => ∃ u, r = some u ∧
      wpAny (model P w) X.A (letOwnedTupleGo tg (.ref it) u) (fun _ s2 => ∃ x H', Inv X pins σ H' s2 ∧ RelV x u ∧ J.yld i H x H' ∧ tn (i + 1) s2.heap ∧ ∀ b ∈ fp, H' b = none) E s1) E s
  done : ∀ (X : Cx), X.prog = P → X.w = w → X.K = K → X.calm = true → ∀ (i : Nat) (pins : List (Addr × Obj)) (s : Shared) (σ : St) (H : Hp) (E : Value → Shared → Prop), Inv X pins σ H s → (∀ b ∈ fp, FpOk X pins H b) → tn i s.heap → J.stop i H →
    wpAny (model P w) X.A (pyNext (.ref it)) (fun r s1 => r = none ∧ Inv X pins σ H s1) E s
  self : ∀ (A : Around) (i : Nat) (s : Shared) (Q : Value → Shared → Prop) (E : Value → Shared → Prop), tn i s.heap → Q (.ref it) s → wpAny (model P w) A (pyIter (.ref it)) Q E s
abbrev TI := St → Hp → (It → Hp → Prop) → Prop
/-- an iterator has come -/
def PIE (X : Cx) (pins : List (Addr × Obj)) (σ : St) (tg : Expr) (R : It → Hp → Prop) (itv : Value) (s2 : Shared) : Prop :=
  ∃ (it : Addr) (fp : List Addr) (tn : Nat → Heap → Prop) (J : It) (H' : Hp), itv = .ref it ∧ Inv X pins σ H' s2 ∧ Turn X.prog X.w X.K tg J fp it tn ∧ tn 0 s2.heap ∧ (∀ b ∈ fp, FpOk X pins H' b) ∧ R J H'
def PI (X : Cx) (tg iter : Expr) (wi : TI) : Prop :=
  ∀ (pins : List (Addr × Obj)) (s : Shared) (σ : St) (H : Hp) (R : It → Hp → Prop), Inv X pins σ H s → wi σ H R →
    wpAny (model X.prog X.w) X.A (eval iter X.env) (fun v s1 => wpAny (model X.prog X.w) X.A (pyIter v) (PIE X pins σ tg R) X.xe s1) X.xe s

/-- the step ahead of the store is nothing for an iterator that keeps no tuple -/
theorem go_of {M : Model} {A : Around} {E : Value → Shared → Prop} {s : Shared} {tg : Expr} {it : Addr} {u : Value} {o : Obj} {n : String} {vs : Array Value} {Q : Unit → Shared → Prop} (ho : s.heap.get? it = some o) (hc : o.cls = .type n) (hd : o.data = .fields vs)
    (hn : ["enumerate", "zip", "dict_itemiterator", "dict_reverseitemiterator", "odict_iterator", "itertools.zip_longest", "itertools.pairwise"].contains n = false) (hQ : Q () s) : wpAny M A (letOwnedTupleGo tg (.ref it) u) Q E s := by
  unfold letOwnedTupleGo
  cases tg <;> first
    | exact wpAny_pure hQ
    | (cases u <;> first
        | exact wpAny_pure hQ
        | (refine wpAny_bind (wpAny_load ho ?_)
           rw [hc, hd]
           show wpAny M A (if (["enumerate", "zip", "dict_itemiterator", "dict_reverseitemiterator", "odict_iterator", "itertools.zip_longest", "itertools.pairwise"].contains n && vs[0]? == some (rawInt _)) = true then _ else _) Q E s
           rw [if_neg (by intro h; rw [hn, Bool.false_and] at h; cases h)]
           exact wpAny_pure hQ))

/-- the list at a, as it stands at each turn (a loop may append to it) -/
def Itl (K : PySem.W.Frag) (a : Addr) : It :=
  ⟨fun i H => ∃ xs x, SqL K H a xs ∧ xs[i]? = some x, fun i H x H' => H' = H ∧ ∀ xs, SqL K H a xs → xs[i]? = some x, fun i H => ∃ xs, SqL K H a xs ∧ xs.length ≤ i⟩
/-- lo, lo + 1, .. (n of them) -/
def Itr (lo : Int) (n : Nat) : It := ⟨fun i _ => i < n, fun i H x H' => H' = H ∧ x = .int (lo + i), fun i _ => n ≤ i⟩
theorem turn_list {P : Program} {w : World} {K : PySem.W.Frag} {tg : Expr} (a it : Addr) : Turn P w K tg (Itl K a) [it] it (fun i h => h.IsListIter it a i) where
  mem := by simp
  obj := fun i h st b hb => by
    have e : b = it := by simpa using hb
    subst e
    obtain ⟨o, e, c, d⟩ := st
    exact ⟨o, e, fun v z => by rw [d] at z; cases z⟩
  keep := fun i h h' st k => st.at fun o e => k it (by simp) o e
  item := by
    intro X hP hw hK hc i pins s σ H E I hf st hg
    subst hP hw hK
    obtain ⟨xs, x, hq, hx⟩ := hg
    obtain ⟨its, rv, p, hz⟩ := I.list hq
    obtain ⟨u, hu, ru⟩ := rv.get hx
    obtain ⟨f0, f1, f2, f3, f4, f5⟩ := hf it (by simp)
    refine wpAny_pyNext_list_item st p.isList (x := u) (by simpa using hu) fun h' st' sb => ?_
    have I1 : Inv X pins σ H { s with heap := h' } := I.turned (t' := s.toks) (fun b o hb e => (sb.2 b hb).trans e) f0 f1 f3 f4 f5
    obtain ⟨o, e, c, d⟩ := id st'
    exact ⟨u, rfl, go_of (s := { s with heap := h' }) e c d (by decide) ⟨x, H, I1, ru, ⟨rfl, fun ys hy => by rw [I.list_inj hy hq]; exact hx⟩, st', fun b hb => (hf b hb).1⟩⟩
  done := by
    intro X hP hw hK hc i pins s σ H E I hf st hg
    subst hP hw hK
    obtain ⟨xs, hq, hx⟩ := hg
    obtain ⟨its, rv, p, hz⟩ := I.list hq
    obtain ⟨f0, f1, f2, f3, f4, f5⟩ := hf it (by simp)
    have hl := rv.length
    exact wpAny_pyNext_list_end (I.ok.hd hc) st p.isList (by simp; omega) fun h' eb => ⟨rfl, I.turned (t' := s.toks) (fun b o hb e => eb b o hb e) f0 f1 f3 f4 f5⟩
  self := fun _ _ _ _ _ st h => wpAny_pyIter_listiter st h
theorem turn_range {P : Program} {w : World} {K : PySem.W.Frag} {tg : Expr} (it : Addr) (lo : Int) (n : Nat) : Turn P w K tg (Itr lo n) [it] it (fun i h => IsRangeIter h it (lo + (i : Nat) * 1) ((n : Int) - (i : Nat)) 1) where
  mem := by simp
  obj := fun i h st b hb => by
    have e : b = it := by simpa using hb
    subst e
    exact ⟨_, st, fun v z => by
      have z' : Data.fields _ = Data.cell v := z
      cases z'⟩
  keep := fun i h h' st k => k it (by simp) _ st
  item := by
    intro X hP hw hK hc i pins s σ H E I hf st hg
    subst hP hw hK
    obtain ⟨f0, f1, f2, f3, f4, f5⟩ := hf it (by simp)
    have W := Walks.range (prog := X.prog) (w := X.w) (I.ok.hd hc) it lo 1 n
    refine W.item i s _ _ hg st fun v h' tk hv st' kk => ?_
    obtain ⟨t, rfl⟩ := hv
    have I1 : Inv X pins σ H { s with heap := h', toks := tk } := I.turned (fun b o hb e => kk b o (by simpa using hb) e) f0 f1 f3 f4 f5
    refine ⟨_, rfl, go_of (s := { s with heap := h', toks := tk }) (n := "range_iterator") st' rfl rfl (by decide) ⟨.int (lo + i), H, I1, ⟨t, ?_⟩, ⟨rfl, rfl⟩, st', fun b hb => (hf b hb).1⟩⟩
    rw [Int.mul_one]
  done := by
    intro X hP hw hK hc i pins s σ H E I hf st hg
    subst hP hw hK
    obtain ⟨f0, f1, f2, f3, f4, f5⟩ := hf it (by simp)
    exact wpAny_pyNext_range_end (I.ok.hd hc) st (by have : n ≤ i := hg; omega) fun h' eb => ⟨rfl, I.turned (t' := s.toks) (fun b o hb e => eb b o hb e) f0 f1 f3 f4 f5⟩
  self := fun _ _ _ _ _ st h => wpAny_pyIter_rangeiter st h
end L2

namespace L2
open PySem PySem.Spec PyProof.Rows
section
variable {X : Cx} {tg : Expr}
def iList (K : PySem.W.Frag) (tl : TE) : TI := fun σ H R => tl σ H fun x H1 => ∃ a, x = .ref a ∧ (∃ xs, SqL K H1 a xs) ∧ R (Itl K a) H1
theorem pi_list {l : Expr} {tl : TE} (hl : PE X l tl) : PI X tg l (iList X.K tl) := by
  intro pins s σ H R I h
  refine thn (hl pins s σ H _ I h) fun v s1 ⟨x, H1, I1, r1, q1⟩ => ?_
  obtain ⟨a, e, ⟨xs, hq⟩, q⟩ := q1
  subst e
  cases r1
  obtain ⟨its, rv, p, hz⟩ := I1.list hq
  refine wpAny_pyIter_list p.isList ?_
  refine ⟨s1.heap.objs.size, [s1.heap.objs.size], _, _, H1, rfl, I1.kept (t' := s1.toks) fun b o e => Heap.get?_push_of_some _ e, turn_list a _, ⟨_, Heap.get?_push_size _ rfl, rfl, rfl⟩, fun b hb => ?_, q⟩
  have e : b = s1.heap.objs.size := by simpa using hb
  subst e
  exact I1.fpOk (Nat.le_refl _) (I1.hok.fresh (Nat.le_refl _))
/-- a range object just made, walked -/
theorem range_it {pins : List (Addr × Obj)} {σ : St} {H : Hp} {s : Shared} {R : It → Hp → Prop} {E : Value → Shared → Prop} {lo hi : Int} {t u v : Tok} {tk : Nat} (I : Inv X pins σ H s) (h1 : -(2 ^ 62) ≤ lo) (h2 : lo < 2 ^ 62) (h3 : -(2 ^ 62) ≤ hi) (h4 : hi < 2 ^ 62)
    (q : R (Itr lo (hi - lo).toNat) H) : wpAny (model X.prog X.w) X.A (pyIter (.ref s.heap.objs.size)) (PIE X pins σ tg R) E { s with heap := s.heap.push { cls := .type "range", data := .fields #[.int lo t, .int hi u, .int 1 v] }, toks := tk } := by
  refine wpAny_pyIter_range (IsRange.new ..) (small_one h1 h2 h3 h4) ?_
  have I1 : Inv X pins σ H { s with heap := s.heap.push { cls := .type "range", data := .fields #[.int lo t, .int hi u, .int 1 v] }, toks := tk } := I.kept fun b o e => Heap.get?_push_of_some _ e
  refine ⟨(s.heap.push { cls := .type "range", data := .fields #[.int lo t, .int hi u, .int 1 v] }).objs.size, [(s.heap.push { cls := .type "range", data := .fields #[.int lo t, .int hi u, .int 1 v] }).objs.size], _, _, H, rfl,
    I1.kept (t' := tk) fun b o e => Heap.get?_push_of_some _ e, turn_range _ lo (hi - lo).toNat, ?_, fun b hb => ?_, q⟩
  · have e1 : lo + ((0 : Nat) : Int) * 1 = lo := by simp
    have e2 : (((hi - lo).toNat : Nat) : Int) - ((0 : Nat) : Int) = Builtin.Range.rangeSize lo hi 1 := by rw [rangeSize_one]; split <;> omega
    show IsRangeIter _ _ (lo + ((0 : Nat) : Int) * 1) ((((hi - lo).toNat : Nat) : Int) - ((0 : Nat) : Int)) 1
    rw [e1, e2]
    exact Heap.get?_push_size _ rfl
  · have e : b = (s.heap.push { cls := .type "range", data := .fields #[.int lo t, .int hi u, .int 1 v] }).objs.size := by simpa using hb
    subst e
    exact I1.fpOk (Nat.le_refl _) (I1.hok.fresh (Nat.le_refl _))
def iRng1 (ta : TA) : TI := fun σ H R => ta σ H fun vs H1 => ∃ j : Int, vs = [.int j] ∧ -(2 ^ 62) ≤ j ∧ j < 2 ^ 62 ∧ R (Itr 0 j.toNat) H1
theorem pi_range1 {a : Expr} {ta : TA} {p pos : Pos} (hg : Gl X "range") (hm : X.mg "range" = none) (ha : PA X [a] ta) (hs : starEach [a] X.env = [(false, eval a X.env)] := by rfl) : PI X tg (.Call (.Name "range" p) [a] [] pos) (iRng1 ta) := by
  intro pins s σ H R I h
  refine Call_ (ld_blt I hg hm boot_range (PyProof.Rows.callWith_type1 (thn (ha pos pins s σ H _ I h) fun us s1 ⟨vs, H1, I1, r1, q1⟩ => ?_) hs rfl))
  obtain ⟨j, e, q1, q2, q⟩ := q1
  subst e
  cases r1 with
  | cons r rr =>
    cases rr
    obtain ⟨t, rfl⟩ := r
    exact call_range_1 (range_it I1 (by omega) (by omega) q1 q2 (by simpa using q))
/-- W: the invariant by the turn and a measure; N: what the body is to reach -/
def tFor (wi : TI) (g : TG) (tb : TS) : TS := fun D σ H => wi σ H fun J H1 => ∃ W : Nat → Nat → St → Hp → Prop, (∃ m, W 0 m σ H1) ∧ ∀ i m σ H, W i m σ H →
  (J.stop i H ∧ D.nx σ H) ∨ (J.go i H ∧ ∃ N : St → Hp → Prop, (∀ σ' H', N σ' H' → ∃ m', m' < m ∧ W (i + 1) m' σ' H') ∧ ∀ x H', J.yld i H x H' → g x σ H' fun σ2 H2 => tb { D with nx := N, ct := N, bk := D.nx } σ2 H2)
/-- the records at fp as they stand -/
def pinsAt (fp : List Addr) (h : Heap) : List (Addr × Obj) := fp.filterMap fun b => (h.get? b).map fun o => (b, o)
theorem mem_pinsAt {fp : List Addr} {h : Heap} {b : Addr} {o : Obj} (hb : b ∈ fp) (e : h.get? b = some o) : (b, o) ∈ pinsAt fp h := List.mem_filterMap.mpr ⟨b, hb, by rw [e]; rfl⟩
theorem of_pinsAt {fp : List Addr} {h : Heap} {p : Addr × Obj} (hp : p ∈ pinsAt fp h) : p.1 ∈ fp ∧ h.get? p.1 = some p.2 := by
  obtain ⟨b, hb, e⟩ := List.mem_filterMap.mp hp
  cases q : h.get? b with
  | none => rw [q] at e; cases e
  | some o =>
    rw [q] at e
    have e' : (b, o) = p := Option.some.inj e
    subst e'
    exact ⟨hb, q⟩
theorem Inv.pinned {pins : List (Addr × Obj)} {σ : St} {H : Hp} {s : Shared} {fp : List Addr} (I : Inv X pins σ H s) (hf : ∀ b ∈ fp, FpOk X pins H b) (ho : ∀ b ∈ fp, ∃ o, s.heap.get? b = some o ∧ ∀ v, o.data ≠ .cell v) : Inv X (pins ++ pinsAt fp s.heap) σ H s :=
  I.pins_of fun p hp => (List.mem_append.mp hp).elim (fun z => I.pin p (List.mem_append_right _ z)) fun z => by
    obtain ⟨hb, e⟩ := of_pinsAt z
    obtain ⟨f0, f1, f2, _⟩ := hf p.1 hb
    obtain ⟨o, e', d⟩ := ho p.1 hb
    rw [e] at e'; cases e'
    exact ⟨e, f0, f1, f2, d⟩
theorem Inv.unpinned {pins pl : List (Addr × Obj)} {σ : St} {H : Hp} {s : Shared} (I : Inv X (pins ++ pl) σ H s) : Inv X pins σ H s := I.pins_of fun p hp => I.pin p (List.mem_append_right _ (List.mem_append_left _ hp))
theorem ps_for {iter : Expr} {body : List Stmt} {wi : TI} {g : TG} {tb : TS} {pos : Pos} (hp : PassesOwn (model X.prog X.w) X.A X.env X.xe) (hc : X.calm = true) (hi : PI X tg iter wi) (hg : PG X tg g) (hb : PSs X body tb)
    (hs : ∀ x, foldedSetIterable iter X.env x = pure x := by intro _; rfl) : PS X (.For tg iter body [] pos) (tFor wi g tb) := by
  intro pins s σ H D I h
  refine wpAny_For (thn (hi pins s σ H _ I h) fun v s1 h1 => thn h1 fun itv s2 h2 => ?_) hs
  obtain ⟨it, fp, tn, J, H2, e, I2, T, st2, f2, W, ⟨m0, w0⟩, turn⟩ := h2
  subst e
  -- what stays true of the iterator's objects through the loop
  have stat : ∀ {H' : Hp}, (∀ b ∈ fp, H' b = none) → ∀ b ∈ fp, FpOk X pins H' b := fun hn b hb => ⟨hn b hb, (f2 b hb).2⟩
  refine codeAny_forLoop_any (fun n s' => ∃ i σ' H', Inv X pins σ' H' s' ∧ tn i s'.heap ∧ (∀ b ∈ fp, H' b = none) ∧ W i n σ' H') ?_ m0 ⟨0, σ, H2, I2, st2, fun b hb => (f2 b hb).1, w0⟩
  rintro n s3 ⟨i, σ3, H3, I3, st3, fr3, w3⟩
  rcases turn i n σ3 H3 w3 with ⟨stop, qn⟩ | ⟨go, N, hN, step⟩
  · refine wpAny_passesOwn hp (thn (T.done X rfl rfl rfl hc i pins s3 σ3 H3 X.xe I3 (stat fr3) st3 stop) fun r s4 ⟨hr, I4⟩ => ?_)
    subst hr
    exact wpAny_execs_nil ⟨σ3, H3, I4, qn⟩
  · refine wpAny_passesOwn hp (thn (T.item X rfl rfl rfl hc i pins s3 σ3 H3 X.xe I3 (stat fr3) st3 go) fun r s4 ⟨u, hr, h4⟩ => ?_)
    subst hr
    refine wpAny_passesOwn hp (thn h4 fun _ s5 ⟨x, H5, I5, r5, y5, st5, fr5⟩ => ?_)
    have I5' := I5.pinned (stat fr5) (T.obj _ _ st5)
    refine wpAny_passesOwn hp (thn (hg _ s5 σ3 H5 x u _ I5' r5 (step x H5 y5)) fun _ s6 ⟨σ6, H6, I6, q6⟩ => ?_)
    refine wpAny_passesOwn hp (thn (hb _ s6 σ6 H6 _ I6 q6) fun f s7 q7 => ?_)
    have again : ∀ {σ7 : St} {H7 : Hp}, Inv X (pins ++ pinsAt fp s5.heap) σ7 H7 s7 → N σ7 H7 → ∃ m, m < n ∧ ∃ i σ' H', Inv X pins σ' H' s7 ∧ tn i s7.heap ∧ (∀ b ∈ fp, H' b = none) ∧ W i m σ' H' := fun {σ7 H7} I7 n7 => by
      obtain ⟨m', hm, w7⟩ := hN σ7 H7 n7
      refine ⟨m', hm, i + 1, σ7, H7, I7.unpinned, T.keep _ _ _ st5 fun b hb o e => (I7.pin (b, o) (List.mem_append_right _ (List.mem_append_right _ (mem_pinsAt hb e)))).1, fun b hb => ?_, w7⟩
      obtain ⟨o, e, d⟩ := T.obj _ _ st5 b hb
      exact (I7.pin (b, o) (List.mem_append_right _ (List.mem_append_right _ (mem_pinsAt hb e)))).2.1
    cases f with
    | next => obtain ⟨σ7, H7, I7, n7⟩ := q7; exact again I7 n7
    | cont => obtain ⟨σ7, H7, I7, n7⟩ := q7; exact again I7 n7
    | brk => obtain ⟨σ7, H7, I7, q7⟩ := q7; exact ⟨σ7, H7, I7.unpinned, q7⟩
    | ret v => obtain ⟨x7, σ7, H7, I7, r7, q7⟩ := q7; exact ⟨x7, σ7, H7, I7.unpinned, r7, q7⟩
end

/-- over a list that the body leaves as it is -/
theorem for_list {K : PySem.W.Frag} {a : Addr} {xs : List V} {g : TG} {tb : TS} {D : Ends} {σ : St} {H : Hp} (Pv : Nat → St → Hp → Prop) (h0 : Pv 0 σ H) (hl : ∀ i σ H, i ≤ xs.length → Pv i σ H → SqL K H a xs)
    (hs : ∀ i x σ H, xs[i]? = some x → Pv i σ H → g x σ H fun σ2 H2 => tb { D with nx := Pv (i + 1), ct := Pv (i + 1), bk := D.nx } σ2 H2) (hd : ∀ σ H, Pv xs.length σ H → D.nx σ H) :
    ∃ W : Nat → Nat → St → Hp → Prop, (∃ m, W 0 m σ H) ∧ ∀ i m σ H, W i m σ H →
      ((Itl K a).stop i H ∧ D.nx σ H) ∨ ((Itl K a).go i H ∧ ∃ N : St → Hp → Prop, (∀ σ' H', N σ' H' → ∃ m', m' < m ∧ W (i + 1) m' σ' H') ∧ ∀ x H', (Itl K a).yld i H x H' → g x σ H' fun σ2 H2 => tb { D with nx := N, ct := N, bk := D.nx } σ2 H2) := by
  refine ⟨fun i m σ H => m = xs.length - i ∧ i ≤ xs.length ∧ Pv i σ H, ⟨xs.length, by simp, Nat.zero_le _, h0⟩, ?_⟩
  rintro i m σ H ⟨rfl, hi, p⟩
  have q := hl i σ H hi p
  by_cases hlt : i < xs.length
  · refine .inr ⟨⟨xs, xs[i], q, by simp [hlt]⟩, Pv (i + 1), fun σ' H' p' => ⟨xs.length - (i + 1), by omega, rfl, hlt, p'⟩, fun x H' y => ?_⟩
    obtain ⟨e, y⟩ := y
    subst e
    exact hs i x σ _ (y xs q) p
  · have e : i = xs.length := by omega
    subst e
    exact .inl ⟨⟨xs, q, Nat.le_refl _⟩, hd σ H p⟩
theorem for_range {lo : Int} {n : Nat} {g : TG} {tb : TS} {D : Ends} {σ : St} {H : Hp} (Pv : Nat → St → Hp → Prop) (h0 : Pv 0 σ H)
    (hs : ∀ i σ H, i < n → Pv i σ H → g (.int (lo + i)) σ H fun σ2 H2 => tb { D with nx := Pv (i + 1), ct := Pv (i + 1), bk := D.nx } σ2 H2) (hd : ∀ σ H, Pv n σ H → D.nx σ H) :
    ∃ W : Nat → Nat → St → Hp → Prop, (∃ m, W 0 m σ H) ∧ ∀ i m σ H, W i m σ H →
      ((Itr lo n).stop i H ∧ D.nx σ H) ∨ ((Itr lo n).go i H ∧ ∃ N : St → Hp → Prop, (∀ σ' H', N σ' H' → ∃ m', m' < m ∧ W (i + 1) m' σ' H') ∧ ∀ x H', (Itr lo n).yld i H x H' → g x σ H' fun σ2 H2 => tb { D with nx := N, ct := N, bk := D.nx } σ2 H2) := by
  refine ⟨fun i m σ H => m = n - i ∧ i ≤ n ∧ Pv i σ H, ⟨n, by simp, Nat.zero_le _, h0⟩, ?_⟩
  rintro i m σ H ⟨rfl, hi, p⟩
  by_cases hlt : i < n
  · refine .inr ⟨hlt, Pv (i + 1), fun σ' H' p' => ⟨n - (i + 1), by omega, rfl, hlt, p'⟩, fun x H' y => ?_⟩
    obtain ⟨e, y⟩ := y
    subst e y
    exact hs i σ _ hlt p
  · have e : i = n := by omega
    subst e
    exact .inl ⟨Nat.le_refl _, hd σ H p⟩
end L2

namespace L2
open PySem PySem.Spec PyProof.Rows

abbrev R2 := V → V → Hp → VK → Prop
/-- a two-place operation on values: f is binaryOp op, inplaceOp op or compareOp op -/
def OpR (X : Cx) (f : Value → Value → Sem Value) (r : R2) : Prop :=
  ∀ (pins : List (Addr × Obj)) (s : Shared) (σ : St) (H : Hp) (x y : V) (v u : Value) (Q : VK), Inv X pins σ H s → RelV x v → RelV y u → r x y H Q →
    wpAny (model X.prog X.w) X.A (f v u) (EP X pins σ Q) X.xe s
/-- a one-place operation -/
def UnR (X : Cx) (f : Value → Sem Value) (r : V → Hp → VK → Prop) : Prop :=
  ∀ (pins : List (Addr × Obj)) (s : Shared) (σ : St) (H : Hp) (x : V) (v : Value) (Q : VK), Inv X pins σ H s → RelV x v → r x H Q →
    wpAny (model X.prog X.w) X.A (f v) (EP X pins σ Q) X.xe s
/-- a call of a value that is known (a builtin, a type) with values -/
def CallR (X : Cx) (f : Value) (r : List V → Hp → VK → Prop) : Prop :=
  ∀ (pins : List (Addr × Obj)) (s : Shared) (σ : St) (H : Hp) (xs : List V) (us : List Value) (Q : VK), Inv X pins σ H s → Vals xs us → r xs H Q →
    wpAny (model X.prog X.w) X.A (call f us) (EP X pins σ Q) X.xe s
def tOp (r : R2) (ta tb : TE) : TE := fun σ H Q => ta σ H fun x H1 => tb σ H1 fun y H2 => r x y H2 Q
def tUn (r : V → Hp → VK → Prop) (ta : TE) : TE := fun σ H Q => ta σ H fun x H1 => r x H1 Q
/-- ints in, under C, and a value out -/
def rI (C : Int → Int → Prop) (g : Int → Int → V) : R2 := fun x y H Q => ∃ i j, x = .int i ∧ y = .int j ∧ C i j ∧ Q (g i j) H
def rI0 (g : Int → Int → V) : R2 := fun x y H Q => ∃ i j, x = .int i ∧ y = .int j ∧ Q (g i j) H
def rU (g : Int → V) : V → Hp → VK → Prop := fun x H Q => ∃ i, x = .int i ∧ Q (g i) H

section
variable {X : Cx} {a b c : Expr} {ta tb tc : TE} {pos : Pos}

theorem binT (ha : PE X a ta) (hb : PE X b tb) {pins : List (Addr × Obj)} {s : Shared} {σ : St} {H : Hp} {R : V → V → Hp → Prop} (I : Inv X pins σ H s)
    (h : ta σ H fun x H1 => tb σ H1 fun y H2 => R x y H2) {Q : Value → Shared → Prop} {f : Value → Value → Sem Value}
    (hf : ∀ v u s2 x y H2, Inv X pins σ H2 s2 → RelV x v → RelV y u → R x y H2 → wpAny (model X.prog X.w) X.A (f v u) Q X.xe s2) :
    wpAny (model X.prog X.w) X.A (eval a X.env) (fun v s₁ => wpAny (model X.prog X.w) X.A (eval b X.env) (fun u s₂ => wpAny (model X.prog X.w) X.A (f v u) Q X.xe s₂) X.xe s₁) X.xe s := by
  refine thn (ha pins s σ H _ I h) fun v s1 ⟨x, H1, I1, r1, q1⟩ => ?_
  refine thn (hb pins s1 σ H1 _ I1 q1) fun u s2 ⟨y, H2, I2, r2, q2⟩ => ?_
  exact hf v u s2 x y H2 I2 r1 r2 q2

theorem pe_op {op : Operator} {r : R2} (ho : OpR X (binaryOp op) r) (ha : PE X a ta) (hb : PE X b tb) : PE X (.BinOp a op b pos) (tOp r ta tb) := by
  intro pins s σ H Q I h
  exact wpAny_BinOp (binT ha hb I h fun v u s2 x y H2 I2 rx ry q => ho pins s2 σ H2 x y v u Q I2 rx ry q)
theorem pe_un {op : UnaryOp} {r : V → Hp → VK → Prop} (ho : UnR X (unaryOp op) r) (ha : PE X a ta) : PE X (.UnaryOp op a pos) (tUn r ta) := by
  intro pins s σ H Q I h
  exact UnaryOp_ (thn (ha pins s σ H _ I h) fun v s1 ⟨x, H1, I1, r1, q1⟩ => ho pins s1 σ H1 x v Q I1 r1 q1)
theorem opI {f : Value → Value → Sem Value} {C : Int → Int → Prop} {g : Int → Int → Int}
    (rule : ∀ (i j : Int) (t u : Tok) (s : Shared) (Q : Value → Shared → Prop) (E : Value → Shared → Prop), C i j → Q (.int (g i j) s.toks) { s with toks := s.toks + 1 } → wpAny (model X.prog X.w) X.A (f (.int i t) (.int j u)) Q E s) :
    OpR X f (rI C fun i j => .int (g i j)) := by
  intro pins s σ H x y v u Q I rx ry h
  obtain ⟨i, j, rfl, rfl, hc, q⟩ := h
  obtain ⟨t, rfl⟩ := rx
  obtain ⟨t', rfl⟩ := ry
  exact rule i j t t' s _ _ hc ⟨.int (g i j), H, I.tok _, ⟨_, rfl⟩, q⟩
theorem opI0 {f : Value → Value → Sem Value} {g : Int → Int → Int}
    (rule : ∀ (i j : Int) (t u : Tok) (s : Shared) (Q : Value → Shared → Prop) (E : Value → Shared → Prop), Q (.int (g i j) s.toks) { s with toks := s.toks + 1 } → wpAny (model X.prog X.w) X.A (f (.int i t) (.int j u)) Q E s) :
    OpR X f (rI0 fun i j => .int (g i j)) := by
  intro pins s σ H x y v u Q I rx ry h
  obtain ⟨i, j, rfl, rfl, q⟩ := h
  obtain ⟨t, rfl⟩ := rx
  obtain ⟨t', rfl⟩ := ry
  exact rule i j t t' s _ _ ⟨.int (g i j), H, I.tok _, ⟨_, rfl⟩, q⟩
theorem opB0 {f : Value → Value → Sem Value} {g : Int → Int → Bool}
    (rule : ∀ (i j : Int) (t u : Tok) (s : Shared) (Q : Value → Shared → Prop) (E : Value → Shared → Prop), Q (.bool (g i j)) s → wpAny (model X.prog X.w) X.A (f (.int i t) (.int j u)) Q E s) :
    OpR X f (rI0 fun i j => .bl (g i j)) := by
  intro pins s σ H x y v u Q I rx ry h
  obtain ⟨i, j, rfl, rfl, q⟩ := h
  obtain ⟨t, rfl⟩ := rx
  obtain ⟨t', rfl⟩ := ry
  exact rule i j t t' s _ _ ⟨.bl (g i j), H, I, rfl, q⟩

def CDiv (i j : Int) : Prop := 0 < j ∧ j < 1073741824
def CMul (i j : Int) : Prop := (-(2 ^ 64) < i ∧ i < 2 ^ 64) ∨ (-(2 ^ 64) < j ∧ j < 2 ^ 64)
theorem CMul.ok {i j : Int} (h : CMul i j) : IntMulOk i j := by
  rcases h with ⟨h1, h2⟩ | ⟨h1, h2⟩
  · exact .of_left (intBits_le_64 h1 h2)
  · exact .of_right (intBits_le_64 h1 h2)
theorem two_pow_nn (k : Nat) : (0 : Int) ≤ 2 ^ k := by
  rw [two_pow_cast]
  exact Int.natCast_nonneg _

theorem op_add : OpR X (binaryOp .Add) (rI0 fun i j => .int (i + j)) := opI0 fun _ _ _ _ _ _ _ q => add_int q
theorem op_sub : OpR X (binaryOp .Sub) (rI0 fun i j => .int (i - j)) := opI0 fun _ _ _ _ _ _ _ q => sub_int q
theorem op_mul : OpR X (binaryOp .Mult) (rI CMul fun i j => .int (i * j)) := opI fun _ _ _ _ _ _ _ hc q => mul_int q hc.ok
/-- // by a positive divisor -/
theorem op_fdiv : OpR X (binaryOp .FloorDiv) (rI CDiv fun i j => .int (i / j)) := opI fun i j _ _ _ _ _ hc q => by
  have h1 : (0 : Int) < j := hc.1
  have h2 : j < 1073741824 := hc.2
  exact floordiv_int (by omega) (by rw [Int.fdiv_eq_ediv_of_nonneg i (by omega)]; exact q) (.inl (PyProof.noPylong_small (by omega)))
/-- % by a positive divisor of any size -/
theorem op_mod : OpR X (binaryOp .Mod) (rI (fun _ j => 0 < j) fun i j => .int (i % j)) := opI fun i j _ _ _ _ _ hc q => by
  have h1 : (0 : Int) < j := hc
  exact mod_int' (by omega) (by rw [Int.fmod_eq_emod_of_nonneg i (by omega)]; exact q)
theorem op_shr : OpR X (binaryOp .RShift) (rI (fun _ j => 0 ≤ j) fun i j => .int (i / 2 ^ j.toNat)) := opI fun i j _ _ _ _ _ hc q =>
  rshift_int hc (by rw [Int.fdiv_eq_ediv_of_nonneg i (two_pow_nn _)]; exact q)
theorem unI {f : Value → Sem Value} {g : Int → Int}
    (rule : ∀ (i : Int) (t : Tok) (s : Shared) (Q : Value → Shared → Prop) (E : Value → Shared → Prop), Q (.int (g i) s.toks) { s with toks := s.toks + 1 } → wpAny (model X.prog X.w) X.A (f (.int i t)) Q E s) :
    UnR X f (rU fun i => .int (g i)) := by
  intro pins s σ H x v Q I rx h
  obtain ⟨i, rfl, q⟩ := h
  obtain ⟨t, rfl⟩ := rx
  exact rule i t s _ _ ⟨.int (g i), H, I.tok _, ⟨_, rfl⟩, q⟩
theorem un_neg : UnR X (unaryOp .USub) (rU fun i => .int (-i)) := unI fun _ _ _ _ _ q => neg_int q
end

/-- the scalars that == tells apart as data does -/
def scal : V → V → Bool
  | .non, .non => true | .non, .int _ => true | .int _, .non => true | .non, .bl _ => true | .bl _, .non => true | .non, .str _ => true | .str _, .non => true
  | .int _, .int _ => true | .bl _, .bl _ => true | .str _, .str _ => true | .byt _, .byt _ => true
  | .int _, .str _ => true | .str _, .int _ => true | .bl _, .str _ => true | .str _, .bl _ => true
  | _, _ => false
def rEq : R2 := fun x y H Q => scal x y = true ∧ Q (.bl (decide (x = y))) H
def rNe : R2 := fun x y H Q => scal x y = true ∧ Q (.bl (!decide (x = y))) H

theorem dec_int {i j : Int} : decide (V.int i = V.int j) = (i == j) := by
  rw [Bool.eq_iff_iff]
  simp
theorem dec_bl {i j : Bool} : decide (V.bl i = V.bl j) = (i == j) := by
  rw [Bool.eq_iff_iff]
  simp
theorem dec_str {i j : Str} : decide (V.str i = V.str j) = (i == j) := by
  rw [Bool.eq_iff_iff]
  simp
theorem dec_byt {i j : Array UInt8} : decide (V.byt i = V.byt j) = (i.toList == j.toList) := by
  rw [Bool.eq_iff_iff]
  cases i
  cases j
  simp

section
variable {X : Cx} {a b c : Expr} {ta tb tc : TE} {pos : Pos}
theorem fin_bl {pins : List (Addr × Obj)} {σ : St} {H : Hp} {s : Shared} {Q : VK} {k k' : Bool} (I : Inv X pins σ H s) (q : Q (.bl k) H) (e : k = k') : EP X pins σ Q (.bool k') s := by
  subst e
  exact ⟨.bl k, H, I, rfl, q⟩
theorem op_eq : OpR X (compareOp .Eq) rEq := by
  intro pins s σ H x y v u Q I rx ry h
  obtain ⟨hs, q⟩ := h
  cases x with
  | non =>
    cases rx
    cases y with
    | non => cases ry; exact PySem.EqNone.eq_none_none (fin_bl I q (by simp))
    | bl j => cases ry; exact PySem.EqNone.eq_none_bool (fin_bl I q (by simp))
    | int j => obtain ⟨t', rfl⟩ := ry; exact PySem.EqNone.eq_none_int (fin_bl I q (by simp))
    | str j => obtain ⟨t', rfl⟩ := ry; exact PySem.EqNone.eq_none_str (fin_bl I q (by simp))
    | _ => exact absurd (show false = true from hs) Bool.false_ne_true
  | bl i =>
    cases rx
    cases y with
    | non => cases ry; exact PySem.EqNone.eq_bool_none (fin_bl I q (by simp))
    | bl j => cases ry; exact eq_bool (fin_bl I q dec_bl)
    | str j => obtain ⟨t', rfl⟩ := ry; exact PySem.EqMixed.eq_bool_str (fin_bl I q (by simp))
    | _ => exact absurd (show false = true from hs) Bool.false_ne_true
  | int i =>
    obtain ⟨t, rfl⟩ := rx
    cases y with
    | non => cases ry; exact PySem.EqNone.eq_int_none (fin_bl I q (by simp))
    | int j => obtain ⟨t', rfl⟩ := ry; exact eq_int (fin_bl I q dec_int)
    | str j => obtain ⟨t', rfl⟩ := ry; exact PySem.EqMixed.eq_int_str (fin_bl I q (by simp))
    | _ => exact absurd (show false = true from hs) Bool.false_ne_true
  | str i =>
    obtain ⟨t, rfl⟩ := rx
    cases y with
    | non => cases ry; exact PySem.EqNone.eq_str_none (fin_bl I q (by simp))
    | bl j => cases ry; exact PySem.EqMixed.eq_str_bool (fin_bl I q (by simp))
    | int j => obtain ⟨t', rfl⟩ := ry; exact PySem.EqMixed.eq_str_int (fin_bl I q (by simp))
    | str j => obtain ⟨t', rfl⟩ := ry; exact eq_str (fin_bl I q dec_str)
    | _ => exact absurd (show false = true from hs) Bool.false_ne_true
  | byt i =>
    obtain ⟨t, rfl⟩ := rx
    cases y with
    | byt j => obtain ⟨t', rfl⟩ := ry; exact PySem.W.eq_bytes (fin_bl I q dec_byt)
    | _ => exact absurd (show false = true from hs) Bool.false_ne_true
  | _ => cases y <;> exact absurd (show false = true from hs) Bool.false_ne_true
theorem op_ne : OpR X (compareOp .NotEq) rNe := by
  intro pins s σ H x y v u Q I rx ry h
  obtain ⟨hs, q⟩ := h
  cases x with
  | non =>
    cases rx
    cases y with
    | non => cases ry; exact PySem.EqNone.ne_none_none (fin_bl I q (by simp))
    | bl j => cases ry; exact PySem.EqNone.ne_none_bool (fin_bl I q (by simp))
    | int j => obtain ⟨t', rfl⟩ := ry; exact PySem.EqNone.ne_none_int (fin_bl I q (by simp))
    | str j => obtain ⟨t', rfl⟩ := ry; exact PySem.EqNone.ne_none_str (fin_bl I q (by simp))
    | _ => exact absurd (show false = true from hs) Bool.false_ne_true
  | bl i =>
    cases rx
    cases y with
    | non => cases ry; exact PySem.EqNone.ne_bool_none (fin_bl I q (by simp))
    | bl j => cases ry; exact ne_bool (fin_bl I q (congrArg not dec_bl))
    | str j => obtain ⟨t', rfl⟩ := ry; exact PySem.EqMixed.ne_bool_str (fin_bl I q (by simp))
    | _ => exact absurd (show false = true from hs) Bool.false_ne_true
  | int i =>
    obtain ⟨t, rfl⟩ := rx
    cases y with
    | non => cases ry; exact PySem.EqNone.ne_int_none (fin_bl I q (by simp))
    | int j => obtain ⟨t', rfl⟩ := ry; exact ne_int (fin_bl I q (congrArg not dec_int))
    | str j => obtain ⟨t', rfl⟩ := ry; exact PySem.EqMixed.ne_int_str (fin_bl I q (by simp))
    | _ => exact absurd (show false = true from hs) Bool.false_ne_true
  | str i =>
    obtain ⟨t, rfl⟩ := rx
    cases y with
    | non => cases ry; exact PySem.EqNone.ne_str_none (fin_bl I q (by simp))
    | bl j => cases ry; exact PySem.EqMixed.ne_str_bool (fin_bl I q (by simp))
    | int j => obtain ⟨t', rfl⟩ := ry; exact PySem.EqMixed.ne_str_int (fin_bl I q (by simp))
    | str j => obtain ⟨t', rfl⟩ := ry; exact ne_str (fin_bl I q (congrArg not dec_str))
    | _ => exact absurd (show false = true from hs) Bool.false_ne_true
  | byt i =>
    obtain ⟨t, rfl⟩ := rx
    cases y with
    | byt j => obtain ⟨t', rfl⟩ := ry; exact PySem.W.ne_bytes (fin_bl I q (congrArg not dec_byt))
    | _ => exact absurd (show false = true from hs) Bool.false_ne_true
  | _ => cases y <;> exact absurd (show false = true from hs) Bool.false_ne_true

theorem op_lt : OpR X (compareOp .Lt) (rI0 fun i j => .bl (decide (i < j))) := opB0 fun _ _ _ _ _ _ _ q => lt_int q
theorem op_le : OpR X (compareOp .LtE) (rI0 fun i j => .bl (decide (i ≤ j))) := opB0 fun _ _ _ _ _ _ _ q => le_int q
theorem op_gt : OpR X (compareOp .Gt) (rI0 fun i j => .bl (decide (j < i))) := opB0 fun _ _ _ _ _ _ _ q => gt_int q
theorem op_ge : OpR X (compareOp .GtE) (rI0 fun i j => .bl (decide (j ≤ i))) := opB0 fun _ _ _ _ _ _ _ q => ge_int q
theorem nomark (b : Expr) {op : CmpOp} (h : op ≠ .In := by decide) (h2 : op ≠ .NotIn := by decide) : behindInMarks op b = false := by
  have e1 : (op == CmpOp.In) = false := by cases op <;> first | rfl | exact absurd rfl h
  have e2 : (op == CmpOp.NotIn) = false := by cases op <;> first | rfl | exact absurd rfl h2
  cases b <;> simp [behindInMarks, e1, e2]
/-- a comparison as a value; hm: nomark b, or (for in, not in) by with_unfolding_all rfl -/
theorem pe_cmpR {op : CmpOp} {r : R2} (ho : OpR X (compareOp op) r) (ha : PE X a ta) (hb : PE X b tb) (hm : behindInMarks op b = false) : PE X (.Compare a [op] [b] pos) (tOp r ta tb) := by
  intro pins s σ H Q I h
  exact wpAny_Compare1 (binT ha hb I h fun v u s2 x y H2 I2 rx ry q => ho pins s2 σ H2 x y v u Q I2 rx ry q) hm
/-- a reading of a value as a test -/
def tTest (t : TE) : TT := fun σ H Q => t σ H fun x H' => ∃ k, x = .bl k ∧ Q k H'
theorem pt_cmpR {op : CmpOp} {r : R2} (ho : OpR X (compareOp op) r) (ha : PE X a ta) (hb : PE X b tb) (hm : behindInMarks op b = false) : PT X (.Compare a [op] [b] pos) (tTest (tOp r ta tb)) := by
  intro pins s σ H Q I h
  refine wpAny_isTrue_Compare1 (thn (ha pins s σ H _ I h) fun v s1 ⟨x, H1, I1, r1, q1⟩ => thn (hb pins s1 σ H1 _ I1 q1) fun u s2 ⟨y, H2, I2, r2, q2⟩ =>
    thn (ho pins s2 σ H2 x y v u _ I2 r1 r2 q2) fun c s3 ⟨z, H3, I3, r3, k, e, q3⟩ => ?_) hm
  subst e
  cases r3
  exact wpAny_truthy_bool ⟨H3, I3, q3⟩
theorem line63 : (sizeLine : Nat) < 2 ^ 63 := by rw [sizeLine_eq]; decide
theorem vals1 {x : V} {us : List Value} (r : Vals [x] us) : ∃ u, us = [u] ∧ RelV x u := by
  cases r with
  | cons r1 r2 => cases r2; exact ⟨_, rfl, r1⟩
end
end L2

namespace L2
open PySem PySem.Spec PyProof.Rows

structure ObjM (h : Heap) (x dx C : Addr) (mA : Str → Option Value) : Prop where
  obj : h.get? x = some (PySem.W.instObj C dx)
  ns : h.Ns1 dx mA
  ne : dx ≠ x

theorem lookIn_ns {h : Heap} {dx : Addr} {mA : Str → Option Value} (n : h.Ns1 dx mA) : ∃ od, h.get? dx = some od ∧ ∀ name, PySem.W.lookIn name od = some (mA name) := by
  obtain ⟨o, es, ep, ho, hd, hk, _, hm⟩ := n
  refine ⟨o, ho, fun name => ?_⟩
  have e := hm name
  unfold nsFind findBy at e
  rw [← Array.find?_toList] at e
  unfold PySem.W.lookIn
  rw [hd]
  dsimp only
  split
  · rename_i y q
    rw [q] at e
    exact congrArg some e
  · rename_i q
    rw [q] at e
    have a : es.toList.any (·.refKey) = false := by
      rw [List.any_eq_false]
      intro y hy
      obtain ⟨z, t, hkey⟩ := hk y (Array.mem_toList_iff.mp hy)
      simp [DictEntry.refKey, hkey]
    have a' : ¬ es.toList.any (·.refKey) = true := by rw [a]; exact Bool.false_ne_true
    rw [if_neg a']
    exact congrArg some e

theorem ObjM.look {h : Heap} {x dx C : Addr} {mA : Str → Option Value} (I : ObjM h x dx C mA) : ∃ od, PySem.W.InstAt h x (PySem.W.instObj C dx) C (some od) ∧ ∀ name, PySem.W.lookIn name od = some (mA name) :=
  let ⟨od, ho, hl⟩ := lookIn_ns I.ns
  ⟨od, ⟨I.obj, rfl, rfl, ho⟩, hl⟩

section
variable {prog : Program} {w : World} {A : Around} {E : Value → Shared → Prop} {s : Shared} {K : PySem.W.Frag} {x dx C f : Addr} {mA : Str → Option Value} {name : Str} {v : Value}

theorem get_map {expr : Bool} {Q : Value → Shared → Prop} (X : K.In s.heap) (I : ObjM s.heap x dx C mA) (hg : PySem.W.plainGet K C name = true) (hh : PySem.W.hasDictIn K C = true)
    (ha : PySem.W.findIn K (.ref C) name = some none) (hv : mA name = some v) (hv' : PySem.W.handedIn v = true) (h : Q v { s with toks := s.toks + 1 }) :
    wpAny (model prog w) A (getAttr (.ref x) name expr) Q E s := by
  obtain ⟨od, J, hl⟩ := I.look
  exact PySem.W.get_value X J (PySem.W.plainGet_of hg).1 (PySem.W.findObj_own hh ha rfl (by rw [hl, hv])) hv' h

theorem set_map {ns : List Str} {Q : Unit → Shared → Prop} (X : K.In s.heap) (I : ObjM s.heap x dx C mA)
    (hs : PySem.W.findIn K (.ref C) "__setattr__" = some (some (.builtin "object.__setattr__"))) (hp : PySem.W.plainOver K C = true) (ht : PySem.W.takerIn K C name = some none) (hh : PySem.W.hasDictIn K C = true)
    (hw : PySem.Within mA ns) (hsz : ns.length ≤ sizeLine)
    (h : ∀ h', ObjM h' x dx C (fun y => if y = name then some v else mA y) → Heap.SameBut dx s.heap h' → Q () { s with heap := h', toks := s.toks + 2 }) :
    wpAny (model prog w) A (setAttr (.ref x) name v) Q E s := by
  obtain ⟨od, J, hl⟩ := I.look
  refine PySem.W.set_plain X J hs (PySem.W.osa_open (s := { s with toks := s.toks + 1 }) (r := none) X J hp ht fun b => ?_)
  obtain ⟨cd, hc, hd'⟩ := PySem.W.any_some hh
  have hx : s.heap.get? x = some ⟨.ref C, some dx, .plain, #[]⟩ := I.obj
  refine wpAny_bind (wpAny_pure (wpAny_bind (wpAny_bind (wpAny_loadPart hx (wpAny_bind (PySem.W.Looks.here (s := { s with toks := s.toks + 1 }) (PySem.W.looks_clsIn X hc) ?_))))))
  rw [hd']
  refine wpAny_pure (a := some dx) (wpAny_bind (wpAny_pure (wpAny_bind ?_)))
  refine wpAny_nsSet1 (s := { s with toks := s.toks + 1 }) I.ns fun h' hn2 hs2 => ?_
  obtain ⟨oD, esD, epD, hoD, hdD, hcD⟩ := hn2.count (PySem.Within.cons name v hw)
  refine wpAny_bind (wpAny_lookBehind hoD (by rw [hdD]; exact pastItsLine_dict (Nat.le_trans hcD (by rw [List.length_cons]; omega))) ?_)
  exact wpAny_pure (h _ ⟨(hs2.2 _ (Ne.symm I.ne)).trans I.obj, hn2, I.ne⟩ hs2)

/-- C(..): the dict at the heap's end, the instance behind it; then its __init__ -/
theorem make_map {R : Result → Shared → Prop} {vs : List Value} {kw : List (Str × Value)} (X : K.In s.heap) (hm : PySem.W.makesIn K C = true)
    (hi : PySem.W.findIn K (.ref C) "__init__" = some (some (.ref f))) (hf : PySem.W.typeIn K (.ref f) = some (.type "function"))
    (h : codeAny (model prog w) (A.under (.builtin "type.__call__" ⟨.ref C :: vs, kw⟩)) (.call (.ref f) ⟨.ref (s.heap.objs.size + 1) :: vs, kw⟩) (PySem.W.InitBack (s.heap.objs.size + 1) R)
      { s with heap := (s.heap.push PySem.W.emptyDict).push (PySem.W.instObj C s.heap.objs.size) }) :
    codeAny (model prog w) A (.call (.ref C) ⟨vs, kw⟩) R s := by
  obtain ⟨hh, g, d, t, os⟩ := s
  exact PySem.W.make_core (PySem.W.makes_of X hm) (PySem.W.looks_findIn X hi) (fun self => PySem.W.bind_fn X self hf) (.inl rfl) h
end

def putF (f : Str) (v : V) : List (Str × V) → List (Str × V)
  | [] => [(f, v)]
  | (g, x) :: r => if g = f then (g, v) :: r else (g, x) :: putF f v r
theorem lookup_putF (f g : Str) (v : V) : ∀ fs : List (Str × V), (putF f v fs).lookup g = if g = f then some v else fs.lookup g
  | [] => by
    show List.lookup g [(f, v)] = _
    by_cases h : g = f
    · have hb : (g == f) = true := beq_iff_eq.mpr h
      simp only [List.lookup, hb, if_pos h]
    · have hb : (g == f) = false := beq_eq_false_iff_ne.mpr h
      simp only [List.lookup, hb, if_neg h]
  | (k, x) :: r => by
    have ih := lookup_putF f g v r
    rw [show putF f v ((k, x) :: r) = (if k = f then (k, v) :: r else (k, x) :: putF f v r) from rfl]
    by_cases hk : k = f
    · rw [if_pos hk]
      by_cases h : g = k
      · have hb : (g == k) = true := beq_iff_eq.mpr h
        simp only [List.lookup, hb, if_pos (h.trans hk)]
      · have hb : (g == k) = false := beq_eq_false_iff_ne.mpr h
        simp only [List.lookup, hb, if_neg (fun e : g = f => h (e.trans hk.symm))]
    · rw [if_neg hk]
      by_cases h : g = k
      · have hb : (g == k) = true := beq_iff_eq.mpr h
        simp only [List.lookup, hb, if_neg (fun e : g = f => hk (h.symm.trans e))]
      · have hb : (g == k) = false := beq_eq_false_iff_ne.mpr h
        simp only [List.lookup, hb]
        exact ih
theorem keys_putF (f : Str) (v : V) : ∀ fs : List (Str × V), f ∈ (putF f v fs).map (·.1) ∧ ∀ g, g ∈ fs.map (·.1) → g ∈ (putF f v fs).map (·.1)
  | [] => ⟨by simp [putF], fun g h => by simp at h⟩
  | (k, x) :: r => by
    obtain ⟨i1, i2⟩ := keys_putF f v r
    rw [show putF f v ((k, x) :: r) = (if k = f then (k, v) :: r else (k, x) :: putF f v r) from rfl]
    by_cases hk : k = f
    · rw [if_pos hk]
      subst hk
      exact ⟨by simp, fun g h => by simpa using h⟩
    · rw [if_neg hk]
      refine ⟨?_, fun g h => ?_⟩
      · rw [List.map_cons]
        exact List.mem_cons_of_mem _ i1
      · rw [List.map_cons] at h ⊢
        rcases List.mem_cons.mp h with e | e
        · exact List.mem_cons.mpr (.inl e)
        · exact List.mem_cons_of_mem _ (i2 g e)
theorem length_putF (f : Str) (v : V) : ∀ fs : List (Str × V), (putF f v fs).length ≤ fs.length + 1
  | [] => by simp [putF]
  | (k, x) :: r => by
    have ih := length_putF f v r
    rw [show putF f v ((k, x) :: r) = (if k = f then (k, v) :: r else (k, x) :: putF f v r) from rfl]
    by_cases hk : k = f
    · rw [if_pos hk, List.length_cons, List.length_cons]; omega
    · rw [if_neg hk, List.length_cons, List.length_cons]; omega

theorem RelO.some_of {v : V} {o : Option Value} (r : RelO (some v) o) : ∃ u, o = some u ∧ RelV v u := by
  cases o with
  | none => exact (show False from r).elim
  | some u => exact ⟨u, rfl, r⟩
theorem handed_of {v : V} {u : Value} (r : RelV v u) : PySem.W.handedIn u = true := by
  cases v with
  | non => cases (show u = Value.none from r); rfl
  | bl b => cases (show u = Value.bool b from r); rfl
  | int i => obtain ⟨t, e⟩ := (show ∃ t, u = Value.int i t from r); cases e; rfl
  | str x => obtain ⟨t, e⟩ := (show ∃ t, u = Value.str x t from r); cases e; rfl
  | byt b => obtain ⟨t, e⟩ := (show ∃ t, u = Value.bytes b t from r); cases e; rfl
  | flt b => obtain ⟨t, e⟩ := (show ∃ t, u = Value.float b t from r); cases e; rfl
  | ref a => cases (show u = Value.ref a from r); rfl
  | ty n => cases (show u = Value.type n from r); rfl

section
variable {P : Program} {w : World} {H H' : Hp} {h h' : Heap} {a C dx : Addr} {fs fs' : List (Str × V)}
theorem ins_get (hok : HOk P w H h) (e : H a = some (.ins C dx fs)) : ∃ mA, ObjM h a dx C mA ∧ (∀ f, RelO (fs.lookup f) (mA f)) ∧ PySem.Within mA (fs.map (·.1)) ∧ fs.length ≤ 1000 ∧ H dx = some (.own a) := by
  obtain ⟨d, z, ne, ob, mA, n, r, q⟩ := (show ObjOk P w H h a (.ins C dx fs) from hok a _ e)
  exact ⟨mA, ⟨ob, n, ne⟩, r, q, z, d⟩
end

structure Cls (K : PySem.W.Frag) (C : Addr) : Prop where
  pg : PySem.W.plainGet K C Str.empty = true
  hd : PySem.W.hasDictIn K C = true
  po : PySem.W.plainOver K C = true
  sa : PySem.W.findIn K (.ref C) "__setattr__" = some (some (.builtin "object.__setattr__"))
theorem Cls.get {K : PySem.W.Frag} {C : Addr} (c : Cls K C) (f : Str) : PySem.W.plainGet K C f = true := c.pg
/-- no class of it has the name -/
def NoAttr (K : PySem.W.Frag) (C : Addr) (f : Str) : Prop := PySem.W.findIn K (.ref C) f = some none
theorem NoAttr.taker {K : PySem.W.Frag} {C : Addr} {f : Str} (n : NoAttr K C f) : PySem.W.takerIn K C f = some none := by
  unfold PySem.W.takerIn
  rw [show PySem.W.findIn K (.ref C) f = some none from n]
  rfl
section
variable {X : Cx} {pins : List (Addr × Obj)} {σ : St} {H : Hp} {s : Shared} {a C dx : Addr} {fs : List (Str × V)} {f : Str} {v : V} {A : Around} {E : Value → Shared → Prop}

theorem getattr_ok {b : Bool} {Q : Value → Shared → Prop} (I : Inv X pins σ H s) (e : H a = some (.ins C dx fs)) (c : Cls X.K C) (n : NoAttr X.K C f) (l : fs.lookup f = some v)
    (h : ∀ u s', Inv X pins σ H s' → RelV v u → Q u s') : wpAny (model X.prog X.w) A (getAttr (.ref a) f b) Q E s := by
  obtain ⟨mA, O, r, _, _, _⟩ := ins_get I.hok e
  obtain ⟨u, hu, ru⟩ := RelO.some_of (v := v) (o := mA f) (by rw [← l]; exact r f)
  exact get_map I.kIn O (c.get f) c.hd n hu (handed_of ru) (h u _ (I.tok _) ru)

theorem setattr_ok {y : V} {u : Value} {Q : Unit → Shared → Prop} (I : Inv X pins σ H s) (e : H a = some (.ins C dx fs)) (c : Cls X.K C) (n : NoAttr X.K C f) (hl : fs.length < 1000) (ry : RelV y u)
    (h : ∀ s', Inv X pins σ (upd H a (.ins C dx (putF f y fs))) s' → Q () s') : wpAny (model X.prog X.w) A (setAttr (.ref a) f u) Q E s := by
  obtain ⟨mA, O, r, wi, _, ho⟩ := ins_get I.hok e
  have hz : (fs.map (·.1)).length ≤ sizeLine := by rw [List.length_map, sizeLine_eq]; omega
  refine set_map I.kIn O c.sa c.po n.taker c.hd wi hz fun h' O' sb => h _ ?_
  have hd : ∃ o, h'.get? dx = some o := let ⟨o, _, _, e', _⟩ := O'.ns; ⟨o, e'⟩
  refine I.write (x := a) (e := dx) (by rw [e]; exact True.intro) (.inr ho) (fun b q hb z => (sb.2 b hb).trans z) hd ?_
  refine ⟨by rw [upd_ne O.ne]; exact ho, ?_, O.ne, O'.obj, _, O'.ns, fun g => ?_, fun g hg => ?_⟩
  · have := length_putF f y fs; omega
  · show RelO ((putF f y fs).lookup g) (if g = f then some u else mA g)
    rw [lookup_putF]
    by_cases q : g = f
    · rw [if_pos q, if_pos q]; exact ry
    · rw [if_neg q, if_neg q]; exact r g
  · by_cases q : g = f
    · rw [q]; exact (keys_putF f y fs).1
    · refine (keys_putF f y fs).2 g (wi g fun z => hg ?_)
      show (if g = f then some u else mA g) = none
      rw [if_neg q]; exact z

/-- a new instance, tracked, without attributes -/
theorem Inv.made (I : Inv X pins σ H s) : Inv X pins σ (upd (upd H s.heap.objs.size (.own (s.heap.objs.size + 1))) (s.heap.objs.size + 1) (.ins C s.heap.objs.size []))
    { s with heap := (s.heap.push PySem.W.emptyDict).push (PySem.W.instObj C s.heap.objs.size) } := by
  have e1 : (s.heap.push PySem.W.emptyDict).get? s.heap.objs.size = some PySem.W.emptyDict := Heap.get?_push_size s.heap rfl
  have e2 : ((s.heap.push PySem.W.emptyDict).push (PySem.W.instObj C s.heap.objs.size)).get? (s.heap.objs.size + 1) = some (PySem.W.instObj C s.heap.objs.size) := by
    have := Heap.get?_push_size (s.heap.push PySem.W.emptyDict) (o := PySem.W.instObj C s.heap.objs.size) rfl
    rwa [Heap.size_push] at this
  have e3 : (s.heap.push PySem.W.emptyDict).Ns s.heap.objs.size (fun _ => none) := ⟨PySem.W.emptyDict, #[], _, e1, rfl, (fun e he => absurd he (by simp)), fun _ => rfl⟩
  have I1 := I.laid (a := s.heap.objs.size) (o := .own (s.heap.objs.size + 1)) (h' := s.heap.push PySem.W.emptyDict) (t' := s.toks) (fun b u q => Heap.get?_push_of_some _ q) (Nat.le_refl _) ⟨_, e1⟩
  refine I1.laid (a := s.heap.objs.size + 1) (o := .ins C s.heap.objs.size []) (t' := s.toks) (fun b u q => Heap.get?_push_of_some _ q) (Nat.le_of_eq (Heap.size_push _ _)) ?_
  have ne : s.heap.objs.size ≠ s.heap.objs.size + 1 := Nat.ne_of_lt (Nat.lt_succ_self _)
  refine ⟨by rw [upd_ne ne, upd_same], Nat.zero_le _, ne, e2, fun _ => none, (Heap.Ns1.of_empty e3).at fun o q => Heap.get?_push_of_some _ q, fun _ => True.intro, fun y hy => absurd rfl hy⟩

/-- e.f where nothing but the object is asked: through attributeBase (super) and the last hold -/
theorem attr_of {prog : Program} {w : World} {env : Env} {e : Expr} {f : Str} {pos : Pos} {s : Shared} {Q : Value → Shared → Prop} (hb : attributeBase e f env (eval e env) = eval e env)
    (h : wpAny (model prog w) A (eval e env) (fun o s₁ => wpAny (model prog w) A (getAttr o f true) Q E s₁) E s) : wpAny (model prog w) A (eval (.Attribute e f pos) env) Q E s :=
  Attribute_any_ h (by rw [arm_eval_Attribute, hb])
end

/-- e.f, an attribute of the instance -/
def tFld (K : PySem.W.Frag) (ta : TE) (f : Str) : TE := fun σ H Q => ta σ H fun x H1 => ∃ a C dx fs v, x = .ref a ∧ H1 a = some (.ins C dx fs) ∧ Cls K C ∧ NoAttr K C f ∧ fs.lookup f = some v ∧ Q v H1
/-- e.f = value -/
def sFld (K : PySem.W.Frag) (ta tv : TE) (f : Str) : TS := fun D σ H => tv σ H fun y H1 => ta σ H1 fun x H2 => ∃ a C dx fs, x = .ref a ∧ H2 a = some (.ins C dx fs) ∧ Cls K C ∧ NoAttr K C f ∧ fs.length < 1000 ∧
  D.nx σ (upd H2 a (.ins C dx (putF f y fs)))
section
variable {X : Cx} {o e value : Expr} {f : Str} {pos pos' tpos : Pos} {ta tv : TE}
theorem pe_fld (he : PE X e ta) (hb : attributeBase e f X.env (eval e X.env) = eval e X.env) : PE X (.Attribute e f pos) (tFld X.K ta f) := by
  intro pins s σ H Q I h
  refine attr_of hb (thn (he pins s σ H _ I h) fun u s1 ⟨x, H1, I1, rx, a, C, dx, fs, v, ex, ea, c, n, l, q⟩ => ?_)
  subst ex
  obtain rfl : u = Value.ref a := rx
  exact getattr_ok I1 ea c n l fun u' s2 I2 ru => ⟨v, H1, I2, ru, q⟩
theorem ps_fld (ha : PE X o ta) (hv : PE X value tv) (hs : swapsWith value (some (.Attribute o f pos')) pos.line X.env = pure false) : PS X (.Assign [.Attribute o f pos'] value pos) (sFld X.K ta tv f) := by
  intro pins s σ H D I h
  refine plainObj_wpAny_Assign_Attribute (thn (hv pins s σ H _ I h) fun u s1 ⟨y, H1, I1, ry, q⟩ => thn (ha pins s1 σ H1 _ I1 q) fun ov s2 ⟨x, H2, I2, rx, a, C, dx, fs, ex, ea, c, n, l, q2⟩ => ?_) hs
  subst ex
  obtain rfl : ov = Value.ref a := rx
  exact setattr_ok I2 ea c n l ry fun s3 I3 => ⟨σ, _, I3, q2⟩
end

section
variable {X : Cx} {pins : List (Addr × Obj)} {σ : St} {H : Hp} {s : Shared} {A : Around} {E : Value → Shared → Prop} {Q : Value → Shared → Prop} {c : Value} {b : Bool}
end
end L2

namespace L2
open PySem PySem.Spec PyProof.Rows

structure Room (k : Nat) (A : Around) : Prop where
  hd : A.handled = none
  dp : A.depth + 3 * k + 5 < recursionLimit
  un : A.units + 16 * k + 200 < cLine
theorem Room.mono {j k : Nat} {A : Around} (r : Room k A) (h : j ≤ k) : Room j A := ⟨r.hd, by have := r.dp; omega, by have := r.un; omega⟩
theorem Room.deeper {k : Nat} {A : Around} (r : Room (k + 1) A) (env : Env) : Room k (A.deeper env) :=
  ⟨r.hd, by have := r.dp; show A.depth + 1 + 3 * k + 5 < _; omega, by have := r.un; show A.units + 3 + 16 * k + 200 < _; omega⟩
theorem make_depth {A : Around} {C : Addr} {us : List Value} {kw : List (Str × Value)} : (A.under (.builtin "type.__call__" ⟨.ref C :: us, kw⟩)).depth = A.depth + 1 := by
  first | rfl | simp [Around.under, Code.weight, Code.isCreation, Code.isGuard, Code.isCaller, Code.frames, Code.isFrame, guardIds]
theorem make_units {A : Around} {C : Addr} {us : List Value} {kw : List (Str × Value)} : (A.under (.builtin "type.__call__" ⟨.ref C :: us, kw⟩)).units = A.units + 1 := by
  first | rfl | simp [Around.under, Code.cUnits, Code.frames, Code.isFrame]
theorem Room.make {k : Nat} {A : Around} (r : Room (k + 1) A) (C : Addr) (us : List Value) (kw : List (Str × Value)) : Room k (A.under (.builtin "type.__call__" ⟨.ref C :: us, kw⟩)) :=
  ⟨r.hd, by have := r.dp; rw [make_depth]; omega, by have := r.un; rw [make_units]; omega⟩
theorem Room.depth {k : Nat} {A : Around} (r : Room k A) : A.depth < recursionLimit := by have := r.dp; omega
theorem Room.units {k : Nat} {A : Around} (r : Room k A) : A.units + 64 < cLine := by have := r.un; omega
def tNil : TA := fun _ H Q => Q [] H
def tCons (ta : TE) (tr : TA) : TA := fun σ H Q => ta σ H fun x H1 => tr σ H1 fun xs H2 => Q (x :: xs) H2
section
variable {X : Cx} {e : Expr} {es : List Expr} {te : TE} {t : TA} {pos : Pos}
theorem pa_nil : PA X [] tNil := fun _ _ _ _ H Q I h => Calls.spliced_nil ⟨[], H, I, .nil, h⟩
theorem pa_cons (ha : PE X e te) (hr : PA X es t) (hs : starEach (e :: es) X.env = (false, eval e X.env) :: starEach es X.env := by rfl) : PA X (e :: es) (tCons te t) := by
  intro pos pins s σ H Q I h
  rw [hs]
  show wpAny _ _ (spliced ((false, eval e X.env) :: backTo pos (starEach es X.env))) _ _ s
  refine Calls.spliced_cons (thn (ha pins s σ H _ I h) fun u s1 ⟨x, H1, I1, r1, q1⟩ => ?_)
  exact thn (hr pos pins s1 σ H1 _ I1 q1) fun us s2 ⟨xs, H2, I2, r2, q2⟩ => ⟨x :: xs, H2, I2, .cons r1 r2, q2⟩

/-- a tuple, a list of written items -/
def tTup (t : TA) : TE := fun σ H Q => t σ H fun xs H1 => xs.length ≤ sizeLine ∧ ∀ p, H1 p = none → Q (.ref p) (upd H1 p (.tup xs))
def tLst (t : TA) : TE := fun σ H Q => t σ H fun xs H1 => xs.length ≤ sizeLine ∧ ∀ p, H1 p = none → Q (.ref p) (upd H1 p (.lst xs))
theorem pe_tup {x1} (h : PA X es t) : PE X (.Tuple es x1 pos) (tTup t) := by
  intro pins s σ H Q I hq
  refine wpAny_Tuple_spliced (thn (h pos pins s σ H _ I hq) fun us s1 ⟨xs, H1, I1, r, z, q⟩ => ⟨by rw [← r.length]; exact z, ?_⟩)
  have hf : H1 s1.heap.objs.size = none := I1.hok.fresh (Nat.le_refl _)
  refine ⟨.ref s1.heap.objs.size, upd H1 s1.heap.objs.size (.tup xs), I1.laid (t' := s1.toks) (fun b u e => Heap.get?_push_of_some _ e) (Nat.le_refl _) ?_, rfl, q _ hf⟩
  exact ⟨z, us, r, ⟨_, Heap.get?_push_size _ rfl, rfl, _, rfl⟩⟩
theorem pe_lst (h : PA X es t) : PE X (.List es pos) (tLst t) := by
  intro pins s σ H Q I hq
  refine wpAny_List_spliced (thn (h pos pins s σ H _ I hq) fun us s1 ⟨xs, H1, I1, r, z, q⟩ => ⟨by rw [← r.length]; exact z, ?_⟩)
  have hf : H1 s1.heap.objs.size = none := I1.hok.fresh (Nat.le_refl _)
  refine ⟨.ref s1.heap.objs.size, upd H1 s1.heap.objs.size (.lst xs), I1.laid (t' := s1.toks) (fun b u e => Heap.get?_push_of_some _ e) (Nat.le_refl _) ?_, rfl, q _ hf⟩
  exact ⟨z, us, 0, r, Heap.get?_push_size _ rfl⟩
end

/-- a def's promise: the bound arguments in the parameters' order, the heap, the wanted end, the wanted exception -/
abbrev Sp := List V → Hp → VK → XK → Prop
/-- how an exception lies behind a call (file 08 gives it): the callers' frames, abstract heap and state ahead of the call, the wish, the exception, the state -/
abbrev CXT := List Env → Hp → Shared → XK → Value → Shared → Prop

/-- the state at a call -/
structure Env0 (P : Program) (w : World) (K : PySem.W.Frag) (mg : Str → Option Value) (base : Heap) (A : Around) (outer : List Env) (s : Shared) (H : Hp) : Prop where
  frames : A.frames = some outer
  mod : Mod K mg base
  bs : ∀ b o, base.get? b = some o → s.heap.get? b = some o ∧ H b = none
  bsz : base.objs.size ≤ s.heap.objs.size
  funs : s.heap.FunFrames base outer
  frf : ∀ b ∈ frs outer, H b = none
  hok : HOk P w H s.heap
  bare : AllBare s.gens
/-- a call's end -/
def CE (outer : List Env) (P : Program) (w : World) (H : Hp) (s : Shared) (Q : VK) (u : Value) (s' : Shared) : Prop :=
  ∃ v H', s'.os = s.os ∧ AllBare s'.gens ∧ Un (frs outer) [] H H' s.heap s'.heap ∧ HOk P w H' s'.heap ∧ RelV v u ∧ Q v H'
def CR (CX : CXT) (outer : List Env) (P : Program) (w : World) (H : Hp) (s : Shared) (Q : VK) (E : XK) (r : Result) (s' : Shared) : Prop :=
  match r with
  | .ok (.ret u) => CE outer P w H s Q u s'
  | .ok _ => False
  | .error e => CX outer H s E e s'
structure FnOk (P : Program) (w : World) (K : PySem.W.Frag) (mg : Str → Option Value) (base : Heap) (CX : CXT) (k : Nat) (f : Addr) (fd : FuncData) (ps : List Str) (sp : Sp) : Prop where
  len : ∀ vs H Q E, sp vs H Q E → vs.length = ps.length
  run : ∀ (A : Around) (outer : List Env) (s : Shared) (H : Hp) (args : Args) (us : List Value) (vs : List V) (Q : VK) (E : XK), Room k A → Env0 P w K mg base A outer s H → BindsTo s fd args (ps.zip us) → Vals vs us → sp vs H Q E →
    codeAny (model P w) A (.call (.ref f) args) (CR CX outer P w H s Q E) s
theorem Env0.make {P : Program} {w : World} {K : PySem.W.Frag} {mg : Str → Option Value} {base : Heap} {A : Around} {outer : List Env} {s : Shared} {H : Hp} (e : Env0 P w K mg base A outer s H) (C : Addr) (us : List Value) (kw : List (Str × Value)) :
    Env0 P w K mg base (A.under (.builtin "type.__call__" ⟨.ref C :: us, kw⟩)) outer s H := ⟨by first | exact e.frames | (simpa [Around.under, Code.envs, Code.isFrame, pushEnvs] using e.frames), e.mod, e.bs, e.bsz, e.funs, e.frf, e.hok, e.bare⟩
section
variable {X : Cx} {pins : List (Addr × Obj)} {σ : St} {H : Hp} {s s' : Shared}
/-- from a body: what a callee wants -/
theorem Inv.env0 (I : Inv X pins σ H s) : Env0 X.prog X.w X.K X.mg X.base X.A X.stack s H :=
  ⟨I.ok.frames, I.ok.mod, I.bs, Nat.le_trans I.ok.bsz I.sz, I.stack, I.stkFree, I.hok, I.bare⟩
/-- behind a call -/
theorem Inv.after {Q : VK} {u : Value} (I : Inv X pins σ H s) (h : CE X.stack X.prog X.w H s Q u s') : EP X pins σ Q u s' := by
  obtain ⟨v, H', os, bare, un, hok, r, q⟩ := h
  obtain ⟨hh, g, d, t, os'⟩ := s'
  obtain rfl : os' = s.os := os
  exact ⟨v, H', I.call (h' := hh) (g' := g) (d' := d) (t' := t) (ch := []) un hok bare (fun b z => absurd z (by simp)), r, q⟩
end

/-- f(..): the written arguments, then the defaults dvs; E: what is wanted of an exception -/
def tCall (sp : Sp) (dvs : List V) (E : XK) (t : TA) : TE := fun σ H Q => t σ H fun vs H1 => sp (vs ++ dvs) H1 Q E
/-- C(..): a new instance and its dict, then __init__ -/
def tMake (C : Addr) (sp : Sp) (dvs : List V) (E : XK) (t : TA) : TE := fun σ H Q => t σ H fun vs H1 => ∀ x dx, H1 x = none → H1 dx = none → dx ≠ x →
  sp (.ref x :: (vs ++ dvs)) (upd (upd H1 dx (.own x)) x (.ins C dx [])) (fun v H2 => v = .non ∧ Q (.ref x) H2) E

/-- how the parameters are bound: us the positional arguments, kw the keywords' values by name, ds the defaults that fill up -/
def Binds (K : PySem.W.Frag) (fd : FuncData) (ps : List Str) (ds : List Value) : Prop :=
  ∀ (s : Shared) (us : List Value), K.In s.heap → (us ++ ds).length = ps.length → BindsTo s fd ⟨us, []⟩ (ps.zip (us ++ ds))
/-- every parameter is given -/
theorem Binds.all {K : PySem.W.Frag} {fd : FuncData} {ps : List Str} (h : ∀ us : List Value, us.length = ps.length → bindArgs fd ⟨us, []⟩ = pure (ps.zip us)) : Binds K fd ps [] := fun s us _ hl => by
  rw [List.append_nil] at hl ⊢
  exact .of_eq (h us hl)

/-- an exception of a callee reaches what this body wants of exceptions -/
def Passes (CX : CXT) (X : Cx) (E : XK) : Prop := ∀ (pins : List (Addr × Obj)) (σ : St) (H : Hp) (s : Shared) (e : Value) (s' : Shared), Inv X pins σ H s → CX X.stack H s E e s' → X.xe e s'

section
variable {X : Cx} {CX : CXT} {k : Nat} {f C : Addr} {fd : FuncData} {ps : List Str} {sp : Sp} {dvs : List V} {ds : List Value} {E : XK} {x m : Str} {p pos apos : Pos} {e o : Expr} {es : List Expr} {ta : TE} {t : TA}

/-- the callee runs -/
theorem run_fn {pins : List (Addr × Obj)} {σ : St} {H : Hp} {s : Shared} {Q : VK} {us : List Value} {vs : List V} (F : FnOk X.prog X.w X.K X.mg X.base CX k f fd ps sp) (hr : Room k X.A) (hb : Binds X.K fd ps ds) (hd : Vals dvs ds) (hx : Passes CX X E)
    (I : Inv X pins σ H s) (r : Vals vs us) (h : sp (vs ++ dvs) H Q E) : wpAny (model X.prog X.w) X.A (call (.ref f) us) (EP X pins σ Q) X.xe s := by
  have r2 : Vals (vs ++ dvs) (us ++ ds) := r.append hd
  have hl : (us ++ ds).length = ps.length := by rw [← r2.length]; exact F.len _ _ _ _ h
  refine wpAny_call (codeAny_mono (F.run X.A X.stack s H ⟨us, []⟩ (us ++ ds) (vs ++ dvs) Q E hr I.env0 (hb s us I.kIn hl) r2 h) fun r s' hq => ?_)
  cases r with
  | error e => exact hx pins σ H s e s' I hq
  | ok fl =>
    cases fl with
    | ret u => exact I.after hq
    | next => exact False.elim hq
    | brk => exact False.elim hq
    | cont => exact False.elim hq

theorem pe_call (F : FnOk X.prog X.w X.K X.mg X.base CX k f fd ps sp) (hr : Room k X.A) (hg : Gl X x) (hm : X.mg x = some (.ref f)) (hk : PySem.W.keepIn X.K (.ref f) = true) (hb : Binds X.K fd ps ds) (hd : Vals dvs ds) (hx : Passes CX X E)
    (ha : PA X (e :: es) t) (hdb : (x == ("__debug__" : Str)) = false := by decide) (he : starEach (e :: es) X.env = (false, eval e X.env) :: starEach es X.env := by rfl) (hpl : (backTo pos (starEach es X.env)).any (·.1) = false := by rfl) :
    PE X (.Call (.Name x p) (e :: es) [] pos) (tCall sp dvs E t) := by
  intro pins s σ H Q I h
  refine wpAny_Call_Name_kw (ld_glob I hg hm ?_ hdb)
  refine PySem.W.callWith_K (h₀ := X.base) I.ok.mod.kin hk (thn (ha pos pins s σ H _ I h) fun us s1 ⟨vs, H1, I1, r, q⟩ => ⟨I1.kIn, ?_⟩) he hpl
  exact run_fn F hr hb hd hx I1 r q
/-- what a class must have to be made -/
structure Mk (K : PySem.W.Frag) (C f : Addr) : Prop where
  makes : PySem.W.makesIn K C = true
  init : PySem.W.findIn K (.ref C) "__init__" = some (some (.ref f))
  fn : PySem.W.isFn K (.ref f) = true
  kp : PySem.W.keepIn K (.ref C) = true

theorem run_make {pins : List (Addr × Obj)} {σ : St} {H : Hp} {s : Shared} {Q : VK} {us : List Value} {vs : List V} (M : Mk X.K C f) (F : FnOk X.prog X.w X.K X.mg X.base CX k f fd ps sp) (hr : Room (k + 1) X.A) (hb : Binds X.K fd ps ds) (hd : Vals dvs ds)
    (hx : Passes CX X E) (I : Inv X pins σ H s) (r : Vals vs us)
    (h : ∀ x dx, H x = none → H dx = none → dx ≠ x → sp (.ref x :: (vs ++ dvs)) (upd (upd H dx (.own x)) x (.ins C dx [])) (fun v H2 => v = .non ∧ Q (.ref x) H2) E) :
    wpAny (model X.prog X.w) X.A (call (.ref C) us) (EP X pins σ Q) X.xe s := by
  have hq := h (s.heap.objs.size + 1) s.heap.objs.size (I.hok.fresh (Nat.le_succ _)) (I.hok.fresh (Nat.le_refl _)) (Nat.ne_of_lt (Nat.lt_succ_self _))
  have I2 := Inv.made (C := C) I
  have r2 : Vals (V.ref (s.heap.objs.size + 1) :: (vs ++ dvs)) (Value.ref (s.heap.objs.size + 1) :: (us ++ ds)) := .cons rfl (r.append hd)
  have hl : (Value.ref (s.heap.objs.size + 1) :: us ++ ds).length = ps.length := by
    have e := r2.length
    rw [F.len _ _ _ _ hq] at e
    exact e.symm
  refine wpAny_call (make_map (f := f) I.kIn M.makes M.init (beq_iff_eq.mp M.fn) (codeAny_mono (F.run _ X.stack _ _ ⟨Value.ref (s.heap.objs.size + 1) :: us, []⟩ (Value.ref (s.heap.objs.size + 1) :: (us ++ ds)) _ _ E (hr.make C us [])
    (I2.env0.make C us []) (hb _ (Value.ref (s.heap.objs.size + 1) :: us) I2.kIn hl) r2 hq) fun r s' hq' => ?_))
  cases r with
  | error e => exact hx pins σ _ _ e s' I2 hq'
  | ok fl =>
    cases fl with
    | ret u =>
      obtain ⟨v, H', I3, rv, ev, q3⟩ := I2.after hq'
      subst ev
      exact ⟨rv, ⟨V.ref (s.heap.objs.size + 1), H', I3, rfl, q3⟩⟩
    | next => exact False.elim hq'
    | brk => exact False.elim hq'
    | cont => exact False.elim hq'
theorem pe_make (M : Mk X.K C f) (F : FnOk X.prog X.w X.K X.mg X.base CX k f fd ps sp) (hr : Room (k + 1) X.A) (hg : Gl X x) (hm : X.mg x = some (.ref C)) (hb : Binds X.K fd ps ds) (hd : Vals dvs ds) (hx : Passes CX X E)
    (ha : PA X (e :: es) t) (hdb : (x == ("__debug__" : Str)) = false := by decide) (he : starEach (e :: es) X.env = (false, eval e X.env) :: starEach es X.env := by rfl) (hpl : (backTo pos (starEach es X.env)).any (·.1) = false := by rfl) :
    PE X (.Call (.Name x p) (e :: es) [] pos) (tMake C sp dvs E t) := by
  intro pins s σ H Q I h
  refine wpAny_Call_Name_kw (ld_glob I hg hm ?_ hdb)
  refine PySem.W.callWith_K (h₀ := X.base) I.ok.mod.kin M.kp (thn (ha pos pins s σ H _ I h) fun us s1 ⟨vs, H1, I1, r, q⟩ => ⟨I1.kIn, ?_⟩) he hpl
  exact run_make M F hr hb hd hx I1 r q
end

section
variable {X : Cx} {CX : CXT} {k : Nat} {f C : Addr} {fd : FuncData} {ps ks : List Str} {sp : Sp} {E : XK} {x m : Str} {p pos apos kpos : Pos} {e o : Expr} {es : List Expr} {kws : List Keyword} {te ta : TE} {t tk : TA} {nm : Option Str}
variable {g : List Value → List Value → List Value} {gV : List V → List V → List V}
end

/-- names: the parameters first -/
structure FnScope (N P : List Str) (sc : Scope) : Prop where
  kind : sc.kind = .function
  co : sc.isCoroutine = false
  gen : sc.isGenerator = false
  nd : N.Nodup
  pre : N.take P.length = P
  par : ∀ x ∈ P, sc.names.lookup x = some .local ∨ sc.names.lookup x = some .cell
  nofree : ∀ y ∈ sc.names, y.2 ≠ .free

theorem bindL_out {kindOf : Str → Option NameKind} {x : Str} : ∀ {binds : List (Str × Value)} {m : Str → Option Value}, (∀ v, (x, v) ∉ binds) → bindL kindOf binds m x = m x
  | [], _, _ => rfl
  | (n, v) :: r, m, h => by
    unfold bindL
    rw [bindL_out fun w hw => h w (List.mem_cons_of_mem _ hw)]
    split
    · have : x ≠ n := by rintro rfl; exact h v List.mem_cons_self
      simp [this]
    · rfl
theorem bindC_out {kindOf : Str → Option NameKind} {x : Str} : ∀ {binds : List (Str × Value)} {m : Str → Option Value}, (∀ v, (x, v) ∉ binds) → bindC kindOf binds m x = m x
  | [], _, _ => rfl
  | (n, v) :: r, m, h => by
    unfold bindC
    rw [bindC_out fun w hw => h w (List.mem_cons_of_mem _ hw)]
    split
    · rfl
    · have : x ≠ n := by rintro rfl; exact h v List.mem_cons_self
      simp [this]
theorem bindL_get {kindOf : Str → Option NameKind} {x : Str} {v : Value} : ∀ {P : List Str} {vs : List Value} {i : Nat} {m : Str → Option Value}, P.Nodup → P[i]? = some x → vs[i]? = some v → kindOf x = some .local →
    bindL kindOf (P.zip vs) m x = some v
  | [], _, _, _, _, h, _, _ => by simp at h
  | _ :: _, [], _, _, _, _, h, _ => by simp at h
  | p :: P, w :: vs, 0, m, nd, h1, h2, hk => by
    simp at h1 h2; subst h1; subst h2
    show bindL kindOf ((p, w) :: P.zip vs) m p = _
    unfold bindL
    rw [bindL_out fun v hv => (List.nodup_cons.mp nd).1 (List.of_mem_zip hv).1, if_pos hk]
    simp
  | p :: P, w :: vs, i + 1, m, nd, h1, h2, hk => by
    show bindL kindOf ((p, w) :: P.zip vs) m x = _
    unfold bindL
    exact bindL_get (i := i) (List.nodup_cons.mp nd).2 (by simpa using h1) (by simpa using h2) hk
theorem bindC_get {kindOf : Str → Option NameKind} {x : Str} {v : Value} : ∀ {P : List Str} {vs : List Value} {i : Nat} {m : Str → Option Value}, P.Nodup → P[i]? = some x → vs[i]? = some v → kindOf x ≠ some .local →
    bindC kindOf (P.zip vs) m x = some v
  | [], _, _, _, _, h, _, _ => by simp at h
  | _ :: _, [], _, _, _, _, h, _ => by simp at h
  | p :: P, w :: vs, 0, m, nd, h1, h2, hk => by
    simp at h1 h2; subst h1; subst h2
    show bindC kindOf ((p, w) :: P.zip vs) m p = _
    unfold bindC
    rw [bindC_out fun v hv => (List.nodup_cons.mp nd).1 (List.of_mem_zip hv).1, if_neg hk]
    simp
  | p :: P, w :: vs, i + 1, m, nd, h1, h2, hk => by
    show bindC kindOf ((p, w) :: P.zip vs) m x = _
    unfold bindC
    exact bindC_get (i := i) (List.nodup_cons.mp nd).2 (by simpa using h1) (by simpa using h2) hk

/-- the names' values at the entry -/
def start (N : List Str) (vs : List V) : St := vs.map some ++ List.replicate (N.length - vs.length) none

/-- the context of a def's body, at its entry; an exception leaves the frame, then lies as CX says -/
def cxOf (CX : CXT) (P : Program) (w : World) (K : PySem.W.Frag) (mg : Str → Option Value) (base : Heap) (N : List Str) (qual : Str) (scope : Scope) (f : Addr) (cd : Value) (A : Around) (outer : List Env) (s : Shared) (H : Hp) (E : XK) : Cx where
  prog := P
  w := w
  K := K
  mg := mg
  base := base
  A := A.deeper (envOfC qual scope s.heap.objs.size f cd)
  N := N
  s₀ := s
  H₀ := H
  env := envOfC qual scope s.heap.objs.size f cd
  outer := outer
  stack := envOfC qual scope s.heap.objs.size f cd :: outer
  ex := []
  calm := true
  fn := fun _ => true
  pn := []
  xe := fun e s' => wpAny (model P w) (A.deeper (envOfC qual scope s.heap.objs.size f cd)) (leaving (envOfC qual scope s.heap.objs.size f cd) e) (fun _ s'' => CX outer H s E e s'') (fun e' s'' => CX outer H s E e' s'') s'

theorem cell_has {sc : Scope} {n : Nat} {x : Str} (h : sc.names.lookup x = some .cell) : ∃ c, (cellsFrom n sc.names []).lookup x = some c := by
  have q := PySem.W.cellsFrom_some sc.names n [] (.inl h)
  exact Option.isSome_iff_exists.mp q

theorem inv_start {CX : CXT} {P : Program} {w : World} {K : PySem.W.Frag} {mg : Str → Option Value} {base : Heap} {N ps : List Str} {qual : Str} {scope : Scope} {f : Addr} {cd : Value} {A : Around} {outer : List Env} {s s1 : Shared} {H : Hp} {E : XK} {us : List Value} {vs : List V}
    (S : FnScope N ps scope) (hd : A.handled = none) (e0 : Env0 P w K mg base A outer s H) (hl : vs.length = ps.length) (r : Vals vs us)
    (x : InCallC s s.heap.objs.size (bindL (envOfC qual scope s.heap.objs.size f cd).kindOf (ps.zip us) fun _ => none) (cellsFrom (s.heap.objs.size + 1) scope.names []) (bindC (envOfC qual scope s.heap.objs.size f cd).kindOf (ps.zip us) fun _ => none) s1) :
    Inv (cxOf CX P w K mg base N qual scope f cd A outer s H E) [] (start N vs) H s1 := by
  have hpl : ps.length ≤ N.length := by have := congrArg List.length S.pre; rw [List.length_take] at this; omega
  obtain ⟨h1, tk, rfl, hk⟩ := x.done
  have noA : ∀ b : Addr, b ∉ (cxOf CX P w K mg base N qual scope f cd A outer s H E).ex := fun b z => absurd (show b ∈ ([] : List Addr) from z) (by simp)
  refine ⟨⟨e0.mod, S.kind, rfl, rfl, Nat.le_refl _, fun y z c h1 h2 => ?_, fun y hy => ?_, fun y c _ h => ?_, fun _ => hd, Around.frames_deeper e0.frames, .inr ⟨rfl, rfl⟩, fun b z => absurd z (noA b), e0.bs, e0.bsz, fun b _ _ => noA b, fun b z => absurd z (noA b), e0.funs, e0.frf⟩,
    rfl, e0.bare, Un.kept hk, ⟨_, x.toInCall.ns, fun i y v h1 h2 h3 => ?_⟩, fun y c h => ⟨_, x.cell y c h⟩, e0.hok.fresh (Nat.le_refl _), fun y c h => ?_, fun p hp => absurd (show p ∈ ([] : List (Addr × Obj)) from hp) (by simp), e0.hok.kept hk, ?_⟩
  · exact name_of_addr x.apart (PySem.mem_of_lookup h1) (PySem.mem_of_lookup h2)
  · have hy : scope.names.lookup y = some .cell ∨ scope.names.lookup y = some .free := hy
    rcases hy with hy | hy
    · exact cell_has hy
    · exact absurd rfl (S.nofree _ (PySem.mem_of_lookup hy))
  · exact Nat.le_of_lt (x.above y c (PySem.mem_of_lookup h))
  · have hi : i < vs.length := by
      unfold start at h2
      by_cases hi : i < vs.length
      · exact hi
      · rw [List.getElem?_append_right (by simpa using hi)] at h2
        rw [List.getElem?_replicate] at h2
        split at h2 <;> cases h2
    have ha : vs[i]? = some v := by
      unfold start at h2
      rw [List.getElem?_append_left (by simpa using hi), List.getElem?_map] at h2
      cases e : vs[i]? with
      | none => rw [e] at h2; cases h2
      | some a => rw [e] at h2; cases h2; rfl
    obtain ⟨u, hu, rv⟩ := r.get ha
    have hp : ps[i]? = some y := by
      rw [← S.pre, List.getElem?_take_of_lt (by omega)]; exact h1
    have ndP : ps.Nodup := by rw [← S.pre]; exact S.nd.sublist (List.take_sublist _ _)
    refine ⟨u, rv, ?_⟩
    rcases S.par y (List.mem_of_getElem? hp) with k | k
    · exact .inl ⟨k, bindL_get ndP hp hu k⟩
    · obtain ⟨c, e⟩ := cell_has (n := s.heap.objs.size + 1) k
      refine .inr ⟨.inl k, c, e, ?_⟩
      have q := x.cell y c e
      rw [bindC_get ndP hp hu (by show scope.names.lookup y ≠ _; rw [k]; decide)] at q
      exact q
  · exact e0.hok.fresh (Nat.le_of_lt (x.above y c (PySem.mem_of_lookup h)))
  · unfold start
    show _ = N.length
    rw [List.length_append, List.length_map, List.length_replicate]
    omega

/-- THE RULE: a def (or a method) of the text, by its body. The body's reading t is chosen for each entry; it is run at the parameters' values -/
theorem fn_of {CX : CXT} {P : Program} {w : World} {K : PySem.W.Frag} {mg : Str → Option Value} {base : Heap} {k : Nat} {f : Addr} {name qual : Str} {params : Arguments} {body : List Stmt} {scope : Scope} {dV kV doc pm cdv ct oc : Value} {an od : Option Addr}
    {osl : Array (Option Value)} {N ps : List Str} {sp : Sp} (lk : K.lookup f = some ⟨oc, od, .func (PySem.W.fnOf name qual params body scope dV kV doc pm an cdv ct), osl⟩) (hcd : PySem.W.codeIn K cdv qual = true) (S : FnScope N ps scope)
    (len : ∀ vs H Q E, sp vs H Q E → vs.length = ps.length)
    (hbody : ∀ (A : Around) (outer : List Env) (s : Shared) (H : Hp) (vs : List V) (Q : VK) (E : XK), Room k (A.deeper (envOfC qual scope s.heap.objs.size f cdv)) → sp vs H Q E →
      ∃ t, PSs (cxOf CX P w K mg base N qual scope f cdv A outer s H E) body t ∧ t { nx := fun _ H' => Q .non H', rt := Q } (start N vs) H) :
    FnOk P w K mg base CX (k + 1) f (PySem.W.fnOf name qual params body scope dV kV doc pm an cdv ct) ps sp := by
  refine ⟨len, fun A outer s H args us vs Q E hr e0 hb r hsp => ?_⟩
  have hl := len _ _ _ _ hsp
  have KX : K.In s.heap := e0.mod.kin.keeps fun b o e => (e0.bs b o e).1
  have lim : s.heap.NoLimit := e0.mod.nolimit.keeps fun b o e => (e0.bs b o e).1
  have hkind : ∀ y ∈ ps.zip us, scope.names.lookup y.1 = some .local ∨ (scope.names.lookup y.1 = some .cell ∧ ((cellsFrom (s.heap.objs.size + 1) scope.names []).lookup y.1).isSome = true) := fun ⟨n, v⟩ hy => by
    rcases S.par n (List.of_mem_zip hy).1 with q | q
    · exact .inl q
    · exact .inr ⟨q, PySem.W.cellsFrom_some _ _ _ (.inl q)⟩
  refine codeAny_call_function hr.depth (KX _ _ lk) rfl S.co S.gen rfl (PySem.W.codeRec_of KX hcd) (hb _ _ _ _ ?_)
  refine wpAny_newFunctionEnv_cells S.kind hkind fun env he s1 x => ?_
  subst he
  refine ⟨lim.keeps x.toInCall.keep, codeAny_func ?_⟩
  obtain ⟨t, ht, hq⟩ := hbody A outer s H vs Q E (hr.deeper _) hsp
  have I : Inv (cxOf CX P w K mg base N qual scope f cdv A outer s H E) [] (start N vs) H s1 := inv_start S hr.hd e0 hl r x
  refine wpAny_mono (ht [] s1 (start N vs) H _ I hq) (fun fl s' hs => ?_) fun e s' hs => hs
  have fin : ∀ {σ' : St} {H' : Hp} {v : V} {u : Value}, Inv (cxOf CX P w K mg base N qual scope f cdv A outer s H E) [] σ' H' s' → RelV v u → Q v H' → CE outer P w H s Q u s' :=
    fun {σ' H' v u} J rv q => ⟨v, H', J.os, J.bare, J.base, J.hok, rv, q⟩
  cases fl with
  | ret u =>
    obtain ⟨v, σ', H', J, rv, q⟩ := hs
    exact fin J rv q
  | next =>
    obtain ⟨σ', H', J, q⟩ := hs
    exact fin (v := V.non) (u := Value.none) J rfl q
  | brk =>
    obtain ⟨_, _, _, q⟩ := hs
    exact False.elim q
  | cont =>
    obtain ⟨_, _, _, q⟩ := hs
    exact False.elim q
end L2

namespace L2
open PySem PySem.Spec PyProof.Rows
section
variable {X : Cx} {x : Str} {p pos : Pos} {e : Expr} {es : List Expr} {t : TA} {id T : String} {r : List V → Hp → VK → Prop}

def tCB (r : List V → Hp → VK → Prop) (t : TA) : TE := fun σ H Q => t σ H fun vs H1 => r vs H1 Q
/-- f(e, ..), f a built-in function -/
theorem pe_callB (hc : CallR X (.builtin id) r) (hg : Gl X x) (hm : X.mg x = none) (hv : bootBuiltins x = some (.builtin id)) (ha : PA X (e :: es) t) (hn : x ≠ "__name__" := by decide) (hdb : (x == ("__debug__" : Str)) = false := by decide)
    (he : starEach (e :: es) X.env = (false, eval e X.env) :: starEach es X.env := by rfl) (hpl : (backTo pos (starEach es X.env)).any (·.1) = false := by rfl) : PE X (.Call (.Name x p) (e :: es) [] pos) (tCB r t) := by
  intro pins s σ H Q I h
  refine wpAny_Call_Name_kw (ld_blt I hg hm hv ?_ hn hdb)
  exact PyProof.Rows.callWith_builtin1 (thn (ha pos pins s σ H _ I h) fun us s1 ⟨vs, H1, I1, r1, q1⟩ => hc pins s1 σ H1 vs us Q I1 r1 q1) he hpl
/-- T(e, ..), T a built-in type -/
theorem pe_callTy (hc : CallR X (.type T) r) (hg : Gl X x) (hm : X.mg x = none) (hv : bootBuiltins x = some (.type T)) (ha : PA X (e :: es) t) (hn : x ≠ "__name__" := by decide) (hdb : (x == ("__debug__" : Str)) = false := by decide)
    (he : starEach (e :: es) X.env = (false, eval e X.env) :: starEach es X.env := by rfl) (hpl : (backTo pos (starEach es X.env)).any (·.1) = false := by rfl) : PE X (.Call (.Name x p) (e :: es) [] pos) (tCB r t) := by
  intro pins s σ H Q I h
  refine wpAny_Call_Name_kw (ld_blt I hg hm hv ?_ hn hdb)
  exact PyProof.Rows.callWith_type1 (thn (ha pos pins s σ H _ I h) fun us s1 ⟨vs, H1, I1, r1, q1⟩ => hc pins s1 σ H1 vs us Q I1 r1 q1) he hpl
end
end L2

namespace HT
open PySem PyProof.Rows

section
open PySem.SeqAt
open PySem.AutoSeq1 (wpAny_loadPart')
open PySem.MeetsSeq PySem.MeetsSeq2 PySem.MeetsSeq3

end

section
variable {prog : Program} {w : World} {A : Around} {E : Value → Shared → Prop} {s : Shared}

/-- a slice's bound as a place among n (d where it is left out) -/
def sIx (n d : Nat) : Option Int → Nat
  | none => d
  | some v => if v < 0 then (v + (n : Int)).toNat else min v.toNat n
theorem sIx_nat (n d k : Nat) : sIx n d (some (k : Int)) = min k n := by
  show (if (k : Int) < 0 then ((k : Int) + (n : Int)).toNat else min (k : Int).toNat n) = min k n
  rw [if_neg (by omega), Int.toNat_natCast]
end
end HT

namespace L2
open PySem PySem.Spec PyProof.Rows

abbrev TO := St → Hp → (Option Int → Hp → Prop) → Prop
/-- a slice's part (left out, or an int) -/
def PO (X : Cx) (e : Option Expr) (t : TO) : Prop :=
  ∀ (pins : List (Addr × Obj)) (s : Shared) (σ : St) (H : Hp) (Q : Option Int → Hp → Prop), Inv X pins σ H s → t σ H Q →
    wpAny (model X.prog X.w) X.A (evalPart e X.env) (fun u s' => ∃ o H', Inv X pins σ H' s' ∧ IsPart u o ∧ Q o H') X.xe s
def tNoPart : TO := fun _ H Q => Q none H
def tPart (t : TE) : TO := fun σ H Q => t σ H fun x H1 => ∃ i, x = .int i ∧ Q (some i) H1

section
variable {X : Cx} {e : Expr} {te : TE} {lo hi : Option Expr} {tl th : TO} {pos p2 : Pos}

theorem po_none : PO X none tNoPart := by
  intro pins s σ H Q I h
  rw [evalPart_none]
  exact wpAny_pure ⟨none, H, I, .none, h⟩
theorem po_some (h : PE X e te) : PO X (some e) (tPart te) := by
  intro pins s σ H Q I hw
  rw [evalPart_some]
  refine thn (h pins s σ H _ I hw) fun u s1 ⟨x, H1, I1, r1, q1⟩ => ?_
  obtain ⟨i, rfl, q⟩ := q1
  obtain ⟨t, rfl⟩ := r1
  exact ⟨some i, H1, I1, .int i t, q⟩

/-- what a slice of a value is, by values: the slice object stands at sl -/
def SlR (X : Cx) (r : V → Option Int → Option Int → Hp → VK → Prop) : Prop :=
  ∀ (pins : List (Addr × Obj)) (s : Shared) (σ : St) (H : Hp) (x : V) (v vl vu : Value) (lo hi : Option Int) (sl : Addr) (Q : VK), Inv X pins σ H s → RelV x v → s.heap.IsSliceOf sl vl vu .none → IsPart vl lo → IsPart vu hi → r x lo hi H Q →
    ∃ T id, typeLookup (.type T) "__getitem__" = pure (some (.builtin id)) ∧ s.TypeIs v T ∧ wpAny (model X.prog X.w) X.A (getItem v (.ref sl)) (EP X pins σ Q) X.xe s
def tSl (r : V → Option Int → Option Int → Hp → VK → Prop) (te : TE) (tl th : TO) : TE := fun σ H Q => te σ H fun x H1 => tl σ H1 fun l H2 => th σ H2 fun u H3 => r x l u H3 Q
/-- a[lo:hi], any a -/
theorem pe_slice {r : V → Option Int → Option Int → Hp → VK → Prop} (hr : SlR X r) (he : PE X e te) (hl : PO X lo tl) (hu : PO X hi th) : PE X (.Subscript e (.Slice lo hi none p2) pos) (tSl r te tl th) := by
  intro pins s σ H Q I h
  refine Subscript_ (thn (he pins s σ H _ I h) fun v s1 ⟨x, H1, I1, r1, q1⟩ => ?_)
  refine wpAny_Slice (thn (hl pins s1 σ H1 _ I1 q1) fun vl s2 ⟨l, H2, I2, pl, q2⟩ => thn (hu pins s2 σ H2 _ I2 q2) fun vu s3 ⟨u, H3, I3, pu, q3⟩ => ?_)
  rw [evalPart_none]
  refine wpAny_pure ?_
  have I4 : Inv X pins σ H3 { s3 with heap := s3.heap.push { cls := .type "slice", data := .fields #[vl, vu, .none] } } := I3.kept (t' := s3.toks) fun b ob q => Heap.get?_push_of_some _ q
  obtain ⟨T, id, hT, ht, hg⟩ := hr pins { s3 with heap := s3.heap.push { cls := .type "slice", data := .fields #[vl, vu, .none] } } σ H3 x v vl vu l u s3.heap.objs.size Q I4 r1 (Heap.IsSliceOf.new ..) pl pu q3
  show wpAny (model X.prog X.w) X.A (subscriptTail e (.Slice lo hi none p2) v (.ref s3.heap.objs.size)) (EP X pins σ Q) X.xe { s3 with heap := s3.heap.push { cls := .type "slice", data := .fields #[vl, vu, .none] } }
  exact tail_any (ops := [.ref s3.heap.objs.size, v]) ht hT hg (by with_unfolding_all rfl)

/-- the items of xs[lo:hi] -/
def cutV (xs : List V) (lo hi : Option Int) : List V := (xs.drop (HT.sIx xs.length 0 lo)).take (HT.sIx xs.length xs.length hi - HT.sIx xs.length 0 lo)
theorem cutV_length (xs : List V) (lo hi : Option Int) : (cutV xs lo hi).length ≤ xs.length := by
  unfold cutV
  rw [List.length_take, List.length_drop]
  omega
end
end L2

namespace L2
open PySem PySem.Spec PyProof.Rows

/-- the place that an index of any sign means -/
def ixN (n : Nat) (i : Int) : Option Nat := if 0 ≤ i then (if i < n then some i.toNat else none) else if -(n : Int) ≤ i then some (i + n).toNat else none
def atI {α : Type} (xs : List α) (i : Int) : Option α := (ixN xs.length i).bind fun j => xs[j]?
theorem ixN_seq {n : Nat} {i : Int} {j : Nat} (h : ixN n i = some j) : seqIndex? i n = some j ∧ j < n ∧ -(n : Int) ≤ i ∧ i < n := by
  unfold ixN at h
  by_cases h0 : 0 ≤ i
  · rw [if_pos h0] at h
    by_cases h1 : i < n
    · rw [if_pos h1] at h
      have e : i.toNat = j := Option.some.inj h
      exact ⟨by rw [seqIndex_of h0 h1, e], by omega, by omega, h1⟩
    · rw [if_neg h1] at h; cases h
  · rw [if_neg h0] at h
    by_cases h1 : -(n : Int) ≤ i
    · rw [if_pos h1] at h
      have e : (i + n).toNat = j := Option.some.inj h
      exact ⟨by rw [seqIndex_neg (by omega) h1, e], by omega, h1, by omega⟩
    · rw [if_neg h1] at h; cases h
theorem atI_get {α : Type} {xs : List α} {i : Int} {v : α} (h : atI xs i = some v) : ∃ j, seqIndex? i xs.length = some j ∧ xs[j]? = some v ∧ j < xs.length ∧ -(xs.length : Int) ≤ i ∧ i < xs.length := by
  unfold atI at h
  cases e : ixN xs.length i with
  | none => rw [e] at h; cases h
  | some j =>
    rw [e] at h
    obtain ⟨h1, h2, h3, h4⟩ := ixN_seq e
    exact ⟨j, h1, h, h2, h3, h4⟩
theorem atI_nat {α : Type} {xs : List α} {j : Nat} {v : α} (h : xs[j]? = some v) : atI xs (j : Int) = some v := by
  have hj : j < xs.length := (List.getElem?_eq_some_iff.mp h).1
  have e : ixN xs.length (j : Int) = some j := by
    unfold ixN
    rw [if_pos (by omega), if_pos (by omega)]; simp
  unfold atI; rw [e]; exact h
/-- what stands as an index of a plain subscript -/
def PlainIx (b : Expr) : Prop := ∀ o i, subscripted b false o i = operate [o, i] (getItem o i)
/-- a subscript by values -/
def IxR (X : Cx) (r : R2) : Prop :=
  ∀ (value slice : Expr) (pins : List (Addr × Obj)) (s : Shared) (σ : St) (H : Hp) (x y : V) (v u : Value) (Q : VK), Inv X pins σ H s → RelV x v → RelV y u → r x y H Q →
    subscripted slice false v u = operate [v, u] (getItem v u) → wpAny (model X.prog X.w) X.A (subscriptTail value slice v u) (EP X pins σ Q) X.xe s
/-- a call of a builtin's method by values: the receiver, the arguments -/
def MtR (X : Cx) (id : String) (r : V → List V → Hp → VK → Prop) : Prop :=
  ∀ (pins : List (Addr × Obj)) (s : Shared) (σ : St) (H : Hp) (x : V) (xs : List V) (v : Value) (us : List Value) (Q : VK), Inv X pins σ H s → RelV x v → Vals xs us → r x xs H Q →
    wpAny (model X.prog X.w) X.A (call (.builtin id) (v :: us)) (EP X pins σ Q) X.xe s
section
variable {X : Cx} {a b : Expr} {ta tb : TE} {pos : Pos}
/-- a[b] -/
theorem pe_ix {r : R2} (hr : IxR X r) (ha : PE X a ta) (hb : PE X b tb) (hs : PlainIx b) : PE X (.Subscript a b pos) (tOp r ta tb) := by
  intro pins s σ H Q I h
  exact Subscript_ (binT ha hb I h fun v u s2 x y H2 I2 rx ry q => hr a b pins s2 σ H2 x y v u Q I2 rx ry q (hs _ _))

def rIxL (K : PySem.W.Frag) : R2 := fun x y H Q => ∃ p xs i v, x = .ref p ∧ y = .int i ∧ SqL K H p xs ∧ atI xs i = some v ∧ Q v H
theorem ix_list : IxR X (rIxL X.K) := by
  intro value slice pins s σ H x y v u Q I rx ry h hs
  obtain ⟨p, xs, i, z, rfl, rfl, hq, he, q⟩ := h
  cases rx
  obtain ⟨t, rfl⟩ := ry
  obtain ⟨its, r, pl, hz⟩ := I.list hq
  obtain ⟨j, h1, h2, h3, h4, h5⟩ := atI_get he
  obtain ⟨w, ew, rw'⟩ := r.get h2
  have hl := r.length
  have hn := line63
  have fin : EP X pins σ Q w s := ⟨z, H, I, rw', q⟩
  by_cases h0 : 0 ≤ i
  · have hj : i.toNat = j := by
      rw [seqIndex_of h0 h5] at h1
      exact Option.some.inj h1
    exact item_listR pl.isList h0 (by omega) (by rw [hj]; simpa using ew) fin hs
  · have hj : (i + (its.toArray.size : Int)).toNat = j := by
      rw [seqIndex_neg (by omega) h4] at h1
      rw [List.size_toArray, ← hl]
      exact Option.some.inj h1
    exact subscriptTail_builtinR (x := w) pl.isList.typeIs slot_list_getitem.lookup
      (wpAny_getItem_list_neg (Q := fun r s' => r = w ∧ EP X pins σ Q r s') pl.isList (by omega) (by rw [List.size_toArray] <;> omega) (by omega) (by rw [hj]; simpa using ew) ⟨rfl, fin⟩) hs
/-- the list's object behind a store -/
theorem mapSeq_set (its : List Value) (n j : Nat) (u : Value) : Obj.mapSeq (·.setIfInBounds j u) { cls := .type "list", data := .seq its.toArray n } = { cls := .type "list", data := .seq (its.set j u).toArray n } := by
  simp [Obj.mapSeq]
theorem Inv.lst {pins : List (Addr × Obj)} {σ : St} {H : Hp} {s : Shared} {p : Addr} {xs : List V} (I : Inv X pins σ H s) (h : H p = some (.lst xs)) :
    ∃ (its : List Value) (n : Nat), Vals xs its ∧ s.heap.get? p = some { cls := .type "list", data := .seq its.toArray n } ∧ xs.length ≤ sizeLine := by
  obtain ⟨z, its, n, r, e⟩ := I.hok p _ h
  exact ⟨its, n, r, e, z⟩
/-- the list at p is written by an update of its object -/
theorem Inv.lstUpd {pins : List (Addr × Obj)} {σ : St} {H : Hp} {s : Shared} {p : Addr} {xs ys : List V} {its its' : List Value} {n n' : Nat} {f : Obj → Obj} (I : Inv X pins σ H s) (h : H p = some (.lst xs))
    (ho : s.heap.get? p = some { cls := .type "list", data := .seq its.toArray n }) (hf : f { cls := .type "list", data := .seq its.toArray n } = { cls := .type "list", data := .seq its'.toArray n' }) (r : Vals ys its') (hz : ys.length ≤ sizeLine) (t : Nat) :
    Inv X pins σ (upd H p (.lst ys)) { s with heap := s.heap.update p f, toks := t } := by
  have e : (s.heap.update p f).get? p = some { cls := .type "list", data := .seq its'.toArray n' } := by
    rw [Heap.get?_update_self f ho (by rw [hf] <;> rfl), hf]
  refine I.write (x := p) (e := p) (by rw [h]; trivial) (.inl rfl) (fun b u hb q => (Heap.get?_update_other _ _ (Ne.symm hb)).trans q) ⟨_, e⟩ ?_
  exact ⟨hz, its', n', r, e⟩
def rSetL : V → V → V → Hp → (Hp → Prop) → Prop := fun o i v H Q => ∃ p xs k j, o = .ref p ∧ i = .int k ∧ H p = some (.lst xs) ∧ ixN xs.length k = some j ∧ Q (upd H p (.lst (xs.set j v)))
theorem set_list : PSet X rSetL := by
  intro pins s σ H o i v ov iv u Q I ro ri rv h
  obtain ⟨p, xs, k, j, rfl, rfl, hp, hj, q⟩ := h
  cases ro
  obtain ⟨t, rfl⟩ := ri
  obtain ⟨its, n, r, ho, hz⟩ := I.lst hp
  obtain ⟨h1, h2, h3, h4⟩ := ixN_seq hj
  have hl := r.length
  have hn := line63
  have I' : Inv X pins σ (upd H p (.lst (xs.set j v))) { s with heap := s.heap.update p (Obj.mapSeq (·.setIfInBounds j u)) } :=
    I.lstUpd hp ho (mapSeq_set its n j u) (r.set rv j) (by rw [List.length_set]; exact hz) s.toks
  by_cases h0 : 0 ≤ k
  · have hk : k.toNat = j := by
      rw [seqIndex_of h0 h4] at h1
      exact Option.some.inj h1
    exact PySem.W.ki_setAt ho h0 (by omega) (by rw [List.size_toArray, ← hl]; exact h4) (by rw [hk]; exact ⟨_, I', q⟩)
  · have hk : (k + (its.toArray.size : Int)).toNat = j := by
      rw [seqIndex_neg (by omega) h3] at h1
      rw [List.size_toArray, ← hl]
      exact Option.some.inj h1
    exact PySem.W.ki_setBack ho (by omega) (by rw [List.size_toArray, ← hl]; exact h3) (by omega) (by rw [hk]; exact ⟨_, I', q⟩)

theorem slice_bounds (lo hi : Option Int) (n : Nat) : (sliceBounds lo hi none n).1 = ((HT.sIx n 0 lo : Nat) : Int) ∧ (sliceBounds lo hi none n).2.1 = ((HT.sIx n n hi : Nat) : Int) ∧ (sliceBounds lo hi none n).2.2 = 1 := by
  refine ⟨?_, ?_, rfl⟩
  · cases lo with
    | none => simp [sliceBounds, HT.sIx]
    | some i =>
      simp only [sliceBounds, HT.sIx, Option.getD_none, show (1 : Int) > 0 by decide, if_true]
      by_cases h : i < 0
      · simp only [h, if_true] <;> omega
      · simp only [h, if_false] <;> omega
  · cases hi with
    | none => simp [sliceBounds, HT.sIx]
    | some i =>
      simp only [sliceBounds, HT.sIx, Option.getD_none, show (1 : Int) > 0 by decide, if_true]
      by_cases h : i < 0
      · simp only [h, if_true] <;> omega
      · simp only [h, if_false] <;> omega
theorem slicePick_cut (its : List Value) (lo hi : Option Int) : slicePick its.toArray lo hi none = ((its.drop (HT.sIx its.length 0 lo)).take (HT.sIx its.length its.length hi - HT.sIx its.length 0 lo)).toArray := by
  obtain ⟨h1, h2, h3⟩ := slice_bounds lo hi its.toArray.size
  unfold slicePick
  rw [h1, h2, h3]
  simp only [sliceRange_one, pick_run, List.size_toArray] <;> rfl
/-- xs[lo:hi] of a list: a new list -/
def rSlL (K : PySem.W.Frag) : V → Option Int → Option Int → Hp → VK → Prop := fun x lo hi H Q => ∃ a xs, x = .ref a ∧ SqL K H a xs ∧ ∀ p, H p = none → Q (.ref p) (upd H p (.lst (cutV xs lo hi)))
theorem sl_list : SlR X (rSlL X.K) := by
  intro pins s σ H x v vl vu lo hi sl Q I rx hs pl pu h
  obtain ⟨a, xs, rfl, hx, q⟩ := h
  cases rx
  obtain ⟨its, r, ht, hz⟩ := I.list hx
  have hlen := r.length
  refine ⟨"list", _, slot_list_getitem.lookup, ht.isList.typeIs, ?_⟩
  refine wpAny_getItem_list_slice ht.isList hs pl pu .none (by simp) ?_ (by rw [List.size_toArray] <;> omega)
  rw [slicePick_cut, ← hlen]
  refine ⟨.ref s.heap.objs.size, _, I.laid (t' := s.toks) (o := .lst (cutV xs lo hi)) (fun b ob q => Heap.get?_push_of_some _ q) (Nat.le_refl _) ?_, rfl, q _ (I.hok.fresh (Nat.le_refl _))⟩
  exact ⟨Nat.le_trans (cutV_length xs lo hi) hz, _, 0, (r.drop (HT.sIx xs.length 0 lo)).take (HT.sIx xs.length xs.length hi - HT.sIx xs.length 0 lo), Heap.get?_push_size _ rfl⟩

theorem call_len_seq : CallR X (.builtin "len") (fun xs H Q => ∃ p ys, xs = [.ref p] ∧ (SqL X.K H p ys ∨ SqT X.K H p ys) ∧ Q (.int ys.length) H) := by
  intro pins s σ H xs us Q I r h
  obtain ⟨p, ys, rfl, hq, q⟩ := h
  obtain ⟨u, rfl, rx⟩ := vals1 r
  cases rx
  have hn := line63
  rcases hq with hq | hq
  · obtain ⟨its, r', pl, hz⟩ := I.list hq
    have hlen := r'.length
    exact Calls.call_len_list pl.isList (by simp only [List.size_toArray] <;> omega) ⟨.int ys.length, H, I.tok _, ⟨s.toks + 1, by rw [List.size_toArray, hlen]⟩, q⟩
  · obtain ⟨its, r', pl, hz⟩ := I.tuple hq
    have hlen := r'.length
    exact len_tuple pl (by simp only [List.size_toArray] <;> omega) ⟨.int ys.length, H, I.tok _, ⟨s.toks + 1, by rw [List.size_toArray, hlen]⟩, q⟩
/-- the value is of that builtin type -/
def tyV (K : PySem.W.Frag) (T : String) (x : V) (H : Hp) : Prop := match x with
  | .str _ => T = "str"
  | .int _ => T = "int"
  | .ref p => (T = "list" ∧ ∃ xs, SqL K H p xs) ∨ (T = "tuple" ∧ ∃ o, K.lookup p = some o ∧ o.cls = .type "tuple" ∧ o.dict = none) ∨
      (T = "dict" ∧ ((∃ kvs, H p = some (.dK kvs)) ∨ ∃ kvs, H p = some (.dT kvs))) ∨ (T = "set" ∧ ∃ S n, H p = some (.set S n))
  | _ => False
theorem tyV_is {pins : List (Addr × Obj)} {σ : St} {H : Hp} {s : Shared} {T : String} {x : V} {v : Value} (I : Inv X pins σ H s) (r : RelV x v) (ty : tyV X.K T x H) :
    s.TypeIs v T ∧ ∀ a, v = .ref a → ∃ ob, s.heap.get? a = some ob ∧ ob.dict = none := by
  cases x with
  | str z =>
    obtain ⟨t, rfl⟩ := r
    cases (show T = "str" from ty)
    exact ⟨typeIs_str s z t, fun _ e => nomatch e⟩
  | int i =>
    obtain ⟨t, rfl⟩ := r
    cases (show T = "int" from ty)
    exact ⟨typeIs_int s i t, fun _ e => nomatch e⟩
  | ref p =>
    cases r
    rcases ty with ⟨rfl, xs, hq⟩ | ⟨rfl, o, hk, hc, hd⟩ | ⟨rfl, hk⟩ | ⟨rfl, S, n, hk⟩
    · obtain ⟨its, _, pl, _⟩ := I.list hq
      refine ⟨pl.isList.typeIs, fun a e => ?_⟩
      cases e
      obtain ⟨o, n, e, c, hd, _⟩ := pl
      exact ⟨o, e, hd⟩
    · refine ⟨⟨o, I.kIn p o hk, hc⟩, fun a e => ?_⟩
      cases e
      exact ⟨o, I.kIn _ o hk, hd⟩
    · have z : ∃ o, s.heap.get? p = some o ∧ o.ExactDict := by
        rcases hk with ⟨kvs, hk⟩ | ⟨kvs, hk⟩
        · obtain ⟨_, _, _, _, o, _, _, e, ex, _⟩ := I.hok p _ hk
          exact ⟨o, e, ex⟩
        · obtain ⟨_, _, _, _, o, _, _, e, ex, _⟩ := I.hok p _ hk
          exact ⟨o, e, ex⟩
      obtain ⟨o, e, ex⟩ := z
      refine ⟨⟨o, e, ex.1⟩, fun a e2 => ?_⟩
      cases e2
      exact ⟨o, e, ex.2.1⟩
    · obtain ⟨o, _, _, _, e, ex, _⟩ := I.hok p _ hk
      refine ⟨⟨o, e, ex.1⟩, fun a e2 => ?_⟩
      cases e2
      exact ⟨o, e, ex.2.1⟩
  | _ => exact False.elim ty
def tBM0 (K : PySem.W.Frag) (T : String) (r : V → List V → Hp → VK → Prop) (to : TE) : TE := fun σ H Q => to σ H fun x H1 => tyV K T x H1 ∧ r x [] H1 Q
def tBM (K : PySem.W.Frag) (T : String) (r : V → List V → Hp → VK → Prop) (to : TE) (t : TA) : TE := fun σ H Q => to σ H fun x H1 => tyV K T x H1 ∧ t σ H1 fun xs H2 => r x xs H2 Q
variable {o e : Expr} {es : List Expr} {to : TE} {t : TA} {name : Str} {apos cpos : Pos} {T id : String} {r : V → List V → Hp → VK → Prop}
theorem pe_bm0 (pa : PlainAttrs T) (slot : Slot T name id) (hty : typeOf (.builtin id) = pure (.type "method_descriptor")) (hm : MtR X id r) (ho : PE X o to)
    (hbase : attributeBase o name X.env (eval o X.env) = eval o X.env := by rfl) (hline : (apos.endLine == cpos.line) = true := by rfl) : PE X (.Call (.Attribute o name apos) [] [] cpos) (tBM0 X.K T r to) := by
  intro pins s σ H Q I h
  refine wpAny_Call_method0_late hbase hline (thn (ho pins s σ H _ I h) fun v s1 ⟨x, H1, I1, r1, ty, q1⟩ => ?_)
  obtain ⟨h1, h2⟩ := tyV_is I1 r1 ty
  exact ⟨T, id, pa, slot, hty, h1, h2, Calls.callWith_builtin rfl (PySem.evalArgs_none (hm pins s1 σ H1 x [] v [] Q I1 r1 .nil q1))⟩
theorem pe_bm (pa : PlainAttrs T) (slot : Slot T name id) (hty : typeOf (.builtin id) = pure (.type "method_descriptor")) (hm : MtR X id r) (ho : PE X o to) (ha : PA X (e :: es) t)
    (hbase : attributeBase o name X.env (eval o X.env) = eval o X.env := by rfl)
    (hfew : ((backTo cpos (starEach (e :: es) X.env)).all (fun x => !x.1) && (backToKw cpos (keywordEach [] X.env)).all (fun x => x.1.isSome)
      && decide ((e :: es).length + ([] : List Keyword).length + (if ([] : List Keyword).isEmpty then 0 else 1) < 30)) = true := by rfl)
    (hline : (apos.endLine == cpos.line) = true := by rfl) (hs : starEach (e :: es) X.env = (false, eval e X.env) :: starEach es X.env := by rfl) (hplain : (backTo cpos (starEach es X.env)).any (·.1) = false := by rfl) :
    PE X (.Call (.Attribute o name apos) (e :: es) [] cpos) (tBM X.K T r to t) := by
  intro pins s σ H Q I h
  refine wpAny_Call_method_late hbase hfew hline rfl (thn (ho pins s σ H _ I h) fun v s1 ⟨x, H1, I1, r1, ty, q1⟩ => ?_)
  obtain ⟨h1, h2⟩ := tyV_is I1 r1 ty
  refine ⟨T, id, pa, slot, hty, h1, h2, ?_⟩
  have hA := ha cpos pins s1 σ H1 _ I1 q1
  rw [hs] at hA ⊢
  refine Calls.callWith_builtin (by show (false || (backTo cpos (starEach es X.env)).any (·.1)) = false; rw [hplain] <;> rfl) (Calls.evalArgs_plain ?_)
  exact thn hA fun us s2 ⟨vs, H2, I2, r2, q2⟩ => hm pins s2 σ H2 x vs v us Q I2 r1 r2 q2
end
end L2

namespace L2
open PySem PySem.Spec PyProof.Rows

def MtM (X : Cx) (id : String) (r : V → List V → Hp → VK → Prop) : Prop :=
  ∀ (pins : List (Addr × Obj)) (s : Shared) (σ : St) (H : Hp) (x : V) (xs : List V) (v : Value) (us : List Value) (Q : VK), Inv X pins σ H s → RelV x v → Vals xs us → r x xs H Q →
    wpAny (model X.prog X.w) X.A (call (.builtin id) (v :: us)) (EP X pins σ Q) X.xe s

theorem Vals.one : ∀ {x : V} {us : List Value}, Vals [x] us → ∃ u, us = [u] ∧ RelV x u
  | _, _, .cons r .nil => ⟨_, rfl, r⟩
theorem Vals.zero : ∀ {us : List Value}, Vals [] us → us = []
  | _, .nil => rfl
theorem Vals.dropLast {xs : List V} {us : List Value} (h : Vals xs us) : Vals xs.dropLast us.dropLast := by
  induction h with
  | nil => exact .nil
  | cons r t ih =>
    cases t with
    | nil => exact .nil
    | cons q t' => exact .cons r ih
theorem erase_last {α : Type} (l : List α) : l.eraseIdx (l.length - 1) = l.dropLast := by
  induction l with
  | nil => rfl
  | cons a r ih =>
    cases r with
    | nil => rfl
    | cons b r =>
      have e : (a :: b :: r).length - 1 = ((b :: r).length - 1) + 1 := by
        have h1 : (a :: b :: r).length = r.length + 2 := rfl
        have h2 : (b :: r).length = r.length + 1 := rfl
        omega
      rw [e, List.eraseIdx_cons_succ, ih]
      all_goals rfl
section
variable {X : Cx} {pins : List (Addr × Obj)} {σ : St} {H : Hp} {s : Shared} {l b : Addr} {xs ys zs : List V}

theorem Inv.lset {its its' : List Value} {n : Nat} {f : Array Value → Array Value} {t' : Nat} (I : Inv X pins σ H s) (hH : H l = some (.lst xs))
    (e : s.heap.get? l = some { cls := .type "list", data := .seq its.toArray n }) (hf : f its.toArray = its'.toArray) (hv : Vals ys its') (hz : ys.length ≤ sizeLine) :
    Inv X pins σ (upd H l (.lst ys)) { s with heap := s.heap.update l (Obj.mapSeq f), toks := t' } := by
  have q := PySem.IsL.update e f
  rw [hf] at q
  refine I.write (x := l) (e := l) (by rw [hH]; exact trivial) (.inl rfl) (fun b' u hb hu => (Heap.get?_update_other s.heap (Obj.mapSeq f) (Ne.symm hb)).trans hu) ⟨_, q⟩ ?_
  exact ⟨hz, its', _, hv, q⟩
theorem Inv.lnew {its : List Value} {t' : Nat} (I : Inv X pins σ H s) (hv : Vals ys its) (hz : ys.length ≤ sizeLine) :
    Inv X pins σ (upd H s.heap.objs.size (.lst ys)) { s with heap := s.heap.push { cls := .type "list", data := .seq its.toArray }, toks := t' } :=
  I.laid (fun _ _ q => Heap.get?_push_of_some _ q) (Nat.le_refl _) ⟨hz, its, 0, hv, Heap.get?_push_size _ rfl⟩
theorem Inv.fresh (I : Inv X pins σ H s) : H s.heap.objs.size = none := I.hok.fresh (Nat.le_refl _)
theorem Inv.lstM (I : Inv X pins σ H s) (hH : H l = some (.lst xs)) : xs.length ≤ sizeLine ∧ ∃ (its : List Value) (n : Nat), Vals xs its ∧ xs.length = its.length ∧ s.heap.get? l = some { cls := .type "list", data := .seq its.toArray n } := by
  obtain ⟨z, its, n, r, e⟩ := I.hok l _ hH
  exact ⟨z, its, n, r, r.length, e⟩

theorem notLongL {n : Nat} (h : n ≤ sizeLine) : Builtin.List.listTooLong n = false := by
  unfold Builtin.List.listTooLong
  exact decide_eq_false (by omega)
end

section
variable {X : Cx}

def rExtend : V → List V → Hp → VK → Prop := fun x vs H Q => ∃ l b xs zs, x = .ref l ∧ vs = [.ref b] ∧ H l = some (.lst xs) ∧ H b = some (.lst zs) ∧ xs.length + zs.length ≤ sizeLine ∧ Q .non (upd H l (.lst (xs ++ zs)))
theorem mt_extend : MtM X "list.extend" rExtend := by
  intro pins s σ H x vs v us Q I rx rv h
  obtain ⟨l, b, xs, zs, rfl, rfl, hH, hB, hz, q⟩ := h
  cases rx
  obtain ⟨u, rfl, ru⟩ := rv.one
  cases ru
  obtain ⟨z, its, n, r, hl, e⟩ := I.lstM hH
  obtain ⟨z2, its2, n2, r2, hl2, e2⟩ := I.lstM hB
  have hsz : its.toArray.size + its2.toArray.size ≤ sizeLine := by rw [List.size_toArray, List.size_toArray]; omega
  have hlong : ¬ (!its.toArray.isEmpty && Builtin.List.listTooLong (its.toArray.size + its2.toArray.size)) = true := by
    rw [notLongL hsz, Bool.and_false]
    exact Bool.false_ne_true
  refine call_meets F.slot_list_extend ⟨_, e, rfl⟩ F.entry_list_extend (F.args_list_extend_2 _ _)
    (AutoSeq1.list_extend_list_list_0 l its.toArray n b its2.toArray n2 hlong (by rw [List.size_toArray]; omega) (by omega)) ⟨e, e2, ?_⟩
  refine ⟨.non, _, I.lset (its' := its ++ its2) hH e (by simp) (r.append r2) ?_, rfl, q⟩
  rw [List.length_append]
  omega

def rPop : V → List V → Hp → VK → Prop := fun x vs H Q => ∃ l xs y, x = .ref l ∧ vs = [] ∧ H l = some (.lst xs) ∧ xs[xs.length - 1]? = some y ∧ Q y (upd H l (.lst xs.dropLast))
theorem mt_pop : MtM X "list.pop" rPop := by
  intro pins s σ H x vs v us Q I rx rv h
  obtain ⟨l, xs, y, rfl, rfl, hH, hy, q⟩ := h
  cases rx
  have hus := rv.zero
  subst hus
  obtain ⟨z, its, n, r, hl, e⟩ := I.lstM hH
  obtain ⟨u, hu, ru⟩ := r.get hy
  have hy' : its.toArray[its.toArray.size - 1]? = some u := by
    show its.toArray[its.length - 1]? = some u
    rw [← Array.getElem?_toList, ← hl]
    exact hu
  refine call_meets F.slot_list_pop ⟨_, e, rfl⟩ F.entry_list_pop (F.args_list_pop_1 _) (MeetsSeq.list_pop_last l its.toArray n u hy' (by rw [List.size_toArray]; omega)) ⟨e, ?_⟩
  refine ⟨y, _, I.lset (its' := its.dropLast) hH e ?_ r.dropLast ?_, ru, q⟩
  · show its.toArray.eraseIdxIfInBounds (its.toArray.size - 1) = its.dropLast.toArray
    rw [List.size_toArray, List.eraseIdxIfInBounds_toArray, erase_last]
  · rw [List.length_dropLast]
    omega

def rCat : R2 := fun x y H Q => ∃ l b xs zs, x = .ref l ∧ y = .ref b ∧ H l = some (.lst xs) ∧ H b = some (.lst zs) ∧ xs.length + zs.length ≤ sizeLine ∧ ∀ p, H p = none → Q (.ref p) (upd H p (.lst (xs ++ zs)))
theorem op_cat : OpR X (binaryOp .Add) rCat := by
  intro pins s σ H x y v u Q I rx ry h
  obtain ⟨l, b, xs, zs, rfl, rfl, hH, hB, hz, q⟩ := h
  cases rx
  cases ry
  obtain ⟨z, its, n, r, hl, e⟩ := I.lstM hH
  obtain ⟨z2, its2, n2, r2, hl2, e2⟩ := I.lstM hB
  refine PySem.P.add_list e e2 ?_ (by rw [List.size_toArray, List.size_toArray]; omega)
  have ea : its.toArray ++ its2.toArray = (its ++ its2).toArray := by simp
  rw [ea]
  exact ⟨.ref _, _, I.lnew (t' := s.toks) (r.append r2) (by rw [List.length_append]; omega), rfl, q _ I.fresh⟩
end

section
variable {prog : Program} {w : World} {A : Around} {E : Value → Shared → Prop} {s : Shared}
end

section
variable {X : Cx}
end
end L2

namespace L2
open PySem PySem.Spec PyProof.Rows

theorem Vals.ints : ∀ {ns : List Int} {us : List Value}, Vals (ns.map V.int) us → IntsAre us ns
  | [], us, h => by
    rw [List.map_nil] at h
    cases h
    exact IntsAre.nil
  | n :: ns, us, h => by
    rw [List.map_cons] at h
    cases h with
    | cons r t =>
      obtain ⟨k, rfl⟩ := r
      exact IntsAre.cons n k (Vals.ints t)
theorem Vals.ref1 {a : Addr} {us : List Value} (r : Vals [V.ref a] us) : us = [Value.ref a] := by
  cases r with
  | cons r t =>
    cases t
    cases r
    rfl
section
variable {prog : Program} {w : World} {A : Around} {E : Value → Shared → Prop} {s : Shared} {l : Addr} {its : List Value} {ns : List Int} {Q : Value → Shared → Prop}
theorem sum_raw (hh : A.handled = none) (hl : s.heap.IsList l its.toArray) (hi : IntsAre its ns)
    (h : ∀ h' tk t', (∀ b o, s.heap.get? b = some o → h'.get? b = some o) → Q (.int ns.sum t') { s with heap := h', toks := tk }) : wpAny (model prog w) A (call (.builtin "sum") [.ref l]) Q E s := by
  obtain ⟨xs, e⟩ := hi.allInts.items
  have hn : numsOf (intItems xs).toList = ns := by rw [← e]; exact hi.numsOf
  rw [nums_intItems] at hn
  rw [e] at hl
  refine PySem.sum_intListG hh hl fun h' tk t' hk => ?_
  have := h h' tk t' hk
  rw [preSum_eq, List.take_of_length_le (by simp), hn]; exact this
end

section
variable {X : Cx}
/-- sum(xs) of a list of ints -/
def rSum (K : PySem.W.Frag) : List V → Hp → VK → Prop := fun vs H Q => ∃ (a : Addr) (ns : List Int), vs = [V.ref a] ∧ SqL K H a (ns.map V.int) ∧ Q (.int ns.sum) H
theorem cr_sum (hc : X.calm = true) : CallR X (.builtin "sum") (rSum X.K) := by
  intro pins s σ H vs us Q I r h
  obtain ⟨a, ns, rfl, hs, q⟩ := h
  obtain ⟨its, rv, hl, _⟩ := I.list hs
  rw [Vals.ref1 r]
  exact sum_raw (I.ok.hd hc) hl.isList rv.ints fun h' tk t' hk => ⟨.int _, H, I.kept hk, ⟨_, rfl⟩, q⟩
end

section
variable {X : Cx}
end

section
variable {X : Cx}
end

section
variable {X : Cx}
end

section
variable {X : Cx} {pins : List (Addr × Obj)} {σ : St} {H : Hp} {s : Shared}
end
section
variable {X : Cx}
end
end L2

namespace L2
open PySem PySem.Spec PyProof.Rows
abbrev CellAt (h : Heap) (c : Addr) (v : Option Value) : Prop := h.IsCell c v
def relS (scope sc : Scope) : Scope :=
  { scope with names := scope.names.map fun (n, k) => if (k == .free && sc.kind == .function && sc.names.lookup n == some .cell) then (n, .cell) else (n, k) }

def cloFrom (cells : List (Str × Addr)) : List (Str × NameKind) → List (Str × Addr) → List (Str × Addr)
  | [], acc => acc
  | (n, k) :: r, acc => if k == .free then cloFrom cells r ((n, (cells.lookup n).getD 0) :: acc) else cloFrom cells r acc

theorem closure_loop (env : Env) (f : Str × NameKind → List (Str × Addr) → Sem (ForInStep (List (Str × Addr))))
    (hf : ∀ n k c, f (n, k) c = if k == .free then (do let a ← cellOf env n; pure (.yield ((n, a) :: c))) else pure (.yield c)) :
    ∀ (names : List (Str × NameKind)) (acc : List (Str × Addr)), (∀ y ∈ names, y.2 = .free → ∃ c, env.cells.lookup y.1 = some c) → forIn names acc f = pure (cloFrom env.cells names acc)
  | [], acc, _ => by rw [List.forIn_nil]; rfl
  | (n, k) :: r, acc, h => by
    rw [List.forIn_cons, hf]
    have ih := fun acc => closure_loop env f hf r acc fun y hy => h y (List.mem_cons_of_mem _ hy)
    unfold cloFrom
    by_cases hk : (k == NameKind.free) = true
    · rw [if_pos hk, if_pos hk]
      obtain ⟨c, hc⟩ := h (n, k) List.mem_cons_self (by simpa using hk)
      have e : cellOf env n = pure c := by unfold cellOf; rw [hc]
      rw [e]
      have e2 : (env.cells.lookup n).getD 0 = c := by rw [hc]; rfl
      rw [e2]
      exact ih _
    · rw [if_neg hk, if_neg hk]
      exact ih _
theorem closure_ok {scope : Scope} {env : Env} (h : ∀ y ∈ scope.names, y.2 = .free → ∃ c, env.cells.lookup y.1 = some c) : closureFor scope env = pure (cloFrom env.cells scope.names []) := by
  simp only [closureFor]
  rw [closure_loop env _ (fun n k c => rfl) scope.names [] h]
  rfl

theorem mem_lookup {α : Type} : ∀ {l : List (Str × α)} {n : Str} {c : α}, (n, c) ∈ l → ∃ c', l.lookup n = some c'
  | (k, v) :: r, n, c, h => by
    rw [List.lookup_cons]
    cases hb : n == k with
    | true => exact ⟨_, rfl⟩
    | false =>
      rcases List.mem_cons.mp h with e | h
      · cases e; simp at hb
      · exact mem_lookup h

theorem cloFrom_mem {cells : List (Str × Addr)} : ∀ {names : List (Str × NameKind)} {acc : List (Str × Addr)} {n : Str} {c : Addr}, (n, c) ∈ cloFrom cells names acc → (n, c) ∈ acc ∨ ((n, .free) ∈ names ∧ c = (cells.lookup n).getD 0)
  | [], _, _, _, h => .inl h
  | (m, k) :: r, acc, n, c, h => by
    unfold cloFrom at h
    split at h
    · rename_i hk
      have hk : k = .free := by simpa using hk
      rcases cloFrom_mem h with h | ⟨h1, h2⟩
      · rcases List.mem_cons.mp h with e | h
        · cases e; exact .inr ⟨hk ▸ List.mem_cons_self, rfl⟩
        · exact .inl h
      · exact .inr ⟨List.mem_cons_of_mem _ h1, h2⟩
    · rcases cloFrom_mem h with h | ⟨h1, h2⟩
      · exact .inl h
      · exact .inr ⟨List.mem_cons_of_mem _ h1, h2⟩
theorem cloFrom_acc {cells : List (Str × Addr)} : ∀ {names : List (Str × NameKind)} {acc : List (Str × Addr)} {p : Str × Addr}, p ∈ acc → p ∈ cloFrom cells names acc
  | [], _, _, h => h
  | (m, k) :: r, acc, p, h => by
    unfold cloFrom
    split
    · exact cloFrom_acc (List.mem_cons_of_mem _ h)
    · exact cloFrom_acc h
theorem cloFrom_has {cells : List (Str × Addr)} : ∀ {names : List (Str × NameKind)} {acc : List (Str × Addr)} {n : Str}, (n, .free) ∈ names → (n, (cells.lookup n).getD 0) ∈ cloFrom cells names acc
  | (m, k) :: r, acc, n, h => by
    unfold cloFrom
    rcases List.mem_cons.mp h with e | h
    · cases e
      exact cloFrom_acc List.mem_cons_self
    · split
      · exact cloFrom_has h
      · exact cloFrom_has h

theorem cells_mem : ∀ {names : List (Str × NameKind)} {h : Heap} {acc : List (Str × Addr)} {x : Str} {c : Addr}, (x, c) ∈ cellsFrom h.objs.size names acc →
    (x, c) ∈ acc ∨ ((x, .cell) ∈ names ∧ h.objs.size ≤ c ∧ CellAt (pushCells h names) c none)
  | [], _, _, _, _, h => .inl h
  | (n, k) :: r, h, acc, x, c, hm => by
    unfold cellsFrom at hm
    unfold pushCells
    split at hm
    · rename_i hk
      rw [if_pos hk]
      have hk : k = .cell := by simpa using hk
      rw [← Heap.size_push h { cls := .type "cell", data := .cell none }] at hm
      rcases cells_mem hm with hm | ⟨h1, h2, h3⟩
      · rcases List.mem_cons.mp hm with e | hm
        · cases e
          exact .inr ⟨hk ▸ List.mem_cons_self, Nat.le_refl _, _, pushCells_keeps r _ _ _ (Heap.get?_push_size _ rfl), rfl⟩
        · exact .inl hm
      · rw [Heap.size_push] at h2
        exact .inr ⟨List.mem_cons_of_mem _ h1, Nat.le_of_succ_le h2, h3⟩
    · rename_i hk
      rw [if_neg hk]
      rcases cells_mem hm with hm | ⟨h1, h2, h3⟩
      · exact .inl hm
      · exact .inr ⟨List.mem_cons_of_mem _ h1, h2, h3⟩
theorem cells_acc : ∀ {names : List (Str × NameKind)} {n : Nat} {acc : List (Str × Addr)} {p : Str × Addr}, p ∈ acc → p ∈ cellsFrom n names acc
  | [], _, _, _, h => h
  | (m, k) :: r, n, acc, p, h => by
    unfold cellsFrom
    split
    · exact cells_acc (List.mem_cons_of_mem _ h)
    · exact cells_acc h
theorem cells_has : ∀ {names : List (Str × NameKind)} {n : Nat} {acc : List (Str × Addr)} {x : Str}, (x, .cell) ∈ names → ∃ c, (x, c) ∈ cellsFrom n names acc
  | (m, k) :: r, n, acc, x, h => by
    unfold cellsFrom
    rcases List.mem_cons.mp h with e | h
    · cases e
      exact ⟨n, cells_acc List.mem_cons_self⟩
    · split
      · exact cells_has h
      · exact cells_has h
theorem cells_inj : ∀ {names : List (Str × NameKind)} {h : Heap} {acc : List (Str × Addr)} {x y : Str} {c : Addr}, (∀ p ∈ acc, p.2 < h.objs.size) → (∀ x y c, (x, c) ∈ acc → (y, c) ∈ acc → x = y) →
    (x, c) ∈ cellsFrom h.objs.size names acc → (y, c) ∈ cellsFrom h.objs.size names acc → x = y
  | [], _, _, _, _, _, _, hi, h1, h2 => hi _ _ _ h1 h2
  | (n, k) :: r, h, acc, x, y, c, hl, hi, h1, h2 => by
    unfold cellsFrom at h1 h2
    split at h1
    · rename_i hk
      rw [if_pos hk] at h2
      rw [← Heap.size_push h { cls := .type "cell", data := .cell none }] at h1 h2
      refine cells_inj (h := h.push _) (fun p hp => ?_) (fun x y c a b => ?_) h1 h2
      · rw [Heap.size_push]
        rcases List.mem_cons.mp hp with rfl | hp
        · exact Nat.lt_succ_self _
        · exact Nat.lt_succ_of_lt (hl p hp)
      · rcases List.mem_cons.mp a with e | a <;> rcases List.mem_cons.mp b with e' | b
        · cases e; cases e'; rfl
        · cases e; exact absurd (hl _ b) (Nat.lt_irrefl _)
        · cases e'; exact absurd (hl _ a) (Nat.lt_irrefl _)
        · exact hi _ _ _ a b
    · rename_i hk
      rw [if_neg hk] at h2
      exact cells_inj hl hi h1 h2

theorem newEnv_comp {M : Model} {A : Around} {E : Value → Shared → Prop} {s : Shared} {scope : Scope} {globals : Addr} {closure : List (Str × Addr)} {qual : Str} {func : Option Addr} {code : Value} {around : Env} {builtins : Addr} {Q : Env → Shared → Prop}
    (h : Q (newEnv scope s.heap.objs.size globals (cellsFrom (s.heap.objs.size + 1) scope.names closure) qual func code (some around) builtins)
      { s with heap := pushCells (s.heap.push { cls := .type "dict", data := .dict #[] }) scope.names }) :
    wpAny M A (newFunctionEnv scope globals closure [] qual func code (some around) builtins) Q E s := by
  simp only [newFunctionEnv, Option.isSome_some, if_true]
  refine wpAny_bind (wpAny_alloc ?_)
  refine wpAny_bind (wpAny_layCells _ (fun n k c => rfl) scope.names closure _ _ ?_)
  rw [show ({ s with heap := s.heap.push { cls := .type "dict", data := .dict #[] } } : Shared).heap.objs.size = s.heap.objs.size + 1 from Heap.size_push ..]
  rw [List.forIn_nil]
  exact wpAny_bind (wpAny_pure (wpAny_pure h))

/-- every name of the written scope, in the scope that runs -/
theorem lookup_relS {sc : Scope} : ∀ {names : List (Str × NameKind)} {x : Str} {k : NameKind},
    (names.map fun (n, k) => if (k == NameKind.free && sc.kind == .function && sc.names.lookup n == some .cell) then (n, NameKind.cell) else (n, k)).lookup x = some k →
    ∃ k', names.lookup x = some k' ∧ (k = k' ∨ (k' = .free ∧ k = .cell))
  | [], _, _, h => by simp at h
  | (n, k₀) :: r, x, k, h => by
    have ih := @lookup_relS sc r x k
    have h' : List.lookup x ((if (k₀ == NameKind.free && sc.kind == .function && sc.names.lookup n == some .cell) = true then (n, NameKind.cell) else (n, k₀)) :: (r.map _)) = some k := h
    cases hx : x == n with
    | true =>
      simp only [List.lookup_cons, hx]
      by_cases hc : (k₀ == NameKind.free && sc.kind == .function && sc.names.lookup n == some .cell) = true
      · rw [if_pos hc] at h'
        simp only [List.lookup_cons, hx] at h'
        cases h'
        simp only [Bool.and_eq_true, beq_iff_eq] at hc
        exact ⟨k₀, rfl, .inr ⟨hc.1.1, rfl⟩⟩
      · rw [if_neg hc] at h'
        simp only [List.lookup_cons, hx] at h'
        cases h'
        exact ⟨_, rfl, .inl rfl⟩
    | false =>
      simp only [List.lookup_cons, hx]
      by_cases hc : (k₀ == NameKind.free && sc.kind == .function && sc.names.lookup n == some .cell) = true
      · rw [if_pos hc] at h'
        simp only [List.lookup_cons, hx] at h'
        exact ih h'
      · rw [if_neg hc] at h'
        simp only [List.lookup_cons, hx] at h'
        exact ih h'
/-- the names of a comprehension's block: its own (with their places in N), or captured -/
structure BlkOk (N : List Str) (sc scope : Scope) (own : List (Str × Nat)) : Prop where
  kind : scope.kind = .function
  uniq : ∀ y ∈ scope.names, scope.names.lookup y.1 = some y.2
  ix : ∀ p ∈ own, N[p.2]? = some p.1
  free : ∀ y ∈ scope.names, y.2 = .free → sc.names.lookup y.1 = some .cell ∨ sc.names.lookup y.1 = some .free
  own : ∀ y ∈ scope.names, y.2 = .local ∨ y.2 = .cell → y.1 ∈ own.map (·.1) ∨ y.1 ∉ N
/-- the slots of the block's own names forgotten -/
def wipe (σ : St) : List Nat → St
  | [] => σ
  | v :: vs => (wipe σ vs).set v none
theorem wipe_length (σ : St) : ∀ vs : List Nat, (wipe σ vs).length = σ.length
  | [] => rfl
  | v :: vs => by unfold wipe; rw [List.length_set, wipe_length σ vs]
theorem wipe_some {σ : St} {i : Nat} {x : V} : ∀ {vs : List Nat}, (wipe σ vs)[i]? = some (some x) → σ[i]? = some (some x) ∧ i ∉ vs
  | [], h => ⟨h, by simp⟩
  | v :: vs, h => by
    unfold wipe at h
    by_cases hi : v = i
    · subst hi
      by_cases hv : v < (wipe σ vs).length
      · rw [List.getElem?_set_self hv] at h; cases h
      · rw [List.getElem?_eq_none (by simpa using hv)] at h; cases h
    · rw [List.getElem?_set_ne hi] at h
      obtain ⟨h1, h2⟩ := wipe_some h
      exact ⟨h1, by simp only [List.mem_cons, not_or]; exact ⟨fun e => hi e.symm, h2⟩⟩

/-- the context of a block that starts at s, its iterator's objects at fp -/
abbrev Cx.blk (X : Cx) (s : Shared) (H : Hp) (scope : Scope) (cenv : Env) (fp : List Addr) : Cx := { X with s₀ := s, H₀ := H, env := cenv, outer := X.stack, ex := fp, fn := fun x => scope.names.lookup x == some .cell, pn := [], xe := fun _ _ => False }
section
variable {X : Cx} {pins : List (Addr × Obj)} {σ : St} {H : Hp} {s : Shared}
theorem block_start {scope : Scope} {own : List (Str × Nat)} {fp : List Addr} (I : Inv X pins σ H s) (ok : BlkOk X.N X.env.scope scope own) (hN : X.N.Nodup) (hfp : ∀ b ∈ fp, FpOk X pins H b ∧ b < s.heap.objs.size) :
    Inv (X.blk s H scope (compEnvC scope (cellsFrom (s.heap.objs.size + 1) scope.names (cloFrom X.env.cells scope.names [])) s.heap.objs.size X.env) fp) [] (wipe σ (own.map (·.2))) H { s with heap := pushCells (s.heap.push { cls := .type "dict", data := .dict #[] }) scope.names } := by
  have hfree : ∀ y ∈ scope.names, y.2 = .free → ∃ c, X.env.cells.lookup y.1 = some c := fun y hy e => by
    rcases ok.free y hy e with k | k
    · exact I.ok.has _ (.inl k)
    · exact I.ok.has _ (.inr k)
  generalize hcenv : compEnvC scope (cellsFrom (s.heap.objs.size + 1) scope.names (cloFrom X.env.cells scope.names [])) s.heap.objs.size X.env = cenv
  have kp : ∀ b o, s.heap.get? b = some o → (pushCells (s.heap.push { cls := .type "dict", data := .dict #[] }) scope.names).get? b = some o := fun b o e => pushCells_keeps _ _ _ _ (Heap.get?_push_of_some _ e)
  have hL : cenv.locals = s.heap.objs.size := by rw [← hcenv]; rfl
  have hcl : cenv.cells = cellsFrom (s.heap.objs.size + 1) scope.names (cloFrom X.env.cells scope.names []) := by rw [← hcenv]; rfl
  have hsc : cenv.scope = relS scope X.env.scope := by rw [← hcenv]; rfl
  rw [← Heap.size_push s.heap { cls := .type "dict", data := .dict #[] }] at hcl
  have cm : ∀ {y c}, (y, c) ∈ cloFrom X.env.cells scope.names [] → X.env.cells.lookup y = some c ∧ c < s.heap.objs.size := fun {y c} hm => by
    rcases cloFrom_mem hm with hm | ⟨h1, rfl⟩
    · cases hm
    · obtain ⟨c, hc⟩ := hfree _ h1 rfl
      rw [hc]
      obtain ⟨w, z⟩ := I.cell _ _ hc
      exact ⟨rfl, z.lt⟩
  have mem : ∀ {y c}, cenv.cells.lookup y = some c → (X.env.cells.lookup y = some c ∧ c < s.heap.objs.size) ∨ (s.heap.objs.size + 1 ≤ c ∧ CellAt (pushCells (s.heap.push { cls := .type "dict", data := .dict #[] }) scope.names) c none) := fun {y c} e => by
    rw [hcl] at e
    rcases cells_mem (PySem.mem_of_lookup e) with hm | ⟨_, h2, h3⟩
    · exact .inl (cm hm)
    · rw [Heap.size_push] at h2; exact .inr ⟨h2, h3⟩
  have look : ∀ {y}, scope.names.lookup y = some .free → ∃ c, cenv.cells.lookup y = some c ∧ X.env.cells.lookup y = some c := fun {y} hl => by
    have hy : (y, NameKind.free) ∈ scope.names := PySem.mem_of_lookup hl
    obtain ⟨c', e'⟩ := mem_lookup (cells_acc (names := scope.names) (n := (s.heap.push { cls := .type "dict", data := .dict #[] }).objs.size) (cloFrom_has (cells := X.env.cells) (acc := []) hy))
    rw [← hcl] at e'
    refine ⟨c', e', ?_⟩
    rw [hcl] at e'
    rcases cells_mem (PySem.mem_of_lookup e') with hm | ⟨h1, _, _⟩
    · exact (cm hm).1
    · have := ok.uniq _ h1
      rw [hl] at this; cases this
  have okB : (X.blk s H scope cenv fp).Ok := by
    refine ⟨I.ok.mod, by show cenv.scope.kind = _; rw [hsc]; exact ok.kind, by show cenv.globals = _; rw [← hcenv]; exact I.ok.glob, by show cenv.builtins = _; rw [← hcenv]; exact I.ok.blt, by show s.heap.objs.size ≤ cenv.locals; rw [hL]; exact Nat.le_refl _,
      fun y z c e1 e2 => ?_, fun y hy => ?_, fun y c z e => ?_, I.ok.hd, I.ok.frames, .inl rfl, fun b hb => ⟨?_, fun y c e z => ?_⟩, I.bs, Nat.le_trans I.ok.bsz I.sz, fun b o e hb => ?_, fun b hb z => ?_, I.stack, I.stkFree⟩
    · have e1 : cenv.cells.lookup y = some c := e1
      have e2 : cenv.cells.lookup z = some c := e2
      rw [hcl] at e1 e2
      refine cells_inj (fun p hp => ?_) (fun y z c a b => I.ok.inj y z c (cm a).1 (cm b).1) (PySem.mem_of_lookup e1) (PySem.mem_of_lookup e2)
      rw [Heap.size_push]
      exact Nat.lt_succ_of_lt (cm (y := p.1) (c := p.2) hp).2
    · show ∃ c, cenv.cells.lookup y = some c
      have key : ∀ k, cenv.kindOf y = some k → (k = .cell ∨ k = .free) → ∃ c, cenv.cells.lookup y = some c := fun k hk hk' => by
        unfold Env.kindOf at hk
        rw [hsc] at hk
        obtain ⟨k', e, r⟩ := lookup_relS hk
        have : k' = .cell ∨ k' = .free := by
          rcases r with rfl | ⟨rfl, _⟩
          · exact hk'
          · exact .inr rfl
        rcases this with rfl | rfl
        · obtain ⟨c, hm⟩ := cells_has (n := (s.heap.push { cls := .type "dict", data := .dict #[] }).objs.size) (acc := cloFrom X.env.cells scope.names []) (PySem.mem_of_lookup e)
          obtain ⟨c', e'⟩ := mem_lookup hm
          exact ⟨c', by rw [hcl]; exact e'⟩
        · obtain ⟨c, h1, _⟩ := look e
          exact ⟨c, h1⟩
      rcases hy with hy | hy
      · exact key _ hy (.inl rfl)
      · exact key _ hy (.inr rfl)
    · have z : (scope.names.lookup y == some NameKind.cell) = true := z
      have z : scope.names.lookup y = some .cell := by simpa using z
      have e : cenv.cells.lookup y = some c := e
      rw [hcl] at e
      rcases cells_mem (PySem.mem_of_lookup e) with hm | ⟨_, h2, _⟩
      · rcases cloFrom_mem hm with hm | ⟨h1, _⟩
        · cases hm
        · have q := ok.uniq _ h1
          rw [z] at q; cases q
      · rw [Heap.size_push] at h2
        exact Nat.le_of_succ_le h2
    · show b ≠ cenv.locals
      rw [hL]; exact Nat.ne_of_lt (hfp b hb).2
    · have e : cenv.cells.lookup y = some c := e
      rcases mem e with ⟨h1, _⟩ | ⟨h1, _⟩
      · exact (hfp b hb).1.2.2.2.2.1 y c h1 z
      · have h2 : s.heap.objs.size + 1 ≤ b := by rw [← z]; exact h1
        exact absurd (Nat.lt_of_lt_of_le (hfp b hb).2 (Nat.le_of_succ_le h2)) (Nat.lt_irrefl _)
    · rcases (hfp b hb).1.2.2.2.1 with z | z
      · exact I.ok.noex b o e z
      · exact absurd (Nat.lt_of_lt_of_le (Heap.lt_size e) (Nat.le_trans I.ok.bsz z)) (Nat.lt_irrefl _)
    · rcases List.mem_cons.mp (I.stkSub b z) with z | z
      · exact (hfp b hb).1.2.1 z
      · exact (hfp b hb).1.2.2.1 z
  refine ⟨okB, rfl, I.bare, Un.kept kp, ⟨fun _ => none, ?_, fun i y av e1 e2 e3 => ?_⟩, fun y c e => ?_, ?_, fun y c e => ?_, fun p hp => ?_, I.hok.kept kp, by rw [wipe_length]; exact I.len⟩
  · show Heap.Ns _ cenv.locals _
    rw [hL]
    exact Heap.Ns.keeps (Heap.Ns.new ..) fun b o e => pushCells_keeps _ _ _ _ e
  · obtain ⟨e2, hne⟩ := wipe_some e2
    have hfr : scope.names.lookup y = some .free ∧ (cenv.kindOf y = some .cell ∨ cenv.kindOf y = some .free) := by
      have key : ∀ k, cenv.scope.names.lookup y = some k → k = .local ∨ k = .cell ∨ k = .free → scope.names.lookup y = some .free ∧ (cenv.kindOf y = some .cell ∨ cenv.kindOf y = some .free) := fun k hk hk' => by
        have hk0 := hk
        rw [hsc] at hk
        obtain ⟨k', e, r⟩ := lookup_relS hk
        have no : ¬ (k' = .local ∨ k' = .cell) := fun hh => by
          rcases ok.own _ (PySem.mem_of_lookup e) hh with e' | e'
          · obtain ⟨p, hp, hpy⟩ := List.mem_map.mp e'
            have e3 := ok.ix p hp
            have : p.1 = y := hpy
            rw [this] at e3
            exact hne (List.mem_map.mpr ⟨p, hp, nodup_ix hN e3 e1⟩)
          · exact e' (List.mem_of_getElem? e1)
        rcases r with rfl | ⟨rfl, rfl⟩
        · rcases hk' with rfl | rfl | rfl
          · exact absurd (.inl rfl) no
          · exact absurd (.inr rfl) no
          · exact ⟨e, .inr hk0⟩
        · exact ⟨e, .inl hk0⟩
      have e3 : Vis cenv.scope y := e3
      rcases e3 with e3 | e3 | e3
      · exact key _ e3 (.inl rfl)
      · exact key _ e3 (.inr (.inl rfl))
      · exact key _ e3 (.inr (.inr rfl))
    obtain ⟨m, hn, hl⟩ := I.loc
    have hvis : Vis X.env.scope y := (ok.free _ (PySem.mem_of_lookup hfr.1) rfl).elim (fun k => .inr (.inl k)) (fun k => .inr (.inr k))
    obtain ⟨w, r, q⟩ := hl i y av e1 e2 hvis
    refine ⟨w, r, .inr ⟨hfr.2, ?_⟩⟩
    obtain ⟨c, h1, h2⟩ := look hfr.1
    rcases q with ⟨k, _⟩ | ⟨_, c', e', z⟩
    · have k : X.env.scope.names.lookup y = some .local := k
      rcases ok.free _ (PySem.mem_of_lookup hfr.1) rfl with k' | k' <;> rw [show X.env.scope.names.lookup y = _ from k'] at k <;> cases k
    · rw [h2] at e'; cases e'
      exact ⟨c, h1, z.keeps kp⟩
  · have e : cenv.cells.lookup y = some c := e
    rcases mem e with ⟨h1, _⟩ | ⟨_, z⟩
    · obtain ⟨w, z⟩ := I.cell y c h1
      exact ⟨w, z.keeps kp⟩
    · exact ⟨_, z⟩
  · show H cenv.locals = none
    rw [hL]; exact I.hok.fresh (Nat.le_refl _)
  · have e : cenv.cells.lookup y = some c := e
    rcases mem e with ⟨h1, _⟩ | ⟨h1, _⟩
    · exact I.freeC y c h1
    · exact I.hok.fresh (Nat.le_of_succ_le h1)
  · exact absurd (show p ∈ ([] : List (Addr × Obj)) ++ [] from hp) (by simp)

/-- an item appended to a tracked list -/
theorem app_ok {E : Value → Shared → Prop} {D : Addr} {xs : List V} {y : V} {v : Value} {Q : Value → Shared → Prop} (I : Inv X pins σ H s) (hD : H D = some (.lst xs)) (hz : xs.length < sizeLine) (r : RelV y v)
    (h : ∀ s', Inv X pins σ (upd H D (.lst (xs ++ [y]))) s' → Q .none s') : wpAny (model X.prog X.w) X.A (call (.builtin "list.append") [.ref D, v]) Q E s := by
  obtain ⟨hz', its, n, ri, e⟩ := I.hok D _ hD
  have hl := ri.length
  refine append_at (hsz := by rw [List.size_toArray]; omega) e fun h' sb ho' => ?_
  refine h { s with heap := h' } (I.write (t' := s.toks) (by rw [hD]; trivial) (.inl rfl) (fun b u hb q => (sb.2 b hb).trans q) ⟨_, ho'⟩ ⟨by rw [List.length_append]; exact hz, its ++ [v], n + 1, ri.append (.cons r .nil), ?_⟩)
  rw [ho']
  simp

/-- a clause's tests -/
def PTs (X : Cx) (ifs : List Expr) (t : TT) : Prop :=
  ∀ (pins : List (Addr × Obj)) (s : Shared) (σ : St) (H : Hp) (Q : Bool → Hp → Prop), Inv X pins σ H s → t σ H Q →
    wpAny (model X.prog X.w) X.A (forIn ifs true fun c r => if r = true then do let ok ← isTrue c X.env (eval c X.env); pure (ForInStep.yield ok) else pure (ForInStep.yield r)) (TP X pins σ Q) X.xe s
def tYes : TT := fun _ H Q => Q true H
theorem pts_nil : PTs X [] tYes := fun _ _ _ H _ I h => wpAny_tests_nil ⟨H, I, h⟩
theorem pts_one {c : Expr} {t : TT} (h : PT X c t) : PTs X [c] t := fun pins s σ H Q I hw => wpAny_tests_one (h pins s σ H Q I hw)
end

theorem thnF {α : Type} {t : Sem α} {Q Q' : α → Shared → Prop} {M : Model} {A : Around} {E : Value → Shared → Prop} {s : Shared} (h : wpAny M A t Q (fun _ _ => False) s) (hQ : ∀ a s, Q a s → Q' a s) : wpAny M A t Q' E s := wpAny_mono h hQ fun _ _ z => False.elim z

/-- the loop of a list comprehension's block, the target of any form (codeAny_compLoop_tests asks a target that no tuple goes to; statement and proof follow it, PyProof/CompMap.lean:41-61, with the step letOwnedTupleGo kept) -/
theorem compLoop_any {prog : Program} {w : World} {A : Around} {R : Result → Shared → Prop} {s : Shared} {elt target iter : Expr} {ifs : List Expr} {scope : Scope} {pos : Pos} {it acc : Value} {env : Env} (I : Nat → Shared → Prop)
    (turn : ∀ n s, I n s → wpAny (model prog w) A (pyNext it) (fun r s₁ => match r with
      | none => R (.ok .next) s₁
      | some v => wpAny (model prog w) A (letOwnedTupleGo target it v) (fun _ s₁' => wpAny (model prog w) A (assign target env v) (fun _ s₂ =>
          wpAny (model prog w) A (forIn ifs true fun c r => if r = true then do let ok ← isTrue c env (eval c env); pure (ForInStep.yield ok) else pure (ForInStep.yield r)) (fun ok s₃ =>
            if ok = true then wpAny (model prog w) A (eval elt env) (fun x s₄ =>
              wpAny (model prog w) A (call (.builtin "list.append") [acc, x]) (fun _ s₅ => ∃ m, m < n ∧ I m s₅) (notedBy (model prog w) A env fun e s' => R (.error e) s') s₄) (notedBy (model prog w) A env fun e s' => R (.error e) s') s₃
            else ∃ m, m < n ∧ I m s₃) (notedBy (model prog w) A env fun e s' => R (.error e) s') s₂) (notedBy (model prog w) A env fun e s' => R (.error e) s') s₁') (notedBy (model prog w) A env fun e s' => R (.error e) s') s₁) (notedBy (model prog w) A env fun e s' => R (.error e) s') s)
    (n : Nat) (h : I n s) :
    codeAny (model prog w) A (.compLoop (.ListComp elt [⟨target, iter, ifs, 0⟩] scope pos) 0 it acc env) R s := by
  refine codeAny_loop rfl I (fun n s hI => ?_) n h
  show wpAny _ A ((compTurn (.ListComp elt [⟨target, iter, ifs, 0⟩] scope pos) 0 it acc env).onRaise (fun x => do noteFrame x env; theTreesLotGoes x)) _ _ s
  refine wpAny_noted ?_
  rw [compTurn_list]
  refine wpAny_bind (wpAny_standAt (wpAny_bind (wpAny_mono (turn n s hI) (fun r s₁ h₁ => ?_) fun _ _ h' => h')))
  cases r with
  | none => exact wpAny_pure h₁
  | some v =>
    refine wpAny_bind (wpAny_mono h₁ (fun _ s₁' h₁' => ?_) fun _ _ h' => h')
    refine wpAny_bind (wpAny_mono h₁' (fun _ s₂ h₂ => wpAny_bind (wpAny_mono h₂ (fun ok s₃ h₃ => ?_) fun _ _ h' => h')) fun _ _ h' => h')
    cases ok with
    | false => exact wpAny_pure ⟨rfl, h₃⟩
    | true =>
      exact wpAny_bind (wpAny_bind (wpAny_mono h₃ (fun x s₄ h₄ => wpAny_bind (wpAny_mono h₄ (fun _ s₅ h₅ => wpAny_pure (wpAny_pure ⟨rfl, h₅⟩)) fun _ _ h' => h')) fun _ _ h' => h'))

section
variable {X : Cx}
/-- [elt for target in iter if ..]: D the new list; W by the turn and a measure, Nx what a turn is to reach -/
def tLc (wi : TI) (g : TG) (tt : TT) (te : TE) (vs : List Nat) : TE := fun σ H Q => wi σ H fun J H1 => ∀ D, H1 D = none → ∃ W : Nat → Nat → Hp → Prop, (∃ m, W 0 m (upd H1 D (.lst []))) ∧ ∀ i m H, W i m H →
  (J.stop i H ∧ Q (.ref D) H) ∨ (J.go i H ∧ ∃ Nx : Hp → Prop, (∀ H', Nx H' → ∃ m', m' < m ∧ W (i + 1) m' H') ∧ ∀ x H', J.yld i H x H' → g x (wipe σ vs) H' fun σ2 H2 => wipe σ2 vs = wipe σ vs ∧ tt σ2 H2 fun b H3 =>
    if b = true then te σ2 H3 fun y H4 => ∃ acc, H4 D = some (.lst acc) ∧ acc.length < sizeLine ∧ Nx (upd H4 D (.lst (acc ++ [y]))) else Nx H3)
theorem lc_core {pins : List (Addr × Obj)} {s : Shared} {σ : St} {H : Hp} {Q : VK} {elt tg iter : Expr} {ifs : List Expr} {scope : Scope} {own : List (Str × Nat)} {pos pos' : Pos} {wi : TI} {g : TG} {tt : TT} {te : TE} {use : Option (Value → Sem Unit)} {Qf : Value → Shared → Prop}
    (hc : X.calm = true) (hN : X.N.Nodup) (I : Inv X pins σ H s) (hi : PI X tg iter wi) (ok : BlkOk X.N X.env.scope scope own)
    (hg : ∀ (s : Shared) (H : Hp) (C : Addr) (cl : List (Str × Addr)) (fp : List Addr), PG (X.blk s H scope (compEnvC scope cl C X.env) fp) tg g) (ht : ∀ (s : Shared) (H : Hp) (C : Addr) (cl : List (Str × Addr)) (fp : List Addr), PTs (X.blk s H scope (compEnvC scope cl C X.env) fp) ifs tt)
    (he : ∀ (s : Shared) (H : Hp) (C : Addr) (cl : List (Str × Addr)) (fp : List Addr), PE (X.blk s H scope (compEnvC scope cl C X.env) fp) elt te) (hs : ∀ x, foldedSetIterable iter X.env x = pure x)
    (h : tLc wi g tt te (own.map (·.2)) σ H Q)
    (hRR : ∀ D C s' m H', Inv X pins σ H' s' → Q (.ref D) H' → s'.heap.Ns C m → FpOk X pins H' C → compPost (model X.prog X.w) X.A X.xe use Qf (.ref D) C (.ok .next) s') :
    wpAny (model X.prog X.w) X.A (comprehension (.ListComp elt [⟨tg, iter, ifs, 0⟩] scope pos) scope X.env pos' (newList []) false (eval iter X.env) use) Qf X.xe s := by
  have hfree : ∀ y ∈ scope.names, y.2 = .free → ∃ c, X.env.cells.lookup y.1 = some c := fun y hy e => by
    rcases ok.free y hy e with k | k
    · exact I.ok.has _ (.inl k)
    · exact I.ok.has _ (.inr k)
  refine wpAny_comprehension_free (use := use) rfl hs (closure_ok hfree) ok.kind (fun y hy e => by rw [ok.uniq y hy, e])
    (thn (hi pins s σ H _ I h) fun xv s1 hx => thn hx fun itv s2 h2 => ?_)
  obtain ⟨it, fp, tn, J, H2, e, I2, T, st2, f2, q⟩ := h2
  subst e
  refine wpAny_newObj_type (newEnv_comp ?_) (by show 0 ≤ sizeLine; decide)
  generalize hD : s2.heap.objs.size = D
  have hDn : H2 D = none := I2.hok.fresh (Nat.le_of_eq hD)
  obtain ⟨W, ⟨m0, w0⟩, turn⟩ := q D hDn
  -- the new list
  generalize hs3 : ({ s2 with heap := s2.heap.push { cls := .type "list", data := .seq ([] : List Value).toArray } } : Shared) = s3
  have I3 : Inv X pins σ (upd H2 D (.lst [])) s3 := by
    rw [← hs3]
    refine I2.laid (t' := s2.toks) (fun b o e => Heap.get?_push_of_some _ e) (Nat.le_of_eq hD) ⟨Nat.zero_le _, [], 0, .nil, ?_⟩
    rw [← hD]
    exact Heap.get?_push_size _ rfl
  have h3 : s3.heap = s2.heap.push { cls := .type "list", data := .seq ([] : List Value).toArray } := by rw [← hs3]
  have sz : ∀ b ∈ fp, b < s2.heap.objs.size := fun b hb => by
    obtain ⟨o, e, _⟩ := T.obj _ _ st2 b hb
    exact Heap.lt_size e
  have f3 : ∀ b ∈ fp, FpOk X pins (upd H2 D (.lst [])) b ∧ b < s3.heap.objs.size := fun b hb => by
    have hlt := sz b hb
    refine ⟨⟨?_, (f2 b hb).2⟩, by rw [h3, Heap.size_push]; exact Nat.lt_succ_of_lt hlt⟩
    rw [upd_ne (by rw [← hD]; exact Nat.ne_of_lt hlt)]
    exact (f2 b hb).1
  have st3 : tn 0 s3.heap := T.keep _ _ _ st2 fun b _ o e => by rw [h3]; exact Heap.get?_push_of_some _ e
  have I4 := block_start I3 ok hN f3
  have pg := hg s3 (upd H2 D (.lst [])) s3.heap.objs.size (cellsFrom (s3.heap.objs.size + 1) scope.names (cloFrom X.env.cells scope.names [])) fp
  have pt := ht s3 (upd H2 D (.lst [])) s3.heap.objs.size (cellsFrom (s3.heap.objs.size + 1) scope.names (cloFrom X.env.cells scope.names [])) fp
  have pe := he s3 (upd H2 D (.lst [])) s3.heap.objs.size (cellsFrom (s3.heap.objs.size + 1) scope.names (cloFrom X.env.cells scope.names [])) fp
  show codeAny _ _ (.compStart (.ListComp elt [⟨tg, iter, ifs, 0⟩] scope pos) 0 (.ref it) (.ref D) (compEnvC scope (cellsFrom (s3.heap.objs.size + 1) scope.names (cloFrom X.env.cells scope.names [])) s3.heap.objs.size X.env)) (compPost (model X.prog X.w) X.A X.xe use Qf (.ref D) s3.heap.objs.size) { s3 with heap := pushCells (s3.heap.push { cls := .type "dict", data := .dict #[] }) scope.names }
  have nfp : ∀ b ∈ fp, (upd H2 D (.lst [])) b = none := fun b hb => (f3 b hb).1.1
  generalize hce : compEnvC scope (cellsFrom (s3.heap.objs.size + 1) scope.names (cloFrom X.env.cells scope.names [])) s3.heap.objs.size X.env = ce at I4 pg pt pe ⊢
  have cL : ce.locals = s3.heap.objs.size := by subst hce; rfl
  generalize hH3 : upd H2 D (.lst []) = H3 at I3 I4 pg pt pe w0 nfp f3
  generalize hs4 : ({ s3 with heap := pushCells (s3.heap.push { cls := .type "dict", data := .dict #[] }) scope.names } : Shared) = s4 at I4 ⊢
  have st4 : tn 0 s4.heap := T.keep _ _ _ st3 fun b _ o e => by rw [← hs4]; exact pushCells_keeps _ _ _ _ (Heap.get?_push_of_some _ e)
  have stat : ∀ {σ' : St} {H' : Hp} {s' : Shared}, Inv (X.blk s3 H3 scope ce fp) [] σ' H' s' → (∀ b ∈ fp, H' b = none) → ∀ b ∈ fp, FpOk (X.blk s3 H3 scope ce fp) [] H' b := fun {σ' H' s'} I' hn b hb =>
    ⟨hn b hb, (I'.ok.exf b hb).1, I'.ok.exfs b hb, .inl hb, fun x c e => (I'.ok.exf b hb).2 x c e, fun p hp => absurd (show p ∈ ([] : List (Addr × Obj)) ++ [] from hp) (by simp)⟩
  have loop : codeAny (model X.prog X.w) X.A (.compLoop (.ListComp elt [⟨tg, iter, ifs, 0⟩] scope pos) 0 (.ref it) (.ref D) ce) (compPost (model X.prog X.w) X.A X.xe use Qf (.ref D) s3.heap.objs.size) s4 := by
    refine compLoop_any (fun n s' => ∃ i H', Inv (X.blk s3 H3 scope ce fp) [] (wipe σ (own.map (·.2))) H' s' ∧ tn i s'.heap ∧ (∀ b ∈ fp, H' b = none) ∧ W i n H') ?_ m0 ⟨0, H3, I4, st4, nfp, w0⟩
    rintro n s5 ⟨i, H5, I5, st5, n5, w5⟩
    rcases turn i n H5 w5 with ⟨stop, qq⟩ | ⟨go, Nx, hNx, step⟩
    · have td := T.done (X.blk s3 H3 scope ce fp) rfl rfl rfl hc i [] s5 _ H5 (fun _ _ => False) I5 (stat I5 n5) st5 stop
      refine thnF td fun r s6 ⟨hr, I6⟩ => ?_
      subst hr
      -- back in the def's context
      have I7 : Inv X pins σ H5 s6 := I3.call' (ch := fp) I6.os I6.base I6.hok I6.bare fun b hb => ⟨(f3 b hb).1.2.2.2.1, (f3 b hb).1.2.1, (f3 b hb).1.2.2.2.2.1, (f3 b hb).1.2.2.2.2.2⟩
      have nC : H5 s3.heap.objs.size = none := by
        have z : H5 ce.locals = none := I6.free
        rw [cL] at z
        exact z
      obtain ⟨m, hn, _⟩ := I6.loc
      have hn : s6.heap.Ns ce.locals m := hn
      rw [cL] at hn
      exact hRR D s3.heap.objs.size s6 m H5 I7 qq hn (I3.fpOk (Nat.le_refl _) nC)
    · have ti := T.item (X.blk s3 H3 scope ce fp) rfl rfl rfl hc i [] s5 _ H5 (fun _ _ => False) I5 (stat I5 n5) st5 go
      refine thnF ti fun r s6 ⟨u, hr, h6⟩ => ?_
      subst hr
      refine thnF h6 fun _ s7 ⟨x, H7, I7, r7, y7, st7, n7⟩ => ?_
      have I7' := I7.pinned (stat I7 n7) (T.obj _ _ st7)
      refine thnF (pg _ s7 _ H7 x u _ I7' r7 (step x H7 y7)) fun _ s8 ⟨σ8, H8, I8, hw8, q8⟩ => ?_
      refine thnF (pt _ s8 σ8 H8 _ I8 q8) fun b s9 ⟨H9, I9, q9⟩ => ?_
      -- the turn's end
      have fin : ∀ {s' : Shared} {H' : Hp}, Inv (X.blk s3 H3 scope ce fp) ([] ++ pinsAt fp s7.heap) σ8 H' s' → Nx H' → ∃ m, m < n ∧ ∃ i H', Inv (X.blk s3 H3 scope ce fp) [] (wipe σ (own.map (·.2))) H' s' ∧ tn i s'.heap ∧ (∀ b ∈ fp, H' b = none) ∧ W i m H' := fun {s' H'} I' nx => by
        obtain ⟨m', hm, w'⟩ := hNx H' nx
        have pin' : ∀ b ∈ fp, ∀ o, s7.heap.get? b = some o → s'.heap.get? b = some o ∧ H' b = none := fun b hb o e =>
          let z := I'.pin (b, o) (List.mem_append_right _ (List.mem_append_right _ (mem_pinsAt hb e)))
          ⟨z.1, z.2.1⟩
        have hl : (wipe σ (own.map (·.2))).length = σ8.length := by rw [← hw8, wipe_length]
        refine ⟨m', hm, i + 1, H', (I'.unpinned (pins := [])).weak hl (fun j v e => ?_), T.keep _ _ _ st7 fun b hb o e => (pin' b hb o e).1, fun b hb => ?_, w'⟩
        · rw [← hw8] at e
          exact (wipe_some e).1
        · obtain ⟨o, e, _⟩ := T.obj _ _ st7 b hb
          exact (pin' b hb o e).2
      cases b with
      | false =>
        simp only [Bool.false_eq_true, if_false] at q9 ⊢
        exact fin I9 q9
      | true =>
        simp only [if_true] at q9 ⊢
        refine thnF (pe _ s9 σ8 H9 _ I9 q9) fun z s10 ⟨yv, H10, I10, r10, acc, hD10, hz10, nx⟩ => ?_
        exact app_ok (X := X.blk s3 H3 scope ce fp) I10 hD10 hz10 r10 fun s11 I11 => fin I11 nx
  exact codeAny_compStart_list loop (T.self X.A 0 _ _ _ st4 loop)
/-- as a value -/
theorem pe_lc {elt tg iter : Expr} {ifs : List Expr} {scope : Scope} {own : List (Str × Nat)} {pos : Pos} {wi : TI} {g : TG} {tt : TT} {te : TE} (hc : X.calm = true) (hN : X.N.Nodup) (hi : PI X tg iter wi) (ok : BlkOk X.N X.env.scope scope own)
    (hg : ∀ (s : Shared) (H : Hp) (C : Addr) (cl : List (Str × Addr)) (fp : List Addr), PG (X.blk s H scope (compEnvC scope cl C X.env) fp) tg g) (ht : ∀ (s : Shared) (H : Hp) (C : Addr) (cl : List (Str × Addr)) (fp : List Addr), PTs (X.blk s H scope (compEnvC scope cl C X.env) fp) ifs tt)
    (he : ∀ (s : Shared) (H : Hp) (C : Addr) (cl : List (Str × Addr)) (fp : List Addr), PE (X.blk s H scope (compEnvC scope cl C X.env) fp) elt te) (hs : ∀ x, foldedSetIterable iter X.env x = pure x := by intro _; rfl) :
    PE X (.ListComp elt [⟨tg, iter, ifs, 0⟩] scope pos) (tLc wi g tt te (own.map (·.2))) := by
  intro pins s σ H Q I h
  rw [eval_ListComp]
  refine lc_core hc hN I hi ok hg ht he hs h fun D C s' m H' I' q hn f => ⟨m, hn, fun h'' sb => ?_⟩
  obtain ⟨f0, f1, f2, f3, f4, f5⟩ := f
  exact ⟨.ref D, H', I'.turned (t' := s'.toks) (fun b o hb e => (sb.2 b hb).trans e) f0 f1 f3 f4 f5, rfl, q⟩
/-- name = [..] on one line, the name a local -/
theorem ps_setLc {i : Nat} {y : Str} {py : Pos} {elt tg iter : Expr} {ifs : List Expr} {scope : Scope} {own : List (Str × Nat)} {pos spos : Pos} {wi : TI} {g : TG} {tt : TT} {te : TE} (hc : X.calm = true) (hN : X.N.Nodup) (hy : X.N[i]? = some y) (hyl : X.env.scope.names.lookup y = some .local)
    (hsw : swapsWith (.ListComp elt [⟨tg, iter, ifs, 0⟩] scope pos) (some (.Name y py)) spos.line X.env = pure true) (hi : PI X tg iter wi) (ok : BlkOk X.N X.env.scope scope own)
    (hg : ∀ (s : Shared) (H : Hp) (C : Addr) (cl : List (Str × Addr)) (fp : List Addr), PG (X.blk s H scope (compEnvC scope cl C X.env) fp) tg g) (ht : ∀ (s : Shared) (H : Hp) (C : Addr) (cl : List (Str × Addr)) (fp : List Addr), PTs (X.blk s H scope (compEnvC scope cl C X.env) fp) ifs tt)
    (he : ∀ (s : Shared) (H : Hp) (C : Addr) (cl : List (Str × Addr)) (fp : List Addr), PE (X.blk s H scope (compEnvC scope cl C X.env) fp) elt te) (hs : ∀ x, foldedSetIterable iter X.env x = pure x := by intro _; rfl) :
    PS X (.Assign [.Name y py] (.ListComp elt [⟨tg, iter, ifs, 0⟩] scope pos) spos) (tAsg (tLc wi g tt te (own.map (·.2))) (gName i)) := by
  intro pins s σ H D I h
  rw [exec_Assign_Name_used _ _ _ _ hsw]
  refine wpAny_bind (wpAny_standAt (wpAny_bind ?_))
  show wpAny _ X.A (do let _ ← comprehension (.ListComp elt [⟨tg, iter, ifs, 0⟩] scope pos) scope X.env (firstIterPos [⟨tg, iter, ifs, 0⟩] pos) (newList []) false (eval iter X.env) (some (assign (.Name y py) X.env))) _ _ s
  have h : tLc wi g tt te (own.map (·.2)) σ H (fun x H1 => gName i x σ H1 D.nx) := h
  refine wpAny_bind (thn (lc_core (Qf := fun _ s' => SP X pins D .next s') hc hN I hi ok hg ht he hs h fun L C s' m H' I' q hn f => ?_) fun _ s' hq => wpAny_pure (wpAny_pure hq))
  show wpAny _ _ (assign (.Name y py) X.env (.ref L)) _ _ _
  refine wpAny_assign_Name (store_ok2 (v := V.ref L) I' hN hy (.inl hyl) rfl (fun s2 I2 ⟨a, sb, ha⟩ => ?_) (.inr hyl))
  obtain ⟨f0, f1, f2, f3, f4, f5⟩ := f
  have haC : C ≠ a := by
    rcases ha with z | z
    · rw [z]; exact f1
    · exact fun e => f4 y a z e.symm
  refine ⟨m, hn.sameBut sb haC, fun h3 sb3 => ?_⟩
  exact ⟨_, H', I2.turned (t' := s2.toks) (fun b o hb e => (sb3.2 b hb).trans e) f0 f1 f3 f4 f5, q⟩
theorem sw_true {elt : Expr} {gs : List Comprehension} {scope : Scope} {pos py : Pos} {y : Str} {l : Nat} {env : Env} (hk : env.scope.kind = .function) (hy : env.scope.names.lookup y = some .local) (hl : (py.line == pos.line) = true)
    (ha : (scope.names.any fun (n, k) => n == y && (k == .local || k == .cell)) = false) : swapsWith (.ListComp elt gs scope pos) (some (.Name y py)) l env = pure true := by
  have ky : env.kindOf y = some .local := hy
  have hb : env.blockKind = .function := by unfold Env.blockKind; rw [hk]; rfl
  unfold swapsWith
  simp only [hb, ky, ha, Expr.pos, hl]
  rfl
end

/-- over a range: Pv by the turn and the heap (the new list at D within) -/
theorem lc_range {lo : Int} {n : Nat} {g : TG} {tt : TT} {te : TE} {vs : List Nat} {σ : St} {H1 : Hp} {D : Addr} {Qd : Hp → Prop} (Pv : Nat → Hp → Prop) (h0 : Pv 0 (upd H1 D (.lst [])))
    (hs : ∀ i H, i < n → Pv i H → g (.int (lo + i)) (wipe σ vs) H fun σ2 H2 => wipe σ2 vs = wipe σ vs ∧ tt σ2 H2 fun b H3 =>
      if b = true then te σ2 H3 fun y H4 => ∃ acc, H4 D = some (.lst acc) ∧ acc.length < sizeLine ∧ Pv (i + 1) (upd H4 D (.lst (acc ++ [y]))) else Pv (i + 1) H3) (hd : ∀ H, Pv n H → Qd H) :
    ∃ W : Nat → Nat → Hp → Prop, (∃ m, W 0 m (upd H1 D (.lst []))) ∧ ∀ i m H, W i m H →
      ((Itr lo n).stop i H ∧ Qd H) ∨ ((Itr lo n).go i H ∧ ∃ Nx : Hp → Prop, (∀ H', Nx H' → ∃ m', m' < m ∧ W (i + 1) m' H') ∧ ∀ x H', (Itr lo n).yld i H x H' → g x (wipe σ vs) H' fun σ2 H2 => wipe σ2 vs = wipe σ vs ∧ tt σ2 H2 fun b H3 =>
        if b = true then te σ2 H3 fun y H4 => ∃ acc, H4 D = some (.lst acc) ∧ acc.length < sizeLine ∧ Nx (upd H4 D (.lst (acc ++ [y]))) else Nx H3) := by
  refine ⟨fun i m H => m = n - i ∧ i ≤ n ∧ Pv i H, ⟨n, by simp, Nat.zero_le _, h0⟩, ?_⟩
  rintro i m H ⟨rfl, hi, p⟩
  by_cases hlt : i < n
  · refine .inr ⟨hlt, Pv (i + 1), fun H' p' => ⟨n - (i + 1), by omega, rfl, hlt, p'⟩, fun x H' y => ?_⟩
    obtain ⟨e, y⟩ := y
    subst e y
    exact hs i _ hlt p
  · have e : i = n := by omega
    subst e
    exact .inl ⟨Nat.le_refl _, hd H p⟩
/-- over a list that the block leaves as it is -/
theorem lc_list {K : PySem.W.Frag} {a : Addr} {xs : List V} {g : TG} {tt : TT} {te : TE} {vs : List Nat} {σ : St} {H1 : Hp} {D : Addr} {Qd : Hp → Prop} (Pv : Nat → Hp → Prop) (h0 : Pv 0 (upd H1 D (.lst []))) (hl : ∀ i H, i ≤ xs.length → Pv i H → SqL K H a xs)
    (hs : ∀ i x H, xs[i]? = some x → Pv i H → g x (wipe σ vs) H fun σ2 H2 => wipe σ2 vs = wipe σ vs ∧ tt σ2 H2 fun b H3 =>
      if b = true then te σ2 H3 fun y H4 => ∃ acc, H4 D = some (.lst acc) ∧ acc.length < sizeLine ∧ Pv (i + 1) (upd H4 D (.lst (acc ++ [y]))) else Pv (i + 1) H3) (hd : ∀ H, Pv xs.length H → Qd H) :
    ∃ W : Nat → Nat → Hp → Prop, (∃ m, W 0 m (upd H1 D (.lst []))) ∧ ∀ i m H, W i m H →
      ((Itl K a).stop i H ∧ Qd H) ∨ ((Itl K a).go i H ∧ ∃ Nx : Hp → Prop, (∀ H', Nx H' → ∃ m', m' < m ∧ W (i + 1) m' H') ∧ ∀ x H', (Itl K a).yld i H x H' → g x (wipe σ vs) H' fun σ2 H2 => wipe σ2 vs = wipe σ vs ∧ tt σ2 H2 fun b H3 =>
        if b = true then te σ2 H3 fun y H4 => ∃ acc, H4 D = some (.lst acc) ∧ acc.length < sizeLine ∧ Nx (upd H4 D (.lst (acc ++ [y]))) else Nx H3) := by
  refine ⟨fun i m H => m = xs.length - i ∧ i ≤ xs.length ∧ Pv i H, ⟨xs.length, by simp, Nat.zero_le _, h0⟩, ?_⟩
  rintro i m H ⟨rfl, hi, p⟩
  have q := hl i H hi p
  by_cases hlt : i < xs.length
  · refine .inr ⟨⟨xs, xs[i], q, by simp [hlt]⟩, Pv (i + 1), fun H' p' => ⟨xs.length - (i + 1), by omega, rfl, hlt, p'⟩, fun x H' y => ?_⟩
    obtain ⟨e, y⟩ := y
    subst e
    exact hs i x _ (y xs q) p
  · have e : i = xs.length := by omega
    subst e
    exact .inl ⟨⟨xs, q, Nat.le_refl _⟩, hd H p⟩
def blkC (N : List Str) (sc scope : Scope) (own : List (Str × Nat)) : Bool :=
  (match scope.kind with | .function => true | _ => false) && (scope.names.all fun y => decide (scope.names.lookup y.1 = some y.2)) && (own.all fun p => decide (N[p.2]? = some p.1)) &&
    (scope.names.all fun y => match y.2 with
      | .free => (match sc.names.lookup y.1 with | some .cell => true | some .free => true | _ => false)
      | .local => decide (y.1 ∈ own.map (·.1)) || decide (y.1 ∉ N)
      | .cell => decide (y.1 ∈ own.map (·.1)) || decide (y.1 ∉ N)
      | _ => true)
theorem blkOk_by {N : List Str} {sc scope : Scope} {own : List (Str × Nat)} (h : blkC N sc scope own = true) : BlkOk N sc scope own := by
  unfold blkC at h
  simp only [Bool.and_eq_true, List.all_eq_true, decide_eq_true_eq] at h
  obtain ⟨⟨⟨h1, h2⟩, h3⟩, h4⟩ := h
  refine ⟨?_, h2, h3, fun y hy e => ?_, fun y hy e => ?_⟩
  · split at h1
    · assumption
    · cases h1
  · have q := h4 y hy
    simp only [e] at q
    split at q <;> first | exact .inl (by assumption) | exact .inr (by assumption) | cases q
  · have q := h4 y hy
    rcases e with e | e <;> (simp only [e, Bool.or_eq_true, decide_eq_true_eq] at q; exact q)
end L2

namespace L2
open PySem PySem.Spec PyProof.Rows

section
variable {prog : Program} {w : World} {A : Around} {R : Result → Shared → Prop} {s : Shared} {elt t0 i0 t1 i1 : Expr} {ifs0 ifs1 : List Expr} {scope : Scope} {pos : Pos} {it acc : Value} {env : Env}
end

section
variable {X : Cx}
end
end L2

namespace L2
open PySem PySem.Spec PyProof.Rows

section
variable {κ : Type} [DecidableEq κ]
def valV (kvs : List (κ × V)) (k : κ) : Option V := (kvs.find? fun kv => decide (kv.1 = k)).map (·.2)
/-- in its place, or at the end -/
def putK (kvs : List (κ × V)) (k : κ) (v : V) : List (κ × V) :=
  if (kvs.any fun kv => decide (kv.1 = k)) = true then kvs.map (fun kv => if kv.1 = k then (kv.1, v) else kv) else kvs ++ [(k, v)]
theorem valV_pos {p : κ × V} {r : List (κ × V)} {k : κ} (e : p.1 = k) : valV (p :: r) k = some p.2 := by simp [valV, List.find?_cons, e]
theorem valV_neg {p : κ × V} {r : List (κ × V)} {k : κ} (e : ¬ p.1 = k) : valV (p :: r) k = valV r k := by simp [valV, List.find?_cons, e]
theorem valV_any (k : κ) : ∀ kvs : List (κ × V), (kvs.any fun kv => decide (kv.1 = k)) = (valV kvs k).isSome
  | [] => rfl
  | p :: r => by
    rw [List.any_cons]
    by_cases e : p.1 = k
    · simp only [valV_pos e, decide_eq_true e, Bool.true_or, Option.isSome_some]
    · rw [valV_neg e, decide_eq_false e, Bool.false_or]; exact valV_any k r
theorem length_putK (kvs : List (κ × V)) (k : κ) (v : V) : (putK kvs k v).length ≤ kvs.length + 1 := by
  unfold putK
  split
  · rw [List.length_map]; omega
  · rw [List.length_append, List.length_cons, List.length_nil]; omega
theorem putK_new {kvs : List (κ × V)} {k : κ} (v : V) (h : valV kvs k = none) : putK kvs k v = kvs ++ [(k, v)] := by
  unfold putK
  rw [valV_any, h]
  exact if_neg (by decide)

theorem RelO.isSome_eq {o : Option V} {u : Option Value} (r : RelO o u) : o.isSome = u.isSome := by
  cases o with
  | none => cases u with
    | none => rfl
    | some _ => exact (show False from r).elim
  | some _ => cases u with
    | none => exact (show False from r).elim
    | some _ => rfl
/-- raw tables of the same keys -/
theorem KV.val {kvs : List (κ × V)} {vs : List (κ × Value)} (r : KV kvs vs) (k : κ) : RelO (valV kvs k) (valueAt vs k) := by
  unfold KV at r
  induction r with
  | nil => exact True.intro
  | @cons p q ps qs h t ih =>
    obtain ⟨h1, h2⟩ := h
    by_cases e : p.1 = k
    · have e' : q.1 = k := h1.symm.trans e
      have b : valueAt (q :: qs) k = some q.2 := by simp [valueAt, List.find?_cons, e']
      rw [valV_pos e, b]; exact h2
    · have e' : ¬ q.1 = k := fun z => e (h1.trans z)
      have b : valueAt (q :: qs) k = valueAt qs k := by simp [valueAt, List.find?_cons, e']
      rw [valV_neg e, b]; exact ih
theorem KV.any {kvs : List (κ × V)} {vs : List (κ × Value)} (r : KV kvs vs) (k : κ) : (kvs.any fun kv => decide (kv.1 = k)) = vs.any fun kv => decide (kv.1 = k) := by
  unfold KV at r
  induction r with
  | nil => rfl
  | cons h t ih => rw [List.any_cons, List.any_cons, ih, h.1]
theorem KV.repl {kvs : List (κ × V)} {vs : List (κ × Value)} (r : KV kvs vs) (k : κ) {y : V} {u : Value} (ry : RelV y u) :
    KV (kvs.map fun kv => if kv.1 = k then (kv.1, y) else kv) (vs.map fun kv => if kv.1 = k then (kv.1, u) else kv) := by
  unfold KV at r ⊢
  induction r with
  | nil => exact .nil
  | @cons p q ps qs h t ih =>
    rw [List.map_cons, List.map_cons]
    refine .cons ?_ ih
    obtain ⟨h1, h2⟩ := h
    by_cases e : p.1 = k
    · rw [if_pos e, if_pos (h1.symm.trans e)]; exact ⟨h1, ry⟩
    · rw [if_neg e, if_neg (fun z => e (h1.trans z))]; exact ⟨h1, h2⟩
theorem KV.put {kvs : List (κ × V)} {vs : List (κ × Value)} (r : KV kvs vs) (k : κ) {y : V} {u : Value} (ry : RelV y u) : KV (putK kvs k y) (stored vs k u) := by
  unfold putK stored
  rw [r.any k]
  by_cases e : (vs.any fun kv => decide (kv.1 = k)) = true
  · rw [if_pos e, if_pos e]; exact r.repl k ry
  · rw [if_neg e, if_neg e]; exact Paired.snoc r ⟨rfl, ry⟩
theorem KV.length {kvs : List (κ × V)} {vs : List (κ × Value)} (r : KV kvs vs) : kvs.length = vs.length := Paired.length r
end


theorem kV_is {P : Program} {w : World} {k : Key} {u : Value} (r : RelV (kV k) u) : (mixKind P w).is k u = true := by
  cases k with
  | inl i => obtain ⟨t, e⟩ := (show ∃ t, u = Value.int i t from r); subst e; exact mixKind_int P w i t
  | inr x => obtain ⟨t, e⟩ := (show ∃ t, u = Value.str x t from r); subst e; exact mixKind_str P w x t
theorem items_are {P : Program} {w : World} : ∀ {ks : List Key} {us : List Value}, Vals (ks.map kV) us → ItemsAre (mixKind P w) ks us
  | [], _, r => by rw [List.map_nil] at r; cases r; exact .nil
  | k :: ks, _, r => by
    rw [List.map_cons] at r
    cases r with
    | cons h t => exact .cons (kV_is h) (items_are t)

/-- raw entries of a dict with tuple keys -/
abbrev KT (H : Hp) : List (List Key × V) → List (List Key × Addr × Value) → Prop := Paired fun p q => p.1 = q.1 ∧ H q.2.1 = some (.tup (p.1.map kV)) ∧ RelV p.2 q.2.2
theorem KT.val {H : Hp} {kvs : List (List Key × V)} {xs : List (List Key × Addr × Value)} (r : KT H kvs xs) (k : List Key) : RelO (valV kvs k) ((atKey xs k).map (·.2)) := by
  induction r with
  | nil => exact True.intro
  | @cons p q ps qs h t ih =>
    obtain ⟨h1, _, h2⟩ := h
    by_cases e : p.1 = k
    · have e' : q.1 = k := h1.symm.trans e
      have b : atKey (q :: qs) k = some q.2 := by simp [atKey, List.find?_cons, e']
      rw [valV_pos e, b]; exact h2
    · have e' : ¬ q.1 = k := fun z => e (h1.trans z)
      have b : atKey (q :: qs) k = atKey qs k := by simp [atKey, List.find?_cons, e']
      rw [valV_neg e, b]; exact ih
theorem KT.repl {H : Hp} {kvs : List (List Key × V)} {xs : List (List Key × Addr × Value)} (r : KT H kvs xs) (k : List Key) {y : V} {u : Value} (ry : RelV y u) :
    KT H (kvs.map fun kv => if kv.1 = k then (kv.1, y) else kv) (xs.map (putAt k u)) := by
  induction r with
  | nil => exact .nil
  | @cons p q ps qs h t ih =>
    rw [List.map_cons, List.map_cons]
    refine .cons ?_ ih
    obtain ⟨h1, h2, h3⟩ := h
    unfold putAt
    by_cases e : p.1 = k
    · rw [if_pos e, if_pos (h1.symm.trans e)]; exact ⟨h1, h2, ry⟩
    · rw [if_neg e, if_neg (fun z => e (h1.trans z))]; exact ⟨h1, h2, h3⟩
theorem KT.put {H : Hp} {kvs : List (List Key × V)} {xs : List (List Key × Addr × Value)} (r : KT H kvs xs) (k : List Key) {b : Addr} {y : V} {u : Value} (hb : H b = some (.tup (k.map kV))) (ry : RelV y u) :
    KT H (putK kvs k y) (storedH xs k b u) := by
  have e : (kvs.any fun kv => decide (kv.1 = k)) = (atKey xs k).isSome := by
    rw [valV_any, (r.val k).isSome_eq, Option.isSome_map]
  unfold putK storedH
  rw [e]
  by_cases q : (atKey xs k).isSome = true
  · rw [if_pos q, if_pos q]; exact r.repl k ry
  · rw [if_neg q, if_neg q]; exact Paired.snoc r ⟨rfl, hb, ry⟩
theorem KT.keeps {H H' : Hp} {kvs : List (List Key × V)} {xs : List (List Key × Addr × Value)} (r : KT H kvs xs) (ht : ∀ b ys, H b = some (.tup ys) → H' b = some (.tup ys)) : KT H' kvs xs :=
  Paired.mapP r fun _ _ z => ⟨z.1, ht _ _ z.2.1, z.2.2⟩

section
variable {P : Program} {w : World} {H : Hp} {h : Heap} {a : Addr}
theorem rd_of {u : HO} (ok : HOk P w H h) (e : Rd H a u) : ObjOk P w H h a u := e.ok ok
theorem dk_rd {kvs : List (Key × V)} (ok : HOk P w H h) (e : Rd H a (.dK kvs)) : kvs.length ≤ sizeLine ∧ (a == sysModules) = false ∧ ∃ vs, KV kvs vs ∧ h.DictOf (mixKind P w) a vs :=
  show ObjOk P w H h a (.dK kvs) from rd_of ok e
theorem dk_of {kvs : List (Key × V)} (ok : HOk P w H h) (e : H a = some (.dK kvs)) : kvs.length ≤ sizeLine ∧ (a == sysModules) = false ∧ ∃ vs, KV kvs vs ∧ h.DictOf (mixKind P w) a vs := dk_rd ok (.inl e)
/-- a tracked tuple of ints and texts is a key -/
theorem key_of {ks : List Key} (ok : HOk P w H h) (e : H a = some (.tup (ks.map kV))) : (tupleKind (mixKind P w)).is h ks a := by
  obtain ⟨_, its, r, o, h1, h2, n, h3⟩ := (show ObjOk P w H h a (.tup (ks.map kV)) from ok a _ e)
  exact ⟨o, its.toArray, n, h1, h2, h3, by simpa using items_are r⟩
theorem dt_rd {kvs : List (List Key × V)} (ok : HOk P w H h) (e : Rd H a (.dT kvs)) : kvs.length ≤ sizeLine ∧ (a == sysModules) = false ∧
    ∃ xs, KT H kvs xs ∧ h.DictOfH (tupleKind (mixKind P w)) a xs := by
  obtain ⟨z, y, xs, r, o, es, ep, h1, h2, h3, h4, h5⟩ := (show ObjOk P w H h a (.dT kvs) from rd_of ok e)
  refine ⟨z, y, xs, r, o, es, ep, h1, h2, h3, h4, fun x hx => ?_, h5⟩
  have all : ∀ {l : List (List Key × V)} {m : List (List Key × Addr × Value)}, KT H l m → ∀ x ∈ m, (tupleKind (mixKind P w)).is h x.1 x.2.1 := by
    intro l m q
    induction q with
    | nil => intro x hx; exact nomatch hx
    | @cons p q ps qs hq t ih =>
      intro x hx
      rcases List.mem_cons.mp hx with e | hx
      · subst e
        exact key_of ok (by rw [← hq.1]; exact hq.2.1)
      · exact ih x hx
  exact all r x hx
theorem dt_of {kvs : List (List Key × V)} (ok : HOk P w H h) (e : H a = some (.dT kvs)) : kvs.length ≤ sizeLine ∧ (a == sysModules) = false ∧
    ∃ xs, KT H kvs xs ∧ h.DictOfH (tupleKind (mixKind P w)) a xs := dt_rd ok (.inl e)
end

/-- what the dict at a holds at the key y -/
def DGet (H : Hp) (a : Addr) (y : V) (r : Option V) : Prop :=
  (∃ kvs k, Rd H a (.dK kvs) ∧ y = kV k ∧ r = valV kvs k) ∨ ∃ kvs k b, Rd H a (.dT kvs) ∧ y = .ref b ∧ H b = some (.tup (k.map kV)) ∧ r = valV kvs k
/-- the heap behind a[y] = v -/
def DPut (H : Hp) (a : Addr) (y v : V) (H' : Hp) : Prop :=
  (∃ kvs k, H a = some (.dK kvs) ∧ y = kV k ∧ kvs.length < sizeLine ∧ H' = upd H a (.dK (putK kvs k v))) ∨
  ∃ kvs k b, H a = some (.dT kvs) ∧ y = .ref b ∧ H b = some (.tup (k.map kV)) ∧ kvs.length < sizeLine ∧ H' = upd H a (.dT (putK kvs k v))
theorem DGet.k {H : Hp} {a : Addr} {kvs : List (Key × V)} {k : Key} (e : H a = some (.dK kvs)) : DGet H a (kV k) (valV kvs k) := .inl ⟨kvs, k, .inl e, rfl, rfl⟩
theorem DPut.k {H : Hp} {a : Addr} {kvs : List (Key × V)} {k : Key} {v : V} (e : H a = some (.dK kvs)) (hl : kvs.length < sizeLine) : DPut H a (kV k) v (upd H a (.dK (putK kvs k v))) := .inl ⟨kvs, k, e, rfl, hl, rfl⟩
section
variable {X : Cx} {pins : List (Addr × Obj)} {σ : St} {H : Hp} {s : Shared} {a : Addr} {y v : V} {u r : Value} {o : Option V} {A : Around} {E : Value → Shared → Prop}

theorem Inv.big (I : Inv X pins σ H s) : sysModules < s.heap.objs.size := by
  have h : mainGlobals < s.heap.objs.size := (I.mod.glob.keeps I.bk).lt
  exact Nat.lt_trans (by decide) h

/-- y in d -/
theorem d_in {Q : Value → Shared → Prop} (hu : A.units + 1 < cLine) (I : Inv X pins σ H s) (g : DGet H a y o) (ry : RelV y u) (h : ∀ s', Inv X pins σ H s' → Q (.bool o.isSome) s') :
    wpAny (model X.prog X.w) A (compareOp .In u (.ref a)) Q E s := by
  rcases g with ⟨kvs, k, e, ey, l⟩ | ⟨kvs, k, b, e, ey, eb, l⟩
  · subst ey
    obtain ⟨z, hd, vs, rel, dd⟩ := dk_rd I.hok e
    refine wpAny_in_of (kV_is ry) hd dd.mapOf ?_
    rw [← (rel.val k).isSome_eq, ← l]
    exact h _ (I.tok _)
  · subst ey
    cases (show u = Value.ref b from ry)
    obtain ⟨z, hd, xs, rel, dd⟩ := dt_rd I.hok e
    refine wpAny_in_heap (tupleKind_room_in1 hu) (key_of I.hok eb) hd dd ?_
    have q := (rel.val k).isSome_eq
    rw [Option.isSome_map] at q
    rw [← q, ← l]
    exact h _ (I.tok _)
/-- a dict's object is replaced -/
theorem d_write {h' : Heap} {t' : Nat} {ob : HO} (I : Inv X pins σ H s) (mu : Mut (H a)) (hs : Heap.SameBut a s.heap h') (he : ∃ q, h'.get? a = some q) (new : ObjOk X.prog X.w (upd H a ob) h' a ob) :
    Inv X pins σ (upd H a ob) { s with heap := h', toks := t' } :=
  I.write (x := a) (e := a) mu (.inl rfl) (fun b q hb z => (hs.2 b hb).trans z) he new
theorem dk_new {P : Program} {w : World} {H' : Hp} {h' : Heap} {kvs : List (Key × V)} {vs : List (Key × Value)} (z : kvs.length ≤ sizeLine) (hd : (a == sysModules) = false) (rel : KV kvs vs) (dd : h'.DictOf (mixKind P w) a vs) :
    ObjOk P w H' h' a (.dK kvs) := ⟨z, hd, vs, rel, dd⟩
/-- d[y] = v -/
theorem d_setItem {H' : Hp} {Q : Unit → Shared → Prop} (hu : A.units + 1 < cLine) (I : Inv X pins σ H s) (g : DPut H a y v H') (ry : RelV y u) (rv : RelV v r) (h : ∀ s', Inv X pins σ H' s' → Q () s') :
    wpAny (model X.prog X.w) A (setItem (.ref a) u r) Q E s := by
  rcases g with ⟨kvs, k, e, ey, l, eH⟩ | ⟨kvs, k, b, e, ey, eb, l, eH⟩
  · subst ey eH
    obtain ⟨z, hd, vs, rel, dd⟩ := dk_of I.hok e
    have hz : vs.length ≤ sizeLine := by rw [← rel.length]; exact z
    have hl : (putK kvs k v).length ≤ sizeLine := by have := length_putK kvs k v; omega
    refine wpAny_setItem_pairs (hsz := hz) (kV_is ry) dd fun h' dd' hs => h _ ?_
    have he : ∃ q, h'.get? a = some q := let ⟨q, _, _, hq, _⟩ := dd'; ⟨q, hq⟩
    exact d_write I (by rw [e]; exact True.intro) hs he (dk_new hl hd (rel.put k rv) dd')
  · subst ey eH
    cases (show u = Value.ref b from ry)
    obtain ⟨z, hd, xs, rel, dd⟩ := dt_of I.hok e
    have hz : xs.length ≤ sizeLine := by rw [← Paired.length rel]; exact z
    have hl : (putK kvs k v).length ≤ sizeLine := by have := length_putK kvs k v; omega
    refine wpAny_setItem_heap (hsz := hz) (tupleKind_room_in1 hu) (key_of I.hok eb) dd fun h' dd' hs => h _ ?_
    obtain ⟨q, es, ep, hq, h2, h3, h4, _, h5⟩ := dd'
    refine d_write I (by rw [e]; exact True.intro) hs ⟨q, hq⟩ ⟨hl, hd, _, (rel.put k eb rv).keeps fun c ys ec => ?_, q, es, ep, hq, h2, h3, h4, h5⟩
    rw [upd_ne (ne_of ec e (fun z => nomatch z))]
    exact ec
end

section
variable {X : Cx} {pins : List (Addr × Obj)} {σ : St} {H : Hp} {s : Shared} {a : Addr} {kvs : List (Key × V)} {k : Key} {u : Value} {A : Around} {E : Value → Shared → Prop}
end


/-- y in d, y not in d -/
def tDIn (ty td : TE) : TE := fun σ H Q => ty σ H fun y H1 => td σ H1 fun x H2 => ∃ a o, x = .ref a ∧ DGet H2 a y o ∧ Q (.bl o.isSome) H2
/-- d[y] = v -/
def sDPut (td ty tv : TE) : TS := fun D σ H => tv σ H fun v H1 => td σ H1 fun x H2 => ty σ H2 fun y H3 => ∃ a H4, x = .ref a ∧ DPut H3 a y v H4 ∧ D.nx σ H4
section
variable {X : Cx} {o i e value : Expr} {pos pos' tpos : Pos} {td ty tv : TE}
theorem pc_din (hu : X.A.units + 1 < cLine) (hi : PE X i ty) (ho : PE X o td) : PC X .In i o (tDIn ty td) := by
  intro pins s σ H Q I h
  refine thn (hi pins s σ H _ I h) fun iv s1 ⟨y, H1, I1, ry, q1⟩ => thn (ho pins s1 σ H1 _ I1 q1) fun u s2 ⟨x, H2, I2, rx, a, ov, ex, g, q2⟩ => ?_
  subst ex
  obtain rfl : u = Value.ref a := rx
  exact d_in hu I2 g ry fun s3 I3 => ⟨.bl ov.isSome, H2, I3, rfl, q2⟩
theorem ps_dput (hu : X.A.units + 1 < cLine) (ho : PE X o td) (hi : PE X i ty) (hv : PE X value tv) (hs : swapsWith value (some (.Subscript o i pos')) pos.line X.env = pure false) :
    PS X (.Assign [.Subscript o i pos'] value pos) (sDPut td ty tv) := by
  intro pins s σ H D I h
  refine wpAny_Assign_Subscript (thn (hv pins s σ H _ I h) fun r s1 ⟨v, H1, I1, rv, q1⟩ => thn (ho pins s1 σ H1 _ I1 q1) fun u s2 ⟨x, H2, I2, rx, q2⟩ => thn (hi pins s2 σ H2 _ I2 q2) fun iv s3 ⟨y, H3, I3, ry, a, H4, ex, g, q3⟩ => ?_) hs
  subst ex
  obtain rfl : u = Value.ref a := rx
  exact d_setItem hu I3 g ry rv fun s4 I4 => ⟨σ, H4, I4, q3⟩
end


theorem dk_empty {P : Program} {w : World} {H : Hp} (h : Heap) (hb : sysModules < h.objs.size) : ObjOk P w H (h.push { cls := .type "dict", data := .dict #[] }) h.objs.size (.dK []) :=
  ⟨Nat.zero_le _, beq_eq_false_iff_ne.mpr (Ne.symm (Nat.ne_of_lt hb)), [], .nil, Heap.DictOf.new h⟩
/-- {}, to be a dict of the kind that is wanted -/
def tDNewK : TE := fun _ H Q => ∀ p, H p = none → Q (.ref p) (upd H p (.dK []))
section
variable {X : Cx} {pos : Pos}
theorem pe_dnewK : PE X (.Dict [] [] pos) tDNewK := fun pins s σ H Q I h =>
  wpAny_Dict_empty ⟨.ref s.heap.objs.size, _, I.laid (a := s.heap.objs.size) (o := .dK []) (t' := s.toks) (fun _ _ q => Heap.get?_push_of_some _ q) (Nat.le_refl _) (dk_empty s.heap I.big), rfl, h _ (I.hok.fresh (Nat.le_refl _))⟩
end

section
variable {X : Cx} {pins : List (Addr × Obj)} {σ : St} {H : Hp} {s : Shared} {a : Addr} {y d : V} {u r : Value} {o : Option V} {A : Around} {E : Value → Shared → Prop}
end

section
variable {X : Cx} {o e f : Expr} {apos cpos : Pos} {td ty tx : TE}
end

section
variable {X : Cx} {pins : List (Addr × Obj)} {σ : St} {H : Hp} {s : Shared} {a : Addr} {kvs : List (Key × V)} {A : Around} {E : Value → Shared → Prop}
end


section
variable {X : Cx} {pins : List (Addr × Obj)} {σ : St} {H : Hp} {s : Shared} {a : Addr} {y : V} {u : Value} {A : Around} {E : Value → Shared → Prop}
end
end L2

namespace L2
open PySem PySem.Spec PyProof.Rows

section
variable {prog : Program} {w : World} {A : Around} {E : Value → Shared → Prop}
end

section
variable {X : Cx}
end
end L2

namespace L2
open PySem PySem.Spec PyProof.Rows

section
variable {X : Cx} {pins : List (Addr × Obj)} {σ : St} {H : Hp} {s : Shared} {h' : Heap}
/-- .. and one new object is laid -/
theorem Inv.turnedNew {t' : Nat} {ch : List Addr} {T : Addr} {ob : HO} (I : Inv X pins σ H s) (k : ∀ b o, b ∉ ch → s.heap.get? b = some o → h'.get? b = some o) (hf : ∀ b ∈ ch, FpOk X pins H b) (hT : s.heap.objs.size ≤ T)
    (new : ObjOk X.prog X.w (upd H T ob) h' T ob) : Inv X pins σ (upd H T ob) { s with heap := h', toks := t' } := by
  have hn : H T = none := I.hok.fresh hT
  have nit : ∀ b u, H b = some u → b ∉ ch := fun b u e z => by
    have q := (hf b z).1
    rw [q] at e; cases e
  refine I.step (g' := s.gens) (d' := s.drawn) (ch := ch) (fun b hb => ⟨(hf b hb).2.2.2.1, (hf b hb).2.1, (hf b hb).2.2.2.2.1, (hf b hb).2.2.2.2.2⟩) (fun b o _ _ hc e _ => k b o hc e) (fun b o _ _ hc e _ => ⟨o.slots, k b o hc e⟩)
    (fun b o _ e n => ?_) (fun b o hc e => ⟨o, k b o hc e⟩) (fun b xs e => ?_) (fun b o u e => ?_) (fun b ps e => ⟨#[], ?_⟩) (fun m hm => ?_) (fun b u e => ?_) I.bare
  · rw [upd_ne (Nat.ne_of_lt (Nat.lt_of_lt_of_le (Heap.lt_size e) hT))]; exact n
  · rw [upd_ne (ne_of_none e hn)]; exact e
  · rw [upd_ne (ne_of_none e hn)]; exact e
  · rw [upd_ne (ne_of_none e hn), e]; simp
  · obtain ⟨o, es, ep, ho, r⟩ := hm
    exact ⟨o, es, ep, k _ o (fun z => (hf _ z).2.1 rfl) ho, r⟩
  · by_cases hb : b = T
    · subst hb
      rw [upd_same] at e
      cases e
      exact new
    · rw [upd_ne hb] at e
      refine (I.hok b u e).stay (fun c v hc q => k c v ?_ q) (fun c q => by rw [upd_ne (ne_of_none q hn)]; exact q) fun c xs q => by rw [upd_ne (ne_of_none q hn)]; exact q
      rcases hc with z | z
      · rw [z]; exact nit b u e
      · exact nit c _ z

end
section
variable {X : Cx}
theorem pi_one {tg : Expr} {pins : List (Addr × Obj)} {σ : St} {H : Hp} {s : Shared} {R : It → Hp → Prop} {J : It} {tn : Nat → Heap → Prop} {tk : Nat} (I : Inv X pins σ H s) (o : Obj)
    (T : Turn X.prog X.w X.K tg J [s.heap.objs.size] s.heap.objs.size tn) (st : tn 0 (s.heap.push o)) (q : R J H) : PIE X pins σ tg R (.ref s.heap.objs.size) { s with heap := s.heap.push o, toks := tk } := by
  refine ⟨s.heap.objs.size, [s.heap.objs.size], tn, J, H, rfl, I.kept fun b ob e => Heap.get?_push_of_some _ e, T, st, fun b hb => ?_, q⟩
  have e : b = s.heap.objs.size := by simpa using hb
  subst e
  exact I.fpOk (Nat.le_refl _) (I.hok.fresh (Nat.le_refl _))
end

/-- lo, lo + c, .. (n of them) -/
def Itc (lo c : Int) (n : Nat) : It := ⟨fun i _ => i < n, fun i H x H' => H' = H ∧ x = .int (lo + (i : Nat) * c), fun i _ => n ≤ i⟩
theorem turn_rangeC {P : Program} {w : World} {K : PySem.W.Frag} {tg : Expr} (it : Addr) (lo c : Int) (n : Nat) : Turn P w K tg (Itc lo c n) [it] it (fun i h => IsRangeIter h it (lo + (i : Nat) * c) ((n : Int) - (i : Nat)) c) where
  mem := by simp
  obj := fun i h st b hb => by
    have e : b = it := by simpa using hb
    subst e
    exact ⟨_, st, fun v z => nomatch z⟩
  keep := fun i h h' st k => k it (by simp) _ st
  item := by
    intro X hP hw hK hc i pins s σ H E I hf st hg
    subst hP hw hK
    obtain ⟨f0, f1, f2, f3, f4, f5⟩ := hf it (by simp)
    have W := Walks.range (prog := X.prog) (w := X.w) (I.ok.hd hc) it lo c n
    refine W.item i s _ _ hg st fun v h' tk hv st' kk => ?_
    obtain ⟨t, rfl⟩ := hv
    have I1 : Inv X pins σ H { s with heap := h', toks := tk } := I.turned (fun b o hb e => kk b o (by simpa using hb) e) f0 f1 f3 f4 f5
    exact ⟨_, rfl, go_of (s := { s with heap := h', toks := tk }) (n := "range_iterator") st' rfl rfl (by decide) ⟨.int (lo + (i : Nat) * c), H, I1, ⟨t, rfl⟩, ⟨rfl, rfl⟩, st', fun b hb => (hf b hb).1⟩⟩
  done := by
    intro X hP hw hK hc i pins s σ H E I hf st hg
    subst hP hw hK
    obtain ⟨f0, f1, f2, f3, f4, f5⟩ := hf it (by simp)
    exact wpAny_pyNext_range_end (I.ok.hd hc) st (by have : n ≤ i := hg; omega) fun h' eb => ⟨rfl, I.turned (t' := s.toks) (fun b o hb e => eb b o hb e) f0 f1 f3 f4 f5⟩
  self := fun A i s Q E st h => wpAny_pyIter_rangeiter st h
/-- range(i, j, c): small bounds, n items -/
def RgC (i j c : Int) (n : Nat) : Prop := c ≠ 0 ∧ c.natAbs < 1073741824 ∧ Builtin.Range.small i j c = true ∧ Builtin.Range.rangeSize i j c = n
def iRng3 (ta : TA) : TI := fun σ H R => ta σ H fun vs H1 => ∃ (i j c : Int) (n : Nat), vs = [.int i, .int j, .int c] ∧ RgC i j c n ∧ R (Itc i c n) H1
section
variable {X : Cx} {tg : Expr}
theorem pi_range3 {a b c : Expr} {ta : TA} {p pos : Pos} (hg : Gl X "range") (hm : X.mg "range" = none) (ha : PA X [a, b, c] ta)
    (hs : starEach [a, b, c] X.env = (false, eval a X.env) :: starEach [b, c] X.env := by rfl) (hpl : (backTo pos (starEach [b, c] X.env)).any (·.1) = false := by rfl) :
    PI X tg (.Call (.Name "range" p) [a, b, c] [] pos) (iRng3 ta) := by
  intro pins s σ H R I h
  refine Call_ (ld_blt I hg hm boot_range (PyProof.Rows.callWith_type1 (thn (ha pos pins s σ H _ I h) fun us s1 ⟨vs, H1, I1, r1, q1⟩ => ?_) hs hpl))
  obtain ⟨i, j, k, n, e, ⟨c0, c1, c2, c3⟩, q⟩ := q1
  subst e
  cases r1 with
  | cons r rr =>
    cases rr with
    | cons r' rr =>
      cases rr with
      | cons r'' rr =>
        cases rr
        obtain ⟨t, rfl⟩ := r
        obtain ⟨t', rfl⟩ := r'
        obtain ⟨t'', rfl⟩ := r''
        refine call_range_3 c0 ?_ (.inl (PyProof.noPylong_small c1))
        refine wpAny_pyIter_range (IsRange.new ..) c2 ?_
        have I2 : Inv X pins σ H1 { s1 with heap := s1.heap.push { cls := .type "range", data := .fields #[.int i t, .int j t', .int k t''] } } := I1.kept (t' := s1.toks) fun b o e => Heap.get?_push_of_some _ e
        refine pi_one (tk := s1.toks) I2 _ (turn_rangeC _ i k n) ?_ q
        have e1 : i + ((0 : Nat) : Int) * k = i := by simp
        have e2 : (n : Int) - ((0 : Nat) : Int) = Builtin.Range.rangeSize i j k := by rw [c3]; simp
        show IsRangeIter _ _ (i + ((0 : Nat) : Int) * k) ((n : Int) - ((0 : Nat) : Int)) k
        rw [e1, e2]
        exact Heap.get?_push_size _ rfl
end
section
variable {X : Cx} {tg : Expr}
end

section
variable {prog : Program} {w : World} {A : Around} {E : Value → Shared → Prop} {s : Shared}
end

section
variable {X : Cx} {pins : List (Addr × Obj)} {σ : St} {H : Hp} {s : Shared} {d : Addr} {o : Obj}
end

section
variable {P : Program} {w : World} {K : PySem.W.Frag} {tg : Expr} {d : Addr} {o : Obj} {es : Array DictEntry} {ep : Nat}
end

section
variable {X : Cx} {tg e : Expr} {td : TE} {apos cpos : Pos}
end

/-- the list at a as it stands at each turn, each item in a new pair -/
def Ite (K : PySem.W.Frag) (a : Addr) : It :=
  ⟨fun i H => ∃ (xs : List V) (x : V), SqL K H a xs ∧ xs[i]? = some x, fun i H v H' => ∃ T x, v = .ref T ∧ H T = none ∧ H' = upd H T (.tup [.int (i : Nat), x]) ∧ ∀ xs, SqL K H a xs → xs[i]? = some x, fun i H => ∃ xs : List V, SqL K H a xs ∧ xs.length ≤ i⟩
theorem turn_enum {P : Program} {w : World} {K : PySem.W.Frag} {elts : List Expr} {kk : Nat} {tpos : Pos} (a e it : Addr) :
    Turn P w K (.Tuple elts kk tpos) (Ite K a) [e, it] e (fun i h => (∃ old, IsEnum h e it ((i : Nat) : Int) old) ∧ h.IsListIter it a i ∧ e ≠ it) where
  mem := by simp
  obj := fun i h st b hb => by
    obtain ⟨⟨old, he⟩, ⟨o, ho, hc, hd⟩, _⟩ := st
    have e' : b = e ∨ b = it := by simpa using hb
    rcases e' with z | z
    · rw [z]; exact ⟨_, he, fun v q => nomatch q⟩
    · rw [z]; exact ⟨o, ho, fun v q => by rw [hd] at q; cases q⟩
  keep := fun i h h' st k => let ⟨⟨old, he⟩, hi, hne⟩ := st; ⟨⟨old, k e (by simp) _ he⟩, hi.at fun o q => k it (by simp) o q, hne⟩
  item := by
    intro X hP hw hK hc i pins s σ H E I hf st hg
    subst hP hw hK
    obtain ⟨⟨old, he⟩, hit, hne⟩ := st
    obtain ⟨xs, x, hq, hx⟩ := hg
    obtain ⟨its, rv, p, hz⟩ := I.list hq
    obtain ⟨u, hu, ru⟩ := rv.get hx
    have hel : e < s.heap.objs.size := Heap.lt_size he
    have hil : it < s.heap.objs.size := by obtain ⟨_, q, _⟩ := hit; exact Heap.lt_size q
    refine wpAny_pyNext_enum_item he hit p.isList (x := u) (by simpa using hu) hne fun h' ho hit' hT hsz hk => ?_
    refine ⟨_, rfl, wpAny_letOwnedTupleGo_enum (s := { s with heap := h', toks := s.toks + 1 }) ho fun h'' he' sb => ?_⟩
    have hT2 : h''.get? s.heap.objs.size = some { cls := .type "tuple", data := .seq #[.int i s.toks, u] } := (sb.2 _ (Nat.ne_of_gt hel)).trans hT
    have new : ObjOk X.prog X.w (upd H s.heap.objs.size (.tup [.int (i : Nat), x])) h'' s.heap.objs.size (.tup [.int (i : Nat), x]) :=
      ⟨by show 2 ≤ sizeLine; decide, [.int i s.toks, u], .cons ⟨_, rfl⟩ (.cons ru .nil), ⟨_, hT2, rfl, _, rfl⟩⟩
    have I1 : Inv X pins σ (upd H s.heap.objs.size (.tup [.int (i : Nat), x])) { s with heap := h'', toks := s.toks + 1 } :=
      I.turnedNew (ch := [e, it]) (fun b ob hb q => (sb.2 b (fun z => hb (by simp [z]))).trans (hk b ob (fun z => hb (by simp [z])) (fun z => hb (by simp [z])) q)) hf (Nat.le_refl _) new
    refine ⟨.ref s.heap.objs.size, _, I1, rfl, ⟨_, x, rfl, I.hok.fresh (Nat.le_refl _), rfl, fun ys hy => by rw [I.list_inj hy hq]; exact hx⟩, ⟨⟨u, ?_⟩, hit'.at fun o q => (sb.2 it (Ne.symm hne)).trans q, hne⟩, fun b hb => ?_⟩
    · have e1 : ((i + 1 : Nat) : Int) = (i : Int) + 1 := by omega
      rw [e1]; exact he'
    · have hb' : b < s.heap.objs.size := by
        have e' : b = e ∨ b = it := by simpa using hb
        rcases e' with z | z
        · rw [z]; exact hel
        · rw [z]; exact hil
      rw [upd_ne (Nat.ne_of_lt hb')]
      exact (hf b hb).1
  done := by
    intro X hP hw hK hc i pins s σ H E I hf st hg
    subst hP hw hK
    obtain ⟨⟨old, he⟩, hit, hne⟩ := st
    obtain ⟨xs, hq, hx⟩ := hg
    obtain ⟨its, rv, p, hz⟩ := I.list hq
    obtain ⟨f0, f1, f2, f3, f4, f5⟩ := hf it (by simp)
    have hl := rv.length
    exact wpAny_pyNext_enum_end (I.ok.hd hc) he hit p.isList (by simp; omega) fun h' eb => ⟨rfl, I.turned (t' := s.toks) (fun b o hb q => eb b o hb q) f0 f1 f3 f4 f5⟩
  self := fun A i s Q E st h => let ⟨⟨_, he⟩, _⟩ := st; wpAny_pyIter_enum he h
def iEnum (K : PySem.W.Frag) (ta : TA) : TI := fun σ H R => ta σ H fun vs H1 => ∃ a xs, vs = [.ref a] ∧ SqL K H1 a xs ∧ R (Ite K a) H1
theorem pi_enum {X : Cx} {e : Expr} {ta : TA} {p pos tpos : Pos} {elts : List Expr} {kk : Nat} (hg : Gl X "enumerate") (hm : X.mg "enumerate" = none) (ha : PA X [e] ta) (hs : starEach [e] X.env = [(false, eval e X.env)] := by rfl) :
    PI X (.Tuple elts kk tpos) (.Call (.Name "enumerate" p) [e] [] pos) (iEnum X.K ta) := by
  intro pins s σ H R I h
  refine Call_ (ld_blt I hg hm boot_enumerate (PyProof.Rows.callWith_type1 (thn (ha pos pins s σ H _ I h) fun us s1 ⟨vs, H1, I1, r1, q1⟩ => ?_) hs rfl))
  obtain ⟨a, xs, ex, hq, q⟩ := q1
  subst ex
  cases r1 with
  | cons r rr =>
    cases rr
    cases r
    obtain ⟨its, rv, p', hz⟩ := I1.list hq
    refine call_enumerate_list p'.isList fun h' he hit hsz hk => wpAny_pyIter_enum he ?_
    have I2 : Inv X pins σ H1 { s1 with heap := h' } := I1.kept (t' := s1.toks) hk
    refine ⟨s1.heap.objs.size + 1, [s1.heap.objs.size + 1, s1.heap.objs.size], _, _, H1, rfl, I2, turn_enum a (s1.heap.objs.size + 1) s1.heap.objs.size, ⟨⟨.none, he⟩, hit, Nat.succ_ne_self _⟩, fun b hb => ?_, q⟩
    have e' : b = s1.heap.objs.size + 1 ∨ b = s1.heap.objs.size := by simpa using hb
    have hle : s1.heap.objs.size ≤ b := by
      rcases e' with z | z
      · rw [z]; exact Nat.le_add_right _ _
      · rw [z]; exact Nat.le_refl _
    exact I1.fpOk hle (I1.hok.fresh hle)
end L2

section 
namespace Bits
open PySem PyProof.Rows

end Bits
end 

section 
namespace TL
open PySem PySem.Builtin PySem.Builtin.Str PySem.StrLaws

end TL
end 

namespace L2
open PySem PySem.Spec PyProof.Rows

section
variable {X : Cx} {pins : List (Addr × Obj)} {σ : St} {H : Hp} {s : Shared} {Q : VK}
end

section
variable {X : Cx}

end

section
variable {X : Cx} {o e : Expr} {to te : TE}
end
end L2

namespace L2
open PySem PySem.Spec PyProof.Rows

section
variable {X : Cx}
end

end L2

namespace Att
open PySem PySem.W PySem.Calls PyProof.Rows

theorem ints_of_wellAll {P : Params} {h : Heap} : ∀ (ns : List Int) (vs : List Value), WellAll P h vs (ns.map WData.int) → IntsAre vs ns := by
  intro ns
  induction ns with
  | nil =>
    intro vs w
    rw [List.map_nil] at w
    cases w
    exact .nil
  | cons n ns ih =>
    intro vs w
    rw [List.map_cons] at w
    cases w with
    | cons a b =>
      cases a
      exact .cons _ _ (ih _ b)

section
variable {prog : Program} {w : World} {A : Around} {E : Value → Shared → Prop} {s : Shared} {K : Frag}

end
end Att

namespace L2
open PySem PySem.Spec PyProof.Rows

theorem vals_ints : ∀ {vs : List Value} {ns : List Int}, IntsAre vs ns → Vals (ns.map V.int) vs
  | _, _, .nil => .nil
  | _, _, .cons n t h => .cons ⟨t, rfl⟩ (vals_ints h)

end L2

namespace L2
open PySem PySem.Spec PyProof.Rows

abbrev KOf {K : PySem.W.Frag} {h : Heap} (_ : K.In h) : PySem.W.Frag := K

end L2

namespace L2
open PySem PySem.Spec PyProof.Rows

/-- the j-th statement of a class's body -/
def inClass (s : Stmt) (j : Nat) : Stmt := match s with
  | .ClassDef _ _ _ body _ _ _ _ _ _ _ => body.getD j (.Pass ⟨0, 0, 0, 0⟩)
  | _ => .Pass ⟨0, 0, 0, 0⟩
def defArgs (s : Stmt) : Arguments := match s with
  | .FunctionDef _ a _ _ _ _ _ _ _ _ => a
  | _ => { posonlyargs := [], args := [], vararg := none, kwonlyargs := [], kw_defaults := [], kwarg := none, defaults := [] }
def defBody (s : Stmt) : List Stmt := match s with
  | .FunctionDef _ _ b _ _ _ _ _ _ _ => b
  | _ => []
def defScope (s : Stmt) : Scope := match s with
  | .FunctionDef _ _ _ _ _ _ sc _ _ _ => sc
  | _ => { kind := .function, names := [], isGenerator := false, isCoroutine := false }

abbrev CX0 : CXT := fun _ _ _ _ _ _ => False
abbrev E0 : XK := fun _ _ _ => False
theorem pass0 {X : Cx} : Passes CX0 X E0 := fun _ _ _ _ _ _ _ h => h.elim

structure Fun (K : PySem.W.Frag) (x qual : Str) (st : Stmt) (f : Addr) (fd : FuncData) : Prop where
  ex : ∃ (oc : Value) (od : Option Addr) (kV doc pm : Value) (an : Option Addr) (cdv ct : Value) (osl : Array (Option Value)),
    fd = PySem.W.fnOf x qual (defArgs st) (defBody st) (defScope st) .none kV doc pm an cdv ct ∧ K.lookup f = some ⟨oc, od, .func fd, osl⟩ ∧ PySem.W.codeIn K cdv qual = true
  kp : PySem.W.keepIn K (.ref f) = true
section
variable {P : Program} {w : World} {K : PySem.W.Frag} {mg : Str → Option Value} {base : Heap}
/-- THE RULE for a def: its body as a term of rules, and the reading of that term -/
theorem Fun.ok {x qual : Str} {st : Stmt} {f : Addr} {fd : FuncData} {N ps : List Str} {k : Nat} {sp : Sp} (F : Fun K x qual st f fd) (S : FnScope N ps (defScope st)) (len : ∀ vs H Q E, sp vs H Q E → vs.length = ps.length)
    (hbody : ∀ (cdv : Value) (A : Around) (outer : List Env) (s : Shared) (H : Hp) (vs : List V) (Q : VK) (E : XK), Room k (A.deeper (envOfC qual (defScope st) s.heap.objs.size f cdv)) → sp vs H Q E →
      ∃ t, PSs (cxOf CX0 P w K mg base N qual (defScope st) f cdv A outer s H E).nox (defBody st) t ∧ t { nx := fun _ H' => Q .non H', rt := Q } (start N vs) H) : FnOk P w K mg base CX0 (k + 1) f fd ps sp := by
  obtain ⟨oc, od, kV, doc, pm, an, cdv, ct, osl, rfl, lk, hcd⟩ := F.ex
  refine fn_of lk hcd S len fun A outer s H vs Q E hr hsp => ?_
  obtain ⟨t, h, q⟩ := hbody cdv A outer s H vs Q E hr hsp
  exact ⟨t, h.nox, q⟩
/-- how its arguments bind (no defaults): h is «fun _ _ _ _ _ _ us hl => match us, hl with | [_, _], _ => rfl», one _ a parameter -/
theorem Fun.binds {x qual : Str} {st : Stmt} {f : Addr} {fd : FuncData} {ps : List Str} (F : Fun K x qual st f fd)
    (h : ∀ (kV doc pm : Value) (an : Option Addr) (cdv ct : Value) (us : List Value), us.length = ps.length → bindArgs (PySem.W.fnOf x qual (defArgs st) (defBody st) (defScope st) .none kV doc pm an cdv ct) ⟨us, []⟩ = pure (ps.zip us)) : Binds K fd ps [] := by
  obtain ⟨oc, od, kV, doc, pm, an, cdv, ct, osl, rfl, lk, hcd⟩ := F.ex
  exact .all (h kV doc pm an cdv ct)
theorem fun_mk {x qual : Str} {st : Stmt} {f : Addr} {oc : Value} {od an : Option Addr} {osl : Array (Option Value)} {kV doc pm cdv ct : Value} (l : K.lookup f = some ⟨oc, od, .func (PySem.W.fnOf x qual (defArgs st) (defBody st) (defScope st) .none kV doc pm an cdv ct), osl⟩)
    (c : PySem.W.codeIn K cdv qual = true) (k : PySem.W.keepIn K (.ref f) = true) : Fun K x qual st f (PySem.W.fnOf x qual (defArgs st) (defBody st) (defScope st) .none kV doc pm an cdv ct) := ⟨⟨oc, od, kV, doc, pm, an, cdv, ct, osl, rfl, l, c⟩, k⟩
end
theorem hu_of {A : Around} {k : Nat} (hr : Room k A) : A.units + 1 < cLine := Nat.lt_of_le_of_lt (Nat.add_le_add_left (by decide : 1 ≤ 64) _) hr.units
section
variable {X : Cx}
theorem pv (i : Nat) {x : Str} {pos : Pos} (hN : X.N[i]? = some x := by rfl) (hv : Vis X.env.scope x := by first | exact Or.inl rfl | exact Or.inr (Or.inl rfl) | exact Or.inr (Or.inr rfl)) (hd : (x == ("__debug__" : Str)) = false := by decide)
    (hcd : (x == ("__classdict__" : Str)) = false := by decide) : PE X (.Name x pos) (tVar i) := pe_var hN hv hd hcd
end

theorem iteF {A B : Prop} (h : B) : if false = true then A else B := by
  rw [if_neg Bool.false_ne_true]
  exact h
theorem iteT {A B : Prop} (h : A) : if true = true then A else B := by
  rw [if_pos rfl]
  exact h
theorem ite2 {c A B : Prop} [Decidable c] (h1 : c → A) (h2 : ¬ c → B) : if c then A else B := by
  by_cases h : c
  · rw [if_pos h]
    exact h1 h
  · rw [if_neg h]
    exact h2 h
/-- all that was tracked is as it was -/
def Same (H H' : Hp) : Prop := ∀ b o, H b = some o → H' b = some o
theorem Same.refl (H : Hp) : Same H H := fun _ _ h => h
theorem Same.trans {H H1 H2 : Hp} (a : Same H H1) (b : Same H1 H2) : Same H H2 := fun c o h => b c o (a c o h)
theorem Same.free {H H' : Hp} (e : Same H H') {l : Addr} (h : H' l = Option.none) : H l = Option.none := by
  cases q : H l with
  | none => rfl
  | some o =>
    rw [e l o q] at h
    cases h
theorem Same.seq {K : PySem.W.Frag} {H H' : Hp} {a : Addr} {xs : List V} (e : Same H H') (h : SqL K H a xs) : SqL K H' a xs := by
  rcases h with (h | ⟨o, h⟩) | h
  · exact .inl (.inl (e _ _ h))
  · exact .inl (.inr ⟨o, e _ _ h⟩)
  · exact .inr h

section
variable {κ : Type} [DecidableEq κ]
end
/-- a new instance and its __init__ leave all that was tracked as it was -/
theorem Same.made {H H1 : Hp} {x dx C : Addr} (nx : H x = Option.none) (nd : H dx = Option.none) (k : ∀ b o, (upd (upd H dx (.own x)) x (.ins C dx [])) b = some o → b ≠ x → H1 b = some o) : Same H H1 := fun b o e =>
  k b o (by rw [upd_ne (ne_of_none e nx), upd_ne (ne_of_none e nd)]; exact e) (ne_of_none e nx)
end L2
set_option linter.all false
namespace BP
open Ks165

def out (g : Nat) (c : Child) : Nat := if c.isIn g then 0 else 1
theorem before_iff (g : Nat) (a b : Child) : before g a b = true ↔ (out g a < out g b ∨ (out g a = out g b ∧ (b.score < a.score ∨ (a.score = b.score ∧ a.number < b.number)))) := by
  unfold before out above
  cases ha : a.isIn g <;> cases hb : b.isIn g <;> simp
theorem before_asymm {g : Nat} {a b : Child} (h : before g a b = true) : ¬ before g b a = true := by
  rw [before_iff] at h ⊢
  omega
theorem before_trans {g : Nat} {a b c : Child} (h : before g a b = true) (h2 : before g b c = true) : before g a c = true := by
  rw [before_iff] at h h2 ⊢
  omega
theorem before_total {g : Nat} {a b : Child} (h : a.number ≠ b.number) : before g a b = true ∨ before g b a = true := by
  rw [before_iff, before_iff]
  omega

def Dist (l : List Child) : Prop := (l.map (fun c => c.number)).Nodup
theorem Dist.tail {a : Child} {l : List Child} (h : Dist (a :: l)) : Dist l := (List.nodup_cons.mp (show (a.number :: l.map (fun c => c.number)).Nodup from h)).2
theorem Dist.head {a : Child} {l : List Child} (h : Dist (a :: l)) : ∀ b ∈ l, b.number ≠ a.number := fun b hb e =>
  (List.nodup_cons.mp (show (a.number :: l.map (fun c => c.number)).Nodup from h)).1 (e ▸ List.mem_map.mpr ⟨b, hb, rfl⟩)
theorem Dist.inj : ∀ {l : List Child}, Dist l → ∀ {a b : Child}, a ∈ l → b ∈ l → a.number = b.number → a = b
  | [], _, _, _, h, _, _ => by simp at h
  | x :: l, h, a, b, ha, hb, e => by
    rcases List.mem_cons.mp ha with rfl | ha
    · rcases List.mem_cons.mp hb with rfl | hb
      · rfl
      · exact absurd e.symm (h.head b hb)
    · rcases List.mem_cons.mp hb with rfl | hb
      · exact absurd e (Dist.head h a ‹a ∈ l›)
      · exact Dist.inj (Dist.tail h) ‹a ∈ l› ‹b ∈ l› e
theorem Dist.filter {l : List Child} (h : Dist l) (f : Child → Bool) : Dist (l.filter f) := List.Nodup.sublist (List.Sublist.map _ List.filter_sublist) h
theorem Dist.perm {l k : List Child} (h : Dist l) (p : l.Perm k) : Dist k := (p.map _).nodup_iff.mp h
theorem Dist.sub {l k : List Child} (h : Dist l) (p : k.Sublist l) : Dist k := List.Nodup.sublist (p.map _) h
theorem Dist.nodup : ∀ {l : List Child}, Dist l → l.Nodup
  | [], _ => List.nodup_nil
  | a :: l, h => List.nodup_cons.mpr ⟨fun m => Dist.head h a m rfl, Dist.nodup (Dist.tail h)⟩

theorem first_cons_ne {g : Nat} {c : Child} {l : List Child} : first g (c :: l) ≠ none := by
  unfold first
  split
  · simp
  · split <;> simp
theorem first_mem {g : Nat} : ∀ {l : List Child} {c : Child}, first g l = some c → c ∈ l
  | [], c, h => by simp [first] at h
  | a :: l, c, h => by
    unfold first at h
    split at h
    · cases h; simp
    · rename_i d hd
      split at h
      · cases h; exact List.mem_cons_of_mem _ (first_mem hd)
      · cases h; simp
theorem first_best {g : Nat} : ∀ {l : List Child} {c : Child}, Dist l → first g l = some c → ∀ d ∈ l, d = c ∨ before g c d = true
  | [], c, _, h => by simp [first] at h
  | a :: l, c, hd, h => by
    intro d hdm
    unfold first at h
    split at h
    · rename_i hn
      cases h
      cases l with
      | nil => simp at hdm; exact .inl hdm
      | cons x l => exact absurd hn first_cons_ne
    · rename_i e he
      have hb := first_best hd.tail he
      have hm := first_mem he
      split at h
      · rename_i hea
        cases h
        rcases List.mem_cons.mp hdm with rfl | hdm
        · exact .inr hea
        · exact hb d hdm
      · rename_i hea
        cases h
        rcases List.mem_cons.mp hdm with rfl | hdm
        · exact .inl rfl
        · right
          have hce := (before_total (g := g) (hd.head e hm).symm).resolve_right hea
          rcases hb d hdm with rfl | hx
          · exact hce
          · exact before_trans hce hx
theorem first_of {g : Nat} {l : List Child} {c : Child} (hd : Dist l) (hc : c ∈ l) (h : ∀ d ∈ l, d = c ∨ before g c d = true) : first g l = some c := by
  cases e : first g l with
  | none =>
    cases l with
    | nil => simp at hc
    | cons a l => exact absurd e first_cons_ne
  | some d =>
    rcases h d (first_mem e) with rfl | h1
    · rfl
    · rcases first_best hd e c hc with rfl | h2
      · rfl
      · exact absurd h2 (before_asymm h1)
theorem first_some {g : Nat} {l : List Child} {c : Child} (hc : c ∈ l) : ∃ d, first g l = some d := by
  cases e : first g l with
  | none =>
    cases l with
    | nil => simp at hc
    | cons a l => exact absurd e first_cons_ne
  | some d => exact ⟨d, rfl⟩

def fillC (r : List Nat) (l : List Child) : List Child := (fill r l).map (fun x => x.2)
def without (c : Child) (l : List Child) : List Child := l.filter (fun d => d.number != c.number)
theorem fillC_nil (l : List Child) : fillC [] l = [] := rfl
theorem fillC_empty (r : List Nat) : fillC r [] = [] := by cases r <;> rfl
theorem fillC_some {g : Nat} {r : List Nat} {l : List Child} {c : Child} (h : first g l = some c) : fillC (g :: r) l = c :: fillC r (without c l) := by
  have e : fill (g :: r) l = (g, c) :: fill r (l.filter (fun d => d.number != c.number)) := by
    rw [fill, h]
  unfold fillC without
  rw [e]
  rfl
theorem mem_without {c d : Child} {l : List Child} (hd : Dist l) (hc : c ∈ l) : d ∈ without c l ↔ d ∈ l ∧ d ≠ c := by
  unfold without
  rw [List.mem_filter]
  constructor
  · rintro ⟨h1, h2⟩
    refine ⟨h1, fun e => ?_⟩
    subst e
    simp at h2
  · rintro ⟨h1, h2⟩
    refine ⟨h1, ?_⟩
    have : d.number ≠ c.number := fun e => h2 (hd.inj h1 hc e)
    simpa using this
theorem Dist.without {c : Child} {l : List Child} (h : Dist l) : Dist (without c l) := h.filter _
theorem without_length : ∀ {l : List Child} {c : Child}, Dist l → c ∈ l → (without c l).length + 1 = l.length
  | [], c, _, h => by simp at h
  | a :: l, c, hd, h => by
    by_cases e : a.number = c.number
    · have hac : a = c := hd.inj (List.mem_cons_self) h e
      subst hac
      have : BP.without a (a :: l) = l := by
        unfold BP.without
        rw [List.filter_cons_of_neg (by simp)]
        rw [List.filter_eq_self]
        intro b hb
        have := hd.head b hb
        simpa using this
      rw [this]
      rfl
    · have hc : c ∈ l := by
        rcases List.mem_cons.mp h with rfl | h
        · exact absurd rfl e
        · exact h
      have ih := without_length hd.tail hc
      have : BP.without c (a :: l) = a :: BP.without c l := by
        unfold BP.without
        rw [List.filter_cons_of_pos (by simpa using e)]
      rw [this, List.length_cons, List.length_cons, ih]
theorem fill_mem : ∀ {r : List Nat} {l : List Child} {c : Child}, c ∈ fillC r l → c ∈ l
  | [], l, c, h => by simp [fillC, fill] at h
  | g :: r, l, c, h => by
    cases e : first g l with
    | none =>
      unfold fillC fill at h
      rw [e] at h
      simp at h
    | some d =>
      rw [fillC_some e] at h
      rcases List.mem_cons.mp h with rfl | h
      · exact first_mem e
      · exact (List.mem_filter.mp (show c ∈ l.filter _ from fill_mem h)).1
theorem fill_length : ∀ {r : List Nat} {l : List Child}, Dist l → (fillC r l).length = min r.length l.length
  | [], l, _ => by simp [fillC, fill]
  | g :: r, l, hd => by
    cases e : first g l with
    | none =>
      cases l with
      | nil => rw [fillC_empty]; simp
      | cons a l => exact absurd e first_cons_ne
    | some d =>
      rw [fillC_some e, List.length_cons, fill_length hd.without, List.length_cons]
      have := without_length hd (first_mem e)
      omega
theorem fill_dist : ∀ {r : List Nat} {l : List Child}, Dist l → Dist (fillC r l)
  | [], l, _ => by simp [fillC, fill, Dist]
  | g :: r, l, hd => by
    cases e : first g l with
    | none =>
      cases l with
      | nil => rw [fillC_empty]; simp [Dist]
      | cons a l => exact absurd e first_cons_ne
    | some d =>
      rw [fillC_some e]
      show (d.number :: (fillC r (without d l)).map (fun c => c.number)).Nodup
      refine List.nodup_cons.mpr ⟨fun h => ?_, fill_dist hd.without⟩
      obtain ⟨x, hx, ex⟩ := List.mem_map.mp h
      have hx2 := (List.mem_filter.mp (show x ∈ l.filter _ from fill_mem hx)).2
      simp at hx2
      exact hx2 ex
/-- whom a school would take of many, it takes of fewer -/
theorem fill_sub : ∀ {r : List Nat} {X Y : List Child} {c : Child}, Dist X → Dist Y → (∀ a ∈ X, a ∈ Y) → c ∈ X → c ∈ fillC r Y → c ∈ fillC r X
  | [], X, Y, c, _, _, _, _, h => by simp [fillC, fill] at h
  | g :: r, X, Y, c, hX, hY, hs, hc, h => by
    obtain ⟨y, hy⟩ := first_some (g := g) (hs c hc)
    obtain ⟨x, hx⟩ := first_some (g := g) hc
    rw [fillC_some hy] at h
    rw [fillC_some hx]
    have hxm := first_mem hx
    by_cases ecx : c = x
    · rw [ecx]; exact List.mem_cons_self
    refine List.mem_cons_of_mem _ ?_
    have hcx : c ∈ without x X := (mem_without hX hxm).mpr ⟨hc, ecx⟩
    have hym := first_mem hy
    by_cases hyX : y ∈ X
    · have exy : x = y := by
        have := first_of (g := g) hX hyX (fun d hd => first_best hY hy d (hs d hd))
        rw [hx] at this
        exact Option.some.inj this
      subst exy
      have h' : c ∈ fillC r (without x Y) := by
        rcases List.mem_cons.mp h with e | h
        · exact absurd e ecx
        · exact h
      refine fill_sub hX.without hY.without (fun a ha => ?_) hcx h'
      obtain ⟨h1, h2⟩ := (mem_without hX hxm).mp ha
      exact (mem_without hY hym).mpr ⟨hs a h1, h2⟩
    · have ecy : c ≠ y := fun e => hyX (e ▸ hc)
      have h' : c ∈ fillC r (without y Y) := by
        rcases List.mem_cons.mp h with e | h
        · exact absurd e ecy
        · exact h
      refine fill_sub hX.without hY.without (fun a ha => ?_) hcx h'
      obtain ⟨h1, h2⟩ := (mem_without hX hxm).mp ha
      exact (mem_without hY hym).mpr ⟨hs a h1, fun e => hyX (e ▸ h1)⟩
theorem first_perm {g : Nat} {l k : List Child} (hd : Dist l) (p : l.Perm k) : first g l = first g k := by
  cases e : first g l with
  | none =>
    cases l with
    | nil => rw [List.nil_perm.mp p]; rfl
    | cons a l => exact absurd e first_cons_ne
  | some c => exact (first_of (hd.perm p) (p.mem_iff.mp (first_mem e)) fun d h => first_best hd e d (p.mem_iff.mpr h)).symm
theorem fill_perm : ∀ {r : List Nat} {l k : List Child}, Dist l → l.Perm k → fillC r l = fillC r k
  | [], l, k, _, _ => rfl
  | g :: r, l, k, hd, p => by
    have ef := first_perm (g := g) hd p
    cases e : first g l with
    | none =>
      cases l with
      | nil => rw [List.nil_perm.mp p]
      | cons a l => exact absurd e first_cons_ne
    | some c =>
      rw [fillC_some e, fillC_some (ef ▸ e)]
      congr 1
      exact fill_perm hd.without (p.filter _)
/-- a line in the seat's order: the first n have the n seats -/
theorem fill_sorted : ∀ {n g : Nat} {r : List Nat} {line : List Child}, Dist line → line.Pairwise (fun a b => before g a b = true) →
    fillC (List.replicate n g ++ r) line = line.take n ++ fillC r (line.drop n)
  | 0, g, r, line, _, _ => by simp
  | n + 1, g, r, [], _, _ => by rw [fillC_empty, List.take_nil, List.drop_nil, fillC_empty]; rfl
  | n + 1, g, r, c :: line, hd, hp => by
    obtain ⟨h1, h2⟩ := List.pairwise_cons.mp hp
    have hf : first g (c :: line) = some c := first_of hd List.mem_cons_self fun d hm => by
      rcases List.mem_cons.mp hm with rfl | hm
      · exact .inl rfl
      · exact .inr (h1 d hm)
    have hw : without c (c :: line) = line := by
      unfold without
      rw [List.filter_cons_of_neg (by simp), List.filter_eq_self]
      intro b hb
      have := hd.head b hb
      simpa using this
    show fillC (g :: (List.replicate n g ++ r)) (c :: line) = _
    rw [fillC_some hf, hw, fill_sorted hd.tail h2]
    rfl
theorem takes_eq (s : School) (l : List Child) : s.takes l = fillC s.order l := rfl
theorem sum_eq (l : List Nat) : Ks165.sum l = l.sum := by
  unfold Ks165.sum
  have : ∀ (l : List Nat) (a : Nat), l.foldl (· + ·) a = a + l.sum := by
    intro l
    induction l with
    | nil => intro a; simp
    | cons x l ih => intro a; rw [List.foldl_cons, ih, List.sum_cons]; omega
  rw [this]; omega
/-- the seats by group from group k on -/
def seatsFrom (k : Nat) (l : List Nat) : List Nat := (l.zipIdx k).flatMap (fun x => List.replicate x.1 x.2)
theorem seatsFrom_nil (k : Nat) : seatsFrom k [] = [] := rfl
theorem seatsFrom_cons (k n : Nat) (l : List Nat) : seatsFrom k (n :: l) = List.replicate n k ++ seatsFrom (k + 1) l := by
  unfold seatsFrom
  rw [List.zipIdx_cons, List.flatMap_cons]
theorem seatsFrom_append : ∀ (l m : List Nat) (k : Nat), seatsFrom k (l ++ m) = seatsFrom k l ++ seatsFrom (k + l.length) m
  | [], m, k => by simp [seatsFrom]
  | n :: l, m, k => by
    rw [List.cons_append, seatsFrom_cons, seatsFrom_cons, seatsFrom_append l m (k + 1), List.append_assoc, List.length_cons]
    congr 3
    omega
theorem order_eq {s : School} (h : s.held.length = 8) : s.order = seatsFrom 0 (s.held ++ [s.seats - s.held.sum]) := by
  rw [seatsFrom_append, seatsFrom_cons, seatsFrom_nil, List.append_nil, h]
  unfold School.order
  rw [sum_eq]
  rfl
theorem seatsFrom_length : ∀ (l : List Nat) (k : Nat), (seatsFrom k l).length = l.sum
  | [], k => rfl
  | n :: l, k => by rw [seatsFrom_cons, List.length_append, List.length_replicate, seatsFrom_length l, List.sum_cons]
theorem order_length {s : School} (h : s.good = true) : s.order.length = s.seats := by
  unfold School.good at h
  simp only [Bool.and_eq_true, decide_eq_true_eq, beq_iff_eq] at h
  rw [order_eq h.1.1.2, seatsFrom_length, List.sum_append, List.sum_cons, List.sum_nil]
  have := h.1.2
  rw [sum_eq] at this
  omega
theorem takes_length {s : School} (h : s.good = true) {l : List Child} (hd : Dist l) : (s.takes l).length = min s.seats l.length := by
  rw [takes_eq, fill_length hd, order_length h]
end BP
set_option linter.all false
namespace BP
open Ks165 Ks166

theorem full_of : ∀ {A B : List Child}, A.Nodup → B.Nodup → (∀ a ∈ A, a ∈ B) → B.length ≤ A.length → ∀ b ∈ B, b ∈ A
  | [], B, _, _, _, hl, b, hb => by
    have : B = [] := List.eq_nil_of_length_eq_zero (by simpa using hl)
    rw [this] at hb
    simp at hb
  | a :: A, B, hA, hB, hs, hl, b, hb => by
    have haB := hs a List.mem_cons_self
    obtain ⟨h1, h2⟩ := List.nodup_cons.mp hA
    by_cases e : b = a
    · rw [e]; exact List.mem_cons_self
    refine List.mem_cons_of_mem _ (full_of h2 (hB.erase a) (fun x hx => ?_) ?_ b ((List.mem_erase_of_ne e).mpr hb))
    · exact (List.mem_erase_of_ne (fun (z : x = a) => h1 (by rw [← z]; exact hx))).mpr (hs x (List.mem_cons_of_mem _ hx))
    · rw [List.length_erase_of_mem haB]
      have : (a :: A).length = A.length + 1 := rfl
      omega

theorem len_le : ∀ {A B : List Child}, A.Nodup → (∀ a ∈ A, a ∈ B) → A.length ≤ B.length
  | [], B, _, _ => Nat.zero_le _
  | a :: A, B, hA, hs => by
    have haB := hs a List.mem_cons_self
    obtain ⟨h1, h2⟩ := List.nodup_cons.mp hA
    have ih := len_le (B := B.erase a) h2 fun x hx => (List.mem_erase_of_ne (fun (z : x = a) => h1 (by rw [← z]; exact hx))).mpr (hs x (List.mem_cons_of_mem _ hx))
    rw [List.length_erase_of_mem haB] at ih
    have := List.length_pos_of_mem haB
    rw [List.length_cons]
    omega

structure PG (p : Plan) : Prop where
  ns : p.schools.length ≤ 32
  nw : p.wish.length ≤ 256
  sch : ∀ s, (p.school s).good = true
  wsh : ∀ w ∈ p.wish, Wish.good p.schools.length w = true
  num : (p.wish.map (fun w => w.number)).Nodup
theorem pg_of {p : Plan} (h : p.good = true) : PG p := by
  unfold Plan.good at h
  simp only [Bool.and_eq_true, decide_eq_true_eq] at h
  obtain ⟨⟨⟨⟨h1, h2⟩, h3⟩, h4⟩, h5⟩ := h
  refine ⟨h1, h2, fun s => ?_, fun w hw => List.all_eq_true.mp h4 w hw, h5⟩
  unfold Plan.school
  rw [List.getD_eq_getElem?_getD]
  cases e : p.schools[s]? with
  | none => simp [School.good, Ks165.sum, SEATS, GROUPS]
  | some x => exact List.all_eq_true.mp h3 x (List.mem_of_getElem? e)
structure WG (n : Nat) (w : Wish) : Prop where
  grp : w.groups < 256
  len : w.wishes.length ≤ 8
  there : ∀ x ∈ w.wishes, x.1 < n
  nd : (w.wishes.map (fun x => x.1)).Nodup
theorem wg_of {n : Nat} {w : Wish} (h : Wish.good n w = true) : WG n w := by
  unfold Wish.good at h
  simp only [Bool.and_eq_true, decide_eq_true_eq] at h
  obtain ⟨⟨⟨⟨h1, h2⟩, h3⟩, h4⟩, h5⟩ := h
  exact ⟨h1, h3, fun x hx => of_decide_eq_true (List.all_eq_true.mp h4 x hx), h5⟩
theorem PG.w {p : Plan} (P : PG p) {i : Nat} {w : Wish} (h : p.wish[i]? = some w) : WG p.schools.length w := wg_of (P.wsh w (List.mem_of_getElem? h))
theorem nodup_at {α : Type} {l : List α} (hN : l.Nodup) {i j : Nat} {x : α} (a : l[i]? = some x) (b : l[j]? = some x) : i = j := by
  obtain ⟨h1, e1⟩ := List.getElem?_eq_some_iff.mp a
  obtain ⟨h2, e2⟩ := List.getElem?_eq_some_iff.mp b
  exact (List.getElem_inj hN).mp (e1.trans e2.symm)
theorem PG.inj {p : Plan} (P : PG p) {i j : Nat} {w v : Wish} (h : p.wish[i]? = some w) (h2 : p.wish[j]? = some v) (e : w.number = v.number) : i = j :=
  nodup_at (x := w.number) P.num (by rw [List.getElem?_map, h]; rfl) (by rw [List.getElem?_map, h2, e]; rfl)
theorem WG.rank {n : Nat} {w : Wish} (W : WG n w) {j : Nat} {x : Nat × Nat} (h : w.wishes[j]? = some x) : w.rank x.1 = j := by
  have hr : w.rank x.1 < w.wishes.length := List.findIdx_lt_length_of_exists ⟨x, List.mem_of_getElem? h, by simp⟩
  have e := List.findIdx_getElem (p := fun y : Nat × Nat => y.1 == x.1) (xs := w.wishes) (w := hr)
  refine nodup_at (x := x.1) W.nd ?_ (by rw [List.getElem?_map, h]; rfl)
  rw [List.getElem?_map, List.getElem?_eq_getElem hr]
  have e' : (w.wishes[w.wishes.findIdx (fun y : Nat × Nat => y.1 == x.1)]).1 = x.1 := by simpa using e
  show some (w.wishes[w.rank x.1]).1 = some x.1
  exact congrArg some e'
theorem of_rank {w : Wish} {s : Nat} (h : w.rank s < w.wishes.length) : ∃ x, w.wishes[w.rank s]? = some x ∧ x.1 = s := by
  refine ⟨w.wishes[w.rank s], List.getElem?_eq_getElem h, ?_⟩
  have e := List.findIdx_getElem (p := fun y : Nat × Nat => y.1 == s) (xs := w.wishes) (w := h)
  have e' : (w.wishes[w.wishes.findIdx (fun y : Nat × Nat => y.1 == s)]).1 = s := by simpa using e
  exact e'

def cum (p : Plan) (a : Nat → Nat) (s : Nat) : List Child :=
  (p.wish.zipIdx.filter (fun x => decide (x.1.rank s < a x.2) && decide (x.1.rank s < x.1.wishes.length))).map (fun x => x.1.childAt s)
theorem mem_cum {p : Plan} {a : Nat → Nat} {s : Nat} {c : Child} : c ∈ cum p a s ↔ ∃ i w, p.wish[i]? = some w ∧ w.rank s < a i ∧ w.rank s < w.wishes.length ∧ c = w.childAt s := by
  unfold cum
  rw [List.mem_map]
  constructor
  · rintro ⟨⟨w, i⟩, hm, rfl⟩
    obtain ⟨h1, h2⟩ := List.mem_filter.mp hm
    simp only [Bool.and_eq_true, decide_eq_true_eq] at h2
    have h1 : p.wish[i]? = some w := List.mem_zipIdx_iff_getElem?.mp h1
    exact ⟨i, w, h1, h2.1, h2.2, rfl⟩
  · rintro ⟨i, w, h1, h2, h3, rfl⟩
    refine ⟨(w, i), List.mem_filter.mpr ⟨List.mem_zipIdx_iff_getElem?.mpr h1, ?_⟩, rfl⟩
    simp only [Bool.and_eq_true, decide_eq_true_eq]
    exact ⟨h2, h3⟩
theorem dist_of {p : Plan} (P : PG p) {l : List (Wish × Nat)} (h : l.Sublist p.wish.zipIdx) (s : Nat) : Dist (l.map (fun x => x.1.childAt s)) := by
  unfold Dist
  rw [List.map_map]
  have e : p.wish.zipIdx.map (fun x => x.1.number) = p.wish.map (fun w => w.number) := by
    have e1 := List.zipIdx_map_fst 0 p.wish
    conv => rhs; rw [← e1]
    rw [List.map_map]
    rfl
  have h2 : (p.wish.zipIdx.map (fun x => x.1.number)).Nodup := by rw [e]; exact P.num
  exact List.Nodup.sublist (h.map _) h2
theorem PG.cum {p : Plan} (P : PG p) (a : Nat → Nat) (s : Nat) : Dist (cum p a s) := dist_of P List.filter_sublist s
theorem cum_mono {p : Plan} {a b : Nat → Nat} {s : Nat} (h : ∀ i w, p.wish[i]? = some w → a i ≤ b i) : ∀ c ∈ cum p a s, c ∈ cum p b s := fun c hc => by
  obtain ⟨i, w, h1, h2, h3, rfl⟩ := mem_cum.mp hc
  exact mem_cum.mpr ⟨i, w, h1, Nat.lt_of_lt_of_le h2 (h i w h1), h3, rfl⟩
theorem cum_get {p : Plan} (P : PG p) {a : Nat → Nat} {i : Nat} {w : Wish} {j : Nat} {x : Nat × Nat} (h : p.wish[i]? = some w) (hx : w.wishes[j]? = some x) (hj : j < a i) : w.childAt x.1 ∈ cum p a x.1 := by
  have e := (P.w h).rank hx
  exact mem_cum.mpr ⟨i, w, h, by rw [e]; exact hj, by rw [e]; exact (List.getElem?_eq_some_iff.mp hx).1, rfl⟩
abbrev T (p : Plan) (s : Nat) (l : List Child) : List Child := (p.school s).takes l
theorem takes_sub {p : Plan} {s : Nat} {X Y : List Child} {c : Child} (hX : Dist X) (hY : Dist Y) (h : ∀ a ∈ X, a ∈ Y) (hc : c ∈ X) (h2 : c ∈ T p s Y) : c ∈ T p s X := fill_sub hX hY h hc h2

/-- u: how many wishes each child has been turned down at: nobody is turned down any more -/
def Closed (p : Plan) (u : Nat → Nat) : Prop := ∀ i w x, p.wish[i]? = some w → w.wishes[u i]? = some x → w.childAt x.1 ∈ T p x.1 (cum p (fun k => u k + 1) x.1)
/-- t has been come to by turning down those whom a school didn't take -/
structure Come (p : Plan) (t : Nat → Nat) : Prop where
  le : ∀ i w, p.wish[i]? = some w → t i ≤ w.wishes.length
  low : ∀ u, Closed p u → ∀ i w, p.wish[i]? = some w → t i ≤ u i
  rej : ∀ i w j x, p.wish[i]? = some w → w.wishes[j]? = some x → j < t i → ¬ w.childAt x.1 ∈ T p x.1 (cum p (fun k => t k + 1) x.1)
theorem come_zero (p : Plan) : Come p (fun _ => 0) := ⟨fun _ _ _ => Nat.zero_le _, fun _ _ _ _ _ => Nat.zero_le _, fun _ _ _ _ _ _ h => absurd h (Nat.not_lt_zero _)⟩
/-- those who stand last at what they ask, X, hold all that is taken of all who asked: then X is it -/
theorem closed_at {p : Plan} (P : PG p) {a : Nat → Nat} {s : Nat} {X : List Child} (hX : Dist X) (h1 : ∀ c ∈ T p s (cum p a s), c ∈ X) (h2 : ∀ c ∈ X, c ∈ cum p a s) (hl : X.length ≤ (p.school s).seats) : ∀ c ∈ X, c ∈ T p s (cum p a s) := by
  have hd := P.cum a s
  refine full_of (fill_dist hd).nodup hX.nodup h1 ?_
  rw [takes_length (P.sch s) hd]
  have : X.length ≤ (cum p a s).length := len_le hX.nodup h2
  omega

def fn (t : List Nat) (i : Nat) : Nat := t.getD i 0
theorem fn_of {t : List Nat} {i k : Nat} (h : t[i]? = some k) : fn t i = k := by
  unfold fn
  rw [List.getD_eq_getElem?_getD, h]
  rfl
theorem fn_at {t : List Nat} {i : Nat} (h : i < t.length) : t[i]? = some (fn t i) := by
  unfold fn
  rw [List.getD_eq_getElem?_getD, List.getElem?_eq_getElem h]
  rfl
theorem ix_lt {α : Type} {l : List α} {i : Nat} {x : α} (h : l[i]? = some x) : i < l.length := (List.getElem?_eq_some_iff.mp h).1
theorem zip_at {α β : Type} {l : List α} {k : List β} {i : Nat} {a : α} {b : β} (h : l[i]? = some a) (h2 : k[i]? = some b) : (l.zip k)[i]? = some (a, b) := List.getElem?_zip_eq_some.mpr ⟨h, h2⟩
def askC (p : Plan) (t : List Nat) (s : Nat) : List Child := (p.asks t s).map (fun w => w.childAt s)
theorem mem_ask {p : Plan} {t : List Nat} {s : Nat} {c : Child} (hl : t.length = p.wish.length) : c ∈ askC p t s ↔ ∃ i w x, p.wish[i]? = some w ∧ w.wishes[fn t i]? = some x ∧ x.1 = s ∧ c = w.childAt s := by
  unfold askC Plan.asks
  rw [List.map_map, List.mem_map]
  constructor
  · rintro ⟨⟨w, k⟩, hm, rfl⟩
    obtain ⟨h1, h2⟩ := List.mem_filter.mp hm
    obtain ⟨i, hi⟩ := List.mem_iff_getElem?.mp h1
    obtain ⟨e1, e2⟩ := List.getElem?_zip_eq_some.mp hi
    have h2 : ((w.wishes[k]?).map (fun y => y.1) == some s) = true := h2
    cases e : w.wishes[k]? with
    | none => rw [e] at h2; simp at h2
    | some x =>
      rw [e] at h2
      have h3 : x.1 = s := by simpa using h2
      exact ⟨i, w, x, e1, by rw [fn_of e2]; exact e, h3, rfl⟩
  · rintro ⟨i, w, x, h1, h2, h3, rfl⟩
    refine ⟨(w, fn t i), List.mem_filter.mpr ⟨List.mem_iff_getElem?.mpr ⟨i, List.getElem?_zip_eq_some.mpr ⟨h1, fn_at (by rw [hl]; exact ix_lt h1)⟩⟩, ?_⟩, rfl⟩
    show ((w.wishes[fn t i]?).map (fun y => y.1) == some s) = true
    rw [h2]
    simp [h3]
theorem dist_ask {p : Plan} (P : PG p) {t : List Nat} (hl : t.length = p.wish.length) (s : Nat) : Dist (askC p t s) := by
  unfold askC Plan.asks Dist
  rw [List.map_map, List.map_map]
  have e : (p.wish.zip t).map (fun x => x.1.number) = p.wish.map (fun w => w.number) := by
    have e1 : (p.wish.zip t).map Prod.fst = p.wish := List.map_fst_zip (by omega)
    conv => rhs; rw [← e1]
    rw [List.map_map]
    rfl
  have h2 : ((p.wish.zip t).map (fun x => x.1.number)).Nodup := by rw [e]; exact P.num
  exact List.Nodup.sublist (List.filter_sublist.map _) h2
theorem round_len {p : Plan} {t : List Nat} (hl : t.length = p.wish.length) : (p.round t).length = p.wish.length := by
  unfold Plan.round
  rw [List.length_map, List.length_zip, hl, Nat.min_self]
theorem round_none {p : Plan} {t : List Nat} {i : Nat} {w : Wish} (hl : t.length = p.wish.length) (h : p.wish[i]? = some w) (e : w.wishes[fn t i]? = none) : fn (p.round t) i = fn t i := by
  refine fn_of ?_
  unfold Plan.round
  rw [List.getElem?_map, zip_at h (fn_at (by rw [hl]; exact ix_lt h))]
  show some (match w.wishes[fn t i]? with | none => fn t i | some y => _) = _
  rw [e]
theorem round_in {p : Plan} {t : List Nat} {i : Nat} {w : Wish} {x : Nat × Nat} (hl : t.length = p.wish.length) (h : p.wish[i]? = some w) (e : w.wishes[fn t i]? = some x) (hin : w.childAt x.1 ∈ T p x.1 (askC p t x.1)) : fn (p.round t) i = fn t i := by
  refine fn_of ?_
  unfold Plan.round
  rw [List.getElem?_map, zip_at h (fn_at (by rw [hl]; exact ix_lt h))]
  show some (match w.wishes[fn t i]? with | none => fn t i | some y => if (((p.school y.1).takes ((p.asks t y.1).map (fun v : Wish => v.childAt y.1))).contains (w.childAt y.1)) = true then fn t i else fn t i + 1) = _
  rw [e]
  show some (if ((T p x.1 (askC p t x.1)).contains (w.childAt x.1)) = true then fn t i else fn t i + 1) = _
  rw [if_pos (List.contains_iff_mem.mpr hin)]
theorem round_out {p : Plan} {t : List Nat} {i : Nat} {w : Wish} {x : Nat × Nat} (hl : t.length = p.wish.length) (h : p.wish[i]? = some w) (e : w.wishes[fn t i]? = some x) (hin : ¬ w.childAt x.1 ∈ T p x.1 (askC p t x.1)) : fn (p.round t) i = fn t i + 1 := by
  refine fn_of ?_
  unfold Plan.round
  rw [List.getElem?_map, zip_at h (fn_at (by rw [hl]; exact ix_lt h))]
  show some (match w.wishes[fn t i]? with | none => fn t i | some y => if (((p.school y.1).takes ((p.asks t y.1).map (fun v : Wish => v.childAt y.1))).contains (w.childAt y.1)) = true then fn t i else fn t i + 1) = _
  rw [e]
  show some (if ((T p x.1 (askC p t x.1)).contains (w.childAt x.1)) = true then fn t i else fn t i + 1) = _
  rw [if_neg (fun z => hin (List.contains_iff_mem.mp z))]
/-- a child moves on in a round only where it is turned down -/
theorem round_cases {p : Plan} {t : List Nat} {i : Nat} {w : Wish} (hl : t.length = p.wish.length) (h : p.wish[i]? = some w) :
    fn (p.round t) i = fn t i ∨ ∃ x, w.wishes[fn t i]? = some x ∧ fn (p.round t) i = fn t i + 1 ∧ ¬ w.childAt x.1 ∈ T p x.1 (askC p t x.1) := by
  cases e : w.wishes[fn t i]? with
  | none => exact .inl (round_none hl h e)
  | some x =>
    by_cases hin : w.childAt x.1 ∈ T p x.1 (askC p t x.1)
    · exact .inl (round_in hl h e hin)
    · exact .inr ⟨x, rfl, round_out hl h e hin, hin⟩
theorem ask_cum {p : Plan} (P : PG p) {t : List Nat} (hl : t.length = p.wish.length) {a : Nat → Nat} (ha : ∀ i w, p.wish[i]? = some w → fn t i < a i) (s : Nat) : ∀ c ∈ askC p t s, c ∈ cum p a s := fun c hc => by
  obtain ⟨i, w, x, h1, h2, rfl, rfl⟩ := (mem_ask hl).mp hc
  exact cum_get P h1 h2 (ha i w h1)
theorem come_round {p : Plan} (P : PG p) {t : List Nat} (hl : t.length = p.wish.length) (R : Come p (fn t)) : Come p (fn (p.round t)) := by
  have up : ∀ i w, p.wish[i]? = some w → fn t i ≤ fn (p.round t) i := fun i w h => by
    rcases round_cases hl h with e | ⟨_, _, e, _⟩ <;> omega
  refine ⟨fun i w h => ?_, fun u hu i w h => ?_, fun i w j x h hx hj => ?_⟩
  · rcases round_cases hl h with e | ⟨x, hx, e, _⟩
    · rw [e]; exact R.le i w h
    · rw [e]; exact ix_lt hx
  · have h0 := R.low u hu i w h
    rcases round_cases hl h with e | ⟨x, hx, e, hn⟩
    · rw [e]; exact h0
    · rcases Nat.lt_or_ge (fn t i) (u i) with h1 | h1
      · omega
      · exfalso
        have eu : u i = fn t i := by omega
        have hx' : w.wishes[u i]? = some x := by rw [eu]; exact hx
        refine hn (takes_sub (dist_ask P hl _) (P.cum _ _) (ask_cum P hl (fun k v hk => Nat.lt_succ_of_le (R.low u hu k v hk)) _) ((mem_ask hl).mpr ⟨i, w, x, h, hx, rfl, rfl⟩) (hu i w x h hx'))
  · intro hin
    by_cases hjt : j < fn t i
    · exact R.rej i w j x h hx hjt (takes_sub (P.cum _ _) (P.cum _ _) (cum_mono fun k v hk => Nat.succ_le_succ (up k v hk)) (cum_get P h hx (Nat.lt_succ_of_lt hjt)) hin)
    · rcases round_cases hl h with e | ⟨y, hy, e, hn⟩
      · omega
      · have ej : j = fn t i := by omega
        subst ej
        have exy : y = x := Option.some.inj (hy.symm.trans hx)
        subst exy
        exact hn (takes_sub (dist_ask P hl _) (P.cum _ _) (ask_cum P hl (fun k v hk => Nat.lt_succ_of_le (up k v hk)) _) ((mem_ask hl).mpr ⟨i, w, y, h, hx, rfl, rfl⟩) hin)
theorem closed_fix {p : Plan} (P : PG p) {t : List Nat} (hl : t.length = p.wish.length) (R : Come p (fn t)) (hf : p.round t = t) : Closed p (fn t) := by
  intro i w x h hx
  have hin : ∀ k v y, p.wish[k]? = some v → v.wishes[fn t k]? = some y → v.childAt y.1 ∈ T p y.1 (askC p t y.1) := fun k v y hk hy => by
    by_cases q : v.childAt y.1 ∈ T p y.1 (askC p t y.1)
    · exact q
    · have := round_out hl hk hy q
      rw [hf] at this
      omega
  have hall : ∀ c ∈ askC p t x.1, c ∈ T p x.1 (askC p t x.1) := fun c hc => by
    obtain ⟨k, v, y, h1, h2, h3, rfl⟩ := (mem_ask hl).mp hc
    have := hin k v y h1 h2
    rw [h3] at this
    exact this
  have hdA := dist_ask P hl x.1
  refine closed_at P hdA (fun c hc => ?_) (ask_cum P hl (fun k v hk => Nat.lt_succ_self _) _) ?_ _ ((mem_ask hl).mpr ⟨i, w, x, h, hx, rfl, rfl⟩)
  · obtain ⟨k, v, h1, h2, h3, rfl⟩ := mem_cum.mp (fill_mem hc)
    obtain ⟨y, hy, ey⟩ := of_rank h3
    rcases Nat.lt_or_ge (v.rank x.1) (fn t k) with hlt | hge
    · exact absurd (by rw [ey]; exact hc) (R.rej k v (v.rank x.1) y h1 hy hlt)
    · have e : v.rank x.1 = fn t k := by omega
      rw [e] at hy
      exact (mem_ask hl).mpr ⟨k, v, y, h1, hy, ey, rfl⟩
  · have h1 := len_le hdA.nodup hall
    have h2 := takes_length (P.sch x.1) hdA
    have h1 : (askC p t x.1).length ≤ ((p.school x.1).takes (askC p t x.1)).length := h1
    omega
theorem sum_lt : ∀ {t u : List Nat}, t.length = u.length → (∀ i, fn t i ≤ fn u i) → t ≠ u → t.sum < u.sum
  | [], [], _, _, h => absurd rfl h
  | a :: t, b :: u, hl, h, hne => by
    have h0 : a ≤ b := h 0
    have ht : ∀ i, fn t i ≤ fn u i := fun i => h (i + 1)
    have hl' : t.length = u.length := by simpa using hl
    rw [List.sum_cons, List.sum_cons]
    by_cases e : t = u
    · subst e
      have : a ≠ b := fun z => hne (by rw [z])
      omega
    · have := sum_lt hl' ht e
      omega
theorem sum_le8 : ∀ {t : List Nat}, (∀ i, fn t i ≤ 8) → t.sum ≤ 8 * t.length
  | [], _ => by simp
  | a :: t, h => by
    have h0 : a ≤ 8 := h 0
    have := sum_le8 (t := t) fun i => h (i + 1)
    rw [List.sum_cons, List.length_cons]
    omega
theorem fn_out {t : List Nat} {i : Nat} (h : t.length ≤ i) : fn t i = 0 := by
  unfold fn
  rw [List.getD_eq_getElem?_getD, List.getElem?_eq_none h]
  rfl
theorem come_8 {p : Plan} (P : PG p) {t : List Nat} (hl : t.length = p.wish.length) (R : Come p (fn t)) (i : Nat) : fn t i ≤ 8 := by
  by_cases h : i < p.wish.length
  · have e := List.getElem?_eq_getElem h
    exact Nat.le_trans (R.le i _ e) (P.w e).len
  · rw [fn_out (by omega)]
    omega
theorem rounds_end {p : Plan} (P : PG p) : ∀ (n : Nat) (t : List Nat), t.length = p.wish.length → Come p (fn t) → 8 * p.wish.length < n + t.sum → (p.rounds n t).length = p.wish.length ∧ Come p (fn (p.rounds n t)) ∧ p.round (p.rounds n t) = p.rounds n t
  | 0, t, hl, R, hn => by
    have := sum_le8 (come_8 P hl R)
    rw [hl] at this
    omega
  | n + 1, t, hl, R, hn => by
    unfold Plan.rounds
    show (if p.round t = t then t else p.rounds n (p.round t)).length = _ ∧ Come p (fn (if p.round t = t then t else p.rounds n (p.round t))) ∧ p.round (if p.round t = t then t else p.rounds n (p.round t)) = (if p.round t = t then t else p.rounds n (p.round t))
    by_cases e : p.round t = t
    · rw [if_pos e]
      exact ⟨hl, R, e⟩
    · rw [if_neg e]
      refine rounds_end P n (p.round t) (round_len hl) (come_round P hl R) ?_
      have : t.sum < (p.round t).sum := sum_lt (by rw [round_len hl, hl]) (fun i => ?_) fun z => e z.symm
      · omega
      · by_cases h : i < p.wish.length
        · rcases round_cases hl (List.getElem?_eq_getElem h) with e | ⟨_, _, e, _⟩ <;> omega
        · rw [fn_out (by omega)]
          omega
theorem fn_map0 {α : Type} (l : List α) (i : Nat) : fn (l.map (fun _ => 0)) i = 0 := by
  unfold fn
  rw [List.getD_eq_getElem?_getD, List.getElem?_map]
  cases l[i]? <;> rfl
/-- THE RESULT of the rounds: closed, and no other closed one is less -/
theorem rounds_least {p : Plan} (P : PG p) : ∃ t : List Nat, p.rounds (COUNT * WISHES + 1) (p.wish.map (fun _ => 0)) = t ∧ t.length = p.wish.length ∧ Closed p (fn t) ∧ ∀ u, Closed p u → ∀ i w, p.wish[i]? = some w → fn t i ≤ u i := by
  have e0 : fn (p.wish.map (fun _ => 0)) = fun _ => 0 := funext (fn_map0 p.wish)
  obtain ⟨h1, h2, h3⟩ := rounds_end P (COUNT * WISHES + 1) (p.wish.map (fun _ => 0)) (by rw [List.length_map]) (by rw [e0]; exact come_zero p) (by have := P.nw; simp only [COUNT, WISHES]; omega)
  exact ⟨_, rfl, h1, closed_fix P h1 h2 h3, h2.low⟩
/-- whoever else comes to a closed one that no other is less than has the same places -/
theorem places_of {p : Plan} (P : PG p) {u : Nat → Nat} (hc : Closed p u) (hlow : ∀ v, Closed p v → ∀ i w, p.wish[i]? = some w → u i ≤ v i) {q : List Nat} (hq : q.length = p.wish.length)
    (h : ∀ i w, p.wish[i]? = some w → q[i]? = some (((w.wishes[u i]?).map (fun y => y.1)).getD NONE)) : p.places = q := by
  obtain ⟨t, e, hl, ht, hm⟩ := rounds_least P
  unfold Plan.places
  rw [e]
  refine List.ext_getElem? fun i => ?_
  by_cases hi : i < p.wish.length
  · have hw := List.getElem?_eq_getElem hi
    rw [List.getElem?_map, zip_at hw (fn_at (by rw [hl]; exact hi)), h i _ hw]
    have e : fn t i = u i := Nat.le_antisymm (hm u hc i _ hw) (hlow _ ht i _ hw)
    show some ((((p.wish[i]).wishes[fn t i]?).map (fun y => y.1)).getD NONE) = _
    rw [e]
  · rw [List.getElem?_eq_none (by rw [List.length_map, List.length_zip]; omega), List.getElem?_eq_none (by omega)]
end BP
set_option linter.all false
namespace BP
open Ks165 Ks166

structure Ap where
  row : Nat
  number : Nat
  groups : Nat
  score : Nat
deriving DecidableEq
def Ap.child (a : Ap) : Child := ⟨a.number, a.score, a.groups, true⟩
def apOf (i : Nat) (w : Wish) (x : Nat × Nat) : Ap := ⟨i, w.number, w.groups, x.2⟩
theorem find_at : ∀ {l : List (Nat × Nat)} {j : Nat} {x : Nat × Nat}, (l.map (fun y => y.1)).Nodup → l[j]? = some x → l.find? (fun y => y.1 == x.1) = some x
  | [], j, x, _, h => by simp at h
  | a :: l, 0, x, hn, h => by
    have e : a = x := Option.some.inj h
    subst e
    rw [List.find?_cons_of_pos (by simp)]
  | a :: l, j + 1, x, hn, h => by
    have hn : (a.1 :: l.map (fun y => y.1)).Nodup := hn
    obtain ⟨h1, h2⟩ := List.nodup_cons.mp hn
    have h : l[j]? = some x := h
    have hne : a.1 ≠ x.1 := fun e => h1 (List.mem_map.mpr ⟨x, List.mem_of_getElem? h, e.symm⟩)
    rw [List.find?_cons_of_neg (by simpa using hne)]
    exact find_at h2 h
theorem childAt_eq {n : Nat} {w : Wish} (W : WG n w) {j : Nat} {x : Nat × Nat} (h : w.wishes[j]? = some x) (i : Nat) : w.childAt x.1 = (apOf i w x).child := by
  have hf : w.wishes.find? (fun y => y.1 == x.1) = some x := find_at W.nd h
  unfold Wish.childAt apOf Ap.child
  rw [hf]
  rfl

def HeldAt (kept : List (List Ap)) (s i : Nat) : Prop := ∃ l a, kept[s]? = some l ∧ a ∈ l ∧ a.row = i
structure Held (p : Plan) (kept : List (List Ap)) (asked waiting : List Nat) : Prop where
  klen : kept.length = p.schools.length
  alen : asked.length = p.wish.length
  wnd : waiting.Nodup
  wlt : ∀ i ∈ waiting, i < p.wish.length
  ale : ∀ i w, p.wish[i]? = some w → fn asked i ≤ w.wishes.length
  at_ : ∀ (s : Nat) (l : List Ap) (a : Ap), kept[s]? = some l → a ∈ l → ∃ w j x, p.wish[a.row]? = some w ∧ fn asked a.row = j + 1 ∧ w.wishes[j]? = some x ∧ x.1 = s ∧ a = apOf a.row w x ∧ ¬ a.row ∈ waiting
  knd : ∀ (s : Nat) (l : List Ap), kept[s]? = some l → (l.map Ap.row).Nodup
  few : ∀ (s : Nat) (l : List Ap), kept[s]? = some l → l.length ≤ (p.school s).seats
  all : ∀ i w, p.wish[i]? = some w → i ∈ waiting ∨ (∃ s, HeldAt kept s i) ∨ fn asked i = w.wishes.length
  rej : ∀ i w j x, p.wish[i]? = some w → w.wishes[j]? = some x → j < fn asked i → ¬ HeldAt kept x.1 i → ¬ w.childAt x.1 ∈ T p x.1 (cum p (fn asked) x.1)
  low1 : ∀ u, Closed p u → ∀ i w, p.wish[i]? = some w → fn asked i ≤ u i + 1
  low2 : ∀ u, Closed p u → ∀ i w, p.wish[i]? = some w → (¬ ∃ s, HeldAt kept s i) → fn asked i ≤ u i

theorem held_start {p : Plan} {kept : List (List Ap)} {asked waiting : List Nat} (hk : kept = p.schools.map (fun _ => [])) (ha : asked = p.wish.map (fun _ => 0)) (hw : waiting = List.range p.wish.length) : Held p kept asked waiting := by
  subst hk; subst ha; subst hw
  have hn : ∀ s l, (p.schools.map (fun _ => ([] : List Ap)))[s]? = some l → l = [] := fun s l e => by
    rw [List.getElem?_map] at e
    cases q : p.schools[s]? with
    | none => rw [q] at e; cases e
    | some y => rw [q] at e; exact (Option.some.inj e).symm
  refine ⟨by rw [List.length_map], by rw [List.length_map], List.nodup_range, fun i hi => List.mem_range.mp hi, fun i w h => by rw [fn_map0]; exact Nat.zero_le _, ?_, ?_, ?_, ?_, ?_, ?_, ?_⟩
  · intro s l a e ha
    rw [hn s l e] at ha
    simp at ha
  · intro s l e
    rw [hn s l e]
    simp
  · intro s l e
    rw [hn s l e]
    simp
  · intro i w h
    exact .inl (List.mem_range.mpr (ix_lt h))
  · intro i w j x h hx hj
    rw [fn_map0] at hj
    omega
  · intro u hu i w h
    rw [fn_map0]
    omega
  · intro u hu i w h _
    rw [fn_map0]
    omega
theorem mem_dropLast_append {ws : List Nat} {i k : Nat} : k ∈ ws ++ [i] ↔ k ∈ ws ∨ k = i := by simp
/-- a child without a further wish stops waiting -/
theorem held_done {p : Plan} {kept : List (List Ap)} {asked ws : List Nat} {i : Nat} {w : Wish} (H : Held p kept asked (ws ++ [i])) (h : p.wish[i]? = some w) (e : w.wishes[fn asked i]? = none) : Held p kept asked ws := by
  have hsub : ∀ k, k ∈ ws → k ∈ ws ++ [i] := fun k hk => List.mem_append_left _ hk
  refine ⟨H.klen, H.alen, (List.nodup_append.mp H.wnd).1, fun k hk => H.wlt k (hsub k hk), H.ale, ?_, H.knd, H.few, ?_, H.rej, H.low1, H.low2⟩
  · intro s l a e1 e2
    obtain ⟨v, j, x, h1, h2, h3, h4, h5, h6⟩ := H.at_ s l a e1 e2
    exact ⟨v, j, x, h1, h2, h3, h4, h5, fun z => h6 (hsub _ z)⟩
  · intro k v hk
    rcases H.all k v hk with h1 | h1
    · rcases mem_dropLast_append.mp h1 with h1 | h1
      · exact .inl h1
      · subst h1
        rw [h] at hk
        cases hk
        right; right
        have := H.ale k w h
        have h2 := List.getElem?_eq_none_iff.mp e
        omega
    · exact .inr h1
theorem fn_set {t : List Nat} {i k v : Nat} (hi : i < t.length) : fn (t.set i v) k = if k = i then v else fn t k := by
  unfold fn
  rw [List.getD_eq_getElem?_getD, List.getD_eq_getElem?_getD]
  by_cases e : k = i
  · subst e
    rw [List.getElem?_set_self hi, if_pos rfl]
    rfl
  · rw [List.getElem?_set_ne (fun z => e z.symm), if_neg e]

theorem nd_inj : ∀ {l : List Ap}, (l.map Ap.row).Nodup → ∀ {a b : Ap}, a ∈ l → b ∈ l → a.row = b.row → a = b
  | [], _, _, _, h, _, _ => by simp at h
  | x :: l, h, a, b, ha, hb, e => by
    have h : (x.row :: l.map Ap.row).Nodup := h
    obtain ⟨h1, h2⟩ := List.nodup_cons.mp h
    rcases List.mem_cons.mp ha with ha' | ha'
    · rcases List.mem_cons.mp hb with hb' | hb'
      · rw [ha', hb']
      · exact absurd (List.mem_map.mpr ⟨b, hb', by rw [← e, ha']⟩) h1
    · rcases List.mem_cons.mp hb with hb' | hb'
      · exact absurd (List.mem_map.mpr ⟨a, ha', by rw [e, hb']⟩) h1
      · exact nd_inj h2 ha' hb' e
/-- applicants of the plan: their children differ -/
theorem dist_aps {p : Plan} (P : PG p) : ∀ {l : List Ap}, (l.map Ap.row).Nodup → (∀ a ∈ l, ∃ w, p.wish[a.row]? = some w ∧ a.number = w.number) → Dist (l.map Ap.child)
  | [], _, _ => by simp [Dist]
  | a :: l, h, hw => by
    have h : (a.row :: l.map Ap.row).Nodup := h
    obtain ⟨h1, h2⟩ := List.nodup_cons.mp h
    have ih := dist_aps P h2 fun b hb => hw b (List.mem_cons_of_mem _ hb)
    show (a.number :: (l.map Ap.child).map (fun c => c.number)).Nodup
    refine List.nodup_cons.mpr ⟨fun m => ?_, ih⟩
    rw [List.map_map] at m
    obtain ⟨b, hb, e⟩ := List.mem_map.mp m
    have e : b.number = a.number := e
    obtain ⟨w, q1, q2⟩ := hw a List.mem_cons_self
    obtain ⟨v, q3, q4⟩ := hw b (List.mem_cons_of_mem _ hb)
    have := P.inj q3 q1 (by rw [← q4, ← q2, e])
    exact h1 (List.mem_map.mpr ⟨b, hb, this⟩)

section
variable {p : Plan} {kept : List (List Ap)} {asked ws : List Nat} {i : Nat} {w : Wish} {x : Nat × Nat} {l line : List Ap}
/-- those of whom the school chooses, when child i asks it -/
theorem ask_rows (H : Held p kept asked (ws ++ [i])) (hl : kept[x.1]? = some l) : ((l ++ [apOf i w x]).map Ap.row).Nodup := by
  rw [List.map_append]
  refine List.nodup_append.mpr ⟨H.knd _ _ hl, by simp, fun a ha b hb => ?_⟩
  obtain ⟨c, hc, rfl⟩ := List.mem_map.mp ha
  have hb : b = i := by simpa [apOf] using hb
  subst hb
  obtain ⟨v, j, y, _, _, _, _, _, h6⟩ := H.at_ _ _ c hl hc
  exact fun z => h6 (by rw [z]; simp)
theorem ask_in (H : Held p kept asked (ws ++ [i])) (h : p.wish[i]? = some w) (hl : kept[x.1]? = some l) : ∀ a ∈ l ++ [apOf i w x], ∃ v, p.wish[a.row]? = some v ∧ a.number = v.number := fun a ha => by
  rcases List.mem_append.mp ha with ha | ha
  · obtain ⟨v, j, y, h1, _, _, _, h5, _⟩ := H.at_ _ _ a hl ha
    exact ⟨v, h1, by rw [h5]; rfl⟩
  · have : a = apOf i w x := by simpa using ha
    subst this
    exact ⟨w, h, rfl⟩
theorem ask_dist (P : PG p) (H : Held p kept asked (ws ++ [i])) (h : p.wish[i]? = some w) (hl : kept[x.1]? = some l) : Dist ((l ++ [apOf i w x]).map Ap.child) :=
  dist_aps P (ask_rows H hl) (ask_in H h hl)
/-- a child asks its next wish -/
theorem held_ask (P : PG p) (H : Held p kept asked (ws ++ [i])) (h : p.wish[i]? = some w) (hx : w.wishes[fn asked i]? = some x) (hl : kept[x.1]? = some l)
    (hp : line.Perm (l ++ [apOf i w x])) (ht : (line.take (p.school x.1).seats).map Ap.child = T p x.1 ((l ++ [apOf i w x]).map Ap.child)) :
    Held p (kept.set x.1 (line.take (p.school x.1).seats)) (asked.set i (fn asked i + 1)) (ws ++ (line.drop (p.school x.1).seats).map Ap.row) := by
  have hi : i < asked.length := by rw [H.alen]; exact ix_lt h
  have hk : x.1 < kept.length := ix_lt hl
  have hrn := ask_rows (w := w) H hl
  have hdl := ask_dist (x := x) P H h hl
  have hfn : ∀ k, fn (asked.set i (fn asked i + 1)) k = if k = i then fn asked i + 1 else fn asked k := fun k => fn_set hi
  have hni : ¬ i ∈ ws := fun z => (List.nodup_append.mp H.wnd).2.2 i z i (by simp) rfl
  have up : ∀ k v, p.wish[k]? = some v → fn asked k ≤ fn (asked.set i (fn asked i + 1)) k := fun k v _ => by
    rw [hfn]
    split
    · rename_i e; rw [e]; omega
    · omega
  have lrn : (line.map Ap.row).Nodup := (hp.map Ap.row).nodup_iff.mpr hrn
  have split_line : line.take (p.school x.1).seats ++ line.drop (p.school x.1).seats = line := List.take_append_drop _ _
  have lrn2 := lrn
  rw [← split_line, List.map_append] at lrn2
  obtain ⟨ltn, ldn, ldis⟩ := List.nodup_append.mp lrn2
  have in_line : ∀ a, a ∈ line ↔ a ∈ l ∨ a = apOf i w x := fun a => by
    rw [hp.mem_iff]
    simp
  -- those of l, by their rows
  have lat : ∀ a ∈ l, ∃ v j y, p.wish[a.row]? = some v ∧ fn asked a.row = j + 1 ∧ v.wishes[j]? = some y ∧ y.1 = x.1 ∧ a = apOf a.row v y ∧ ¬ a.row ∈ ws ++ [i] := fun a ha => H.at_ _ _ a hl ha
  have lne : ∀ a ∈ l, a.row ≠ i := fun a ha => by
    obtain ⟨_, _, _, _, _, _, _, _, h6⟩ := lat a ha
    exact fun z => h6 (by rw [z]; simp)
  -- a child of the line that isn't taken isn't kept
  have taken : ∀ a ∈ line, a.child ∈ T p x.1 ((l ++ [apOf i w x]).map Ap.child) → a ∈ line.take (p.school x.1).seats := fun a ha hc => by
    rw [← ht] at hc
    obtain ⟨b, hb, e⟩ := List.mem_map.mp hc
    have hbl : b ∈ line := List.mem_of_mem_take hb
    have : b.number = a.number := congrArg Child.number e
    obtain ⟨v, q1, q2⟩ := ask_in H h hl b (hp.mem_iff.mp hbl)
    obtain ⟨v', q3, q4⟩ := ask_in H h hl a (hp.mem_iff.mp ha)
    have er := P.inj q1 q3 (by rw [← q2, ← q4, this])
    rw [← nd_inj lrn hbl ha er]
    exact hb
  have mem_new : ∀ s k, HeldAt (kept.set x.1 (line.take (p.school x.1).seats)) s k ↔ (s ≠ x.1 ∧ HeldAt kept s k) ∨ (s = x.1 ∧ ∃ a ∈ line.take (p.school x.1).seats, a.row = k) := fun s k => by
    unfold HeldAt
    by_cases e : s = x.1
    · subst e
      rw [List.getElem?_set_self hk]
      constructor
      · rintro ⟨m, a, e1, e2, e3⟩
        cases e1
        exact .inr ⟨rfl, a, e2, e3⟩
      · rintro (⟨q, _⟩ | ⟨_, a, e2, e3⟩)
        · exact absurd rfl q
        · exact ⟨_, a, rfl, e2, e3⟩
    · rw [List.getElem?_set_ne (fun z => e z.symm)]
      constructor
      · rintro h
        exact .inl ⟨e, h⟩
      · rintro (⟨_, h⟩ | ⟨q, _⟩)
        · exact h
        · exact absurd q e
  -- all of the line have asked the school
  have line_cum : ∀ (b : Nat → Nat), (∀ a ∈ l, fn asked a.row ≤ b a.row) → fn asked i < b i → ∀ c ∈ (l ++ [apOf i w x]).map Ap.child, c ∈ cum p b x.1 := fun b hb1 hb2 c hc => by
    obtain ⟨a, ha, rfl⟩ := List.mem_map.mp hc
    rcases List.mem_append.mp ha with ha | ha
    · obtain ⟨v, j, y, h1, h2, h3, h4, h5, h6⟩ := lat a ha
      have e := childAt_eq (P.w h1) h3 a.row
      rw [← h5] at e
      rw [← e, h4]
      rw [← h4]
      exact cum_get P h1 h3 (by have := hb1 a ha; omega)
    · have : a = apOf i w x := by simpa using ha
      subst this
      rw [← childAt_eq (P.w h) hx i]
      exact cum_get P h hx hb2
  refine ⟨by rw [List.length_set]; exact H.klen, by rw [List.length_set]; exact H.alen, ?wnd, ?wlt, ?ale, ?at_, ?knd, ?few, ?all, ?rej, ?low1, ?low2⟩
  case wnd =>
    refine List.nodup_append.mpr ⟨(List.nodup_append.mp H.wnd).1, ldn, fun a ha b hb => ?_⟩
    obtain ⟨c, hc, rfl⟩ := List.mem_map.mp hb
    rcases (in_line c).mp (List.mem_of_mem_drop hc) with hcl | hcl
    · obtain ⟨_, _, _, _, _, _, _, _, h6⟩ := lat c hcl
      exact fun z => h6 (by rw [← z]; exact List.mem_append_left _ ha)
    · rw [hcl]
      exact fun z => hni (by have z : a = i := z; rw [← z]; exact ha)
  case wlt =>
    intro k hkm
    rcases List.mem_append.mp hkm with hkm | hkm
    · exact H.wlt k (List.mem_append_left _ hkm)
    · obtain ⟨c, hc, rfl⟩ := List.mem_map.mp hkm
      obtain ⟨v, q, _⟩ := ask_in H h hl c (hp.mem_iff.mp (List.mem_of_mem_drop hc))
      exact ix_lt q
  case ale =>
    intro k v hkv
    rw [hfn]
    split
    · rename_i e
      subst e
      rw [h] at hkv
      cases hkv
      exact ix_lt hx
    · exact H.ale k v hkv
  case at_ =>
    intro s m a hm ha
    have hkept : (s = x.1 ∧ m = line.take (p.school x.1).seats) ∨ (s ≠ x.1 ∧ kept[s]? = some m) := by
      by_cases e : s = x.1
      · subst e
        rw [List.getElem?_set_self hk] at hm
        exact .inl ⟨rfl, (Option.some.inj hm).symm⟩
      · rw [List.getElem?_set_ne (fun z => e z.symm)] at hm
        exact .inr ⟨e, hm⟩
    have notdrop : ∀ b ∈ line.take (p.school x.1).seats, ¬ b.row ∈ (line.drop (p.school x.1).seats).map Ap.row := fun b hb z =>
      ldis b.row (List.mem_map.mpr ⟨b, hb, rfl⟩) b.row z rfl
    rcases hkept with ⟨rfl, rfl⟩ | ⟨hs, hm⟩
    · rcases (in_line a).mp (List.mem_of_mem_take ha) with hal | hal
      · obtain ⟨v, j, y, h1, h2, h3, h4, h5, h6⟩ := lat a hal
        refine ⟨v, j, y, h1, ?_, h3, h4, h5, fun z => ?_⟩
        · rw [hfn, if_neg (lne a hal)]
          exact h2
        · rcases List.mem_append.mp z with z | z
          · exact h6 (List.mem_append_left _ z)
          · exact notdrop a ha z
      · subst hal
        refine ⟨w, fn asked i, x, h, ?_, hx, rfl, rfl, fun z => ?_⟩
        · show fn (asked.set i (fn asked i + 1)) i = _
          rw [hfn, if_pos rfl]
        · rcases List.mem_append.mp z with z | z
          · exact hni z
          · exact notdrop _ ha z
    · obtain ⟨v, j, y, h1, h2, h3, h4, h5, h6⟩ := H.at_ s m a hm ha
      have hai : a.row ≠ i := fun z => h6 (by rw [z]; simp)
      refine ⟨v, j, y, h1, ?_, h3, h4, h5, fun z => ?_⟩
      · rw [hfn, if_neg hai]
        exact h2
      · rcases List.mem_append.mp z with z | z
        · exact h6 (List.mem_append_left _ z)
        · obtain ⟨c, hc, ec⟩ := List.mem_map.mp z
          rcases (in_line c).mp (List.mem_of_mem_drop hc) with hcl | hcl
          · obtain ⟨v', j', y', q1, q2, q3, q4, q5, q6⟩ := lat c hcl
            rw [ec, h1] at q1
            cases q1
            rw [ec, h2] at q2
            have ej : j' = j := by omega
            subst ej
            rw [h3] at q3
            cases q3
            exact hs (h4.symm.trans q4)
          · rw [hcl] at ec
            exact hai ec.symm
  case knd =>
    intro s m hm
    by_cases e : s = x.1
    · subst e
      rw [List.getElem?_set_self hk] at hm
      cases hm
      exact ltn
    · rw [List.getElem?_set_ne (fun z => e z.symm)] at hm
      exact H.knd s m hm
  case few =>
    intro s m hm
    by_cases e : s = x.1
    · subst e
      rw [List.getElem?_set_self hk] at hm
      cases hm
      rw [List.length_take]
      omega
    · rw [List.getElem?_set_ne (fun z => e z.symm)] at hm
      exact H.few s m hm
  case all =>
    intro k v hkv
    have inline : ∀ a ∈ line, a.row = k → k ∈ ws ++ (line.drop (p.school x.1).seats).map Ap.row ∨ ∃ s, HeldAt (kept.set x.1 (line.take (p.school x.1).seats)) s k := fun a ha e => by
      rw [← split_line] at ha
      rcases List.mem_append.mp ha with ha | ha
      · exact .inr ⟨x.1, (mem_new _ _).mpr (.inr ⟨rfl, a, ha, e⟩)⟩
      · exact .inl (List.mem_append_right _ (List.mem_map.mpr ⟨a, ha, e⟩))
    by_cases eki : k = i
    · subst eki
      rcases inline (apOf k w x) ((in_line _).mpr (.inr rfl)) rfl with q | q
      · exact .inl q
      · exact .inr (.inl q)
    · rcases H.all k v hkv with q | ⟨s, q⟩ | q
      · rcases mem_dropLast_append.mp q with q | q
        · exact .inl (List.mem_append_left _ q)
        · exact absurd q eki
      · by_cases e : s = x.1
        · subst e
          obtain ⟨m, a, e1, e2, e3⟩ := q
          rw [hl] at e1
          cases e1
          rcases inline a ((in_line _).mpr (.inl e2)) e3 with q | q
          · exact .inl q
          · exact .inr (.inl q)
        · exact .inr (.inl ⟨s, (mem_new _ _).mpr (.inl ⟨e, q⟩)⟩)
      · right; right
        rw [hfn, if_neg eki]
        exact q
  case rej =>
    intro k v j y hkv hy hj hnot hin
    have old : fn asked k > j → ¬ HeldAt kept y.1 k → False := fun hj' hn =>
      H.rej k v j y hkv hy hj' hn (takes_sub (P.cum _ _) (P.cum _ _) (cum_mono up) (cum_get P hkv hy hj') hin)
    by_cases ey : y.1 = x.1
    · -- the school that was asked
      by_cases hkl : ∃ a ∈ line, a.row = k
      · obtain ⟨a, ha, rfl⟩ := hkl
        have hnt : ¬ a ∈ line.take (p.school x.1).seats := fun z => hnot ((mem_new _ _).mpr (.inr ⟨ey, a, z, rfl⟩))
        have hca : v.childAt y.1 = a.child := by
          rcases (in_line a).mp ha with hal | hal
          · obtain ⟨v', j', y', q1, q2, q3, q4, q5, q6⟩ := lat a hal
            rw [hkv] at q1
            cases q1
            rw [ey, ← q4]
            have := childAt_eq (P.w hkv) q3 a.row
            rw [← q5] at this
            exact this
          · subst hal
            have hkv : p.wish[i]? = some v := hkv
            rw [h] at hkv
            cases hkv
            rw [ey]
            exact childAt_eq (P.w h) hx i
        refine hnt (taken a ha ?_)
        rw [← hca]
        rw [ey] at hin ⊢
        refine takes_sub hdl (P.cum _ _) (line_cum _ (fun b hb => ?_) ?_) ?_ hin
        · rw [hfn, if_neg (lne b hb)]
          exact Nat.le_refl _
        · rw [hfn, if_pos rfl]
          omega
        · rw [← ey, hca]
          exact List.mem_map.mpr ⟨a, hp.mem_iff.mp ha, rfl⟩
      · have eki : k ≠ i := fun z => hkl ⟨apOf i w x, (in_line _).mpr (.inr rfl), z.symm⟩
        rw [hfn, if_neg eki] at hj
        refine old hj fun ⟨m, a, e1, e2, e3⟩ => ?_
        rw [ey, hl] at e1
        cases e1
        exact hkl ⟨a, (in_line _).mpr (.inl e2), e3⟩
    · have hj' : j < fn asked k := by
        rw [hfn] at hj
        split at hj
        · rename_i e
          subst e
          rw [h] at hkv
          cases hkv
          rcases Nat.lt_or_ge j (fn asked k) with q | q
          · exact q
          · have ej : j = fn asked k := by omega
            rw [ej, hx] at hy
            cases hy
            exact absurd rfl ey
        · exact hj
      exact old hj' fun q => hnot ((mem_new _ _).mpr (.inl ⟨ey, q⟩))
  case low1 =>
    intro u hu k v hkv
    rw [hfn]
    split
    · rename_i e
      subst e
      have hnh : ¬ ∃ s, HeldAt kept s k := fun ⟨s, m, a, e1, e2, e3⟩ => by
        obtain ⟨_, _, _, _, _, _, _, _, h6⟩ := H.at_ s m a e1 e2
        exact h6 (by rw [e3]; simp)
      have := H.low2 u hu k v hkv hnh
      omega
    · exact H.low1 u hu k v hkv
  case low2 =>
    intro u hu k v hkv hnot
    -- whoever was turned down now
    have key : ∀ a ∈ line, a.row = k → ∀ j y, v.wishes[j]? = some y → y.1 = x.1 → u k = j → v.childAt y.1 = a.child → False := fun a ha er j y hy ey eu hca => by
      have hnt : ¬ a ∈ line.take (p.school x.1).seats := fun z => hnot ⟨x.1, (mem_new _ _).mpr (.inr ⟨rfl, a, z, er⟩)⟩
      have hy' : v.wishes[u k]? = some y := by rw [eu]; exact hy
      have hin := hu k v y hkv hy'
      refine hnt (taken a ha ?_)
      rw [← hca]
      rw [ey] at hin ⊢
      refine takes_sub hdl (P.cum _ _) (line_cum _ (fun b hb => ?_) ?_) ?_ hin
      · obtain ⟨v', _, _, q1, _⟩ := lat b hb
        exact H.low1 u hu b.row v' q1
      · have hnh : ¬ ∃ s, HeldAt kept s i := fun ⟨s, m, a, e1, e2, e3⟩ => by
          obtain ⟨_, _, _, _, _, _, _, _, h6⟩ := H.at_ s m a e1 e2
          exact h6 (by rw [e3]; simp)
        have := H.low2 u hu i w h hnh
        omega
      · rw [← ey, hca]
        exact List.mem_map.mpr ⟨a, hp.mem_iff.mp ha, rfl⟩
    rw [hfn]
    split
    · rename_i e
      subst e
      rw [h] at hkv
      cases hkv
      have hnh : ¬ ∃ s, HeldAt kept s k := fun ⟨s, m, a, e1, e2, e3⟩ => by
        obtain ⟨_, _, _, _, _, _, _, _, h6⟩ := H.at_ s m a e1 e2
        exact h6 (by rw [e3]; simp)
      have h0 := H.low2 u hu k w h hnh
      rcases Nat.lt_or_ge (fn asked k) (u k) with q | q
      · omega
      · exact (key (apOf k w x) ((in_line _).mpr (.inr rfl)) rfl (fn asked k) x hx rfl (by omega) (childAt_eq (P.w h) hx k)).elim
    · rename_i eki
      by_cases hh : ∃ s, HeldAt kept s k
      · obtain ⟨s, m, a, e1, e2, e3⟩ := hh
        by_cases es : s = x.1
        · subst es
          rw [hl] at e1
          cases e1
          obtain ⟨v', j', y', q1, q2, q3, q4, q5, q6⟩ := lat a e2
          rw [e3, hkv] at q1
          cases q1
          rw [e3] at q2
          have h0 := H.low1 u hu k v hkv
          rcases Nat.lt_or_ge j' (u k) with q | q
          · omega
          · have hca := childAt_eq (P.w hkv) q3 a.row
            rw [← q5] at hca
            exact (key a ((in_line _).mpr (.inl e2)) e3 j' y' q3 q4 (by omega) hca).elim
        · exact absurd ⟨s, (mem_new _ _).mpr (.inl ⟨es, m, a, e1, e2, e3⟩)⟩ hnot
      · exact H.low2 u hu k v hkv hh
end
theorem sum_set_nat : ∀ {t : List Nat} {i : Nat} {v : Nat}, i < t.length → (t.set i v).sum + fn t i = t.sum + v
  | [], i, v, h => by simp at h
  | a :: t, 0, v, h => by
    show (v :: t).sum + a = (a :: t).sum + v
    rw [List.sum_cons, List.sum_cons]
    omega
  | a :: t, i + 1, v, h => by
    have ih := sum_set_nat (t := t) (i := i) (v := v) (by simpa using h)
    show (a :: t.set i v).sum + fn t i = (a :: t).sum + v
    rw [List.sum_cons, List.sum_cons]
    omega
theorem Held.sum8 {p : Plan} (P : PG p) {kept : List (List Ap)} {asked waiting : List Nat} (H : Held p kept asked waiting) : asked.sum ≤ 8 * p.wish.length := by
  rw [← H.alen]
  refine sum_le8 fun i => ?_
  by_cases h : i < p.wish.length
  · have e := List.getElem?_eq_getElem h
    exact Nat.le_trans (H.ale i _ e) (P.w e).len
  · rw [fn_out (by rw [H.alen]; omega)]
    omega
def left (p : Plan) (asked waiting : List Nat) : Nat := (8 * p.wish.length - asked.sum) + waiting.length
theorem left_done {p : Plan} {asked ws : List Nat} {i : Nat} : left p asked ws < left p asked (ws ++ [i]) := by
  unfold left
  rw [List.length_append]
  show _ < _ + (_ + 1)
  omega
theorem left_ask {p : Plan} (P : PG p) {kept : List (List Ap)} {asked ws : List Nat} {i : Nat} {w : Wish} {x : Nat × Nat} {l line : List Ap} (H : Held p kept asked (ws ++ [i])) (h : p.wish[i]? = some w) (hl : kept[x.1]? = some l)
    (hp : line.Perm (l ++ [apOf i w x])) (H' : Held p (kept.set x.1 (line.take (p.school x.1).seats)) (asked.set i (fn asked i + 1)) (ws ++ (line.drop (p.school x.1).seats).map Ap.row)) :
    left p (asked.set i (fn asked i + 1)) (ws ++ (line.drop (p.school x.1).seats).map Ap.row) < left p asked (ws ++ [i]) := by
  have h1 := H'.sum8 P
  have h2 := sum_set_nat (t := asked) (i := i) (v := fn asked i + 1) (by rw [H.alen]; exact ix_lt h)
  have h3 := H.few _ _ hl
  have h4 := hp.length_eq
  rw [List.length_append] at h4
  have h4 : line.length = l.length + 1 := h4
  unfold left
  rw [List.length_append, List.length_append, List.length_map, List.length_drop]
  show _ < _ + (_ + 1)
  omega
theorem filter_same {α : Type} {f g : α → Bool} : ∀ {l : List α}, (∀ a ∈ l, f a = g a) → l.filter f = l.filter g := fun h => List.filter_congr h
/-- nobody waits any more: the places -/
theorem held_end {p : Plan} (P : PG p) {kept : List (List Ap)} {asked : List Nat} (H : Held p kept asked []) {q : List Nat} (hq : q.length = p.wish.length)
    (h1 : ∀ (s : Nat) (l : List Ap) (a : Ap), kept[s]? = some l → a ∈ l → q[a.row]? = some s) (h2 : ∀ i, i < p.wish.length → (¬ ∃ s, HeldAt kept s i) → q[i]? = some NONE) : p.places = q := by
  -- how many wishes each child has been turned down at
  have exu : ∃ u : Nat → Nat, (∀ i, (∃ s, HeldAt kept s i) → u i = fn asked i - 1) ∧ ∀ i, (¬ ∃ s, HeldAt kept s i) → u i = fn asked i := by
    refine ⟨fun i => if (kept.any fun l => l.any fun a => a.row == i) then fn asked i - 1 else fn asked i, fun i ⟨s, l, a, e1, e2, e3⟩ => ?_, fun i hn => ?_⟩
    · show (if _ then _ else _) = _
      rw [if_pos]
      exact List.any_eq_true.mpr ⟨l, List.mem_of_getElem? e1, List.any_eq_true.mpr ⟨a, e2, by simpa using e3⟩⟩
    · show (if _ then _ else _) = _
      rw [if_neg]
      intro z
      obtain ⟨l, hl, z⟩ := List.any_eq_true.mp z
      obtain ⟨a, ha, z⟩ := List.any_eq_true.mp z
      obtain ⟨s, hs⟩ := List.mem_iff_getElem?.mp hl
      exact hn ⟨s, l, a, hs, ha, by simpa using z⟩
  obtain ⟨u, hu1, hu2⟩ := exu
  have hheld : ∀ i, (∃ s, HeldAt kept s i) → ∃ s l a w j x, kept[s]? = some l ∧ a ∈ l ∧ a.row = i ∧ p.wish[i]? = some w ∧ fn asked i = j + 1 ∧ u i = j ∧ w.wishes[j]? = some x ∧ x.1 = s ∧ a = apOf i w x := fun i hh => by
    obtain ⟨s, l, a, e1, e2, e3⟩ := id hh
    obtain ⟨w, j, x, g1, g2, g3, g4, g5, _⟩ := H.at_ s l a e1 e2
    rw [e3] at g1 g2 g5
    exact ⟨s, l, a, w, j, x, e1, e2, e3, g1, g2, by rw [hu1 i hh, g2]; rfl, g3, g4, g5⟩
  have hcum : ∀ s, cum p (fun k => u k + 1) s = cum p (fn asked) s := fun s => by
    unfold cum
    rw [filter_same (g := fun x => decide (x.1.rank s < fn asked x.2) && decide (x.1.rank s < x.1.wishes.length))]
    rintro ⟨w, i⟩ hm
    have hw : p.wish[i]? = some w := List.mem_zipIdx_iff_getElem?.mp hm
    show (decide (w.rank s < u i + 1) && decide (w.rank s < w.wishes.length)) = (decide (w.rank s < fn asked i) && decide (w.rank s < w.wishes.length))
    by_cases hh : ∃ s, HeldAt kept s i
    · obtain ⟨_, _, _, _, j, _, _, _, _, _, g1, g2, _⟩ := hheld i hh
      rw [g2, g1]
    · rcases H.all i w hw with z | z | z
      · simp at z
      · exact absurd z hh
      · rw [hu2 i hh, z]
        by_cases hr : w.rank s < w.wishes.length
        · rw [decide_eq_true hr, decide_eq_true (show w.rank s < w.wishes.length + 1 by omega)]
        · rw [decide_eq_false hr, Bool.and_false, Bool.and_false]
  have hcl : Closed p u := by
    intro i w x hw hx
    rw [hcum]
    by_cases hh : ∃ s, HeldAt kept s i
    · obtain ⟨s, l, a, w', j, y, e1, e2, e3, g1, g2, g3, g4, g5, g6⟩ := hheld i hh
      rw [hw] at g1
      cases g1
      rw [g3, g4] at hx
      cases hx
      rw [childAt_eq (P.w hw) g4 i, ← g6]
      subst g5
      have hX : Dist (l.map Ap.child) := dist_aps P (H.knd _ _ e1) fun b hb => by
        obtain ⟨v, _, _, k1, _, _, _, k5, _⟩ := H.at_ _ _ b e1 hb
        exact ⟨v, k1, by rw [k5]; rfl⟩
      refine closed_at P hX (fun c hc => ?_) (fun c hc => ?_) (by rw [List.length_map]; exact H.few _ _ e1) _ (List.mem_map.mpr ⟨a, e2, rfl⟩)
      · obtain ⟨k, v, k1, k2, k3, rfl⟩ := mem_cum.mp (fill_mem hc)
        obtain ⟨z, hz, ez⟩ := of_rank k3
        by_cases hk : HeldAt kept z.1 k
        · obtain ⟨m, b, f1, f2, f3⟩ := hk
          rw [ez, e1] at f1
          cases f1
          obtain ⟨v', j', y', q1, q2, q3, q4, q5, _⟩ := H.at_ _ _ b e1 f2
          rw [f3, k1] at q1
          cases q1
          have := childAt_eq (P.w k1) q3 b.row
          rw [← q5, q4] at this
          rw [this]
          exact List.mem_map.mpr ⟨b, f2, rfl⟩
        · exact absurd (by rw [ez]; exact hc) (H.rej k v _ z k1 hz k2 hk)
      · obtain ⟨b, hb, rfl⟩ := List.mem_map.mp hc
        obtain ⟨v', j', y', q1, q2, q3, q4, q5, _⟩ := H.at_ _ _ b e1 hb
        have := childAt_eq (P.w q1) q3 b.row
        rw [← q5] at this
        rw [← this, ← q4]
        exact cum_get P q1 q3 (by omega)
    · rcases H.all i w hw with z | z | z
      · simp at z
      · exact absurd z hh
      · rw [hu2 i hh, z, List.getElem?_eq_none (Nat.le_refl _)] at hx
        cases hx
  refine places_of P hcl (fun v hv i w hw => ?_) hq fun i w hw => ?_
  · by_cases hh : ∃ s, HeldAt kept s i
    · have := H.low1 v hv i w hw
      rw [hu1 i hh]
      omega
    · rw [hu2 i hh]
      exact H.low2 v hv i w hw hh
  · by_cases hh : ∃ s, HeldAt kept s i
    · obtain ⟨s, l, a, w', j, y, e1, e2, e3, g1, g2, g3, g4, g5, g6⟩ := hheld i hh
      rw [hw] at g1
      cases g1
      rw [g3, g4, ← e3, h1 s l a e1 e2, ← g5]
      rfl
    · rcases H.all i w hw with z | z | z
      · simp at z
      · exact absurd z hh
      · rw [hu2 i hh, z, List.getElem?_eq_none (Nat.le_refl _), h2 i (ix_lt hw) hh]
        rfl
def putAll (s : Nat) (l : List Ap) (q : List Nat) : List Nat := l.foldl (fun q a => q.set a.row s) q
def placeFrom (s : Nat) : List (List Ap) → List Nat → List Nat
  | [], q => q
  | l :: r, q => placeFrom (s + 1) r (putAll s l q)
theorem putAll_len (s : Nat) : ∀ (l : List Ap) (q : List Nat), (putAll s l q).length = q.length
  | [], q => rfl
  | a :: l, q => by
    show (putAll s l (q.set a.row s)).length = _
    rw [putAll_len s l, List.length_set]
theorem putAll_other (s : Nat) : ∀ {l : List Ap} {q : List Nat} {i : Nat}, (∀ a ∈ l, a.row ≠ i) → (putAll s l q)[i]? = q[i]?
  | [], q, i, _ => rfl
  | a :: l, q, i, h => by
    show (putAll s l (q.set a.row s))[i]? = _
    rw [putAll_other s fun b hb => h b (List.mem_cons_of_mem _ hb), List.getElem?_set_ne (h a List.mem_cons_self)]
theorem putAll_at (s : Nat) : ∀ {l : List Ap} {q : List Nat} {a : Ap}, a ∈ l → a.row < q.length → (putAll s l q)[a.row]? = some s
  | [], q, a, h, _ => by simp at h
  | b :: l, q, a, h, hl => by
    show (putAll s l (q.set b.row s))[a.row]? = _
    by_cases e : ∃ c ∈ l, c.row = a.row
    · obtain ⟨c, hc, ec⟩ := e
      rw [← ec]
      exact putAll_at s hc (by rw [List.length_set, ec]; exact hl)
    · have hn : ∀ c ∈ l, c.row ≠ a.row := fun c hc z => e ⟨c, hc, z⟩
      rw [putAll_other s hn]
      have hab : a = b := by
        rcases List.mem_cons.mp h with z | z
        · exact z
        · exact absurd rfl (hn a z)
      rw [hab] at hl ⊢
      rw [List.getElem?_set_self hl]
theorem placeFrom_len : ∀ (r : List (List Ap)) (s : Nat) (q : List Nat), (placeFrom s r q).length = q.length
  | [], s, q => rfl
  | l :: r, s, q => by
    unfold placeFrom
    rw [placeFrom_len r, putAll_len]
theorem placeFrom_other : ∀ {r : List (List Ap)} {s i : Nat} {q : List Nat}, (∀ l ∈ r, ∀ a ∈ l, a.row ≠ i) → (placeFrom s r q)[i]? = q[i]?
  | [], s, i, q, _ => rfl
  | l :: r, s, i, q, h => by
    unfold placeFrom
    rw [placeFrom_other fun m hm => h m (List.mem_cons_of_mem _ hm), putAll_other s (h l List.mem_cons_self)]
theorem placeFrom_at : ∀ {r : List (List Ap)} {s k : Nat} {q : List Nat} {l : List Ap} {a : Ap}, r[k]? = some l → a ∈ l → a.row < q.length → (∀ (j : Nat) (m : List Ap) (b : Ap), r[j]? = some m → b ∈ m → b.row = a.row → j = k) → (placeFrom s r q)[a.row]? = some (s + k)
  | [], s, k, q, l, a, h, _, _, _ => by simp at h
  | m :: r, s, 0, q, l, a, h, ha, hl, hu => by
    have e : m = l := Option.some.inj h
    subst e
    unfold placeFrom
    rw [placeFrom_other, putAll_at s ha hl]
    · rfl
    · intro n hn b hb z
      obtain ⟨j, hj⟩ := List.mem_iff_getElem?.mp hn
      have := hu (j + 1) n b hj hb z
      omega
  | m :: r, s, k + 1, q, l, a, h, ha, hl, hu => by
    unfold placeFrom
    rw [placeFrom_at (k := k) (l := l) h ha (by rw [putAll_len]; exact hl) (fun j n b h1 h2 h3 => by
      have := hu (j + 1) n b h1 h2 h3
      omega)]
    congr 1
    omega
theorem held_places {p : Plan} (P : PG p) {kept : List (List Ap)} {asked : List Nat} (H : Held p kept asked []) : p.places = placeFrom 0 kept (List.replicate p.wish.length NONE) := by
  refine held_end P H (by rw [placeFrom_len, List.length_replicate]) (fun s l a e1 e2 => ?_) fun i hi hn => ?_
  · obtain ⟨w, j, x, g1, g2, g3, g4, g5, _⟩ := H.at_ s l a e1 e2
    rw [placeFrom_at e1 e2 (by rw [List.length_replicate]; exact ix_lt g1), Nat.zero_add]
    intro j' m b f1 f2 f3
    obtain ⟨v', k', y', q1, q2, q3, q4, q5, _⟩ := H.at_ j' m b f1 f2
    rw [f3, g1] at q1
    cases q1
    rw [f3, g2] at q2
    have : k' = j := by omega
    subst this
    rw [g3] at q3
    cases q3
    rw [← g4, ← q4]
  · rw [placeFrom_other]
    · rw [List.getElem?_replicate, if_pos hi]
    · intro l hl a ha z
      obtain ⟨s, hs⟩ := List.mem_iff_getElem?.mp hl
      exact hn ⟨s, l, a, hs, ha, z⟩
/-- counts: the seats by group that are still to be given, from group k on -/
structure Line (counts : List Nat) (k : Nat) (order : List Nat) (aps seated waiting : List Ap) : Prop where
  perm : (seated ++ waiting).Perm aps
  fills : seated.map Ap.child ++ fillC (seatsFrom k counts) (waiting.map Ap.child) = fillC order (aps.map Ap.child)
theorem line_start {counts : List Nat} {aps : List Ap} : Line counts 0 (seatsFrom 0 counts) aps [] aps := ⟨List.Perm.refl _, rfl⟩
theorem line_turn {n : Nat} {counts : List Nat} {k : Nat} {order : List Nat} {aps seated waiting line : List Ap} (hd : Dist (aps.map Ap.child)) (L : Line (n :: counts) k order aps seated waiting)
    (hp : line.Perm waiting) (hs : line.Pairwise (fun a b => before k a.child b.child = true)) : Line counts (k + 1) order aps (seated ++ line.take n) (line.drop n) := by
  have hdw : Dist (waiting.map Ap.child) := (hd.perm (L.perm.map Ap.child).symm).sub (by rw [List.map_append]; exact List.sublist_append_right _ _)
  have hdl : Dist (line.map Ap.child) := hdw.perm (hp.map Ap.child).symm
  refine ⟨?_, ?_⟩
  · rw [List.append_assoc, List.take_append_drop]
    exact (List.Perm.append_left _ hp).trans L.perm
  · rw [← L.fills, seatsFrom_cons, ← fill_perm hdl (hp.map Ap.child), fill_sorted hdl (List.pairwise_map.mpr hs), List.map_append, List.map_take, List.map_drop, List.append_assoc]
theorem line_end {k : Nat} {s : School} {aps seated waiting : List Ap} (hg : s.good = true) (hd : Dist (aps.map Ap.child)) (L : Line [] k s.order aps seated waiting) :
    (seated ++ waiting).Perm aps ∧ ((seated ++ waiting).take s.seats).map Ap.child = s.takes (aps.map Ap.child) := by
  refine ⟨L.perm, ?_⟩
  have e : seated.map Ap.child = s.takes (aps.map Ap.child) := by
    have := L.fills
    rw [seatsFrom_nil, fillC_nil, List.append_nil] at this
    exact this
  have hl : seated.length = min s.seats aps.length := by
    have := congrArg List.length e
    rw [List.length_map, takes_length hg hd, List.length_map] at this
    exact this
  have hl2 := L.perm.length_eq
  rw [List.length_append] at hl2
  rw [← e]
  congr 1
  rcases Nat.lt_or_ge aps.length s.seats with h | h
  · have hw : waiting = [] := List.eq_nil_of_length_eq_zero (by omega)
    rw [hw, List.append_nil, List.take_of_length_le (by omega)]
  · rw [List.take_append_of_le_length (by omega), List.take_of_length_le (by omega)]
end BP
set_option linter.all false
namespace BP
open Ks165 Ks166
def wok (n : Nat) : List Nat → List Nat → Bool → List Nat → Bool
  | s :: ss, c :: cs, ended, ws => if s = 255 then (if c = 0 then wok n ss cs true ws else false) else if ended = true ∨ n ≤ s ∨ s ∈ ws then false else wok n ss cs false (ws ++ [s])
  | _, _, _, _ => true
def until255 (s : List Nat) : List Nat := s.takeWhile (fun x => x != 255)
def tail0 (s c : List Nat) : Bool := (s.drop (until255 s).length).all (fun x => x == 255) && (c.drop (until255 s).length).all (fun x => x == 0)
theorem wok_true (n : Nat) (ws : List Nat) : ∀ (s c : List Nat), s.length = c.length → wok n s c true ws = (s.all (fun x => x == 255) && c.all (fun x => x == 0))
  | [], [], _ => rfl
  | [], _ :: _, h => by simp at h
  | _ :: _, [], h => by simp at h
  | s :: ss, c :: cs, h => by
    have ih := wok_true n ws ss cs (by simpa using h)
    unfold wok
    by_cases hs : s = 255
    · rw [if_pos hs]
      by_cases hc : c = 0
      · rw [if_pos hc, ih, hs, hc]
        simp
      · rw [if_neg hc]
        simp [hc]
    · rw [if_neg hs, if_pos (.inl rfl)]
      simp [hs]
theorem wok_false (n : Nat) : ∀ (s c ws : List Nat), s.length = c.length → ws.Nodup → (∀ x ∈ ws, x < n) →
    wok n s c false ws = (tail0 s c && (until255 s).all (fun x => decide (x < n)) && decide ((ws ++ until255 s).Nodup))
  | [], [], ws, _, hn, _ => by simp [wok, tail0, until255, hn]
  | [], _ :: _, _, h, _, _ => by simp at h
  | _ :: _, [], _, h, _, _ => by simp at h
  | s :: ss, c :: cs, ws, h, hn, hl => by
    unfold wok
    have hlen : ss.length = cs.length := by simpa using h
    by_cases hs : s = 255
    · have e : until255 (s :: ss) = [] := by
        unfold until255
        rw [List.takeWhile_cons_of_neg (by simp [hs])]
      rw [if_pos hs]
      unfold tail0
      rw [e]
      by_cases hc : c = 0
      · rw [if_pos hc, wok_true n ws ss cs hlen, hs, hc]
        simp [hn]
      · rw [if_neg hc]
        simp [hc]
    · have e : until255 (s :: ss) = s :: until255 ss := by
        unfold until255
        rw [List.takeWhile_cons_of_pos (by simpa using hs)]
      rw [if_neg hs]
      have e0 : tail0 (s :: ss) (c :: cs) = tail0 ss cs := by
        unfold tail0
        rw [e]
        rfl
      rw [e0, e]
      by_cases h1 : n ≤ s
      · rw [if_pos (.inr (.inl h1))]
        have : decide (s < n) = false := decide_eq_false (by omega)
        simp [this]
      · by_cases h2 : s ∈ ws
        · rw [if_pos (.inr (.inr h2))]
          have : ¬ (ws ++ s :: until255 ss).Nodup := fun z => (List.nodup_append.mp z).2.2 s h2 s (by simp) rfl
          rw [decide_eq_false this]
          simp
        · rw [if_neg (by simp [h1, h2])]
          rw [wok_false n ss cs (ws ++ [s]) hlen ?_ ?_]
          · rw [List.append_assoc, List.singleton_append]
            have : decide (s < n) = true := decide_eq_true (by omega)
            simp [this]
          · exact List.nodup_append.mpr ⟨hn, by simp, fun a ha b hb z => h2 (by rw [← show b = s by simpa using hb, ← z]; exact ha)⟩
          · intro x hx
            rcases List.mem_append.mp hx with hx | hx
            · exact hl x hx
            · have : x = s := by simpa using hx
              omega
def part (l : List Nat) (w i : Nat) : List Nat := (l.drop (w * i)).take w
theorem schools_eq : ∀ (m : Nat) (l : List Nat), l.length = 10 * m → Ks166Neutral.schools m l = (List.range m).map (fun i => (⟨(part l 10 i).getD 0 0, ((part l 10 i).drop 2).take 8, (part l 10 i).getD 1 0 == 0⟩ : School))
  | 0, l, _ => rfl
  | m + 1, l, h => by
    have ih := schools_eq m (l.drop 10) (by rw [List.length_drop]; omega)
    rw [List.range_succ_eq_map, List.map_cons, List.map_map]
    unfold Ks166Neutral.schools
    have e0 : part l 10 0 = l.take 10 := by unfold part; simp
    have e1 : ∀ i, part (l.drop 10) 10 i = part l 10 (i + 1) := fun i => by
      unfold part
      rw [List.drop_drop]
      congr 2
      omega
    rw [ih]
    congr 1
    · rw [e0]
      have h0 : ∀ j, j < 10 → (l.take 10).getD j 0 = l.getD j 0 := fun j hj => by
        rw [List.getD_eq_getElem?_getD, List.getD_eq_getElem?_getD, List.getElem?_take_of_lt hj]
      rw [h0 0 (by decide), h0 1 (by decide)]
      congr 1
      rw [List.drop_take, List.take_take]
      rfl
    · refine List.map_congr_left fun i _ => ?_
      show _ = (⟨(part l 10 (i + 1)).getD 0 0, ((part l 10 (i + 1)).drop 2).take 8, (part l 10 (i + 1)).getD 1 0 == 0⟩ : School)
      rw [e1]
theorem wish_take (l : List Nat) : Ks166Neutral.wish (l.take 18) = Ks166Neutral.wish l := by
  have h0 : ∀ j, j < 18 → (l.take 18).getD j 0 = l.getD j 0 := fun j hj => by
    rw [List.getD_eq_getElem?_getD, List.getD_eq_getElem?_getD, List.getElem?_take_of_lt hj]
  have h1 : ((l.take 18).drop 2).take 8 = (l.drop 2).take 8 := by rw [List.drop_take, List.take_take]; rfl
  have h2 : ((l.take 18).drop 10).take 8 = (l.drop 10).take 8 := by rw [List.drop_take, List.take_take]; rfl
  unfold Ks166Neutral.wish
  rw [h0 0 (by decide), h0 1 (by decide), h1, h2]
theorem wishes_eq : ∀ (m : Nat) (l : List Nat), l.length = 18 * m → Ks166Neutral.wishes m l = (List.range m).map (fun i => Ks166Neutral.wish (part l 18 i))
  | 0, l, _ => rfl
  | m + 1, l, h => by
    have ih := wishes_eq m (l.drop 18) (by rw [List.length_drop]; omega)
    rw [List.range_succ_eq_map, List.map_cons, List.map_map]
    unfold Ks166Neutral.wishes
    have e0 : part l 18 0 = l.take 18 := by unfold part; simp
    have e1 : ∀ i, part (l.drop 18) 18 i = part l 18 (i + 1) := fun i => by
      unfold part
      rw [List.drop_drop]
      congr 2
      omega
    rw [ih, e0, wish_take]
    congr 1
    refine List.map_congr_left fun i _ => ?_
    show _ = Ks166Neutral.wish (part l 18 (i + 1))
    rw [e1]
def planOf (l1 l2 : List Nat) : Plan := ⟨Ks166Neutral.schools (l1.length / 10) l1, Ks166Neutral.wishes (l2.length / 18) l2⟩
def schR (q : List Nat) : Bool := decide (q.getD 0 0 ≤ 64) && decide (q.getD 1 0 = 0) && decide (((q.drop 2).take 8).sum ≤ q.getD 0 0)
def chdR (n : Nat) (q : List Nat) : Bool := decide (q.getD 1 0 ≤ 255) && wok n ((q.drop 2).take 8) ((q.drop 10).take 8) false []
def goodB (m1 m2 : Nat) (l1 l2 : List Nat) : Bool := decide (l1.length ≤ 320) && decide (l2.length ≤ 4608) && (List.range m1).all (fun i => schR (part l1 10 i)) && (List.range m2).all (fun i => chdR m1 (part l2 18 i)) &&
  decide (((List.range m2).map (fun i => (part l2 18 i).getD 0 0)).Nodup)
theorem part_len {l : List Nat} {w m i : Nat} (h : l.length = w * m) (hi : i < m) : (part l w i).length = w := by
  unfold part
  rw [List.length_take, List.length_drop, h]
  have : w * (i + 1) ≤ w * m := Nat.mul_le_mul_left _ hi
  rw [Nat.mul_succ] at this
  omega
theorem school_good {q : List Nat} (h : q.length = 10) : School.good ⟨q.getD 0 0, (q.drop 2).take 8, q.getD 1 0 == 0⟩ = schR q := by
  unfold School.good schR
  have e : ((q.drop 2).take 8).length = 8 := by rw [List.length_take, List.length_drop, h]; rfl
  simp only [e, SEATS, GROUPS, sum_eq, beq_self_eq_true, Bool.and_true]
  rw [Bool.and_assoc, Bool.and_assoc]
  congr 1
  rw [Bool.and_comm]
  congr 1
theorem until_len (s : List Nat) : (until255 s).length ≤ s.length := by
  unfold until255
  exact (List.takeWhile_prefix _).length_le
theorem wish_good {q : List Nat} {n : Nat} (h : q.length = 18) : Wish.good n (Ks166Neutral.wish q) = chdR n q := by
  have e1 : ((q.drop 2).take 8).length = 8 := by rw [List.length_take, List.length_drop, h]; rfl
  have e2 : ((q.drop 10).take 8).length = 8 := by rw [List.length_take, List.length_drop, h]; rfl
  have hw := until_len ((q.drop 2).take 8)
  have ez : ((until255 ((q.drop 2).take 8)).zip ((q.drop 10).take 8)).map (fun x => x.1) = until255 ((q.drop 2).take 8) := List.map_fst_zip (by omega)
  unfold chdR
  rw [wok_false n _ _ [] (by omega) List.nodup_nil (by simp), List.nil_append]
  unfold Wish.good
  show (decide (q.getD 1 0 < 256) && (tail0 ((q.drop 2).take 8) ((q.drop 10).take 8)) && decide (((until255 ((q.drop 2).take 8)).zip ((q.drop 10).take 8)).length ≤ WISHES) &&
    ((until255 ((q.drop 2).take 8)).zip ((q.drop 10).take 8)).all (fun x => decide (x.1 < n)) && decide ((((until255 ((q.drop 2).take 8)).zip ((q.drop 10).take 8)).map (fun x => x.1)).Nodup)) = _
  rw [ez]
  have el : decide (((until255 ((q.drop 2).take 8)).zip ((q.drop 10).take 8)).length ≤ WISHES) = true := decide_eq_true (by rw [List.length_zip]; simp only [WISHES]; omega)
  have ea : ((until255 ((q.drop 2).take 8)).zip ((q.drop 10).take 8)).all (fun x => decide (x.1 < n)) = (until255 ((q.drop 2).take 8)).all (fun x => decide (x < n)) := by
    conv => rhs; rw [← ez]
    rw [List.all_map]
    rfl
  have eg : decide (q.getD 1 0 < 256) = decide (q.getD 1 0 ≤ 255) := by
    congr 1
    exact propext (Nat.lt_succ_iff)
  rw [el, ea, eg, Bool.and_true, Bool.and_assoc, Bool.and_assoc, Bool.and_assoc]
theorem all_range {f g : Nat → Bool} {m : Nat} (h : ∀ i, i < m → f i = g i) : (List.range m).all f = (List.range m).all g := by
  rw [Bool.eq_iff_iff, List.all_eq_true, List.all_eq_true]
  constructor
  · intro q i hi
    rw [← h i (List.mem_range.mp hi)]
    exact q i hi
  · intro q i hi
    rw [h i (List.mem_range.mp hi)]
    exact q i hi
theorem good_eq {m1 m2 : Nat} {l1 l2 : List Nat} (h1 : l1.length = 10 * m1) (h2 : l2.length = 18 * m2) : (planOf l1 l2).good = goodB m1 m2 l1 l2 := by
  have d1 : l1.length / 10 = m1 := by omega
  have d2 : l2.length / 18 = m2 := by omega
  unfold planOf
  rw [d1, d2, schools_eq m1 l1 h1, wishes_eq m2 l2 h2]
  unfold Plan.good goodB
  simp only [List.length_map, List.length_range, List.all_map, List.map_map, SCHOOLS, COUNT]
  have a1 : decide (m1 ≤ 32) = decide (l1.length ≤ 320) := by congr 1; exact propext (by omega)
  have a2 : decide (m2 ≤ 256) = decide (l2.length ≤ 4608) := by congr 1; exact propext (by omega)
  rw [a1, a2]
  rw [all_range (m := m1) (f := School.good ∘ fun i => ⟨(part l1 10 i).getD 0 0, ((part l1 10 i).drop 2).take 8, (part l1 10 i).getD 1 0 == 0⟩) (g := fun i => schR (part l1 10 i)) fun i hi => school_good (part_len h1 hi),
    all_range (m := m2) (f := Wish.good m1 ∘ fun i => Ks166Neutral.wish (part l2 18 i)) (g := fun i => chdR m1 (part l2 18 i)) fun i hi => wish_good (part_len h2 hi)]
  rfl
end BP
set_option linter.all false
set_option maxRecDepth 100000
set_option maxHeartbeats 4000000
namespace BS
open PySem PySem.Spec PyProof.Rows PySem.W

abbrev IK := Int ⊕ List Nat
def sh0 : Nat → Bool := fun _ => false
def keyOfV (h : Heap) (v : Value) : List IK := (G.tupKeyC h sh0 v).getD []
def decP (h : Heap) (p : Keyed) : List IK × Value := (keyOfV h p.1, p.2)

theorem zip_dec {h : Heap} : ∀ {keys vs : List Value} {kz : List (List IK)}, keys.map (keyOfV h) = kz → (keys.zip vs).map (decP h) = kz.zip vs
  | [], vs, kz, e => by subst e; rfl
  | k :: keys, [], kz, e => by subst e; rfl
  | k :: keys, v :: vs, kz, e => by
    subst e
    show (decP h (k, v)) :: ((keys.zip vs).map (decP h)) = _
    rw [zip_dec rfl]
    rfl

def KOut (kz : List (List IK)) (vs out : List Value) : Prop :=
  ∃ ps : List (List IK × Value), ps.Perm (kz.zip vs) ∧ out = ps.map Prod.snd ∧ ps.Pairwise (fun p q => PyProof.Rows.lexLt itemOrd q.1 p.1 = false)

theorem out_of {h : Heap} {keys vs : List Value} {kz : List (List IK)} (hkz : keys.map (keyOfV h) = kz) {arr : Array Keyed} (hp : arr.Perm (keys.toArray.zip vs.toArray)) (hs : SortedToK (G.tupKindC h sh0) arr arr.size) :
    KOut kz vs (arr.map (·.2)).toList := by
  have hl : arr.toList.Perm (keys.zip vs) := by
    have := Array.perm_iff_toList_perm.mp hp
    rw [ksk_zip] at this
    simpa using this
  refine ⟨arr.toList.map (decP h), ?_, ?_, ?_⟩
  · rw [← zip_dec hkz]
    exact hl.map _
  · rw [Array.toList_map, List.map_map]
    rfl
  · rw [List.pairwise_iff_getElem]
    intro i j hi hj hij
    have hi' : i < arr.size := by simpa using hi
    have hj' : j < arr.size := by simpa using hj
    have q := hs i j (Nat.le_of_lt hij) hj'
    have k1 : KK (G.tupKindC h sh0) arr i = keyOfV h (arr[i]).1 := by unfold KK; rw [Array.getElem?_eq_getElem hi']; rfl
    have k2 : KK (G.tupKindC h sh0) arr j = keyOfV h (arr[j]).1 := by unfold KK; rw [Array.getElem?_eq_getElem hj']; rfl
    rw [k1, k2] at q
    have q' : PyProof.Rows.lexLt itemOrd (keyOfV h (arr[j]).1) (keyOfV h (arr[i]).1) = false := q
    simpa [decP] using q'

open L2
def toV (u : Value) : V := (absV u).getD .non
theorem vals_toV : ∀ {xs : List V} {us : List Value}, Vals xs us → xs = us.map toV
  | _, _, .nil => rfl
  | _, _, .cons r t => by
    rw [List.map_cons, ← vals_toV t]
    congr 1
    unfold toV
    rw [r.abs]
    rfl
theorem rel_toV : ∀ {xs : List V} {us : List Value}, Vals xs us → ∀ u ∈ us, RelV (toV u) u
  | _, _, .nil, u, h => by simp at h
  | _, _, .cons (b := w) r t, u, h => by
    rcases List.mem_cons.mp h with e | h
    · rw [e]
      unfold toV
      rw [r.abs]
      exact r
    · exact rel_toV t u h
theorem vals_of : ∀ {us : List Value}, (∀ u ∈ us, RelV (toV u) u) → Vals (us.map toV) us
  | [], _ => .nil
  | u :: us, h => .cons (h u List.mem_cons_self) (vals_of fun v hv => h v (List.mem_cons_of_mem _ hv))
theorem vals_refs : ∀ {ks : List Addr} {us : List Value}, Vals (ks.map V.ref) us → us = ks.map Value.ref
  | [], _, .nil => rfl
  | k :: ks, _, .cons r t => by
    have r : _ = Value.ref k := r
    rw [r, vals_refs t]
    rfl
theorem items_ints : ∀ {zs : List Int} {us : List Value} (i : Nat), Vals (zs.map V.int) us → tupItems sh0 i us = some (zs.map Sum.inl)
  | [], _, i, .nil => rfl
  | z :: zs, _, i, .cons r t => by
    obtain ⟨tk, e⟩ := r
    rw [e]
    show (if sh0 i = true then none else (tupItems sh0 (i + 1) _).map (Sum.inl z :: ·)) = _
    rw [items_ints (i + 1) t]
    rfl

section
variable {X : Cx} {pins : List (Addr × Obj)} {σ : L2.St} {H : Hp} {s : Shared}
/-- an untracked new object is tracked from now on -/
theorem track {a : Addr} {o : HO} (I : Inv X pins σ H s) (h1 : X.s₀.heap.objs.size ≤ a) (hn : H a = none) (hL : a ≠ X.env.locals) (hc : ∀ x c, X.env.cells.lookup x = some c → c ≠ a) (hp : ∀ p ∈ X.pn ++ pins, p.1 ≠ a)
    (new : ObjOk X.prog X.w (upd H a o) s.heap a o) : Inv X pins σ (upd H a o) s := by
  have nb : ∀ b u, H b = some u → b ≠ a := fun b u e z => by rw [z, hn] at e; cases e
  refine I.step (g' := s.gens) (d' := s.drawn) (t' := s.toks) (h' := s.heap) (ch := [a]) (fun b hb => ?_) (fun b o _ _ _ e _ => e) (fun b o _ _ _ e _ => ⟨o.slots, e⟩) (fun b o hc _ n => ?_)
    (fun b o _ e => ⟨o, e⟩) (fun b xs e => by rw [upd_ne (nb _ _ e)]; exact e) (fun b o u e => by rw [upd_ne (nb _ _ e)]; exact e) (fun b ps e => ⟨#[], by rw [upd_ne (nb _ _ e), e]; simp⟩) (fun m hm => hm) (fun b u e => ?_) I.bare
  · have e : b = a := by simpa using hb
    subst e
    exact ⟨.inr h1, hL, hc, hp⟩
  · rw [upd_ne (fun z => hc (by simp [z]))]
    exact n
  · by_cases hb : b = a
    · subst hb; rw [upd_same] at e; cases e; exact new
    · rw [upd_ne hb] at e
      exact (I.hok b u e).stay (fun c v _ q => q) (fun c q => by rw [upd_ne (nb _ _ q)]; exact q) fun c xs q => by rw [upd_ne (nb _ _ q)]; exact q
theorem upd_list {k : Addr} {xs ys : List V} {f : Array Value → Array Value} (I : Inv X pins σ H s) (hk : H k = some (.lst xs)) (hy : ∀ its : List Value, Vals xs its → Vals ys (f its.toArray).toList) (hz : ys.length ≤ sizeLine) :
    Inv X pins σ (upd H k (.lst ys)) { s with heap := s.heap.update k (Obj.mapSeq f) } := by
  obtain ⟨z, its, n, r, e⟩ := I.hok k _ hk
  have e2 := get?_update_seq e f
  refine I.write (x := k) (e := k) (o := .lst ys) (t' := s.toks) (by rw [hk]; trivial) (.inl rfl) (fun b u hb q => by rw [Heap.get?_update_ne _ _ _ _ hb]; exact q) ⟨_, e2⟩ ⟨hz, (f its.toArray).toList, _, hy its r, by rw [Array.toArray_toList]; exact e2⟩
theorem drop_pin {p : Addr × Obj} (I : Inv X (p :: pins) σ H s) : Inv X pins σ H s := I.pins_of fun q hq => I.pin q (List.mem_append_right _ (List.mem_cons_of_mem _ hq))
end

section
variable {X : Cx} {pins : List (Addr × Obj)} {σ : L2.St} {H : Hp} {s : Shared} {A : Around} {E : Value → Shared → Prop} {P : PySem.Fin → Shared → Prop}
theorem tail_ok {a kS : Addr} {e1 : Nat} {ks : List Addr} {vs : List Value} {st : SortSt} {kz : List (List IK)} (I : Inv X ((a, seqObj "list" #[] e1) :: pins) σ H s) (ha : X.s₀.heap.objs.size ≤ a) (hac : ∀ x c, X.env.cells.lookup x = some c → c ≠ a) (hap : ∀ p ∈ X.pn ++ pins, p.1 ≠ a)
    (hk : H kS = some (.lst (ks.map V.ref))) (hrel : ∀ u ∈ vs, RelV (toV u) u) (hZ : vs.length ≤ sizeLine) (hlen : ks.length = vs.length)
    (hp : (arrOf st).Perm ((ks.map Value.ref).toArray.zip vs.toArray)) (hfl : failedOf st = none) (ho : KOut kz vs ((arrOf st).map (·.2)).toList)
    (h : ∀ s' out, Inv X pins σ (upd (upd H kS (.lst [])) a (.lst (out.map toV))) s' → KOut kz vs out → P (.done (.ret .none)) s') :
    wpAny (model X.prog X.w) A (ksk_tail a false e1 (.ref kS) st) P E s := by
  have hZ2 := hZ
  rw [sizeLine_eq] at hZ2
  obtain ⟨zk, its, n, rk, ek⟩ := I.hok kS _ hk
  have pin := I.pin (a, seqObj "list" #[] e1) (List.mem_append_right _ List.mem_cons_self)
  have hka : kS ≠ a := fun z => by
    have := pin.2.1
    rw [← z, hk] at this
    cases this
  have hitl : its.length = ks.length := by rw [vals_refs rk, List.length_map]
  have hsz2 : (arrOf st).size = vs.length := by rw [hp.size_eq, Array.size_zip, List.size_toArray, List.size_toArray, List.length_map, hlen, Nat.min_self]
  have hout : ((arrOf st).map (·.2)).size = vs.length := by rw [Array.size_map]; exact hsz2
  have s1 := Heap.SameBut.update s.heap kS (Obj.mapSeq fun _ => (#[] : Array Value))
  have I1 : Inv X ((a, seqObj "list" #[] e1) :: pins) σ (upd H kS (.lst [])) { s with heap := s.heap.update kS (Obj.mapSeq fun _ => (#[] : Array Value)) } :=
    upd_list I hk (fun _ _ => .nil) (Nat.zero_le _)
  have na1 : (s.heap.update kS (Obj.mapSeq fun _ => (#[] : Array Value))).get? a = some (seqObj "list" #[] e1) := (s1.2 a hka.symm).trans pin.1
  unfold ksk_tail
  try dsimp only
  refine wpAny_bind (listUpdate_at ek rfl ?_ (by rw [List.size_toArray, hitl, hlen]; exact hZ) (Nat.zero_le _))
  refine wpAny_bind (wpAny_letGo ?_)
  refine wpAny_bind (seqEpoch_at na1 rfl ?_)
  refine wpAny_bind (listUpdate_at na1 rfl ?_ (Nat.zero_le _) (Nat.le_trans (Nat.le_of_eq (by simpa using hout)) (by rw [sizeLine_eq]; omega)))
  rw [hfl]
  simp only [bne_self_eq_false, Bool.false_eq_true, if_false]
  have hmem : ∀ u ∈ ((arrOf st).map (·.2)).toList, RelV (toV u) u := fun u hu => by
    obtain ⟨ps, h1, h2, _⟩ := ho
    rw [h2] at hu
    obtain ⟨q, hq, rfl⟩ := List.mem_map.mp hu
    have := h1.mem_iff.mp hq
    obtain ⟨x, y⟩ := q
    exact hrel _ (List.of_mem_zip this).2
  have I2 := drop_pin I1
  have pin1 := I1.pin (a, seqObj "list" #[] e1) (List.mem_append_right _ List.mem_cons_self)
  have e2 := get?_update_seq na1 fun _ => (arrOf st).map (·.2)
  have I3 : Inv X pins σ (upd H kS (.lst [])) { s with heap := (s.heap.update kS (Obj.mapSeq fun _ => (#[] : Array Value))).update a (Obj.mapSeq fun _ => (arrOf st).map (·.2)) } :=
    I2.turned (t' := s.toks) (fun b o hb q => by show Heap.get? _ _ = _; rw [Heap.get?_update_ne _ _ _ _ hb]; exact q) pin1.2.1 pin1.2.2.1 (.inr ha) hac hap
  refine wpAny_pure (h _ ((arrOf st).map (·.2)).toList (track I3 ha pin1.2.1 pin1.2.2.1 hac hap ⟨by rw [List.length_map, Array.length_toList, hout]; exact hZ, ((arrOf st).map (·.2)).toList, _, vals_of hmem, by rw [Array.toArray_toList]; exact e2⟩) ho)
end
end BS
set_option linter.all false
set_option maxRecDepth 100000
set_option maxHeartbeats 4000000
namespace BS
open PySem PySem.Spec PyProof.Rows PySem.W L2

/-- the key of a tracked tuple of ints -/
theorem key_of {X : Cx} {pins : List (Addr × Obj)} {σ : L2.St} {H : Hp} {s : Shared} (I : L2.Inv X pins σ H s) {p : Addr} {zs : List Int} (hp : H p = some (.tup (zs.map V.int))) :
    G.tupKeyC s.heap sh0 (.ref p) = some (zs.map Sum.inl) := by
  obtain ⟨_, its, r, o, ho, hc, n, hd⟩ := I.hok p _ hp
  exact G.tupKeyC_of ho hc hd (by simpa using items_ints 0 r)
theorem tup_of {X : Cx} {pins : List (Addr × Obj)} {σ : L2.St} {H : Hp} {s : Shared} (I : L2.Inv X pins σ H s) {p : Addr} {z : Int} {zs : List Int} (hp : H p = some (.tup ((z :: zs).map V.int))) :
    ∃ t, TupOf s.heap sh0 (.ref p) (.int z t) := by
  obtain ⟨_, its, r, o, ho, hc, n, hd⟩ := I.hok p _ hp
  cases r with
  | cons r1 r2 =>
    obtain ⟨t, e⟩ := r1
    exact ⟨t, p, o, _, n, rfl, ho, hc, hd, by rw [e]; simp, fun _ => ⟨z, t, rfl⟩, fun q => absurd (show false = true from q) Bool.false_ne_true⟩

/-- the keys made so far -/
def Made (H : Hp) (kz : List (List IK)) (ks : List Addr) : Prop := ∀ (j : Nat) (p : Addr), ks[j]? = some p → ∃ (z : Int) (zs : List Int), H p = some (.tup ((z :: zs).map V.int)) ∧ kz[j]? = some ((z :: zs).map Sum.inl)

theorem keys_eq {X : Cx} {pins : List (Addr × Obj)} {σ : L2.St} {H : Hp} {s : Shared} (I : L2.Inv X pins σ H s) {kz : List (List IK)} {ks : List Addr} (hm : Made H kz ks) (hl : ks.length = kz.length) : (ks.map Value.ref).map (keyOfV s.heap) = kz := by
  refine List.ext_getElem? fun j => ?_
  rw [List.getElem?_map, List.getElem?_map]
  cases e : ks[j]? with
  | none => rw [List.getElem?_eq_none (by rw [← hl]; exact List.getElem?_eq_none_iff.mp e)]; rfl
  | some p =>
    obtain ⟨z, zs, h1, h2⟩ := hm j p e
    rw [h2]
    show some (keyOfV s.heap (.ref p)) = _
    unfold keyOfV
    rw [key_of I h1]
    rfl
theorem tups_of {X : Cx} {pins : List (Addr × Obj)} {σ : L2.St} {H : Hp} {s : Shared} (I : L2.Inv X pins σ H s) : ∀ {ks : List Addr}, (∀ p ∈ ks, ∃ (z : Int) (zs : List Int), H p = some (.tup ((z :: zs).map V.int))) → ∃ fs, TupsOf s.heap sh0 (ks.map Value.ref) fs
  | [], _ => ⟨[], .nil⟩
  | k :: ks, h => by
    obtain ⟨z, zs, e⟩ := h k List.mem_cons_self
    obtain ⟨t, q⟩ := tup_of I e
    obtain ⟨fs, r⟩ := tups_of I fun p hp => h p (List.mem_cons_of_mem _ hp)
    exact ⟨_, .cons q r⟩

section
variable {X : Cx} {pins : List (Addr × Obj)} {σ : L2.St} {H : Hp} {s : Shared} {A : Around} {E : Value → Shared → Prop} {P : PySem.Fin → Shared → Prop}
theorem end_ok {a kS : Addr} {e1 : Nat} {ks : List Addr} {vs : List Value} {kz : List (List IK)} (I : L2.Inv X ((a, seqObj "list" #[] e1) :: pins) σ H s) (ha : X.s₀.heap.objs.size ≤ a) (hac : ∀ x c, X.env.cells.lookup x = some c → c ≠ a) (hap : ∀ p ∈ X.pn ++ pins, p.1 ≠ a)
    (hk : H kS = some (.lst (ks.map V.ref))) (hrel : ∀ u ∈ vs, RelV (toV u) u) (hZ : vs.length ≤ sizeLine) (hlen : ks.length = vs.length) (hlz : kz.length = vs.length) (hm : Made H kz ks)
    (h : ∀ s' out, L2.Inv X pins σ (upd (upd H kS (.lst [])) a (.lst (out.map toV))) s' → KOut kz vs out → P (.done (.ret .none)) s') :
    wpAny (model X.prog X.w) A (ksk_end a false vs.toArray e1 (.ref kS) (ks.map Value.ref).toArray) P E s := by
  have hkz := keys_eq I hm (by omega)
  have hzs : ((ks.map Value.ref).toArray.zip vs.toArray).size = vs.length := by rw [Array.size_zip, List.size_toArray, List.size_toArray, List.length_map, hlen, Nat.min_self]
  unfold ksk_end
  try dsimp only
  simp only [Bool.false_eq_true, if_false]
  by_cases h2 : vs.toArray.size < 2
  · rw [if_pos h2, if_pos h2]
    refine wpAny_bind (wpAny_pure ?_)
    rw [StateT.run_pure]
    refine wpAny_bind (wpAny_pure ?_)
    try dsimp only
    refine tail_ok (st := SortSt.mk' general' ((ks.map Value.ref).toArray.zip vs.toArray) #[] 7 none) I ha hac hap hk hrel hZ hlen (Array.Perm.refl _) rfl (out_of hkz (Array.Perm.refl _) ?_) h
    intro i j hij hj
    have hj2 : j < ((ks.map Value.ref).toArray.zip vs.toArray).size := hj
    rw [hzs] at hj2
    rw [List.size_toArray] at h2
    have : i = j := by omega
    subst this
    exact KeyOrd.kle_refl _
  · rw [if_neg h2, if_neg h2]
    rw [List.size_toArray] at h2
    obtain ⟨fs, ht⟩ := tups_of I (ks := ks) fun p hp => by
      obtain ⟨j, hj⟩ := List.mem_iff_getElem?.mp hp
      obtain ⟨z, zs, e, _⟩ := hm j p hj
      exact ⟨z, zs, e⟩
    have hfl : 0 < fs.length := by rw [G.TupsOf.length ht, List.length_map]; omega
    refine wpAny_bind (tup_kind hfl ht ?_)
    have h0 : KeysOf (G.tupKindC s.heap sh0) ((ks.map Value.ref).toArray.zip vs.toArray) := fun p hp => by
      rw [ksk_zip] at hp
      obtain ⟨x, y⟩ := p
      have hx := (List.of_mem_zip hp).1
      have hx : x ∈ ks.map Value.ref := by simpa using hx
      obtain ⟨k, hkm, rfl⟩ := List.mem_map.mp hx
      obtain ⟨j, hj⟩ := List.mem_iff_getElem?.mp hkm
      obtain ⟨z, zs, e, _⟩ := hm j k hj
      exact ⟨_, key_of I e⟩
    refine wpAny_bind (wpAny_mono (G.wpS_sortRunsSt (κ := G.tupKindC s.heap sh0) (kd := tuples' true) (a₀ := (ks.map Value.ref).toArray.zip vs.toArray) (st := SortSt.mk' (tuples' true) ((ks.map Value.ref).toArray.zip vs.toArray) #[] 7 none)
      (Q := fun _ st' => (arrOf st').Perm ((ks.map Value.ref).toArray.zip vs.toArray) ∧ failedOf st' = none ∧ SortedToK (G.tupKindC s.heap sh0) (arrOf st') ((ks.map Value.ref).toArray.zip vs.toArray).size)
      (G.tupC_ltAt true (G.KeepsTups.refl _)) h0 ⟨Array.Perm.refl _, rfl, rfl⟩ rfl (Stable.refl _) (by rw [hzs]; omega) fun st' a1 a2 a3 _ => ⟨a1, a2, a3⟩) ?_ fun _ _ e => e)
    rintro ⟨⟨⟩, st'⟩ s' ⟨rfl, hp, hf, hs⟩
    try dsimp only
    exact tail_ok I ha hac hap hk hrel hZ hlen hp hf (out_of hkz hp (by rw [hp.size_eq]; exact hs)) h

/-- what a key's call is to give: a new tuple of ints -/
def KeyQ (H' : Hp) (z : List IK) : VK := fun v' H'' => ∃ (p : Addr) (k : Int) (ks : List Int), v' = .ref p ∧ H'' p = some (.tup ((k :: ks).map V.int)) ∧ z = (k :: ks).map Sum.inl ∧ Same H' H''

theorem rest_ok {a kS q : Addr} {e1 : Nat} {vs : List Value} {xs : List V} {kz : List (List IK)} {H0 : Hp} (I : L2.Inv X ((a, seqObj "list" #[] e1) :: pins) σ H s) (ha : X.s₀.heap.objs.size ≤ a) (hac : ∀ x c, X.env.cells.lookup x = some c → c ≠ a) (hap : ∀ p ∈ X.pn ++ pins, p.1 ≠ a)
    (hk : H kS = some (.lst [])) (hkn : H0 kS = none) (hS0 : Same H0 H) (rv : Vals xs vs) (hZ : vs.length ≤ sizeLine) (hlz : kz.length = vs.length)
    (turn : ∀ (i : Nat) (v : V) (u : Value) (z : List IK), xs[i]? = some v → kz[i]? = some z → RelV v u → ∀ (pins' : List (Addr × Obj)) (H' : Hp) (s' : Shared), (∀ p ∈ pins, p ∈ pins') → L2.Inv X pins' σ H' s' → Same H0 H' →
      wpAny (model X.prog X.w) A (call (.ref q) [u]) (EP X pins' σ (KeyQ H' z)) (fun _ _ => False) s')
    (h : ∀ s' out H', L2.Inv X pins σ (upd (upd H' kS (.lst [])) a (.lst (out.map toV))) s' → Same H0 H' → H' a = none → KOut kz vs out → P (.done (.ret .none)) s') :
    wpAny (model X.prog X.w) A (ksk_rest a (.ref q) false vs.toArray e1 (.ref kS)) P E s := by
  have hZ2 := hZ
  rw [sizeLine_eq] at hZ2
  have hxl := rv.length
  unfold ksk_rest
  refine wpAny_bind (wpAny_rule ?_)
  first
    | rw [List.forIn_toArray]
    | (rw [← Array.forIn_toList]; simp only [List.toList_toArray])
    | rw [← Array.forIn_toList]
  refine wpAny_bind (ksk_fold (fun i s' => ∃ (H' : Hp) (ks : List Addr), L2.Inv X ((a, seqObj "list" #[] e1) :: pins) σ H' s' ∧ Same H0 H' ∧ H' kS = some (.lst (ks.map V.ref)) ∧ ks.length = i ∧ Made H' kz ks) vs 0 s
    ⟨H, [], I, hS0, hk, rfl, fun j p e => by simp at e⟩ ?step ?done)
  case step =>
    rintro j u s' hu ⟨H', ks, I', hS', hk', hl', hm'⟩
    simp only [Nat.zero_add] at hl' ⊢
    have hj : j < vs.length := (List.getElem?_eq_some_iff.mp hu).1
    obtain ⟨z, hz⟩ : ∃ z, kz[j]? = some z := ⟨_, List.getElem?_eq_getElem (by omega)⟩
    obtain ⟨v, hv⟩ : ∃ v, xs[j]? = some v := ⟨_, List.getElem?_eq_getElem (by omega)⟩
    obtain ⟨u', hu', rvu⟩ := rv.get hv
    rw [hu] at hu'
    cases hu'
    refine wpAny_bind (wpAny_attempt (wpAny_mono (turn j v u z hv hz rvu _ H' s' (fun p hp => List.mem_cons_of_mem _ hp) I' hS') (fun w s'' he => ?_) fun _ _ hF => hF.elim))
    obtain ⟨wv, H'', I'', rw', p, k, kr, rfl, hp, hzz, hS''⟩ := he
    have rw' : w = Value.ref p := rw'
    subst rw'
    try dsimp only
    have hk'' := hS'' _ _ hk'
    have hpk : p ≠ kS := ne_of hp hk'' (by intro q; cases q)
    obtain ⟨zk, its, n, rk, ek⟩ := I''.hok kS _ hk''
    have hitl : its.length = ks.length := by rw [vals_refs rk, List.length_map]
    refine wpAny_bind (listUpdate_at ek rfl ?_ (by rw [List.size_toArray, hitl, sizeLine_eq]; omega) (Nat.le_trans (Nat.le_of_eq (Array.size_push ..)) (by rw [List.size_toArray, hitl, sizeLine_eq]; omega)))
    refine wpAny_pure ⟨rfl, upd H'' kS (.lst ((ks ++ [p]).map V.ref)), ks ++ [p], upd_list I'' hk'' (fun its' r' => ?_) ?_, fun b o e => ?_, upd_same, by rw [List.length_append, hl']; rfl, fun i x e => ?_⟩
    · rw [List.map_append]
      show Vals _ (its'.toArray.push (Value.ref p)).toList
      rw [Array.toList_push]
      exact r'.append (.cons rfl .nil)
    · rw [List.length_map, List.length_append, sizeLine_eq]
      show ks.length + 1 ≤ _
      omega
    · have hb : b ≠ kS := fun z => by rw [z, hkn] at e; cases e
      rw [upd_ne hb]
      exact hS'' _ _ (hS' _ _ e)
    · rcases Nat.lt_or_ge i ks.length with hi | hi
      · rw [List.getElem?_append_left hi] at e
        obtain ⟨z1, zs1, g1, g2⟩ := hm' i x e
        have hx : x ≠ kS := ne_of g1 hk' (by intro q; cases q)
        exact ⟨z1, zs1, by rw [upd_ne hx]; exact hS'' _ _ g1, g2⟩
      · rw [List.getElem?_append_right hi] at e
        have ei : i - ks.length = 0 := by
          rcases Nat.eq_zero_or_pos (i - ks.length) with q | q
          · exact q
          · rw [List.getElem?_eq_none (show [p].length ≤ i - ks.length from q)] at e
            cases e
        rw [ei] at e
        have ex : p = x := by simpa using e
        subst ex
        have eij : i = j := by omega
        subst eij
        exact ⟨k, kr, by rw [upd_ne hpk]; exact hp, by rw [hz, hzz]⟩
  case done =>
    rintro s' ⟨H', ks, I', hS', hk', hl', hm'⟩
    rw [Nat.zero_add] at hl'
    obtain ⟨zk, its, n, rk, ek⟩ := I'.hok kS _ hk'
    have pin := I'.pin (a, seqObj "list" #[] e1) (List.mem_append_right _ List.mem_cons_self)
    try dsimp only
    refine wpAny_bind (listItems_at ek rfl ?_)
    rw [vals_refs rk]
    exact end_ok I' ha hac hap hk' (rel_toV rv) hZ hl' hlz hm' fun s3 out I3 k3 => h s3 out H' I3 hS' pin.2.1 k3

theorem sorted_key {l q : Addr} {xs : List V} {kz : List (List IK)} {Q : Value → Shared → Prop} (I : L2.Inv X pins σ H s) (hS : SqL X.K H l xs) (hlz : kz.length = xs.length)
    (turn : ∀ (i : Nat) (v : V) (u : Value) (z : List IK), xs[i]? = some v → kz[i]? = some z → RelV v u → ∀ (pins' : List (Addr × Obj)) (H' : Hp) (s' : Shared), (∀ p ∈ pins, p ∈ pins') → L2.Inv X pins' σ H' s' → Same H H' →
      wpAny (model X.prog X.w) A.in1.in1 (call (.ref q) [u]) (EP X pins' σ (KeyQ H' z)) (fun _ _ => False) s')
    (h : ∀ (D : Addr) (ys : List V) (H' : Hp) (s' : Shared), L2.Inv X pins σ H' s' → Same H H' → H D = none → H' D = some (.lst ys) →
      (∃ ps : List (List IK × V), ps.Perm (kz.zip xs) ∧ ys = ps.map Prod.snd ∧ ps.Pairwise (fun p q => PyProof.Rows.lexLt itemOrd q.1 p.1 = false)) → Q (.ref D) s') :
    wpAny (model X.prog X.w) A (call (.builtin "sorted") [.ref l] [(Str.ofString "key", .ref q)]) Q E s := by
  obtain ⟨vs, rv, hl, hZ0⟩ := I.list hS
  have hxl := rv.length
  have hZ : vs.length ≤ sizeLine := by omega
  have hZ2 := hZ
  rw [sizeLine_eq] at hZ2
  refine call_function_entry_kw kind_sorted plain_sorted entry_sorted (ksk_s1 _ _) ?_
  unfold Builtin.«sorted»
  refine wpAny_bind (m := checkCount "sorted" 1 1 _) (wpAny_pure ?_)
  refine wpAny_bind (collect_list hl.isList ?_ (by rw [sizeLine_eq]; omega))
  refine wpAny_bind (wpAny_newList ?_ (by rw [sizeLine_eq]; omega))
  have hsz : ((s.heap.push (seqObj "list" #[] 0)).update s.heap.objs.size (Obj.mapSeq (· ++ vs.toArray))).objs.size = s.heap.objs.size + 1 := by
    rw [Heap.size_update, size_push']
  have hoL : (((s.heap.push (seqObj "list" #[] 0)).update s.heap.objs.size (Obj.mapSeq (· ++ vs.toArray))).push (seqObj "list" vs.toArray 0)).get? (s.heap.objs.size + 1) = some (seqObj "list" vs.toArray 0) := by
    rw [← hsz]; exact Heap.get?_push_size _ rfl
  have keep : ∀ b o, s.heap.get? b = some o → (((s.heap.push (seqObj "list" #[] 0)).update s.heap.objs.size (Obj.mapSeq (· ++ vs.toArray))).push (seqObj "list" vs.toArray 0)).get? b = some o := fun b o q => by
    have hlt : b < s.heap.objs.size := Heap.lt_size q
    rw [Heap.get?_push_ne _ _ _ (by rw [hsz]; exact Nat.ne_of_lt (Nat.lt_succ_of_lt hlt)), Heap.get?_update_ne _ _ _ _ (Nat.ne_of_lt hlt), Heap.get?_push_ne _ _ _ (Nat.ne_of_lt hlt)]
    exact q
  show wpAny _ _ _ _ _ { s with heap := ((s.heap.push (seqObj "list" #[] 0)).update s.heap.objs.size (Obj.mapSeq (· ++ vs.toArray))).push (seqObj "list" vs.toArray 0) }
  rw [hsz]
  have hsize1 : (((s.heap.push (seqObj "list" #[] 0)).update s.heap.objs.size (Obj.mapSeq (· ++ vs.toArray))).push (seqObj "list" vs.toArray 0)).objs.size = s.heap.objs.size + 2 := by
    rw [size_push', hsz]
  generalize ((s.heap.push (seqObj "list" #[] 0)).update s.heap.objs.size (Obj.mapSeq (· ++ vs.toArray))).push (seqObj "list" vs.toArray 0) = h1 at hoL keep hsize1 ⊢
  refine wpAny_bind (wpAny_holding (wpAny_call_entry_kw slot_list_sort ⟨_, hoL, rfl⟩ entry_list_sort ?body (ksk_l1 _ _)))
  case body =>
    show wpAny (model X.prog X.w) A.in1.in1 (Builtin.«list.sort» ⟨[.ref (s.heap.objs.size + 1)], [(Str.ofString "key", .ref q)]⟩) _ _ _
    rw [ksk_t1]
    have hD : s.heap.objs.size ≤ s.heap.objs.size + 1 := Nat.le_succ _
    generalize eD : s.heap.objs.size + 1 = D at hoL hD ⊢
    have hHD : H D = none := I.hok.fresh hD
    have s1 := Heap.SameBut.update h1 D (Obj.mapSeq fun _ => (#[] : Array Value))
    obtain ⟨e1, ho1⟩ : ∃ e1, (h1.update D (Obj.mapSeq fun _ => (#[] : Array Value))).get? D = some (seqObj "list" #[] e1) := ⟨_, get?_update_seq hoL fun _ => #[]⟩
    have keep2 : ∀ b o, s.heap.get? b = some o → (h1.update D (Obj.mapSeq fun _ => (#[] : Array Value))).get? b = some o := fun b o e =>
      (s1.2 b (Nat.ne_of_lt (Nat.lt_of_lt_of_le (Heap.lt_size e) hD))).trans (keep b o e)
    have hsize2 : (h1.update D (Obj.mapSeq fun _ => (#[] : Array Value))).objs.size = s.heap.objs.size + 2 := by rw [Heap.size_update, hsize1]
    unfold ksk_tree
    refine wpAny_bind (listItems_at hoL rfl ?_)
    refine wpAny_bind (listUpdate_at hoL rfl ?_ (by rw [List.size_toArray, sizeLine_eq]; omega) (Nat.zero_le _))
    refine wpAny_bind (seqEpoch_at ho1 rfl ?_)
    refine wpAny_bind (wpAny_newTuple ?_ (by show vs.length ≤ _; rw [sizeLine_eq]; omega))
    refine wpAny_bind (wpAny_newList ?_ (Nat.zero_le _))
    refine wpAny_holding ?_
    generalize h1.update D (Obj.mapSeq fun _ => (#[] : Array Value)) = h2 at ho1 keep2 hsize2 ⊢
    show wpAny (model X.prog X.w) A.in1.in1 (ksk_rest D (.ref q) false vs.toArray e1 (.ref (h2.push (seqObj "tuple" vs.toArray 0)).objs.size)) _ _ { s with heap := (h2.push (seqObj "tuple" vs.toArray 0)).push (seqObj "list" #[] 0) }
    have hkS : (h2.push (seqObj "tuple" vs.toArray 0)).objs.size = s.heap.objs.size + 3 := by rw [size_push', hsize2]
    have hoK : ((h2.push (seqObj "tuple" vs.toArray 0)).push (seqObj "list" #[] 0)).get? (h2.push (seqObj "tuple" vs.toArray 0)).objs.size = some (seqObj "list" #[] 0) := Heap.get?_push_size _ rfl
    have hoD : ((h2.push (seqObj "tuple" vs.toArray 0)).push (seqObj "list" #[] 0)).get? D = some (seqObj "list" #[] e1) := Heap.get?_push_of_some _ (Heap.get?_push_of_some _ ho1)
    have keep3 : ∀ b o, s.heap.get? b = some o → ((h2.push (seqObj "tuple" vs.toArray 0)).push (seqObj "list" #[] 0)).get? b = some o := fun b o e => Heap.get?_push_of_some _ (Heap.get?_push_of_some _ (keep2 b o e))
    rw [hkS] at hoK ⊢
    have hkSs : s.heap.objs.size ≤ s.heap.objs.size + 3 := Nat.le_add_right _ _
    have hne : s.heap.objs.size + 3 ≠ D := by omega
    generalize s.heap.objs.size + 3 = kS at hoK hkSs hne ⊢
    generalize (h2.push (seqObj "tuple" vs.toArray 0)).push (seqObj "list" #[] 0) = h3 at hoK hoD keep3 ⊢
    have hHK : H kS = none := I.hok.fresh hkSs
    have I1 : L2.Inv X pins σ (upd H kS (.lst [])) { s with heap := h3 } := I.laid (t' := s.toks) keep3 hkSs ⟨Nat.zero_le _, [], 0, .nil, hoK⟩
    have hDL : D ≠ X.env.locals := Nat.ne_of_gt (Nat.lt_of_lt_of_le I.lt hD)
    have hDc : ∀ x c, X.env.cells.lookup x = some c → c ≠ D := fun x c e => by
      obtain ⟨_, o, ho, _⟩ := I.cell x c e
      exact Nat.ne_of_lt (Nat.lt_of_lt_of_le (Heap.lt_size ho) hD)
    have hDp : ∀ p ∈ X.pn ++ pins, p.1 ≠ D := fun p hp => Nat.ne_of_lt (Nat.lt_of_lt_of_le (Heap.lt_size (I.pin p hp).1) hD)
    have I2 : L2.Inv X ((D, seqObj "list" #[] e1) :: pins) σ (upd H kS (.lst [])) { s with heap := h3 } := I1.pins_of fun p hp => by
      rcases List.mem_cons.mp hp with rfl | hp
      · exact ⟨hoD, by rw [upd_ne hne.symm]; exact hHD, hDL, I.nofs hD, fun v e => by cases e⟩
      · exact I1.pin p (List.mem_append_right _ hp)
    refine rest_ok (H0 := H) I2 (Nat.le_trans I.sz hD) hDc hDp upd_same hHK (fun b o e => by rw [upd_ne (ne_of_none e hHK)]; exact e) rv hZ (by omega) turn fun s' out H' I' hS' hD' ko => ⟨_, rfl, ?_⟩
    refine wpAny_pure ⟨_, rfl, h D (out.map toV) _ s' I' (fun b o e => ?_) hHD upd_same ?_⟩
    · rw [upd_ne (ne_of_none e hHD), upd_ne (ne_of_none e hHK)]
      exact hS' _ _ e
    · obtain ⟨ps, p1, p2, p3⟩ := ko
      refine ⟨ps.map (fun p => (p.1, toV p.2)), ?_, ?_, ?_⟩
      · have e1 : (kz.zip vs).map (fun p => (p.1, toV p.2)) = kz.zip xs := by
          rw [vals_toV rv, List.zip_map_right]
          rfl
        rw [← e1]
        exact p1.map _
      · rw [p2, List.map_map, List.map_map]
        rfl
      · rw [List.pairwise_map]
        exact p3
end
end BS
set_option linter.all false
set_option maxRecDepth 100000
set_option maxHeartbeats 4000000
namespace BS
open PySem PySem.Spec PyProof.Rows PySem.W L2

def SameP (P : Addr) (H H' : Hp) : Prop := ∀ b o, b ≠ P → H b = some o → H' b = some o
theorem SameP.refl (P : Addr) (H : Hp) : SameP P H H := fun _ _ _ h => h
theorem SameP.trans {P : Addr} {H H1 H2 : Hp} (a : SameP P H H1) (b : SameP P H1 H2) : SameP P H H2 := fun c o n h => b c o n (a c o n h)
theorem SameP.of {P : Addr} {H H' : Hp} (h : Same H H') : SameP P H H' := fun b o _ e => h b o e
theorem SameP.seq {P : Addr} {K : PySem.W.Frag} {H H' : Hp} {a : Addr} {xs : List V} (h : SameP P H H') {ps : Array Value} (hP : H P = some (.tbl ps)) (q : SqL K H a xs) : SqL K H' a xs := by
  rcases q with (q | ⟨o, q⟩) | q
  · exact .inl (.inl (h _ _ (ne_of q hP (by intro z; cases z)) q))
  · exact .inl (.inr ⟨o, h _ _ (ne_of q hP (by intro z; cases z)) q⟩)
  · exact .inr q
/-- the code object of the lambda stands at c -/
def codeP (c : Addr) (qual : Str) : Heap → Prop := fun h => ∃ o vs t, h.get? c = some o ∧ o.data = .fields vs ∧ vs[1]? = some (.str qual t)
/-- the table holds the lambda's code -/
def Full (P : Addr) (lpos : Pos) (qual : Str) (c : Addr) (H : Hp) : Prop := H P = some (.tbl #[rawInt lpos.line, rawInt lpos.col, .ref c]) ∧ H c = some (.ext (codeP c qual))
/-- the table is as the top left it, or holds the lambda's code -/
def Tab (P : Addr) (lpos : Pos) (qual : Str) (H : Hp) : Prop := H P = some (.tbl #[]) ∨ ∃ c, Full P lpos qual c H
theorem Tab.tbl {P : Addr} {lpos : Pos} {qual : Str} {H : Hp} (h : Tab P lpos qual H) : ∃ ps, H P = some (.tbl ps) := by
  rcases h with h | ⟨c, h, _⟩
  · exact ⟨_, h⟩
  · exact ⟨_, h⟩
theorem Full.same {P : Addr} {lpos : Pos} {qual : Str} {c : Addr} {H H' : Hp} (h : Full P lpos qual c H) (s : Same H H') : Full P lpos qual c H' := ⟨s _ _ h.1, s _ _ h.2⟩
theorem Tab.same {P : Addr} {lpos : Pos} {qual : Str} {H H' : Hp} (h : Tab P lpos qual H) (s : Same H H') : Tab P lpos qual H' := by
  rcases h with h | ⟨c, h⟩
  · exact .inl (s _ _ h)
  · exact .inr ⟨c, h.same s⟩
def BM (mg : Str → Option Value) (base : Heap) : Prop := ∃ bm ob, mg "__builtins__" = some (.ref bm) ∧ bm ≠ builtinsNs ∧ base.get? bm = some ob ∧ ob.cls = .type "module" ∧ ob.dict = some builtinsNs ∧ ob.data = .plain

section
variable {X : Cx} {pins : List (Addr × Obj)} {σ : L2.St} {H : Hp} {s : Shared}
/-- the table grows -/
theorem grow {P : Addr} {ps more : Array Value} {h' : Heap} {t' : Nat} (I : L2.Inv X pins σ H s) (hP : H P = some (.tbl ps)) (hx : Heap.ExtBut P s.heap h') (htb : h'.get? P = some (tabObj (ps ++ more))) :
    L2.Inv X pins σ (upd H P (.tbl (ps ++ more))) { s with heap := h', toks := t' } := by
  have nb : ∀ b, H b = none → b ≠ P := fun b e z => by rw [z, hP] at e; cases e
  refine I.un ⟨fun b o e n _ _ => hx b o (nb b n) e, fun b o e n _ _ => ⟨o.slots, hx b o (nb b n) e⟩, fun b o e n _ => by rw [upd_ne (nb b n)]; exact n, fun b o e _ => ?_, fun b xs e => ?_, fun b o u e => ?_, fun b qs e => ?_⟩ fun b u e => ?_
  · by_cases hb : b = P
    · exact ⟨_, by rw [hb]; exact htb⟩
    · exact ⟨o, hx b o hb e⟩
  · rw [upd_ne (ne_of e hP (by intro z; cases z))]; exact e
  · rw [upd_ne (ne_of e hP (by intro z; cases z))]; exact e
  · by_cases hb : b = P
    · subst hb
      rw [hP] at e
      cases e
      exact ⟨more, upd_same⟩
    · exact ⟨#[], by rw [upd_ne hb, e]; simp⟩
  · by_cases hb : b = P
    · subst hb
      rw [upd_same] at e
      cases e
      exact htb
    · rw [upd_ne hb] at e
      refine (I.hok b u e).stay (fun c v hc q => hx c v (fun z => ?_) q) (fun c q => ?_) fun c xs q => ?_
      · rcases hc with hc | hc
        · exact hb (hc.symm.trans z)
        · rw [z, hP] at hc; cases hc
      · rw [upd_ne (ne_of q hP (by intro z; cases z))]; exact q
      · rw [upd_ne (ne_of q hP (by intro z; cases z))]; exact q
theorem add_pin {a : Addr} {o : Obj} (I : L2.Inv X pins σ H s) (h1 : s.heap.get? a = some o) (h2 : H a = none) (h3 : X.s₀.heap.objs.size ≤ a) (h4 : a ≠ X.env.locals) (h5 : ∀ v, o.data ≠ .cell v) : L2.Inv X ((a, o) :: pins) σ H s :=
  I.pins_of fun p hp => by
    rcases List.mem_cons.mp hp with rfl | hp
    · refine ⟨h1, h2, h4, fun hb => ?_, h5⟩
      obtain ⟨_, o', ho', _⟩ := I.ok.funs.mem hb
      exact absurd (Nat.lt_of_lt_of_le (Heap.lt_size ho') h3) (Nat.lt_irrefl _)
    · exact I.pin p (List.mem_append_right _ hp)
theorem code_of {c : Addr} {qual : Str} (I : L2.Inv X pins σ H s) (h : H c = some (.ext (codeP c qual))) : s.heap.CodeRec (.ref c) qual := by
  obtain ⟨⟨o, vs, t, h1, h2, h3⟩, _⟩ := I.hok c _ h
  exact ⟨c, o, vs, t, rfl, h1, h2, h3⟩
theorem ext_ok {P : Program} {w : World} {H : Hp} {h : Heap} {c : Addr} {qual : Str} (r : h.CodeRec (.ref c) qual) : ObjOk P w H h c (.ext (codeP c qual)) := by
  obtain ⟨c', o, vs, t, e, h1, h2, h3⟩ := r
  cases e
  refine ⟨⟨o, vs, t, h1, h2, h3⟩, ⟨o, h1⟩, fun h1' h2' ⟨o', vs', t', a, b⟩ k => ⟨o', vs', t', k _ a, b⟩⟩

/-- a lambda is made -/
theorem lam_make {E : Value → Shared → Prop} {A : Around} {c P : Addr} {params : Arguments} {body : Expr} {scope : Scope} {lpos : Pos} {Q : Value → Shared → Prop} (I : L2.Inv X pins σ H s) (hcode : X.env.code = .ref c) (C : CodeHd X.base c P) (B : BM X.mg X.base)
    (hdef : defaultsOf params X.env = ([], [])) (hfree : ∀ y ∈ scope.names, y.2 = .free → ∃ c, X.env.cells.lookup y.1 = some c) (hT : Tab P lpos (X.env.qual ++ "<lambda>") H)
    (h : ∀ (f c' : Addr) (ctv pm : Value) (H' : Hp) (s' : Shared), L2.Inv X ((f, kla_obj "<lambda>" (X.env.qual ++ "<lambda>") params body scope (cloFrom X.env.cells scope.names []) pm c' ctv) :: pins) σ H' s' → SameP P H H' → Full P lpos (X.env.qual ++ "<lambda>") c' H' → Q (.ref f) s') :
    wpAny (model X.prog X.w) A (eval (.Lambda params body scope lpos) X.env) Q E s := by
  obtain ⟨bm, ob, b1, b2, b3, b4, b5, b6⟩ := B
  have hcl := closure_ok (scope := scope) (env := X.env) hfree
  have Ch := C.keeps I.bk
  have hgs := I.mod.glob.keeps I.bk
  have fin : ∀ (c' : Addr) (ctv : Value) (H1 : Hp) (h' : Heap) (tk : Nat), s.heap.objs.size ≤ h'.objs.size → L2.Inv X pins σ H1 { s with heap := h', toks := tk } → SameP P H H1 → Full P lpos (X.env.qual ++ "<lambda>") c' H1 →
      Q (.ref h'.objs.size) { s with heap := h'.push (kla_obj "<lambda>" (X.env.qual ++ "<lambda>") params body scope (cloFrom X.env.cells scope.names []) ((X.mg "__name__").getD .none) c' ctv), toks := tk } := fun c' ctv H1 h' tk hsz I1 hS hF => by
    have I2 : L2.Inv X pins σ H1 { s with heap := h'.push (kla_obj "<lambda>" (X.env.qual ++ "<lambda>") params body scope (cloFrom X.env.cells scope.names []) ((X.mg "__name__").getD .none) c' ctv), toks := tk } :=
      I1.kept (t' := tk) fun b u e => Heap.get?_push_of_some _ e
    exact h _ c' ctv _ H1 _ (add_pin I2 (Heap.get?_push_size _ rfl) (I1.hok.fresh (Nat.le_refl _)) (Nat.le_trans I.sz hsz) (Nat.ne_of_gt (Nat.lt_of_lt_of_le I.lt hsz)) fun v e => by cases e) hS hF
  refine kla_eval hdef ?_
  have hbG : bm ≠ mainGlobals := fun q => by
    obtain ⟨o, es, ep, e, hd, _⟩ := I.mod.glob
    rw [q, e] at b3; cases b3; rw [hd] at b6; cases b6
  have hbP : ∀ {u : HO}, H P = some u → bm ≠ P := fun hP q => by
    have := (I.bs bm ob b3).2
    rw [q, hP] at this; cases this
  rcases hT with hP | ⟨c', hP, hc'⟩
  · have hgP : mainGlobals ≠ P := fun q => by
      obtain ⟨o, es, ep, e, hd, _⟩ := I.mod.glob
      have := (I.bs _ _ e).2
      rw [q, hP] at this; cases this
    have hPs : s.heap.get? P = some (tabObj #[]) := I.hok P _ hP
    refine kla_makeFunction (mg := X.mg) hcl I.ok.glob hgs hcode Ch hPs trivial rfl hgP ⟨bm, ob, b1, b2, hbG, hbP hP, I.bk _ _ b3, b4, b5, b6⟩ fun c' ctv h' tk hx hge hlt hrec htb => ?_
    have I1 := grow (t' := tk) I hP hx htb
    have hPlt : P < s.heap.objs.size := Heap.lt_size hPs
    have hcP : c' ≠ P := Nat.ne_of_gt (Nat.lt_of_lt_of_le hPlt hge)
    have hcn : H c' = none := I.hok.fresh hge
    have I2 : L2.Inv X pins σ (upd (upd H P (.tbl (#[] ++ #[rawInt lpos.line, rawInt lpos.col, .ref c']))) c' (.ext (codeP c' (X.env.qual ++ "<lambda>")))) { s with heap := h', toks := tk } :=
      track I1 (Nat.le_trans I.sz hge) (by rw [upd_ne hcP]; exact hcn) (Nat.ne_of_gt (Nat.lt_of_lt_of_le I.lt hge))
        (fun x c e => by
          obtain ⟨_, o, ho, _⟩ := I.cell x c e
          exact Nat.ne_of_lt (Nat.lt_of_lt_of_le (Heap.lt_size ho) hge))
        (fun p hp => Nat.ne_of_lt (Nat.lt_of_lt_of_le (Heap.lt_size (I.pin p hp).1) hge)) (ext_ok hrec)
    refine fin c' ctv _ h' tk (Nat.le_of_lt (Nat.lt_of_le_of_lt hge hlt)) I2 (fun b o hb e => ?_) ⟨?_, upd_same⟩
    · rw [upd_ne (ne_of_none e hcn), upd_ne hb]
      exact e
    · rw [upd_ne hcP.symm, upd_same]
      simp
  · have hPs : s.heap.get? P = some (tabObj #[rawInt lpos.line, rawInt lpos.col, .ref c']) := I.hok P _ hP
    refine kla_makeFunctionHit (mg := X.mg) (cv := .ref c') hcl I.ok.glob hgs hcode Ch hPs trivial (by simp [codeAmong, rawInt]) ⟨bm, ob, b1, b2, hbG, hbP hP, I.bk _ _ b3, b4, b5, b6⟩ fun ctv h' tk hk hsz => ?_
    exact fin c' ctv H h' tk hsz (I.kept (t' := tk) hk) (SameP.refl _ _) ⟨hP, hc'⟩
end

def lamCx (X : Cx) (A : Around) (N : List Str) (s : Shared) (H : Hp) (env : Env) : Cx :=
  { X with A := A.deeper env, N := N, s₀ := s, H₀ := H, env := env, outer := X.stack, stack := env :: X.stack, ex := [], fn := fun _ => false, calm := true, pn := [], xe := fun _ _ => False }
section
variable {X : Cx} {pins : List (Addr × Obj)} {σ : L2.St} {H : Hp} {s : Shared}
theorem lam_inv {A : Around} {x y : Str} {scope : Scope} {qual : Str} {f cy : Addr} {cdv : Value} {h₁ : Heap} {tk j : Nat} {u : Value} {v vg : V} {m : Str → Option Value} (I : L2.Inv X pins σ H s) (hA : A.frames = some X.stack) (hh : A.handled = none) (hk : scope.kind = .function)
    (hx : scope.names.lookup x = some .local) (hy : scope.names.lookup y = some .free) (honly : ∀ z, (scope.names.lookup z = some .cell ∨ scope.names.lookup z = some .free) → z = y)
    (hcy : X.env.cells.lookup y = some cy) (hky : X.env.kindOf y = some .cell) (hNy : X.N[j]? = some y) (hσ : σ[j]? = some (some vg)) (hns : h₁.Ns s.heap.objs.size m) (hm : m x = some u) (rv : RelV v u)
    (hkeep : ∀ b o, s.heap.get? b = some o → h₁.get? b = some o) :
    L2.Inv (lamCx X A [x, y] s H (envX qual scope s.heap.objs.size f cdv [(y, cy)])) [] [some v, some vg] H { s with heap := h₁, toks := tk } := by
  have noA : ∀ b : Addr, b ∉ (lamCx X A [x, y] s H (envX qual scope s.heap.objs.size f cdv [(y, cy)])).ex := fun b z => absurd (show b ∈ ([] : List Addr) from z) (by simp)
  have look : ∀ z c, List.lookup z [(y, cy)] = some c → z = y ∧ c = cy := fun z c e => by
    rw [List.lookup_cons] at e
    cases hb : z == y with
    | true => rw [hb] at e; cases e; exact ⟨eq_of_beq hb, rfl⟩
    | false => rw [hb] at e; cases e
  have looky : List.lookup y [(y, cy)] = some cy := by rw [List.lookup_cons]; simp
  refine ⟨⟨I.ok.mod, hk, rfl, rfl, Nat.le_refl _, fun a b c h1 h2 => ?_, fun z hz => ?_, fun z c h => absurd (show false = true from h) Bool.false_ne_true, fun _ => hh, Around.frames_deeper hA, .inr ⟨rfl, rfl⟩, fun b z => absurd z (noA b), I.bs, Nat.le_trans I.ok.bsz I.sz, fun b _ _ => noA b, fun b z => absurd z (noA b), I.stack, I.stkFree⟩,
    rfl, I.bare, Un.kept hkeep, ⟨m, hns, fun i z v' h1 h2 h3 => ?_⟩, fun z c h => ?_, I.hok.fresh (Nat.le_refl _), fun z c h => ?_, fun p hp => absurd (show p ∈ ([] : List (Addr × Obj)) from hp) (by simp), I.hok.kept hkeep, rfl⟩
  · exact (look a c h1).1.trans (look b c h2).1.symm
  · have hz : scope.names.lookup z = some .cell ∨ scope.names.lookup z = some .free := hz
    exact ⟨cy, by rw [honly z hz]; exact looky⟩
  · match i, h1, h2 with
    | 0, h1, h2 =>
      have e1 : x = z := by simpa [lamCx] using h1
      have e2 : v = v' := by simpa using h2
      subst e1; subst e2
      exact ⟨u, rv, .inl ⟨hx, hm⟩⟩
    | 1, h1, h2 =>
      have e1 : y = z := by simpa [lamCx] using h1
      have e2 : vg = v' := by simpa using h2
      subst e1; subst e2
      obtain ⟨mo, _, hl⟩ := I.loc
      obtain ⟨ug, rg, lk⟩ := hl j y vg hNy hσ (.inr (.inl hky))
      rcases lk with ⟨q, _⟩ | ⟨_, c, e, ic⟩
      · rw [hky] at q; cases q
      · rw [hcy] at e
        cases e
        obtain ⟨o, ho, hd⟩ := ic
        exact ⟨ug, rg, .inr ⟨.inr hy, cy, looky, o, hkeep _ _ ho, hd⟩⟩
    | i + 2, h1, h2 => simp at h2
  · obtain ⟨_, rfl⟩ := look z c h
    obtain ⟨w, o, ho, hd⟩ := I.cell y c hcy
    exact ⟨w, o, hkeep _ _ ho, hd⟩
  · obtain ⟨_, rfl⟩ := look z c h
    exact I.freeC y c hcy
theorem lam_call {A : Around} {k : Nat} {x y : Str} {params : Arguments} {body : Expr} {scope : Scope} {name qual : Str} {f cy c' : Addr} {ctv pm : Value} {j : Nat} {u : Value} {v vg : V} {t : TE} {Q : VK} (I : L2.Inv X pins σ H s)
    (hr : Room k A) (hA : A.frames = some X.stack) (hobj : s.heap.get? f = some (kla_obj name qual params body scope [(y, cy)] pm c' ctv)) (hcd : s.heap.CodeRec (.ref c') qual) (hk : scope.kind = .function) (hco : scope.isCoroutine = false) (hgen : scope.isGenerator = false)
    (hx : scope.names.lookup x = some .local) (hy : scope.names.lookup y = some .free) (honly : ∀ z, (scope.names.lookup z = some .cell ∨ scope.names.lookup z = some .free) → z = y) (hcell : ∀ z ∈ scope.names, z.2 ≠ .cell)
    (hbind : ∀ u, bindArgs (kla_fn name qual params body scope [(y, cy)] pm (.ref c') ctv) ⟨[u], []⟩ = pure [(x, u)])
    (hcy : X.env.cells.lookup y = some cy) (hky : X.env.kindOf y = some .cell) (hNy : X.N[j]? = some y) (hσ : σ[j]? = some (some vg)) (rv : RelV v u)
    (hb : PE (lamCx X A [x, y] s H (envX qual scope s.heap.objs.size f (.ref c') [(y, cy)])) body t) (ht : t [some v, some vg] H Q) :
    wpAny (model X.prog X.w) A (call (.ref f) [u]) (EP X pins σ Q) (fun _ _ => False) s := by
  refine wpAny_call (codeAny_mono (R := CR CX0 X.stack X.prog X.w H s Q E0) (kla_callFunE hr.depth hobj rfl hco hgen rfl hcd ?_) fun r s' hq => ?_)
  · rw [hbind]
    refine wpAny_pure (wpAny_newFunctionEnv hcell (fun z hz => ?_) (fun h₁ hns hsb => ⟨I.nolimit.fresh _ hsb, ?_⟩) hk)
    · obtain rfl : z = (x, u) := by simpa using hz
      exact hx
    · show codeAny _ _ (.expr body (envX qual scope s.heap.objs.size f (.ref c') [(y, cy)])) _ _
      have hk₁ : ∀ b o, s.heap.get? b = some o → h₁.get? b = some o := fun b o e => hsb.extBut b o (Nat.ne_of_lt (Heap.lt_size e)) (Heap.get?_push_of_some _ e)
      have I1 := lam_inv (A := A) (qual := qual) (f := f) (cdv := .ref c') (tk := s.toks + [(x, u)].length) I hA hr.hd hk hx hy honly hcy hky hNy hσ hns (by show List.lookup x ([(x, u)] : List (Str × Value)).reverse = some u; simp) rv hk₁
      refine kla_codeExpr (wpAny_mono (hb [] _ _ H Q I1 ht) (fun u' s' ⟨v', H', J, r', q'⟩ => ?_) fun e s' z => False.elim z)
      exact ⟨v', H', J.os, J.bare, J.base, J.hok, r', q'⟩
  · cases r with
    | error e => exact False.elim hq
    | ok fl =>
      cases fl with
      | ret u => exact I.after hq
      | next => exact False.elim hq
      | brk => exact False.elim hq
      | cont => exact False.elim hq
end
end BS
set_option linter.all false
set_option maxRecDepth 100000
set_option maxHeartbeats 4000000
namespace BS
open PySem PySem.Spec PyProof.Rows PySem.W L2

def Ordered (kz : List (List IK)) (xs ys : List V) : Prop :=
  ∃ ps : List (List IK × V), ps.Perm (kz.zip xs) ∧ ys = ps.map Prod.snd ∧ ps.Pairwise (fun p q => PyProof.Rows.lexLt itemOrd q.1 p.1 = false)
/-- sorted(e, key=lambda x: f(x, y)), y the name in slot j; v: e's value -/
def SortK (K : PySem.W.Frag) (P : Addr) (lpos : Pos) (qual : Str) (j : Nat) (sp : Sp) (σ : L2.St) (Q : VK) (x : V) (H1 : Hp) : Prop := ∃ (l : Addr) (xs : List V) (kz : List (List IK)) (vg : V), x = .ref l ∧ SqL K H1 l xs ∧ kz.length = xs.length ∧
  Tab P lpos qual H1 ∧ σ[j]? = some (some vg) ∧ (∀ (i : Nat) (v : V) (z : List IK), xs[i]? = some v → kz[i]? = some z → ∀ H', SameP P H1 H' → sp [v, vg] H' (KeyQ H' z) E0) ∧
  ∀ (D : Addr) (ys : List V) (H' : Hp) (c : Addr), SameP P H1 H' → Full P lpos qual c H' → H1 D = none → H' D = some (.lst ys) → Ordered kz xs ys → Q (.ref D) H'
def tSortK (K : PySem.W.Frag) (P : Addr) (lpos : Pos) (qual : Str) (j : Nat) (sp : Sp) (te : TE) : TE := fun σ H Q => te σ H (SortK K P lpos qual j sp σ Q)
def one (f : V → Hp → Prop) (vs : List V) (H : Hp) : Prop := match vs with
  | [x] => f x H
  | _ => False

theorem pe_sortK {X : Cx} {e : Expr} {te : TE} {p pos kpos lpos p2 px py cpos : Pos} {params : Arguments} {scope : Scope} {x y fnm : Str} {c P cy ff : Addr} {k j : Nat} {fd : FuncData} {ps : List Str} {sp : Sp}
    (he : PE X e te) (hg : Gl X "sorted") (hm : X.mg "sorted" = none) (hcode : X.env.code = .ref c) (C : CodeHd X.base c P) (B : BM X.mg X.base) (hdef : defaultsOf params X.env = ([], []))
    (hcl : cloFrom X.env.cells scope.names [] = [(y, cy)]) (hfree : ∀ z ∈ scope.names, z.2 = .free → z.1 = y)
    (hk : scope.kind = .function) (hco : scope.isCoroutine = false) (hgen : scope.isGenerator = false) (hx : scope.names.lookup x = some .local) (hy : scope.names.lookup y = some .free)
    (honly : ∀ z, (scope.names.lookup z = some .cell ∨ scope.names.lookup z = some .free) → z = y) (hcell : ∀ z ∈ scope.names, z.2 ≠ .cell)
    (hbind : ∀ (qual : Str) (body : Expr) (cl : List (Str × Addr)) (pm cd ctv u : Value), bindArgs (kla_fn "<lambda>" qual params body scope cl pm cd ctv) ⟨[u], []⟩ = pure [(x, u)])
    (hcy : X.env.cells.lookup y = some cy) (hky : X.env.kindOf y = some .cell) (hNy : X.N[j]? = some y)
    (hr : Room (k + 2) X.A) (F : FnOk X.prog X.w X.K X.mg X.base CX0 k ff fd ps sp) (hgf : scope.names.lookup fnm = some .globalImplicit) (hmf : X.mg fnm = some (.ref ff)) (hkf : PySem.W.keepIn X.K (.ref ff) = true) (hbf : Binds X.K fd ps [])
    (hdx : (x == ("__debug__" : Str)) = false := by decide) (hcx : (x == ("__classdict__" : Str)) = false := by decide) (hdy : (y == ("__debug__" : Str)) = false := by decide) (hcy2 : (y == ("__classdict__" : Str)) = false := by decide) (hdf : (fnm == ("__debug__" : Str)) = false := by decide)
    (hs : starEach [e] X.env = [(false, eval e X.env)] := by rfl) :
    PE X (.Call (.Name "sorted" p) [e] [⟨some "key", .Lambda params (.Call (.Name fnm p2) [.Name x px, .Name y py] [] cpos) scope lpos, kpos⟩] pos) (tSortK X.K P lpos (X.env.qual ++ "<lambda>") j sp te) := by
  intro pins s σ H Q I h
  refine wpAny_Call_Name_kw (ld_blt I hg hm boot_sorted ?_ (by decide) (by decide))
  have ha : PA X [e] (tCons te tNil) := pa_cons he pa_nil (by rw [hs]; rfl)
  refine callWith_builtin_kwB (first := []) (by rw [hs]; rfl) rfl (evalArgs_kw2 rfl (thn (ha pos pins s σ H (one (SortK X.K P lpos (X.env.qual ++ "<lambda>") j sp σ Q)) I h) fun us s1 ⟨vs, H1, I1, r1, q1⟩ => ?_) (by rw [hs]; rfl))
  match vs, q1, r1 with
  | [v0], q1, .cons r1 .nil =>
    obtain ⟨l, xs, kz, vg, rfl, hS, hlz, hT, hσ, turn, done⟩ := q1
    cases r1
    obtain ⟨pt, hPt⟩ := hT.tbl
    refine wpAny_evalAll_cons (wpAny_bind (lam_make I1 hcode C B hdef (fun z hz e => ⟨cy, by rw [hfree z hz e]; exact hcy⟩) hT fun f c' ctv pm H2 s2 I2 hS2 hF2 => ?_))
    rw [hcl] at I2
    refine wpAny_bind (wpAny_standAt (wpAny_pure (wpAny_evalAll_nil ?_)))
    show wpAny (model X.prog X.w) X.A (call (.builtin "sorted") [.ref l] [(Str.ofString "key", .ref f)]) (EP X pins σ Q) X.xe s2
    refine sorted_key (A := X.A) I2 (hS2.seq hPt hS) hlz (fun i v u z hv hz rv pins' H' s' hsub I' hS' => ?_) fun D ys H' s' I' hS' hD hD' ho => ?_
    · have hobj := (I'.pin _ (List.mem_append_right _ (hsub _ List.mem_cons_self))).1
      have hF' := hF2.same hS'
      have hrm : Room k (X.A.in1.in1.deeper (envX (X.env.qual ++ "<lambda>") scope s'.heap.objs.size f (.ref c') [(y, cy)])) := by
        have h1 := hr.dp
        have h2 := hr.un
        refine ⟨hr.hd, ?_, ?_⟩
        · show X.A.depth + 1 + 3 * k + 5 < _
          omega
        · show X.A.units + 1 + 1 + 3 + 16 * k + 200 < _
          omega
      exact lam_call (k := k) I' ⟨hr.hd, by have := hr.dp; show X.A.depth + 3 * k + 5 < _; omega, by have := hr.un; show X.A.units + 1 + 1 + 16 * k + 200 < _; omega⟩ I.ok.frames hobj (code_of I' hF'.2) hk hco hgen hx hy honly hcell (fun u => hbind _ _ _ _ _ _ u) hcy hky hNy hσ rv
        (pe_call (X := lamCx X X.A.in1.in1 [x, y] s' H' (envX (X.env.qual ++ "<lambda>") scope s'.heap.objs.size f (.ref c') [(y, cy)])) (dvs := []) (E := E0) F hrm hgf hmf hkf hbf .nil pass0
          (pa_cons (pe_var (i := 0) rfl (.inl hx) hdx hcx) (pa_cons (pe_var (i := 1) rfl (.inr (.inr hy)) hdy hcy2) pa_nil)) hdf)
        ⟨v, rfl, vg, rfl, turn i v z hv hz H' (hS2.trans (SameP.of hS'))⟩
    · have hPD : D ≠ P := fun e => by rw [e, hF2.1] at hD; cases hD
      refine ⟨.ref D, H', drop_pin I', rfl, done D ys H' c' (hS2.trans (SameP.of hS')) (hF2.same hS') ?_ hD' ho⟩
      cases q : H1 D with
      | none => rfl
      | some o => rw [hS2 _ _ hPD q] at hD; cases hD
end BS
set_option linter.all false
set_option maxRecDepth 100000
set_option maxHeartbeats 4000000
namespace BS
open PySem PySem.Spec PyProof.Rows PySem.W L2

theorem ints_vals : ∀ {ns : List Int} {us : List Value}, Vals (ns.map V.int) us → IntsAre us ns
  | [], _, .nil => .nil
  | n :: ns, _, .cons r t => by
    obtain ⟨tk, e⟩ := r
    rw [e]
    exact .cons n tk (ints_vals t)
theorem range_vals {n : Nat} {acc : Array Value} (h1 : acc.size = n) (h2 : ∀ (j : Nat) (v : Value), acc[j]? = some v → ∃ t, v = .int (0 + (j : Int) * 1) t) : Vals ((List.range n).map (fun i : Nat => V.int (i : Int))) acc.toList := by
  have key : ∀ (l : List Value) (k : Nat), (∀ (j : Nat) (v : Value), l[j]? = some v → ∃ t, v = .int ((k + j : Nat) : Int) t) → Vals ((List.range' k l.length).map (fun i : Nat => V.int (i : Int))) l := by
    intro l
    induction l with
    | nil => intro k _; exact .nil
    | cons a l ih =>
      intro k h
      rw [List.length_cons, List.range'_succ, List.map_cons]
      refine .cons ?_ (ih (k + 1) fun j v e => ?_)
      · obtain ⟨t, e⟩ := h 0 a rfl
        exact ⟨t, e⟩
      · obtain ⟨t, q⟩ := h (j + 1) v e
        exact ⟨t, by rw [q]; congr 2; omega⟩
  have := key acc.toList 0 fun j v e => by
    obtain ⟨t, q⟩ := h2 j v (by rw [← Array.getElem?_toList]; exact e)
    exact ⟨t, by rw [q]; congr 1; omega⟩
  rw [Array.length_toList, h1] at this
  rw [List.range_eq_range']
  exact this
/-- how many different ints there are -/
def distN (ns : List Int) : Nat := (firstMet (fun i => ns.getD i 0) ns.length).length
section
variable {X : Cx}
theorem cr_set (hc : X.calm = true) : CallR X (.type "set") (fun xs H Q => ∃ (a : Addr) (ns : List Int), xs = [V.ref a] ∧ SqL X.K H a (ns.map V.int) ∧ ns.length + 1 < scanBound ∧ ∀ p S, H p = none → Q (.ref p) (upd H p (.set S (distN ns)))) := by
  intro pins s σ H xs us Q I r h
  obtain ⟨a, ns, rfl, hq, hb, q⟩ := h
  obtain ⟨u, rfl, rx⟩ := vals1 r
  cases rx
  obtain ⟨its, r', pl, hz⟩ := I.list hq
  have hi := ints_vals r'
  have hlen : its.length = ns.length := hi.length
  refine call_set_list (items := its.toArray) (ns := ns) (I.ok.hd hc) pl.isList (by simpa using hi) (by rw [List.size_toArray, hlen]; exact hb) fun h' tk hS hk => ?_
  have hsz : its.toArray.size = ns.length := by rw [List.size_toArray, hlen]
  rw [hsz] at hS
  exact ⟨.ref s.heap.objs.size, _, I.laid (t' := tk) (o := .set _ (distN ns)) (fun b o e => hk b o (Heap.lt_size e) e) (Nat.le_refl _) hS, rfl, q _ _ (I.hok.fresh (Nat.le_refl _))⟩
theorem cr_lenSet : CallR X (.builtin "len") (fun xs H Q => ∃ (a : Addr) (S : Int → Bool) (n : Nat), xs = [V.ref a] ∧ H a = some (.set S n) ∧ Q (.int n) H) := by
  intro pins s σ H xs us Q I r h
  obtain ⟨a, S, n, rfl, hq, q⟩ := h
  obtain ⟨u, rfl, rx⟩ := vals1 r
  cases rx
  obtain ⟨o, es, ep, t, ho, hex, hd, _, _, hb, hf, rfl⟩ := I.hok a _ hq
  have hb' : es.size < 4096 := hb
  exact call_len_set ho hex hd hf (by omega) ⟨.int es.size, H, I.tok _, ⟨_, rfl⟩, q⟩
/-- list(range(e)) -/
theorem pe_listRange {e : Expr} {te : TE} {p pos p2 pos2 : Pos} (he : PE X e te) (hc : X.calm = true) (hg : Gl X "list") (hm : X.mg "list" = none) (hg2 : Gl X "range") (hm2 : X.mg "range" = none)
    (hs : starEach [e] X.env = [(false, eval e X.env)] := by rfl) :
    PE X (.Call (.Name "list" p) [.Call (.Name "range" p2) [e] [] pos2] [] pos) (fun σ H Q => te σ H fun x H1 => ∃ n : Nat, x = .int n ∧ n ≤ 2 ^ 24 ∧ ∀ l, H1 l = none → Q (.ref l) (upd H1 l (.lst ((List.range n).map (fun i : Nat => V.int (i : Int)))))) := by
  intro pins s σ H Q I h
  have ha : PA X [e] (tCons te tNil) := pa_cons he pa_nil (by rw [hs]; rfl)
  refine Call_ (ld_blt I hg hm boot_list (PyProof.Rows.callWith_type1 (T := "list") (e := .Call (.Name "range" p2) [e] [] pos2) (rest := []) ?_ rfl rfl))
  show wpAny _ _ (spliced ((false, eval (.Call (.Name "range" p2) [e] [] pos2) X.env) :: [])) _ _ s
  refine Calls.spliced_cons ?_
  refine Call_ (ld_blt I hg2 hm2 boot_range (PyProof.Rows.callWith_type1 (thn (ha pos2 pins s σ H (one (fun x H1 => ∃ n : Nat, x = .int n ∧ n ≤ 2 ^ 24 ∧ ∀ l, H1 l = none → Q (.ref l) (upd H1 l (.lst ((List.range n).map (fun i : Nat => V.int (i : Int))))))) I h) fun us s1 ⟨vs, H1, I1, r1, q1⟩ => ?_) hs rfl))
  match vs, q1, r1 with
  | [v0], q1, .cons r1 .nil =>
    obtain ⟨n, rfl, hn, q⟩ := q1
    obtain ⟨t, rfl⟩ := r1
    refine call_range_1 ?_
    refine Calls.spliced_nil ?_
    have I2 : L2.Inv X pins σ H1 { s1 with heap := s1.heap.push { cls := .type "range", data := .fields #[.int 0 s1.toks, .int n t, .int 1 (s1.toks + 1)] }, toks := s1.toks + 1 + 1 } := I1.kept (t' := s1.toks + 1 + 1) fun b o e => Heap.get?_push_of_some _ e
    have hsmall : Builtin.Range.small 0 (n : Int) 1 = true := small_one (by omega) (by omega) (by omega) (by omega)
    refine call_list_range (n := n) (I.ok.hd hc) (IsRange.new ..) hsmall (by rw [rangeSize_one]; split <;> omega) hn fun h' tk acc' c' hk hS' hacc => ?_
    refine ⟨.ref (s1.heap.push { cls := .type "range", data := .fields #[.int 0 s1.toks, .int n t, .int 1 (s1.toks + 1)] }).objs.size, _, I2.laid (t' := tk) hk (Nat.le_refl _) (o := .lst ((List.range n).map (fun i : Nat => V.int (i : Int)))) ⟨?_, acc'.toList, c', ?_, by rw [Array.toArray_toList]; exact hS'⟩, rfl, q _ (I2.hok.fresh (Nat.le_refl _))⟩
    · rw [List.length_map, List.length_range, sizeLine_eq]
      omega
    · exact range_vals hacc.1 hacc.2
end
theorem dedup_len : ∀ (l acc : List Int), (l.foldl step_dedup acc).length ≤ acc.length + l.length
  | [], acc => by simp
  | x :: l, acc => by
    rw [List.foldl_cons]
    have h1 := dedup_len l (step_dedup acc x)
    have h2 : (step_dedup acc x).length ≤ acc.length + 1 := by
      unfold step_dedup
      split
      · omega
      · rw [List.length_append]; exact Nat.le_refl _
    rw [List.length_cons]
    omega
theorem dedup_iff : ∀ (l acc : List Int), (l.foldl step_dedup acc).length = acc.length + l.length ↔ l.Nodup ∧ ∀ x ∈ l, ¬ x ∈ acc
  | [], acc => by simp
  | x :: l, acc => by
    rw [List.foldl_cons]
    by_cases hx : x ∈ acc
    · have e : step_dedup acc x = acc := by
        unfold step_dedup
        rw [if_pos (List.any_eq_true.mpr ⟨x, hx, by simp⟩)]
      rw [e]
      have := dedup_len l acc
      constructor
      · intro h
        rw [List.length_cons] at h
        omega
      · rintro ⟨_, h⟩
        exact absurd hx (h x List.mem_cons_self)
    · have e : step_dedup acc x = acc ++ [x] := by
        unfold step_dedup
        rw [if_neg]
        intro h
        obtain ⟨y, hy, e⟩ := List.any_eq_true.mp h
        have : y = x := by simpa using e
        exact hx (this ▸ hy)
      rw [e]
      have ih := dedup_iff l (acc ++ [x])
      rw [List.length_append] at ih
      have e2 : acc.length + (x :: l).length = acc.length + [x].length + l.length := by simp; omega
      rw [e2, ih, List.nodup_cons]
      constructor
      · rintro ⟨h1, h2⟩
        refine ⟨⟨fun m => (h2 x m) (by simp), h1⟩, fun y hy => ?_⟩
        rcases List.mem_cons.mp hy with rfl | hy
        · exact hx
        · exact fun m => h2 y hy (List.mem_append_left _ m)
      · rintro ⟨⟨h1, h2⟩, h3⟩
        refine ⟨h2, fun y hy m => ?_⟩
        rcases List.mem_append.mp m with m | m
        · exact h3 y (List.mem_cons_of_mem _ hy) m
        · have : y = x := by simpa using m
          exact h1 (this ▸ hy)
theorem range_getD (ns : List Int) : (List.range ns.length).map (fun i => ns.getD i 0) = ns := by
  refine List.ext_getElem? fun i => ?_
  rw [List.getElem?_map]
  by_cases h : i < ns.length
  · rw [List.getElem?_range h]
    show some (ns.getD i 0) = _
    rw [List.getD_eq_getElem?_getD, List.getElem?_eq_getElem h]
    rfl
  · rw [List.getElem?_eq_none (by simpa using h), List.getElem?_eq_none (by simpa using h)]
    rfl
theorem distN_iff (ns : List Int) : distN ns = ns.length ↔ ns.Nodup := by
  unfold distN firstMet
  rw [range_getD]
  have := dedup_iff ns []
  simpa using this
end BS
set_option linter.all false
set_option maxRecDepth 100000
set_option maxHeartbeats 4000000
namespace BS
open PySem PySem.Spec PyProof.Rows PySem.W L2

def frzOf (o : Obj) : HO := .frz o (.lst (match o.data with | .seq its _ => its.toList.map toV | _ => []))
def Frz (K : PySem.W.Frag) (h : Heap) (Pt a1 a2 a3 : Addr) : Hp := fun b =>
  if b = Pt then some (.tbl #[]) else if (b = a1 ∨ b = a2 ∨ b = a3) ∧ K.lookup b = none then (h.get? b).map frzOf else none
abbrev listO (vs : List Value) : Obj := { cls := .type "list", data := .seq vs.toArray }
theorem frz_list {vs : List Value} {ns : List Int} (hi : IntsAre vs ns) : frzOf (listO vs) = .frz (listO vs) (.lst (ns.map V.int)) := by
  unfold frzOf
  show HO.frz (listO vs) (.lst (vs.map toV)) = _
  rw [← vals_toV (vals_ints hi)]
theorem reads_ints {R : WRecords} {cl : Str → Option Addr} {h : Heap} : ∀ {ns : List Int} {us : List Value}, Vals (ns.map V.int) us → ReadsAllW R cl h us (ns.map WData.int) []
  | [], _, .nil => .nil
  | n :: ns, _, .cons r t => by
    obtain ⟨tk, e⟩ := r
    rw [e]
    exact .cons (as := []) (bs := []) (.int n tk) (reads_ints t)

theorem spec_call {P : Program} {w : World} {K : PySem.W.Frag} {mg mb : Str → Option Value} {k : Nat} {fa a1 a2 a3 c Pt : Addr} {fd : FuncData} {x1 x2 x3 : Str} {sp : Sp} {s₁ : Shared} {vs1 vs2 vs3 : List Value} {ns1 ns2 ns3 out : List Int}
    (KX : K.In s₁.heap) (hns : s₁.heap.Ns mainGlobals mg) (hb : s₁.heap.Ns builtinsNs mb) (hbb : ∀ x : Str, x ≠ "__name__" → mb x = bootBuiltins x) (hlim : s₁.heap.NoLimit) (hg : s₁.gens = #[])
    (h1 : s₁.heap.get? a1 = some (listO vs1)) (hi1 : IntsAre vs1 ns1) (hl1 : ns1.length ≤ sizeLine) (h2 : s₁.heap.get? a2 = some (listO vs2)) (hi2 : IntsAre vs2 ns2) (hl2 : ns2.length ≤ sizeLine)
    (h3 : s₁.heap.get? a3 = some (listO vs3)) (hi3 : IntsAre vs3 ns3) (hl3 : ns3.length ≤ sizeLine) (hT : s₁.heap.get? Pt = some (tabObj #[])) (hnt : noTabs K = true) (C : CodeHd s₁.heap c Pt) (B : BM mg s₁.heap) (hr : Room k callerA)
    (F : ∀ base : Heap, K.In base → base.Ns mainGlobals mg → CodeHd base c Pt → BM mg base → FnOk P w K mg base CX0 k fa fd [x1, x2, x3] sp) (hbind : ∀ (s : Shared) (u1 u2 u3 : Value), BindsTo s fd ⟨[u1, u2, u3], []⟩ [(x1, u1), (x2, u2), (x3, u3)])
    (hsp : ∀ H : Hp, SqL K H a1 (ns1.map V.int) → SqL K H a2 (ns2.map V.int) → SqL K H a3 (ns3.map V.int) → H Pt = some (.tbl #[]) → sp [.ref a1, .ref a2, .ref a3] H (fun v H' => ∃ l, v = .ref l ∧ H' l = some (.lst (out.map V.int))) E0) :
    codeAny (model P w) callerA (.call (.ref fa) ⟨[.ref a1, .ref a2, .ref a3], []⟩) (fun r s' => ∃ l us n, r = .ok (.ret (.ref l)) ∧ s'.heap.get? l = some { cls := .type "list", data := .seq (List.toArray us) n } ∧ Vals (out.map V.int) us ∧ OldK s₁.heap s'.heap ∧ s'.os = s₁.os ∧ AllBare s'.gens) s₁ := by
  have nP : ∀ {b : Addr} {vs : List Value}, s₁.heap.get? b = some (listO vs) → b ≠ Pt := fun e z => by rw [z, hT] at e; cases e
  have kP : K.lookup Pt = none := by
    cases q : K.lookup Pt with
    | none => rfl
    | some o =>
      have e := KX Pt o q
      rw [hT] at e
      cases e
      have h2 := List.all_eq_true.mp hnt (Pt, tabObj #[]) (mem_of_lookupK q)
      exact absurd (show false = true from h2) Bool.false_ne_true
  have hHP : Frz K s₁.heap Pt a1 a2 a3 Pt = some (.tbl #[]) := by unfold Frz; rw [if_pos rfl]
  have hHn : ∀ b o, Frz K s₁.heap Pt a1 a2 a3 b = some o → b = Pt ∨ ((b = a1 ∨ b = a2 ∨ b = a3) ∧ K.lookup b = none ∧ ∃ vs ns, s₁.heap.get? b = some (listO vs) ∧ IntsAre vs ns ∧ ns.length ≤ sizeLine ∧ o = .frz (listO vs) (.lst (ns.map V.int))) := fun b o e => by
    unfold Frz at e
    by_cases hbP : b = Pt
    · exact .inl hbP
    rw [if_neg hbP] at e
    by_cases hc : (b = a1 ∨ b = a2 ∨ b = a3) ∧ K.lookup b = none
    · rw [if_pos hc] at e
      right
      refine ⟨hc.1, hc.2, ?_⟩
      rcases hc.1 with rfl | rfl | rfl
      · rw [h1] at e; exact ⟨vs1, ns1, h1, hi1, hl1, by rw [← frz_list hi1]; exact (Option.some.inj e).symm⟩
      · rw [h2] at e; exact ⟨vs2, ns2, h2, hi2, hl2, by rw [← frz_list hi2]; exact (Option.some.inj e).symm⟩
      · rw [h3] at e; exact ⟨vs3, ns3, h3, hi3, hl3, by rw [← frz_list hi3]; exact (Option.some.inj e).symm⟩
    · rw [if_neg hc] at e; cases e
  have hHa : ∀ {b : Addr} {vs : List Value} {ns : List Int}, (b = a1 ∨ b = a2 ∨ b = a3) → s₁.heap.get? b = some (listO vs) → IntsAre vs ns → ns.length ≤ sizeLine → SqL K (Frz K s₁.heap Pt a1 a2 a3) b (ns.map V.int) := fun {b vs ns} hm e hi hl => by
    cases q : K.lookup b with
    | some o =>
      have e2 := KX b o q
      rw [e] at e2
      cases e2
      exact .inr ⟨_, vs.toArray, _, q, rfl, rfl, rfl, by rw [List.size_toArray, hi.length]; exact hl, by simpa using vals_ints hi⟩
    | none =>
      refine .inl (.inr ⟨listO vs, ?_⟩)
      unfold Frz
      rw [if_neg (nP e), if_pos ⟨hm, q⟩, e, ← frz_list hi]
      rfl
  generalize hH : Frz K s₁.heap Pt a1 a2 a3 = H at hHP hHn hHa
  have hok : HOk P w H s₁.heap := fun b o e => by
    rcases hHn b o e with rfl | ⟨_, _, vs, ns, g1, g2, g3, rfl⟩
    · rw [hHP] at e
      cases e
      exact hT
    · exact ⟨g1, by rw [List.length_map]; exact g3, vs, _, vals_ints g2, g1⟩
  have base_of : ∀ {b : Addr} {o : Obj}, s₁.heap.get? b = some o → H b = none → (hidT s₁.heap H).get? b = some o := fun e n => hidT_get e n
  have freeD : ∀ {b : Addr} {o : Obj}, s₁.heap.get? b = some o → (∀ ps, o ≠ tabObj ps) → (∀ vs : List Value, o ≠ listO vs) → H b = none := fun {b o} e n1 n2 => by
    cases q : H b with
    | none => rfl
    | some u =>
      rcases hHn b u q with rfl | ⟨_, _, vs, _, g1, _⟩
      · rw [hT] at e; cases e; exact absurd rfl (n1 #[])
      · rw [g1] at e; cases e; exact absurd rfl (n2 vs)
  have nsK : ∀ {b : Addr} {m : Str → Option Value}, s₁.heap.Ns b m → (hidT s₁.heap H).Ns b m := fun {b m} ⟨o, es, ep, e, d, r⟩ =>
    ⟨o, es, ep, base_of e (freeD e (fun ps z => by rw [z] at d; cases d) (fun vs z => by rw [z] at d; cases d)), d, r⟩
  have hKb : K.In (hidT s₁.heap H) := fun b o e => base_of (KX b o e) (by
    cases q : H b with
    | none => rfl
    | some u =>
      rcases hHn b u q with rfl | ⟨_, g, _⟩
      · rw [kP] at e; cases e
      · rw [g] at e; cases e)
  have hM : Mod K mg (hidT s₁.heap H) := ⟨hKb, nsK hns, ⟨mb, nsK hb, hbb⟩, let ⟨mc, h1, h2⟩ := hlim; ⟨mc, nsK h1, h2⟩⟩
  have hC : CodeHd (hidT s₁.heap H) c Pt := by
    obtain ⟨o, vs, file, tf, flags, tg, inF, text, tt, e1, r1, r2⟩ := C
    exact ⟨o, vs, file, tf, flags, tg, inF, text, tt, base_of e1 (freeD e1 (fun ps z => by rw [z] at r1; cases r1) (fun vs z => by rw [z] at r1; exact absurd r1 (by intro q; injection q with q; exact absurd q (by decide)))), r1, r2⟩
  have hB : BM mg (hidT s₁.heap H) := by
    obtain ⟨bm, ob, b1, b2, b3, b4, b5, b6⟩ := B
    exact ⟨bm, ob, b1, b2, base_of b3 (freeD b3 (fun ps z => by rw [z] at b6; cases b6) (fun vs z => by rw [z] at b6; cases b6)), b4, b5, b6⟩
  have e0 : Env0 P w K mg (hidT s₁.heap H) callerA [] s₁ H := ⟨rfl, hM, fun b o e => of_hidT e, Nat.le_of_eq (hidT_size _ _), trivial, fun b hb => absurd (show b ∈ ([] : List Addr) from hb) (by simp), hok, .of_eq hg⟩
  refine codeAny_mono ((F _ hKb (nsK hns) hC hB).run callerA [] s₁ H ⟨[.ref a1, .ref a2, .ref a3], []⟩ [.ref a1, .ref a2, .ref a3] [.ref a1, .ref a2, .ref a3] _ _ hr e0 (hbind s₁ (.ref a1) (.ref a2) (.ref a3)) (.cons rfl (.cons rfl (.cons rfl .nil)))
    (hsp H (hHa (.inl rfl) h1 hi1 hl1) (hHa (.inr (.inl rfl)) h2 hi2 hl2) (hHa (.inr (.inr rfl)) h3 hi3 hl3) hHP)) fun r s' h => ?_
  cases r with
  | error e => exact False.elim h
  | ok fl =>
    cases fl with
    | next => exact False.elim h
    | brk => exact False.elim h
    | cont => exact False.elim h
    | ret u =>
      obtain ⟨v, H', os, bare, un, hok', r', l, rfl, hl⟩ := h
      obtain rfl : u = Value.ref l := r'
      obtain ⟨_, us, n, rv, e⟩ := hok' l _ hl
      have keepN : ∀ b o, s₁.heap.get? b = some o → b ≠ Pt → s'.heap.get? b = some o := fun b o e hb => by
        cases q : H b with
        | none => exact un.keep b o e q (by intro z; exact absurd (show b ∈ ([] : List Addr) from z) (by simp)) (by simp)
        | some u =>
          rcases hHn b u q with z | ⟨_, _, vs, ns, g1, _, _, rfl⟩
          · exact absurd z hb
          · have z2 := un.frzs b _ _ q
            obtain ⟨e2, _⟩ := hok' b _ z2
            rw [e] at g1; cases g1
            exact e2
      obtain ⟨more, hmore⟩ := un.tbls Pt _ hHP
      have hPs : s'.heap.get? Pt = some (tabObj (#[] ++ more)) := hok' Pt _ hmore
      refine ⟨l, us, n, rfl, e, rv, ⟨fun b o e => ?_, fun b o e => ?_⟩, os, bare⟩
      · by_cases hb : b = Pt
        · subst hb
          rw [hT] at e
          cases e
          exact .inr (.inl ⟨(C.tab hT).isCodeTable, rfl, #[], more, rfl, hPs⟩)
        · exact .inl (keepN b o e hb)
      · by_cases hb : b = Pt
        · subst hb; exact ⟨_, hPs⟩
        · exact ⟨o, keepN b o e hb⟩

theorem ints_of_well {P : Params} {h : Heap} (ns : List Int) (vs : List Value) (x : WellAll P h vs (ns.map WData.int)) : IntsAre vs ns := Att.ints_of_wellAll ns vs x
theorem list_of {P : Params} {h : Heap} {v : Value} {ns : List Int} (x : Well P h v (.list (ns.map WData.int))) : ∃ a vs, v = .ref a ∧ h.get? a = some (listO vs) ∧ IntsAre vs ns := by
  cases x with
  | list e w => exact ⟨_, _, rfl, e, ints_of_well _ _ w⟩
/-- the codecs' bounds -/
theorem dec3 {l1 m1 l2 m2 l3 m3 : Nat} {lo1 hi1 lo2 hi2 lo3 hi3 : Int} {n1 n2 n3 : List Int}
    (h : (Codec.decAll [.list l1 m1 (.int lo1 hi1), .list l2 m2 (.int lo2 hi2), .list l3 m3 (.int lo3 hi3)] [.list (n1.map WData.int), .list (n2.map WData.int), .list (n3.map WData.int)]).isSome = true) :
    Codec.decAll [.list l1 m1 (.int lo1 hi1), .list l2 m2 (.int lo2 hi2), .list l3 m3 (.int lo3 hi3)] [.list (n1.map WData.int), .list (n2.map WData.int), .list (n3.map WData.int)] = some (n1, n2, n3, ()) ∧
      (n1.length ≤ m1 ∧ ∀ x ∈ n1, lo1 ≤ x ∧ x ≤ hi1) ∧ (n2.length ≤ m2 ∧ ∀ x ∈ n2, lo2 ≤ x ∧ x ≤ hi2) ∧ (n3.length ≤ m3 ∧ ∀ x ∈ n3, lo3 ≤ x ∧ x ≤ hi3) := by
  have one : ∀ {l m : Nat} {lo hi : Int} {ns : List Int}, ((Codec.list l m (.int lo hi)).dec (.list (ns.map WData.int))).isSome = true → (Codec.list l m (.int lo hi)).dec (.list (ns.map WData.int)) = some ns ∧ ns.length ≤ m ∧ ∀ x ∈ ns, lo ≤ x ∧ x ≤ hi := fun {l m lo hi ns} h => by
    have e : Codec.decAll [.list l m (.int lo hi)] [ofPy (PyData.list (ns.map PyData.int))] = Codec.both Prod.mk ((Codec.list l m (.int lo hi)).dec (.list (ns.map WData.int))) (some ()) := by
      rw [← ofPys_ints]
      rfl
    cases q : (Codec.list l m (.int lo hi)).dec (.list (ns.map WData.int)) with
    | none => rw [q] at h; cases h
    | some z =>
      rw [q] at e
      obtain ⟨e1, _, e3, e4⟩ := os_dec_ints (least := l) (most := m) (lo := lo) (hi := hi) (ns := ns) (by rw [e]; rfl)
      rw [e] at e1
      cases e1
      exact ⟨rfl, e3, e4⟩
  have e : Codec.decAll [.list l1 m1 (.int lo1 hi1), .list l2 m2 (.int lo2 hi2), .list l3 m3 (.int lo3 hi3)] [.list (n1.map WData.int), .list (n2.map WData.int), .list (n3.map WData.int)] =
      Codec.both Prod.mk ((Codec.list l1 m1 (.int lo1 hi1)).dec (.list (n1.map WData.int))) (Codec.both Prod.mk ((Codec.list l2 m2 (.int lo2 hi2)).dec (.list (n2.map WData.int))) (Codec.both Prod.mk ((Codec.list l3 m3 (.int lo3 hi3)).dec (.list (n3.map WData.int))) (some ()))) := rfl
  rw [e] at h ⊢
  cases q1 : (Codec.list l1 m1 (.int lo1 hi1)).dec (.list (n1.map WData.int)) with
  | none => rw [q1] at h; cases h
  | some z1 =>
    cases q2 : (Codec.list l2 m2 (.int lo2 hi2)).dec (.list (n2.map WData.int)) with
    | none => rw [q1, q2] at h; cases h
    | some z2 =>
      cases q3 : (Codec.list l3 m3 (.int lo3 hi3)).dec (.list (n3.map WData.int)) with
      | none => rw [q1, q2, q3] at h; cases h
      | some z3 =>
        obtain ⟨e1, b1⟩ := one (ns := n1) (by rw [q1]; rfl)
        obtain ⟨e2, b2⟩ := one (ns := n2) (by rw [q2]; rfl)
        obtain ⟨e3, b3⟩ := one (ns := n3) (by rw [q3]; rfl)
        rw [q1] at e1; rw [q2] at e2; rw [q3] at e3
        cases e1; cases e2; cases e3
        exact ⟨rfl, b1, b2, b3⟩

theorem walk3 {prog : Program} {name : Str} {l1 m1 l2 m2 l3 m3 rl rm : Nat} {lo1 hi1 lo2 hi2 lo3 hi3 rlo rhi : Int} {asked : List Int → List Int → List Int → Bool} {f : List Int → List Int → List Int → List Int}
    {k : Nat} {q : Program} {loose : List Str} {XP : (Str → Option Value) → Heap → Prop} {YP : World → Heap → Prop} {d : DefRec} {K : Params → PySem.W.Frag} {sp : PySem.W.Frag → Sp} {x1 x2 x3 : Str} {c Pt : Addr}
    (hm1 : m1 ≤ sizeLine) (hm2 : m2 ≤ sizeLine) (hm3 : m3 ≤ sizeLine) (hdf : d.params.defaults = []) (hr : Room k callerA)
    (hY : ∀ (w : World) (h : Heap), YP w h → (K w.params).In h) (hnt : ∀ w : World, noTabs (K w.params) = true)
    (hTab : ∀ (w : World) (s₀ : Shared) (mg mb : Str → Option Value) (h : Heap), Ground q loose [] XP w s₀ mg mb h → (K w.params).In h → CodeHd h c Pt ∧ h.get? Pt = some (tabObj #[]))
    (F : ∀ (w : World) (mg : Str → Option Value) (fa : Addr) (h : Heap), (K w.params).In h → h.Ns mainGlobals mg → mg d.name = some (.ref fa) →
      ∃ fd : FuncData, (∀ (s : Shared) (u1 u2 u3 : Value), BindsTo s fd ⟨[u1, u2, u3], []⟩ [(x1, u1), (x2, u2), (x3, u3)]) ∧
        ∀ base : Heap, (K w.params).In base → base.Ns mainGlobals mg → CodeHd base c Pt → BM mg base → FnOk prog w (K w.params) mg base CX0 k fa fd [x1, x2, x3] (sp (K w.params)))
    (hsp : ∀ (K : PySem.W.Frag) (H : Hp) (a1 a2 a3 : Addr) (n1 n2 n3 : List Int), asked n1 n2 n3 = true → (n1.length ≤ m1 ∧ ∀ x ∈ n1, lo1 ≤ x ∧ x ≤ hi1) → (n2.length ≤ m2 ∧ ∀ x ∈ n2, lo2 ≤ x ∧ x ≤ hi2) → (n3.length ≤ m3 ∧ ∀ x ∈ n3, lo3 ≤ x ∧ x ≤ hi3) →
      SqL K H a1 (n1.map V.int) → SqL K H a2 (n2.map V.int) → SqL K H a3 (n3.map V.int) → H Pt = some (.tbl #[]) → sp K [.ref a1, .ref a2, .ref a3] H (fun v H' => ∃ l, v = .ref l ∧ H' l = some (.lst ((f n1 n2 n3).map V.int))) E0) :
    WalkOS q loose XP YP (OpenSpec.mk prog name [.list l1 m1 (.int lo1 hi1), .list l2 m2 (.int lo2 hi2), .list l3 m3 (.int lo3 hi3)] (.list rl rm (.int rlo rhi)) asked f) d [] (fun f vs => PySem.call f vs) := by
  intro w s₀ s₁ mg mb G Y fa o pm cd doc dV kV ho hd hcd hD hmg hg args vals as hpre hlay hrd hwl hlo
  have hsh := os_shapes _ hpre
  have hsh : WShape.hasAll [] args [.list .int, .list .int, .list .int] = true := hsh
  obtain ⟨d1, r1, rfl, g1, hsh⟩ := hasAllW_cons hsh
  obtain ⟨d2, r2, rfl, g2, hsh⟩ := hasAllW_cons hsh
  obtain ⟨d3, r3, rfl, g3, hsh⟩ := hasAllW_cons hsh
  obtain rfl := hasAllW_nil hsh
  obtain ⟨y1, rfl, k1⟩ := hasW_list g1
  obtain ⟨y2, rfl, k2⟩ := hasW_list g2
  obtain ⟨y3, rfl, k3⟩ := hasW_list g3
  obtain ⟨n1, rfl⟩ := PySem.W.items_int k1
  obtain ⟨n2, rfl⟩ := PySem.W.items_int k2
  obtain ⟨n3, rfl⟩ := PySem.W.items_int k3
  obtain ⟨edec, b1, b2, b3⟩ := dec3 (os_pre_isSome hpre)
  have hask : asked n1 n2 n3 = true := os_pre_asked hpre edec
  have hw' : ∃ v1 v2 v3, vals = [v1, v2, v3] ∧ Well w.params s₁.heap v1 (.list (n1.map WData.int)) ∧ Well w.params s₁.heap v2 (.list (n2.map WData.int)) ∧ Well w.params s₁.heap v3 (.list (n3.map WData.int)) := by
    cases hwl with
    | cons w1 r =>
      cases r with
      | cons w2 r =>
        cases r with
        | cons w3 r =>
          cases r
          exact ⟨_, _, _, rfl, w1, w2, w3⟩
  obtain ⟨v1, v2, v3, rfl, w1, w2, w3⟩ := hw'
  obtain ⟨a1, vs1, rfl, o1, i1⟩ := list_of w1
  obtain ⟨a2, vs2, rfl, o2, i2⟩ := list_of w2
  obtain ⟨a3, vs3, rfl, o3, i3⟩ := list_of w3
  have KX := hY w _ Y
  obtain ⟨fd, hb, hF⟩ := F w mg fa _ KX G.T.g hmg
  obtain ⟨hC, hP⟩ := hTab w s₀ mg mb _ G KX
  refine enter_call (codeAny_mono (spec_call (out := f n1 n2 n3) KX G.T.g G.T.b G.T.builtins G.T.nolimit hg o1 i1 (Nat.le_trans b1.1 hm1) o2 i2 (Nat.le_trans b2.1 hm2) o3 i3 (Nat.le_trans b3.1 hm3) hP (hnt w) hC G.T.bmain hr hF hb
    (fun H s1 s2 s3 hT => hsp (K w.params) H a1 a2 a3 n1 n2 n3 hask b1 b2 b3 s1 s2 s3 hT)) fun r s' hq => ?_)
  obtain ⟨l, us, n, rfl, e, rv, q1, q2, q3⟩ := hq
  refine ⟨.inl ⟨.ref l, .list ((f n1 n2 n3).map WData.int), [l], rfl, fun _ => rfl, .list e rfl rfl (by simpa using reads_ints rv), osPost (os_post edec ?_), fun z => absurd (show false = true from z) Bool.false_ne_true⟩, q1, q2, q3⟩
  exact same_self _
end BS
set_option linter.all false
set_option maxRecDepth 100000
set_option maxHeartbeats 4000000
namespace BQ
open PySem PySem.Spec L2 BS
open PySem.W (Frag)

def top (i : Nat) : Stmt := PySem.Challenge.pw_bestplaces_s01_places.main.body.getD i (.Pass ⟨0, 0, 0, 0⟩)
abbrev sSchool : Stmt := inClass (top 9) 0
abbrev sChild : Stmt := inClass (top 10) 0
abbrev sAppl : Stmt := inClass (top 11) 0
abbrev sCut : Stmt := top 12
abbrev sReadS : Stmt := top 13
abbrev sReadC : Stmt := top 14
abbrev sSRight : Stmt := top 15
abbrev sWRight : Stmt := top 16
abbrev sCRight : Stmt := top 17
abbrev sNDiff : Stmt := top 18
abbrev sTooMany : Stmt := top 19
abbrev sRefused : Stmt := top 20
abbrev sSeatsBy : Stmt := top 21
abbrev sSeatOrd : Stmt := top 22
abbrev sInSeat : Stmt := top 23
abbrev sBest : Stmt := top 24
abbrev sPlaceOf : Stmt := top 25
abbrev sPlaces : Stmt := top 26

abbrev vi (n : Nat) : V := V.int (n : Int)
structure Sch where
  seats : Nat
  none : Nat
  held : List Nat
structure Chd where
  number : Nat
  groups : Nat
  school : List Nat
  score : List Nat
def sf (x : Sch) (hl : Addr) : List (Str × V) := [("seats", vi x.seats), ("none", vi x.none), ("held", .ref hl)]
def cf (x : Chd) (l1 l2 : Addr) : List (Str × V) := [("number", vi x.number), ("groups", vi x.groups), ("school", .ref l1), ("score", .ref l2)]
def af (x : BP.Ap) : List (Str × V) := [("row", vi x.row), ("number", vi x.number), ("groups", vi x.groups), ("score", vi x.score)]
def SchAt (C : Addr) (H : Hp) (a : Addr) (x : Sch) : Prop := ∃ dx hl, H a = some (.ins C dx (sf x hl)) ∧ H hl = some (.lst (x.held.map vi))
def ChdAt (C : Addr) (H : Hp) (a : Addr) (x : Chd) : Prop := ∃ dx l1 l2, H a = some (.ins C dx (cf x l1 l2)) ∧ H l1 = some (.lst (x.school.map vi)) ∧ H l2 = some (.lst (x.score.map vi))
def ApAt (C : Addr) (H : Hp) (a : Addr) (x : BP.Ap) : Prop := ∃ dx, H a = some (.ins C dx (af x))
theorem SchAt.same {C : Addr} {H H' : Hp} {a : Addr} {x : Sch} (h : SchAt C H a x) (s : Same H H') : SchAt C H' a x := let ⟨dx, hl, h1, h2⟩ := h; ⟨dx, hl, s _ _ h1, s _ _ h2⟩
theorem ChdAt.same {C : Addr} {H H' : Hp} {a : Addr} {x : Chd} (h : ChdAt C H a x) (s : Same H H') : ChdAt C H' a x := let ⟨dx, l1, l2, h1, h2, h3⟩ := h; ⟨dx, l1, l2, s _ _ h1, s _ _ h2, s _ _ h3⟩
theorem ApAt.same {C : Addr} {H H' : Hp} {a : Addr} {x : BP.Ap} (h : ApAt C H a x) (s : Same H H') : ApAt C H' a x := let ⟨dx, h1⟩ := h; ⟨dx, s _ _ h1⟩
theorem SchAt.sameP {C P : Addr} {H H' : Hp} {a : Addr} {x : Sch} (h : SchAt C H a x) (s : SameP P H H') (hP : ∃ ps, H P = some (.tbl ps)) : SchAt C H' a x := by
  obtain ⟨ps, hP⟩ := hP
  obtain ⟨dx, hl, h1, h2⟩ := h
  exact ⟨dx, hl, s _ _ (ne_of h1 hP (by intro z; cases z)) h1, s _ _ (ne_of h2 hP (by intro z; cases z)) h2⟩
theorem ChdAt.sameP {C P : Addr} {H H' : Hp} {a : Addr} {x : Chd} (h : ChdAt C H a x) (s : SameP P H H') (hP : ∃ ps, H P = some (.tbl ps)) : ChdAt C H' a x := by
  obtain ⟨ps, hP⟩ := hP
  obtain ⟨dx, l1, l2, h1, h2, h3⟩ := h
  exact ⟨dx, l1, l2, s _ _ (ne_of h1 hP (by intro z; cases z)) h1, s _ _ (ne_of h2 hP (by intro z; cases z)) h2, s _ _ (ne_of h3 hP (by intro z; cases z)) h3⟩
theorem ApAt.sameP {C P : Addr} {H H' : Hp} {a : Addr} {x : BP.Ap} (h : ApAt C H a x) (s : SameP P H H') (hP : ∃ ps, H P = some (.tbl ps)) : ApAt C H' a x := by
  obtain ⟨ps, hP⟩ := hP
  obtain ⟨dx, h1⟩ := h
  exact ⟨dx, s _ _ (ne_of h1 hP (by intro z; cases z)) h1⟩
theorem sf_seats (x : Sch) (hl : Addr) : (sf x hl).lookup ("seats" : Str) = some (vi x.seats) := by kernel_rfl
theorem sf_none (x : Sch) (hl : Addr) : (sf x hl).lookup ("none" : Str) = some (vi x.none) := by kernel_rfl
theorem sf_held (x : Sch) (hl : Addr) : (sf x hl).lookup ("held" : Str) = some (.ref hl) := by kernel_rfl
theorem cf_number (x : Chd) (l1 l2 : Addr) : (cf x l1 l2).lookup ("number" : Str) = some (vi x.number) := by kernel_rfl
theorem cf_groups (x : Chd) (l1 l2 : Addr) : (cf x l1 l2).lookup ("groups" : Str) = some (vi x.groups) := by kernel_rfl
theorem cf_school (x : Chd) (l1 l2 : Addr) : (cf x l1 l2).lookup ("school" : Str) = some (.ref l1) := by kernel_rfl
theorem cf_score (x : Chd) (l1 l2 : Addr) : (cf x l1 l2).lookup ("score" : Str) = some (.ref l2) := by kernel_rfl
theorem af_row (x : BP.Ap) : (af x).lookup ("row" : Str) = some (vi x.row) := by kernel_rfl
theorem af_number (x : BP.Ap) : (af x).lookup ("number" : Str) = some (vi x.number) := by kernel_rfl
theorem af_groups (x : BP.Ap) : (af x).lookup ("groups" : Str) = some (vi x.groups) := by kernel_rfl
theorem af_score (x : BP.Ap) : (af x).lookup ("score" : Str) = some (vi x.score) := by kernel_rfl
theorem putS (a b c : V) : putF "held" c (putF "none" b (putF "seats" a [])) = [(("seats" : Str), a), ("none", b), ("held", c)] := by kernel_rfl
theorem putC (a b c d : V) : putF "score" d (putF "school" c (putF "groups" b (putF "number" a []))) = [(("number" : Str), a), ("groups", b), ("school", c), ("score", d)] := by kernel_rfl
theorem putA (a b c d : V) : putF "score" d (putF "groups" c (putF "number" b (putF "row" a []))) = [(("row" : Str), a), ("number", b), ("groups", c), ("score", d)] := by kernel_rfl
/-- what the walk asks of the module as the top has made it -/
structure Txt (K : Frag) (mg : Str → Option Value) (S C A : Addr) : Prop where
  clS : Cls K S
  s1 : NoAttr K S "seats"
  s2 : NoAttr K S "none"
  s3 : NoAttr K S "held"
  mgS : mg "School" = some (.ref S)
  clC : Cls K C
  c1 : NoAttr K C "number"
  c2 : NoAttr K C "groups"
  c3 : NoAttr K C "school"
  c4 : NoAttr K C "score"
  mgC : mg "Child" = some (.ref C)
  clA : Cls K A
  a1 : NoAttr K A "row"
  a2 : NoAttr K A "number"
  a3 : NoAttr K A "groups"
  a4 : NoAttr K A "score"
  mgA : mg "Applicant" = some (.ref A)
  len : mg "len" = none
  rng : mg "range" = none
  sum : mg "sum" = none
  set : mg "set" = none
  lst : mg "list" = none
  enm : mg "enumerate" = none
  srt : mg "sorted" = none
  k1 : ∃ t, mg "MOST_SCHOOLS" = some (.int 32 t)
  k2 : ∃ t, mg "MOST_CHILDREN" = some (.int 256 t)
  k3 : ∃ t, mg "MOST_SEATS" = some (.int 64 t)
  k4 : ∃ t, mg "MOST_GROUPS" = some (.int 255 t)
  k5 : ∃ t, mg "WISH_COUNT" = some (.int 8 t)
  k6 : ∃ t, mg "NO_SCHOOL" = some (.int 255 t)
  k7 : ∃ t, mg "SCHOOL_WIDTH" = some (.int 10 t)
  k8 : ∃ t, mg "CHILD_WIDTH" = some (.int 18 t)
end BQ
set_option linter.all false
set_option maxRecDepth 100000
set_option maxHeartbeats 4000000
namespace BQ
open PySem PySem.Spec L2 BS
open PySem.W (Frag)

theorem putF_len (f : Str) (v : V) : ∀ fs : List (Str × V), (putF f v fs).length ≤ fs.length + 1
  | [] => Nat.le_refl _
  | (g, u) :: fs => by
    show (if g = f then (g, v) :: fs else (g, u) :: putF f v fs).length ≤ _
    split
    · exact Nat.le_succ _
    · exact Nat.succ_le_succ (putF_len f v fs)
theorem cut_nat (l : List Nat) (i j : Nat) : cutV (l.map vi) (some (i : Int)) (some (j : Int)) = ((l.drop i).take (j - i)).map vi := by
  unfold cutV
  rw [HT.sIx_nat, HT.sIx_nat, List.length_map, ← List.map_drop, ← List.map_take]
  congr 1
  rcases Nat.lt_or_ge l.length i with h | h
  · rw [Nat.min_eq_right (Nat.le_of_lt h), List.drop_of_length_le (Nat.le_refl _), List.drop_of_length_le (Nat.le_of_lt h), List.take_nil, List.take_nil]
  · rw [Nat.min_eq_left h]
    rcases Nat.lt_or_ge l.length j with h2 | h2
    · rw [Nat.min_eq_right (Nat.le_of_lt h2), List.take_of_length_le (by rw [List.length_drop]; exact Nat.le_refl _), List.take_of_length_le (by rw [List.length_drop]; omega)]
    · rw [Nat.min_eq_left h2]
theorem at_map {l : List Nat} {j n : Nat} (h : l[j]? = some n) : atI (l.map vi) (j : Int) = some (vi n) := atI_nat (by rw [List.getElem?_map, h]; rfl)
theorem at_some {l : List Nat} {j : Nat} (h : j < l.length) : l[j]? = some (l.getD j 0) := by
  rw [List.getElem?_eq_getElem h, List.getD_eq_getElem?_getD, List.getElem?_eq_getElem h]
  rfl
def schOf (l : List Nat) : Sch := ⟨l.getD 0 0, l.getD 1 0, (l.drop 2).take 8⟩
def chdOf (l : List Nat) : Chd := ⟨l.getD 0 0, l.getD 1 0, (l.drop 2).take 8, (l.drop 10).take 8⟩
def spSchool (K : Frag) (S : Addr) : Sp := fun vs H Q _ => ∃ (p dx n : Addr) (l : List Nat), vs = [.ref p, .ref n] ∧ H p = some (.ins S dx []) ∧ SqL K H n (l.map vi) ∧ l.length = 10 ∧
  ∀ H' : Hp, SchAt S H' p (schOf l) → (∀ b o, H b = some o → b ≠ p → H' b = some o) → Q .non H'
def spChild (K : Frag) (C : Addr) : Sp := fun vs H Q _ => ∃ (p dx n : Addr) (l : List Nat), vs = [.ref p, .ref n] ∧ H p = some (.ins C dx []) ∧ SqL K H n (l.map vi) ∧ l.length = 18 ∧
  ∀ H' : Hp, ChdAt C H' p (chdOf l) → (∀ b o, H b = some o → b ≠ p → H' b = some o) → Q .non H'
def spAppl (C A : Addr) : Sp := fun vs H Q _ => ∃ (p dx c : Addr) (row wish sc : Nat) (x : Chd), vs = [.ref p, vi row, .ref c, vi wish] ∧ H p = some (.ins A dx []) ∧ ChdAt C H c x ∧ x.score[wish]? = some sc ∧
  ∀ H' : Hp, ApAt A H' p ⟨row, x.number, x.groups, sc⟩ → (∀ b o, H b = some o → b ≠ p → H' b = some o) → Q .non H'
section
variable {P : Program} {w : World} {K : Frag} {mg : Str → Option Value} {base : Heap} {S C A f : Addr} {fd : FuncData}
theorem seq_ne {H : Hp} {n p dx D : Addr} {xs : List V} {fs : List (Str × V)} (h : SqL K H n xs) (hp : H p = some (.ins D dx fs)) (o : HO) : SqL K (upd H p o) n xs := by
  rcases h with (h | ⟨ob, h⟩) | h
  · exact .inl (.inl (by rw [upd_ne (ne_of h hp (by intro z; cases z))]; exact h))
  · exact .inl (.inr ⟨ob, by rw [upd_ne (ne_of h hp (by intro z; cases z))]; exact h⟩)
  · exact .inr h
theorem seq_new {H : Hp} {n p : Addr} {xs : List V} (h : SqL K H n xs) (hp : H p = none) (o : HO) : SqL K (upd H p o) n xs := by
  rcases h with (h | ⟨ob, h⟩) | h
  · exact .inl (.inl (by rw [upd_ne (ne_of_none h hp)]; exact h))
  · exact .inl (.inr ⟨ob, by rw [upd_ne (ne_of_none h hp)]; exact h⟩)
  · exact .inr h
theorem scSchool : FnScope ["self", "numbers"] ["self", "numbers"] (defScope sSchool) := ⟨rfl, rfl, rfl, by decide +kernel, rfl, by decide +kernel, by decide +kernel⟩
theorem ok_school (F : Fun K "__init__" "School.__init__" sSchool f fd) (T : Txt K mg S C A) : FnOk P w K mg base CX0 1 f fd ["self", "numbers"] (spSchool K S) := by
  refine F.ok scSchool (fun vs H Q E h => ?_) (fun cdv A' outer s H vs Q E hr h => ?_)
  · obtain ⟨p, dx, n, l, rfl, _⟩ := h
    rfl
  · obtain ⟨p, dx, n, l, rfl, hp, hS, hl, k⟩ := h
    refine ⟨_, pss_cons (ps_fld (pv 0) (pe_ix ix_list (pv 1) pe_int (fun _ _ => rfl)) rfl)
      (pss_cons (ps_fld (pv 0) (pe_ix ix_list (pv 1) pe_int (fun _ _ => rfl)) rfl)
      (pss_one (ps_fld (pv 0) (pe_slice sl_list (pv 1) (po_some pe_int) (po_some pe_int)) rfl))), ?_⟩
    have S1 := seq_ne hS hp (.ins S dx (putF "seats" (vi (l.getD 0 0)) []))
    have S2 := seq_ne S1 upd_same (.ins S dx (putF "none" (vi (l.getD 1 0)) (putF "seats" (vi (l.getD 0 0)) [])))
    refine ⟨_, rfl, n, _, _, _, rfl, rfl, hS, at_map (j := 0) (at_some (by omega)), _, rfl, p, S, dx, [], rfl, hp, T.clS, T.s1, (by show 0 < 1000; decide), ?_⟩
    refine ⟨_, rfl, n, _, _, _, rfl, rfl, S1, at_map (j := 1) (at_some (by omega)), _, rfl, p, S, dx, _, rfl, upd_same, T.clS, T.s2, (by show 1 < 1000; decide), ?_⟩
    refine ⟨_, rfl, _, rfl, _, rfl, n, _, rfl, S2, fun hl' hfree => ?_⟩
    have hpn : p ≠ hl' := ne_of_none upd_same hfree
    refine ⟨_, rfl, p, S, dx, _, rfl, (by rw [upd_ne hpn]; exact upd_same), T.clS, T.s3, (Nat.lt_of_le_of_lt (putF_len _ _ _) (Nat.lt_of_le_of_lt (Nat.succ_le_succ (putF_len _ _ _)) (by decide))), ?_⟩
    have e1 := cut_nat l 2 10
    refine k _ ⟨dx, hl', Eq.trans upd_same (congrArg (fun q => some (HO.ins S dx q)) (putS _ _ _)), ?_⟩ fun b o e hb => ?_
    · rw [upd_ne hpn.symm, upd_same]
      exact congrArg (fun q => some (HO.lst q)) e1
    · have hb' : b ≠ hl' := by
        refine ne_of_none (H := upd (upd H p (.ins S dx (putF "seats" (vi (l.getD 0 0)) []))) p (.ins S dx (putF "none" (vi (l.getD 1 0)) (putF "seats" (vi (l.getD 0 0)) [])))) (o := o) ?_ hfree
        rw [upd_ne hb, upd_ne hb]
        exact e
      rw [upd_ne hb, upd_ne hb', upd_ne hb, upd_ne hb]
      exact e
theorem scChild : FnScope ["self", "numbers"] ["self", "numbers"] (defScope sChild) := ⟨rfl, rfl, rfl, by decide +kernel, rfl, by decide +kernel, by decide +kernel⟩
theorem ok_child (F : Fun K "__init__" "Child.__init__" sChild f fd) (T : Txt K mg S C A) : FnOk P w K mg base CX0 1 f fd ["self", "numbers"] (spChild K C) := by
  refine F.ok scChild (fun vs H Q E h => ?_) (fun cdv A' outer s H vs Q E hr h => ?_)
  · obtain ⟨p, dx, n, l, rfl, _⟩ := h
    rfl
  · obtain ⟨p, dx, n, l, rfl, hp, hS, hl, k⟩ := h
    refine ⟨_, pss_cons (ps_fld (pv 0) (pe_ix ix_list (pv 1) pe_int (fun _ _ => rfl)) rfl)
      (pss_cons (ps_fld (pv 0) (pe_ix ix_list (pv 1) pe_int (fun _ _ => rfl)) rfl)
      (pss_cons (ps_fld (pv 0) (pe_slice sl_list (pv 1) (po_some pe_int) (po_some pe_int)) rfl)
      (pss_one (ps_fld (pv 0) (pe_slice sl_list (pv 1) (po_some pe_int) (po_some pe_int)) rfl)))), ?_⟩
    have S1 := seq_ne hS hp (.ins C dx (putF "number" (vi (l.getD 0 0)) []))
    have S2 := seq_ne S1 upd_same (.ins C dx (putF "groups" (vi (l.getD 1 0)) (putF "number" (vi (l.getD 0 0)) [])))
    refine ⟨_, rfl, n, _, _, _, rfl, rfl, hS, at_map (j := 0) (at_some (by omega)), _, rfl, p, C, dx, [], rfl, hp, T.clC, T.c1, (by show 0 < 1000; decide), ?_⟩
    refine ⟨_, rfl, n, _, _, _, rfl, rfl, S1, at_map (j := 1) (at_some (by omega)), _, rfl, p, C, dx, _, rfl, upd_same, T.clC, T.c2, (by show 1 < 1000; decide), ?_⟩
    refine ⟨_, rfl, _, rfl, _, rfl, n, _, rfl, S2, fun l1 f1 => ?_⟩
    generalize h2 : upd (upd H p (.ins C dx (putF "number" (vi (l.getD 0 0)) []))) p (.ins C dx (putF "groups" (vi (l.getD 1 0)) (putF "number" (vi (l.getD 0 0)) []))) = H2 at S2 f1 ⊢
    have hp2 : H2 p = some (.ins C dx (putF "groups" (vi (l.getD 1 0)) (putF "number" (vi (l.getD 0 0)) []))) := by rw [← h2]; exact upd_same
    have k2 : ∀ b o, H b = some o → b ≠ p → H2 b = some o := fun b o e hb => by rw [← h2, upd_ne hb, upd_ne hb]; exact e
    have n1 : p ≠ l1 := ne_of_none hp2 f1
    refine ⟨_, rfl, p, C, dx, _, rfl, (by rw [upd_ne n1]; exact hp2), T.clC, T.c3, (Nat.lt_of_le_of_lt (putF_len _ _ _) (Nat.lt_of_le_of_lt (Nat.succ_le_succ (putF_len _ _ _)) (by decide))), ?_⟩
    have S3 := seq_ne (seq_new S2 f1 (.lst (cutV (l.map vi) (some 2) (some 10)))) (by rw [upd_ne n1]; exact hp2) (.ins C dx (putF "school" (.ref l1) (putF "groups" (vi (l.getD 1 0)) (putF "number" (vi (l.getD 0 0)) []))))
    refine ⟨_, rfl, _, rfl, _, rfl, n, _, rfl, S3, fun l2 f2 => ?_⟩
    generalize h4 : upd (upd H2 l1 (.lst (cutV (l.map vi) (some 2) (some 10)))) p (.ins C dx (putF "school" (.ref l1) (putF "groups" (vi (l.getD 1 0)) (putF "number" (vi (l.getD 0 0)) [])))) = H4 at S3 f2 ⊢
    have hp4 : H4 p = some (.ins C dx (putF "school" (.ref l1) (putF "groups" (vi (l.getD 1 0)) (putF "number" (vi (l.getD 0 0)) [])))) := by rw [← h4]; exact upd_same
    have hl4 : H4 l1 = some (.lst (cutV (l.map vi) (some 2) (some 10))) := by rw [← h4, upd_ne n1.symm, upd_same]
    have k4 : ∀ b o, H b = some o → b ≠ p → H4 b = some o := fun b o e hb => by rw [← h4, upd_ne hb, upd_ne (ne_of_none (k2 b o e hb) f1)]; exact k2 b o e hb
    have n2 : p ≠ l2 := ne_of_none hp4 f2
    have n3 : l1 ≠ l2 := ne_of_none hl4 f2
    refine ⟨_, rfl, p, C, dx, _, rfl, (by rw [upd_ne n2]; exact hp4), T.clC, T.c4, (Nat.lt_of_le_of_lt (putF_len _ _ _) (Nat.lt_of_le_of_lt (Nat.succ_le_succ (putF_len _ _ _)) (Nat.lt_of_le_of_lt (Nat.succ_le_succ (Nat.succ_le_succ (putF_len _ _ _))) (by decide)))), ?_⟩
    refine k _ ⟨dx, l1, l2, Eq.trans upd_same (congrArg (fun q => some (HO.ins C dx q)) (putC _ _ _ _)), ?_, ?_⟩ fun b o e hb => ?_
    · rw [upd_ne n1.symm, upd_ne n3, hl4]
      exact congrArg (fun q => some (HO.lst q)) (cut_nat l 2 10)
    · rw [upd_ne n2.symm, upd_same]
      exact congrArg (fun q => some (HO.lst q)) (cut_nat l 10 18)
    · rw [upd_ne hb, upd_ne (ne_of_none (k4 b o e hb) f2)]
      exact k4 b o e hb
theorem scAppl : FnScope ["self", "row", "child", "wish"] ["self", "row", "child", "wish"] (defScope sAppl) := ⟨rfl, rfl, rfl, by decide +kernel, rfl, by decide +kernel, by decide +kernel⟩
theorem ok_appl (F : Fun K "__init__" "Applicant.__init__" sAppl f fd) (T : Txt K mg S C A) : FnOk P w K mg base CX0 1 f fd ["self", "row", "child", "wish"] (spAppl C A) := by
  refine F.ok scAppl (fun vs H Q E h => ?_) (fun cdv A' outer s H vs Q E hr h => ?_)
  · obtain ⟨p, dx, c, row, wish, sc, x, rfl, _⟩ := h
    rfl
  · obtain ⟨p, dx, c, row, wish, sc, x, rfl, hp, ⟨dc, l1, l2, hc, g1, g2⟩, hsc, k⟩ := h
    have ncp : c ≠ p := ne_of hc hp (by intro z; injection z with _ _ z; cases z)
    have nlp : l2 ≠ p := ne_of g2 hp (by intro z; cases z)
    refine ⟨_, pss_cons (ps_fld (pv 0) (pv 1) rfl) (pss_cons (ps_fld (pv 0) (pe_fld (pv 2) rfl) rfl) (pss_cons (ps_fld (pv 0) (pe_fld (pv 2) rfl) rfl)
      (pss_one (ps_fld (pv 0) (pe_ix ix_list (pe_fld (pv 2) rfl) (pv 3) (fun _ _ => rfl)) rfl)))), ?_⟩
    refine ⟨_, rfl, _, rfl, p, A, dx, [], rfl, hp, T.clA, T.a1, (by show 0 < 1000; decide), ?_⟩
    refine ⟨_, rfl, c, C, dc, _, _, rfl, (by rw [upd_ne ncp]; exact hc), T.clC, T.c1, cf_number _ _ _, _, rfl, p, A, dx, _, rfl, upd_same, T.clA, T.a2, (by show 1 < 1000; decide), ?_⟩
    refine ⟨_, rfl, c, C, dc, _, _, rfl, (by rw [upd_ne ncp, upd_ne ncp]; exact hc), T.clC, T.c2, cf_groups _ _ _, _, rfl, p, A, dx, _, rfl, upd_same, T.clA, T.a3, (Nat.lt_of_le_of_lt (putF_len _ _ _) (Nat.lt_of_le_of_lt (Nat.succ_le_succ (putF_len _ _ _)) (by decide))), ?_⟩
    refine ⟨_, rfl, c, C, dc, _, _, rfl, (by rw [upd_ne ncp, upd_ne ncp, upd_ne ncp]; exact hc), T.clC, T.c4, cf_score _ _ _, _, rfl, l2, _, _, _, rfl, rfl, SqL.of (by rw [upd_ne nlp, upd_ne nlp, upd_ne nlp]; exact g2), at_map hsc, _, rfl, p, A, dx, _, rfl, upd_same, T.clA, T.a4,
      (Nat.lt_of_le_of_lt (putF_len _ _ _) (Nat.lt_of_le_of_lt (Nat.succ_le_succ (putF_len _ _ _)) (Nat.lt_of_le_of_lt (Nat.succ_le_succ (Nat.succ_le_succ (putF_len _ _ _))) (by decide)))), ?_⟩
    refine k _ ⟨dx, Eq.trans upd_same (congrArg (fun q => some (HO.ins A dx q)) (putA _ _ _ _))⟩ fun b o e hb => ?_
    rw [upd_ne hb, upd_ne hb, upd_ne hb, upd_ne hb]
    exact e
end
end BQ
set_option linter.all false
set_option maxRecDepth 100000
set_option maxHeartbeats 4000000
namespace BQ
open PySem PySem.Spec L2 BS
open PySem.W (Frag)
/-- a comprehension over a step range -/
theorem lc_rangeC {lo c : Int} {n : Nat} {g : TG} {tt : TT} {te : TE} {vs : List Nat} {σ : L2.St} {H1 : Hp} {D : Addr} {Qd : Hp → Prop} (Pv : Nat → Hp → Prop) (h0 : Pv 0 (upd H1 D (.lst [])))
    (hs : ∀ i H, i < n → Pv i H → g (.int (lo + (i : Nat) * c)) (wipe σ vs) H fun σ2 H2 => wipe σ2 vs = wipe σ vs ∧ tt σ2 H2 fun b H3 =>
      if b = true then te σ2 H3 fun y H4 => ∃ acc, H4 D = some (.lst acc) ∧ acc.length < sizeLine ∧ Pv (i + 1) (upd H4 D (.lst (acc ++ [y]))) else Pv (i + 1) H3) (hd : ∀ H, Pv n H → Qd H) :
    ∃ W : Nat → Nat → Hp → Prop, (∃ m, W 0 m (upd H1 D (.lst []))) ∧ ∀ i m H, W i m H →
      ((Itc lo c n).stop i H ∧ Qd H) ∨ ((Itc lo c n).go i H ∧ ∃ Nx : Hp → Prop, (∀ H', Nx H' → ∃ m', m' < m ∧ W (i + 1) m' H') ∧ ∀ x H', (Itc lo c n).yld i H x H' → g x (wipe σ vs) H' fun σ2 H2 => wipe σ2 vs = wipe σ vs ∧ tt σ2 H2 fun b H3 =>
        if b = true then te σ2 H3 fun y H4 => ∃ acc, H4 D = some (.lst acc) ∧ acc.length < sizeLine ∧ Nx (upd H4 D (.lst (acc ++ [y]))) else Nx H3) := by
  refine ⟨fun i m H => m = n - i ∧ i ≤ n ∧ Pv i H, ⟨n, rfl, Nat.zero_le _, h0⟩, ?_⟩
  rintro i m H ⟨rfl, hi, p⟩
  rcases Nat.lt_or_ge i n with hlt | hge
  · exact .inr ⟨hlt, Pv (i + 1), fun H' p' => ⟨n - (i + 1), by omega, rfl, hlt, p'⟩, fun x H' ⟨e, y⟩ => by subst e; subst y; exact hs i _ hlt p⟩
  · obtain rfl : i = n := by omega
    exact .inl ⟨Nat.le_refl _, hd H p⟩
theorem tYes_if {σ : L2.St} {H : Hp} {A B : Hp → Prop} (h : A H) : tYes σ H (fun b H3 => if b = true then A H3 else B H3) := by
  show (if true = true then A H else B H)
  rw [if_pos rfl]
  exact h
theorem get_snoc {α : Type} {l : List α} {x y : α} {j : Nat} (h : (l ++ [x])[j]? = some y) : l[j]? = some y ∨ (j = l.length ∧ y = x) := by
  rcases Nat.lt_or_ge j l.length with hj | hj
  · rw [List.getElem?_append_left hj] at h
    exact .inl h
  · rw [List.getElem?_append_right hj] at h
    have e0 : j - l.length = 0 := by
      rcases Nat.eq_zero_or_pos (j - l.length) with q | q
      · exact q
      · rw [List.getElem?_eq_none (show [x].length ≤ _ from q)] at h
        cases h
    rw [e0] at h
    exact .inr ⟨by omega, (Option.some.inj h).symm⟩
/-- a loop over enumerate(list) that leaves the list as it is -/
theorem for_enum {K : Frag} {a : Addr} {xs : List V} {g : TG} {tb : TS} {D : Ends} {σ : L2.St} {H : Hp} (Pv : Nat → L2.St → Hp → Prop) (h0 : Pv 0 σ H) (hl : ∀ i σ H, i ≤ xs.length → Pv i σ H → SqL K H a xs)
    (hs : ∀ i x σ H T, xs[i]? = some x → Pv i σ H → H T = none → g (.ref T) σ (upd H T (.tup [.int (i : Nat), x])) fun σ2 H2 => tb { D with nx := Pv (i + 1), ct := Pv (i + 1), bk := D.nx } σ2 H2) (hd : ∀ σ H, Pv xs.length σ H → D.nx σ H) :
    ∃ W : Nat → Nat → L2.St → Hp → Prop, (∃ m, W 0 m σ H) ∧ ∀ i m σ H, W i m σ H →
      ((Ite K a).stop i H ∧ D.nx σ H) ∨ ((Ite K a).go i H ∧ ∃ N : L2.St → Hp → Prop, (∀ σ' H', N σ' H' → ∃ m', m' < m ∧ W (i + 1) m' σ' H') ∧ ∀ x H', (Ite K a).yld i H x H' → g x σ H' fun σ2 H2 => tb { D with nx := N, ct := N, bk := D.nx } σ2 H2) := by
  refine ⟨fun i m σ H => m = xs.length - i ∧ i ≤ xs.length ∧ Pv i σ H, ⟨xs.length, rfl, Nat.zero_le _, h0⟩, ?_⟩
  rintro i m σ H ⟨rfl, hi, p⟩
  have q := hl i σ H hi p
  rcases Nat.lt_or_ge i xs.length with hlt | hge
  · refine .inr ⟨⟨xs, xs[i], q, List.getElem?_eq_getElem hlt⟩, Pv (i + 1), fun σ' H' p' => ⟨xs.length - (i + 1), by omega, rfl, hlt, p'⟩, fun x H' ⟨T, y, e1, e2, e3, e4⟩ => ?_⟩
    subst e1; subst e3
    exact hs i y σ H T (e4 xs q) p e2
  · obtain rfl : i = xs.length := by omega
    exact .inl ⟨⟨xs, q, Nat.le_refl _⟩, hd σ H p⟩
end BQ
set_option linter.all false
set_option maxRecDepth 100000
set_option maxHeartbeats 4000000
namespace BQ
open PySem PySem.Spec L2 BS
open PySem.W (Frag)

/-- the m parts of w numbers each -/
def part (l : List Nat) (w i : Nat) : List Nat := (l.drop (w * i)).take w
def spCut (K : Frag) : Sp := fun vs H Q _ => ∃ (n : Addr) (l : List Nat) (w m : Nat), vs = [.ref n, vi w] ∧ SqL K H n (l.map vi) ∧ 0 < w ∧ w < 1000 ∧ l.length = w * m ∧ l.length < 100000 ∧
  ∀ (D : Addr) (as : List Addr) (H' : Hp), Same H H' → H' D = some (.lst (as.map V.ref)) → as.length = m → (∀ (i : Nat) a, as[i]? = some a → H' a = some (.lst ((part l w i).map vi))) → Q (.ref D) H'
theorem rg_cut {w m : Nat} (hw : 0 < w) (h2 : w < 1000) (h3 : w * m < 100000) : RgC 0 ((w * m : Nat) : Int) (w : Int) m := by
  have hm : m ≤ w * m := Nat.le_mul_of_pos_left m hw
  have hsz : Builtin.Range.rangeSize 0 ((w * m : Nat) : Int) (w : Int) = m := by
    unfold Builtin.Range.rangeSize
    rw [if_pos (by omega)]
    rcases Nat.eq_zero_or_pos m with e | e
    · subst e
      rw [if_neg (by simp)]
      rfl
    · have hpos : 0 < w * m := Nat.mul_pos hw e
      rw [if_pos (by omega)]
      obtain ⟨k, rfl⟩ : ∃ k, m = k + 1 := ⟨m - 1, by omega⟩
      have e1 : ((w * (k + 1) : Nat) : Int) - 0 - 1 = ((w : Int) - 1) + (w : Int) * (k : Int) := by
        rw [Nat.mul_succ]
        push_cast
        omega
      rw [e1, Int.add_mul_ediv_left _ _ (by omega), Int.ediv_eq_zero_of_lt (by omega) (by omega)]
      push_cast
      omega
  refine ⟨by omega, by omega, ?_, hsz⟩
  simp only [Builtin.Range.small, Builtin.Range.rangeFitsLong, hsz, Bool.and_eq_true, Bool.or_eq_true, decide_eq_true_eq, beq_iff_eq, show ((w : Int) > 0) = True from eq_true (by omega), if_true]
  omega
section
variable {P : Program} {w : World} {K : Frag} {mg : Str → Option Value} {base : Heap} {S C A f : Addr} {fd : FuncData}
theorem scCut : FnScope ["numbers", "width", "start"] ["numbers", "width"] (defScope sCut) := ⟨rfl, rfl, rfl, by decide +kernel, rfl, by decide +kernel, by decide +kernel⟩
theorem ok_cut (F : Fun K "cut" "cut" sCut f fd) (T : Txt K mg S C A) : FnOk P w K mg base CX0 1 f fd ["numbers", "width"] (spCut K) := by
  refine F.ok scCut (fun vs H Q E h => ?_) (fun cdv A' outer s H vs Q E hr h => ?_)
  · obtain ⟨n, l, w, m, rfl, _⟩ := h
    rfl
  · obtain ⟨n, l, w, m, rfl, hS, hw, hw2, hl, hl2, k⟩ := h
    refine ⟨_, pss_one (ps_ret (pe_lc (own := [("start", 2)]) rfl scCut.nd (pi_range3 rfl T.rng (pa_cons pe_int (pa_cons (pe_callB call_len_seq rfl T.len boot_len (pa_cons (pv 0) pa_nil)) (pa_cons (pv 1) pa_nil))))
      (blkOk_by (by kernel_rfl)) (fun s H C cl fp => pg_name (i := 2) scCut.nd rfl (Or.inl rfl)) (fun _ _ _ _ _ => pts_nil)
      (fun s H C cl fp => pe_slice (r := rSlL K) sl_list (pv 0) (po_some (pv 2)) (po_some (pe_op op_add (pv 2) (pv 1)))))), ?_⟩
    refine ⟨_, rfl, n, _, rfl, .inl hS, _, rfl, 0, _, _, m, rfl, (by rw [List.length_map, hl]; exact rg_cut hw hw2 (by omega)), fun D hD => ?_⟩
    refine lc_rangeC (Pv := fun i H' => ∃ as : List Addr, Same H H' ∧ H' D = some (.lst (as.map V.ref)) ∧ as.length = i ∧ ∀ (j : Nat) a, as[j]? = some a → a ≠ D ∧ H' a = some (.lst ((part l w j).map vi))) ?_ ?_ ?_
    · exact ⟨[], fun b o e => by rw [upd_ne (ne_of_none e hD)]; exact e, upd_same, rfl, fun j a e => by simp at e⟩
    · rintro i H1 hi ⟨as, hS1, hD1, hl1, ha1⟩
      refine ⟨rfl, tYes_if ?_⟩
      refine ⟨_, rfl, _, rfl, _, rfl, _, rfl, _, rfl, _, _, rfl, rfl, _, rfl, n, _, rfl, hS1.seq hS, fun p hp => ?_⟩
      have npD : D ≠ p := ne_of_none hD1 hp
      have e1 : (0 : Int) + (i : Nat) * (w : Int) = ((w * i : Nat) : Int) := by rw [Nat.mul_comm]; push_cast; omega
      have e2 : (0 : Int) + (i : Nat) * (w : Int) + (w : Int) = ((w * i + w : Nat) : Int) := by rw [Nat.mul_comm]; push_cast; omega
      have ec : cutV (l.map vi) (some ((0 : Int) + (i : Nat) * (w : Int))) (some ((0 : Int) + (i : Nat) * (w : Int) + (w : Int))) = (part l w i).map vi := by
        rw [e2, e1, cut_nat]
        unfold part
        congr 2
        omega
      refine ⟨as.map V.ref, by rw [upd_ne npD]; exact hD1, ?_, as ++ [p], fun b o e => ?_, ?_, ?_, fun j a e => ?_⟩
      · rw [List.length_map, hl1, PySem.sizeLine_eq]
        have : m ≤ w * m := Nat.le_mul_of_pos_left m hw
        omega
      · rw [upd_ne (ne_of_none e hD), upd_ne (ne_of_none (hS1 _ _ e) hp)]
        exact hS1 _ _ e
      · rw [upd_same, List.map_append]
        rfl
      · rw [List.length_append, hl1]
        rfl
      · rcases get_snoc e with e | ⟨rfl, rfl⟩
        · obtain ⟨q1, q2⟩ := ha1 j a e
          exact ⟨q1, by rw [upd_ne q1, upd_ne (ne_of_none q2 hp)]; exact q2⟩
        · refine ⟨npD.symm, ?_⟩
          rw [upd_ne npD.symm, upd_same, hl1]
          exact congrArg (fun q => some (HO.lst q)) ec
    · rintro H1 ⟨as, hS1, hD1, hl1, ha1⟩
      exact k D as H1 hS1 hD1 hl1 fun i a e => (ha1 i a e).2
end
end BQ
set_option linter.all false
set_option maxRecDepth 100000
set_option maxHeartbeats 4000000
namespace BQ
open PySem PySem.Spec L2 BS
open PySem.W (Frag)

theorem vi_ne_ref {l : List Nat} {as : List Addr} (h : l ≠ []) : l.map vi ≠ as.map V.ref := by
  cases l with
  | nil => exact absurd rfl h
  | cons n l =>
    cases as with
    | nil => simp
    | cons a as => simp
theorem lst_ne {H : Hp} {a D : Addr} {l : List Nat} {as : List Addr} (h : l ≠ []) (h1 : H a = some (.lst (l.map vi))) (h2 : H D = some (.lst (as.map V.ref))) : a ≠ D :=
  ne_of h1 h2 fun e => vi_ne_ref h (by injection e)
theorem part_len {l : List Nat} {w m i : Nat} (h : l.length = w * m) (hi : i < m) : (part l w i).length = w := by
  unfold part
  rw [List.length_take, List.length_drop, h]
  have : w * (i + 1) ≤ w * m := Nat.mul_le_mul_left _ hi
  rw [Nat.mul_succ] at this
  omega
theorem map_ref_at {as : List Addr} {i : Nat} {x : V} (h : (as.map V.ref)[i]? = some x) : ∃ a, as[i]? = some a ∧ x = .ref a := by
  rw [List.getElem?_map] at h
  cases e : as[i]? with
  | none => rw [e] at h; cases h
  | some a => rw [e] at h; exact ⟨a, rfl, (Option.some.inj h).symm⟩
def spReadS (K : Frag) (S : Addr) : Sp := fun vs H Q _ => ∃ (n : Addr) (l : List Nat) (m : Nat), vs = [.ref n] ∧ SqL K H n (l.map vi) ∧ l.length = 10 * m ∧ l.length < 100000 ∧
  ∀ (D : Addr) (as : List Addr) (H' : Hp), Same H H' → H' D = some (.lst (as.map V.ref)) → as.length = m → (∀ (i : Nat) a, as[i]? = some a → SchAt S H' a (schOf (part l 10 i))) → Q (.ref D) H'
def spReadC (K : Frag) (C : Addr) : Sp := fun vs H Q _ => ∃ (n : Addr) (l : List Nat) (m : Nat), vs = [.ref n] ∧ SqL K H n (l.map vi) ∧ l.length = 18 * m ∧ l.length < 100000 ∧
  ∀ (D : Addr) (as : List Addr) (H' : Hp), Same H H' → H' D = some (.lst (as.map V.ref)) → as.length = m → (∀ (i : Nat) a, as[i]? = some a → ChdAt C H' a (chdOf (part l 18 i))) → Q (.ref D) H'
section
variable {P : Program} {w : World} {K : Frag} {mg : Str → Option Value} {base : Heap} {S C A f f1 f2 : Addr} {fd d1 d2 : FuncData}
theorem scReadS : FnScope ["numbers", "part"] ["numbers"] (defScope sReadS) := ⟨rfl, rfl, rfl, by decide +kernel, rfl, by decide +kernel, by decide +kernel⟩
theorem ok_readS (F : Fun K "read_schools" "read_schools" sReadS f fd) (T : Txt K mg S C A) (FC : Fun K "cut" "cut" sCut f1 d1) (bC : Binds K d1 ["numbers", "width"] []) (mC : mg "cut" = some (.ref f1))
    (M : Mk K S f2) (FS : Fun K "__init__" "School.__init__" sSchool f2 d2) (bS : Binds K d2 ["self", "numbers"] []) : FnOk P w K mg base CX0 3 f fd ["numbers"] (spReadS K S) := by
  have GC : FnOk P w K mg base CX0 1 f1 d1 ["numbers", "width"] (spCut K) := ok_cut FC T
  have GS : FnOk P w K mg base CX0 1 f2 d2 ["self", "numbers"] (spSchool K S) := ok_school FS T
  refine F.ok scReadS (fun vs H Q E h => ?_) (fun cdv A' outer s H vs Q E hr h => ?_)
  · obtain ⟨n, l, m, rfl, _⟩ := h
    rfl
  · obtain ⟨n, l, m, rfl, hS, hl, hl2, k⟩ := h
    obtain ⟨t7, e7⟩ := T.k7
    refine ⟨_, pss_one (ps_ret (pe_lc (own := [("part", 1)]) rfl scReadS.nd (pi_list (pe_call GC (hr.mono (by decide)) rfl mC FC.kp bC .nil pass0 (pa_cons (pv 0) (pa_cons (pe_glob (v := vi 10) rfl e7 ⟨t7, rfl⟩) pa_nil))))
      (blkOk_by (by kernel_rfl)) (fun s H C cl fp => pg_name (i := 1) scReadS.nd rfl (Or.inl rfl)) (fun _ _ _ _ _ => pts_nil)
      (fun s H C cl fp => pe_make (E := E0) M GS hr rfl T.mgS bS .nil pass0 (pa_cons (pv 1) pa_nil)))), ?_⟩
    refine ⟨_, rfl, n, l, 10, m, rfl, hS, by decide, by decide, hl, hl2, fun Dc as1 H1 s1 hD1 hl1 ha1 => ⟨Dc, rfl, ⟨_, SqL.of hD1⟩, fun D hD => ?_⟩⟩
    have hDc : Dc ≠ D := ne_of_none hD1 hD
    refine lc_list (K := K) (a := Dc) (xs := as1.map V.ref) (Pv := fun i H' => ∃ as : List Addr, Same H1 H' ∧ H' D = some (.lst (as.map V.ref)) ∧ as.length = i ∧ ∀ (j : Nat) a, as[j]? = some a → a ≠ D ∧ ∃ dx hl, hl ≠ D ∧ H' a = some (.ins S dx (sf (schOf (part l 10 j)) hl)) ∧ H' hl = some (.lst ((schOf (part l 10 j)).held.map vi)))
      ?_ ?_ ?_ ?_
    · exact ⟨[], fun b o e => by rw [upd_ne (ne_of_none e hD)]; exact e, upd_same, rfl, fun j a e => by simp at e⟩
    · rintro i H2 _ ⟨as, s2, _⟩
      exact SqL.of (s2 _ _ hD1)
    · rintro i x H2 hx ⟨as, s2, hD2, hl2', ha2⟩
      obtain ⟨a, ha, rfl⟩ := map_ref_at hx
      have him : i < m := by rw [← hl1]; exact (List.getElem?_eq_some_iff.mp ha).1
      refine ⟨rfl, tYes_if ?_⟩
      refine ⟨_, rfl, fun p dx np nd nx => ?_⟩
      have s3 : Same H2 (upd (upd H2 dx (.own p)) p (.ins S dx [])) := fun b o e => by
        rw [upd_ne (ne_of_none e np), upd_ne (ne_of_none e nd)]
        exact e
      refine ⟨p, dx, a, part l 10 i, rfl, upd_same, SqL.of (s3 _ _ (s2 _ _ (ha1 i a ha))), part_len hl him, fun H3 hs3 kp => ⟨rfl, ?_⟩⟩
      have s4 : Same H2 H3 := Same.made np nd kp
      have hD3 := s4 _ _ hD2
      obtain ⟨dx', hl', g1, g2⟩ := hs3
      have npD : p ≠ D := (ne_of_none hD2 np).symm
      have hne : (schOf (part l 10 i)).held ≠ [] := by
        have := part_len hl him
        intro z
        have z2 := congrArg List.length z
        unfold schOf at z2
        rw [List.length_take, List.length_drop, this] at z2
        simp at z2
      have nhD : hl' ≠ D := lst_ne hne g2 hD3
      refine ⟨as.map V.ref, hD3, ?_, as ++ [p], fun b o e => ?_, ?_, ?_, fun j a' e => ?_⟩
      · rw [List.length_map, hl2', PySem.sizeLine_eq]
        omega
      · rw [upd_ne (ne_of_none e hD)]
        exact s4 _ _ (s2 _ _ e)
      · rw [upd_same, List.map_append]
        rfl
      · rw [List.length_append, hl2']
        rfl
      · rcases get_snoc e with e | ⟨rfl, rfl⟩
        · obtain ⟨q1, dx2, h2, q2, q3, q4⟩ := ha2 j a' e
          exact ⟨q1, dx2, h2, q2, by rw [upd_ne q1]; exact s4 _ _ q3, by rw [upd_ne q2]; exact s4 _ _ q4⟩
        · rw [hl2']
          exact ⟨npD, dx', hl', nhD, by rw [upd_ne npD]; exact g1, by rw [upd_ne nhD]; exact g2⟩
    · rintro H2 ⟨as, s2, hD2, hl2', ha2⟩
      refine k D as H2 (s1.trans s2) hD2 (by rw [hl2', List.length_map]; exact hl1) fun i a e => ?_
      obtain ⟨q1, dx2, h2, q2, q3, q4⟩ := ha2 i a e
      exact ⟨dx2, h2, q3, q4⟩
theorem scReadC : FnScope ["numbers", "part"] ["numbers"] (defScope sReadC) := ⟨rfl, rfl, rfl, by decide +kernel, rfl, by decide +kernel, by decide +kernel⟩
theorem ok_readC (F : Fun K "read_children" "read_children" sReadC f fd) (T : Txt K mg S C A) (FC : Fun K "cut" "cut" sCut f1 d1) (bC : Binds K d1 ["numbers", "width"] []) (mC : mg "cut" = some (.ref f1))
    (M : Mk K C f2) (FS : Fun K "__init__" "Child.__init__" sChild f2 d2) (bS : Binds K d2 ["self", "numbers"] []) : FnOk P w K mg base CX0 3 f fd ["numbers"] (spReadC K C) := by
  have GC : FnOk P w K mg base CX0 1 f1 d1 ["numbers", "width"] (spCut K) := ok_cut FC T
  have GS : FnOk P w K mg base CX0 1 f2 d2 ["self", "numbers"] (spChild K C) := ok_child FS T
  refine F.ok scReadC (fun vs H Q E h => ?_) (fun cdv A' outer s H vs Q E hr h => ?_)
  · obtain ⟨n, l, m, rfl, _⟩ := h
    rfl
  · obtain ⟨n, l, m, rfl, hS, hl, hl2, k⟩ := h
    obtain ⟨t7, e7⟩ := T.k8
    refine ⟨_, pss_one (ps_ret (pe_lc (own := [("part", 1)]) rfl scReadC.nd (pi_list (pe_call GC (hr.mono (by decide)) rfl mC FC.kp bC .nil pass0 (pa_cons (pv 0) (pa_cons (pe_glob (v := vi 18) rfl e7 ⟨t7, rfl⟩) pa_nil))))
      (blkOk_by (by kernel_rfl)) (fun s H C cl fp => pg_name (i := 1) scReadC.nd rfl (Or.inl rfl)) (fun _ _ _ _ _ => pts_nil)
      (fun s H D cl fp => pe_make (E := E0) M GS hr rfl T.mgC bS .nil pass0 (pa_cons (pv 1) pa_nil)))), ?_⟩
    refine ⟨_, rfl, n, l, 18, m, rfl, hS, by decide, by decide, hl, hl2, fun Dc as1 H1 s1 hD1 hl1 ha1 => ⟨Dc, rfl, ⟨_, SqL.of hD1⟩, fun D hD => ?_⟩⟩
    have hDc : Dc ≠ D := ne_of_none hD1 hD
    refine lc_list (K := K) (a := Dc) (xs := as1.map V.ref) (Pv := fun i H' => ∃ as : List Addr, Same H1 H' ∧ H' D = some (.lst (as.map V.ref)) ∧ as.length = i ∧ ∀ (j : Nat) a, as[j]? = some a → a ≠ D ∧ ∃ dx l1 l2, l1 ≠ D ∧ l2 ≠ D ∧ H' a = some (.ins C dx (cf (chdOf (part l 18 j)) l1 l2)) ∧ H' l1 = some (.lst ((chdOf (part l 18 j)).school.map vi)) ∧ H' l2 = some (.lst ((chdOf (part l 18 j)).score.map vi)))
      ?_ ?_ ?_ ?_
    · exact ⟨[], fun b o e => by rw [upd_ne (ne_of_none e hD)]; exact e, upd_same, rfl, fun j a e => by simp at e⟩
    · rintro i H2 _ ⟨as, s2, _⟩
      exact SqL.of (s2 _ _ hD1)
    · rintro i x H2 hx ⟨as, s2, hD2, hl2', ha2⟩
      obtain ⟨a, ha, rfl⟩ := map_ref_at hx
      have him : i < m := by rw [← hl1]; exact (List.getElem?_eq_some_iff.mp ha).1
      refine ⟨rfl, tYes_if ?_⟩
      refine ⟨_, rfl, fun p dx np nd nx => ?_⟩
      have s3 : Same H2 (upd (upd H2 dx (.own p)) p (.ins C dx [])) := fun b o e => by
        rw [upd_ne (ne_of_none e np), upd_ne (ne_of_none e nd)]
        exact e
      refine ⟨p, dx, a, part l 18 i, rfl, upd_same, SqL.of (s3 _ _ (s2 _ _ (ha1 i a ha))), part_len hl him, fun H3 hs3 kp => ⟨rfl, ?_⟩⟩
      have s4 : Same H2 H3 := Same.made np nd kp
      have hD3 := s4 _ _ hD2
      obtain ⟨dx', l1, l2, g1, g2, g3⟩ := hs3
      have npD : p ≠ D := (ne_of_none hD2 np).symm
      have hpl := part_len hl him
      have hne1 : (chdOf (part l 18 i)).school ≠ [] := by
        intro z
        have z2 := congrArg List.length z
        unfold chdOf at z2
        rw [List.length_take, List.length_drop, hpl] at z2
        simp at z2
      have hne2 : (chdOf (part l 18 i)).score ≠ [] := by
        intro z
        have z2 := congrArg List.length z
        unfold chdOf at z2
        rw [List.length_take, List.length_drop, hpl] at z2
        simp at z2
      have n1 : l1 ≠ D := lst_ne hne1 g2 hD3
      have n2 : l2 ≠ D := lst_ne hne2 g3 hD3
      refine ⟨as.map V.ref, hD3, ?_, as ++ [p], fun b o e => ?_, ?_, ?_, fun j a' e => ?_⟩
      · rw [List.length_map, hl2', PySem.sizeLine_eq]
        omega
      · rw [upd_ne (ne_of_none e hD)]
        exact s4 _ _ (s2 _ _ e)
      · rw [upd_same, List.map_append]
        rfl
      · rw [List.length_append, hl2']
        rfl
      · rcases get_snoc e with e | ⟨rfl, rfl⟩
        · obtain ⟨q1, dx2, k1, k2, q2, q3, q4, q5, q6⟩ := ha2 j a' e
          exact ⟨q1, dx2, k1, k2, q2, q3, by rw [upd_ne q1]; exact s4 _ _ q4, by rw [upd_ne q2]; exact s4 _ _ q5, by rw [upd_ne q3]; exact s4 _ _ q6⟩
        · rw [hl2']
          exact ⟨npD, dx', l1, l2, n1, n2, by rw [upd_ne npD]; exact g1, by rw [upd_ne n1]; exact g2, by rw [upd_ne n2]; exact g3⟩
    · rintro H2 ⟨as, s2, hD2, hl2', ha2⟩
      refine k D as H2 (s1.trans s2) hD2 (by rw [hl2', List.length_map]; exact hl1) fun i a e => ?_
      obtain ⟨q1, dx2, k1, k2, q2, q3, q4, q5, q6⟩ := ha2 i a e
      exact ⟨dx2, k1, k2, q4, q5, q6⟩
end
end BQ
set_option linter.all false
set_option maxRecDepth 100000
set_option maxHeartbeats 4000000
namespace BQ
open PySem PySem.Spec L2 BS
open PySem.W (Frag)

abbrev ci (l : List Nat) : List Int := l.map (fun n : Nat => (n : Int))
theorem ci_vi (l : List Nat) : (ci l).map V.int = l.map vi := by rw [List.map_map]; rfl
theorem ci_sum : ∀ l : List Nat, (ci l).sum = (l.sum : Int)
  | [] => rfl
  | n :: l => by
    show (n : Int) + (ci l).sum = _
    rw [ci_sum l, List.sum_cons]
    push_cast
    rfl
theorem dec_vi (a b : Nat) : decide (vi a = vi b) = decide (a = b) := by
  by_cases h : a = b
  · rw [h]; simp
  · have : ¬ vi a = vi b := fun e => h (by injection e with e; omega)
    rw [decide_eq_false this, decide_eq_false h]
theorem dec_le (a b : Nat) : decide ((a : Int) ≤ (b : Int)) = decide (a ≤ b) := by
  congr 1
  exact propext (by omega)
def schRight (x : Sch) : Bool := decide (x.seats ≤ 64) && decide (x.none = 0) && decide (x.held.sum ≤ x.seats)
def spSRight (S : Addr) : Sp := fun vs H Q _ => ∃ (a : Addr) (x : Sch), vs = [.ref a] ∧ SchAt S H a x ∧ Q (.bl (schRight x)) H
def spWRight (C : Addr) : Sp := fun vs H Q _ => ∃ (a : Addr) (x : Chd) (n : Nat), vs = [.ref a, vi n] ∧ ChdAt C H a x ∧ x.school.length = 8 ∧ x.score.length = 8 ∧ ∀ H', Same H H' → Q (.bl (BP.wok n x.school x.score false [])) H'
def chdRight (n : Nat) (x : Chd) : Bool := decide (x.groups ≤ 255) && BP.wok n x.school x.score false []
def spCRight (C : Addr) : Sp := fun vs H Q _ => ∃ (a : Addr) (x : Chd) (n : Nat), vs = [.ref a, vi n] ∧ ChdAt C H a x ∧ x.school.length = 8 ∧ x.score.length = 8 ∧ ∀ H', Same H H' → Q (.bl (chdRight n x)) H'
/-- the dict of the schools wished for so far -/
def wd (ws : List Nat) : List (Key × V) := ws.map (fun s : Nat => ((Sum.inl (s : Int) : Key), V.bl true))
theorem wd_in (ws : List Nat) (s : Nat) : (valV (wd ws) (Sum.inl (s : Int))).isSome = decide (s ∈ ws) := by
  rw [← valV_any, Bool.eq_iff_iff, List.any_eq_true, decide_eq_true_eq]
  constructor
  · rintro ⟨p, hp, e⟩
    obtain ⟨t, ht, rfl⟩ := List.mem_map.mp hp
    have e := of_decide_eq_true e
    injection e with e
    have : t = s := by omega
    exact this ▸ ht
  · intro h
    exact ⟨_, List.mem_map.mpr ⟨s, h, rfl⟩, by simp⟩
theorem wd_put {ws : List Nat} {s : Nat} (h : ¬ s ∈ ws) : putK (wd ws) (Sum.inl (s : Int)) (.bl true) = wd (ws ++ [s]) := by
  have e : valV (wd ws) (Sum.inl (s : Int)) = none := by
    have := wd_in ws s
    rw [decide_eq_false h] at this
    exact Option.not_isSome_iff_eq_none.mp (by rw [this]; simp)
  rw [putK_new _ e]
  unfold wd
  rw [List.map_append]
  rfl
theorem wd_length (ws : List Nat) : (wd ws).length = ws.length := List.length_map _
theorem wok_cons (n s c : Nat) (ss cs ws : List Nat) (ended : Bool) : BP.wok n (s :: ss) (c :: cs) ended ws = if s = 255 then (if c = 0 then BP.wok n ss cs true ws else false) else if ended = true ∨ n ≤ s ∨ s ∈ ws then false else BP.wok n ss cs false (ws ++ [s]) := rfl
section
variable {P : Program} {w : World} {K : Frag} {mg : Str → Option Value} {base : Heap} {S C A f f1 f2 : Addr} {fd d1 d2 : FuncData}
theorem scSRight : FnScope ["school"] ["school"] (defScope sSRight) := ⟨rfl, rfl, rfl, by decide +kernel, rfl, by decide +kernel, by decide +kernel⟩
theorem ok_sright (F : Fun K "school_is_right" "school_is_right" sSRight f fd) (T : Txt K mg S C A) : FnOk P w K mg base CX0 1 f fd ["school"] (spSRight S) := by
  refine F.ok scSRight (fun vs H Q E h => ?_) (fun cdv A' outer s H vs Q E hr h => ?_)
  · obtain ⟨a, x, rfl, _⟩ := h
    rfl
  · obtain ⟨a, x, rfl, ⟨dx, hl, h1, h2⟩, k⟩ := h
    obtain ⟨t3, e3⟩ := T.k3
    refine ⟨_, pss_one (ps_ret (pe_and (pe_cmpR op_le (pe_fld (pv 0) rfl) (pe_glob (v := vi 64) rfl e3 ⟨t3, rfl⟩) (nomark _)) (pe_and (pe_cmpR op_eq (pe_fld (pv 0) rfl) pe_int (nomark _))
      (pe_one (pe_cmpR op_le (pe_callB (cr_sum rfl) rfl T.sum PyProof.Rows.boot_sum (pa_cons (pe_fld (pv 0) rfl) pa_nil)) (pe_fld (pv 0) rfl) (nomark _)))))), ?_⟩
    refine ⟨_, rfl, a, S, dx, _, _, rfl, h1, T.clS, T.s1, sf_seats _ _, _, _, rfl, rfl, _, rfl, ?_⟩
    rw [dec_le]
    unfold schRight at k
    refine ite2 (fun c1 => ?_) fun c1 => ?_
    · rw [c1] at k
      refine ⟨_, rfl, a, S, dx, _, _, rfl, h1, T.clS, T.s2, sf_none _ _, rfl, _, rfl, ?_⟩
      rw [show decide (vi x.none = V.int 0) = decide (x.none = 0) from dec_vi x.none 0]
      refine ite2 (fun c2 => ?_) fun c2 => ?_
      · rw [c2] at k
        refine ⟨_, rfl, a, S, dx, _, _, rfl, h1, T.clS, T.s3, sf_held _ _, hl, ci x.held, rfl, SqL.of (by rw [ci_vi]; exact h2), _, rfl, a, S, dx, _, _, rfl, h1, T.clS, T.s1, sf_seats _ _, _, _, rfl, rfl, ?_⟩
        rw [ci_sum]
        show Q (.bl (decide ((x.held.sum : Int) ≤ (x.seats : Int)))) H
        rw [dec_le]
        exact k
      · rw [Bool.eq_false_iff.mpr c2] at k
        exact k
    · rw [Bool.eq_false_iff.mpr c1] at k
      exact k
theorem scWRight : FnScope ["child", "school_count", "wished", "ended", "wish", "school"] ["child", "school_count"] (defScope sWRight) := ⟨rfl, rfl, rfl, by decide +kernel, rfl, by decide +kernel, by decide +kernel⟩
theorem ok_wright (F : Fun K "wishes_are_right" "wishes_are_right" sWRight f fd) (T : Txt K mg S C A) : FnOk P w K mg base CX0 1 f fd ["child", "school_count"] (spWRight C) := by
  refine F.ok scWRight (fun vs H Q E h => ?_) (fun cdv A' outer s H vs Q E hr h => ?_)
  · obtain ⟨a, x, n, rfl, _⟩ := h
    rfl
  · obtain ⟨a, x, n, rfl, hx, l1, l2, k⟩ := h
    obtain ⟨t5, e5⟩ := T.k5
    obtain ⟨t6, e6⟩ := T.k6
    have hu := hu_of hr
    refine ⟨_, pss_cons (ps_set (i := 2) scWRight.nd rfl (Or.inl rfl) pe_dnewK) (pss_cons (ps_set (i := 3) scWRight.nd rfl (Or.inl rfl) pe_bl)
      (pss_cons (ps_for PassesOwn.never rfl (pi_range1 rfl T.rng (pa_cons (pe_glob (v := vi 8) rfl e5 ⟨t5, rfl⟩) pa_nil)) (pg_name (i := 4) scWRight.nd rfl (Or.inl rfl))
        (pss_cons (ps_set (i := 5) scWRight.nd rfl (Or.inl rfl) (pe_ix ix_list (pe_fld (pv 0) rfl) (pv 4) (fun _ _ => rfl)))
        (pss_one (ps_if (pt_cmpR op_eq (pv 5) (pe_glob (v := vi 255) rfl e6 ⟨t6, rfl⟩) (nomark _))
          (pss_cons (ps_set (i := 3) scWRight.nd rfl (Or.inl rfl) pe_bl) (pss_one (ps_if (pt_cmpR op_ne (pe_ix ix_list (pe_fld (pv 0) rfl) (pv 4) (fun _ _ => rfl)) pe_int (nomark _)) (pss_one (ps_ret pe_bl)) pss_nil)))
          (pss_one (ps_if (pw_or (pt_val (pv 3)) (pw_or (pt_cmpR op_ge (pv 5) (pv 1) (nomark _)) (pw_or1 (pt_cmp (pc_din hu (pv 5) (pv 2)))))).pt (pss_one (ps_ret pe_bl))
            (pss_one (ps_dput hu (pv 2) (pv 5) pe_bl rfl))))))))
      (pss_one (ps_ret pe_bl)))), ?_⟩
    intro d hd
    refine ⟨8, rfl, by decide, by decide, ?_⟩
    refine for_range (lo := 0) (n := 8) (Pv := fun i σ H' => ∃ (ended : Bool) (ws : List Nat) (v4 v5 : Option V), σ = [some (.ref a), some (vi n), some (.ref d), some (.bl ended), v4, v5] ∧ (∀ b o, H b = some o → H' b = some o) ∧ H' d = some (.dK (wd ws)) ∧ ws.length ≤ i ∧
      BP.wok n (x.school.drop i) (x.score.drop i) ended ws = BP.wok n x.school x.score false []) ?_ ?_ ?_
    · exact ⟨false, [], none, none, rfl, fun b o e => by rw [upd_ne (ne_of_none e hd)]; exact e, upd_same, Nat.le_refl _, rfl⟩
    · rintro i σ H1 hi ⟨ended, ws, v4, v5, rfl, s1, hd1, hwl, hw⟩
      obtain ⟨dx, a1, a2, g1, g2, g3⟩ := hx.same s1
      have hs1 := at_some (l := x.school) (j := i) (by omega)
      have hc1 := at_some (l := x.score) (j := i) (by omega)
      have es : x.school.drop i = x.school.getD i 0 :: x.school.drop (i + 1) := by
        rw [List.drop_eq_getElem_cons (by omega)]
        congr 1
        rw [List.getD_eq_getElem?_getD, List.getElem?_eq_getElem (by omega)]
        rfl
      have ec : x.score.drop i = x.score.getD i 0 :: x.score.drop (i + 1) := by
        rw [List.drop_eq_getElem_cons (by omega)]
        congr 1
        rw [List.getD_eq_getElem?_getD, List.getElem?_eq_getElem (by omega)]
        rfl
      rw [es, ec, wok_cons] at hw
      generalize x.school.getD i 0 = sc at hs1 hw
      generalize x.score.getD i 0 = co at hc1 hw
      have e0 : (0 : Int) + (i : Nat) = ((i : Nat) : Int) := by omega
      rw [e0]
      refine ⟨_, rfl, a, C, dx, _, _, rfl, g1, T.clC, T.c3, cf_school _ _ _, _, rfl, a1, _, _, _, rfl, rfl, SqL.of g2, at_map hs1, ?_⟩
      refine ⟨_, rfl, rfl, _, rfl, ?_⟩
      rw [dec_vi]
      refine ite2 (fun c1 => ?_) fun c1 => ?_
      · have c1 := of_decide_eq_true c1
        rw [if_pos c1] at hw
        refine ⟨_, rfl, a, C, dx, _, _, rfl, g1, T.clC, T.c4, cf_score _ _ _, _, rfl, a2, _, _, _, rfl, rfl, SqL.of g3, at_map hc1, rfl, _, rfl, ?_⟩
        rw [show decide (vi co = V.int 0) = decide (co = 0) from dec_vi co 0]
        by_cases c2 : co = 0
        · rw [decide_eq_true c2]
          refine iteF ?_
          rw [if_pos c2] at hw
          exact ⟨true, ws, _, _, rfl, s1, hd1, Nat.le_succ_of_le hwl, hw⟩
        · rw [decide_eq_false c2]
          refine iteT ?_
          rw [if_neg c2] at hw
          have := k H1 s1
          rw [← hw] at this
          exact this
      · have c1 := of_decide_eq_false (Bool.eq_false_iff.mpr c1)
        rw [if_neg c1] at hw
        have bad : (ended = true ∨ n ≤ sc ∨ sc ∈ ws) → Q (.bl false) H1 := fun z => by
          rw [if_pos z] at hw
          have := k H1 s1
          rw [← hw] at this
          exact this
        refine ⟨_, rfl, _, rfl, ?_⟩
        refine ite2 (fun c2 => ?_) fun c2 => ?_
        · exact iteT (bad (.inl c2))
        · refine ⟨_, rfl, _, rfl, _, _, rfl, rfl, _, rfl, ?_⟩
          rw [dec_le]
          refine ite2 (fun c3 => ?_) fun c3 => ?_
          · exact iteT (bad (.inr (.inl (of_decide_eq_true c3))))
          · refine ⟨_, rfl, _, rfl, d, _, rfl, DGet.k (k := Sum.inl (sc : Int)) hd1, _, rfl, ?_⟩
            rw [wd_in]
            refine ite2 (fun c4 => ?_) fun c4 => ?_
            · exact bad (.inr (.inr (of_decide_eq_true c4)))
            · have c3 := of_decide_eq_false (Bool.eq_false_iff.mpr c3)
              have c4 := of_decide_eq_false (Bool.eq_false_iff.mpr c4)
              have hend : ended = false := Bool.eq_false_iff.mpr c2
              rw [if_neg (by rintro (z | z | z); exact c2 z; exact c3 z; exact c4 z)] at hw
              refine ⟨_, rfl, _, rfl, d, _, rfl, DPut.k (k := Sum.inl (sc : Int)) hd1 (by rw [wd_length, PySem.sizeLine_eq]; omega), ?_⟩
              rw [wd_put c4]
              refine ⟨ended, ws ++ [sc], _, _, rfl, fun b o e => ?_, upd_same, by rw [List.length_append]; exact Nat.succ_le_succ hwl, by rw [hend]; exact hw⟩
              rw [upd_ne (ne_of_none e hd)]
              exact s1 b o e
    · rintro σ H1 ⟨ended, ws, v4, v5, rfl, s1, hd1, hwl, hw⟩
      rw [List.drop_of_length_le (by omega), List.drop_of_length_le (by omega)] at hw
      have := k H1 s1
      rw [← hw] at this
      exact this
end
end BQ
set_option linter.all false
set_option maxRecDepth 100000
set_option maxHeartbeats 4000000
namespace BQ
open PySem PySem.Spec L2 BS
open PySem.W (Frag)

/-- a def of the module, as its callers have it -/
def Dn (P : Program) (w : World) (K : Frag) (mg : Str → Option Value) (base : Heap) (k : Nat) (x : Str) (ps : List Str) (sp : Sp) : Prop :=
  ∃ (f : Addr) (fd : FuncData), FnOk P w K mg base CX0 k f fd ps sp ∧ mg x = some (.ref f) ∧ PySem.W.keepIn K (.ref f) = true ∧ Binds K fd ps []
/-- a class of the module -/
def Kl (P : Program) (w : World) (K : Frag) (mg : Str → Option Value) (base : Heap) (k : Nat) (x : Str) (C : Addr) (ps : List Str) (sp : Sp) : Prop :=
  ∃ (f : Addr) (fd : FuncData), Mk K C f ∧ FnOk P w K mg base CX0 k f fd ps sp ∧ mg x = some (.ref C) ∧ Binds K fd ps []
def Cds (C : Addr) (H : Hp) (as : List Addr) (cs : List Chd) : Prop := as.length = cs.length ∧ ∀ (i : Nat) a x, as[i]? = some a → cs[i]? = some x → ChdAt C H a x
def Scs (S : Addr) (H : Hp) (as : List Addr) (cs : List Sch) : Prop := as.length = cs.length ∧ ∀ (i : Nat) a x, as[i]? = some a → cs[i]? = some x → SchAt S H a x
def Aps (A : Addr) (H : Hp) (as : List Addr) (cs : List BP.Ap) : Prop := as.length = cs.length ∧ ∀ (i : Nat) a x, as[i]? = some a → cs[i]? = some x → ApAt A H a x
theorem Cds.same {C : Addr} {H H' : Hp} {as : List Addr} {cs : List Chd} (h : Cds C H as cs) (s : Same H H') : Cds C H' as cs := ⟨h.1, fun i a x e1 e2 => (h.2 i a x e1 e2).same s⟩
theorem Aps.same {C : Addr} {H H' : Hp} {as : List Addr} {cs : List BP.Ap} (h : Aps C H as cs) (s : Same H H') : Aps C H' as cs := ⟨h.1, fun i a x e1 e2 => (h.2 i a x e1 e2).same s⟩
theorem Aps.sameP {C P : Addr} {H H' : Hp} {as : List Addr} {cs : List BP.Ap} (h : Aps C H as cs) (s : SameP P H H') (hP : ∃ ps, H P = some (.tbl ps)) : Aps C H' as cs := ⟨h.1, fun i a x e1 e2 => (h.2 i a x e1 e2).sameP s hP⟩
theorem range_map_at {α : Type} {m i : Nat} {f : Nat → α} {x : α} (h : ((List.range m).map f)[i]? = some x) : i < m ∧ x = f i := by
  rw [List.getElem?_map] at h
  by_cases hi : i < m
  · rw [List.getElem?_range hi] at h
    exact ⟨hi, (Option.some.inj h).symm⟩
  · rw [List.getElem?_eq_none (by simpa using hi)] at h
    cases h
def schsOf (l : List Nat) (m : Nat) : List Sch := (List.range m).map (fun i => schOf (part l 10 i))
def chdsOf (l : List Nat) (m : Nat) : List Chd := (List.range m).map (fun i => chdOf (part l 18 i))
theorem schs_len (l : List Nat) (m : Nat) : (schsOf l m).length = m := by unfold schsOf; rw [List.length_map, List.length_range]
theorem chds_len (l : List Nat) (m : Nat) : (chdsOf l m).length = m := by unfold chdsOf; rw [List.length_map, List.length_range]
theorem cds_of {C : Addr} {H : Hp} {as : List Addr} {l : List Nat} {m : Nat} (h1 : as.length = m) (h2 : ∀ (i : Nat) a, as[i]? = some a → ChdAt C H a (chdOf (part l 18 i))) : Cds C H as (chdsOf l m) :=
  ⟨by rw [chds_len]; exact h1, fun i a x e1 e2 => by rw [(range_map_at e2).2]; exact h2 i a e1⟩
theorem scs_of {C : Addr} {H : Hp} {as : List Addr} {l : List Nat} {m : Nat} (h1 : as.length = m) (h2 : ∀ (i : Nat) a, as[i]? = some a → SchAt C H a (schOf (part l 10 i))) : Scs C H as (schsOf l m) :=
  ⟨by rw [schs_len]; exact h1, fun i a x e1 e2 => by rw [(range_map_at e2).2]; exact h2 i a e1⟩
theorem ci_nodup (l : List Nat) : (ci l).Nodup ↔ l.Nodup := by
  unfold ci List.Nodup
  rw [List.pairwise_map]
  constructor
  · intro h; exact h.imp fun {a b} hab e => hab (by omega)
  · intro h; exact h.imp fun {a b} hab e => hab (by omega)
theorem chd_len8 {q : List Nat} (h : q.length = 18) : (chdOf q).school.length = 8 ∧ (chdOf q).score.length = 8 := by
  constructor
  · show ((q.drop 2).take 8).length = 8
    rw [List.length_take, List.length_drop, h]
    rfl
  · show ((q.drop 10).take 8).length = 8
    rw [List.length_take, List.length_drop, h]
    rfl
theorem goodB_iff (m1 m2 : Nat) (l1 l2 : List Nat) : BP.goodB m1 m2 l1 l2 = true ↔ l1.length ≤ 320 ∧ l2.length ≤ 4608 ∧ (∀ i, i < m1 → schRight (schOf (part l1 10 i)) = true) ∧ (∀ i, i < m2 → chdRight m1 (chdOf (part l2 18 i)) = true) ∧ ((chdsOf l2 m2).map Chd.number).Nodup := by
  unfold BP.goodB chdsOf
  rw [List.map_map]
  simp only [Bool.and_eq_true, decide_eq_true_eq, List.all_eq_true, List.mem_range]
  constructor
  · rintro ⟨⟨⟨⟨h1, h2⟩, h3⟩, h4⟩, h5⟩
    exact ⟨h1, h2, h3, h4, h5⟩
  · rintro ⟨h1, h2, h3, h4, h5⟩
    exact ⟨⟨⟨⟨h1, h2⟩, h3⟩, h4⟩, h5⟩
def spNDiff (C : Addr) : Sp := fun vs H Q _ => ∃ (D : Addr) (as : List Addr) (cs : List Chd), vs = [.ref D] ∧ H D = some (.lst (as.map V.ref)) ∧ Cds C H as cs ∧ cs.length ≤ 1000 ∧ ∀ H', Same H H' → Q (.bl (decide ((cs.map Chd.number).Nodup))) H'
def spTooMany (K : Frag) : Sp := fun vs H Q _ => ∃ (n1 n2 : Addr) (x1 x2 : List V), vs = [.ref n1, .ref n2] ∧ SqL K H n1 x1 ∧ SqL K H n2 x2 ∧ Q (.bl (decide (320 < x1.length) || decide (4608 < x2.length))) H
def spRefused (K : Frag) : Sp := fun vs H Q _ => ∃ (n1 n2 : Addr) (l1 l2 : List Nat) (m1 m2 : Nat), vs = [.ref n1, .ref n2] ∧ SqL K H n1 (l1.map vi) ∧ SqL K H n2 (l2.map vi) ∧ l1.length = 10 * m1 ∧ l2.length = 18 * m2 ∧ l1.length < 100000 ∧ l2.length < 100000 ∧
  ∀ H', Same H H' → Q (.bl (!BP.goodB m1 m2 l1 l2)) H'
section
variable {P : Program} {w : World} {K : Frag} {mg : Str → Option Value} {base : Heap} {S C A f : Addr} {fd : FuncData}
theorem scCRight : FnScope ["child", "school_count"] ["child", "school_count"] (defScope sCRight) := ⟨rfl, rfl, rfl, by decide +kernel, rfl, by decide +kernel, by decide +kernel⟩
theorem ok_cright (F : Fun K "child_is_right" "child_is_right" sCRight f fd) (T : Txt K mg S C A) (DW : Dn P w K mg base 1 "wishes_are_right" ["child", "school_count"] (spWRight C)) : FnOk P w K mg base CX0 2 f fd ["child", "school_count"] (spCRight C) := by
  obtain ⟨fw, dw, GW, mW, kW, bW⟩ := DW
  refine F.ok scCRight (fun vs H Q E h => ?_) (fun cdv A' outer s H vs Q E hr h => ?_)
  · obtain ⟨a, x, n, rfl, _⟩ := h
    rfl
  · obtain ⟨a, x, n, rfl, hx, l1, l2, k⟩ := h
    obtain ⟨t4, e4⟩ := T.k4
    refine ⟨_, pss_one (ps_ret (pe_and (pe_cmpR op_le (pe_fld (pv 0) rfl) (pe_glob (v := vi 255) rfl e4 ⟨t4, rfl⟩) (nomark _))
      (pe_one (pe_call GW hr rfl mW kW bW .nil pass0 (pa_cons (pv 0) (pa_cons (pv 1) pa_nil)))))), ?_⟩
    obtain ⟨dx, a1, a2, g1, g2, g3⟩ := hx
    refine ⟨_, rfl, a, C, dx, _, _, rfl, g1, T.clC, T.c2, cf_groups _ _ _, _, _, rfl, rfl, _, rfl, ?_⟩
    rw [dec_le]
    unfold chdRight at k
    refine ite2 (fun c1 => ?_) fun c1 => ?_
    · rw [c1] at k
      exact ⟨_, rfl, _, rfl, a, x, n, rfl, ⟨dx, a1, a2, g1, g2, g3⟩, l1, l2, fun H' s' => k H' s'⟩
    · rw [Bool.eq_false_iff.mpr c1] at k
      exact k H (Same.refl H)
theorem scNDiff : FnScope ["children", "child"] ["children"] (defScope sNDiff) := ⟨rfl, rfl, rfl, by decide +kernel, rfl, by decide +kernel, by decide +kernel⟩
theorem ok_ndiff (F : Fun K "numbers_differ" "numbers_differ" sNDiff f fd) (T : Txt K mg S C A) : FnOk P w K mg base CX0 1 f fd ["children"] (spNDiff C) := by
  refine F.ok scNDiff (fun vs H Q E h => ?_) (fun cdv A' outer s H vs Q E hr h => ?_)
  · obtain ⟨D, as, cs, rfl, _⟩ := h
    rfl
  · obtain ⟨D, as, cs, rfl, hD, ⟨hlen, hcs⟩, hb, k⟩ := h
    refine ⟨_, pss_one (ps_ret (pe_cmpR op_eq (pe_callB cr_lenSet rfl T.len boot_len (pa_cons (pe_callTy (cr_set rfl) rfl T.set PyProof.Rows.boot_set (pa_cons
      (pe_lc (own := [("child", 1)]) (te := tFld K (tVar 1) "number") rfl scNDiff.nd (pi_list (pv 0)) (blkOk_by (by kernel_rfl)) (fun s H C cl fp => pg_name (i := 1) scNDiff.nd rfl (Or.inl rfl)) (fun _ _ _ _ _ => pts_nil)
        (fun s H D cl fp => pe_fld (pv 1) rfl)) pa_nil)) pa_nil)) (pe_callB call_len_seq rfl T.len boot_len (pa_cons (pv 0) pa_nil)) (nomark _))), ?_⟩
    refine ⟨_, rfl, D, rfl, ⟨_, SqL.of hD⟩, fun L hL => ?_⟩
    refine lc_list (K := K) (a := D) (xs := as.map V.ref) (Pv := fun i H' => Same H H' ∧ H' L = some (.lst (((cs.map Chd.number).take i).map vi))) ?_ ?_ ?_ ?_
    · exact ⟨fun b o e => by rw [upd_ne (ne_of_none e hL)]; exact e, upd_same⟩
    · rintro i H2 _ ⟨s2, _⟩
      exact SqL.of (s2 _ _ hD)
    · rintro i x H2 hx ⟨s2, hL2⟩
      obtain ⟨a, ha, rfl⟩ := map_ref_at hx
      have hi : i < cs.length := by rw [← hlen]; exact (List.getElem?_eq_some_iff.mp ha).1
      have hc := List.getElem?_eq_getElem hi
      obtain ⟨dx, a1, a2, g1, g2, g3⟩ := (hcs i a _ ha hc).same s2
      refine ⟨rfl, tYes_if ?_⟩
      refine ⟨_, rfl, a, C, dx, _, _, rfl, g1, T.clC, T.c1, cf_number _ _ _, _, hL2, ?_, ?_, ?_⟩
      · rw [List.length_map, List.length_take, PySem.sizeLine_eq]
        omega
      · intro b o e
        rw [upd_ne (ne_of_none e hL)]
        exact s2 _ _ e
      · rw [upd_same, List.take_succ, List.getElem?_map, hc, List.map_append]
        rfl
    · rintro H2 ⟨s2, hL2⟩
      rw [List.take_of_length_le (by rw [List.length_map, List.length_map, hlen]; exact Nat.le_refl _)] at hL2
      refine ⟨L, ci (cs.map Chd.number), rfl, SqL.of (by rw [ci_vi]; exact hL2), ?_, fun p Sx hp => ⟨p, Sx, _, rfl, upd_same, ?_⟩⟩
      · rw [List.length_map, List.length_map]
        show _ < 4096
        omega
      · have s3 : Same H (upd H2 p (.set Sx (distN (ci (cs.map Chd.number))))) := fun b o e => by
          rw [upd_ne (ne_of_none (s2 _ _ e) hp)]
          exact s2 _ _ e
        refine ⟨_, rfl, D, _, rfl, .inl (SqL.of (s3 _ _ hD)), rfl, ?_⟩
        have := k _ s3
        have e : decide (V.int ((distN (ci (cs.map Chd.number)) : Nat) : Int) = V.int (((as.map V.ref).length : Nat) : Int)) = decide ((cs.map Chd.number).Nodup) := by
          have e2 : (as.map V.ref).length = (ci (cs.map Chd.number)).length := by
            rw [List.length_map, List.length_map, List.length_map]
            exact hlen
          rw [e2]
          refine Eq.trans (dec_vi _ _) ?_
          congr 1
          exact propext ((distN_iff _).trans (ci_nodup _))
        rw [← e] at this
        exact this
theorem scTooMany : FnScope ["schools", "children"] ["schools", "children"] (defScope sTooMany) := ⟨rfl, rfl, rfl, by decide +kernel, rfl, by decide +kernel, by decide +kernel⟩
theorem ok_toomany (F : Fun K "too_many" "too_many" sTooMany f fd) (T : Txt K mg S C A) : FnOk P w K mg base CX0 1 f fd ["schools", "children"] (spTooMany K) := by
  refine F.ok scTooMany (fun vs H Q E h => ?_) (fun cdv A' outer s H vs Q E hr h => ?_)
  · obtain ⟨n1, n2, x1, x2, rfl, _⟩ := h
    rfl
  · obtain ⟨n1, n2, x1, x2, rfl, h1, h2, k⟩ := h
    obtain ⟨t1, e1⟩ := T.k1
    obtain ⟨t2, e2⟩ := T.k2
    obtain ⟨t7, e7⟩ := T.k7
    obtain ⟨t8, e8⟩ := T.k8
    refine ⟨_, pss_one (ps_ret (pe_or (pe_cmpR op_gt (pe_callB call_len_seq rfl T.len boot_len (pa_cons (pv 0) pa_nil)) (pe_op op_mul (pe_glob (v := vi 32) rfl e1 ⟨t1, rfl⟩) (pe_glob (v := vi 10) rfl e7 ⟨t7, rfl⟩)) (nomark _))
      (pe_one (pe_cmpR op_gt (pe_callB call_len_seq rfl T.len boot_len (pa_cons (pv 1) pa_nil)) (pe_op op_mul (pe_glob (v := vi 256) rfl e2 ⟨t2, rfl⟩) (pe_glob (v := vi 18) rfl e8 ⟨t8, rfl⟩)) (nomark _))))), ?_⟩
    refine ⟨_, rfl, n1, _, rfl, .inl h1, _, _, rfl, rfl, .inl ⟨by decide, by decide⟩, _, _, rfl, rfl, _, rfl, ?_⟩
    refine ite2 (fun c1 => ?_) fun c1 => ?_
    · have c1 : ((32 : Nat) : Int) * ((10 : Nat) : Int) < ((x1.length : Nat) : Int) := of_decide_eq_true c1
      rw [decide_eq_true (show 320 < x1.length by omega)] at k
      exact k
    · have c1 : ¬ ((32 : Nat) : Int) * ((10 : Nat) : Int) < ((x1.length : Nat) : Int) := of_decide_eq_false (Bool.eq_false_iff.mpr c1)
      rw [decide_eq_false (show ¬ 320 < x1.length by omega)] at k
      refine ⟨_, rfl, n2, _, rfl, .inl h2, _, _, rfl, rfl, .inl ⟨by decide, by decide⟩, _, _, rfl, rfl, ?_⟩
      have e : decide (((256 : Nat) : Int) * ((18 : Nat) : Int) < ((x2.length : Nat) : Int)) = decide (4608 < x2.length) := by
        congr 1
        exact propext (by omega)
      show Q (.bl (decide (((256 : Nat) : Int) * ((18 : Nat) : Int) < ((x2.length : Nat) : Int)))) H
      rw [e]
      exact k
theorem scRefused : FnScope ["schools", "children", "school", "school_count", "child_list", "child"] ["schools", "children"] (defScope sRefused) := ⟨rfl, rfl, rfl, by decide +kernel, rfl, by decide +kernel, by decide +kernel⟩
theorem ok_refused (F : Fun K "refused" "refused" sRefused f fd) (T : Txt K mg S C A) (DT : Dn P w K mg base 1 "too_many" ["schools", "children"] (spTooMany K)) (DS : Dn P w K mg base 3 "read_schools" ["numbers"] (spReadS K S)) (DC : Dn P w K mg base 3 "read_children" ["numbers"] (spReadC K C))
    (DR : Dn P w K mg base 1 "school_is_right" ["school"] (spSRight S)) (DK : Dn P w K mg base 2 "child_is_right" ["child", "school_count"] (spCRight C)) (DN : Dn P w K mg base 1 "numbers_differ" ["children"] (spNDiff C)) : FnOk P w K mg base CX0 4 f fd ["schools", "children"] (spRefused K) := by
  obtain ⟨ft, dt, GT, mT, kT, bT⟩ := DT
  obtain ⟨fs, ds, GS, mS, kS, bS⟩ := DS
  obtain ⟨fc, dc, GC, mC, kC, bC⟩ := DC
  obtain ⟨fr, dr, GR, mR, kR, bR⟩ := DR
  obtain ⟨fk, dk, GK, mK, kK, bK⟩ := DK
  obtain ⟨fn, dn, GN, mN, kN, bN⟩ := DN
  refine F.ok scRefused (fun vs H Q E h => ?_) (fun cdv A' outer s H vs Q E hr h => ?_)
  · obtain ⟨n1, n2, l1, l2, m1, m2, rfl, _⟩ := h
    rfl
  · obtain ⟨n1, n2, l1, l2, m1, m2, rfl, h1, h2, hl1, hl2, hb1, hb2, k⟩ := h
    obtain ⟨t7, e7⟩ := T.k7
    have bad : ∀ H', Same H H' → ¬ BP.goodB m1 m2 l1 l2 = true → Q (.bl true) H' := fun H' s' z => by
      have := k H' s'
      rw [Bool.eq_false_iff.mpr z] at this
      exact this
    have G := goodB_iff m1 m2 l1 l2
    refine ⟨_, pss_cons (ps_if (pt_val (pe_call GT (hr.mono (by decide)) rfl mT kT bT .nil pass0 (pa_cons (pv 0) (pa_cons (pv 1) pa_nil)))) (pss_one (ps_ret pe_bl)) pss_nil)
      (pss_cons (ps_for PassesOwn.never rfl (pi_list (pe_call GS hr rfl mS kS bS .nil pass0 (pa_cons (pv 0) pa_nil))) (pg_name (i := 2) scRefused.nd rfl (Or.inl rfl))
        (pss_one (ps_if (pt_not (pt_val (pe_call GR (hr.mono (by decide)) rfl mR kR bR .nil pass0 (pa_cons (pv 2) pa_nil)))) (pss_one (ps_ret pe_bl)) pss_nil)))
      (pss_cons (ps_set (i := 3) scRefused.nd rfl (Or.inl rfl) (pe_op op_fdiv (pe_callB call_len_seq rfl T.len boot_len (pa_cons (pv 0) pa_nil)) (pe_glob (v := vi 10) rfl e7 ⟨t7, rfl⟩)))
      (pss_cons (ps_set (i := 4) scRefused.nd rfl (Or.inl rfl) (pe_call GC hr rfl mC kC bC .nil pass0 (pa_cons (pv 1) pa_nil)))
      (pss_cons (ps_for PassesOwn.never rfl (pi_list (pv 4)) (pg_name (i := 5) scRefused.nd rfl (Or.inl rfl))
        (pss_one (ps_if (pt_not (pt_val (pe_call GK (hr.mono (by decide)) rfl mK kK bK .nil pass0 (pa_cons (pv 5) (pa_cons (pv 3) pa_nil))))) (pss_one (ps_ret pe_bl)) pss_nil)))
      (pss_one (ps_ret (pe_not (pe_call GN (hr.mono (by decide)) rfl mN kN bN .nil pass0 (pa_cons (pv 4) pa_nil))))))))), ?_⟩
    refine ⟨_, rfl, _, rfl, n1, n2, _, _, rfl, h1, h2, _, rfl, ?_⟩
    rw [List.length_map, List.length_map]
    refine ite2 (fun c1 => ?_) fun c1 => ?_
    · refine bad H (Same.refl H) fun z => ?_
      obtain ⟨q1, q2, _⟩ := G.mp z
      rw [decide_eq_false (show ¬ 320 < l1.length by omega), decide_eq_false (show ¬ 4608 < l2.length by omega)] at c1
      exact absurd c1 (by decide)
    have c1 := Bool.eq_false_iff.mpr c1
    rw [Bool.or_eq_false_iff] at c1
    have b1 : l1.length ≤ 320 := by
      have := of_decide_eq_false c1.1
      omega
    have b2 : l2.length ≤ 4608 := by
      have := of_decide_eq_false c1.2
      omega
    refine ⟨_, rfl, n1, l1, m1, rfl, h1, hl1, hb1, fun D1 as1 H1 s1 hD1 hn1 ha1 => ⟨D1, rfl, ⟨_, SqL.of hD1⟩, ?_⟩⟩
    refine for_list (K := K) (a := D1) (xs := as1.map V.ref) (Pv := fun i σ H' => (∃ v2, σ = [some (.ref n1), some (.ref n2), v2, none, none, none]) ∧ Same H1 H' ∧ ∀ j, j < i → schRight (schOf (part l1 10 j)) = true) ?_ ?_ ?_ ?_
    · exact ⟨⟨none, rfl⟩, Same.refl _, fun j hj => absurd hj (Nat.not_lt_zero _)⟩
    · rintro i σ H2 _ ⟨_, s2, _⟩
      exact SqL.of (s2 _ _ hD1)
    · rintro i x σ H2 hx ⟨⟨v2, rfl⟩, s2, hall⟩
      obtain ⟨a, ha, rfl⟩ := map_ref_at hx
      have him : i < m1 := by rw [← hn1]; exact (List.getElem?_eq_some_iff.mp ha).1
      refine ⟨_, rfl, a, _, rfl, (ha1 i a ha).same s2, _, rfl, ?_⟩
      refine ite2 (fun c2 => ?_) fun c2 => ?_
      · refine bad H2 (s1.trans s2) fun z => ?_
        rw [(G.mp z).2.2.1 i him] at c2
        exact absurd c2 (by decide)
      · refine ⟨⟨_, rfl⟩, s2, fun j hj => ?_⟩
        rcases Nat.lt_succ_iff_lt_or_eq.mp hj with hj | rfl
        · exact hall j hj
        · cases q : schRight (schOf (part l1 10 j)) with
          | true => rfl
          | false => rw [q] at c2; exact absurd rfl c2
    · rintro σ H2 ⟨⟨v2, rfl⟩, s2, hall⟩
      rw [List.length_map, hn1] at hall
      have s12 := s1.trans s2
      refine ⟨_, rfl, n1, _, rfl, .inl (s12.seq h1), _, _, rfl, rfl, ⟨by decide, by decide⟩, ?_⟩
      have e3 : (((l1.map vi).length : Nat) : Int) / ((10 : Nat) : Int) = ((m1 : Nat) : Int) := by
        rw [List.length_map, hl1]
        omega
      dsimp only
      rw [e3]
      refine ⟨_, rfl, n2, l2, m2, rfl, s12.seq h2, hl2, hb2, fun D2 as2 H3 s3 hD2 hn2 ha2 => ?_⟩
      refine ⟨_, rfl, D2, rfl, ⟨_, SqL.of hD2⟩, ?_⟩
      refine for_list (K := K) (a := D2) (xs := as2.map V.ref) (Pv := fun i σ H' => (∃ v5, σ = [some (.ref n1), some (.ref n2), v2, some (vi m1), some (.ref D2), v5]) ∧ Same H3 H' ∧ ∀ j, j < i → chdRight m1 (chdOf (part l2 18 j)) = true) ?_ ?_ ?_ ?_
      · exact ⟨⟨none, rfl⟩, Same.refl _, fun j hj => absurd hj (Nat.not_lt_zero _)⟩
      · rintro i σ H4 _ ⟨_, s4, _⟩
        exact SqL.of (s4 _ _ hD2)
      · rintro i x σ H4 hx ⟨⟨v5, rfl⟩, s4, hall2⟩
        obtain ⟨a, ha, rfl⟩ := map_ref_at hx
        have him : i < m2 := by rw [← hn2]; exact (List.getElem?_eq_some_iff.mp ha).1
        obtain ⟨q1, q2⟩ := chd_len8 (part_len hl2 him)
        refine ⟨_, rfl, _, rfl, a, _, m1, rfl, (ha2 i a ha).same s4, q1, q2, fun H5 s5 => ⟨_, rfl, ?_⟩⟩
        refine ite2 (fun c2 => ?_) fun c2 => ?_
        · refine bad H5 (((s12.trans s3).trans s4).trans s5) fun z => ?_
          rw [(G.mp z).2.2.2.1 i him] at c2
          exact absurd c2 (by decide)
        · refine ⟨⟨_, rfl⟩, s4.trans s5, fun j hj => ?_⟩
          rcases Nat.lt_succ_iff_lt_or_eq.mp hj with hj | rfl
          · exact hall2 j hj
          · cases q : chdRight m1 (chdOf (part l2 18 j)) with
            | true => rfl
            | false => rw [q] at c2; exact absurd rfl c2
      · rintro σ H4 ⟨⟨v5, rfl⟩, s4, hall2⟩
        rw [List.length_map, hn2] at hall2
        refine ⟨_, rfl, D2, as2, chdsOf l2 m2, rfl, s4 _ _ hD2, (cds_of hn2 ha2).same s4, by rw [chds_len]; omega, fun H5 s5 => ⟨_, rfl, ?_⟩⟩
        have := k H5 (((s12.trans s3).trans s4).trans s5)
        have e : BP.goodB m1 m2 l1 l2 = decide (((chdsOf l2 m2).map Chd.number).Nodup) := by
          rw [Bool.eq_iff_iff, G, decide_eq_true_eq]
          exact ⟨fun z => z.2.2.2.2, fun z => ⟨b1, b2, hall, hall2, z⟩⟩
        rw [e] at this
        exact this
end
end BQ
set_option linter.all false
set_option maxRecDepth 100000
set_option maxHeartbeats 4000000
namespace BQ
open PySem PySem.Spec L2 BS
open PySem.W (Frag CodeHd)
open PyProof.Rows (envOfC itemOrd)

theorem same_new {H : Hp} {p : Addr} (h : H p = none) (o : HO) : Same H (upd H p o) := fun b u e => by
  rw [upd_ne (ne_of_none e h)]
  exact e
theorem SameP.lst {Pt b : Addr} {H H' : Hp} {xs : List V} (s : SameP Pt H H') (hT : ∃ ps, H Pt = some (.tbl ps)) (h : H b = some (.lst xs)) : H' b = some (.lst xs) := by
  obtain ⟨ps, hP⟩ := hT
  exact s _ _ (ne_of h hP (by intro z; cases z)) h
theorem Aps.append {A : Addr} {H : Hp} {as bs : List Addr} {cs ds : List BP.Ap} (h1 : Aps A H as cs) (h2 : Aps A H bs ds) : Aps A H (as ++ bs) (cs ++ ds) :=
  ⟨by rw [List.length_append, List.length_append, h1.1, h2.1], fun i a x e1 e2 => by
    rcases Nat.lt_or_ge i as.length with hi | hi
    · rw [List.getElem?_append_left hi] at e1
      rw [List.getElem?_append_left (by rw [← h1.1]; exact hi)] at e2
      exact h1.2 i a x e1 e2
    · rw [List.getElem?_append_right hi] at e1
      rw [List.getElem?_append_right (by rw [← h1.1]; exact hi), ← h1.1] at e2
      exact h2.2 _ a x e1 e2⟩
theorem Aps.take {A : Addr} {H : Hp} {as : List Addr} {cs : List BP.Ap} (h : Aps A H as cs) (n : Nat) : Aps A H (as.take n) (cs.take n) :=
  ⟨by rw [List.length_take, List.length_take, h.1], fun i a x e1 e2 => by
    rw [List.getElem?_take] at e1 e2
    by_cases hi : i < n
    · rw [if_pos hi] at e1 e2
      exact h.2 i a x e1 e2
    · rw [if_neg hi] at e1
      cases e1⟩
theorem Aps.drop {A : Addr} {H : Hp} {as : List Addr} {cs : List BP.Ap} (h : Aps A H as cs) (n : Nat) : Aps A H (as.drop n) (cs.drop n) :=
  ⟨by rw [List.length_drop, List.length_drop, h.1], fun i a x e1 e2 => by
    rw [List.getElem?_drop] at e1 e2
    exact h.2 _ a x e1 e2⟩
theorem Aps.nil {A : Addr} {H : Hp} : Aps A H [] [] := ⟨rfl, fun i a x e1 e2 => by simp at e1⟩
theorem Aps.one {A : Addr} {H : Hp} {a : Addr} {x : BP.Ap} (h : ApAt A H a x) : Aps A H [a] [x] := ⟨rfl, fun i b y e1 e2 => by
  cases i with
  | zero => cases e1; cases e2; exact h
  | succ i => simp at e1⟩
theorem cut_take {α : Type} (f : α → V) (l : List α) (n : Nat) : cutV (l.map f) none (some (n : Int)) = (l.take n).map f := by
  unfold cutV
  rw [HT.sIx_nat]
  show ((l.map f).drop 0).take (min n (l.map f).length - 0) = _
  rw [List.drop_zero, Nat.sub_zero, List.map_take, List.take_eq_take_iff, Nat.min_assoc, Nat.min_self]
theorem cut_drop {α : Type} (f : α → V) (l : List α) (n : Nat) : cutV (l.map f) (some (n : Int)) none = (l.drop n).map f := by
  unfold cutV
  rw [HT.sIx_nat]
  show ((l.map f).drop (min n (l.map f).length)).take ((l.map f).length - min n (l.map f).length) = _
  rw [List.take_of_length_le (by rw [List.length_drop]; exact Nat.le_refl _), List.map_drop]
  rcases Nat.lt_or_ge n (l.map f).length with h | h
  · rw [Nat.min_eq_left (Nat.le_of_lt h)]
  · rw [Nat.min_eq_right h, List.drop_of_length_le (Nat.le_refl _), List.drop_of_length_le h]
def keyZ (g : Nat) (x : BP.Ap) : List Int := [((BP.out g x.child : Nat) : Int), -(x.score : Int), (x.number : Int)]
def keyK (g : Nat) (x : BP.Ap) : List IK := (keyZ g x).map Sum.inl
theorem out_key {g : Nat} {x : BP.Ap} (hg : g ≤ 8) (hx : x.groups < 256) : (1 : Int) - ((x.groups : Int) / 2 ^ ((g : Int)).toNat) % 2 = ((BP.out g x.child : Nat) : Int) := by
  rw [Int.toNat_natCast]
  have e : (x.groups : Int) / 2 ^ g % 2 = ((x.groups / 2 ^ g % 2 : Nat) : Int) := by
    push_cast
    rfl
  rw [e]
  have h2 : x.groups / 2 ^ g % 2 < 2 := Nat.mod_lt _ (by decide)
  have eo : BP.out g x.child = if (decide (g < 8) && x.groups / 2 ^ g % 2 == 1) = true then 0 else 1 := rfl
  rw [eo]
  rcases Nat.lt_or_ge g 8 with h | h
  · rw [decide_eq_true h, Bool.true_and]
    generalize x.groups / 2 ^ g % 2 = n at h2
    match n, h2 with
    | 0, _ => rfl
    | 1, _ => rfl
  · obtain rfl : g = 8 := by omega
    have e0 : x.groups / 2 ^ 8 = 0 := Nat.div_eq_of_lt (by omega)
    rw [e0]
    rfl
theorem lex_before {g : Nat} {a b : BP.Ap} (h : Ks165.before g a.child b.child = true) : PyProof.Rows.lexLt itemOrd (keyK g a) (keyK g b) = true := by
  have h : BP.out g a.child < BP.out g b.child ∨ (BP.out g a.child = BP.out g b.child ∧ (b.score < a.score ∨ (a.score = b.score ∧ a.number < b.number))) := (BP.before_iff g a.child b.child).mp h
  show PyProof.Rows.lexLt itemOrd [Sum.inl ((BP.out g a.child : Nat) : Int), Sum.inl (-(a.score : Int)), Sum.inl (a.number : Int)] [Sum.inl ((BP.out g b.child : Nat) : Int), Sum.inl (-(b.score : Int)), Sum.inl (b.number : Int)] = true
  rw [PyProof.Rows.lex_true]
  show decide (((BP.out g a.child : Nat) : Int) < ((BP.out g b.child : Nat) : Int)) = true ∨ (decide (((BP.out g b.child : Nat) : Int) < ((BP.out g a.child : Nat) : Int)) = false ∧ _)
  rw [PyProof.Rows.lex_true]
  show _ ∨ (_ ∧ (decide (-(a.score : Int) < -(b.score : Int)) = true ∨ (decide (-(b.score : Int) < -(a.score : Int)) = false ∧ _)))
  rw [PyProof.Rows.lex_true]
  show _ ∨ (_ ∧ (_ ∨ (_ ∧ (decide ((a.number : Int) < (b.number : Int)) = true ∨ _))))
  simp only [decide_eq_true_eq, decide_eq_false_iff_not]
  rcases h with h | ⟨h1, h | ⟨h2, h3⟩⟩
  · exact .inl (by omega)
  · exact .inr ⟨by omega, .inl (by omega)⟩
  · exact .inr ⟨by omega, .inr ⟨by omega, .inl (by omega)⟩⟩
theorem perm_map {α β : Type} {f : α → β} {ps m : List β} (h : ps.Perm m) : ∀ l : List α, m = l.map f → ∃ l' : List α, l'.Perm l ∧ ps = l'.map f := by
  induction h with
  | nil =>
    intro l e
    exact ⟨[], by rw [List.map_eq_nil_iff.mp e.symm], rfl⟩
  | cons x p ih =>
    intro l e
    cases l with
    | nil => cases e
    | cons a r =>
      injection e with e1 e2
      obtain ⟨l', h1, h2⟩ := ih r e2
      exact ⟨a :: l', h1.cons a, by rw [h2, e1]; rfl⟩
  | swap x y t =>
    intro l e
    match l, e with
    | a :: b :: r, e =>
      injection e with e1 e2
      injection e2 with e2 e3
      exact ⟨b :: a :: r, List.Perm.swap _ _ _, by rw [e1, e2, e3]; rfl⟩
  | trans h1 h2 ih1 ih2 =>
    intro l e
    obtain ⟨l1, p1, e1⟩ := ih2 l e
    obtain ⟨l2, p2, e2⟩ := ih1 l1 e1
    exact ⟨l2, p2.trans p1, e2⟩
theorem sorted_line {A : Addr} {H : Hp} {g : Nat} {was : List Addr} {waps : List BP.Ap} {ys : List V} (ha : Aps A H was waps) (hd : BP.Dist (waps.map BP.Ap.child)) (ho : Ordered (waps.map (keyK g)) (was.map V.ref) ys) :
    ∃ (bs : List Addr) (line : List BP.Ap), ys = bs.map V.ref ∧ Aps A H bs line ∧ line.Perm waps ∧ line.Pairwise (fun a b => Ks165.before g a.child b.child = true) := by
  obtain ⟨ps, hp, hy, hs⟩ := ho
  rw [List.zip_map] at hp
  obtain ⟨qs, h1, rfl⟩ := perm_map hp _ rfl
  have hperm : (qs.map Prod.fst).Perm waps := by
    have := h1.map Prod.fst
    rw [List.map_fst_zip (by rw [ha.1]; exact Nat.le_refl _)] at this
    exact this
  refine ⟨qs.map Prod.snd, qs.map Prod.fst, ?_, ⟨by rw [List.length_map, List.length_map], fun i a x e1 e2 => ?_⟩, hperm, ?_⟩
  · rw [hy, List.map_map, List.map_map]
    rfl
  · rw [List.getElem?_map] at e1 e2
    cases q : qs[i]? with
    | none => rw [q] at e1; cases e1
    | some z =>
      rw [q] at e1 e2
      have e1 : z.2 = a := Option.some.inj e1
      have e2 : z.1 = x := Option.some.inj e2
      obtain ⟨j, hj⟩ := List.mem_iff_getElem?.mp (h1.mem_iff.mp (List.mem_of_getElem? q))
      obtain ⟨g1, g2⟩ := List.getElem?_zip_eq_some.mp hj
      rw [e2] at g1
      rw [e1] at g2
      exact ha.2 j a x g2 g1
  · have hd2 : BP.Dist ((qs.map Prod.fst).map BP.Ap.child) := hd.perm (hperm.map BP.Ap.child).symm
    unfold BP.Dist List.Nodup at hd2
    rw [List.pairwise_map, List.pairwise_map] at hd2
    rw [List.pairwise_map] at hs hd2 ⊢
    refine (hs.and hd2).imp fun {a b} ⟨q1, q2⟩ => ?_
    rcases BP.before_total (g := g) (show a.1.child.number ≠ b.1.child.number from q2) with z | z
    · exact z
    · have := lex_before z
      rw [show PyProof.Rows.lexLt itemOrd (keyK g b.1) (keyK g a.1) = false from q1] at this
      cases this
structure FunC (K : Frag) (x qual : Str) (st : Stmt) (f : Addr) (fd : FuncData) (c : Addr) : Prop where
  ex : ∃ (oc : Value) (od : Option Addr) (kV doc pm : Value) (an : Option Addr) (ct : Value) (osl : Array (Option Value)),
    fd = PySem.W.fnOf x qual (defArgs st) (defBody st) (defScope st) .none kV doc pm an (.ref c) ct ∧ K.lookup f = some ⟨oc, od, .func fd, osl⟩ ∧ PySem.W.codeIn K (.ref c) qual = true
  kp : PySem.W.keepIn K (.ref f) = true
theorem FunC.fn {K : Frag} {x qual : Str} {st : Stmt} {f : Addr} {fd : FuncData} {c : Addr} (F : FunC K x qual st f fd c) : Fun K x qual st f fd := by
  obtain ⟨oc, od, kV, doc, pm, an, ct, osl, h1, h2, h3⟩ := F.ex
  exact ⟨⟨oc, od, kV, doc, pm, an, .ref c, ct, osl, h1, h2, h3⟩, F.kp⟩
theorem FunC.ok {P : Program} {w : World} {K : Frag} {mg : Str → Option Value} {base : Heap} {x qual : Str} {st : Stmt} {f c : Addr} {fd : FuncData} {N ps : List Str} {k : Nat} {sp : Sp} (F : FunC K x qual st f fd c) (S : FnScope N ps (defScope st)) (len : ∀ vs H Q E, sp vs H Q E → vs.length = ps.length)
    (hbody : ∀ (A : Around) (outer : List Env) (s : Shared) (H : Hp) (vs : List V) (Q : VK) (E : XK), Room k (A.deeper (envOfC qual (defScope st) s.heap.objs.size f (.ref c))) → sp vs H Q E →
      ∃ t, PSs (cxOf CX0 P w K mg base N qual (defScope st) f (.ref c) A outer s H E).nox (defBody st) t ∧ t { nx := fun _ H' => Q .non H', rt := Q } (start N vs) H) : FnOk P w K mg base CX0 (k + 1) f fd ps sp := by
  obtain ⟨oc, od, kV, doc, pm, an, ct, osl, rfl, lk, hcd⟩ := F.ex
  refine fn_of lk hcd S len fun A outer s H vs Q E hr hsp => ?_
  obtain ⟨t, h, q⟩ := hbody A outer s H vs Q E hr hsp
  exact ⟨t, h.nox, q⟩
abbrev Lp : Pos := ⟨79, 35, 79, 81⟩
abbrev qLam : Str := (("in_seat_order" : Str) ++ ".<locals>.") ++ "<lambda>"
abbrev TabL (Pt : Addr) (H : Hp) : Prop := Tab Pt Lp qLam H
def spSeatsBy (S : Addr) : Sp := fun vs H Q _ => ∃ (a : Addr) (x : Sch), vs = [.ref a] ∧ SchAt S H a x ∧ x.held.sum ≤ x.seats ∧ x.held.length ≤ 100 ∧ ∀ (D : Addr) (H' : Hp), Same H H' → H D = none → H' D = some (.lst ((x.held ++ [x.seats - x.held.sum]).map vi)) → Q (.ref D) H'
def spSeatOrd (A : Addr) : Sp := fun vs H Q _ => ∃ (a : Addr) (x : BP.Ap) (g : Nat), vs = [.ref a, vi g] ∧ ApAt A H a x ∧ g ≤ 8 ∧ x.groups < 256 ∧ ∀ (t : Addr), H t = none → Q (.ref t) (upd H t (.tup ((keyZ g x).map V.int)))
def spInSeat (S A Pt : Addr) : Sp := fun vs H Q _ => ∃ (sa ap : Addr) (x : Sch) (as : List Addr) (aps : List BP.Ap) (sch : Ks165.School), vs = [.ref sa, .ref ap] ∧ SchAt S H sa x ∧ sch.seats = x.seats ∧ sch.held = x.held ∧ sch.good = true ∧
  H ap = some (.lst (as.map V.ref)) ∧ Aps A H as aps ∧ aps.length ≤ 1000 ∧ (∀ y ∈ aps, y.groups < 256) ∧ BP.Dist (aps.map BP.Ap.child) ∧ TabL Pt H ∧
  ∀ (D : Addr) (bs : List Addr) (line : List BP.Ap) (H' : Hp), SameP Pt H H' → TabL Pt H' → H D = none → H' D = some (.lst (bs.map V.ref)) → Aps A H' bs line → line.Perm aps → (line.take x.seats).map BP.Ap.child = sch.takes (aps.map BP.Ap.child) → Q (.ref D) H'
section
variable {P : Program} {w : World} {K : Frag} {mg : Str → Option Value} {base : Heap} {S C A f : Addr} {fd : FuncData}
theorem scSeatsBy : FnScope ["school"] ["school"] (defScope sSeatsBy) := ⟨rfl, rfl, rfl, by decide +kernel, rfl, by decide +kernel, by decide +kernel⟩
theorem ok_seatsby (F : Fun K "seats_by_group" "seats_by_group" sSeatsBy f fd) (T : Txt K mg S C A) : FnOk P w K mg base CX0 1 f fd ["school"] (spSeatsBy S) := by
  refine F.ok scSeatsBy (fun vs H Q E h => ?_) (fun cdv A' outer s H vs Q E hr h => ?_)
  · obtain ⟨a, x, rfl, _⟩ := h
    rfl
  · obtain ⟨a, x, rfl, ⟨dx, hl, h1, h2⟩, hs, hn, k⟩ := h
    refine ⟨_, pss_one (ps_ret (pe_op op_cat (pe_fld (pv 0) rfl) (pe_lst (pa_cons (pe_op op_sub (pe_fld (pv 0) rfl) (pe_callB (cr_sum rfl) rfl T.sum PyProof.Rows.boot_sum (pa_cons (pe_fld (pv 0) rfl) pa_nil))) pa_nil)))), ?_⟩
    refine ⟨_, rfl, a, S, dx, _, _, rfl, h1, T.clS, T.s3, sf_held _ _, _, rfl, a, S, dx, _, _, rfl, h1, T.clS, T.s1, sf_seats _ _,
      _, rfl, a, S, dx, _, _, rfl, h1, T.clS, T.s3, sf_held _ _, hl, ci x.held, rfl, SqL.of (by rw [ci_vi]; exact h2), _, _, rfl, rfl, (by show 1 ≤ sizeLine; decide), fun p hp => ?_⟩
    refine ⟨hl, p, _, _, rfl, rfl, (same_new hp _) _ _ h2, upd_same, ?_, fun D hD => ?_⟩
    · rw [List.length_map, PySem.sizeLine_eq]
      show _ + 1 ≤ _
      omega
    · refine k D _ ((same_new hp _).trans (same_new hD _)) ((same_new hp _).free hD) ?_
      rw [upd_same, List.map_append, ci_sum]
      have e : ((x.seats : Nat) : Int) - ((x.held.sum : Nat) : Int) = ((x.seats - x.held.sum : Nat) : Int) := by omega
      dsimp only
      rw [e]
      rfl
theorem scSeatOrd : FnScope ["applicant", "group", "outside"] ["applicant", "group"] (defScope sSeatOrd) := ⟨rfl, rfl, rfl, by decide +kernel, rfl, by decide +kernel, by decide +kernel⟩
theorem ok_seatord (F : Fun K "seat_order" "seat_order" sSeatOrd f fd) (T : Txt K mg S C A) : FnOk P w K mg base CX0 1 f fd ["applicant", "group"] (spSeatOrd A) := by
  refine F.ok scSeatOrd (fun vs H Q E h => ?_) (fun cdv A' outer s H vs Q E hr h => ?_)
  · obtain ⟨a, x, g, rfl, _⟩ := h
    rfl
  · obtain ⟨a, x, g, rfl, ⟨dx, h1⟩, hg, hx, k⟩ := h
    refine ⟨_, pss_cons (ps_set (i := 2) scSeatOrd.nd rfl (Or.inl rfl) (pe_op op_sub pe_int (pe_op op_mod (pe_op op_shr (pe_fld (pv 0) rfl) (pv 1)) pe_int)))
      (pss_one (ps_ret (pe_tup (pa_cons (pv 2) (pa_cons (pe_un un_neg (pe_fld (pv 0) rfl)) (pa_cons (pe_fld (pv 0) rfl) pa_nil)))))), ?_⟩
    refine ⟨_, rfl, a, A, dx, _, _, rfl, h1, T.clA, T.a3, af_groups _, _, rfl, _, _, rfl, rfl, (by show (0 : Int) ≤ (g : Int); omega), _, _, rfl, rfl, (by show (0 : Int) < 2; decide), _, _, rfl, rfl, ?_⟩
    dsimp only
    rw [out_key hg hx]
    exact ⟨_, rfl, _, rfl, a, A, dx, _, _, rfl, h1, T.clA, T.a4, af_score _, _, rfl, _, rfl, a, A, dx, _, _, rfl, h1, T.clA, T.a2, af_number _, (by show 3 ≤ sizeLine; decide), fun t ht => k t ht⟩
theorem scInSeat : FnScope ["school", "applicants", "seated", "waiting", "group", "seats", "line"] ["school", "applicants"] (defScope sInSeat) := ⟨rfl, rfl, rfl, by decide +kernel, rfl, by decide +kernel, by decide +kernel⟩
theorem only_of {names : List (Str × NameKind)} {y : Str} (h : ∀ p ∈ names, (p.2 = .cell ∨ p.2 = .free) → p.1 = y) : ∀ z, (names.lookup z = some .cell ∨ names.lookup z = some .free) → z = y := fun z hz => by
  rcases hz with e | e
  · exact h _ (PySem.mem_of_lookup e) (.inl rfl)
  · exact h _ (PySem.mem_of_lookup e) (.inr rfl)
theorem ok_inseat {c Pt : Addr} (F : FunC K "in_seat_order" "in_seat_order" sInSeat f fd c) (T : Txt K mg S C A) (hC : CodeHd base c Pt) (B : BM mg base) (DB : Dn P w K mg base 1 "seats_by_group" ["school"] (spSeatsBy S)) (DO : Dn P w K mg base 1 "seat_order" ["applicant", "group"] (spSeatOrd A)) :
    FnOk P w K mg base CX0 4 f fd ["school", "applicants"] (spInSeat S A Pt) := by
  obtain ⟨fb, db, GB, mB, kB, bB⟩ := DB
  obtain ⟨fo, dO, GO, mO, kO, bO⟩ := DO
  refine F.ok scInSeat (fun vs H Q E h => ?_) (fun A' outer s H vs Q E hr h => ?_)
  · obtain ⟨sa, ap, x, as, aps, sch, rfl, _⟩ := h
    rfl
  · obtain ⟨sa, ap, x, as, aps, sch, rfl, hsa, e1, e2, hgood, hap, haps, hn, hgr, hd, hT, k⟩ := h
    have hheld : sch.held.length = 8 := by
      unfold Ks165.School.good at hgood
      simp only [Bool.and_eq_true, decide_eq_true_eq, beq_iff_eq] at hgood
      exact hgood.1.1.2
    have hsum : sch.held.sum ≤ sch.seats := by
      unfold Ks165.School.good at hgood
      simp only [Bool.and_eq_true, decide_eq_true_eq, beq_iff_eq] at hgood
      have := hgood.1.2
      rw [BP.sum_eq] at this
      exact this
    refine ⟨_, pss_cons (ps_set (i := 2) scInSeat.nd rfl (Or.inl rfl) (pe_lst pa_nil)) (pss_cons (ps_set (i := 3) scInSeat.nd rfl (Or.inl rfl) (pv 1))
      (pss_cons (ps_for PassesOwn.never rfl (pi_enum rfl T.enm (pa_cons (pe_call GB (hr.mono (by decide)) rfl mB kB bB .nil pass0 (pa_cons (pv 0) pa_nil)) pa_nil))
          (pg_tup rfl (pgs_cons (pg_name (i := 4) scInSeat.nd rfl (Or.inr rfl)) (pgs_cons (pg_name (i := 5) scInSeat.nd rfl (Or.inl rfl)) pgs_nil)))
        (pss_cons (ps_set (i := 6) scInSeat.nd rfl (Or.inl rfl) (pe_sortK (j := 4) (y := "group") (pv 3) rfl T.srt rfl hC B rfl rfl (by decide +kernel) rfl rfl rfl rfl rfl (only_of (by decide +kernel)) (by decide +kernel) (fun _ _ _ _ _ _ _ => rfl) rfl rfl rfl (k := 1) hr GO rfl mO kO bO))
        (pss_cons (ps_set (i := 2) scInSeat.nd rfl (Or.inl rfl) (pe_op op_cat (pv 2) (pe_slice sl_list (pv 6) po_none (po_some (pv 5)))))
        (pss_one (ps_set (i := 3) scInSeat.nd rfl (Or.inl rfl) (pe_slice sl_list (pv 6) (po_some (pv 5)) po_none))))))
      (pss_one (ps_ret (pe_op op_cat (pv 2) (pv 3)))))), ?_⟩
    refine ⟨(by show 0 ≤ sizeLine; decide), fun sl0 hsl0 => ?_⟩
    have s0 : Same H (upd H sl0 (.lst [])) := same_new hsl0 _
    refine ⟨_, rfl, ?_⟩
    refine ⟨_, rfl, sa, x, rfl, hsa.same s0, by rw [← e1, ← e2]; exact hsum, by rw [← e2, hheld]; decide, fun cl H1 s1 hcl0 hcl => ?_⟩
    refine ⟨cl, _, rfl, SqL.of hcl, ?_⟩
    have hlc : (x.held ++ [x.seats - x.held.sum]).length = 9 := by rw [List.length_append, ← e2, hheld]; rfl
    generalize hcounts : x.held ++ [x.seats - x.held.sum] = counts at hcl hlc
    have hord : sch.order = BP.seatsFrom 0 counts := by
      rw [BP.order_eq hheld, e1, e2, hcounts]
    have s01 := s0.trans s1
    refine for_enum (K := K) (a := cl) (xs := counts.map vi) (Pv := fun i σ H' => ∃ (sl wl : Addr) (sas was : List Addr) (seated waiting : List BP.Ap) (v4 v5 v6 : Option V), σ = [some (.ref sa), some (.ref ap), some (.ref sl), some (.ref wl), v4, v5, v6] ∧
      SameP Pt H H' ∧ TabL Pt H' ∧ H' cl = some (.lst (counts.map vi)) ∧ H' sl = some (.lst (sas.map V.ref)) ∧ H' wl = some (.lst (was.map V.ref)) ∧ Aps A H' sas seated ∧ Aps A H' was waiting ∧ BP.Line (counts.drop i) i sch.order aps seated waiting) ?_ ?_ ?_ ?_
    · refine ⟨sl0, ap, [], as, [], aps, none, none, none, rfl, SameP.of s01, hT.same s01, hcl, s1 _ _ upd_same, s01 _ _ hap, Aps.nil, haps.same s01, ?_⟩
      rw [hord]
      exact BP.line_start
    · rintro i σ H2 _ ⟨sl, wl, sas, was, seated, waiting, v4, v5, v6, _, _, _, hc, _⟩
      exact SqL.of hc
    · rintro i xv σ H2 Tt hx ⟨sl, wl, sas, was, seated, waiting, v4, v5, v6, rfl, s2, hT2, hc2, hsl, hwl, hseat, hwait, L⟩ hTt
      rw [List.getElem?_map] at hx
      have hi : i < counts.length := by
        rcases Nat.lt_or_ge i counts.length with z | z
        · exact z
        · rw [List.getElem?_eq_none z] at hx; cases hx
      rw [List.getElem?_eq_getElem hi] at hx
      have hx : vi counts[i] = xv := Option.some.inj hx
      subst hx
      rw [List.drop_eq_getElem_cons hi] at L
      generalize counts[i] = n at L
      have hlenp : seated.length + waiting.length = aps.length := by
        have := L.perm.length_eq
        rw [List.length_append] at this
        exact this
      have hwm : ∀ y ∈ waiting, y.groups < 256 := fun y hy => hgr y (L.perm.mem_iff.mp (List.mem_append_right _ hy))
      have hdw : BP.Dist (waiting.map BP.Ap.child) := (hd.perm (L.perm.map BP.Ap.child).symm).sub (by rw [List.map_append]; exact List.sublist_append_right _ _)
      have s3 : Same H2 (upd H2 Tt (.tup [.int (i : Nat), vi n])) := same_new hTt _
      have hT3 := hT2.same s3
      refine ⟨Tt, _, rfl, SqT.of upd_same, rfl, _, _, rfl, _, _, rfl, rfl, ?_⟩
      refine ⟨_, rfl, wl, was.map V.ref, waiting.map (keyK i), vi i, rfl, SqL.of (s3 _ _ hwl), by rw [List.length_map, List.length_map, hwait.1], hT3, rfl, fun j v z hv hz H' hs' => ?_, fun D ys H3 c' hs3 hfull hD hD3 ho => ?_⟩
      · obtain ⟨a, ha, rfl⟩ := map_ref_at hv
        rw [List.getElem?_map] at hz
        cases q : waiting[j]? with
        | none => rw [q] at hz; cases hz
        | some y =>
          rw [q] at hz
          have hz : keyK i y = z := Option.some.inj hz
          subst hz
          exact ⟨a, y, i, rfl, ((hwait.2 j a y ha q).same s3).sameP hs' hT3.tbl, by omega, hwm y (List.mem_of_getElem? q), fun t ht => ⟨t, _, _, rfl, upd_same, rfl, same_new ht _⟩⟩
      · have hT4 : TabL Pt H3 := .inr ⟨c', hfull⟩
        obtain ⟨bs, line, rfl, hline, hperm, hsort⟩ := sorted_line ((hwait.same s3).sameP hs3 hT3.tbl) hdw ho
        have hsl3 := SameP.lst hs3 hT3.tbl (s3 _ _ hsl)
        have hcl3 := SameP.lst hs3 hT3.tbl (s3 _ _ hc2)
        have hll : line.length = waiting.length := hperm.length_eq
        refine ⟨_, rfl, _, rfl, _, rfl, _, rfl, D, _, rfl, SqL.of hD3, fun p hp => ?_⟩
        rw [cut_take]
        have s4 := same_new hp (.lst ((bs.take n).map V.ref))
        refine ⟨sl, p, _, _, rfl, rfl, s4 _ _ hsl3, upd_same, ?_, fun p2 hp2 => ?_⟩
        · rw [List.length_map, List.length_map, List.length_take, hseat.1, hline.1, PySem.sizeLine_eq]
          omega
        · have s5 := same_new hp2 (.lst (sas.map V.ref ++ (bs.take n).map V.ref))
          refine ⟨_, rfl, _, rfl, _, rfl, D, _, rfl, SqL.of (s5 _ _ (s4 _ _ hD3)), fun p3 hp3 => ?_⟩
          rw [cut_drop]
          have s6 := same_new hp3 (.lst ((bs.drop n).map V.ref))
          have s46 := (s4.trans s5).trans s6
          refine ⟨p2, p3, sas ++ bs.take n, bs.drop n, seated ++ line.take n, line.drop n, _, _, _, rfl, (s2.trans (SameP.of s3)).trans (hs3.trans (SameP.of s46)), hT4.same s46, s46 _ _ hcl3, ?_, upd_same, ?_, (hline.drop n).same s46, ?_⟩
          · rw [List.map_append]
            exact s6 _ _ upd_same
          · exact Aps.append ((((hseat.same s3).sameP hs3 hT3.tbl)).same s46) ((hline.take n).same s46)
          · exact BP.line_turn hd L hperm hsort
    · rintro σ H2 ⟨sl, wl, sas, was, seated, waiting, v4, v5, v6, rfl, s2, hT2, hc2, hsl, hwl, hseat, hwait, L⟩
      rw [List.drop_of_length_le (by rw [List.length_map]; exact Nat.le_refl _)] at L
      obtain ⟨hp, ht⟩ := BP.line_end hgood hd L
      have hlenp : seated.length + waiting.length = aps.length := by
        have := hp.length_eq
        rw [List.length_append] at this
        exact this
      refine ⟨_, rfl, _, rfl, sl, wl, _, _, rfl, rfl, hsl, hwl, ?_, fun D hD => ?_⟩
      · rw [List.length_map, List.length_map, hseat.1, hwait.1, PySem.sizeLine_eq]
        omega
      · have s3 := same_new hD (.lst (sas.map V.ref ++ was.map V.ref))
        refine k D (sas ++ was) (seated ++ waiting) _ (s2.trans (SameP.of s3)) (hT2.same s3) ?_ (by rw [upd_same, List.map_append]) ((hseat.append hwait).same s3) hp (by rw [← e1]; exact ht)
        cases q : H D with
        | none => rfl
        | some o =>
          by_cases hDP : D = Pt
          · obtain ⟨ps, hps⟩ := hT2.tbl
            rw [hDP, hps] at hD
            cases hD
          · rw [s2 _ _ hDP q] at hD
            cases hD
end
end BQ
set_option linter.all false
set_option maxRecDepth 100000
set_option maxHeartbeats 4000000
namespace BQ
open PySem PySem.Spec L2 BS
open PySem.W (Frag CodeHd)
open PyProof.Rows (envOfC itemOrd)

theorem until_at : ∀ (l : List Nat) (j : Nat), j < (BP.until255 l).length → ∃ s, l[j]? = some s ∧ (BP.until255 l)[j]? = some s ∧ s ≠ 255
  | [], j, h => by simp [BP.until255] at h
  | a :: l, j, h => by
    unfold BP.until255 at h ⊢
    by_cases ha : a = 255
    · rw [List.takeWhile_cons_of_neg (by simp [ha])] at h
      simp at h
    · rw [List.takeWhile_cons_of_pos (by simpa using ha)] at h ⊢
      cases j with
      | zero => exact ⟨a, rfl, rfl, ha⟩
      | succ j =>
        obtain ⟨s, h1, h2, h3⟩ := until_at l j (Nat.lt_of_succ_lt_succ h)
        exact ⟨s, h1, h2, h3⟩
theorem until_end : ∀ (l : List Nat), (BP.until255 l).length < l.length → l[(BP.until255 l).length]? = some 255
  | [], h => by simp at h
  | a :: l, h => by
    unfold BP.until255 at h ⊢
    by_cases ha : a = 255
    · rw [List.takeWhile_cons_of_neg (by simp [ha])]
      rw [ha]
      rfl
    · rw [List.takeWhile_cons_of_pos (by simpa using ha)] at h ⊢
      have := until_end l (Nat.lt_of_succ_lt_succ h)
      exact this
theorem len_leN : ∀ {A B : List Nat}, A.Nodup → (∀ a ∈ A, a ∈ B) → A.length ≤ B.length
  | [], B, _, _ => Nat.zero_le _
  | a :: A, B, hA, hs => by
    have haB := hs a List.mem_cons_self
    obtain ⟨h1, h2⟩ := List.nodup_cons.mp hA
    have ih := len_leN (B := B.erase a) h2 fun x hx => (List.mem_erase_of_ne (fun (z : x = a) => h1 (by rw [← z]; exact hx))).mpr (hs x (List.mem_cons_of_mem _ hx))
    rw [List.length_erase_of_mem haB] at ih
    have := List.length_pos_of_mem haB
    rw [List.length_cons]
    omega
theorem nodup_lt {l : List Nat} {n : Nat} (h : l.Nodup) (h2 : ∀ i ∈ l, i < n) : l.length ≤ n := by
  have := len_leN (B := List.range n) h fun a ha => List.mem_range.mpr (h2 a ha)
  rw [List.length_range] at this
  exact this
/-- the plan told by the lists -/
structure PlanOf (p : Ks166.Plan) (schs : List Sch) (chds : List Chd) : Prop where
  ns : schs.length = p.schools.length
  nc : chds.length = p.wish.length
  sch : ∀ (s : Nat) x, schs[s]? = some x → (p.school s).seats = x.seats ∧ (p.school s).held = x.held
  chd : ∀ (i : Nat) x, chds[i]? = some x → ∃ w, p.wish[i]? = some w ∧ w.number = x.number ∧ w.groups = x.groups ∧ w.wishes = (BP.until255 x.school).zip x.score ∧ x.school.length = 8 ∧ x.score.length = 8
  rst : ∀ (i : Nat) x w, chds[i]? = some x → p.wish[i]? = some w → w.rest0 = true → ∀ y ∈ x.school.drop (BP.until255 x.school).length, y = 255
theorem wish_len {x : Chd} {w : Ks166.Wish} (h : w.wishes = (BP.until255 x.school).zip x.score) (h1 : x.school.length = 8) (h2 : x.score.length = 8) : w.wishes.length = (BP.until255 x.school).length := by
  have := BP.until_len x.school
  rw [h, List.length_zip]
  omega
theorem wish_at {x : Chd} {w : Ks166.Wish} (h : w.wishes = (BP.until255 x.school).zip x.score) (h1 : x.school.length = 8) (h2 : x.score.length = 8) {j : Nat} (hj : j < w.wishes.length) :
    ∃ s c, x.school[j]? = some s ∧ s ≠ 255 ∧ x.score[j]? = some c ∧ w.wishes[j]? = some (s, c) := by
  have hl := wish_len h h1 h2
  have hu := BP.until_len x.school
  obtain ⟨s, e1, e2, e3⟩ := until_at x.school j (by omega)
  refine ⟨s, x.score.getD j 0, e1, e3, at_some (by omega), ?_⟩
  rw [h]
  exact List.getElem?_zip_eq_some.mpr ⟨e2, at_some (by omega)⟩
theorem wish_no {x : Chd} {w : Ks166.Wish} (h : w.wishes = (BP.until255 x.school).zip x.score) (h1 : x.school.length = 8) (h2 : x.score.length = 8) {j : Nat} (hj : w.wishes[j]? = none) (hle : j ≤ w.wishes.length) : j < 8 → x.school[j]? = some 255 := fun h8 => by
  have hl := wish_len h h1 h2
  have hn := List.getElem?_eq_none_iff.mp hj
  have e : j = (BP.until255 x.school).length := by omega
  rw [e]
  exact until_end x.school (by omega)
theorem SameP.upd {Pt a : Addr} {H H' : Hp} (s : SameP Pt H H') (h : H a = none) (o : HO) : SameP Pt H (upd H' a o) := fun b u hb e => by
  rw [upd_ne (ne_of_none e h)]
  exact s b u hb e
theorem tab_upd {Pt a : Addr} {H : Hp} {xs : List V} (h : TabL Pt H) (ha : H a = some (.lst xs)) (o : HO) : TabL Pt (upd H a o) := by
  rcases h with h | ⟨c, h1, h2⟩
  · exact .inl (by rw [upd_ne (ne_of h ha (by intro z; cases z))]; exact h)
  · exact .inr ⟨c, by rw [upd_ne (ne_of h1 ha (by intro z; cases z))]; exact h1, by rw [upd_ne (ne_of h2 ha (by intro z; cases z))]; exact h2⟩
theorem ApAt.upd {A a b : Addr} {H : Hp} {x : BP.Ap} {xs : List V} (h : ApAt A H b x) (ha : H a = some (.lst xs)) (o : HO) : ApAt A (upd H a o) b x := by
  obtain ⟨dx, h⟩ := h
  exact ⟨dx, by rw [upd_ne (ne_of h ha (by intro z; cases z))]; exact h⟩
theorem Aps.upd {A a : Addr} {H : Hp} {as : List Addr} {cs : List BP.Ap} {xs : List V} (h : Aps A H as cs) (ha : H a = some (.lst xs)) (o : HO) : Aps A (upd H a o) as cs := ⟨h.1, fun i b x e1 e2 => (h.2 i b x e1 e2).upd ha o⟩
/-- the lists of those whom each school keeps; av: the lists that are changed in their place -/
def Kep (A : Addr) (H : Hp) (av ks : List Addr) (kept : List (List BP.Ap)) : Prop := ks.length = kept.length ∧ ∀ (s : Nat) k l, ks[s]? = some k → kept[s]? = some l → (∀ v ∈ av, k ≠ v) ∧ ∃ bs : List Addr, H k = some (.lst (bs.map V.ref)) ∧ Aps A H bs l
theorem Kep.same {A : Addr} {H H' : Hp} {av ks : List Addr} {kept : List (List BP.Ap)} (h : Kep A H av ks kept) (s : Same H H') : Kep A H' av ks kept := ⟨h.1, fun i k l e1 e2 => let ⟨h1, bs, h2, h3⟩ := h.2 i k l e1 e2; ⟨h1, bs, s _ _ h2, h3.same s⟩⟩
theorem Kep.sameP {A Pt : Addr} {H H' : Hp} {av ks : List Addr} {kept : List (List BP.Ap)} (h : Kep A H av ks kept) (s : SameP Pt H H') (hT : ∃ ps, H Pt = some (.tbl ps)) : Kep A H' av ks kept :=
  ⟨h.1, fun i k l e1 e2 => let ⟨h1, bs, h2, h3⟩ := h.2 i k l e1 e2; ⟨h1, bs, SameP.lst s hT h2, h3.sameP s hT⟩⟩
theorem Kep.upd {A a : Addr} {H : Hp} {av ks : List Addr} {kept : List (List BP.Ap)} {xs : List V} (h : Kep A H av ks kept) (ha : H a = some (.lst xs)) (hm : a ∈ av) (o : HO) : Kep A (upd H a o) av ks kept :=
  ⟨h.1, fun i k l e1 e2 => let ⟨h1, bs, h2, h3⟩ := h.2 i k l e1 e2; ⟨h1, bs, by rw [upd_ne (h1 a hm)]; exact h2, h3.upd ha o⟩⟩
theorem set_at {α : Type} {l : List α} {s i : Nat} {x y : α} (h : (l.set s x)[i]? = some y) : (i = s ∧ y = x ∧ s < l.length) ∨ (i ≠ s ∧ l[i]? = some y) := by
  rw [List.getElem?_set] at h
  by_cases e : s = i
  · rw [if_pos e] at h
    by_cases hs : s < l.length
    · rw [if_pos hs] at h
      exact .inl ⟨e.symm, (Option.some.inj h).symm, hs⟩
    · rw [if_neg hs] at h
      cases h
  · rw [if_neg e] at h
    exact .inr ⟨fun z => e z.symm, h⟩
theorem Kep.set {A : Addr} {H : Hp} {av ks : List Addr} {kept : List (List BP.Ap)} (h : Kep A H av ks kept) (s : Nat) {k' : Addr} {bs : List Addr} {l' : List BP.Ap} (hv : ∀ v ∈ av, k' ≠ v) (hk : H k' = some (.lst (bs.map V.ref))) (ha : Aps A H bs l') : Kep A H av (ks.set s k') (kept.set s l') :=
  ⟨by rw [List.length_set, List.length_set]; exact h.1, fun i k l e1 e2 => by
    rcases set_at e1 with ⟨i1, i2, _⟩ | ⟨i1, i2⟩
    · rcases set_at e2 with ⟨j1, j2, _⟩ | ⟨j1, j2⟩
      · rw [i2, j2]
        exact ⟨hv, bs, hk, ha⟩
      · exact absurd i1 j1
    · rcases set_at e2 with ⟨j1, j2, _⟩ | ⟨j1, j2⟩
      · exact absurd j1 i1
      · exact h.2 i k l i2 j2⟩
/-- the state of best_kept's loop; H: at the call -/
structure Fr (H : Hp) (kl al wl : Addr) : Prop where
  k : H kl = none
  a : H al = none
  w : H wl = none
  ka : kl ≠ al
  kw : kl ≠ wl
  aw : al ≠ wl
structure Bk (A Pt : Addr) (H H' : Hp) (kl al wl : Addr) (ks : List Addr) (kept : List (List BP.Ap)) (asked waiting : List Nat) : Prop where
  sm : SameP Pt H H'
  tab : TabL Pt H'
  k : H' kl = some (.lst (ks.map V.ref))
  a : H' al = some (.lst (asked.map vi))
  w : H' wl = some (.lst (waiting.map vi))
  kep : Kep A H' [kl, al, wl] ks kept
section
variable {A Pt : Addr} {H H' H'' : Hp} {kl al wl : Addr} {ks : List Addr} {kept : List (List BP.Ap)} {asked waiting : List Nat}
theorem Bk.same (b : Bk A Pt H H' kl al wl ks kept asked waiting) (s : Same H' H'') : Bk A Pt H H'' kl al wl ks kept asked waiting := ⟨b.sm.trans (SameP.of s), b.tab.same s, s _ _ b.k, s _ _ b.a, s _ _ b.w, b.kep.same s⟩
theorem Bk.sameP (b : Bk A Pt H H' kl al wl ks kept asked waiting) (s : SameP Pt H' H'') (t : TabL Pt H'') : Bk A Pt H H'' kl al wl ks kept asked waiting :=
  ⟨b.sm.trans s, t, SameP.lst s b.tab.tbl b.k, SameP.lst s b.tab.tbl b.a, SameP.lst s b.tab.tbl b.w, b.kep.sameP s b.tab.tbl⟩
theorem Bk.setw (b : Bk A Pt H H' kl al wl ks kept asked waiting) (F : Fr H kl al wl) (ws : List Nat) : Bk A Pt H (upd H' wl (.lst (ws.map vi))) kl al wl ks kept asked ws :=
  ⟨SameP.upd b.sm F.w _, tab_upd b.tab b.w _, by rw [upd_ne F.kw]; exact b.k, by rw [upd_ne F.aw]; exact b.a, upd_same, b.kep.upd b.w (by simp) _⟩
theorem Bk.seta (b : Bk A Pt H H' kl al wl ks kept asked waiting) (F : Fr H kl al wl) (as : List Nat) : Bk A Pt H (upd H' al (.lst (as.map vi))) kl al wl ks kept as waiting :=
  ⟨SameP.upd b.sm F.a _, tab_upd b.tab b.a _, by rw [upd_ne F.ka]; exact b.k, upd_same, by rw [upd_ne F.aw.symm]; exact b.w, b.kep.upd b.a (by simp) _⟩
theorem Bk.setk (b : Bk A Pt H H' kl al wl ks kept asked waiting) (F : Fr H kl al wl) (s : Nat) {t : Addr} {bs : List Addr} {l : List BP.Ap} (hv : ∀ v ∈ [kl, al, wl], t ≠ v) (ht : H' t = some (.lst (bs.map V.ref))) (ha : Aps A H' bs l) :
    Bk A Pt H (upd H' kl (.lst ((ks.set s t).map V.ref))) kl al wl (ks.set s t) (kept.set s l) asked waiting :=
  ⟨SameP.upd b.sm F.k _, tab_upd b.tab b.k _, upd_same, by rw [upd_ne F.ka.symm]; exact b.a, by rw [upd_ne F.kw.symm]; exact b.w,
    (b.kep.upd b.k (by simp) _).set s hv (by rw [upd_ne (hv kl (by simp))]; exact ht) (ha.upd b.k _)⟩
theorem Bk.fresh (b : Bk A Pt H H' kl al wl ks kept asked waiting) {t : Addr} (h : H' t = none) : ∀ v ∈ [kl, al, wl], t ≠ v := fun v hv z => by
  subst z
  have hv : t = kl ∨ t = al ∨ t = wl := by simpa using hv
  rcases hv with rfl | rfl | rfl
  · rw [b.k] at h; cases h
  · rw [b.a] at h; cases h
  · rw [b.w] at h; cases h
end
theorem ixN_nat {n j : Nat} (h : j < n) : ixN n (j : Int) = some j := by
  unfold ixN
  rw [if_pos (by omega), if_pos (by omega), Int.toNat_natCast]
theorem map_ref_get {as : List Addr} {i : Nat} {a : Addr} (h : as[i]? = some a) : (as.map V.ref)[i]? = some (.ref a) := by rw [List.getElem?_map, h]; rfl
theorem map_ref_set (as : List Addr) (s : Nat) (t : Addr) : (as.map V.ref).set s (.ref t) = (as.set s t).map V.ref := by rw [List.map_set]
theorem map_vi_set (as : List Nat) (s : Nat) (t : Nat) : (as.map vi).set s (vi t) = (as.set s t).map vi := by rw [List.map_set]
theorem snoc_of {l : List Nat} (h : l ≠ []) : ∃ ws i, l = ws ++ [i] := ⟨l.dropLast, l.getLast h, (List.dropLast_concat_getLast h).symm⟩
/-- the rows of a list of applicants -/
theorem rows_app (l : List BP.Ap) (i : Nat) (y : BP.Ap) (h : l[i]? = some y) : ((l.map BP.Ap.row).take (i + 1)).map vi = ((l.map BP.Ap.row).take i).map vi ++ [vi y.row] := by
  rw [List.take_succ, List.getElem?_map, h, List.map_append]
  rfl
theorem plan_of {m1 m2 : Nat} {l1 l2 : List Nat} (h1 : l1.length = 10 * m1) (h2 : l2.length = 18 * m2) : PlanOf (BP.planOf l1 l2) (schsOf l1 m1) (chdsOf l2 m2) := by
  have d1 : l1.length / 10 = m1 := by omega
  have d2 : l2.length / 18 = m2 := by omega
  have e1 : (BP.planOf l1 l2).schools = (List.range m1).map (fun i => (⟨(BP.part l1 10 i).getD 0 0, ((BP.part l1 10 i).drop 2).take 8, (BP.part l1 10 i).getD 1 0 == 0⟩ : Ks165.School)) := by
    unfold BP.planOf
    rw [d1]
    exact BP.schools_eq m1 l1 h1
  have e2 : (BP.planOf l1 l2).wish = (List.range m2).map (fun i => Ks166Neutral.wish (BP.part l2 18 i)) := by
    unfold BP.planOf
    rw [d2]
    exact BP.wishes_eq m2 l2 h2
  refine ⟨by rw [schs_len, e1, List.length_map, List.length_range], by rw [chds_len, e2, List.length_map, List.length_range], fun s x hx => ?_, fun i x hx => ?_, fun i x w hx hw hr y hy => ?_⟩
  · obtain ⟨hs, rfl⟩ := range_map_at hx
    unfold Ks166.Plan.school
    rw [e1, List.getD_eq_getElem?_getD, List.getElem?_map, List.getElem?_range hs]
    exact ⟨rfl, rfl⟩
  · obtain ⟨hi, rfl⟩ := range_map_at hx
    obtain ⟨q1, q2⟩ := chd_len8 (part_len h2 hi)
    refine ⟨Ks166Neutral.wish (BP.part l2 18 i), ?_, rfl, rfl, rfl, q1, q2⟩
    rw [e2, List.getElem?_map, List.getElem?_range hi]
    rfl
  · obtain ⟨hi, rfl⟩ := range_map_at hx
    rw [e2, List.getElem?_map, List.getElem?_range hi] at hw
    have hw : Ks166Neutral.wish (BP.part l2 18 i) = w := Option.some.inj hw
    subst hw
    have hr : (((chdOf (part l2 18 i)).school.drop (BP.until255 (chdOf (part l2 18 i)).school).length).all (fun x => x == 255) && _) = true := hr
    rw [Bool.and_eq_true, List.all_eq_true] at hr
    simpa using hr.1 y hy
end BQ
set_option linter.all false
set_option maxRecDepth 100000
set_option maxHeartbeats 4000000
namespace BQ
open PySem PySem.Spec L2 BS
open PySem.W (Frag CodeHd)
open PyProof.Rows (envOfC itemOrd)

def spBest (S C A Pt : Addr) : Sp := fun vs H Q _ => ∃ (sl cl : Addr) (sas cas : List Addr) (schs : List Sch) (chds : List Chd) (p : Ks166.Plan), vs = [.ref sl, .ref cl] ∧ H sl = some (.lst (sas.map V.ref)) ∧ H cl = some (.lst (cas.map V.ref)) ∧ Scs S H sas schs ∧ Cds C H cas chds ∧
  PlanOf p schs chds ∧ BP.PG p ∧ TabL Pt H ∧ ∀ (kl : Addr) (ks : List Addr) (kept : List (List BP.Ap)) (asked : List Nat) (H' : Hp), SameP Pt H H' → TabL Pt H' → H' kl = some (.lst (ks.map V.ref)) → Kep A H' [] ks kept → BP.Held p kept asked [] → Q (.ref kl) H'
section
variable {P : Program} {w : World} {K : Frag} {mg : Str → Option Value} {base : Heap} {S C A f : Addr} {fd : FuncData}
theorem scBest : FnScope ["schools", "children", "kept", "asked", "waiting", "row", "child", "wish", "wished", "seats", "line", "school", "applicant"] ["schools", "children"] (defScope sBest) := ⟨rfl, rfl, rfl, by decide +kernel, rfl, by decide +kernel, by decide +kernel⟩
theorem ok_best {Pt : Addr} (F : Fun K "best_kept" "best_kept" sBest f fd) (T : Txt K mg S C A) (DI : Dn P w K mg base 4 "in_seat_order" ["school", "applicants"] (spInSeat S A Pt)) (DA : Kl P w K mg base 1 "Applicant" A ["self", "row", "child", "wish"] (spAppl C A)) :
    FnOk P w K mg base CX0 5 f fd ["schools", "children"] (spBest S C A Pt) := by
  obtain ⟨fi, di, GI, mI, kI, bI⟩ := DI
  obtain ⟨fa, da, MA, GA, mA, bA⟩ := DA
  refine F.ok scBest (fun vs H Q E h => ?_) (fun cdv A' outer s H vs Q E hr h => ?_)
  · obtain ⟨sl, cl, sas, cas, schs, chds, p, rfl, _⟩ := h
    rfl
  · obtain ⟨sl, cl, sas, cas, schs, chds, p, rfl, hsl, hcl, hsc, hcd, hpl, PG, hT, k⟩ := h
    obtain ⟨t5, e5⟩ := T.k5
    obtain ⟨t6, e6⟩ := T.k6
    refine ⟨_, pss_cons (ps_setLc (i := 2) (own := [("school", 11)]) rfl scBest.nd rfl rfl (sw_true rfl rfl rfl rfl) (pi_list (pv 0)) (blkOk_by (by kernel_rfl)) (fun s H C cl fp => pg_name (i := 11) scBest.nd rfl (Or.inl rfl)) (fun _ _ _ _ _ => pts_nil) (fun s H D cl fp => pe_lst pa_nil))
      (pss_cons (ps_setLc (i := 3) (own := [("child", 6)]) rfl scBest.nd rfl rfl (sw_true rfl rfl rfl rfl) (pi_list (pv 1)) (blkOk_by (by kernel_rfl)) (fun s H C cl fp => pg_name (i := 6) scBest.nd rfl (Or.inl rfl)) (fun _ _ _ _ _ => pts_nil) (fun s H D cl fp => pe_int))
      (pss_cons (ps_set (i := 4) scBest.nd rfl (Or.inl rfl) (pe_listRange (pe_callB call_len_seq rfl T.len boot_len (pa_cons (pv 1) pa_nil)) rfl rfl T.lst rfl T.rng))
      (pss_cons (ps_while PassesOwn.never (pt_cmpR op_gt (pe_callB call_len_seq rfl T.len boot_len (pa_cons (pv 4) pa_nil)) pe_int (nomark _))
      (pss_cons (ps_set (i := 5) scBest.nd rfl (Or.inl rfl) (pe_bm0 PySem.F.plainAttrs_list PySem.F.slot_list_pop PySem.F.type_list_pop mt_pop (pv 4)))
      (pss_cons (ps_set (i := 6) scBest.nd rfl (Or.inl rfl) (pe_ix ix_list (pv 1) (pv 5) (fun _ _ => rfl)))
      (pss_cons (ps_set (i := 7) scBest.nd rfl (Or.inl rfl) (pe_ix ix_list (pv 3) (pv 5) (fun _ _ => rfl)))
      (pss_one (ps_if (PW.pt (pw_and (pt_cmpR op_lt (pv 7) (pe_glob (v := vi 8) rfl e5 ⟨t5, rfl⟩) (nomark _)) (pw_and1 (pt_cmpR op_ne (pe_ix ix_list (pe_fld (pv 6) rfl) (pv 7) (fun _ _ => rfl)) (pe_glob (v := vi 255) rfl e6 ⟨t6, rfl⟩) (nomark _)))))
      (pss_cons (ps_asg (pe_op op_add (pv 7) pe_int) (pg_sub (pv 3) (pv 5) set_list))
      (pss_cons (ps_set (i := 8) scBest.nd rfl (Or.inl rfl) (pe_ix ix_list (pe_fld (pv 6) rfl) (pv 7) (fun _ _ => rfl)))
      (pss_cons (ps_set (i := 9) scBest.nd rfl (Or.inl rfl) (pe_fld (pe_ix ix_list (pv 0) (pv 8) (fun _ _ => rfl)) rfl))
      (pss_cons (ps_set (i := 10) scBest.nd rfl (Or.inl rfl) (pe_call GI hr rfl mI kI bI .nil pass0 (pa_cons (pe_ix ix_list (pv 0) (pv 8) (fun _ _ => rfl)) (pa_cons (pe_op op_cat (pe_ix ix_list (pv 2) (pv 8) (fun _ _ => rfl)) (pe_lst (pa_cons (pe_make (E := E0) MA GA (hr.mono (by decide)) rfl T.mgA bA .nil pass0 (pa_cons (pv 5) (pa_cons (pv 6) (pa_cons (pv 7) pa_nil)))) pa_nil))) pa_nil))))
      (pss_cons (ps_asg (pe_slice sl_list (pv 10) po_none (po_some (pv 9))) (pg_sub (pv 2) (pv 8) set_list))
      (pss_one (ps_expr (pe_bm PySem.F.plainAttrs_list PySem.F.slot_list_extend PySem.F.type_list_extend mt_extend (pv 4) (pa_cons (pe_lc (own := [("applicant", 12)]) (te := tFld K (tVar 12) "row") rfl scBest.nd (pi_list (pe_slice sl_list (pv 10) (po_some (pv 9)) po_none)) (blkOk_by (by kernel_rfl)) (fun s H C cl fp => pg_name (i := 12) scBest.nd rfl (Or.inl rfl)) (fun _ _ _ _ _ => pts_nil) (fun s H D cl fp => pe_fld (pv 12) rfl)) pa_nil))))))))) pss_nil))))))
      (pss_one (ps_ret (pv 2)))))), ?_⟩
    -- kept
    refine ⟨_, rfl, sl, rfl, ⟨_, SqL.of hsl⟩, fun kl hkl => ?_⟩
    refine lc_list (K := K) (a := sl) (xs := sas.map V.ref) (Pv := fun i H' => ∃ ks : List Addr, Same H H' ∧ H' kl = some (.lst (ks.map V.ref)) ∧ ks.length = i ∧ ∀ k ∈ ks, k ≠ kl ∧ H' k = some (.lst ([] : List V))) ?_ ?_ ?_ ?_
    · exact ⟨[], same_new hkl _, upd_same, rfl, fun k hk => by simp at hk⟩
    · rintro i H1 _ ⟨ks, s1, _⟩
      exact SqL.of (s1 _ _ hsl)
    · rintro i x H1 hx ⟨ks, s1, hk1, hkn, hks⟩
      have hi : i < (sas.map V.ref).length := (List.getElem?_eq_some_iff.mp hx).1
      have hb : sas.length ≤ 32 := by
        have := hsc.1
        have := hpl.ns
        have := PG.ns
        omega
      rw [List.length_map] at hi
      refine ⟨rfl, tYes_if ⟨(by show 0 ≤ sizeLine; decide), fun q hq => ⟨_, (same_new hq _) _ _ hk1, ?_, ks ++ [q], ?_, ?_, ?_, fun k' hk' => ?_⟩⟩⟩
      · rw [List.length_map, PySem.sizeLine_eq]
        omega
      · intro b o e
        rw [upd_ne (ne_of_none e hkl)]
        exact (same_new hq _) _ _ (s1 _ _ e)
      · rw [upd_same, List.map_append]
        rfl
      · rw [List.length_append, hkn]
        rfl
      · have nq : q ≠ kl := (ne_of_none hk1 hq).symm
        rcases List.mem_append.mp hk' with hk' | hk'
        · obtain ⟨n1, n2⟩ := hks k' hk'
          exact ⟨n1, by rw [upd_ne n1]; exact (same_new hq _) _ _ n2⟩
        · have : k' = q := by simpa using hk'
          subst this
          exact ⟨nq, by rw [upd_ne nq]; exact upd_same⟩
    rintro H1 ⟨ks0, s1, hk1, hkn, hks⟩
    rw [List.length_map] at hkn
    -- asked
    refine ⟨_, rfl, cl, rfl, ⟨_, SqL.of (s1 _ _ hcl)⟩, fun al hal => ?_⟩
    refine lc_list (K := K) (a := cl) (xs := cas.map V.ref) (Pv := fun i H' => Same H1 H' ∧ H' al = some (.lst ((List.replicate i 0).map vi))) ?_ ?_ ?_ ?_
    · exact ⟨same_new hal _, upd_same⟩
    · rintro i H2 _ ⟨s2, _⟩
      exact SqL.of (s2 _ _ (s1 _ _ hcl))
    · rintro i x H2 hx ⟨s2, ha2⟩
      have hi : i < (cas.map V.ref).length := (List.getElem?_eq_some_iff.mp hx).1
      have hb : cas.length ≤ 256 := by
        have := hcd.1
        have := hpl.nc
        have := PG.nw
        omega
      rw [List.length_map] at hi
      refine ⟨rfl, tYes_if ⟨_, ha2, ?_, fun b o e => ?_, ?_⟩⟩
      · rw [List.length_map, List.length_replicate, PySem.sizeLine_eq]
        omega
      · rw [upd_ne (ne_of_none e hal)]
        exact s2 _ _ e
      · rw [upd_same, List.replicate_succ', List.map_append]
        rfl
    rintro H2 ⟨s2, ha2⟩
    rw [List.length_map] at ha2
    have hca : cas.length = p.wish.length := by rw [hcd.1, hpl.nc]
    have s12 := s1.trans s2
    -- waiting
    refine ⟨_, rfl, cl, _, rfl, .inl (SqL.of (s12 _ _ hcl)), _, rfl, ?_, fun wl hwl => ?_⟩
    · rw [List.length_map, hca]
      have := PG.nw
      omega
    have s3 := same_new hwl (.lst ((List.range (cas.map V.ref).length).map (fun i : Nat => V.int (i : Int))))
    have ew : (List.range (cas.map V.ref).length).map (fun i : Nat => V.int (i : Int)) = (List.range p.wish.length).map vi := by rw [List.length_map, hca]
    have FR : Fr H kl al wl := ⟨hkl, s1.free hal, s12.free hwl, ne_of_none hk1 hal, ne_of_none (s2 _ _ hk1) hwl, ne_of_none ha2 hwl⟩
    have B0 : Bk A Pt H (upd H2 wl (.lst ((List.range (cas.map V.ref).length).map (fun i : Nat => V.int (i : Int))))) kl al wl ks0 (p.schools.map (fun _ => [])) (p.wish.map (fun _ => 0)) (List.range p.wish.length) := by
      refine ⟨SameP.of (s12.trans s3), hT.same (s12.trans s3), s3 _ _ (s2 _ _ hk1), ?_, by rw [upd_same, ew], ?_, fun s k' l e1 e2 => ⟨fun v hv => ?_, [], ?_, ?_⟩⟩
      · rw [s3 _ _ ha2, List.map_const', hca]
      · rw [List.length_map, hkn, hsc.1, hpl.ns]
      · obtain ⟨n1, n2⟩ := hks k' (List.mem_of_getElem? e1)
        have hv : v = kl ∨ v = al ∨ v = wl := by simpa using hv
        rcases hv with rfl | rfl | rfl
        · exact n1
        · exact ne_of_none n2 hal
        · exact ne_of_none (s2 _ _ n2) hwl
      · obtain ⟨n1, n2⟩ := hks k' (List.mem_of_getElem? e1)
        exact s3 _ _ (s2 _ _ n2)
      · rw [List.getElem?_map] at e2
        cases q : p.schools[s]? with
        | none => rw [q] at e2; cases e2
        | some y =>
          rw [q] at e2
          have e2 : [] = l := Option.some.inj e2
          subst e2
          exact Aps.nil
    generalize upd H2 wl (.lst ((List.range (cas.map V.ref).length).map (fun i : Nat => V.int (i : Int)))) = H3 at B0
    -- the loop
    refine ⟨fun m σ H' => ∃ (ks : List Addr) (kept : List (List BP.Ap)) (asked waiting : List Nat) (v5 v6 v7 v8 v9 v10 v11 v12 : Option V), σ = [some (.ref sl), some (.ref cl), some (.ref kl), some (.ref al), some (.ref wl), v5, v6, v7, v8, v9, v10, v11, v12] ∧
      Bk A Pt H H' kl al wl ks kept asked waiting ∧ BP.Held p kept asked waiting ∧ m = BP.left p asked waiting, ⟨_, ks0, _, _, _, none, none, none, none, none, none, none, none, rfl, B0, BP.held_start rfl rfl rfl, rfl⟩, ?_⟩
    rintro m σ H4 ⟨ks, kept, asked, waiting, v5, v6, v7, v8, v9, v10, v11, v12, rfl, B, HD, rfl⟩
    refine ⟨_, rfl, wl, _, rfl, .inl (SqL.of B.w), _, _, rfl, rfl, _, rfl, ?_⟩
    rw [List.length_map]
    by_cases hw0 : waiting = []
    · subst hw0
      refine iteF ?_
      exact ⟨_, rfl, k kl ks kept asked H4 B.sm B.tab B.k ⟨B.kep.1, fun s k' l e1 e2 => ⟨fun v hv => by simp at hv, (B.kep.2 s k' l e1 e2).2⟩⟩ HD⟩
    obtain ⟨ws, i, rfl⟩ := snoc_of hw0
    have hpos : decide ((0 : Int) < (((ws ++ [i]).length : Nat) : Int)) = true := decide_eq_true (by rw [List.length_append]; show (0 : Int) < ((ws.length + 1 : Nat) : Int); omega)
    rw [hpos]
    refine iteT ⟨fun σ' H' => ∃ m', m' < BP.left p asked (ws ++ [i]) ∧ ∃ (ks : List Addr) (kept : List (List BP.Ap)) (asked waiting : List Nat) (v5 v6 v7 v8 v9 v10 v11 v12 : Option V), σ' = [some (.ref sl), some (.ref cl), some (.ref kl), some (.ref al), some (.ref wl), v5, v6, v7, v8, v9, v10, v11, v12] ∧
      Bk A Pt H H' kl al wl ks kept asked waiting ∧ BP.Held p kept asked waiting ∧ m' = BP.left p asked waiting, fun σ' H' z => z, ?_⟩
    have hi : i < p.wish.length := HD.wlt i (by simp)
    have hca' : cas[i]? = some (cas[i]'(by omega)) := List.getElem?_eq_getElem (by omega)
    generalize cas[i]'(by omega) = ca at hca'
    have hch : chds[i]? = some (chds[i]'(by rw [hpl.nc]; exact hi)) := List.getElem?_eq_getElem _
    generalize chds[i]'(by rw [hpl.nc]; exact hi) = x at hch
    obtain ⟨wi, hwi, hnum, hgrp, hwis, h8, h8'⟩ := hpl.chd i x hch
    have hai : asked[i]? = some (BP.fn asked i) := at_some (by rw [HD.alen]; exact hi)
    generalize hj : BP.fn asked i = j at hai
    have hjle : j ≤ wi.wishes.length := by rw [← hj]; exact HD.ale i wi hwi
    have B2 := B.setw FR ws
    have ed : ((ws ++ [i]).map vi).dropLast = ws.map vi := by rw [List.map_append]; exact List.dropLast_concat
    have el : ((ws ++ [i]).map vi)[((ws ++ [i]).map vi).length - 1]? = some (vi i) := by
      rw [List.map_append, List.length_append, List.length_map]
      show (ws.map vi ++ [vi i])[ws.length + 1 - 1]? = _
      rw [Nat.add_sub_cancel, List.getElem?_append_right (by rw [List.length_map]; exact Nat.le_refl _), List.length_map, Nat.sub_self]
      rfl
    refine ⟨_, rfl, .inl ⟨rfl, _, SqL.of B.w⟩, wl, _, vi i, rfl, rfl, B.w, el, ?_⟩
    rw [ed]
    generalize upd H4 wl (.lst (ws.map vi)) = H5 at B2
    have hcl5 : H5 cl = some (.lst (cas.map V.ref)) := SameP.lst B2.sm hT.tbl hcl
    refine ⟨_, rfl, _, rfl, cl, _, _, _, rfl, rfl, SqL.of hcl5, atI_nat (map_ref_get hca'), ?_⟩
    refine ⟨_, rfl, _, rfl, al, _, _, _, rfl, rfl, SqL.of B2.a, at_map hai, ?_⟩
    obtain ⟨dx, a1, a2, g1, g2, g3⟩ := (hcd.2 i ca x hca' hch).sameP B2.sm hT.tbl
    refine ⟨_, rfl, _, _, rfl, rfl, _, rfl, ?_⟩
    have stop : wi.wishes[j]? = none → (∃ m', m' < BP.left p asked (ws ++ [i]) ∧ ∃ (ks : List Addr) (kept : List (List BP.Ap)) (asked waiting : List Nat) (u5 u6 u7 u8 u9 u10 u11 u12 : Option V), [some (V.ref sl), some (.ref cl), some (.ref kl), some (.ref al), some (.ref wl), some (vi i), some (.ref ca), some (vi j), v8, v9, v10, v11, v12] = [some (V.ref sl), some (.ref cl), some (.ref kl), some (.ref al), some (.ref wl), u5, u6, u7, u8, u9, u10, u11, u12] ∧
      Bk A Pt H H5 kl al wl ks kept asked waiting ∧ BP.Held p kept asked waiting ∧ m' = BP.left p asked waiting) := fun hn =>
      ⟨_, BP.left_done, ks, kept, asked, ws, _, _, _, _, _, _, _, _, rfl, B2, BP.held_done HD hwi (by rw [hj]; exact hn), rfl⟩
    refine ite2 (fun c1 => ?_) fun c1 => ?_
    · have c1 : (j : Int) < ((8 : Nat) : Int) := of_decide_eq_true c1
      have h8j : j < 8 := by omega
      have hs1 := at_some (l := x.school) (j := j) (by omega)
      generalize x.school.getD j 0 = sc at hs1
      refine ⟨_, rfl, ca, C, dx, _, _, rfl, g1, T.clC, T.c3, cf_school _ _ _, _, rfl, a1, _, _, _, rfl, rfl, SqL.of g2, at_map hs1, rfl, _, rfl, ?_⟩
      rw [dec_vi]
      by_cases c2 : sc = 255
      · rw [decide_eq_true c2]
        refine iteF ?_
        refine stop ?_
        cases q : wi.wishes[j]? with
        | none => rfl
        | some y =>
          obtain ⟨s', c', f1, f2, _⟩ := wish_at hwis h8 h8' (List.getElem?_eq_some_iff.mp q).1
          rw [hs1] at f1
          cases f1
          exact absurd c2 f2
      · rw [decide_eq_false c2]
        refine iteT ?_
        have hlt : j < wi.wishes.length := by
          rcases Nat.lt_or_ge j wi.wishes.length with z | z
          · exact z
          · have := wish_no hwis h8 h8' (List.getElem?_eq_none z) hjle h8j
            rw [hs1] at this
            cases this
            exact absurd rfl c2
        obtain ⟨s', cc, f1, f2, f3, f4⟩ := wish_at hwis h8 h8' hlt
        rw [hs1] at f1
        cases f1
        have hsc' : sc < p.schools.length := (PG.w hwi).there (sc, cc) (List.mem_of_getElem? f4)
        have hsas : sas[sc]? = some (sas[sc]'(by rw [hsc.1, hpl.ns]; exact hsc')) := List.getElem?_eq_getElem _
        generalize sas[sc]'(by rw [hsc.1, hpl.ns]; exact hsc') = sa at hsas
        have hsch : schs[sc]? = some (schs[sc]'(by rw [hpl.ns]; exact hsc')) := List.getElem?_eq_getElem _
        generalize schs[sc]'(by rw [hpl.ns]; exact hsc') = xs at hsch
        obtain ⟨q1, q2⟩ := hpl.sch sc xs hsch
        have hkk : ks[sc]? = some (ks[sc]'(by rw [B.kep.1, HD.klen]; exact hsc')) := List.getElem?_eq_getElem _
        generalize ks[sc]'(by rw [B.kep.1, HD.klen]; exact hsc') = kk at hkk
        have hkl' : kept[sc]? = some (kept[sc]'(by rw [HD.klen]; exact hsc')) := List.getElem?_eq_getElem _
        generalize kept[sc]'(by rw [HD.klen]; exact hsc') = l at hkl'
        have hgood := PG.sch sc
        have h64 : (p.school sc).seats ≤ 64 := by
          unfold Ks165.School.good at hgood
          simp only [Bool.and_eq_true, decide_eq_true_eq] at hgood
          exact hgood.1.1.1
        have hll := HD.few sc l hkl'
        -- asked[row] = wish + 1
        have B3 := B2.seta FR (asked.set i (j + 1))
        refine ⟨_, rfl, _, _, rfl, rfl, _, rfl, _, rfl, al, _, _, i, rfl, rfl, B2.a, ixN_nat (by rw [List.length_map, HD.alen]; exact hi), ?_⟩
        have eset : (asked.map vi).set i (V.int ((j : Int) + 1)) = (asked.set i (j + 1)).map vi := map_vi_set asked i (j + 1)
        rw [eset]
        generalize upd H5 al (.lst ((asked.set i (j + 1)).map vi)) = H6 at B3
        obtain ⟨dx', b1, b2, r1, r2, r3⟩ := (hcd.2 i ca x hca' hch).sameP B3.sm hT.tbl
        refine ⟨_, rfl, ca, C, dx', _, _, rfl, r1, T.clC, T.c3, cf_school _ _ _, _, rfl, b1, _, _, _, rfl, rfl, SqL.of r2, at_map hs1, ?_⟩
        have hsl6 : H6 sl = some (.lst (sas.map V.ref)) := SameP.lst B3.sm hT.tbl hsl
        have hsa6 := (hsc.2 sc sa xs hsas hsch).sameP B3.sm hT.tbl
        obtain ⟨ds, hh, y1, y2⟩ := hsa6
        refine ⟨_, rfl, _, rfl, sl, _, _, _, rfl, rfl, SqL.of hsl6, atI_nat (map_ref_get hsas), sa, S, ds, _, _, rfl, y1, T.clS, T.s1, sf_seats _ _, ?_⟩
        -- the call
        obtain ⟨_, bs, hbk, hba⟩ := B3.kep.2 sc kk l hkk hkl'
        refine ⟨_, rfl, _, rfl, sl, _, _, _, rfl, rfl, SqL.of hsl6, atI_nat (map_ref_get hsas), _, rfl, _, rfl, kl, _, _, _, rfl, rfl, SqL.of B3.k, atI_nat (map_ref_get hkk), _, rfl, _, rfl, _, rfl, fun pa dpa np nd nx => ?_⟩
        have s7 : Same H6 (upd (upd H6 dpa (.own pa)) pa (.ins A dpa [])) := fun b o e => by
          rw [upd_ne (ne_of_none e np), upd_ne (ne_of_none e nd)]
          exact e
        refine ⟨pa, dpa, ca, i, j, cc, x, rfl, upd_same, ChdAt.same ⟨dx', b1, b2, r1, r2, r3⟩ s7, f3, fun H7 hpa kp => ⟨rfl, ?_⟩⟩
        have s67 : Same H6 H7 := Same.made np nd kp
        have eap : (⟨i, x.number, x.groups, cc⟩ : BP.Ap) = BP.apOf i wi (sc, cc) := by
          unfold BP.apOf
          rw [hnum, hgrp]
        rw [eap] at hpa
        refine ⟨(by show 1 ≤ sizeLine; decide), fun q1' hq1 => ?_⟩
        have s78 := same_new hq1 (.lst [V.ref pa])
        refine ⟨kk, q1', _, _, rfl, rfl, s78 _ _ (s67 _ _ hbk), upd_same, ?_, fun q2' hq2 => ?_⟩
        · rw [List.length_map, hba.1, PySem.sizeLine_eq]
          show _ + 1 ≤ _
          omega
        have s89 := same_new hq2 (.lst (bs.map V.ref ++ [V.ref pa]))
        have s69 := (s67.trans s78).trans s89
        have B9 := B3.same s69
        have hd := BP.ask_dist (x := (sc, cc)) PG HD hwi hkl'
        refine ⟨sa, q2', xs, bs ++ [pa], l ++ [BP.apOf i wi (sc, cc)], p.school sc, rfl, SchAt.same ⟨ds, hh, y1, y2⟩ s69, q1, q2, hgood, by rw [upd_same, List.map_append]; rfl, ((hba.same s67).append (Aps.one hpa)).same (s78.trans s89), ?_, fun y hy => ?_, hd, B9.tab, fun D cs line H10 hs10 hT10 hDn hD10 hcs hperm htake => ?_⟩
        · rw [List.length_append]
          show _ + 1 ≤ _
          omega
        · rcases List.mem_append.mp hy with hy | hy
          · obtain ⟨v, j', y', z1, z2, z3, z4, z5, z6⟩ := HD.at_ sc l y hkl' hy
            rw [z5]
            exact (PG.w z1).grp
          · have : y = BP.apOf i wi (sc, cc) := by simpa using hy
            rw [this]
            exact (PG.w hwi).grp
        have B10 := B9.sameP hs10 hT10
        rw [← q1] at htake
        have hline : line.length = l.length + 1 := by
          have := hperm.length_eq
          rw [List.length_append] at this
          exact this
        -- kept[wished] = line[:seats]
        refine ⟨_, rfl, _, rfl, _, rfl, D, _, rfl, SqL.of hD10, fun t ht => ?_⟩
        rw [cut_take]
        have s11 := same_new ht (.lst ((cs.take xs.seats).map V.ref))
        have B11 := B10.same s11
        have B12 := B11.setk FR sc (B10.fresh ht) upd_same ((hcs.take xs.seats).same s11)
        refine ⟨_, rfl, _, rfl, kl, _, _, sc, rfl, rfl, B11.k, ixN_nat (by rw [List.length_map]; exact (List.getElem?_eq_some_iff.mp hkk).1), ?_⟩
        rw [map_ref_set]
        have hD12 : (upd (upd H10 t (.lst ((cs.take xs.seats).map V.ref))) kl (.lst ((ks.set sc t).map V.ref))) D = some (.lst (cs.map V.ref)) := by
          have nD : D ≠ kl := fun z => by
            rw [z] at hDn
            rw [B9.k] at hDn
            cases hDn
          rw [upd_ne nD]
          exact s11 _ _ hD10
        have hcs12 := (hcs.same s11).upd B11.k (.lst ((ks.set sc t).map V.ref))
        generalize upd (upd H10 t (.lst ((cs.take xs.seats).map V.ref))) kl (.lst ((ks.set sc t).map V.ref)) = H12 at B12 hD12 hcs12
        -- waiting.extend(..)
        refine ⟨_, rfl, .inl ⟨rfl, _, SqL.of B12.w⟩, ?_⟩
        refine ⟨_, rfl, _, rfl, _, rfl, D, _, rfl, SqL.of hD12, fun u hu => ?_⟩
        rw [cut_drop]
        have s13 := same_new hu (.lst ((cs.drop xs.seats).map V.ref))
        refine ⟨u, rfl, ⟨_, SqL.of upd_same⟩, fun L hL => ?_⟩
        have hdr := ((hcs12.drop xs.seats).same s13)
        have hu13 : (upd H12 u (.lst ((cs.drop xs.seats).map V.ref))) u = some (.lst ((cs.drop xs.seats).map V.ref)) := upd_same
        have B13 := B12.same s13
        generalize upd H12 u (.lst ((cs.drop xs.seats).map V.ref)) = H13 at B13 hdr hu13 hL
        refine lc_list (K := K) (a := u) (xs := (cs.drop xs.seats).map V.ref) (Pv := fun n H' => Same H13 H' ∧ H' L = some (.lst ((((line.drop xs.seats).map BP.Ap.row).take n).map vi))) ?_ ?_ ?_ ?_
        · exact ⟨same_new hL _, upd_same⟩
        · rintro n H14 _ ⟨s14, _⟩
          exact SqL.of (s14 _ _ hu13)
        · rintro n xv H14 hx ⟨s14, hL14⟩
          obtain ⟨b, hb, rfl⟩ := map_ref_at hx
          have hn : n < (line.drop xs.seats).length := by rw [← hdr.1]; exact (List.getElem?_eq_some_iff.mp hb).1
          have hy := List.getElem?_eq_getElem hn
          generalize (line.drop xs.seats)[n] = y at hy
          obtain ⟨dy, hy1⟩ := (hdr.2 n b y hb hy).same s14
          refine ⟨rfl, tYes_if ⟨_, rfl, b, A, dy, _, _, rfl, hy1, T.clA, T.a1, af_row _, _, hL14, ?_, fun b' o e => ?_, ?_⟩⟩
          · rw [List.length_map, List.length_take, PySem.sizeLine_eq]
            rw [List.length_drop] at hn
            omega
          · rw [upd_ne (ne_of_none e hL)]
            exact s14 _ _ e
          · rw [upd_same, rows_app _ _ _ hy]
        rintro H14 ⟨s14, hL14⟩
        rw [List.take_of_length_le (by rw [List.length_map, List.length_map, hdr.1]; exact Nat.le_refl _)] at hL14
        have B14 := B13.same s14
        have hws : ws.length ≤ 256 := by
          have n1 := HD.wnd
          have n2 := nodup_lt HD.wnd HD.wlt
          rw [List.length_append] at n2
          have := PG.nw
          omega
        refine ⟨wl, L, _, _, rfl, rfl, B14.w, hL14, ?_, ?_⟩
        · rw [List.length_map, List.length_map, List.length_map, List.length_drop, PySem.sizeLine_eq]
          omega
        rw [← List.map_append]
        have B15 := B14.setw FR (ws ++ (line.drop xs.seats).map BP.Ap.row)
        have hj' : wi.wishes[BP.fn asked i]? = some (sc, cc) := by rw [hj]; exact f4
        have HD' := BP.held_ask PG HD hwi hj' hkl' hperm htake
        have hm := BP.left_ask PG HD hwi hkl' hperm HD'
        rw [hj] at HD' hm
        rw [q1] at HD' hm
        exact ⟨_, hm, _, _, _, _, _, _, _, _, _, _, _, _, rfl, B15, HD', rfl⟩
    · have c1 : ¬ (j : Int) < ((8 : Nat) : Int) := of_decide_eq_false (Bool.eq_false_iff.mpr c1)
      refine iteF ?_
      refine stop (List.getElem?_eq_none ?_)
      have := (PG.w hwi).len
      omega
end
end BQ
set_option linter.all false
set_option maxRecDepth 100000
set_option maxHeartbeats 4000000
namespace BQ
open PySem PySem.Spec L2 BS
open PySem.W (Frag CodeHd)
open PyProof.Rows (envOfC itemOrd)

def spPlaceOf (A : Addr) : Sp := fun vs H Q _ => ∃ (kl : Addr) (ks : List Addr) (kept : List (List BP.Ap)) (n : Nat), vs = [.ref kl, vi n] ∧ H kl = some (.lst (ks.map V.ref)) ∧ Kep A H [] ks kept ∧ (∀ l ∈ kept, ∀ a ∈ l, a.row < n) ∧ n ≤ 1000 ∧
  ∀ (D : Addr) (H' : Hp), Same H H' → H D = none → H' D = some (.lst ((BP.placeFrom 0 kept (List.replicate n 255)).map vi)) → Q (.ref D) H'
section
variable {P : Program} {w : World} {K : Frag} {mg : Str → Option Value} {base : Heap} {S C A f : Addr} {fd : FuncData}
theorem scPlaceOf : FnScope ["kept", "child_count", "place", "school", "applicants", "applicant", "row"] ["kept", "child_count"] (defScope sPlaceOf) := ⟨rfl, rfl, rfl, by decide +kernel, rfl, by decide +kernel, by decide +kernel⟩
theorem ok_placeof (F : Fun K "place_of_each" "place_of_each" sPlaceOf f fd) (T : Txt K mg S C A) : FnOk P w K mg base CX0 1 f fd ["kept", "child_count"] (spPlaceOf A) := by
  refine F.ok scPlaceOf (fun vs H Q E h => ?_) (fun cdv A' outer s H vs Q E hr h => ?_)
  · obtain ⟨kl, ks, kept, n, rfl, _⟩ := h
    rfl
  · obtain ⟨kl, ks, kept, n, rfl, hkl, hkep, hrow, hn, k⟩ := h
    obtain ⟨t6, e6⟩ := T.k6
    refine ⟨_, pss_cons (ps_setLc (i := 2) (own := [("row", 6)]) rfl scPlaceOf.nd rfl rfl (sw_true rfl rfl rfl rfl) (pi_range1 rfl T.rng (pa_cons (pv 1) pa_nil)) (blkOk_by (by kernel_rfl)) (fun s H C cl fp => pg_name (i := 6) scPlaceOf.nd rfl (Or.inl rfl)) (fun _ _ _ _ _ => pts_nil) (fun s H D cl fp => pe_glob (v := vi 255) rfl e6 ⟨t6, rfl⟩))
      (pss_cons (ps_for PassesOwn.never rfl (pi_enum rfl T.enm (pa_cons (pv 0) pa_nil)) (pg_tup rfl (pgs_cons (pg_name (i := 3) scPlaceOf.nd rfl (Or.inl rfl)) (pgs_cons (pg_name (i := 4) scPlaceOf.nd rfl (Or.inl rfl)) pgs_nil)))
        (pss_one (ps_for PassesOwn.never rfl (pi_list (pv 4)) (pg_name (i := 5) scPlaceOf.nd rfl (Or.inl rfl)) (pss_one (ps_asg (pv 3) (pg_sub (pv 2) (pe_fld (pv 5) rfl) set_list))))))
      (pss_one (ps_ret (pv 2)))), ?_⟩
    refine ⟨_, rfl, _, rfl, by omega, by omega, fun D hD => ?_⟩
    refine lc_range (lo := 0) (n := n) (Pv := fun i H' => Same H H' ∧ H' D = some (.lst ((List.replicate i 255).map vi))) ?_ ?_ ?_
    · exact ⟨same_new hD _, upd_same⟩
    · rintro i H1 hi ⟨s1, hD1⟩
      refine ⟨rfl, tYes_if ⟨_, hD1, ?_, fun b o e => ?_, ?_⟩⟩
      · rw [List.length_map, List.length_replicate, PySem.sizeLine_eq]
        omega
      · rw [upd_ne (ne_of_none e hD)]
        exact s1 _ _ e
      · rw [upd_same, List.replicate_succ', List.map_append]
        rfl
    rintro H1 ⟨s1, hD1⟩
    refine ⟨_, rfl, kl, _, rfl, SqL.of (s1 _ _ hkl), ?_⟩
    refine for_enum (K := K) (a := kl) (xs := ks.map V.ref) (Pv := fun i σ H' => ∃ (q : List Nat) (v3 v4 v5 : Option V), σ = [some (.ref kl), some (vi n), some (.ref D), v3, v4, v5, none] ∧ Same H H' ∧ H' D = some (.lst (q.map vi)) ∧ q.length = n ∧ BP.placeFrom i (kept.drop i) q = BP.placeFrom 0 kept (List.replicate n 255)) ?_ ?_ ?_ ?_
    · exact ⟨_, none, none, none, rfl, s1, hD1, List.length_replicate, rfl⟩
    · rintro i σ H2 _ ⟨q, v3, v4, v5, _, s2, _⟩
      exact SqL.of (s2 _ _ hkl)
    · rintro i xv σ H2 Tt hx ⟨q, v3, v4, v5, rfl, s2, hD2, hq, hpf⟩ hTt
      obtain ⟨kk, hkk, rfl⟩ := map_ref_at hx
      have hi : i < kept.length := by rw [← hkep.1]; exact (List.getElem?_eq_some_iff.mp hkk).1
      have hkl' := List.getElem?_eq_getElem hi
      rw [List.drop_eq_getElem_cons hi] at hpf
      generalize kept[i] = l at hkl' hpf
      obtain ⟨_, bs, hbk, hba⟩ := hkep.2 i kk l hkk hkl'
      have s3 := same_new hTt (.tup [.int (i : Nat), .ref kk])
      refine ⟨Tt, _, rfl, SqT.of upd_same, rfl, _, _, rfl, _, _, rfl, rfl, ?_⟩
      have s23 := s2.trans s3
      have hD3 := s3 _ _ hD2
      generalize upd H2 Tt (.tup [.int (i : Nat), .ref kk]) = H3 at s23 hD3
      refine ⟨_, rfl, kk, rfl, ⟨_, SqL.of (s23 _ _ hbk)⟩, ?_⟩
      refine for_list (K := K) (a := kk) (xs := bs.map V.ref) (Pv := fun j σ H' => ∃ (q' : List Nat) (v5 : Option V), σ = [some (.ref kl), some (vi n), some (.ref D), some (vi i), some (.ref kk), v5, none] ∧ Same H H' ∧ H' D = some (.lst (q'.map vi)) ∧ q'.length = n ∧ BP.putAll i (l.drop j) q' = BP.putAll i l q) ?_ ?_ ?_ ?_
      · exact ⟨q, v5, rfl, s23, hD3, hq, rfl⟩
      · rintro j σ H4 _ ⟨q', v5', _, s4, _⟩
        exact SqL.of (s4 _ _ hbk)
      · rintro j xv σ H4 hx ⟨q', v5', rfl, s4, hD4, hq', hpa⟩
        obtain ⟨b, hb, rfl⟩ := map_ref_at hx
        have hj : j < l.length := by rw [← hba.1]; exact (List.getElem?_eq_some_iff.mp hb).1
        have hy := List.getElem?_eq_getElem hj
        rw [List.drop_eq_getElem_cons hj] at hpa
        generalize l[j] = y at hy hpa
        obtain ⟨dy, hy1⟩ := (hba.2 j b y hb hy).same s4
        have hyr : y.row < n := hrow l (List.mem_of_getElem? hkl') y (List.mem_of_getElem? hy)
        refine ⟨_, rfl, _, rfl, _, rfl, b, A, dy, _, _, rfl, hy1, T.clA, T.a1, af_row _, D, _, _, y.row, rfl, rfl, hD4, ixN_nat (by rw [List.length_map, hq']; exact hyr), ?_⟩
        refine ⟨q'.set y.row i, _, rfl, fun b' o e => ?_, by rw [upd_same, map_vi_set], by rw [List.length_set]; exact hq', hpa⟩
        rw [upd_ne (ne_of_none e hD)]
        exact s4 _ _ e
      · rintro σ H4 ⟨q', v5', rfl, s4, hD4, hq', hpa⟩
        rw [List.drop_of_length_le (by rw [List.length_map, hba.1]; exact Nat.le_refl _)] at hpa
        have hpa : q' = BP.putAll i l q := hpa
        refine ⟨q', _, _, _, rfl, s4, hD4, hq', ?_⟩
        rw [hpa]
        exact hpf
    · rintro σ H2 ⟨q, v3, v4, v5, rfl, s2, hD2, hq, hpf⟩
      rw [List.drop_of_length_le (by rw [List.length_map, hkep.1]; exact Nat.le_refl _)] at hpf
      have hpf : q = BP.placeFrom 0 kept (List.replicate n 255) := hpf
      rw [hpf] at hD2
      exact ⟨_, rfl, k D H2 s2 hD hD2⟩
/-- what places gives back -/
def outP (l1 l2 : List Nat) : List Int := if (BP.planOf l1 l2).good then ((Ks166.placed (BP.planOf l1 l2).places : Nat) : Int) :: ci (BP.planOf l1 l2).places else [-22]
def spPlaces (K : Frag) (Pt : Addr) : Sp := fun vs H Q _ => ∃ (n1 n2 n3 : Addr) (l1 l2 : List Nat) (m1 m2 : Nat), vs = [.ref n1, .ref n2, .ref n3] ∧ SqL K H n1 (l1.map vi) ∧ SqL K H n2 (l2.map vi) ∧ l1.length = 10 * m1 ∧ l2.length = 18 * m2 ∧ l1.length < 100000 ∧ l2.length < 100000 ∧ TabL Pt H ∧
  ∀ (D : Addr) (H' : Hp), H' D = some (.lst ((outP l1 l2).map V.int)) → Q (.ref D) H'
theorem scPlaces : FnScope ["schools", "children", "nothing", "child_list", "kept", "place", "school"] ["schools", "children", "nothing"] (defScope sPlaces) := ⟨rfl, rfl, rfl, by decide +kernel, rfl, by decide +kernel, by decide +kernel⟩
theorem ok_places {Pt : Addr} (F : Fun K "places" "places" sPlaces f fd) (T : Txt K mg S C A) (DR : Dn P w K mg base 4 "refused" ["schools", "children"] (spRefused K)) (DS : Dn P w K mg base 3 "read_schools" ["numbers"] (spReadS K S)) (DC : Dn P w K mg base 3 "read_children" ["numbers"] (spReadC K C))
    (DB : Dn P w K mg base 5 "best_kept" ["schools", "children"] (spBest S C A Pt)) (DP : Dn P w K mg base 1 "place_of_each" ["kept", "child_count"] (spPlaceOf A)) : FnOk P w K mg base CX0 6 f fd ["schools", "children", "nothing"] (spPlaces K Pt) := by
  obtain ⟨fr, dr, GR, mR, kR, bR⟩ := DR
  obtain ⟨fs, ds, GS, mS, kS, bS⟩ := DS
  obtain ⟨fc, dc, GC, mC, kC, bC⟩ := DC
  obtain ⟨fb, db, GB, mB, kB, bB⟩ := DB
  obtain ⟨fp, dp, GP, mP, kP, bP⟩ := DP
  refine F.ok scPlaces (fun vs H Q E h => ?_) (fun cdv A' outer s H vs Q E hr h => ?_)
  · obtain ⟨n1, n2, n3, l1, l2, m1, m2, rfl, _⟩ := h
    rfl
  · obtain ⟨n1, n2, n3, l1, l2, m1, m2, rfl, h1, h2, hl1, hl2, hb1, hb2, hT, k⟩ := h
    obtain ⟨t6, e6⟩ := T.k6
    refine ⟨_, pss_cons (ps_if (pt_val (pe_call GR (hr.mono (by decide)) rfl mR kR bR .nil pass0 (pa_cons (pv 0) (pa_cons (pv 1) pa_nil)))) (pss_one (ps_ret (pe_lst (pa_cons (pe_un un_neg pe_int) pa_nil)))) pss_nil)
      (pss_cons (ps_set (i := 3) scPlaces.nd rfl (Or.inl rfl) (pe_call GC (hr.mono (by decide)) rfl mC kC bC .nil pass0 (pa_cons (pv 1) pa_nil)))
      (pss_cons (ps_set (i := 4) scPlaces.nd rfl (Or.inl rfl) (pe_call GB hr rfl mB kB bB .nil pass0 (pa_cons (pe_call GS (hr.mono (by decide)) rfl mS kS bS .nil pass0 (pa_cons (pv 0) pa_nil)) (pa_cons (pv 3) pa_nil))))
      (pss_cons (ps_set (i := 5) scPlaces.nd rfl (Or.inl rfl) (pe_call GP (hr.mono (by decide)) rfl mP kP bP .nil pass0 (pa_cons (pv 4) (pa_cons (pe_callB call_len_seq rfl T.len boot_len (pa_cons (pv 3) pa_nil)) pa_nil))))
      (pss_one (ps_ret (pe_op op_cat (pe_lst (pa_cons (pe_callB call_len_seq rfl T.len boot_len (pa_cons
        (pe_lc (own := [("school", 6)]) rfl scPlaces.nd (pi_list (pv 5)) (blkOk_by (by kernel_rfl)) (fun s H C cl fp => pg_name (i := 6) scPlaces.nd rfl (Or.inl rfl)) (fun _ _ _ _ _ => pts_one (pt_cmpR op_ne (pv 6) (pe_glob (v := vi 255) rfl e6 ⟨t6, rfl⟩) (nomark _))) (fun s H D cl fp => pv 6)) pa_nil)) pa_nil)) (pv 5))))))), ?_⟩
    have hgood := BP.good_eq (l1 := l1) (l2 := l2) hl1 hl2
    refine ⟨_, rfl, _, rfl, n1, n2, l1, l2, m1, m2, rfl, h1, h2, hl1, hl2, hb1, hb2, fun H1 s1 => ⟨_, rfl, ?_⟩⟩
    rw [← hgood]
    by_cases hg : (BP.planOf l1 l2).good = true
    · rw [hg]
      refine iteF ?_
      refine ⟨_, rfl, n2, l2, m2, rfl, s1.seq h2, hl2, hb2, fun D2 as2 H2 s2 hD2 hn2 ha2 => ?_⟩
      have s12 := s1.trans s2
      refine ⟨_, rfl, n1, l1, m1, rfl, s12.seq h1, hl1, hb1, fun D1 as1 H3 s3 hD1 hn1 ha1 => ?_⟩
      have s13 := s12.trans s3
      have PG := BP.pg_of hg
      have hpl := plan_of (l1 := l1) (l2 := l2) hl1 hl2
      refine ⟨_, rfl, D1, D2, as1, as2, schsOf l1 m1, chdsOf l2 m2, BP.planOf l1 l2, rfl, hD1, s3 _ _ hD2, scs_of hn1 ha1, (cds_of hn2 ha2).same s3, hpl, PG, hT.same s13, fun kl ks kept asked H4 s4 hT4 hkl hkep HD => ?_⟩
      have hm2 : m2 = (BP.planOf l1 l2).wish.length := by rw [← hpl.nc, chds_len]
      refine ⟨_, rfl, _, rfl, D2, _, rfl, .inl (SqL.of (SameP.lst s4 (hT.same s13).tbl (s3 _ _ hD2))), ?_⟩
      rw [List.length_map, hn2]
      refine ⟨kl, ks, kept, m2, rfl, hkl, hkep, fun l hl a ha => ?_, ?_, fun D H5 s5 hD hD5 => ?_⟩
      · obtain ⟨sx, hsx⟩ := List.mem_iff_getElem?.mp hl
        obtain ⟨wv, j, y, g1, _⟩ := HD.at_ sx l a hsx ha
        rw [hm2]
        exact (List.getElem?_eq_some_iff.mp g1).1
      · have := PG.nw
        omega
      · have hpp : BP.placeFrom 0 kept (List.replicate m2 255) = (BP.planOf l1 l2).places := by
          rw [BP.held_places PG HD, hm2]
          rfl
        rw [hpp] at hD5
        have hlen : (BP.planOf l1 l2).places.length ≤ 256 := by
          rw [← hpp, BP.placeFrom_len, List.length_replicate, hm2]
          exact PG.nw
        generalize hpq : (BP.planOf l1 l2).places = q at hD5 hlen
        refine ⟨_, rfl, D, rfl, ⟨_, SqL.of hD5⟩, fun L hL => ?_⟩
        refine lc_list (K := K) (a := D) (xs := q.map vi) (Pv := fun i H' => Same H5 H' ∧ H' L = some (.lst (((q.take i).filter (fun s => s != 255)).map vi))) ?_ ?_ ?_ ?_
        · exact ⟨same_new hL _, upd_same⟩
        · rintro i H6 _ ⟨s6, _⟩
          exact SqL.of (s6 _ _ hD5)
        · rintro i xv H6 hx ⟨s6, hL6⟩
          rw [List.getElem?_map] at hx
          cases e : q[i]? with
          | none => rw [e] at hx; cases hx
          | some y =>
            rw [e] at hx
            have hx : vi y = xv := Option.some.inj hx
            subst hx
            have et : q.take (i + 1) = q.take i ++ [y] := by rw [List.take_succ, e]; rfl
            refine ⟨rfl, ?_⟩
            refine ⟨_, rfl, rfl, _, rfl, ?_⟩
            rw [dec_vi]
            by_cases c : y = 255
            · rw [decide_eq_true c]
              refine iteF ⟨s6, ?_⟩
              rw [et, List.filter_append, List.filter_cons_of_neg (by simp [c]), List.filter_nil, List.append_nil]
              exact hL6
            · rw [decide_eq_false c]
              refine iteT ⟨_, rfl, _, hL6, ?_, fun b o e => ?_, ?_⟩
              · rw [List.length_map, PySem.sizeLine_eq]
                have := List.length_filter_le (fun s : Nat => s != 255) (q.take i)
                rw [List.length_take] at this
                omega
              · rw [upd_ne (ne_of_none e hL)]
                exact s6 _ _ e
              · rw [upd_same, et, List.filter_append, List.filter_cons_of_pos (by simpa using c), List.filter_nil, List.map_append]
                rfl
        · rintro H6 ⟨s6, hL6⟩
          rw [List.take_of_length_le (by rw [List.length_map]; exact Nat.le_refl _)] at hL6
          refine ⟨L, _, rfl, .inl (SqL.of hL6), (by show 1 ≤ sizeLine; decide), fun p1 hp1 => ?_⟩
          refine ⟨_, rfl, p1, D, _, _, rfl, rfl, upd_same, (same_new hp1 _) _ _ (s6 _ _ hD5), ?_, fun p2 hp2 => ?_⟩
          · rw [PySem.sizeLine_eq]
            show 1 + (q.map vi).length ≤ _
            rw [List.length_map]
            omega
          · refine k p2 _ ?_
            rw [upd_same]
            unfold outP
            rw [if_pos hg, hpq, List.map_cons, ci_vi, List.length_map]
            rfl
    · rw [Bool.eq_false_iff.mpr hg]
      refine iteT ?_
      refine ⟨_, rfl, (by show 1 ≤ sizeLine; decide), fun p1 hp1 => k p1 _ ?_⟩
      rw [upd_same]
      unfold outP
      rw [if_neg hg]
      rfl
end
end BQ
set_option linter.all false
set_option maxRecDepth 100000
set_option maxHeartbeats 4000000
namespace BQ
open PySem PySem.Spec L2 BS
open PySem.W (Frag CodeHd)
open PyProof.Rows (envOfC itemOrd)

def DfK (K : Frag) (x : Str) (st : Stmt) : Prop := ∃ (f : Addr) (fd : FuncData), Fun K x x st f fd ∧ PySem.W.nsIn K mainGlobals x = some (some (.ref f))
def DfC (K : Frag) (x : Str) (st : Stmt) (c : Addr) : Prop := ∃ (f : Addr) (fd : FuncData), FunC K x x st f fd c ∧ PySem.W.nsIn K mainGlobals x = some (some (.ref f))
structure ClK (K : Frag) (cn qn : Str) (st : Stmt) (b1 b2 b3 b4 : Str) (C f : Addr) (fd : FuncData) : Prop where
  mkc : Mk K C f
  fn : Fun K "__init__" qn st f fd
  ns : PySem.W.nsIn K mainGlobals cn = some (some (.ref C))
  cl : Cls K C
  n1 : NoAttr K C b1
  n2 : NoAttr K C b2
  n3 : NoAttr K C b3
  n4 : NoAttr K C b4
def KlK (K : Frag) (cn qn : Str) (st : Stmt) (b1 b2 b3 b4 : Str) : Prop := ∃ (C f : Addr) (fd : FuncData), ClK K cn qn st b1 b2 b3 b4 C f fd
theorem df_mk {K : Frag} {x : Str} {st : Stmt} {f : Addr} {oc : Value} {od an : Option Addr} {osl : Array (Option Value)} {kV doc pm cdv ct : Value} (a : PySem.W.nsIn K mainGlobals x = some (some (.ref f)))
    (l : K.lookup f = some ⟨oc, od, .func (PySem.W.fnOf x x (defArgs st) (defBody st) (defScope st) .none kV doc pm an cdv ct), osl⟩) (c : PySem.W.codeIn K cdv x = true) (k : PySem.W.keepIn K (.ref f) = true) : DfK K x st := ⟨f, _, fun_mk l c k, a⟩
theorem dc_mk {K : Frag} {x : Str} {st : Stmt} {f c : Addr} {oc : Value} {od an : Option Addr} {osl : Array (Option Value)} {kV doc pm ct : Value} (a : PySem.W.nsIn K mainGlobals x = some (some (.ref f)))
    (l : K.lookup f = some ⟨oc, od, .func (PySem.W.fnOf x x (defArgs st) (defBody st) (defScope st) .none kV doc pm an (.ref c) ct), osl⟩) (e : PySem.W.codeIn K (.ref c) x = true) (k : PySem.W.keepIn K (.ref f) = true) : DfC K x st c :=
  ⟨f, _, ⟨⟨oc, od, kV, doc, pm, an, ct, osl, rfl, l, e⟩, k⟩, a⟩
theorem kl_mk {K : Frag} {cn qn : Str} {st : Stmt} {b1 b2 b3 b4 : Str} {C f : Addr} {oc : Value} {od an : Option Addr} {osl : Array (Option Value)} {kV doc pm cdv ct : Value} (a : PySem.W.nsIn K mainGlobals cn = some (some (.ref C)))
    (a1 : PySem.W.findIn K (.ref C) "__init__" = some (some (.ref f))) (i1 : PySem.W.isFn K (.ref f) = true) (l : K.lookup f = some ⟨oc, od, .func (PySem.W.fnOf "__init__" qn (defArgs st) (defBody st) (defScope st) .none kV doc pm an cdv ct), osl⟩) (c : PySem.W.codeIn K cdv qn = true) (k : PySem.W.keepIn K (.ref f) = true)
    (pg : PySem.W.plainGet K C Str.empty = true) (hd : PySem.W.hasDictIn K C = true) (po : PySem.W.plainOver K C = true) (sa : PySem.W.findIn K (.ref C) "__setattr__" = some (some (.builtin "object.__setattr__"))) (mk : PySem.W.makesIn K C = true) (kc : PySem.W.keepIn K (.ref C) = true)
    (n1 : PySem.W.findIn K (.ref C) b1 = some none) (n2 : PySem.W.findIn K (.ref C) b2 = some none) (n3 : PySem.W.findIn K (.ref C) b3 = some none) (n4 : PySem.W.findIn K (.ref C) b4 = some none) : KlK K cn qn st b1 b2 b3 b4 :=
  ⟨C, f, _, ⟨⟨mk, a1, i1, kc⟩, fun_mk l c k, a, ⟨pg, hd, po, sa⟩, n1, n2, n3, n4⟩⟩
structure Zs (K : Frag) : Prop where
  len : PySem.W.nsIn K mainGlobals "len" = some none
  rng : PySem.W.nsIn K mainGlobals "range" = some none
  sum : PySem.W.nsIn K mainGlobals "sum" = some none
  set : PySem.W.nsIn K mainGlobals "set" = some none
  lst : PySem.W.nsIn K mainGlobals "list" = some none
  enm : PySem.W.nsIn K mainGlobals "enumerate" = some none
  srt : PySem.W.nsIn K mainGlobals "sorted" = some none
structure Ks (K : Frag) : Prop where
  k1 : ∃ t, PySem.W.nsIn K mainGlobals "MOST_SCHOOLS" = some (some (.int 32 t))
  k2 : ∃ t, PySem.W.nsIn K mainGlobals "MOST_CHILDREN" = some (some (.int 256 t))
  k3 : ∃ t, PySem.W.nsIn K mainGlobals "MOST_SEATS" = some (some (.int 64 t))
  k4 : ∃ t, PySem.W.nsIn K mainGlobals "MOST_GROUPS" = some (some (.int 255 t))
  k5 : ∃ t, PySem.W.nsIn K mainGlobals "WISH_COUNT" = some (some (.int 8 t))
  k6 : ∃ t, PySem.W.nsIn K mainGlobals "NO_SCHOOL" = some (some (.int 255 t))
  k7 : ∃ t, PySem.W.nsIn K mainGlobals "SCHOOL_WIDTH" = some (some (.int 10 t))
  k8 : ∃ t, PySem.W.nsIn K mainGlobals "CHILD_WIDTH" = some (some (.int 18 t))
theorem ks_mk {K : Frag} {t1 t2 t3 t4 t5 t6 t7 t8 : Tok} (e1 : PySem.W.nsIn K mainGlobals "MOST_SCHOOLS" = some (some (.int 32 t1))) (e2 : PySem.W.nsIn K mainGlobals "MOST_CHILDREN" = some (some (.int 256 t2))) (e3 : PySem.W.nsIn K mainGlobals "MOST_SEATS" = some (some (.int 64 t3))) (e4 : PySem.W.nsIn K mainGlobals "MOST_GROUPS" = some (some (.int 255 t4))) (e5 : PySem.W.nsIn K mainGlobals "WISH_COUNT" = some (some (.int 8 t5))) (e6 : PySem.W.nsIn K mainGlobals "NO_SCHOOL" = some (some (.int 255 t6))) (e7 : PySem.W.nsIn K mainGlobals "SCHOOL_WIDTH" = some (some (.int 10 t7))) (e8 : PySem.W.nsIn K mainGlobals "CHILD_WIDTH" = some (some (.int 18 t8))) : Ks K := ⟨⟨t1, e1⟩, ⟨t2, e2⟩, ⟨t3, e3⟩, ⟨t4, e4⟩, ⟨t5, e5⟩, ⟨t6, e6⟩, ⟨t7, e7⟩, ⟨t8, e8⟩⟩
/-- what both calls share -/
structure Base (K : Frag) (c : Addr) : Prop where
  z : Zs K
  k : Ks K
  S : KlK K "School" "School.__init__" sSchool "seats" "none" "held" "held"
  C : KlK K "Child" "Child.__init__" sChild "number" "groups" "school" "score"
  A : KlK K "Applicant" "Applicant.__init__" sAppl "row" "number" "groups" "score"
  cut : DfK K "cut" sCut
  rs : DfK K "read_schools" sReadS
  rc : DfK K "read_children" sReadC
  sr : DfK K "school_is_right" sSRight
  wr : DfK K "wishes_are_right" sWRight
  cr : DfK K "child_is_right" sCRight
  nd : DfK K "numbers_differ" sNDiff
  tm : DfK K "too_many" sTooMany
  rf : DfK K "refused" sRefused
  sb : DfK K "seats_by_group" sSeatsBy
  so : DfK K "seat_order" sSeatOrd
  is : DfC K "in_seat_order" sInSeat c
theorem txt_of {K : Frag} {h : Heap} {mg : Str → Option Value} {c S C A f1 f2 f3 : Addr} {d1 d2 d3 : FuncData} (X : K.In h) (G : h.Ns mainGlobals mg) (B : Base K c) (hS : ClK K "School" "School.__init__" sSchool "seats" "none" "held" "held" S f1 d1)
    (hC : ClK K "Child" "Child.__init__" sChild "number" "groups" "school" "score" C f2 d2) (hA : ClK K "Applicant" "Applicant.__init__" sAppl "row" "number" "groups" "score" A f3 d3) : Txt K mg S C A where
  clS := hS.cl
  s1 := hS.n1
  s2 := hS.n2
  s3 := hS.n3
  mgS := PySem.W.mg_of X G hS.ns
  clC := hC.cl
  c1 := hC.n1
  c2 := hC.n2
  c3 := hC.n3
  c4 := hC.n4
  mgC := PySem.W.mg_of X G hC.ns
  clA := hA.cl
  a1 := hA.n1
  a2 := hA.n2
  a3 := hA.n3
  a4 := hA.n4
  mgA := PySem.W.mg_of X G hA.ns
  len := PySem.W.mg_none_of X G B.z.len
  rng := PySem.W.mg_none_of X G B.z.rng
  sum := PySem.W.mg_none_of X G B.z.sum
  set := PySem.W.mg_none_of X G B.z.set
  lst := PySem.W.mg_none_of X G B.z.lst
  enm := PySem.W.mg_none_of X G B.z.enm
  srt := PySem.W.mg_none_of X G B.z.srt
  k1 := let ⟨t, e⟩ := B.k.k1; ⟨t, PySem.W.mg_of X G e⟩
  k2 := let ⟨t, e⟩ := B.k.k2; ⟨t, PySem.W.mg_of X G e⟩
  k3 := let ⟨t, e⟩ := B.k.k3; ⟨t, PySem.W.mg_of X G e⟩
  k4 := let ⟨t, e⟩ := B.k.k4; ⟨t, PySem.W.mg_of X G e⟩
  k5 := let ⟨t, e⟩ := B.k.k5; ⟨t, PySem.W.mg_of X G e⟩
  k6 := let ⟨t, e⟩ := B.k.k6; ⟨t, PySem.W.mg_of X G e⟩
  k7 := let ⟨t, e⟩ := B.k.k7; ⟨t, PySem.W.mg_of X G e⟩
  k8 := let ⟨t, e⟩ := B.k.k8; ⟨t, PySem.W.mg_of X G e⟩
section
variable {P : Program} {w : World} {K : Frag} {mg : Str → Option Value} {base h : Heap}
theorem dn_of {k : Nat} {x : Str} {ps : List Str} {sp : Sp} {st : Stmt} (X : K.In h) (G : h.Ns mainGlobals mg) (d : DfK K x st) (ok : ∀ (f : Addr) (fd : FuncData), Fun K x x st f fd → FnOk P w K mg base CX0 k f fd ps sp)
    (hb : ∀ (kV doc pm : Value) (an : Option Addr) (cdv ct : Value) (us : List Value), us.length = ps.length → bindArgs (PySem.W.fnOf x x (defArgs st) (defBody st) (defScope st) .none kV doc pm an cdv ct) ⟨us, []⟩ = pure (ps.zip us)) : Dn P w K mg base k x ps sp := by
  obtain ⟨f, fd, F, a⟩ := d
  exact ⟨f, fd, ok f fd F, PySem.W.mg_of X G a, F.kp, F.binds hb⟩
/-- the defs that both calls share, as their callers have them -/
structure Ready (P : Program) (w : World) (K : Frag) (mg : Str → Option Value) (base : Heap) (S C A Pt : Addr) : Prop where
  T : Txt K mg S C A
  rs : Dn P w K mg base 3 "read_schools" ["numbers"] (spReadS K S)
  rc : Dn P w K mg base 3 "read_children" ["numbers"] (spReadC K C)
  rf : Dn P w K mg base 4 "refused" ["schools", "children"] (spRefused K)
  is : Dn P w K mg base 4 "in_seat_order" ["school", "applicants"] (spInSeat S A Pt)
  ap : Kl P w K mg base 1 "Applicant" A ["self", "row", "child", "wish"] (spAppl C A)
theorem ready {c Pt : Addr} (X : K.In h) (G : h.Ns mainGlobals mg) (B : Base K c) (hC : CodeHd base c Pt) (hB : BM mg base) : ∃ S C A : Addr, Ready P w K mg base S C A Pt := by
  obtain ⟨S, f1, d1, kS⟩ := B.S
  obtain ⟨C, f2, d2, kC⟩ := B.C
  obtain ⟨A, f3, d3, kA⟩ := B.A
  have T := txt_of X G B kS kC kA
  obtain ⟨fc, dc, Fc, ac⟩ := B.cut
  have bc := Fc.binds (ps := ["numbers", "width"]) fun _ _ _ _ _ _ us hl => match us, hl with | [_, _], _ => rfl
  have b1 := kS.fn.binds (ps := ["self", "numbers"]) fun _ _ _ _ _ _ us hl => match us, hl with | [_, _], _ => rfl
  have b2 := kC.fn.binds (ps := ["self", "numbers"]) fun _ _ _ _ _ _ us hl => match us, hl with | [_, _], _ => rfl
  have b3 := kA.fn.binds (ps := ["self", "row", "child", "wish"]) fun _ _ _ _ _ _ us hl => match us, hl with | [_, _, _, _], _ => rfl
  have DS : Dn P w K mg base 3 "read_schools" ["numbers"] (spReadS K S) := dn_of X G B.rs (fun f fd F => ok_readS F T Fc bc (PySem.W.mg_of X G ac) kS.mkc kS.fn b1) fun _ _ _ _ _ _ us hl => match us, hl with | [_], _ => rfl
  have DC : Dn P w K mg base 3 "read_children" ["numbers"] (spReadC K C) := dn_of X G B.rc (fun f fd F => ok_readC F T Fc bc (PySem.W.mg_of X G ac) kC.mkc kC.fn b2) fun _ _ _ _ _ _ us hl => match us, hl with | [_], _ => rfl
  have DR : Dn P w K mg base 1 "school_is_right" ["school"] (spSRight S) := dn_of X G B.sr (fun f fd F => ok_sright F T) fun _ _ _ _ _ _ us hl => match us, hl with | [_], _ => rfl
  have DW : Dn P w K mg base 1 "wishes_are_right" ["child", "school_count"] (spWRight C) := dn_of X G B.wr (fun f fd F => ok_wright F T) fun _ _ _ _ _ _ us hl => match us, hl with | [_, _], _ => rfl
  have DK : Dn P w K mg base 2 "child_is_right" ["child", "school_count"] (spCRight C) := dn_of X G B.cr (fun f fd F => ok_cright F T DW) fun _ _ _ _ _ _ us hl => match us, hl with | [_, _], _ => rfl
  have DN : Dn P w K mg base 1 "numbers_differ" ["children"] (spNDiff C) := dn_of X G B.nd (fun f fd F => ok_ndiff F T) fun _ _ _ _ _ _ us hl => match us, hl with | [_], _ => rfl
  have DT : Dn P w K mg base 1 "too_many" ["schools", "children"] (spTooMany K) := dn_of X G B.tm (fun f fd F => ok_toomany F T) fun _ _ _ _ _ _ us hl => match us, hl with | [_, _], _ => rfl
  have DF : Dn P w K mg base 4 "refused" ["schools", "children"] (spRefused K) := dn_of X G B.rf (fun f fd F => ok_refused F T DT DS DC DR DK DN) fun _ _ _ _ _ _ us hl => match us, hl with | [_, _], _ => rfl
  have DB : Dn P w K mg base 1 "seats_by_group" ["school"] (spSeatsBy S) := dn_of X G B.sb (fun f fd F => ok_seatsby F T) fun _ _ _ _ _ _ us hl => match us, hl with | [_], _ => rfl
  have DO : Dn P w K mg base 1 "seat_order" ["applicant", "group"] (spSeatOrd A) := dn_of X G B.so (fun f fd F => ok_seatord F T) fun _ _ _ _ _ _ us hl => match us, hl with | [_, _], _ => rfl
  obtain ⟨fi, di, Fi, ai⟩ := B.is
  have bi := Fi.fn.binds (ps := ["school", "applicants"]) fun _ _ _ _ _ _ us hl => match us, hl with | [_, _], _ => rfl
  exact ⟨S, C, A, T, DS, DC, DF, ⟨fi, di, ok_inseat Fi T hC hB DB DO, PySem.W.mg_of X G ai, Fi.kp, bi⟩, ⟨f3, d3, kA.mkc, ok_appl kA.fn T, T.mgA, b3⟩⟩
end
def nats (l : List Int) : List Nat := l.map Int.toNat
theorem nats_vi {n : List Int} (h : ∀ x ∈ n, 0 ≤ x) : n.map V.int = (nats n).map vi := by
  unfold nats
  rw [List.map_map]
  refine List.map_congr_left fun x hx => ?_
  show V.int x = V.int ((x.toNat : Nat) : Int)
  rw [Int.toNat_of_nonneg (h x hx)]
theorem nats_len (l : List Int) : (nats l).length = l.length := List.length_map _
end BQ
set_option linter.all false
set_option maxRecDepth 100000
set_option maxHeartbeats 4000000
namespace BQ
open PySem PySem.Spec L2 BS
open PySem.W (Frag CodeHd)
open PyProof.Rows (envOfC itemOrd)

theorem places_eq (n1 n2 n3 : List Int) : PyKs166.places n1 n2 n3 = outP (nats n1) (nats n2) := by
  show (Ks166.answer (.places (BP.planOf (nats n1) (nats n2)))).ret :: Ks166Neutral.ints (Ks166.answer (.places (BP.planOf (nats n1) (nats n2)))).out = _
  unfold outP Ks166.answer
  by_cases h : (BP.planOf (nats n1) (nats n2)).good = true
  · simp only [h, if_true]
    rfl
  · simp only [Bool.eq_false_iff.mpr h, Bool.false_eq_true, if_false]
    rfl
theorem asked_len {n1 n2 n3 : List Int} (h : PyKs166.places_asked n1 n2 n3 = true) : n1.length % 10 = 0 ∧ n2.length % 18 = 0 := by
  have h : (Ks166Neutral.asked1 [[0], n1, n2, n3] && Ks166Neutral.form [[0], n1, n2, n3]) = true := h
  rw [Bool.and_eq_true] at h
  have h1 : ((n1.all (fun (z : Int) => Ks166Neutral.natural z 32)) && n1.length % 10 == 0 && (n2.all (fun (z : Int) => Ks166Neutral.natural z 32)) && n2.length % 18 == 0 && n3.isEmpty) = true := h.1
  simp only [Bool.and_eq_true, beq_iff_eq] at h1
  exact ⟨h1.1.1.1.2, h1.1.2⟩
theorem sp_places {K : Frag} {H : Hp} {a1 a2 a3 Pt : Addr} {n1 n2 n3 : List Int} (hask : PyKs166.places_asked n1 n2 n3 = true) (b1 : n1.length ≤ 340 ∧ ∀ x ∈ n1, (0 : Int) ≤ x ∧ x ≤ 4294967295) (b2 : n2.length ≤ 4644 ∧ ∀ x ∈ n2, (0 : Int) ≤ x ∧ x ≤ 4294967295)
    (s1 : SqL K H a1 (n1.map V.int)) (s2 : SqL K H a2 (n2.map V.int)) (hT : H Pt = some (.tbl #[])) :
    spPlaces K Pt [.ref a1, .ref a2, .ref a3] H (fun v H' => ∃ l, v = .ref l ∧ H' l = some (.lst ((PyKs166.places n1 n2 n3).map V.int))) E0 := by
  obtain ⟨e1, e2⟩ := asked_len hask
  rw [nats_vi fun x hx => (b1.2 x hx).1] at s1
  rw [nats_vi fun x hx => (b2.2 x hx).1] at s2
  refine ⟨a1, a2, a3, nats n1, nats n2, n1.length / 10, n2.length / 18, rfl, s1, s2, by rw [nats_len]; omega, by rw [nats_len]; omega, by rw [nats_len]; omega, by rw [nats_len]; omega, .inl hT, fun D H' h => ⟨D, rfl, ?_⟩⟩
  rw [places_eq]
  exact h
theorem all_mk {P : Program} {w : World} {K : Frag} {h : Heap} {mg : Str → Option Value} {fa c Pt : Addr} (X : K.In h) (G : h.Ns mainGlobals mg) (hfa : mg "places" = some (.ref fa)) (B : Base K c)
    (dB : DfK K "best_kept" sBest) (dP : DfK K "place_of_each" sPlaceOf) (dL : DfK K "places" sPlaces) :
    ∃ fd : FuncData, (∀ (s : Shared) (u1 u2 u3 : Value), BindsTo s fd ⟨[u1, u2, u3], []⟩ [("schools", u1), ("children", u2), ("nothing", u3)]) ∧
      ∀ base : Heap, K.In base → base.Ns mainGlobals mg → CodeHd base c Pt → BM mg base → FnOk P w K mg base CX0 6 fa fd ["schools", "children", "nothing"] (spPlaces K Pt) := by
  obtain ⟨f, fd, F, a⟩ := dL
  have e := hfa.symm.trans (PySem.W.mg_of X G a)
  cases e
  refine ⟨fd, ?_, fun base kb nb hC hB => ?_⟩
  · obtain ⟨oc, od, kV, doc, pm, an, cdv, ct, osl, rfl, lk, hcd⟩ := F.ex
    exact fun s u1 u2 u3 => .of_eq rfl
  · obtain ⟨S, C, A, R⟩ := ready (P := P) (w := w) (base := base) X G B hC hB
    have DB : Dn P w K mg base 5 "best_kept" ["schools", "children"] (spBest S C A Pt) := dn_of X G dB (fun f fd F => ok_best F R.T R.is R.ap) fun _ _ _ _ _ _ us hl => match us, hl with | [_, _], _ => rfl
    have DP : Dn P w K mg base 1 "place_of_each" ["kept", "child_count"] (spPlaceOf A) := dn_of X G dP (fun f fd F => ok_placeof F R.T) fun _ _ _ _ _ _ us hl => match us, hl with | [_, _], _ => rfl
    exact ok_places F R.T R.rf R.rs R.rc DB DP
end BQ
set_option linter.all false
open PySem PySem.W PyProof.Rows
set_option maxRecDepth 100000 in
set_option maxHeartbeats 0 in
theorem PySem.Challenge.cw_bestplaces_s01_places_holds : PySem.Challenge.rw_bestplaces_s01_places.Holds := by
  w_on; k_headS; (case hw => exact ⟨[.list [], .list [], .list []], by decide +kernel, by decide +kernel⟩)
  k_fillS
  refine BS.walk3 (k := 6) (c := 152) (Pt := 148) (sp := fun K => BQ.spPlaces K 148) (x1 := "schools") (x2 := "children") (x3 := "nothing") (by decide) (by decide) (by decide) rfl ⟨rfl, by decide, by decide⟩ (fun w h Y => PySem.W.kIn_of Y) ?hn ?hT ?hF ?hS
  case hn => exact fun w => by kernel_rfl
  case hT => exact fun w s₀ mg mb h G KX => tab_of (x := "in_seat_order") (c := 152) (P := 148) G.T KX rfl (by kernel_rfl)
  case hS => exact fun K H a1 a2 a3 n1 n2 n3 hask b1 b2 b3 s1 s2 s3 hT => BQ.sp_places hask b1 b2 s1 s2 hT
  case hF =>
    intro w mg fa h KX G hmg
    have zs : BQ.Zs (L2.KOf KX) := by
      dsimp only [L2.KOf]
      refine' ⟨?z1, ?z2, ?z3, ?z4, ?z5, ?z6, ?z7⟩ <;> k_is
    have ks : BQ.Ks (L2.KOf KX) := by
      dsimp only [L2.KOf]
      refine' BQ.ks_mk ?y1 ?y2 ?y3 ?y4 ?y5 ?y6 ?y7 ?y8
      (case y1 => k_is); (case y2 => k_is); (case y3 => k_is); (case y4 => k_is); (case y5 => k_is); (case y6 => k_is); (case y7 => k_is); (case y8 => k_is)
    have cS : BQ.KlK (L2.KOf KX) "School" "School.__init__" BQ.sSchool "seats" "none" "held" "held" := by
      dsimp only [L2.KOf]
      refine' BQ.kl_mk ?a ?a1 ?i1 ?l ?c ?k ?pg ?hd ?po ?sa ?mk ?kc ?n1 ?n2 ?n3 ?n4
      (case a => k_is); (case a1 => k_is); (case i1 => k_is); (case l => k_is); (case c => k_is); (case k => k_is); (case pg => k_is); (case hd => k_is); (case po => k_is); (case sa => k_is); (case mk => k_is); (case kc => k_is)
      (case n1 => k_is); (case n2 => k_is); (case n3 => k_is); (case n4 => k_is)
    have cC : BQ.KlK (L2.KOf KX) "Child" "Child.__init__" BQ.sChild "number" "groups" "school" "score" := by
      dsimp only [L2.KOf]
      refine' BQ.kl_mk ?a ?a1 ?i1 ?l ?c ?k ?pg ?hd ?po ?sa ?mk ?kc ?n1 ?n2 ?n3 ?n4
      (case a => k_is); (case a1 => k_is); (case i1 => k_is); (case l => k_is); (case c => k_is); (case k => k_is); (case pg => k_is); (case hd => k_is); (case po => k_is); (case sa => k_is); (case mk => k_is); (case kc => k_is)
      (case n1 => k_is); (case n2 => k_is); (case n3 => k_is); (case n4 => k_is)
    have cA : BQ.KlK (L2.KOf KX) "Applicant" "Applicant.__init__" BQ.sAppl "row" "number" "groups" "score" := by
      dsimp only [L2.KOf]
      refine' BQ.kl_mk ?a ?a1 ?i1 ?l ?c ?k ?pg ?hd ?po ?sa ?mk ?kc ?n1 ?n2 ?n3 ?n4
      (case a => k_is); (case a1 => k_is); (case i1 => k_is); (case l => k_is); (case c => k_is); (case k => k_is); (case pg => k_is); (case hd => k_is); (case po => k_is); (case sa => k_is); (case mk => k_is); (case kc => k_is)
      (case n1 => k_is); (case n2 => k_is); (case n3 => k_is); (case n4 => k_is)
    have d0 : BQ.DfK (L2.KOf KX) "cut" BQ.sCut := by
      dsimp only [L2.KOf]
      refine' BQ.df_mk ?a ?l ?c ?k
      (case a => k_is); (case l => k_is); (case c => k_is); (case k => k_is)
    have d1 : BQ.DfK (L2.KOf KX) "read_schools" BQ.sReadS := by
      dsimp only [L2.KOf]
      refine' BQ.df_mk ?a ?l ?c ?k
      (case a => k_is); (case l => k_is); (case c => k_is); (case k => k_is)
    have d2 : BQ.DfK (L2.KOf KX) "read_children" BQ.sReadC := by
      dsimp only [L2.KOf]
      refine' BQ.df_mk ?a ?l ?c ?k
      (case a => k_is); (case l => k_is); (case c => k_is); (case k => k_is)
    have d3 : BQ.DfK (L2.KOf KX) "school_is_right" BQ.sSRight := by
      dsimp only [L2.KOf]
      refine' BQ.df_mk ?a ?l ?c ?k
      (case a => k_is); (case l => k_is); (case c => k_is); (case k => k_is)
    have d4 : BQ.DfK (L2.KOf KX) "wishes_are_right" BQ.sWRight := by
      dsimp only [L2.KOf]
      refine' BQ.df_mk ?a ?l ?c ?k
      (case a => k_is); (case l => k_is); (case c => k_is); (case k => k_is)
    have d5 : BQ.DfK (L2.KOf KX) "child_is_right" BQ.sCRight := by
      dsimp only [L2.KOf]
      refine' BQ.df_mk ?a ?l ?c ?k
      (case a => k_is); (case l => k_is); (case c => k_is); (case k => k_is)
    have d6 : BQ.DfK (L2.KOf KX) "numbers_differ" BQ.sNDiff := by
      dsimp only [L2.KOf]
      refine' BQ.df_mk ?a ?l ?c ?k
      (case a => k_is); (case l => k_is); (case c => k_is); (case k => k_is)
    have d7 : BQ.DfK (L2.KOf KX) "too_many" BQ.sTooMany := by
      dsimp only [L2.KOf]
      refine' BQ.df_mk ?a ?l ?c ?k
      (case a => k_is); (case l => k_is); (case c => k_is); (case k => k_is)
    have d8 : BQ.DfK (L2.KOf KX) "refused" BQ.sRefused := by
      dsimp only [L2.KOf]
      refine' BQ.df_mk ?a ?l ?c ?k
      (case a => k_is); (case l => k_is); (case c => k_is); (case k => k_is)
    have d9 : BQ.DfK (L2.KOf KX) "seats_by_group" BQ.sSeatsBy := by
      dsimp only [L2.KOf]
      refine' BQ.df_mk ?a ?l ?c ?k
      (case a => k_is); (case l => k_is); (case c => k_is); (case k => k_is)
    have d10 : BQ.DfK (L2.KOf KX) "seat_order" BQ.sSeatOrd := by
      dsimp only [L2.KOf]
      refine' BQ.df_mk ?a ?l ?c ?k
      (case a => k_is); (case l => k_is); (case c => k_is); (case k => k_is)
    have d11 : BQ.DfK (L2.KOf KX) "best_kept" BQ.sBest := by
      dsimp only [L2.KOf]
      refine' BQ.df_mk ?a ?l ?c ?k
      (case a => k_is); (case l => k_is); (case c => k_is); (case k => k_is)
    have d12 : BQ.DfK (L2.KOf KX) "place_of_each" BQ.sPlaceOf := by
      dsimp only [L2.KOf]
      refine' BQ.df_mk ?a ?l ?c ?k
      (case a => k_is); (case l => k_is); (case c => k_is); (case k => k_is)
    have d13 : BQ.DfK (L2.KOf KX) "places" BQ.sPlaces := by
      dsimp only [L2.KOf]
      refine' BQ.df_mk ?a ?l ?c ?k
      (case a => k_is); (case l => k_is); (case c => k_is); (case k => k_is)
    have di : BQ.DfC (L2.KOf KX) "in_seat_order" BQ.sInSeat 152 := by
      dsimp only [L2.KOf]
      refine' BQ.dc_mk ?a ?l ?c ?k
      (case a => k_is); (case l => k_is); (case c => k_is); (case k => k_is)
    exact BQ.all_mk KX G hmg ⟨zs, ks, cS, cC, cA, d0, d1, d2, d3, d4, d5, d6, d7, d8, d9, d10, di⟩ d11 d12 d13
#print axioms PySem.Challenge.cw_bestplaces_s01_places_holds
