import PyProof.Rows.All
import Wide.All
import OpenK.AllK
import Wide.FinOn
import PyProof.EqAt
import PyProof.EqKinds
import PyProof.TupleCall
import KE.BitLaws
import Open.SpecLaws
import KE.OsHead
import KE.OsGo
import PySem.Challenge.RW_bothsides_s01_answers
section
set_option Elab.async false
set_option linter.all false
set_option maxRecDepth 100000
namespace L2
open PySem PySem.Spec PyProof.Rows

/-- a key: an int or a str -/
abbrev Key := Sum Int Str
def keyIs : Key → Value → Bool
  | .inl k, v => Value.isInt k v
  | .inr x, v => Value.isStrOf x v
def keyH (w : World) : Key → Int
  | .inl k => hashInt k
  | .inr x => hashStr w x
theorem keyIs_shape : ∀ {k : Key} {v : Value}, keyIs k v = true → (∃ i t, k = Sum.inl i ∧ v = Value.int i t) ∨ (∃ x t, k = Sum.inr x ∧ v = Value.str x t)
  | .inl i, v, h => by
    obtain ⟨t, e⟩ := Value.isInt_shape (k := i) (v := v) h
    exact .inl ⟨i, t, rfl, e⟩
  | .inr x, v, h => by
    obtain ⟨t, e⟩ := Value.isStrOf_shape (x := x) (v := v) h
    exact .inr ⟨x, t, rfl, e⟩
theorem keyIs_int (i : Int) (t : Tok) : keyIs (.inl i) (.int i t) = true := by simp [keyIs, Value.isInt]
theorem keyIs_str (x : Str) (t : Tok) : keyIs (.inr x) (.str x t) = true := by simp [keyIs, Value.isStrOf]
theorem key_ll (a b : Int) : decide ((Sum.inl a : Key) = Sum.inl b) = (a == b) := by
  by_cases e : a = b
  · subst e; simp
  · have h : ¬ (Sum.inl a : Key) = Sum.inl b := fun q => e (Sum.inl.inj q)
    rw [decide_eq_false h]
    exact (beq_eq_false_iff_ne.mpr e).symm
theorem key_rr (a b : Str) : decide ((Sum.inr a : Key) = Sum.inr b) = decide (a = b) := by
  by_cases e : a = b
  · subst e; simp
  · have h : ¬ (Sum.inr a : Key) = Sum.inr b := fun q => e (Sum.inr.inj q)
    rw [decide_eq_false h, decide_eq_false e]
theorem key_lr (a : Int) (b : Str) : decide ((Sum.inl a : Key) = Sum.inr b) = false := decide_eq_false (fun q => nomatch q)
theorem key_rl (a : Str) (b : Int) : decide ((Sum.inr a : Key) = Sum.inl b) = false := decide_eq_false (fun q => nomatch q)

def mixKind (prog : Program) (w : World) : PySem.KeyKind prog w Key where
  is := keyIs
  hash := keyH w
  inj := fun v a b ha hb => by
    rcases keyIs_shape ha with ⟨i, t, rfl, rfl⟩ | ⟨x, t, rfl, rfl⟩
    · rcases keyIs_shape hb with ⟨j, u, rfl, e⟩ | ⟨y, u, rfl, e⟩
      · injection e with e1 _; rw [e1]
      · exact nomatch e
    · rcases keyIs_shape hb with ⟨j, u, rfl, e⟩ | ⟨y, u, rfl, e⟩
      · exact nomatch e
      · injection e with e1 _; rw [e1]
  byValue := fun k v h => by
    rcases keyIs_shape h with ⟨i, t, rfl, rfl⟩ | ⟨x, t, rfl, rfl⟩ <;> rfl
  pyHash := fun hv h => by
    rcases keyIs_shape hv with ⟨i, t, rfl, rfl⟩ | ⟨x, t, rfl, rfl⟩
    · exact wpAny_pyHash_int h
    · exact wpAny_pyHash_str h
  eqBool := fun hu hv h => by
    rcases keyIs_shape hu with ⟨i, t, rfl, rfl⟩ | ⟨x, t, rfl, rfl⟩
    · rcases keyIs_shape hv with ⟨j, u, rfl, rfl⟩ | ⟨y, u, rfl, rfl⟩
      · rw [key_ll] at h; exact wpAny_eqBool_int h
      · rw [key_lr] at h; exact SeqAt.EqAt.int_str i t y u _ _ _ _ h
    · rcases keyIs_shape hv with ⟨j, u, rfl, rfl⟩ | ⟨y, u, rfl, rfl⟩
      · rw [key_rl] at h; exact SeqAt.EqAt.str_int x t j u _ _ _ _ h
      · rw [key_rr] at h; exact wpAny_eqBool_str h
  «strs» := fun k x t v h => by
    rcases keyIs_shape h with ⟨i, u, rfl, e⟩ | ⟨y, u, rfl, e⟩
    · exact nomatch e
    · injection e with e1 _
      subst e1
      cases v <;> rfl

theorem mixKind_int (prog : Program) (w : World) (i : Int) (t : Tok) : (mixKind prog w).is (.inl i) (.int i t) = true := keyIs_int i t
theorem mixKind_str (prog : Program) (w : World) (x : Str) (t : Tok) : (mixKind prog w).is (.inr x) (.str x t) = true := keyIs_str x t
end L2

namespace L2
open PySem PySem.Spec PyProof.Rows

/-- a value, without the heap -/
inductive V where
  | non | bl (b : Bool) | int (i : Int) | str (x : Str) | byt (b : Array UInt8) | flt (b : UInt64) | ref (a : Addr) | ty (n : String)
  deriving DecidableEq

def RelV : V → Value → Prop
  | .non, u => u = Value.none
  | .bl b, u => u = Value.bool b
  | .int i, u => ∃ t, u = Value.int i t
  | .str x, u => ∃ t, u = Value.str x t
  | .byt b, u => ∃ t, u = Value.bytes b t
  | .flt b, u => ∃ t, u = Value.float b t
  | .ref a, u => u = Value.ref a
  | .ty n, u => u = Value.type n

abbrev Vals : List V → List Value → Prop := Paired RelV
theorem Vals.length {xs : List V} {us : List Value} (r : Vals xs us) : xs.length = us.length := Paired.length r
theorem Vals.get : ∀ {xs : List V} {us : List Value} {i : Nat} {x : V}, Vals xs us → xs[i]? = some x → ∃ u, us[i]? = some u ∧ RelV x u
  | _, _, _, _, .nil, e => by simp at e
  | _, _, 0, _, .cons r _, e => by simp at e; subst e; exact ⟨_, rfl, r⟩
  | _, _, i + 1, x, .cons _ t, e => by
    obtain ⟨u, h1, h2⟩ := Vals.get (i := i) (x := x) t (by simpa using e)
    exact ⟨u, by simpa using h1, h2⟩
theorem Vals.set {x : V} {u : Value} (r : RelV x u) : ∀ {xs : List V} {us : List Value} (i : Nat), Vals xs us → Vals (xs.set i x) (us.set i u)
  | _, _, _, .nil => .nil
  | _, _, 0, .cons _ t => .cons r t
  | _, _, i + 1, .cons q t => .cons q (Vals.set r i t)
theorem Vals.append : ∀ {xs ys : List V} {us ws : List Value}, Vals xs us → Vals ys ws → Vals (xs ++ ys) (us ++ ws)
  | _, _, _, _, .nil, s => s
  | _, _, _, _, .cons r t, s => .cons r (Vals.append t s)
theorem Vals.take : ∀ {xs : List V} {us : List Value} (n : Nat), Vals xs us → Vals (xs.take n) (us.take n)
  | _, _, 0, _ => .nil
  | _, _, _ + 1, .nil => .nil
  | _, _, n + 1, .cons r t => .cons r (Vals.take n t)
theorem Vals.drop : ∀ {xs : List V} {us : List Value} (n : Nat), Vals xs us → Vals (xs.drop n) (us.drop n)
  | _, _, 0, r => r
  | _, _, _ + 1, .nil => .nil
  | _, _, n + 1, .cons _ t => Vals.drop n t
def RelO : Option V → Option Value → Prop
  | some v, some u => RelV v u
  | none, none => True
  | _, _ => False
def KV {κ : Type} : List (κ × V) → List (κ × Value) → Prop := Paired fun (p : κ × V) (q : κ × Value) => p.1 = q.1 ∧ RelV p.2 q.2

/-- a key of a dict (00_mix): an int or a text -/
def kV : Key → V
  | .inl i => .int i
  | .inr x => .str x

/-- what stands at a tracked address -/
inductive HO where
  /-- a list -/
  | lst (xs : List V)
  /-- a tuple (never changes) -/
  | tup (xs : List V)
  /-- a dict whose keys are ints and texts; one whose keys are tuples of ints and texts (the empty one is both) -/
  | dK (kvs : List (Key × V)) | dT (kvs : List (List Key × V))
  /-- a set of ints: its members, its size -/
  | set (S : Int → Bool) (n : Nat)
  /-- an instance of the class at C, its dict at dx, its attributes -/
  | ins (C dx : Addr) (fs : List (Str × V))
  /-- the dict of the instance at x -/
  | own (x : Addr)
  /-- the dict of an exception -/
  | xd (fs : List (Str × V))
  /-- a bound method, f of x -/
  | met (f x : Addr)
  /-- a range object lo, lo + 1, .. below hi -/
  | rng (lo hi : Int)
  /-- a thing that is known to the object (the script; a dict while a loop walks it): read, never written while it is so -/
  | frz (o : Obj) (u : HO)
  /-- a code object's table -/
  | tbl (ps : Array Value)
  /-- any other thing, by what is true of its one object (a def of one's own: SetO a S n := HO.ext fun h => ..) -/
  | ext (φ : Heap → Prop)

abbrev Hp := Addr → Option HO
def upd (H : Hp) (a : Addr) (o : HO) : Hp := fun b => if b = a then some o else H b
theorem upd_same {H : Hp} {a : Addr} {o : HO} : upd H a o a = some o := by unfold upd; rw [if_pos rfl]
theorem upd_ne {H : Hp} {a b : Addr} {o : HO} (h : b ≠ a) : upd H a o b = H b := by unfold upd; rw [if_neg h]
/-- two objects of different content stand apart -/
theorem ne_of {H : Hp} {a b : Addr} {o u : HO} (h : H a = some o) (h' : H b = some u) (d : o ≠ u) : a ≠ b := by
  intro e; subst e; rw [h] at h'; exact d (Option.some.inj h')
theorem ne_of_none {H : Hp} {a b : Addr} {o : HO} (h : H a = some o) (h' : H b = none) : a ≠ b := by
  intro e; subst e; rw [h] at h'; cases h'

section
variable (P : Program) (w : World)
def ObjOk (H : Hp) (h : Heap) (a : Addr) : HO → Prop
  | .lst xs => xs.length ≤ sizeLine ∧ ∃ (its : List Value) (n : Nat), Vals xs its ∧ h.get? a = some { cls := .type "list", data := .seq its.toArray n }
  | .tup xs => xs.length ≤ sizeLine ∧ ∃ its : List Value, Vals xs its ∧ IsTup h a its.toArray
  | .dK kvs => kvs.length ≤ sizeLine ∧ (a == sysModules) = false ∧ ∃ vs, KV kvs vs ∧ h.DictOf (mixKind P w) a vs
  | .dT kvs => kvs.length ≤ sizeLine ∧ (a == sysModules) = false ∧ ∃ xs : List (List Key × Addr × Value),
      Paired (fun (p : List Key × V) (q : List Key × Addr × Value) => p.1 = q.1 ∧ H q.2.1 = some (.tup (p.1.map kV)) ∧ RelV p.2 q.2.2) kvs xs ∧
      ∃ o es ep, h.get? a = some o ∧ o.ExactDict ∧ o.data = .dict es ep ∧ es.toList = xs.map (entryOfKey (tupleKind (mixKind P w))) ∧ (xs.map (·.1)).Nodup
  | .set S n => h.SetOf (intKind P w) a S n
  | .ins C dx fs => H dx = some (.own a) ∧ fs.length ≤ 1000 ∧ dx ≠ a ∧ h.get? a = some (PySem.W.instObj C dx) ∧
      ∃ mA, h.Ns1 dx mA ∧ (∀ f, RelO (fs.lookup f) (mA f)) ∧ PySem.Within mA (fs.map (·.1))
  | .own _ => ∃ o, h.get? a = some o
  | .xd fs => ∃ mA, h.Ns1 a mA ∧ ∀ f, RelO (fs.lookup f) (mA f)
  | .rng lo hi => ∃ t u v, h.get? a = some { cls := .type "range", data := .fields #[.int lo t, .int hi u, .int 1 v] }
  | .frz o u => h.get? a = some o ∧ ObjOk H h a u
  | .tbl ps => h.get? a = some { cls := .none, data := .fields ps }
  | .met f x => h.get? a = some (PySem.W.methodObj (.ref f) (.ref x))
  | .ext φ => φ h ∧ (∃ o, h.get? a = some o) ∧ ∀ h1 h2 : Heap, φ h1 → (∀ o, h1.get? a = some o → h2.get? a = some o) → φ h2
/-- the abstract heap is held -/
def HOk (H : Hp) (h : Heap) : Prop := ∀ a o, H a = some o → ObjOk P w H h a o
end

section
variable {P : Program} {w : World} {H H' : Hp} {h h' : Heap} {a : Addr} {o : HO}
theorem ObjOk.lt (x : ObjOk P w H h a o) : a < h.objs.size := by
  cases o with
  | lst xs => obtain ⟨_, _, _, _, e⟩ := x; exact Heap.lt_size e
  | tup xs => obtain ⟨_, _, _, p⟩ := x; exact p.lt
  | dK kvs => obtain ⟨_, _, _, _, o, _, _, e, _⟩ := x; exact Heap.lt_size e
  | dT kvs => obtain ⟨_, _, _, _, o, _, _, e, _⟩ := x; exact Heap.lt_size e
  | set S n => obtain ⟨o, _, _, _, e, _⟩ := x; exact Heap.lt_size e
  | ins C dx fs => obtain ⟨_, _, _, e, _⟩ := x; exact Heap.lt_size e
  | own y => obtain ⟨_, e⟩ := x; exact Heap.lt_size e
  | xd fs => obtain ⟨_, ⟨_, _, _, e, _⟩, _⟩ := x; exact Heap.lt_size e
  | rng lo hi => obtain ⟨_, _, _, e⟩ := x; exact Heap.lt_size e
  | frz ob u => obtain ⟨e, _⟩ := x; exact Heap.lt_size e
  | tbl ps => exact Heap.lt_size (show h.get? a = some _ from x)
  | met f y => exact Heap.lt_size (show h.get? a = some _ from x)
  | ext φ => obtain ⟨_, ⟨_, e⟩, _⟩ := x; exact Heap.lt_size e
theorem Paired.mapP {α β : Type} {F G : α → β → Prop} : ∀ {l₁ : List α} {l₂ : List β}, Paired F l₁ l₂ → (∀ a b, F a b → G a b) → Paired G l₁ l₂
  | _, _, .nil, _ => .nil
  | _, _, .cons r t, f => .cons (f _ _ r) (Paired.mapP t f)
/-- what an object's description leans on: its own object, its own dict, the tuples -/
theorem ObjOk.stay (x : ObjOk P w H h a o) (k : ∀ b u, (b = a ∨ H b = some (.own a)) → h.get? b = some u → h'.get? b = some u)
    (ho : ∀ b, H b = some (.own a) → H' b = some (.own a)) (ht : ∀ b xs, H b = some (.tup xs) → H' b = some (.tup xs)) : ObjOk P w H' h' a o := by
  induction o with
  | lst xs => obtain ⟨z, its, n, r, e⟩ := x; exact ⟨z, its, n, r, k _ _ (.inl rfl) e⟩
  | tup xs => obtain ⟨z, its, r, ob, e, c⟩ := x; exact ⟨z, its, r, ob, k _ _ (.inl rfl) e, c⟩
  | dK kvs => obtain ⟨z, y, vs, r, ob, es, ep, e, c⟩ := x; exact ⟨z, y, vs, r, ob, es, ep, k _ _ (.inl rfl) e, c⟩
  | dT kvs =>
    obtain ⟨z, y, xs, r, ob, es, ep, e, c⟩ := x
    exact ⟨z, y, xs, Paired.mapP r fun p q z => ⟨z.1, ht _ _ z.2.1, z.2.2⟩, ob, es, ep, k _ _ (.inl rfl) e, c⟩
  | set S n => obtain ⟨ob, es, ep, t, e, c⟩ := x; exact ⟨ob, es, ep, t, k _ _ (.inl rfl) e, c⟩
  | ins C dx fs =>
    obtain ⟨d, z, ne, e, mA, ⟨od, es, ep, e2, c⟩, r⟩ := x
    exact ⟨ho _ d, z, ne, k _ _ (.inl rfl) e, mA, ⟨od, es, ep, k _ _ (.inr d) e2, c⟩, r⟩
  | own y => obtain ⟨ob, e⟩ := x; exact ⟨ob, k _ _ (.inl rfl) e⟩
  | xd fs => obtain ⟨mA, ⟨od, es, ep, e, c⟩, r⟩ := x; exact ⟨mA, ⟨od, es, ep, k _ _ (.inl rfl) e, c⟩, r⟩
  | rng lo hi => obtain ⟨t, u, v, e⟩ := x; exact ⟨t, u, v, k _ _ (.inl rfl) e⟩
  | frz ob u ih => obtain ⟨e, q⟩ := x; exact ⟨k _ _ (.inl rfl) e, ih q⟩
  | tbl ps =>
    have e : h.get? a = some { cls := .none, data := .fields ps } := x
    show h'.get? a = some { cls := .none, data := .fields ps }
    exact k a _ (.inl rfl) e
  | met f y =>
    have e : h.get? a = some (PySem.W.methodObj (.ref f) (.ref y)) := x
    show h'.get? a = some (PySem.W.methodObj (.ref f) (.ref y))
    exact k a _ (.inl rfl) e
  | ext φ => obtain ⟨p, ⟨o, e⟩, st⟩ := x; exact ⟨st _ _ p fun o q => k _ _ (.inl rfl) q, ⟨o, k _ _ (.inl rfl) e⟩, st⟩
theorem HOk.lt (x : HOk P w H h) (e : H a = some o) : a < h.objs.size := (x a o e).lt
theorem HOk.fresh (x : HOk P w H h) (e : h.objs.size ≤ a) : H a = none := by
  cases q : H a with
  | none => rfl
  | some u => exact absurd (Nat.lt_of_lt_of_le (x.lt q) e) (Nat.lt_irrefl _)
/-- every object of the heap is kept -/
theorem HOk.kept (x : HOk P w H h) (k : ∀ b u, h.get? b = some u → h'.get? b = some u) : HOk P w H h' := fun a o e =>
  (x a o e).stay (fun b u _ q => k b u q) (fun _ q => q) fun _ _ q => q
/-- a new object is laid and tracked -/
theorem HOk.laid (x : HOk P w H h) (k : ∀ b u, h.get? b = some u → h'.get? b = some u) (hp : h.objs.size ≤ a) (new : ObjOk P w (upd H a o) h' a o) : HOk P w (upd H a o) h' := fun b u e => by
  have hn := x.fresh hp
  by_cases hb : b = a
  · subst hb; rw [upd_same] at e; cases e; exact new
  · rw [upd_ne hb] at e
    exact (x b u e).stay (fun c v _ q => k c v q) (fun c q => by rw [upd_ne (ne_of_none q hn)]; exact q) fun c xs q => by rw [upd_ne (ne_of_none q hn)]; exact q
end

/-- what may be read as u: it is u, or a known u -/
def Rd (H : Hp) (a : Addr) (u : HO) : Prop := H a = some u ∨ ∃ o, H a = some (.frz o u)
theorem Rd.ok {P : Program} {w : World} {H : Hp} {h : Heap} {a : Addr} {u : HO} (r : Rd H a u) (x : HOk P w H h) : ObjOk P w H h a u := by
  rcases r with r | ⟨o, r⟩
  · exact x a u r
  · obtain ⟨_, q⟩ := x a _ r
    exact q
/-- what may be written -/
def Mut : Option HO → Prop
  | some (.lst _) => True
  | some (.dK _) => True
  | some (.dT _) => True
  | some (.set _ _) => True
  | some (.ins _ _ _) => True
  | some (.ext _) => True
  | _ => False
section
variable {P : Program} {w : World} {H : Hp} {h h' : Heap} {x e : Addr} {o' : HO}
/-- the object at e is changed: x itself, or the dict of the instance x -/
theorem HOk.write (ok : HOk P w H h) (mu : Mut (H x)) (he : e = x ∨ H e = some (.own x)) (k : ∀ b u, b ≠ e → h.get? b = some u → h'.get? b = some u) (heo : ∃ u, h'.get? e = some u)
    (new : ObjOk P w (upd H x o') h' x o') : HOk P w (upd H x o') h' := fun b u q => by
  have nown : ∀ c y, H c = some (.own y) → c ≠ x := fun c y r z => by subst z; rw [r] at mu; exact mu
  have ntup : ∀ c xs, H c = some (.tup xs) → c ≠ x := fun c xs r z => by subst z; rw [r] at mu; exact mu
  by_cases hb : b = x
  · subst hb; rw [upd_same] at q; cases q; exact new
  · rw [upd_ne hb] at q
    by_cases hbe : b = e
    · have q' : H b = some (.own x) := by
        rcases he with z | z
        · exact absurd (hbe.trans z) hb
        · rw [hbe]; exact z
      rw [q] at q'; cases q'
      obtain ⟨v, hv⟩ := heo
      exact ⟨v, by rw [hbe]; exact hv⟩
    · refine (ok b u q).stay (fun c v hc r => k c v ?_ r) (fun c r => by rw [upd_ne (nown c b r)]; exact r) fun c xs r => by rw [upd_ne (ntup c xs r)]; exact r
      rcases hc with rfl | hc
      · exact hbe
      · rintro rfl
        rcases he with z | z
        · exact nown c b hc z
        · rw [hc] at z; cases z; exact hb rfl
end

structure Un (fs ex : List Addr) (H H' : Hp) (h h' : Heap) : Prop where
  keep : ∀ b o, h.get? b = some o → H b = none → b ∉ fs → b ∉ ex → h'.get? b = some o
  slot : ∀ b o, h.get? b = some o → H b = none → b ∈ fs → b ∉ ex → ∃ sl, h'.get? b = some { o with slots := sl }
  free : ∀ b o, h.get? b = some o → H b = none → b ∉ ex → H' b = none
  there : ∀ b o, h.get? b = some o → b ∉ ex → ∃ o', h'.get? b = some o'
  tups : ∀ b xs, H b = some (.tup xs) → H' b = some (.tup xs)
  frzs : ∀ b o u, H b = some (.frz o u) → H' b = some (.frz o u)
  tbls : ∀ b ps, H b = some (.tbl ps) → ∃ more, H' b = some (.tbl (ps ++ more))
section
variable {fs fs' ex ex' : List Addr} {H H1 H2 : Hp} {h h1 h2 h' : Heap} {a x e : Addr} {o : HO}
theorem Un.any (u : Un fs ex H H1 h h1) {b : Addr} {ob : Obj} (q : h.get? b = some ob) (n : H b = none) (hx : b ∉ ex) : ∃ sl, h1.get? b = some { ob with slots := sl } := by
  by_cases hb : b ∈ fs
  · exact u.slot b ob q n hb hx
  · exact ⟨ob.slots, u.keep b ob q n hb hx⟩
theorem Un.kept (k : ∀ b u, h.get? b = some u → h'.get? b = some u) : Un fs ex H H h h' :=
  ⟨fun b ob q _ _ _ => k b ob q, fun b ob q _ _ _ => ⟨ob.slots, k b ob q⟩, fun _ _ _ n _ => n, fun b ob q _ => ⟨ob, k b ob q⟩, fun _ _ q => q, fun _ _ _ q => q, fun _ ps q => ⟨#[], by rw [q]; simp⟩⟩
theorem Un.refl : Un fs ex H H h h := Un.kept fun _ _ q => q
theorem Un.laid (k : ∀ b u, h.get? b = some u → h'.get? b = some u) (hp : h.objs.size ≤ a) (hn : H a = none) : Un fs ex H (upd H a o) h h' where
  keep := fun b u q _ _ _ => k b u q
  slot := fun b u q _ _ _ => ⟨u.slots, k b u q⟩
  free := fun b u q n _ => by rw [upd_ne (Nat.ne_of_lt (Nat.lt_of_lt_of_le (Heap.lt_size q) hp))]; exact n
  there := fun b u q _ => ⟨u, k b u q⟩
  tups := fun b xs q => by rw [upd_ne (ne_of_none q hn)]; exact q
  frzs := fun b u xs q => by rw [upd_ne (ne_of_none q hn)]; exact q
  tbls := fun b ps q => ⟨#[], by rw [upd_ne (ne_of_none q hn), q]; simp⟩
theorem Un.write (mu : Mut (H x)) (he : e = x ∨ H e = some (.own x)) (k : ∀ b u, b ≠ e → h.get? b = some u → h'.get? b = some u) (heo : ∃ u, h'.get? e = some u) : Un fs ex H (upd H x o) h h' := by
  have hx : ∀ b, H b = none → b ≠ x := fun b n z => by subst z; rw [n] at mu; exact mu
  have hb : ∀ b, H b = none → b ≠ e := fun b n z => by
    subst z
    rcases he with r | r
    · exact hx b n r
    · rw [n] at r; cases r
  have hm : ∀ b u, H b = some u → ¬ Mut (some u) → b ≠ x := fun b u q nm z => by subst z; rw [q] at mu; exact nm mu
  refine ⟨fun b u q n _ _ => k b u (hb b n) q, fun b u q n _ _ => ⟨u.slots, k b u (hb b n) q⟩, fun b u q n _ => by rw [upd_ne (hx b n)]; exact n, fun b u q _ => ?_,
    fun b xs q => by rw [upd_ne (hm b _ q fun z => z)]; exact q, fun b u xs q => by rw [upd_ne (hm b _ q fun z => z)]; exact q, fun b ps q => ⟨#[], by rw [upd_ne (hm b _ q fun z => z), q]; simp⟩⟩
  by_cases hbe : b = e
  · subst hbe; exact heo
  · exact ⟨u, k b u hbe q⟩
end

def trk (h : Heap) (H : Hp) : List Addr := (List.range h.objs.size).filter fun a => (H a).isSome
def hidT (h : Heap) (H : Hp) : Heap := PySem.W.hideAll h (trk h H)
theorem hidT_size (h : Heap) (H : Hp) : (hidT h H).objs.size = h.objs.size := PySem.W.hideAll_size _ _
theorem hidT_get {h : Heap} {H : Hp} {b : Addr} {o : Obj} (e : h.get? b = some o) (n : H b = none) : (hidT h H).get? b = some o :=
  PySem.W.hideAll_get _ e fun hm => by
    have q : (H b).isSome = true := (List.mem_filter.mp hm).2
    rw [n] at q; simp at q
theorem of_hidT {h : Heap} {H : Hp} {b : Addr} {o : Obj} (e : (hidT h H).get? b = some o) : h.get? b = some o ∧ H b = none := by
  have e' : h.get? b = some o := PySem.W.of_hideAll (trk h H) e
  refine ⟨e', ?_⟩
  cases q : H b with
  | none => rfl
  | some x =>
    have hm : b ∈ trk h H := List.mem_filter.mpr ⟨List.mem_range.mpr (Heap.lt_size e'), by simp [q]⟩
    have z : (hidT h H).get? b = none := PySem.W.hideAll_none (trk h H) hm
    rw [z] at e; cases e

end L2

namespace L2
open PySem PySem.Spec PyProof.Rows

/-- the module's facts, over the base: the heap at the law's entry without what is tracked there -/
structure Mod (K : PySem.W.Frag) (mg : Str → Option Value) (base : Heap) : Prop where
  kin : K.In base
  glob : base.Ns mainGlobals mg
  blt : ∃ mb, base.Ns builtinsNs mb ∧ ∀ x : Str, x ≠ "__name__" → mb x = bootBuiltins x
  nolimit : base.NoLimit

/-- the context: a def's body (or a comprehension's block) running. base: fixed through the whole law; s₀, H₀: the entry; outer: the frames whose slots others may change (a def's callers); stack: all frames that run;
   ex: iterators that were made ahead of the entry and are walked here (a comprehension's); fn: the names whose cells were made at the entry (a def: all; a comprehension's block: its own); calm: not within an except suite; pn: pins that every state bears; xe: what is wanted of an exception that leaves the code -/
structure Cx where
  prog : Program
  w : World
  K : PySem.W.Frag
  mg : Str → Option Value
  base : Heap
  A : Around
  N : List Str
  s_0 : Shared
  H_0 : Hp
  env : Env
  outer : List Env
  stack : List Env
  ex : List Addr
  fn : Str → Bool
  calm : Bool
  pn : List (Addr × Obj)
  xe : Value → Shared → Prop
/-- the callers' frames -/
def frs (l : List Env) : List Addr := l.filterMap (·.frame)
abbrev Cx.fs (X : Cx) : List Addr := frs X.outer

def Vis (sc : Scope) (x : Str) : Prop := sc.names.lookup x = some .local ∨ sc.names.lookup x = some .cell ∨ sc.names.lookup x = some .free
def Loc (sc : Scope) (x : Str) : Prop := sc.names.lookup x = some .local ∨ sc.names.lookup x = some .cell
def Look (env : Env) (h : Heap) (m : Str → Option Value) (x : Str) (u : Value) : Prop :=
  (env.kindOf x = some .local ∧ m x = some u) ∨ ((env.kindOf x = some .cell ∨ env.kindOf x = some .free) ∧ ∃ c, env.cells.lookup x = some c ∧ h.IsCell c (some u))

structure Cx.Ok (X : Cx) : Prop where
  mod : Mod X.K X.mg X.base
  kind : X.env.scope.kind = .function
  glob : X.env.globals = mainGlobals
  blt : X.env.builtins = builtinsNs
  above : X.s_0.heap.objs.size ≤ X.env.locals
  inj : ∀ x y c, X.env.cells.lookup x = some c → X.env.cells.lookup y = some c → x = y
  has : ∀ x, (X.env.kindOf x = some .cell ∨ X.env.kindOf x = some .free) → ∃ c, X.env.cells.lookup x = some c
  cab : ∀ x c, X.fn x = true → X.env.cells.lookup x = some c → X.s_0.heap.objs.size ≤ c
  hd : X.calm = true → X.A.handled = none
  frames : X.A.frames = some X.stack
  stk : X.stack = X.outer ∨ (X.stack = X.env :: X.outer ∧ X.env.frame = some X.env.locals)
  exf : ∀ b ∈ X.ex, b ≠ X.env.locals ∧ ∀ x c, X.env.cells.lookup x = some c → c ≠ b
  bs : ∀ b o, X.base.get? b = some o → X.s_0.heap.get? b = some o ∧ X.H_0 b = none
  bsz : X.base.objs.size ≤ X.s_0.heap.objs.size
  noex : ∀ b o, X.base.get? b = some o → b ∉ X.ex
  exfs : ∀ b ∈ X.ex, b ∉ X.fs
  funs : X.s_0.heap.FunFrames X.base X.outer
  frf : ∀ b ∈ X.fs, X.H_0 b = none

structure Inv (X : Cx) (pins : List (Addr × Obj)) (σ : List (Option V)) (H : Hp) (s : Shared) : Prop where
  ok : X.Ok
  os : s.os = X.s_0.os
  bare : AllBare s.gens
  base : Un X.fs X.ex X.H_0 H X.s_0.heap s.heap
  loc : ∃ m, s.heap.Ns X.env.locals m ∧ ∀ (i : Nat) (x : Str) (v : V), X.N[i]? = some x → σ[i]? = some (some v) → Vis X.env.scope x → ∃ u, RelV v u ∧ Look X.env s.heap m x u
  cell : ∀ x c, X.env.cells.lookup x = some c → ∃ v, s.heap.IsCell c v
  free : H X.env.locals = none
  freeC : ∀ x c, X.env.cells.lookup x = some c → H c = none
  pin : ∀ p ∈ X.pn ++ pins, s.heap.get? p.1 = some p.2 ∧ H p.1 = none ∧ p.1 ≠ X.env.locals ∧ p.1 ∉ X.fs ∧ ∀ v, p.2.data ≠ .cell v
  hok : HOk X.prog X.w H s.heap
  len : σ.length = X.N.length

section
variable {X : Cx} {pins : List (Addr × Obj)} {σ : List (Option V)} {H H' : Hp} {s : Shared} {h' : Heap}

theorem Cx.Ok.nofr (ok : X.Ok) {b : Addr} {o : Obj} (e : X.base.get? b = some o) : b ∉ X.fs := fun hb => by
  have := (ok.funs.mem hb).1
  rw [e] at this; cases this
theorem Inv.bs (I : Inv X pins σ H s) : ∀ b o, X.base.get? b = some o → s.heap.get? b = some o ∧ H b = none := fun b o e =>
  ⟨I.base.keep b o (I.ok.bs b o e).1 (I.ok.bs b o e).2 (I.ok.nofr e) (I.ok.noex b o e), I.base.free b o (I.ok.bs b o e).1 (I.ok.bs b o e).2 (I.ok.noex b o e)⟩
theorem Inv.bk (I : Inv X pins σ H s) : ∀ b o, X.base.get? b = some o → s.heap.get? b = some o := fun b o e => (I.bs b o e).1
theorem Inv.mod (I : Inv X pins σ H s) : Mod X.K X.mg X.base := I.ok.mod
theorem Inv.kIn (I : Inv X pins σ H s) : X.K.In s.heap := I.ok.mod.kin.keeps I.bk
theorem Inv.lt (I : Inv X pins σ H s) : X.env.locals < s.heap.objs.size := let ⟨_, hn, _⟩ := I.loc; hn.lt
theorem Inv.sz (I : Inv X pins σ H s) : X.s_0.heap.objs.size ≤ s.heap.objs.size := Nat.le_trans I.ok.above (Nat.le_of_lt I.lt)
theorem Inv.nofs (I : Inv X pins σ H s) {a : Addr} (h : s.heap.objs.size ≤ a) : a ∉ X.fs := fun hb => by
  obtain ⟨_, o, ho, _⟩ := I.ok.funs.mem hb
  exact absurd (Nat.lt_of_lt_of_le (Heap.lt_size ho) (Nat.le_trans I.sz h)) (Nat.lt_irrefl _)
theorem Inv.cne (I : Inv X pins σ H s) : ∀ x c, X.env.cells.lookup x = some c → c ≠ X.env.locals := fun x c e z => by
  obtain ⟨v, o, ho, hd⟩ := I.cell x c e
  obtain ⟨m, ⟨o', es, ep, ho', hd', _⟩, _⟩ := I.loc
  rw [z, ho'] at ho; cases ho; rw [hd'] at hd; cases hd
theorem Inv.funs (I : Inv X pins σ H s) : s.heap.FunFrames X.base X.outer := by
  have all : ∀ (l : List Env), (∀ b ∈ frs l, b ∈ X.fs) → X.s_0.heap.FunFrames X.base l → s.heap.FunFrames X.base l := by
    intro l
    induction l with
    | nil => intro _ _; trivial
    | cons env r ih =>
      intro hs hl
      obtain ⟨hk, ⟨L, o, hf, hn, ho, hd⟩, hr⟩ := hl
      have hL : L ∈ X.fs := hs L (by unfold frs; rw [List.filterMap_cons, hf]; exact List.mem_cons_self)
      obtain ⟨sl, e⟩ := I.base.slot L o ho (I.ok.frf L hL) hL fun z => I.ok.exfs L z hL
      exact ⟨hk, ⟨L, _, hf, hn, e, hd⟩, ih (fun b hb => hs b (by unfold frs; rw [List.filterMap_cons, hf]; exact List.mem_cons_of_mem _ hb)) hr⟩
  exact all X.outer (fun _ hb => hb) I.ok.funs

/-- the frames that run, for a call -/
theorem Inv.stack (I : Inv X pins σ H s) : s.heap.FunFrames X.base X.stack := by
  rcases I.ok.stk with e | ⟨e, hf⟩
  · rw [e]; exact I.funs
  · rw [e]
    obtain ⟨m, hn, _⟩ := I.loc
    refine .cons (by rw [I.ok.kind]; decide) hf hn ?_ I.funs
    exact Heap.get?_none_of_le (Nat.le_trans I.ok.bsz I.ok.above)
theorem Inv.stkSub (I : Inv X pins σ H s) : ∀ b ∈ frs X.stack, b ∈ X.env.locals :: X.fs := fun b hb => by
  rcases I.ok.stk with e | ⟨e, hf⟩
  · rw [e] at hb; exact List.mem_cons_of_mem _ hb
  · rw [e] at hb
    unfold frs at hb
    rw [List.filterMap_cons, hf] at hb
    exact hb
theorem Inv.stkFree (I : Inv X pins σ H s) : ∀ b ∈ frs X.stack, H b = none := fun b hb => by
  rcases List.mem_cons.mp (I.stkSub b hb) with e | hb
  · rw [e]; exact I.free
  · obtain ⟨_, o, ho, _⟩ := I.ok.funs.mem hb
    exact I.base.free b o ho (I.ok.frf b hb) fun z => I.ok.exfs b z hb

/-- THE STEP: the untracked objects but the frame and the records at ch are kept (the callers' frames up to slots), the frame's map is kept, the new abstract heap is held -/
theorem Inv.step {g' : Array GenState} {t' : Nat} {d' : Drawn} {ch : List Addr} (I : Inv X pins σ H s)
    (hch : ∀ b ∈ ch, (b ∈ X.ex ∨ X.s_0.heap.objs.size ≤ b) ∧ b ≠ X.env.locals ∧ (∀ x c, X.env.cells.lookup x = some c → c ≠ b) ∧ ∀ p ∈ X.pn ++ pins, p.1 ≠ b)
    (keep : ∀ b o, b ≠ X.env.locals → b ∉ X.fs → b ∉ ch → s.heap.get? b = some o → H b = none → h'.get? b = some o)
    (slot : ∀ b o, b ≠ X.env.locals → b ∈ X.fs → b ∉ ch → s.heap.get? b = some o → H b = none → ∃ sl, h'.get? b = some { o with slots := sl }) (free : ∀ b o, b ∉ ch → s.heap.get? b = some o → H b = none → H' b = none)
    (there : ∀ b o, b ∉ ch → s.heap.get? b = some o → ∃ o', h'.get? b = some o')
    (tups : ∀ b xs, H b = some (.tup xs) → H' b = some (.tup xs)) (frzs : ∀ b o u, H b = some (.frz o u) → H' b = some (.frz o u)) (tbls : ∀ b ps, H b = some (.tbl ps) → ∃ more, H' b = some (.tbl (ps ++ more)))
    (ns : ∀ m, s.heap.Ns X.env.locals m → h'.Ns X.env.locals m) (hok : HOk X.prog X.w H' h') (hg : AllBare g') :
    Inv X pins σ H' { s with heap := h', gens := g', drawn := d', toks := t' } := by
  have neL : ∀ b o, X.s_0.heap.get? b = some o → b ≠ X.env.locals := fun b o e => Nat.ne_of_lt (Nat.lt_of_lt_of_le (Heap.lt_size e) I.ok.above)
  have neC : ∀ b o, X.s_0.heap.get? b = some o → b ∉ X.ex → b ∉ ch := fun b o e hx hb => by
    rcases (hch b hb).1 with z | z
    · exact hx z
    · exact absurd (Nat.lt_of_lt_of_le (Heap.lt_size e) z) (Nat.lt_irrefl _)
  have cellK : ∀ x c, X.env.cells.lookup x = some c → ∀ v, s.heap.IsCell c v → h'.IsCell c v := fun x c e v ⟨o, ho, hd⟩ => by
    have nch : c ∉ ch := fun z => (hch c z).2.2.1 x c e rfl
    by_cases hc : c ∈ X.fs
    · obtain ⟨sl, q⟩ := slot c o (I.cne x c e) hc nch ho (I.freeC x c e)
      exact ⟨_, q, hd⟩
    · exact ⟨o, keep c o (I.cne x c e) hc nch ho (I.freeC x c e), hd⟩
  refine ⟨I.ok, I.os, hg, ⟨fun b o e n hb hx => ?_, fun b o e n hb hx => ?_, fun b o e n hx => ?_, fun b o e hx => ?_, fun b xs e => tups b xs (I.base.tups b xs e), fun b o xs e => frzs b o xs (I.base.frzs b o xs e), fun b ps e => ?_⟩, ?_, fun x c e => ?_, ?_, fun x c e => ?_, fun p hp => ?_, hok, I.len⟩
  · exact keep b o (neL b o e) hb (neC b o e hx) (I.base.keep b o e n hb hx) (I.base.free b o e n hx)
  · obtain ⟨sl, e1⟩ := I.base.slot b o e n hb hx
    obtain ⟨sl', e2⟩ := slot b _ (neL b o e) hb (neC b o e hx) e1 (I.base.free b o e n hx)
    exact ⟨sl', e2⟩
  · obtain ⟨o', e1⟩ := I.base.there b o e hx
    exact free b o' (neC b o e hx) e1 (I.base.free b o e n hx)
  · obtain ⟨o', e1⟩ := I.base.there b o e hx
    exact there b o' (neC b o e hx) e1
  · obtain ⟨m1, e1⟩ := I.base.tbls b ps e
    obtain ⟨m2, e2⟩ := tbls b _ e1
    exact ⟨m1 ++ m2, by rw [e2, Array.append_assoc]⟩
  · obtain ⟨m, hn, hl⟩ := I.loc
    refine ⟨m, ns m hn, fun i x v e1 e2 e3 => ?_⟩
    obtain ⟨u, r, l⟩ := hl i x v e1 e2 e3
    refine ⟨u, r, ?_⟩
    rcases l with l | ⟨k, c, e, z⟩
    · exact .inl l
    · exact .inr ⟨k, c, e, cellK x c e _ z⟩
  · obtain ⟨v, z⟩ := I.cell x c e
    exact ⟨v, cellK x c e v z⟩
  · obtain ⟨m, ⟨o, _, _, ho, _⟩, _⟩ := I.loc
    exact free _ o (fun z => (hch _ z).2.1 rfl) ho I.free
  · obtain ⟨v, o, ho, hd⟩ := I.cell x c e
    exact free c o (fun z => (hch c z).2.2.1 x c e rfl) ho (I.freeC x c e)
  · obtain ⟨e, n, ne, nf, d⟩ := I.pin p hp
    have nch : p.1 ∉ ch := fun z => (hch p.1 z).2.2.2 p hp rfl
    exact ⟨keep p.1 p.2 ne nf nch e n, free p.1 p.2 nch e n, ne, nf, d⟩
/-- .. where the frame's own object is kept too -/
theorem Inv.un {t' : Nat} (I : Inv X pins σ H s) (u : Un X.fs [] H H' s.heap h') (hok : HOk X.prog X.w H' h') : Inv X pins σ H' { s with heap := h', toks := t' } := by
  obtain ⟨m, ⟨o, es, ep, ho, r⟩, _⟩ := id I.loc
  obtain ⟨sl, hL⟩ := u.any ho I.free (by simp)
  exact I.step (g' := s.gens) (d' := s.drawn) (ch := []) (fun _ z => nomatch z) (fun b o _ hb _ e n => u.keep b o e n hb (by simp)) (fun b o _ hb _ e n => u.slot b o e n hb (by simp)) (fun b o _ e n => u.free b o e n (by simp)) (fun b o _ e => u.there b o e (by simp)) u.tups u.frzs u.tbls (fun m' hm => by
    obtain ⟨o', es', ep', ho', r'⟩ := hm
    rw [ho] at ho'; cases ho'
    exact ⟨_, es', ep', hL, r'⟩) hok I.bare
/-- behind a call (or a comprehension's block): the slots of this frame may have changed too, the records at ch may have turned -/
theorem Inv.call {g' : Array GenState} {t' : Nat} {d' : Drawn} {ch : List Addr} (I : Inv X pins σ H s) (u : Un (frs X.stack) ch H H' s.heap h') (hok : HOk X.prog X.w H' h') (hg : AllBare g')
    (hch : ∀ b ∈ ch, (b ∈ X.ex ∨ X.s_0.heap.objs.size ≤ b) ∧ b ≠ X.env.locals ∧ (∀ x c, X.env.cells.lookup x = some c → c ≠ b) ∧ ∀ p ∈ X.pn ++ pins, p.1 ≠ b) :
    Inv X pins σ H' { s with heap := h', gens := g', drawn := d', toks := t' } := by
  obtain ⟨m, ⟨o, es, ep, ho, r⟩, _⟩ := id I.loc
  obtain ⟨sl, hL⟩ := u.any ho I.free fun z => (hch _ z).2.1 rfl
  exact I.step (ch := ch) hch (fun b o hL hb hc e n => u.keep b o e n (fun z => (List.mem_cons.mp (I.stkSub b z)).elim hL hb) hc) (fun b o _ _ hc e n => u.any e n hc) (fun b o hc e n => u.free b o e n hc) (fun b o hc e => u.there b o e hc) u.tups u.frzs u.tbls (fun m' hm => by
    obtain ⟨o', es', ep', ho', r'⟩ := hm
    rw [ho] at ho'; cases ho'
    exact ⟨_, es', ep', hL, r'⟩) hok hg
/-- an untracked record of ours (an iterator) has turned -/
theorem Inv.turned {t' : Nat} {it : Addr} (I : Inv X pins σ H s) (k : ∀ b o, b ≠ it → s.heap.get? b = some o → h'.get? b = some o) (hn : H it = none) (hL : it ≠ X.env.locals)
    (h1 : it ∈ X.ex ∨ X.s_0.heap.objs.size ≤ it) (h2 : ∀ x c, X.env.cells.lookup x = some c → c ≠ it) (h3 : ∀ p ∈ X.pn ++ pins, p.1 ≠ it) : Inv X pins σ H { s with heap := h', toks := t' } := by
  have nit : ∀ b u, H b = some u → b ≠ it := fun b u e z => by rw [z, hn] at e; cases e
  refine I.step (g' := s.gens) (d' := s.drawn) (ch := [it]) (fun b hb => ?_) (fun b o _ _ hc e _ => k b o (fun z => hc (by simp [z])) e) (fun b o _ _ hc e _ => ⟨o.slots, k b o (fun z => hc (by simp [z])) e⟩) (fun _ _ _ _ n => n)
    (fun b o hc e => ⟨o, k b o (fun z => hc (by simp [z])) e⟩) (fun _ _ e => e) (fun _ _ _ e => e) (fun b ps e => ⟨#[], by rw [e]; simp⟩) (fun m hm => ?_) (fun b u e => ?_) I.bare
  · have e : b = it := by simpa using hb
    subst e
    exact ⟨h1, hL, h2, h3⟩
  · obtain ⟨o, es, ep, ho, r⟩ := hm
    exact ⟨o, es, ep, k _ o (Ne.symm hL) ho, r⟩
  · refine (I.hok b u e).stay (fun c v hc q => k c v ?_ q) (fun _ q => q) fun _ _ q => q
    rcases hc with z | z
    · rw [z]; exact nit b u e
    · exact nit c _ z
theorem Inv.tok (I : Inv X pins σ H s) (t : Nat) : Inv X pins σ H { s with toks := t } := I.un (h' := s.heap) (t' := t) Un.refl I.hok
/-- all objects kept -/
theorem Inv.kept {t' : Nat} (I : Inv X pins σ H s) (k : ∀ b u, s.heap.get? b = some u → h'.get? b = some u) : Inv X pins σ H { s with heap := h', toks := t' } := I.un (Un.kept k) (I.hok.kept k)
/-- a new object laid and tracked -/
theorem Inv.laid {a : Addr} {o : HO} {t' : Nat} (I : Inv X pins σ H s) (k : ∀ b u, s.heap.get? b = some u → h'.get? b = some u) (hp : s.heap.objs.size ≤ a) (new : ObjOk X.prog X.w (upd H a o) h' a o) :
    Inv X pins σ (upd H a o) { s with heap := h', toks := t' } := I.un (Un.laid k hp (I.hok.fresh hp)) (I.hok.laid k hp new)
/-- an object written -/
theorem Inv.write {x e : Addr} {o : HO} {t' : Nat} (I : Inv X pins σ H s) (mu : Mut (H x)) (he : e = x ∨ H e = some (.own x)) (k : ∀ b u, b ≠ e → s.heap.get? b = some u → h'.get? b = some u) (heo : ∃ u, h'.get? e = some u)
    (new : ObjOk X.prog X.w (upd H x o) h' x o) : Inv X pins σ (upd H x o) { s with heap := h', toks := t' } := I.un (Un.write mu he k heo) (I.hok.write mu he k heo new)
/-- forgetting slots, pins -/
theorem Inv.weak {σ' : List (Option V)} (I : Inv X pins σ H s) (hl : σ'.length = σ.length) (w : ∀ (i : Nat) v, σ'[i]? = some (some v) → σ[i]? = some (some v)) : Inv X pins σ' H s :=
  ⟨I.ok, I.os, I.bare, I.base, let ⟨m, hn, hl'⟩ := I.loc; ⟨m, hn, fun i x v e1 e2 e3 => hl' i x v e1 (w i v e2) e3⟩, I.cell, I.free, I.freeC, I.pin, I.hok, hl.trans I.len⟩
theorem Inv.pins_of {pins' : List (Addr × Obj)} (I : Inv X pins σ H s) (h : ∀ p ∈ pins', s.heap.get? p.1 = some p.2 ∧ H p.1 = none ∧ p.1 ≠ X.env.locals ∧ p.1 ∉ X.fs ∧ ∀ v, p.2.data ≠ .cell v) : Inv X pins' σ H s :=
  ⟨I.ok, I.os, I.bare, I.base, I.loc, I.cell, I.free, I.freeC, fun p hp => (List.mem_append.mp hp).elim (fun z => I.pin p (List.mem_append_left _ z)) (h p), I.hok, I.len⟩

theorem nodup_ix {N : List Str} (hN : N.Nodup) {i j : Nat} {x : Str} (a : N[i]? = some x) (b : N[j]? = some x) : i = j := by
  obtain ⟨h1, e1⟩ := List.getElem?_eq_some_iff.mp a
  obtain ⟨h2, e2⟩ := List.getElem?_eq_some_iff.mp b
  exact (List.getElem_inj hN).mp (e1.trans e2.symm)

/-- a name is stored; what changed -/
theorem store_ok2 {M : Model} {A : Around} {E : Value → Shared → Prop} {i : Nat} {x : Str} {v : V} {u : Value} {Q : Unit → Shared → Prop} (I : Inv X pins σ H s) (hN : X.N.Nodup) (hi : X.N[i]? = some x) (hx : Loc X.env.scope x) (r : RelV v u)
    (h : ∀ s', Inv X pins (σ.set i (some v)) H s' → (∃ a, Heap.SameBut a s.heap s'.heap ∧ (a = X.env.locals ∨ X.env.cells.lookup x = some a)) → Q () s') (hf : X.fn x = true ∨ X.env.scope.names.lookup x = some .local := by first | exact .inl rfl | exact .inr rfl | assumption) : wpAny M A (storeName X.env x u) Q E s := by
  obtain ⟨m, hn, hl⟩ := id I.loc
  have hcls : (X.env.scope.kind == .class || (X.env.scope.kind == .module && X.env.locals != X.env.globals)) = false := by rw [I.ok.kind]; rfl
  have hiσ : i < σ.length := by rw [I.len]; exact (List.getElem?_eq_some_iff.mp hi).1
  have cne := I.cne
  have tracked : ∀ {a : Addr} {h' : Heap}, (∃ o, s.heap.get? a = some o ∧ H a = none) → Heap.SameBut a s.heap h' → HOk X.prog X.w H h' := fun {a h'} ha hs b ob e => by
    obtain ⟨_, _, hfree⟩ := ha
    refine (I.hok b ob e).stay (fun c w' hc q => (hs.2 c ?_).trans q) (fun _ q => q) fun _ _ q => q
    rintro rfl
    rcases hc with rfl | hc
    · rw [hfree] at e; cases e
    · rw [hfree] at hc; cases hc
  rcases hx with hk | hk
  · refine wpAny_storeName_local hk hn (fun h' hn' hs => ?_) hcls
    obtain ⟨oL, _, _, hoL, _⟩ := id hn
    refine h _ ⟨I.ok, I.os, I.bare, ⟨fun b o e n hb hx => ?_, fun b o e n hb hx => ?_, I.base.free, fun b o e hx => ?_, I.base.tups, I.base.frzs, I.base.tbls⟩, ⟨_, hn', fun j y v' e1 e2 e3 => ?_⟩, fun y c e => ?_, I.free, I.freeC, fun p hp => ?_, tracked ⟨oL, hoL, I.free⟩ hs, by simpa using I.len⟩ ⟨_, hs, .inl rfl⟩
    · exact (hs.2 b (Nat.ne_of_lt (Nat.lt_of_lt_of_le (Heap.lt_size e) I.ok.above))).trans (I.base.keep b o e n hb hx)
    · obtain ⟨sl, e1⟩ := I.base.slot b o e n hb hx
      exact ⟨sl, (hs.2 b (Nat.ne_of_lt (Nat.lt_of_lt_of_le (Heap.lt_size e) I.ok.above))).trans e1⟩
    · obtain ⟨o', e1⟩ := I.base.there b o e hx
      exact ⟨o', (hs.2 b (Nat.ne_of_lt (Nat.lt_of_lt_of_le (Heap.lt_size e) I.ok.above))).trans e1⟩
    · by_cases hj : j = i
      · subst hj
        rw [hi] at e1; cases e1
        rw [List.getElem?_set_self hiσ] at e2
        cases e2
        exact ⟨u, r, .inl ⟨hk, by simp⟩⟩
      · rw [List.getElem?_set_ne (Ne.symm hj)] at e2
        obtain ⟨u', r', q⟩ := hl j y v' e1 e2 e3
        refine ⟨u', r', ?_⟩
        rcases q with ⟨k, e⟩ | ⟨k, c, e, z⟩
        · refine .inl ⟨k, ?_⟩
          have : y ≠ x := fun e => hj (nodup_ix hN e1 (e ▸ hi))
          simp [this, e]
        · exact .inr ⟨k, c, e, z.sameBut hs (cne y c e)⟩
    · obtain ⟨w', z⟩ := I.cell y c e
      exact ⟨w', z.sameBut hs (cne y c e)⟩
    · obtain ⟨e, n, ne, nf, d⟩ := I.pin p hp
      exact ⟨(hs.2 p.1 ne).trans e, n, ne, nf, d⟩
  · have hfn : X.fn x = true := by
      rcases hf with z | z
      · exact z
      · rw [z] at hk; cases hk
    obtain ⟨c, hc⟩ := I.ok.has x (.inl hk)
    obtain ⟨w', z⟩ := I.cell x c hc
    refine wpAny_storeName_cell I.ok.kind hk hc z (fun h' hc' hs => ?_)
    obtain ⟨oc, hoc, hocd⟩ := id z
    refine h { s with heap := h' } ⟨I.ok, I.os, I.bare, ⟨fun b o e n hb hx => ?_, fun b o e n hb hx => ?_, I.base.free, fun b o e hx => ?_, I.base.tups, I.base.frzs, I.base.tbls⟩, ⟨m, hn.sameBut hs (Ne.symm (cne x c hc)), fun j y v' e1 e2 e3 => ?_⟩, fun y c' e => ?_, I.free, I.freeC, fun p hp => ?_, tracked ⟨oc, hoc, I.freeC x c hc⟩ hs, by simpa using I.len⟩ ⟨c, hs, .inr hc⟩
    · exact (hs.2 b (Nat.ne_of_lt (Nat.lt_of_lt_of_le (Heap.lt_size e) (I.ok.cab x c hfn hc)))).trans (I.base.keep b o e n hb hx)
    · obtain ⟨sl, e1⟩ := I.base.slot b o e n hb hx
      exact ⟨sl, (hs.2 b (Nat.ne_of_lt (Nat.lt_of_lt_of_le (Heap.lt_size e) (I.ok.cab x c hfn hc)))).trans e1⟩
    · obtain ⟨o', e1⟩ := I.base.there b o e hx
      exact ⟨o', (hs.2 b (Nat.ne_of_lt (Nat.lt_of_lt_of_le (Heap.lt_size e) (I.ok.cab x c hfn hc)))).trans e1⟩
    · by_cases hj : j = i
      · subst hj
        rw [hi] at e1; cases e1
        rw [List.getElem?_set_self hiσ] at e2
        cases e2
        exact ⟨u, r, .inr ⟨.inl hk, c, hc, hc'⟩⟩
      · rw [List.getElem?_set_ne (Ne.symm hj)] at e2
        obtain ⟨u', r', q⟩ := hl j y v' e1 e2 e3
        refine ⟨u', r', ?_⟩
        rcases q with q | ⟨k, c', e, z'⟩
        · exact .inl q
        · refine .inr ⟨k, c', e, z'.sameBut hs ?_⟩
          rintro rfl
          exact hj (nodup_ix hN e1 (I.ok.inj _ _ _ e hc ▸ hi))
    · by_cases hcc : c' = c
      · subst hcc; exact ⟨_, hc'⟩
      · obtain ⟨w2, z2⟩ := I.cell y c' e
        exact ⟨w2, z2.sameBut hs hcc⟩
    · obtain ⟨e, n, ne, nf, d⟩ := I.pin p hp
      refine ⟨(hs.2 p.1 ?_).trans e, n, ne, nf, d⟩
      intro q
      rw [q, hoc] at e
      have q' : oc = p.2 := Option.some.inj e
      exact d w' (by rw [← q']; exact hocd)
theorem store_ok {M : Model} {A : Around} {E : Value → Shared → Prop} {i : Nat} {x : Str} {v : V} {u : Value} {Q : Unit → Shared → Prop} (I : Inv X pins σ H s) (hN : X.N.Nodup) (hi : X.N[i]? = some x) (hx : Loc X.env.scope x) (r : RelV v u)
    (h : ∀ s', Inv X pins (σ.set i (some v)) H s' → Q () s') (hf : X.fn x = true ∨ X.env.scope.names.lookup x = some .local := by first | exact .inl rfl | exact .inr rfl | assumption) : wpAny M A (storeName X.env x u) Q E s :=
  store_ok2 I hN hi hx r (fun s' I' _ => h s' I') hf
/-- behind a call or a block, the state as it is -/
theorem Inv.call' {s' : Shared} {ch : List Addr} (I : Inv X pins σ H s) (ho : s'.os = s.os) (u : Un (frs X.stack) ch H H' s.heap s'.heap) (hok : HOk X.prog X.w H' s'.heap) (hg : AllBare s'.gens)
    (hch : ∀ b ∈ ch, (b ∈ X.ex ∨ X.s_0.heap.objs.size ≤ b) ∧ b ≠ X.env.locals ∧ (∀ x c, X.env.cells.lookup x = some c → c ≠ b) ∧ ∀ p ∈ X.pn ++ pins, p.1 ≠ b) : Inv X pins σ H' s' := by
  obtain ⟨h', g', d', t', o'⟩ := s'
  have e : o' = s.os := ho
  subst e
  exact I.call (g' := g') (t' := t') (d' := d') u hok hg hch
end

/-- an exception: its class, its own dict's address (where it has one), the abstract heap behind it -/
abbrev XK := Value → Option Addr → Hp → Prop
abbrev St := List (Option V)
abbrev VK := V → Hp → Prop
/-- an expression's reading; a test's; an argument list's -/
abbrev TE := St → Hp → VK → Prop
abbrev TT := St → Hp → (Bool → Hp → Prop) → Prop
abbrev TA := St → Hp → (List V → Hp → Prop) → Prop
/-- what is wanted behind a statement -/
structure Ends where
  nx : St → Hp → Prop
  rt : VK
  bk : St → Hp → Prop := fun _ _ => False
  ct : St → Hp → Prop := fun _ _ => False
abbrev TS := Ends → St → Hp → Prop

def EP (X : Cx) (pins : List (Addr × Obj)) (σ : St) (Q : VK) (u : Value) (s' : Shared) : Prop := ∃ v H', Inv X pins σ H' s' ∧ RelV v u ∧ Q v H'
def TP (X : Cx) (pins : List (Addr × Obj)) (σ : St) (Q : Bool → Hp → Prop) (b : Bool) (s' : Shared) : Prop := ∃ H', Inv X pins σ H' s' ∧ Q b H'
def AP (X : Cx) (pins : List (Addr × Obj)) (σ : St) (Q : List V → Hp → Prop) (us : List Value) (s' : Shared) : Prop := ∃ vs H', Inv X pins σ H' s' ∧ Vals vs us ∧ Q vs H'
def SP (X : Cx) (pins : List (Addr × Obj)) (D : Ends) (f : Flow) (s' : Shared) : Prop :=
  match f with
  | .next => ∃ σ' H', Inv X pins σ' H' s' ∧ D.nx σ' H'
  | .brk => ∃ σ' H', Inv X pins σ' H' s' ∧ D.bk σ' H'
  | .cont => ∃ σ' H', Inv X pins σ' H' s' ∧ D.ct σ' H'
  | .ret u => ∃ v σ' H', Inv X pins σ' H' s' ∧ RelV v u ∧ D.rt v H'

def PE (X : Cx) (e : Expr) (t : TE) : Prop :=
  ∀ (pins : List (Addr × Obj)) (s : Shared) (σ : St) (H : Hp) (Q : VK), Inv X pins σ H s → t σ H Q → wpAny (model X.prog X.w) X.A (eval e X.env) (EP X pins σ Q) X.xe s
def PT (X : Cx) (e : Expr) (t : TT) : Prop :=
  ∀ (pins : List (Addr × Obj)) (s : Shared) (σ : St) (H : Hp) (Q : Bool → Hp → Prop), Inv X pins σ H s → t σ H Q → wpAny (model X.prog X.w) X.A (isTrue e X.env (eval e X.env)) (TP X pins σ Q) X.xe s
/-- a test whatever its 'whole' is (and, or) -/
def PW (X : Cx) (e : Expr) (t : TT) : Prop :=
  ∀ (whole : Sem Value) (pins : List (Addr × Obj)) (s : Shared) (σ : St) (H : Hp) (Q : Bool → Hp → Prop), Inv X pins σ H s → t σ H Q → wpAny (model X.prog X.w) X.A (isTrue e X.env whole) (TP X pins σ Q) X.xe s
theorem PW.pt {X : Cx} {e : Expr} {t : TT} (h : PW X e t) : PT X e t := h _
/-- an argument list (no star), from the left -/
def PA (X : Cx) (es : List Expr) (t : TA) : Prop :=
  ∀ (pos : Pos) (pins : List (Addr × Obj)) (s : Shared) (σ : St) (H : Hp) (Q : List V → Hp → Prop), Inv X pins σ H s → t σ H Q → wpAny (model X.prog X.w) X.A (spliced (backTo pos (starEach es X.env))) (AP X pins σ Q) X.xe s
def PS (X : Cx) (st : Stmt) (t : TS) : Prop :=
  ∀ (pins : List (Addr × Obj)) (s : Shared) (σ : St) (H : Hp) (D : Ends), Inv X pins σ H s → t D σ H → wpAny (model X.prog X.w) X.A (exec st X.env) (SP X pins D) X.xe s
def PSs (X : Cx) (st : List Stmt) (t : TS) : Prop :=
  ∀ (pins : List (Addr × Obj)) (s : Shared) (σ : St) (H : Hp) (D : Ends), Inv X pins σ H s → t D σ H → wpAny (model X.prog X.w) X.A (execs st X.env) (SP X pins D) X.xe s
/-- weaken the end -/
theorem thn {α : Type} {t : Sem α} {Q Q' : α → Shared → Prop} {M : Model} {A : Around} {E : Value → Shared → Prop} {s : Shared} (h : wpAny M A t Q E s) (hQ : ∀ a s, Q a s → Q' a s) : wpAny M A t Q' E s := wpAny_mono h hQ fun _ _ x => x
end L2

namespace L2
open PySem PySem.Spec PyProof.Rows
section
variable {X : Cx}

def tVar (i : Nat) : TE := fun σ H Q => ∃ v, σ[i]? = some (some v) ∧ Q v H
def tC (v : V) : TE := fun _ H Q => Q v H
theorem pe_var {i : Nat} {x : Str} {pos : Pos} (hN : X.N[i]? = some x) (hv : Vis X.env.scope x) (hd : (x == ("__debug__" : Str)) = false := by decide) (hcd : (x == ("__classdict__" : Str)) = false := by decide) : PE X (.Name x pos) (tVar i) := by
  intro pins s σ H Q I h
  obtain ⟨v, e, h⟩ := h
  obtain ⟨m, hn, hl⟩ := I.loc
  obtain ⟨u, r, l⟩ := hl i x v hN e hv
  have fin : EP X pins σ Q u s := ⟨v, H, I, r, h⟩
  rcases l with ⟨hk, hm⟩ | ⟨hk, c, hc, hcell⟩
  · exact wpAny_Name (wpAny_loadName_local I.ok.kind hk hn hm fin) hd
  · rcases hk with hk | hk
    · exact wpAny_Name (wpAny_loadName_cell I.ok.kind hk hc hcell fin) hd
    · exact wpAny_Name (wpAny_loadName_free I.ok.kind hk hc hcell fin hcd) hd
theorem pe_int {i j pos} : PE X (.Constant (.int i) j pos) (tC (.int i)) := fun _ _ _ H _ I h => wpAny_Constant_int ⟨.int i, H, I.tok _, ⟨_, rfl⟩, h⟩
theorem pe_bl {b j pos} : PE X (.Constant (.bool b) j pos) (tC (.bl b)) := fun _ _ _ H _ I h => Constant_bool ⟨.bl b, H, I, rfl, h⟩
theorem pe_non {j pos} : PE X (.Constant .none j pos) (tC .non) := fun _ _ _ H _ I h => Constant_none ⟨.non, H, I, rfl, h⟩
/-- a global name of the def -/
def Gl (X : Cx) (x : Str) : Prop := X.env.kindOf x = some .globalImplicit
theorem ld_glob {E : Value → Shared → Prop} {pins : List (Addr × Obj)} {s : Shared} {σ : St} {H : Hp} {x : Str} {u : Value} {pos : Pos} {Q : Value → Shared → Prop} (I : Inv X pins σ H s) (hg : Gl X x) (hm : X.mg x = some u) (h : Q u s)
    (hd : (x == ("__debug__" : Str)) = false := by decide) : wpAny (model X.prog X.w) X.A (eval (.Name x pos) X.env) Q E s :=
  Calls.Name_function_global I.ok.kind hg (Calls.loadGlobal_global (by rw [I.ok.glob]; exact I.mod.glob.keeps I.bk) hm h) hd
theorem ld_blt {E : Value → Shared → Prop} {pins : List (Addr × Obj)} {s : Shared} {σ : St} {H : Hp} {x : Str} {u : Value} {pos : Pos} {Q : Value → Shared → Prop} (I : Inv X pins σ H s) (hg : Gl X x) (hm : X.mg x = none) (hv : bootBuiltins x = some u) (h : Q u s)
    (hn : x ≠ "__name__" := by decide) (hd : (x == ("__debug__" : Str)) = false := by decide) : wpAny (model X.prog X.w) X.A (eval (.Name x pos) X.env) Q E s := by
  obtain ⟨mb, h1, h2⟩ := I.mod.blt
  exact Calls.Name_function_global I.ok.kind hg (Calls.loadGlobal_builtin (by rw [I.ok.glob]; exact I.mod.glob.keeps I.bk) hm (by rw [I.ok.blt]; exact h1.keeps I.bk) ((h2 x hn).trans hv) h) hd
/-- a module's constant, a class, a function, as a value -/
theorem pe_glob {x : Str} {v : V} {u : Value} {pos : Pos} (hg : Gl X x) (hm : X.mg x = some u) (r : RelV v u) (hd : (x == ("__debug__" : Str)) = false := by decide) : PE X (.Name x pos) (tC v) :=
  fun _ _ _ H _ I h => ld_glob I hg hm ⟨v, H, I, r, h⟩ hd
variable {a b : Expr} {ta tb : TE} {pos : Pos}
def PC (X : Cx) (op : CmpOp) (a b : Expr) (t : TE) : Prop :=
  ∀ (pins : List (Addr × Obj)) (s : Shared) (σ : St) (H : Hp) (Q : VK), Inv X pins σ H s → t σ H Q →
    wpAny (model X.prog X.w) X.A (eval a X.env) (fun v s₁ => wpAny (model X.prog X.w) X.A (eval b X.env) (fun u s₂ => wpAny (model X.prog X.w) X.A (compareOp op v u) (EP X pins σ Q) X.xe s₂) X.xe s₁) X.xe s
/-- a comparison as a value, as a test -/
def tB (t : TE) : TT := fun σ H Q => t σ H fun x H1 => ∃ c, x = .bl c ∧ Q c H1
theorem pt_cmp {op : CmpOp} {t : TE} (h : PC X op a b t) (h1 : behindInMarks op b = false := by first | exact nobehind _ (by decide) (by decide) | rfl) : PT X (.Compare a [op] [b] pos) (tB t) := by
  intro pins s σ H Q I hw
  refine wpAny_isTrue_Compare1 (thn (h pins s σ H _ I hw) fun v s1 h1 => thn h1 fun u s2 h2 => thn h2 fun c s3 ⟨x, H1, I1, r1, q1⟩ => ?_) h1
  obtain ⟨d, rfl, q⟩ := q1
  cases r1
  exact wpAny_truthy_bool ⟨H1, I1, q⟩
variable {tA tB' : TT} {rest : List Expr}
def tAnd (t u : TT) : TT := fun σ H Q => t σ H fun c H1 => if c = true then u σ H1 Q else Q false H1
def tOr (t u : TT) : TT := fun σ H Q => t σ H fun c H1 => if c = true then Q true H1 else u σ H1 Q
theorem pw_and1 (ha : PT X a tA) : PW X (.BoolOp .And [a] pos) tA := by
  intro wh pins s σ H Q I h
  refine isTrue_and (thn (ha pins s σ H Q I h) fun c s1 e => ?_)
  cases c with
  | true => exact isTrue_and_nil e
  | false => exact e
theorem pw_or1 (ha : PT X a tA) : PW X (.BoolOp .Or [a] pos) tA := by
  intro wh pins s σ H Q I h
  refine isTrue_or (thn (ha pins s σ H Q I h) fun c s1 e => ?_)
  cases c with
  | false => exact isTrue_or_nil e
  | true => exact e
theorem pw_and (ha : PT X a tA) (hb : PW X (.BoolOp .And (b :: rest) pos) tB') : PW X (.BoolOp .And (a :: b :: rest) pos) (tAnd tA tB') := by
  intro wh pins s σ H Q I h
  refine isTrue_and (thn (ha pins s σ H _ I h) fun c s1 ⟨H1, I1, q1⟩ => ?_)
  cases c with
  | true => exact hb wh pins s1 σ H1 Q I1 q1
  | false => exact ⟨H1, I1, q1⟩
theorem pw_or (ha : PT X a tA) (hb : PW X (.BoolOp .Or (b :: rest) pos) tB') : PW X (.BoolOp .Or (a :: b :: rest) pos) (tOr tA tB') := by
  intro wh pins s σ H Q I h
  refine isTrue_or (thn (ha pins s σ H _ I h) fun c s1 ⟨H1, I1, q1⟩ => ?_)
  cases c with
  | true => exact ⟨H1, I1, q1⟩
  | false => exact hb wh pins s1 σ H1 Q I1 q1
/-- a if t else b -/
def tIf (t : TT) (ta tb : TE) : TE := fun σ H Q => t σ H fun c H1 => if c = true then ta σ H1 Q else tb σ H1 Q
theorem pe_ifExp {c : Expr} (hc : PT X c tA) (ha : PE X a ta) (hb : PE X b tb) : PE X (.IfExp c a b pos) (tIf tA ta tb) := by
  intro pins s σ H Q I h
  refine wpAny_IfExp (thn (hc pins s σ H _ I h) fun d s1 ⟨H1, I1, q1⟩ => ?_)
  cases d with
  | true => exact ha pins s1 σ H1 Q I1 q1
  | false => exact hb pins s1 σ H1 Q I1 q1
end
end L2

namespace L2
open PySem PySem.Spec PyProof.Rows

def SqL (K : PySem.W.Frag) (H : Hp) (a : Addr) (xs : List V) : Prop :=
  Rd H a (.lst xs) ∨
    ∃ (o : Obj) (its : Array Value) (n : Nat), K.lookup a = some o ∧ o.cls = .type "list" ∧ o.dict = none ∧ o.data = .seq its n ∧ its.size ≤ sizeLine ∧ Vals xs its.toList
def SqT (K : PySem.W.Frag) (H : Hp) (a : Addr) (xs : List V) : Prop :=
  Rd H a (.tup xs) ∨
    ∃ (o : Obj) (its : Array Value) (n : Nat), K.lookup a = some o ∧ o.cls = .type "tuple" ∧ o.data = .seq its n ∧ its.size ≤ sizeLine ∧ Vals xs its.toList
def absV : Value → Option V
  | .none => some .non
  | .bool b => some (.bl b)
  | .int i _ => some (.int i)
  | .str x _ => some (.str x)
  | .bytes b _ => some (.byt b)
  | .float b _ => some (.flt b)
  | .ref a => some (.ref a)
  | .type n => some (.ty n)
  | _ => none
theorem RelV.abs {x : V} {u : Value} (r : RelV x u) : absV u = some x := by
  cases x with
  | non => cases r; rfl
  | bl _ => cases r; rfl
  | int _ => obtain ⟨t, rfl⟩ := r; rfl
  | str _ => obtain ⟨t, rfl⟩ := r; rfl
  | byt _ => obtain ⟨t, rfl⟩ := r; rfl
  | flt _ => obtain ⟨t, rfl⟩ := r; rfl
  | ref _ => cases r; rfl
  | ty _ => cases r; rfl
theorem RelV.inj {x y : V} {u : Value} (r : RelV x u) (q : RelV y u) : x = y := Option.some.inj (r.abs.symm.trans q.abs)
theorem Vals.inj : ∀ {xs ys : List V} {us : List Value}, Vals xs us → Vals ys us → xs = ys
  | _, _, _, .nil, .nil => rfl
  | _, _, _, .cons r t, .cons r' t' => by rw [r.inj r', Vals.inj t t']
section
variable {X : Cx} {pins : List (Addr × Obj)} {σ : St} {H : Hp} {s : Shared} {a : Addr} {xs ys : List V}
theorem SqL.of {K : PySem.W.Frag} (h : H a = some (.lst xs)) : SqL K H a xs := .inl (.inl h)
theorem SqT.of {K : PySem.W.Frag} (h : H a = some (.tup xs)) : SqT K H a xs := .inl (.inl h)
theorem Inv.list (I : Inv X pins σ H s) (h : SqL X.K H a xs) : ∃ its : List Value, Vals xs its ∧ PlainL s.heap a its.toArray ∧ xs.length ≤ sizeLine := by
  rcases h with h | ⟨o, its, n, hk, hc, hd, hs, hz, r⟩
  · obtain ⟨z, its, n, r, e⟩ := h.ok I.hok
    exact ⟨its, r, ⟨_, n, e, rfl, rfl, rfl⟩, z⟩
  · refine ⟨its.toList, r, ⟨o, n, I.kIn a o hk, hc, hd, by simpa using hs⟩, ?_⟩
    have e := r.length
    simp only [Array.length_toList] at e
    omega
theorem Inv.tuple (I : Inv X pins σ H s) (h : SqT X.K H a xs) : ∃ its : List Value, Vals xs its ∧ IsTup s.heap a its.toArray ∧ xs.length ≤ sizeLine := by
  rcases h with h | ⟨o, its, n, hk, hc, hs, hz, r⟩
  · obtain ⟨z, its, r, p⟩ := h.ok I.hok
    exact ⟨its, r, p, z⟩
  · refine ⟨its.toList, r, ⟨o, I.kIn a o hk, hc, n, by simpa using hs⟩, ?_⟩
    have e := r.length
    simp only [Array.length_toList] at e
    omega
theorem Inv.list_inj (I : Inv X pins σ H s) (h : SqL X.K H a xs) (h' : SqL X.K H a ys) : xs = ys := by
  obtain ⟨its, r, ⟨o, n, e, _, _, d⟩, _⟩ := I.list h
  obtain ⟨its', r', ⟨o', n', e', _, _, d'⟩, _⟩ := I.list h'
  rw [e] at e'; cases e'
  rw [d] at d'
  injection d' with d1 _
  have : its = its' := by simpa using congrArg Array.toList d1
  subst this
  exact r.inj r'
end

abbrev Cx.wish (X : Cx) (E : Value → Shared → Prop) : Cx := { X with xe := E }
/-- no exception leaves -/
abbrev Cx.nox (X : Cx) : Cx := X.wish fun _ _ => False
theorem Cx.Ok.wish {X : Cx} (ok : X.Ok) (E : Value → Shared → Prop) : (X.wish E).Ok :=
  ⟨ok.mod, ok.kind, ok.glob, ok.blt, ok.above, ok.inj, ok.has, ok.cab, ok.hd, ok.frames, ok.stk, ok.exf, ok.bs, ok.bsz, ok.noex, ok.exfs, ok.funs, ok.frf⟩
theorem Cx.Ok.unwish {X : Cx} {E : Value → Shared → Prop} (ok : (X.wish E).Ok) : X.Ok :=
  ⟨ok.mod, ok.kind, ok.glob, ok.blt, ok.above, ok.inj, ok.has, ok.cab, ok.hd, ok.frames, ok.stk, ok.exf, ok.bs, ok.bsz, ok.noex, ok.exfs, ok.funs, ok.frf⟩
section
variable {X : Cx} {pins : List (Addr × Obj)} {σ : St} {H : Hp} {s : Shared} {E : Value → Shared → Prop}
theorem Inv.wish (I : Inv X pins σ H s) (E : Value → Shared → Prop) : Inv (X.wish E) pins σ H s := ⟨I.ok.wish E, I.os, I.bare, I.base, I.loc, I.cell, I.free, I.freeC, I.pin, I.hok, I.len⟩
theorem Inv.unwish (I : Inv (X.wish E) pins σ H s) : Inv X pins σ H s := ⟨I.ok.unwish, I.os, I.bare, I.base, I.loc, I.cell, I.free, I.freeC, I.pin, I.hok, I.len⟩
theorem SP.unwish {D : Ends} {f : Flow} {s' : Shared} (h : SP (X.wish E) pins D f s') : SP X pins D f s' := by
  cases f with
  | next => obtain ⟨σ', H', I, q⟩ := h; exact ⟨σ', H', I.unwish, q⟩
  | brk => obtain ⟨σ', H', I, q⟩ := h; exact ⟨σ', H', I.unwish, q⟩
  | cont => obtain ⟨σ', H', I, q⟩ := h; exact ⟨σ', H', I.unwish, q⟩
  | ret u => obtain ⟨v, σ', H', I, r, q⟩ := h; exact ⟨v, σ', H', I.unwish, r, q⟩
theorem PSs.nox {st : List Stmt} {t : TS} (h : PSs X.nox st t) : PSs X st t := fun pins s σ H D I hw =>
  wpAny_mono (h pins s σ H D (I.wish _) hw) (fun _ _ q => q.unwish) fun _ _ z => False.elim z
end

section
variable {X : Cx} {st : Stmt} {rest : List Stmt} {t u : TS} {e : Expr} {te : TE} {pos : Pos}
def tNext : TS := fun D σ H => D.nx σ H
def tSeq (t u : TS) : TS := fun D σ H => t { D with nx := u D } σ H
theorem pss_nil : PSs X [] tNext := fun _ _ σ H _ I h => wpAny_execs_nil ⟨σ, H, I, h⟩
theorem pss_cons (h1 : PS X st t) (h2 : PSs X rest u) : PSs X (st :: rest) (tSeq t u) := by
  intro pins s σ H D I h
  refine wpAny_execs_cons (thn (h1 pins s σ H { D with nx := u D } I h) fun f s1 q => ?_)
  cases f with
  | next =>
    obtain ⟨σ', H', I', q⟩ := q
    exact h2 pins s1 σ' H' D I' q
  | ret v => exact q
  | brk => exact q
  | cont => exact q
theorem pss_one (h1 : PS X st t) : PSs X [st] t := by
  intro pins s σ H D I h
  refine wpAny_execs_cons (thn (h1 pins s σ H D I h) fun f s1 q => ?_)
  cases f with
  | next => exact wpAny_execs_nil q
  | ret v => exact q
  | brk => exact q
  | cont => exact q
/-- in a def's body nothing is shown -/
theorem Inv.quiet {pins : List (Addr × Obj)} {σ : St} {H : Hp} {s : Shared} (I : Inv X pins σ H s) : interactive X.env = false := by simp [interactive, I.ok.kind]
/-- an expression whose value is dropped -/
def tDrop (te : TE) : TS := fun D σ H => te σ H fun _ H1 => D.nx σ H1
theorem ps_expr (he : PE X e te) (hs : swapsWith e none pos.line X.env = pure false := by rfl) : PS X (.Expr e pos) (tDrop te) := by
  intro pins s σ H D I h
  exact wpAny_Expr_any (thn (he pins s σ H _ I h) fun v s1 ⟨x, H1, I1, r1, q1⟩ => ⟨σ, H1, I1, q1⟩) I.quiet hs
def tRet (te : TE) : TS := fun D σ H => te σ H D.rt
theorem ps_ret (he : PE X e te) : PS X (.Return (some e) pos) (tRet te) := by
  intro pins s σ H D I h
  exact wpAny_Return_some (thn (he pins s σ H _ I h) fun v s1 ⟨x, H1, I1, r1, q1⟩ => ⟨x, σ, H1, I1, r1, q1⟩)
def tIfS (c : TT) (t u : TS) : TS := fun D σ H => c σ H fun b H1 => if b = true then t D σ H1 else u D σ H1
theorem ps_if {c : Expr} {a b : List Stmt} {tc : TT} (hc : PT X c tc) (ha : PSs X a t) (hb : PSs X b u) : PS X (.If c a b pos) (tIfS tc t u) := by
  intro pins s σ H D I h
  refine wpAny_If (thn (hc pins s σ H _ I h) fun d s1 ⟨H1, I1, q1⟩ => ?_)
  cases d with
  | true => exact ha pins s1 σ H1 D I1 q1
  | false => exact hb pins s1 σ H1 D I1 q1
end

abbrev TG := V → St → Hp → (St → Hp → Prop) → Prop
abbrev TGs := List V → St → Hp → (St → Hp → Prop) → Prop
def PG (X : Cx) (target : Expr) (t : TG) : Prop :=
  ∀ (pins : List (Addr × Obj)) (s : Shared) (σ : St) (H : Hp) (v : V) (u : Value) (Q : St → Hp → Prop), Inv X pins σ H s → RelV v u → t v σ H Q →
    wpAny (model X.prog X.w) X.A (assign target X.env u) (fun _ s' => ∃ σ' H', Inv X pins σ' H' s' ∧ Q σ' H') X.xe s
/-- several targets, one after another -/
def PGs (X : Cx) (ts : List Expr) (t : TGs) : Prop :=
  ∀ (pins : List (Addr × Obj)) (s : Shared) (σ : St) (H : Hp) (vs : List V) (us : List Value) (Q : St → Hp → Prop), Inv X pins σ H s → Vals vs us → t vs σ H Q →
    wpAny (model X.prog X.w) X.A (assignInOrder ((assignEach ts X.env).map (·.2)) us) (fun _ s' => ∃ σ' H', Inv X pins σ' H' s' ∧ Q σ' H') X.xe s
/-- o[i] = v, by values -/
abbrev TSet := V → V → V → Hp → (Hp → Prop) → Prop
def PSet (X : Cx) (t : TSet) : Prop :=
  ∀ (pins : List (Addr × Obj)) (s : Shared) (σ : St) (H : Hp) (o i v : V) (ov iv u : Value) (Q : Hp → Prop), Inv X pins σ H s → RelV o ov → RelV i iv → RelV v u → t o i v H Q →
    wpAny (model X.prog X.w) X.A (setItem ov iv u) (fun _ s' => ∃ H', Inv X pins σ H' s' ∧ Q H') X.xe s
section
variable {X : Cx} {pos : Pos}
def gName (i : Nat) : TG := fun v σ H Q => Q (σ.set i (some v)) H
theorem pg_name {i : Nat} {x : Str} (hN : X.N.Nodup) (hi : X.N[i]? = some x) (hx : Loc X.env.scope x) (hf : X.fn x = true ∨ X.env.scope.names.lookup x = some .local := by first | exact .inl rfl | exact .inr rfl | assumption) : PG X (.Name x pos) (gName i) := by
  intro pins s σ H v u Q I r h
  exact wpAny_assign_Name (store_ok I hN hi hx r (fun s' I' => ⟨_, H, I', h⟩) hf)
def gNil : TGs := fun vs σ H Q => vs = [] ∧ Q σ H
def gCons (t : TG) (u : TGs) : TGs := fun vs σ H Q => ∃ v r, vs = v :: r ∧ t v σ H fun σ' H' => u r σ' H' Q
theorem pgs_nil : PGs X [] gNil := by
  intro pins s σ H vs us Q I r h
  obtain ⟨e, h⟩ := h
  subst e
  cases r
  exact assignInOrder_nil ⟨σ, H, I, h⟩
theorem pgs_cons {e : Expr} {es : List Expr} {t : TG} {u : TGs} (h1 : PG X e t) (h2 : PGs X es u)
    (hs : (assignEach (e :: es) X.env).map (·.2) = assign e X.env :: (assignEach es X.env).map (·.2) := by rfl) : PGs X (e :: es) (gCons t u) := by
  intro pins s σ H vs us Q I r h
  obtain ⟨v, vr, e1, h⟩ := h
  subst e1
  cases r with
  | cons r rr =>
    rw [hs]
    refine assignInOrder_cons (thn (h1 pins s σ H _ _ _ I r h) fun _ s1 ⟨σ1, H1, I1, q1⟩ => ?_)
    exact h2 pins s1 σ1 H1 _ _ Q I1 rr q1
/-- (a, b, ..) = a tuple of that length -/
def gTup (K : PySem.W.Frag) (n : Nat) (t : TGs) : TG := fun v σ H Q => ∃ a xs, v = .ref a ∧ SqT K H a xs ∧ xs.length = n ∧ t xs σ H Q
theorem pg_tup {es : List Expr} {k : Nat} {t : TGs} {n : Nat} (hc : X.calm = true) (h : PGs X es t)
    (hn : (assignEach es X.env).length = n := by rfl) (hst : (assignEach es X.env).findIdx? (·.1) = none := by rfl) : PG X (.Tuple es k pos) (gTup X.K n t) := by
  intro pins s σ H v u Q I r hw
  obtain ⟨a, xs, e1, hq, hl, hw⟩ := hw
  subst e1
  cases r
  obtain ⟨its, rv, ht, hz⟩ := I.tuple hq
  refine assign_Tuple_tuple (I.ok.hd hc) ht (by simp [hn, ← hl, rv.length]) hst fun h' hx => ?_
  have I1 : Inv X pins σ H { s with heap := h' } := I.kept (t' := s.toks) fun b o e => hx b o (Nat.ne_of_lt (Heap.lt_size e)) e
  exact h pins _ σ H xs _ Q I1 (by simpa using rv) hw
/-- o[i] = .. -/
def gSub (to ti : TE) (t : TSet) : TG := fun v σ H Q => to σ H fun o H1 => ti σ H1 fun i H2 => t o i v H2 fun H3 => Q σ H3
theorem pg_sub {o i : Expr} {to ti : TE} {t : TSet} (ho : PE X o to) (hi : PE X i ti) (hs : PSet X t)
    (ha : ∀ v, assign (.Subscript o i pos) X.env v = (do
      let ov ← holding [v] (eval o X.env)
      let iv ← holding [v, ov] (eval i X.env)
      standAt pos
      holding [v, ov, iv] (setItem ov iv v)
      release [v, ov, iv] []) := by intro _; rfl) : PG X (.Subscript o i pos) (gSub to ti t) := by
  intro pins s σ H v u Q I r h
  rw [ha]
  refine wpAny_bind (wpAny_holding (thn (ho pins s σ H _ I h) fun ov s1 ⟨x, H1, I1, r1, q1⟩ => ?_))
  refine wpAny_bind (wpAny_holding (thn (hi pins s1 σ H1 _ I1 q1) fun iv s2 ⟨y, H2, I2, r2, q2⟩ => ?_))
  refine wpAny_bind (wpAny_standAt (wpAny_bind (wpAny_holding (thn (hs pins s2 σ H2 x y v ov iv u _ I2 r1 r2 r q2) fun _ s3 ⟨H3, I3, q3⟩ => ?_))))
  exact wpAny_release ⟨σ, H3, I3, q3⟩
/-- target = value -/
def tAsg (te : TE) (g : TG) : TS := fun D σ H => te σ H fun x H1 => g x σ H1 D.nx
theorem ps_asg {tg e : Expr} {te : TE} {g : TG} (he : PE X e te) (hg : PG X tg g) (hs : swapsWithSole [tg] e pos.line X.env = pure false := by rfl) (hw : swappedStores [tg] e X.env = pure none := by rfl)
    (h1 : (assignEach [tg] X.env).map (·.2) = [assign tg X.env] := by rfl) : PS X (.Assign [tg] e pos) (tAsg te g) := by
  intro pins s σ H D I h
  refine wpAny_Assign_stores (thn (he pins s σ H _ I h) fun v s1 ⟨x, H1, I1, r1, q1⟩ => ?_) hs hw
  rw [h1]
  exact thn (hg pins s1 σ H1 x v _ I1 r1 q1) fun _ s2 q => q
/-- name = value -/
theorem ps_set {i : Nat} {x : Str} {e : Expr} {te : TE} {pos' : Pos} (hN : X.N.Nodup) (hi : X.N[i]? = some x) (hx : Loc X.env.scope x) (he : PE X e te) (hs : swapsWith e (some (.Name x pos')) pos.line X.env = pure false := by rfl) (hf : X.fn x = true ∨ X.env.scope.names.lookup x = some .local := by first | exact .inl rfl | exact .inr rfl | assumption) :
    PS X (.Assign [.Name x pos'] e pos) (tAsg te (gName i)) := by
  intro pins s σ H D I h
  refine wpAny_Assign_Name (thn (he pins s σ H _ I h) fun v s1 ⟨y, H1, I1, r1, q1⟩ => ?_) hs
  exact store_ok I1 hN hi hx r1 (fun s2 I2 => ⟨_, H1, I2, q1⟩) hf
end

section
variable {X : Cx} {pos : Pos}
/-- the invariant W with its measure -/
def tWhile (c : TT) (tb : TS) : TS := fun D σ H => ∃ W : Nat → St → Hp → Prop, (∃ m, W m σ H) ∧ ∀ m σ H, W m σ H →
  c σ H fun b H1 => if b = true then ∃ N : St → Hp → Prop, (∀ σ' H', N σ' H' → ∃ m', m' < m ∧ W m' σ' H') ∧ tb { D with nx := N, ct := N, bk := D.nx } σ H1 else D.nx σ H1
theorem ps_while {c : Expr} {body : List Stmt} {tc : TT} {tb : TS} (hp : PassesOwn (model X.prog X.w) X.A X.env X.xe) (hc : PT X c tc) (hb : PSs X body tb) : PS X (.While c body [] pos) (tWhile tc tb) := by
  intro pins s σ H D I h
  obtain ⟨W, ⟨m0, w0⟩, turn⟩ := h
  refine wpAny_While (codeAny_whileLoop (fun n s' => ∃ σ' H', Inv X pins σ' H' s' ∧ W n σ' H') ?_ m0 ⟨σ, H, I, w0⟩)
  rintro n s1 ⟨σ1, H1, I1, w1⟩
  refine wpAny_passesOwn hp (thn (hc pins s1 σ1 H1 _ I1 (turn n σ1 H1 w1)) fun b s2 ⟨H2, I2, q2⟩ => ?_)
  cases b with
  | true =>
    obtain ⟨N, hN, q2⟩ := q2
    rw [if_pos rfl]
    refine wpAny_passesOwn hp (thn (hb pins s2 σ1 H2 _ I2 q2) fun f s3 q3 => ?_)
    cases f with
    | next =>
      obtain ⟨σ3, H3, I3, n3⟩ := q3
      obtain ⟨m', hm, w3⟩ := hN σ3 H3 n3
      exact ⟨m', hm, σ3, H3, I3, w3⟩
    | cont =>
      obtain ⟨σ3, H3, I3, n3⟩ := q3
      obtain ⟨m', hm, w3⟩ := hN σ3 H3 n3
      exact ⟨m', hm, σ3, H3, I3, w3⟩
    | brk => exact q3
    | ret v => exact q3
  | false =>
    rw [if_neg Bool.false_ne_true]
    exact wpAny_execs_nil ⟨σ1, H2, I2, q2⟩
end

/-- at turn i: it yields x (the heap may grow), or it stops -/
structure It where
  go : Nat → Hp → Prop
  yld : Nat → Hp → V → Hp → Prop
  stop : Nat → Hp → Prop
/-- the iterator's own objects may turn: they are not the frame's, not pinned, younger than the entry (or a comprehension's own) -/
def FpOk (X : Cx) (pins : List (Addr × Obj)) (H : Hp) (b : Addr) : Prop :=
  H b = none ∧ b ≠ X.env.locals ∧ b ∉ X.fs ∧ (b ∈ X.ex ∨ X.s_0.heap.objs.size ≤ b) ∧ (∀ x c, X.env.cells.lookup x = some c → c ≠ b) ∧ ∀ p ∈ X.pn ++ pins, p.1 ≠ b
theorem Inv.fpOk {X : Cx} {pins : List (Addr × Obj)} {σ : St} {H H' : Hp} {s : Shared} {b : Addr} (I : Inv X pins σ H s) (hb : s.heap.objs.size ≤ b) (hn : H' b = none) : FpOk X pins H' b := by
  refine ⟨hn, Nat.ne_of_gt (Nat.lt_of_lt_of_le I.lt hb), I.nofs hb, .inr (Nat.le_trans I.sz hb), fun x c e z => ?_, fun p hp z => ?_⟩
  · obtain ⟨v, q⟩ := I.cell x c e
    exact absurd (Nat.lt_of_lt_of_le q.lt (by rw [z]; exact hb)) (Nat.lt_irrefl _)
  · exact absurd (Nat.lt_of_lt_of_le (Heap.lt_size (I.pin p hp).1) (by rw [z]; exact hb)) (Nat.lt_irrefl _)
structure Turn (P : Program) (w : World) (K : PySem.W.Frag) (tg : Expr) (J : It) (fp : List Addr) (it : Addr) (tn : Nat → Heap → Prop) : Prop where
  mem : it ∈ fp
  obj : ∀ i h, tn i h → ∀ b ∈ fp, ∃ o, h.get? b = some o ∧ ∀ v, o.data ≠ .cell v
  keep : ∀ i h h', tn i h → (∀ b ∈ fp, ∀ o, h.get? b = some o → h'.get? b = some o) → tn i h'
  item : ∀ (X : Cx), X.prog = P → X.w = w → X.K = K → X.calm = true → ∀ (i : Nat) (pins : List (Addr × Obj)) (s : Shared) (σ : St) (H : Hp) (E : Value → Shared → Prop), Inv X pins σ H s → (∀ b ∈ fp, FpOk X pins H b) → tn i s.heap → J.go i H →
    wpAny (model P w) X.A (pyNext (.ref it)) (fun r s1 => ∃ u, r = some u ∧
      wpAny (model P w) X.A (letOwnedTupleGo tg (.ref it) u) (fun _ s2 => ∃ x H', Inv X pins σ H' s2 ∧ RelV x u ∧ J.yld i H x H' ∧ tn (i + 1) s2.heap ∧ ∀ b ∈ fp, H' b = none) E s1) E s
  done : ∀ (X : Cx), X.prog = P → X.w = w → X.K = K → X.calm = true → ∀ (i : Nat) (pins : List (Addr × Obj)) (s : Shared) (σ : St) (H : Hp) (E : Value → Shared → Prop), Inv X pins σ H s → (∀ b ∈ fp, FpOk X pins H b) → tn i s.heap → J.stop i H →
    wpAny (model P w) X.A (pyNext (.ref it)) (fun r s1 => r = none ∧ Inv X pins σ H s1) E s
  self : ∀ (A : Around) (i : Nat) (s : Shared) (Q : Value → Shared → Prop) (E : Value → Shared → Prop), tn i s.heap → Q (.ref it) s → wpAny (model P w) A (pyIter (.ref it)) Q E s
abbrev TI := St → Hp → (It → Hp → Prop) → Prop
/-- an iterator has come -/
def PIE (X : Cx) (pins : List (Addr × Obj)) (σ : St) (tg : Expr) (R : It → Hp → Prop) (itv : Value) (s2 : Shared) : Prop :=
  ∃ (it : Addr) (fp : List Addr) (tn : Nat → Heap → Prop) (J : It) (H' : Hp), itv = .ref it ∧ Inv X pins σ H' s2 ∧ Turn X.prog X.w X.K tg J fp it tn ∧ tn 0 s2.heap ∧ (∀ b ∈ fp, FpOk X pins H' b) ∧ R J H'
def PI (X : Cx) (tg iter : Expr) (wi : TI) : Prop :=
  ∀ (pins : List (Addr × Obj)) (s : Shared) (σ : St) (H : Hp) (R : It → Hp → Prop), Inv X pins σ H s → wi σ H R →
    wpAny (model X.prog X.w) X.A (eval iter X.env) (fun v s1 => wpAny (model X.prog X.w) X.A (pyIter v) (PIE X pins σ tg R) X.xe s1) X.xe s

/-- the step ahead of the store is nothing for an iterator that keeps no tuple -/
theorem go_of {M : Model} {A : Around} {E : Value → Shared → Prop} {s : Shared} {tg : Expr} {it : Addr} {u : Value} {o : Obj} {n : String} {vs : Array Value} {Q : Unit → Shared → Prop} (ho : s.heap.get? it = some o) (hc : o.cls = .type n) (hd : o.data = .fields vs)
    (hn : ["enumerate", "zip", "dict_itemiterator", "dict_reverseitemiterator", "odict_iterator", "itertools.zip_longest", "itertools.pairwise"].contains n = false) (hQ : Q () s) : wpAny M A (letOwnedTupleGo tg (.ref it) u) Q E s := by
  unfold letOwnedTupleGo
  cases tg <;> first
    | exact wpAny_pure hQ
    | (cases u <;> first
        | exact wpAny_pure hQ
        | (refine wpAny_bind (wpAny_load ho ?_)
           rw [hc, hd]
           show wpAny M A (if (["enumerate", "zip", "dict_itemiterator", "dict_reverseitemiterator", "odict_iterator", "itertools.zip_longest", "itertools.pairwise"].contains n && vs[0]? == some (rawInt _)) = true then _ else _) Q E s
           rw [if_neg (by intro h; rw [hn, Bool.false_and] at h; cases h)]
           exact wpAny_pure hQ))

/-- the list at a, as it stands at each turn (a loop may append to it) -/
def Itl (K : PySem.W.Frag) (a : Addr) : It :=
  ⟨fun i H => ∃ xs x, SqL K H a xs ∧ xs[i]? = some x, fun i H x H' => H' = H ∧ ∀ xs, SqL K H a xs → xs[i]? = some x, fun i H => ∃ xs, SqL K H a xs ∧ xs.length ≤ i⟩
/-- lo, lo + 1, .. (n of them) -/
def Itr (lo : Int) (n : Nat) : It := ⟨fun i _ => i < n, fun i H x H' => H' = H ∧ x = .int (lo + i), fun i _ => n ≤ i⟩
theorem turn_list {P : Program} {w : World} {K : PySem.W.Frag} {tg : Expr} (a it : Addr) : Turn P w K tg (Itl K a) [it] it (fun i h => h.IsListIter it a i) where
  mem := by simp
  obj := fun i h st b hb => by
    have e : b = it := by simpa using hb
    subst e
    obtain ⟨o, e, c, d⟩ := st
    exact ⟨o, e, fun v z => by rw [d] at z; cases z⟩
  keep := fun i h h' st k => st.at fun o e => k it (by simp) o e
  item := by
    intro X hP hw hK hc i pins s σ H E I hf st hg
    subst hP hw hK
    obtain ⟨xs, x, hq, hx⟩ := hg
    obtain ⟨its, rv, p, hz⟩ := I.list hq
    obtain ⟨u, hu, ru⟩ := rv.get hx
    obtain ⟨f0, f1, f2, f3, f4, f5⟩ := hf it (by simp)
    refine wpAny_pyNext_list_item st p.isList (x := u) (by simpa using hu) fun h' st' sb => ?_
    have I1 : Inv X pins σ H { s with heap := h' } := I.turned (t' := s.toks) (fun b o hb e => (sb.2 b hb).trans e) f0 f1 f3 f4 f5
    obtain ⟨o, e, c, d⟩ := id st'
    exact ⟨u, rfl, go_of (s := { s with heap := h' }) e c d (by decide) ⟨x, H, I1, ru, ⟨rfl, fun ys hy => by rw [I.list_inj hy hq]; exact hx⟩, st', fun b hb => (hf b hb).1⟩⟩
  done := by
    intro X hP hw hK hc i pins s σ H E I hf st hg
    subst hP hw hK
    obtain ⟨xs, hq, hx⟩ := hg
    obtain ⟨its, rv, p, hz⟩ := I.list hq
    obtain ⟨f0, f1, f2, f3, f4, f5⟩ := hf it (by simp)
    have hl := rv.length
    exact wpAny_pyNext_list_end (I.ok.hd hc) st p.isList (by simp; omega) fun h' eb => ⟨rfl, I.turned (t' := s.toks) (fun b o hb e => eb b o hb e) f0 f1 f3 f4 f5⟩
  self := fun _ _ _ _ _ st h => wpAny_pyIter_listiter st h
theorem turn_range {P : Program} {w : World} {K : PySem.W.Frag} {tg : Expr} (it : Addr) (lo : Int) (n : Nat) : Turn P w K tg (Itr lo n) [it] it (fun i h => IsRangeIter h it (lo + (i : Nat) * 1) ((n : Int) - (i : Nat)) 1) where
  mem := by simp
  obj := fun i h st b hb => by
    have e : b = it := by simpa using hb
    subst e
    exact ⟨_, st, fun v z => by
      have z' : Data.fields _ = Data.cell v := z
      cases z'⟩
  keep := fun i h h' st k => k it (by simp) _ st
  item := by
    intro X hP hw hK hc i pins s σ H E I hf st hg
    subst hP hw hK
    obtain ⟨f0, f1, f2, f3, f4, f5⟩ := hf it (by simp)
    have W := Walks.range (prog := X.prog) (w := X.w) (I.ok.hd hc) it lo 1 n
    refine W.item i s _ _ hg st fun v h' tk hv st' kk => ?_
    obtain ⟨t, rfl⟩ := hv
    have I1 : Inv X pins σ H { s with heap := h', toks := tk } := I.turned (fun b o hb e => kk b o (by simpa using hb) e) f0 f1 f3 f4 f5
    refine ⟨_, rfl, go_of (s := { s with heap := h', toks := tk }) (n := "range_iterator") st' rfl rfl (by decide) ⟨.int (lo + i), H, I1, ⟨t, ?_⟩, ⟨rfl, rfl⟩, st', fun b hb => (hf b hb).1⟩⟩
    rw [Int.mul_one]
  done := by
    intro X hP hw hK hc i pins s σ H E I hf st hg
    subst hP hw hK
    obtain ⟨f0, f1, f2, f3, f4, f5⟩ := hf it (by simp)
    exact wpAny_pyNext_range_end (I.ok.hd hc) st (by have : n ≤ i := hg; omega) fun h' eb => ⟨rfl, I.turned (t' := s.toks) (fun b o hb e => eb b o hb e) f0 f1 f3 f4 f5⟩
  self := fun _ _ _ _ _ st h => wpAny_pyIter_rangeiter st h
end L2

namespace L2
open PySem PySem.Spec PyProof.Rows
section
variable {X : Cx} {tg : Expr}
def iList (K : PySem.W.Frag) (tl : TE) : TI := fun σ H R => tl σ H fun x H1 => ∃ a, x = .ref a ∧ (∃ xs, SqL K H1 a xs) ∧ R (Itl K a) H1
theorem pi_list {l : Expr} {tl : TE} (hl : PE X l tl) : PI X tg l (iList X.K tl) := by
  intro pins s σ H R I h
  refine thn (hl pins s σ H _ I h) fun v s1 ⟨x, H1, I1, r1, q1⟩ => ?_
  obtain ⟨a, e, ⟨xs, hq⟩, q⟩ := q1
  subst e
  cases r1
  obtain ⟨its, rv, p, hz⟩ := I1.list hq
  refine wpAny_pyIter_list p.isList ?_
  refine ⟨s1.heap.objs.size, [s1.heap.objs.size], _, _, H1, rfl, I1.kept (t' := s1.toks) fun b o e => Heap.get?_push_of_some _ e, turn_list a _, ⟨_, Heap.get?_push_size _ rfl, rfl, rfl⟩, fun b hb => ?_, q⟩
  have e : b = s1.heap.objs.size := by simpa using hb
  subst e
  exact I1.fpOk (Nat.le_refl _) (I1.hok.fresh (Nat.le_refl _))
/-- a range object just made, walked -/
theorem range_it {pins : List (Addr × Obj)} {σ : St} {H : Hp} {s : Shared} {R : It → Hp → Prop} {E : Value → Shared → Prop} {lo hi : Int} {t u v : Tok} {tk : Nat} (I : Inv X pins σ H s) (h1 : -(2 ^ 62) ≤ lo) (h2 : lo < 2 ^ 62) (h3 : -(2 ^ 62) ≤ hi) (h4 : hi < 2 ^ 62)
    (q : R (Itr lo (hi - lo).toNat) H) : wpAny (model X.prog X.w) X.A (pyIter (.ref s.heap.objs.size)) (PIE X pins σ tg R) E { s with heap := s.heap.push { cls := .type "range", data := .fields #[.int lo t, .int hi u, .int 1 v] }, toks := tk } := by
  refine wpAny_pyIter_range (IsRange.new ..) (small_one h1 h2 h3 h4) ?_
  have I1 : Inv X pins σ H { s with heap := s.heap.push { cls := .type "range", data := .fields #[.int lo t, .int hi u, .int 1 v] }, toks := tk } := I.kept fun b o e => Heap.get?_push_of_some _ e
  refine ⟨(s.heap.push { cls := .type "range", data := .fields #[.int lo t, .int hi u, .int 1 v] }).objs.size, [(s.heap.push { cls := .type "range", data := .fields #[.int lo t, .int hi u, .int 1 v] }).objs.size], _, _, H, rfl,
    I1.kept (t' := tk) fun b o e => Heap.get?_push_of_some _ e, turn_range _ lo (hi - lo).toNat, ?_, fun b hb => ?_, q⟩
  · have e1 : lo + ((0 : Nat) : Int) * 1 = lo := by simp
    have e2 : (((hi - lo).toNat : Nat) : Int) - ((0 : Nat) : Int) = Builtin.Range.rangeSize lo hi 1 := by rw [rangeSize_one]; split <;> omega
    show IsRangeIter _ _ (lo + ((0 : Nat) : Int) * 1) ((((hi - lo).toNat : Nat) : Int) - ((0 : Nat) : Int)) 1
    rw [e1, e2]
    exact Heap.get?_push_size _ rfl
  · have e : b = (s.heap.push { cls := .type "range", data := .fields #[.int lo t, .int hi u, .int 1 v] }).objs.size := by simpa using hb
    subst e
    exact I1.fpOk (Nat.le_refl _) (I1.hok.fresh (Nat.le_refl _))
def iRng2 (ta : TA) : TI := fun σ H R => ta σ H fun vs H1 => ∃ i j : Int, vs = [.int i, .int j] ∧ (-(2 ^ 62) ≤ i ∧ i < 2 ^ 62 ∧ -(2 ^ 62) ≤ j ∧ j < 2 ^ 62) ∧ R (Itr i (j - i).toNat) H1
theorem pi_range2 {a b : Expr} {ta : TA} {p pos : Pos} (hg : Gl X "range") (hm : X.mg "range" = none) (ha : PA X [a, b] ta) (hs : starEach [a, b] X.env = [(false, eval a X.env), (false, eval b X.env)] := by rfl) (hs2 : starEach [b] X.env = [(false, eval b X.env)] := by rfl) :
    PI X tg (.Call (.Name "range" p) [a, b] [] pos) (iRng2 ta) := by
  intro pins s σ H R I h
  refine Call_ (ld_blt I hg hm boot_range (PyProof.Rows.callWith_type1 (thn (ha pos pins s σ H _ I h) fun us s1 ⟨vs, H1, I1, r1, q1⟩ => ?_) (by rw [hs, hs2]) (by rw [hs2]; rfl)))
  obtain ⟨i, j, e, ⟨q1, q2, q3, q4⟩, q⟩ := q1
  subst e
  cases r1 with
  | cons r rr =>
    cases rr with
    | cons r' rr =>
      cases rr
      obtain ⟨t, rfl⟩ := r
      obtain ⟨t', rfl⟩ := r'
      exact call_range_2 (range_it I1 q1 q2 q3 q4 q)

/-- W: the invariant by the turn and a measure; N: what the body is to reach -/
def tFor (wi : TI) (g : TG) (tb : TS) : TS := fun D σ H => wi σ H fun J H1 => ∃ W : Nat → Nat → St → Hp → Prop, (∃ m, W 0 m σ H1) ∧ ∀ i m σ H, W i m σ H →
  (J.stop i H ∧ D.nx σ H) ∨ (J.go i H ∧ ∃ N : St → Hp → Prop, (∀ σ' H', N σ' H' → ∃ m', m' < m ∧ W (i + 1) m' σ' H') ∧ ∀ x H', J.yld i H x H' → g x σ H' fun σ2 H2 => tb { D with nx := N, ct := N, bk := D.nx } σ2 H2)
/-- the records at fp as they stand -/
def pinsAt (fp : List Addr) (h : Heap) : List (Addr × Obj) := fp.filterMap fun b => (h.get? b).map fun o => (b, o)
theorem mem_pinsAt {fp : List Addr} {h : Heap} {b : Addr} {o : Obj} (hb : b ∈ fp) (e : h.get? b = some o) : (b, o) ∈ pinsAt fp h := List.mem_filterMap.mpr ⟨b, hb, by rw [e]; rfl⟩
theorem of_pinsAt {fp : List Addr} {h : Heap} {p : Addr × Obj} (hp : p ∈ pinsAt fp h) : p.1 ∈ fp ∧ h.get? p.1 = some p.2 := by
  obtain ⟨b, hb, e⟩ := List.mem_filterMap.mp hp
  cases q : h.get? b with
  | none => rw [q] at e; cases e
  | some o =>
    rw [q] at e
    have e' : (b, o) = p := Option.some.inj e
    subst e'
    exact ⟨hb, q⟩
theorem Inv.pinned {pins : List (Addr × Obj)} {σ : St} {H : Hp} {s : Shared} {fp : List Addr} (I : Inv X pins σ H s) (hf : ∀ b ∈ fp, FpOk X pins H b) (ho : ∀ b ∈ fp, ∃ o, s.heap.get? b = some o ∧ ∀ v, o.data ≠ .cell v) : Inv X (pins ++ pinsAt fp s.heap) σ H s :=
  I.pins_of fun p hp => (List.mem_append.mp hp).elim (fun z => I.pin p (List.mem_append_right _ z)) fun z => by
    obtain ⟨hb, e⟩ := of_pinsAt z
    obtain ⟨f0, f1, f2, _⟩ := hf p.1 hb
    obtain ⟨o, e', d⟩ := ho p.1 hb
    rw [e] at e'; cases e'
    exact ⟨e, f0, f1, f2, d⟩
theorem Inv.unpinned {pins pl : List (Addr × Obj)} {σ : St} {H : Hp} {s : Shared} (I : Inv X (pins ++ pl) σ H s) : Inv X pins σ H s := I.pins_of fun p hp => I.pin p (List.mem_append_right _ (List.mem_append_left _ hp))
theorem ps_for {iter : Expr} {body : List Stmt} {wi : TI} {g : TG} {tb : TS} {pos : Pos} (hp : PassesOwn (model X.prog X.w) X.A X.env X.xe) (hc : X.calm = true) (hi : PI X tg iter wi) (hg : PG X tg g) (hb : PSs X body tb)
    (hs : ∀ x, foldedSetIterable iter X.env x = pure x := by intro _; rfl) : PS X (.For tg iter body [] pos) (tFor wi g tb) := by
  intro pins s σ H D I h
  refine wpAny_For (thn (hi pins s σ H _ I h) fun v s1 h1 => thn h1 fun itv s2 h2 => ?_) hs
  obtain ⟨it, fp, tn, J, H2, e, I2, T, st2, f2, W, ⟨m0, w0⟩, turn⟩ := h2
  subst e
  -- what stays true of the iterator's objects through the loop
  have stat : ∀ {H' : Hp}, (∀ b ∈ fp, H' b = none) → ∀ b ∈ fp, FpOk X pins H' b := fun hn b hb => ⟨hn b hb, (f2 b hb).2⟩
  refine codeAny_forLoop_any (fun n s' => ∃ i σ' H', Inv X pins σ' H' s' ∧ tn i s'.heap ∧ (∀ b ∈ fp, H' b = none) ∧ W i n σ' H') ?_ m0 ⟨0, σ, H2, I2, st2, fun b hb => (f2 b hb).1, w0⟩
  rintro n s3 ⟨i, σ3, H3, I3, st3, fr3, w3⟩
  rcases turn i n σ3 H3 w3 with ⟨stop, qn⟩ | ⟨go, N, hN, step⟩
  · refine wpAny_passesOwn hp (thn (T.done X rfl rfl rfl hc i pins s3 σ3 H3 X.xe I3 (stat fr3) st3 stop) fun r s4 ⟨hr, I4⟩ => ?_)
    subst hr
    exact wpAny_execs_nil ⟨σ3, H3, I4, qn⟩
  · refine wpAny_passesOwn hp (thn (T.item X rfl rfl rfl hc i pins s3 σ3 H3 X.xe I3 (stat fr3) st3 go) fun r s4 ⟨u, hr, h4⟩ => ?_)
    subst hr
    refine wpAny_passesOwn hp (thn h4 fun _ s5 ⟨x, H5, I5, r5, y5, st5, fr5⟩ => ?_)
    have I5' := I5.pinned (stat fr5) (T.obj _ _ st5)
    refine wpAny_passesOwn hp (thn (hg _ s5 σ3 H5 x u _ I5' r5 (step x H5 y5)) fun _ s6 ⟨σ6, H6, I6, q6⟩ => ?_)
    refine wpAny_passesOwn hp (thn (hb _ s6 σ6 H6 _ I6 q6) fun f s7 q7 => ?_)
    have again : ∀ {σ7 : St} {H7 : Hp}, Inv X (pins ++ pinsAt fp s5.heap) σ7 H7 s7 → N σ7 H7 → ∃ m, m < n ∧ ∃ i σ' H', Inv X pins σ' H' s7 ∧ tn i s7.heap ∧ (∀ b ∈ fp, H' b = none) ∧ W i m σ' H' := fun {σ7 H7} I7 n7 => by
      obtain ⟨m', hm, w7⟩ := hN σ7 H7 n7
      refine ⟨m', hm, i + 1, σ7, H7, I7.unpinned, T.keep _ _ _ st5 fun b hb o e => (I7.pin (b, o) (List.mem_append_right _ (List.mem_append_right _ (mem_pinsAt hb e)))).1, fun b hb => ?_, w7⟩
      obtain ⟨o, e, d⟩ := T.obj _ _ st5 b hb
      exact (I7.pin (b, o) (List.mem_append_right _ (List.mem_append_right _ (mem_pinsAt hb e)))).2.1
    cases f with
    | next => obtain ⟨σ7, H7, I7, n7⟩ := q7; exact again I7 n7
    | cont => obtain ⟨σ7, H7, I7, n7⟩ := q7; exact again I7 n7
    | brk => obtain ⟨σ7, H7, I7, q7⟩ := q7; exact ⟨σ7, H7, I7.unpinned, q7⟩
    | ret v => obtain ⟨x7, σ7, H7, I7, r7, q7⟩ := q7; exact ⟨x7, σ7, H7, I7.unpinned, r7, q7⟩
end

/-- over a list that the body leaves as it is -/
theorem for_list {K : PySem.W.Frag} {a : Addr} {xs : List V} {g : TG} {tb : TS} {D : Ends} {σ : St} {H : Hp} (Pv : Nat → St → Hp → Prop) (h0 : Pv 0 σ H) (hl : ∀ i σ H, i ≤ xs.length → Pv i σ H → SqL K H a xs)
    (hs : ∀ i x σ H, xs[i]? = some x → Pv i σ H → g x σ H fun σ2 H2 => tb { D with nx := Pv (i + 1), ct := Pv (i + 1), bk := D.nx } σ2 H2) (hd : ∀ σ H, Pv xs.length σ H → D.nx σ H) :
    ∃ W : Nat → Nat → St → Hp → Prop, (∃ m, W 0 m σ H) ∧ ∀ i m σ H, W i m σ H →
      ((Itl K a).stop i H ∧ D.nx σ H) ∨ ((Itl K a).go i H ∧ ∃ N : St → Hp → Prop, (∀ σ' H', N σ' H' → ∃ m', m' < m ∧ W (i + 1) m' σ' H') ∧ ∀ x H', (Itl K a).yld i H x H' → g x σ H' fun σ2 H2 => tb { D with nx := N, ct := N, bk := D.nx } σ2 H2) := by
  refine ⟨fun i m σ H => m = xs.length - i ∧ i ≤ xs.length ∧ Pv i σ H, ⟨xs.length, by simp, Nat.zero_le _, h0⟩, ?_⟩
  rintro i m σ H ⟨rfl, hi, p⟩
  have q := hl i σ H hi p
  by_cases hlt : i < xs.length
  · refine .inr ⟨⟨xs, xs[i], q, by simp [hlt]⟩, Pv (i + 1), fun σ' H' p' => ⟨xs.length - (i + 1), by omega, rfl, hlt, p'⟩, fun x H' y => ?_⟩
    obtain ⟨e, y⟩ := y
    subst e
    exact hs i x σ _ (y xs q) p
  · have e : i = xs.length := by omega
    subst e
    exact .inl ⟨⟨xs, q, Nat.le_refl _⟩, hd σ H p⟩
theorem for_range {lo : Int} {n : Nat} {g : TG} {tb : TS} {D : Ends} {σ : St} {H : Hp} (Pv : Nat → St → Hp → Prop) (h0 : Pv 0 σ H)
    (hs : ∀ i σ H, i < n → Pv i σ H → g (.int (lo + i)) σ H fun σ2 H2 => tb { D with nx := Pv (i + 1), ct := Pv (i + 1), bk := D.nx } σ2 H2) (hd : ∀ σ H, Pv n σ H → D.nx σ H) :
    ∃ W : Nat → Nat → St → Hp → Prop, (∃ m, W 0 m σ H) ∧ ∀ i m σ H, W i m σ H →
      ((Itr lo n).stop i H ∧ D.nx σ H) ∨ ((Itr lo n).go i H ∧ ∃ N : St → Hp → Prop, (∀ σ' H', N σ' H' → ∃ m', m' < m ∧ W (i + 1) m' σ' H') ∧ ∀ x H', (Itr lo n).yld i H x H' → g x σ H' fun σ2 H2 => tb { D with nx := N, ct := N, bk := D.nx } σ2 H2) := by
  refine ⟨fun i m σ H => m = n - i ∧ i ≤ n ∧ Pv i σ H, ⟨n, by simp, Nat.zero_le _, h0⟩, ?_⟩
  rintro i m σ H ⟨rfl, hi, p⟩
  by_cases hlt : i < n
  · refine .inr ⟨hlt, Pv (i + 1), fun σ' H' p' => ⟨n - (i + 1), by omega, rfl, hlt, p'⟩, fun x H' y => ?_⟩
    obtain ⟨e, y⟩ := y
    subst e y
    exact hs i σ _ hlt p
  · have e : i = n := by omega
    subst e
    exact .inl ⟨Nat.le_refl _, hd σ H p⟩
end L2

namespace L2
open PySem PySem.Spec PyProof.Rows

abbrev R2 := V → V → Hp → VK → Prop
/-- a two-place operation on values: f is binaryOp op, inplaceOp op or compareOp op -/
def OpR (X : Cx) (f : Value → Value → Sem Value) (r : R2) : Prop :=
  ∀ (pins : List (Addr × Obj)) (s : Shared) (σ : St) (H : Hp) (x y : V) (v u : Value) (Q : VK), Inv X pins σ H s → RelV x v → RelV y u → r x y H Q →
    wpAny (model X.prog X.w) X.A (f v u) (EP X pins σ Q) X.xe s
/-- a one-place operation -/
def UnR (X : Cx) (f : Value → Sem Value) (r : V → Hp → VK → Prop) : Prop :=
  ∀ (pins : List (Addr × Obj)) (s : Shared) (σ : St) (H : Hp) (x : V) (v : Value) (Q : VK), Inv X pins σ H s → RelV x v → r x H Q →
    wpAny (model X.prog X.w) X.A (f v) (EP X pins σ Q) X.xe s
/-- a call of a value that is known (a builtin, a type) with values -/
def CallR (X : Cx) (f : Value) (r : List V → Hp → VK → Prop) : Prop :=
  ∀ (pins : List (Addr × Obj)) (s : Shared) (σ : St) (H : Hp) (xs : List V) (us : List Value) (Q : VK), Inv X pins σ H s → Vals xs us → r xs H Q →
    wpAny (model X.prog X.w) X.A (call f us) (EP X pins σ Q) X.xe s
def tOp (r : R2) (ta tb : TE) : TE := fun σ H Q => ta σ H fun x H1 => tb σ H1 fun y H2 => r x y H2 Q
def tUn (r : V → Hp → VK → Prop) (ta : TE) : TE := fun σ H Q => ta σ H fun x H1 => r x H1 Q
/-- ints in, under C, and a value out -/
def rI (C : Int → Int → Prop) (g : Int → Int → V) : R2 := fun x y H Q => ∃ i j, x = .int i ∧ y = .int j ∧ C i j ∧ Q (g i j) H
def rI0 (g : Int → Int → V) : R2 := fun x y H Q => ∃ i j, x = .int i ∧ y = .int j ∧ Q (g i j) H
def rU (g : Int → V) : V → Hp → VK → Prop := fun x H Q => ∃ i, x = .int i ∧ Q (g i) H

section
variable {X : Cx} {a b c : Expr} {ta tb tc : TE} {pos : Pos}

theorem binT (ha : PE X a ta) (hb : PE X b tb) {pins : List (Addr × Obj)} {s : Shared} {σ : St} {H : Hp} {R : V → V → Hp → Prop} (I : Inv X pins σ H s)
    (h : ta σ H fun x H1 => tb σ H1 fun y H2 => R x y H2) {Q : Value → Shared → Prop} {f : Value → Value → Sem Value}
    (hf : ∀ v u s2 x y H2, Inv X pins σ H2 s2 → RelV x v → RelV y u → R x y H2 → wpAny (model X.prog X.w) X.A (f v u) Q X.xe s2) :
    wpAny (model X.prog X.w) X.A (eval a X.env) (fun v s₁ => wpAny (model X.prog X.w) X.A (eval b X.env) (fun u s₂ => wpAny (model X.prog X.w) X.A (f v u) Q X.xe s₂) X.xe s₁) X.xe s := by
  refine thn (ha pins s σ H _ I h) fun v s1 ⟨x, H1, I1, r1, q1⟩ => ?_
  refine thn (hb pins s1 σ H1 _ I1 q1) fun u s2 ⟨y, H2, I2, r2, q2⟩ => ?_
  exact hf v u s2 x y H2 I2 r1 r2 q2

theorem pe_op {op : Operator} {r : R2} (ho : OpR X (binaryOp op) r) (ha : PE X a ta) (hb : PE X b tb) : PE X (.BinOp a op b pos) (tOp r ta tb) := by
  intro pins s σ H Q I h
  exact wpAny_BinOp (binT ha hb I h fun v u s2 x y H2 I2 rx ry q => ho pins s2 σ H2 x y v u Q I2 rx ry q)
theorem pe_un {op : UnaryOp} {r : V → Hp → VK → Prop} (ho : UnR X (unaryOp op) r) (ha : PE X a ta) : PE X (.UnaryOp op a pos) (tUn r ta) := by
  intro pins s σ H Q I h
  exact UnaryOp_ (thn (ha pins s σ H _ I h) fun v s1 ⟨x, H1, I1, r1, q1⟩ => ho pins s1 σ H1 x v Q I1 r1 q1)
theorem opI {f : Value → Value → Sem Value} {C : Int → Int → Prop} {g : Int → Int → Int}
    (rule : ∀ (i j : Int) (t u : Tok) (s : Shared) (Q : Value → Shared → Prop) (E : Value → Shared → Prop), C i j → Q (.int (g i j) s.toks) { s with toks := s.toks + 1 } → wpAny (model X.prog X.w) X.A (f (.int i t) (.int j u)) Q E s) :
    OpR X f (rI C fun i j => .int (g i j)) := by
  intro pins s σ H x y v u Q I rx ry h
  obtain ⟨i, j, rfl, rfl, hc, q⟩ := h
  obtain ⟨t, rfl⟩ := rx
  obtain ⟨t', rfl⟩ := ry
  exact rule i j t t' s _ _ hc ⟨.int (g i j), H, I.tok _, ⟨_, rfl⟩, q⟩
theorem opI0 {f : Value → Value → Sem Value} {g : Int → Int → Int}
    (rule : ∀ (i j : Int) (t u : Tok) (s : Shared) (Q : Value → Shared → Prop) (E : Value → Shared → Prop), Q (.int (g i j) s.toks) { s with toks := s.toks + 1 } → wpAny (model X.prog X.w) X.A (f (.int i t) (.int j u)) Q E s) :
    OpR X f (rI0 fun i j => .int (g i j)) := by
  intro pins s σ H x y v u Q I rx ry h
  obtain ⟨i, j, rfl, rfl, q⟩ := h
  obtain ⟨t, rfl⟩ := rx
  obtain ⟨t', rfl⟩ := ry
  exact rule i j t t' s _ _ ⟨.int (g i j), H, I.tok _, ⟨_, rfl⟩, q⟩
theorem opB0 {f : Value → Value → Sem Value} {g : Int → Int → Bool}
    (rule : ∀ (i j : Int) (t u : Tok) (s : Shared) (Q : Value → Shared → Prop) (E : Value → Shared → Prop), Q (.bool (g i j)) s → wpAny (model X.prog X.w) X.A (f (.int i t) (.int j u)) Q E s) :
    OpR X f (rI0 fun i j => .bl (g i j)) := by
  intro pins s σ H x y v u Q I rx ry h
  obtain ⟨i, j, rfl, rfl, q⟩ := h
  obtain ⟨t, rfl⟩ := rx
  obtain ⟨t', rfl⟩ := ry
  exact rule i j t t' s _ _ ⟨.bl (g i j), H, I, rfl, q⟩

def CPow (i j : Int) : Prop := 0 ≤ j ∧ j ≤ 1000000 ∧ i.natAbs < 2 ^ 64
theorem op_add : OpR X (binaryOp .Add) (rI0 fun i j => .int (i + j)) := opI0 fun _ _ _ _ _ _ _ q => add_int q
theorem op_sub : OpR X (binaryOp .Sub) (rI0 fun i j => .int (i - j)) := opI0 fun _ _ _ _ _ _ _ q => sub_int q
theorem op_shl : OpR X (binaryOp .LShift) (rI CPow fun i j => .int (i * 2 ^ j.toNat)) := opI fun _ _ _ _ _ _ _ hc q => lshift_int_small hc.1 hc.2.1 hc.2.2 q
theorem op_or : OpR X (binaryOp .BitOr) (rI0 fun i j => .int (Builtin.bitOr i j)) := opI0 fun _ _ _ _ _ _ _ q => or_int q
theorem unI {f : Value → Sem Value} {g : Int → Int}
    (rule : ∀ (i : Int) (t : Tok) (s : Shared) (Q : Value → Shared → Prop) (E : Value → Shared → Prop), Q (.int (g i) s.toks) { s with toks := s.toks + 1 } → wpAny (model X.prog X.w) X.A (f (.int i t)) Q E s) :
    UnR X f (rU fun i => .int (g i)) := by
  intro pins s σ H x v Q I rx h
  obtain ⟨i, rfl, q⟩ := h
  obtain ⟨t, rfl⟩ := rx
  exact rule i t s _ _ ⟨.int (g i), H, I.tok _, ⟨_, rfl⟩, q⟩
theorem un_neg : UnR X (unaryOp .USub) (rU fun i => .int (-i)) := unI fun _ _ _ _ _ q => neg_int q
end

/-- the scalars that == tells apart as data does -/
def scal : V → V → Bool
  | .non, .non => true | .non, .int _ => true | .int _, .non => true | .non, .bl _ => true | .bl _, .non => true | .non, .str _ => true | .str _, .non => true
  | .int _, .int _ => true | .bl _, .bl _ => true | .str _, .str _ => true | .byt _, .byt _ => true
  | .int _, .str _ => true | .str _, .int _ => true | .bl _, .str _ => true | .str _, .bl _ => true
  | _, _ => false
def rEq : R2 := fun x y H Q => scal x y = true ∧ Q (.bl (decide (x = y))) H
theorem dec_int {i j : Int} : decide (V.int i = V.int j) = (i == j) := by
  rw [Bool.eq_iff_iff]
  simp
theorem dec_bl {i j : Bool} : decide (V.bl i = V.bl j) = (i == j) := by
  rw [Bool.eq_iff_iff]
  simp
theorem dec_str {i j : Str} : decide (V.str i = V.str j) = (i == j) := by
  rw [Bool.eq_iff_iff]
  simp
theorem dec_byt {i j : Array UInt8} : decide (V.byt i = V.byt j) = (i.toList == j.toList) := by
  rw [Bool.eq_iff_iff]
  cases i
  cases j
  simp

section
variable {X : Cx} {a b c : Expr} {ta tb tc : TE} {pos : Pos}
theorem fin_bl {pins : List (Addr × Obj)} {σ : St} {H : Hp} {s : Shared} {Q : VK} {k k' : Bool} (I : Inv X pins σ H s) (q : Q (.bl k) H) (e : k = k') : EP X pins σ Q (.bool k') s := by
  subst e
  exact ⟨.bl k, H, I, rfl, q⟩
theorem op_eq : OpR X (compareOp .Eq) rEq := by
  intro pins s σ H x y v u Q I rx ry h
  obtain ⟨hs, q⟩ := h
  cases x with
  | non =>
    cases rx
    cases y with
    | non => cases ry; exact PySem.EqNone.eq_none_none (fin_bl I q (by simp))
    | bl j => cases ry; exact PySem.EqNone.eq_none_bool (fin_bl I q (by simp))
    | int j => obtain ⟨t', rfl⟩ := ry; exact PySem.EqNone.eq_none_int (fin_bl I q (by simp))
    | str j => obtain ⟨t', rfl⟩ := ry; exact PySem.EqNone.eq_none_str (fin_bl I q (by simp))
    | _ => exact absurd (show false = true from hs) Bool.false_ne_true
  | bl i =>
    cases rx
    cases y with
    | non => cases ry; exact PySem.EqNone.eq_bool_none (fin_bl I q (by simp))
    | bl j => cases ry; exact eq_bool (fin_bl I q dec_bl)
    | str j => obtain ⟨t', rfl⟩ := ry; exact PySem.EqMixed.eq_bool_str (fin_bl I q (by simp))
    | _ => exact absurd (show false = true from hs) Bool.false_ne_true
  | int i =>
    obtain ⟨t, rfl⟩ := rx
    cases y with
    | non => cases ry; exact PySem.EqNone.eq_int_none (fin_bl I q (by simp))
    | int j => obtain ⟨t', rfl⟩ := ry; exact eq_int (fin_bl I q dec_int)
    | str j => obtain ⟨t', rfl⟩ := ry; exact PySem.EqMixed.eq_int_str (fin_bl I q (by simp))
    | _ => exact absurd (show false = true from hs) Bool.false_ne_true
  | str i =>
    obtain ⟨t, rfl⟩ := rx
    cases y with
    | non => cases ry; exact PySem.EqNone.eq_str_none (fin_bl I q (by simp))
    | bl j => cases ry; exact PySem.EqMixed.eq_str_bool (fin_bl I q (by simp))
    | int j => obtain ⟨t', rfl⟩ := ry; exact PySem.EqMixed.eq_str_int (fin_bl I q (by simp))
    | str j => obtain ⟨t', rfl⟩ := ry; exact eq_str (fin_bl I q dec_str)
    | _ => exact absurd (show false = true from hs) Bool.false_ne_true
  | byt i =>
    obtain ⟨t, rfl⟩ := rx
    cases y with
    | byt j => obtain ⟨t', rfl⟩ := ry; exact PySem.W.eq_bytes (fin_bl I q dec_byt)
    | _ => exact absurd (show false = true from hs) Bool.false_ne_true
  | _ => cases y <;> exact absurd (show false = true from hs) Bool.false_ne_true
theorem op_lt : OpR X (compareOp .Lt) (rI0 fun i j => .bl (decide (i < j))) := opB0 fun _ _ _ _ _ _ _ q => lt_int q
theorem op_gt : OpR X (compareOp .Gt) (rI0 fun i j => .bl (decide (j < i))) := opB0 fun _ _ _ _ _ _ _ q => gt_int q
theorem op_ge : OpR X (compareOp .GtE) (rI0 fun i j => .bl (decide (j ≤ i))) := opB0 fun _ _ _ _ _ _ _ q => ge_int q
/-- is None, is not None: the right side a value none -/
theorem op_isN : OpR X (compareOp .Is) (fun x y H Q => y = .non ∧ Q (.bl (decide (x = .non))) H) := by
  intro pins s σ H x y v u Q I rx ry h
  obtain ⟨rfl, q⟩ := h
  cases ry
  refine is_none_gen (fin_bl I q ?_)
  cases x <;> first
    | (cases rx; rfl)
    | (obtain ⟨t, rfl⟩ := rx; rfl)
theorem op_notN : OpR X (compareOp .IsNot) (fun x y H Q => y = .non ∧ Q (.bl (!decide (x = .non))) H) := by
  intro pins s σ H x y v u Q I rx ry h
  obtain ⟨rfl, q⟩ := h
  cases ry
  refine isnot_none_gen (fin_bl I q ?_)
  cases x <;> first
    | (cases rx; rfl)
    | (obtain ⟨t, rfl⟩ := rx; rfl)

theorem nomark (b : Expr) {op : CmpOp} (h : op ≠ .In := by decide) (h2 : op ≠ .NotIn := by decide) : behindInMarks op b = false := by
  have e1 : (op == CmpOp.In) = false := by cases op <;> first | rfl | exact absurd rfl h
  have e2 : (op == CmpOp.NotIn) = false := by cases op <;> first | rfl | exact absurd rfl h2
  cases b <;> simp [behindInMarks, e1, e2]
/-- a reading of a value as a test -/
def tTest (t : TE) : TT := fun σ H Q => t σ H fun x H' => ∃ k, x = .bl k ∧ Q k H'
theorem pt_cmpR {op : CmpOp} {r : R2} (ho : OpR X (compareOp op) r) (ha : PE X a ta) (hb : PE X b tb) (hm : behindInMarks op b = false) : PT X (.Compare a [op] [b] pos) (tTest (tOp r ta tb)) := by
  intro pins s σ H Q I h
  refine wpAny_isTrue_Compare1 (thn (ha pins s σ H _ I h) fun v s1 ⟨x, H1, I1, r1, q1⟩ => thn (hb pins s1 σ H1 _ I1 q1) fun u s2 ⟨y, H2, I2, r2, q2⟩ =>
    thn (ho pins s2 σ H2 x y v u _ I2 r1 r2 q2) fun c s3 ⟨z, H3, I3, r3, k, e, q3⟩ => ?_) hm
  subst e
  cases r3
  exact wpAny_truthy_bool ⟨H3, I3, q3⟩
theorem line63 : (sizeLine : Nat) < 2 ^ 63 := by rw [sizeLine_eq]; decide
theorem vals1 {x : V} {us : List Value} (r : Vals [x] us) : ∃ u, us = [u] ∧ RelV x u := by
  cases r with
  | cons r1 r2 => cases r2; exact ⟨_, rfl, r1⟩
theorem vals2 {x y : V} {us : List Value} (r : Vals [x, y] us) : ∃ u w', us = [u, w'] ∧ RelV x u ∧ RelV y w' := by
  cases r with
  | cons r1 r2 =>
    cases r2 with
    | cons r3 r4 => cases r4; exact ⟨_, _, rfl, r1, r3⟩
theorem call_max2 (hc : X.calm = true) : CallR X (.builtin "max") (fun xs H Q => ∃ i j, xs = [.int i, .int j] ∧ Q (.int (if j > i then j else i)) H) := by
  intro pins s σ H xs us Q I r h
  obtain ⟨i, j, rfl, q⟩ := h
  obtain ⟨u, w', rfl, ⟨t, rfl⟩, ⟨t', rfl⟩⟩ := vals2 r
  refine max_two_ints (I.ok.hd hc) fun h' tk k => ⟨_, H, I.kept k, ?_, q⟩
  by_cases hj : j > i
  · rw [if_pos hj, if_pos hj]; exact ⟨_, rfl⟩
  · rw [if_neg hj, if_neg hj]; exact ⟨_, rfl⟩
theorem call_min2 (hc : X.calm = true) : CallR X (.builtin "min") (fun xs H Q => ∃ i j, xs = [.int i, .int j] ∧ Q (.int (if j < i then j else i)) H) := by
  intro pins s σ H xs us Q I r h
  obtain ⟨i, j, rfl, q⟩ := h
  obtain ⟨u, w', rfl, ⟨t, rfl⟩, ⟨t', rfl⟩⟩ := vals2 r
  refine min_two_ints (I.ok.hd hc) fun h' tk k => ⟨_, H, I.kept k, ?_, q⟩
  by_cases hj : j < i
  · rw [if_pos hj, if_pos hj]; exact ⟨_, rfl⟩
  · rw [if_neg hj, if_neg hj]; exact ⟨_, rfl⟩
end
end L2

namespace L2
open PySem PySem.Spec PyProof.Rows

structure ObjM (h : Heap) (x dx C : Addr) (mA : Str → Option Value) : Prop where
  obj : h.get? x = some (PySem.W.instObj C dx)
  ns : h.Ns1 dx mA
  ne : dx ≠ x

theorem lookIn_ns {h : Heap} {dx : Addr} {mA : Str → Option Value} (n : h.Ns1 dx mA) : ∃ od, h.get? dx = some od ∧ ∀ name, PySem.W.lookIn name od = some (mA name) := by
  obtain ⟨o, es, ep, ho, hd, hk, _, hm⟩ := n
  refine ⟨o, ho, fun name => ?_⟩
  have e := hm name
  unfold nsFind findBy at e
  rw [← Array.find?_toList] at e
  unfold PySem.W.lookIn
  rw [hd]
  dsimp only
  split
  · rename_i y q
    rw [q] at e
    exact congrArg some e
  · rename_i q
    rw [q] at e
    have a : es.toList.any (·.refKey) = false := by
      rw [List.any_eq_false]
      intro y hy
      obtain ⟨z, t, hkey⟩ := hk y (Array.mem_toList_iff.mp hy)
      simp [DictEntry.refKey, hkey]
    have a' : ¬ es.toList.any (·.refKey) = true := by rw [a]; exact Bool.false_ne_true
    rw [if_neg a']
    exact congrArg some e

theorem ObjM.look {h : Heap} {x dx C : Addr} {mA : Str → Option Value} (I : ObjM h x dx C mA) : ∃ od, PySem.W.InstAt h x (PySem.W.instObj C dx) C (some od) ∧ ∀ name, PySem.W.lookIn name od = some (mA name) :=
  let ⟨od, ho, hl⟩ := lookIn_ns I.ns
  ⟨od, ⟨I.obj, rfl, rfl, ho⟩, hl⟩

section
variable {prog : Program} {w : World} {A : Around} {E : Value → Shared → Prop} {s : Shared} {K : PySem.W.Frag} {x dx C f : Addr} {mA : Str → Option Value} {name : Str} {v : Value}

theorem get_map {expr : Bool} {Q : Value → Shared → Prop} (X : K.In s.heap) (I : ObjM s.heap x dx C mA) (hg : PySem.W.plainGet K C name = true) (hh : PySem.W.hasDictIn K C = true)
    (ha : PySem.W.findIn K (.ref C) name = some none) (hv : mA name = some v) (hv' : PySem.W.handedIn v = true) (h : Q v { s with toks := s.toks + 1 }) :
    wpAny (model prog w) A (getAttr (.ref x) name expr) Q E s := by
  obtain ⟨od, J, hl⟩ := I.look
  exact PySem.W.get_value X J (PySem.W.plainGet_of hg).1 (PySem.W.findObj_own hh ha rfl (by rw [hl, hv])) hv' h

theorem get_meth {pl : Sem Bool} {Q : Value × List Value → Shared → Prop} (X : K.In s.heap) (I : ObjM s.heap x dx C mA) (hg : PySem.W.plainGet K C name = true)
    (hf : PySem.W.findIn K (.ref C) name = some (some (.ref f))) (ht : PySem.W.isFn K (.ref f) = true) (hv : mA name = none) (h : Q (.ref f, [.ref x]) s) :
    wpAny (model prog w) A (getMethod (.ref x) name pl) Q E s := by
  obtain ⟨od, J, hl⟩ := I.look
  exact PySem.W.method_fn X J (PySem.W.plainGet_of hg).1 (PySem.W.plainGet_of hg).2 hf (beq_iff_eq.mp ht) (by show (PySem.W.lookIn name od).map (·.isSome) = some false; rw [hl, hv]; rfl) h

theorem set_map {ns : List Str} {Q : Unit → Shared → Prop} (X : K.In s.heap) (I : ObjM s.heap x dx C mA)
    (hs : PySem.W.findIn K (.ref C) "__setattr__" = some (some (.builtin "object.__setattr__"))) (hp : PySem.W.plainOver K C = true) (ht : PySem.W.takerIn K C name = some none) (hh : PySem.W.hasDictIn K C = true)
    (hw : PySem.Within mA ns) (hsz : ns.length ≤ sizeLine)
    (h : ∀ h', ObjM h' x dx C (fun y => if y = name then some v else mA y) → Heap.SameBut dx s.heap h' → Q () { s with heap := h', toks := s.toks + 2 }) :
    wpAny (model prog w) A (setAttr (.ref x) name v) Q E s := by
  obtain ⟨od, J, hl⟩ := I.look
  refine PySem.W.set_plain X J hs (PySem.W.osa_open (s := { s with toks := s.toks + 1 }) (r := none) X J hp ht fun b => ?_)
  obtain ⟨cd, hc, hd'⟩ := PySem.W.any_some hh
  have hx : s.heap.get? x = some ⟨.ref C, some dx, .plain, #[]⟩ := I.obj
  refine wpAny_bind (wpAny_pure (wpAny_bind (wpAny_bind (wpAny_loadPart hx (wpAny_bind (PySem.W.Looks.here (s := { s with toks := s.toks + 1 }) (PySem.W.looks_clsIn X hc) ?_))))))
  rw [hd']
  refine wpAny_pure (a := some dx) (wpAny_bind (wpAny_pure (wpAny_bind ?_)))
  refine wpAny_nsSet1 (s := { s with toks := s.toks + 1 }) I.ns fun h' hn2 hs2 => ?_
  obtain ⟨oD, esD, epD, hoD, hdD, hcD⟩ := hn2.count (PySem.Within.cons name v hw)
  refine wpAny_bind (wpAny_lookBehind hoD (by rw [hdD]; exact pastItsLine_dict (Nat.le_trans hcD (by rw [List.length_cons]; omega))) ?_)
  exact wpAny_pure (h _ ⟨(hs2.2 _ (Ne.symm I.ne)).trans I.obj, hn2, I.ne⟩ hs2)

/-- C(..): the dict at the heap's end, the instance behind it; then its __init__ -/
theorem make_map {R : Result → Shared → Prop} {vs : List Value} {kw : List (Str × Value)} (X : K.In s.heap) (hm : PySem.W.makesIn K C = true)
    (hi : PySem.W.findIn K (.ref C) "__init__" = some (some (.ref f))) (hf : PySem.W.typeIn K (.ref f) = some (.type "function"))
    (h : codeAny (model prog w) (A.under (.builtin "type.__call__" ⟨.ref C :: vs, kw⟩)) (.call (.ref f) ⟨.ref (s.heap.objs.size + 1) :: vs, kw⟩) (PySem.W.InitBack (s.heap.objs.size + 1) R)
      { s with heap := (s.heap.push PySem.W.emptyDict).push (PySem.W.instObj C s.heap.objs.size) }) :
    codeAny (model prog w) A (.call (.ref C) ⟨vs, kw⟩) R s := by
  obtain ⟨hh, g, d, t, os⟩ := s
  exact PySem.W.make_core (PySem.W.makes_of X hm) (PySem.W.looks_findIn X hi) (fun self => PySem.W.bind_fn X self hf) (.inl rfl) h
end

def putF (f : Str) (v : V) : List (Str × V) → List (Str × V)
  | [] => [(f, v)]
  | (g, x) :: r => if g = f then (g, v) :: r else (g, x) :: putF f v r
theorem lookup_putF (f g : Str) (v : V) : ∀ fs : List (Str × V), (putF f v fs).lookup g = if g = f then some v else fs.lookup g
  | [] => by
    show List.lookup g [(f, v)] = _
    by_cases h : g = f
    · have hb : (g == f) = true := beq_iff_eq.mpr h
      simp only [List.lookup, hb, if_pos h]
    · have hb : (g == f) = false := beq_eq_false_iff_ne.mpr h
      simp only [List.lookup, hb, if_neg h]
  | (k, x) :: r => by
    have ih := lookup_putF f g v r
    rw [show putF f v ((k, x) :: r) = (if k = f then (k, v) :: r else (k, x) :: putF f v r) from rfl]
    by_cases hk : k = f
    · rw [if_pos hk]
      by_cases h : g = k
      · have hb : (g == k) = true := beq_iff_eq.mpr h
        simp only [List.lookup, hb, if_pos (h.trans hk)]
      · have hb : (g == k) = false := beq_eq_false_iff_ne.mpr h
        simp only [List.lookup, hb, if_neg (fun e : g = f => h (e.trans hk.symm))]
    · rw [if_neg hk]
      by_cases h : g = k
      · have hb : (g == k) = true := beq_iff_eq.mpr h
        simp only [List.lookup, hb, if_neg (fun e : g = f => hk (h.symm.trans e))]
      · have hb : (g == k) = false := beq_eq_false_iff_ne.mpr h
        simp only [List.lookup, hb]
        exact ih
theorem keys_putF (f : Str) (v : V) : ∀ fs : List (Str × V), f ∈ (putF f v fs).map (·.1) ∧ ∀ g, g ∈ fs.map (·.1) → g ∈ (putF f v fs).map (·.1)
  | [] => ⟨by simp [putF], fun g h => by simp at h⟩
  | (k, x) :: r => by
    obtain ⟨i1, i2⟩ := keys_putF f v r
    rw [show putF f v ((k, x) :: r) = (if k = f then (k, v) :: r else (k, x) :: putF f v r) from rfl]
    by_cases hk : k = f
    · rw [if_pos hk]
      subst hk
      exact ⟨by simp, fun g h => by simpa using h⟩
    · rw [if_neg hk]
      refine ⟨?_, fun g h => ?_⟩
      · rw [List.map_cons]
        exact List.mem_cons_of_mem _ i1
      · rw [List.map_cons] at h ⊢
        rcases List.mem_cons.mp h with e | e
        · exact List.mem_cons.mpr (.inl e)
        · exact List.mem_cons_of_mem _ (i2 g e)
theorem length_putF (f : Str) (v : V) : ∀ fs : List (Str × V), (putF f v fs).length ≤ fs.length + 1
  | [] => by simp [putF]
  | (k, x) :: r => by
    have ih := length_putF f v r
    rw [show putF f v ((k, x) :: r) = (if k = f then (k, v) :: r else (k, x) :: putF f v r) from rfl]
    by_cases hk : k = f
    · rw [if_pos hk, List.length_cons, List.length_cons]; omega
    · rw [if_neg hk, List.length_cons, List.length_cons]; omega

theorem RelO.some_of {v : V} {o : Option Value} (r : RelO (some v) o) : ∃ u, o = some u ∧ RelV v u := by
  cases o with
  | none => exact (show False from r).elim
  | some u => exact ⟨u, rfl, r⟩
theorem RelO.none_of {o : Option Value} (r : RelO none o) : o = none := by
  cases o with
  | none => rfl
  | some u => exact (show False from r).elim
theorem handed_of {v : V} {u : Value} (r : RelV v u) : PySem.W.handedIn u = true := by
  cases v with
  | non => cases (show u = Value.none from r); rfl
  | bl b => cases (show u = Value.bool b from r); rfl
  | int i => obtain ⟨t, e⟩ := (show ∃ t, u = Value.int i t from r); cases e; rfl
  | str x => obtain ⟨t, e⟩ := (show ∃ t, u = Value.str x t from r); cases e; rfl
  | byt b => obtain ⟨t, e⟩ := (show ∃ t, u = Value.bytes b t from r); cases e; rfl
  | flt b => obtain ⟨t, e⟩ := (show ∃ t, u = Value.float b t from r); cases e; rfl
  | ref a => cases (show u = Value.ref a from r); rfl
  | ty n => cases (show u = Value.type n from r); rfl

section
variable {P : Program} {w : World} {H H' : Hp} {h h' : Heap} {a C dx : Addr} {fs fs' : List (Str × V)}
theorem ins_get (hok : HOk P w H h) (e : H a = some (.ins C dx fs)) : ∃ mA, ObjM h a dx C mA ∧ (∀ f, RelO (fs.lookup f) (mA f)) ∧ PySem.Within mA (fs.map (·.1)) ∧ fs.length ≤ 1000 ∧ H dx = some (.own a) := by
  obtain ⟨d, z, ne, ob, mA, n, r, q⟩ := (show ObjOk P w H h a (.ins C dx fs) from hok a _ e)
  exact ⟨mA, ⟨ob, n, ne⟩, r, q, z, d⟩
end

structure Cls (K : PySem.W.Frag) (C : Addr) : Prop where
  pg : PySem.W.plainGet K C Str.empty = true
  hd : PySem.W.hasDictIn K C = true
  po : PySem.W.plainOver K C = true
  sa : PySem.W.findIn K (.ref C) "__setattr__" = some (some (.builtin "object.__setattr__"))
theorem Cls.get {K : PySem.W.Frag} {C : Addr} (c : Cls K C) (f : Str) : PySem.W.plainGet K C f = true := c.pg
/-- no class of it has the name -/
def NoAttr (K : PySem.W.Frag) (C : Addr) (f : Str) : Prop := PySem.W.findIn K (.ref C) f = some none
theorem NoAttr.taker {K : PySem.W.Frag} {C : Addr} {f : Str} (n : NoAttr K C f) : PySem.W.takerIn K C f = some none := by
  unfold PySem.W.takerIn
  rw [show PySem.W.findIn K (.ref C) f = some none from n]
  rfl
/-- a constant of the class -/
structure Con (K : PySem.W.Frag) (C : Addr) (f : Str) (v : V) (u : Value) : Prop where
  at_ : PySem.W.findIn K (.ref C) f = some (some u)
  rel : RelV v u
  get : PySem.W.specialIn K u "__get__" = some none
  cp : PySem.W.copiedNames.contains f = false
/-- a method: a plain def of the class or of one above it -/
structure Meth (K : PySem.W.Frag) (C : Addr) (m : Str) (f : Addr) : Prop where
  at_ : PySem.W.findIn K (.ref C) m = some (some (.ref f))
  fn : PySem.W.isFn K (.ref f) = true
  kp : PySem.W.keepIn K (.ref f) = true

section
variable {X : Cx} {pins : List (Addr × Obj)} {σ : St} {H : Hp} {s : Shared} {a C dx : Addr} {fs : List (Str × V)} {f : Str} {v : V} {A : Around} {E : Value → Shared → Prop}

theorem getattr_ok {b : Bool} {Q : Value → Shared → Prop} (I : Inv X pins σ H s) (e : H a = some (.ins C dx fs)) (c : Cls X.K C) (n : NoAttr X.K C f) (l : fs.lookup f = some v)
    (h : ∀ u s', Inv X pins σ H s' → RelV v u → Q u s') : wpAny (model X.prog X.w) A (getAttr (.ref a) f b) Q E s := by
  obtain ⟨mA, O, r, _, _, _⟩ := ins_get I.hok e
  obtain ⟨u, hu, ru⟩ := RelO.some_of (v := v) (o := mA f) (by rw [← l]; exact r f)
  exact get_map I.kIn O (c.get f) c.hd n hu (handed_of ru) (h u _ (I.tok _) ru)

theorem getmeth_ok {m : Str} {g : Addr} {pl : Sem Bool} {Q : Value × List Value → Shared → Prop} (I : Inv X pins σ H s) (e : H a = some (.ins C dx fs)) (c : Cls X.K C) (k : Meth X.K C m g) (l : fs.lookup m = none)
    (h : Q (.ref g, [.ref a]) s) : wpAny (model X.prog X.w) A (getMethod (.ref a) m pl) Q E s := by
  obtain ⟨mA, O, r, _, _, _⟩ := ins_get I.hok e
  have hn : mA m = none := RelO.none_of (by rw [← l]; exact r m)
  exact get_meth I.kIn O (c.get m) k.at_ k.fn hn h

theorem setattr_ok {y : V} {u : Value} {Q : Unit → Shared → Prop} (I : Inv X pins σ H s) (e : H a = some (.ins C dx fs)) (c : Cls X.K C) (n : NoAttr X.K C f) (hl : fs.length < 1000) (ry : RelV y u)
    (h : ∀ s', Inv X pins σ (upd H a (.ins C dx (putF f y fs))) s' → Q () s') : wpAny (model X.prog X.w) A (setAttr (.ref a) f u) Q E s := by
  obtain ⟨mA, O, r, wi, _, ho⟩ := ins_get I.hok e
  have hz : (fs.map (·.1)).length ≤ sizeLine := by rw [List.length_map, sizeLine_eq]; omega
  refine set_map I.kIn O c.sa c.po n.taker c.hd wi hz fun h' O' sb => h _ ?_
  have hd : ∃ o, h'.get? dx = some o := let ⟨o, _, _, e', _⟩ := O'.ns; ⟨o, e'⟩
  refine I.write (x := a) (e := dx) (by rw [e]; exact True.intro) (.inr ho) (fun b q hb z => (sb.2 b hb).trans z) hd ?_
  refine ⟨by rw [upd_ne O.ne]; exact ho, ?_, O.ne, O'.obj, _, O'.ns, fun g => ?_, fun g hg => ?_⟩
  · have := length_putF f y fs; omega
  · show RelO ((putF f y fs).lookup g) (if g = f then some u else mA g)
    rw [lookup_putF]
    by_cases q : g = f
    · rw [if_pos q, if_pos q]; exact ry
    · rw [if_neg q, if_neg q]; exact r g
  · by_cases q : g = f
    · rw [q]; exact (keys_putF f y fs).1
    · refine (keys_putF f y fs).2 g (wi g fun z => hg ?_)
      show (if g = f then some u else mA g) = none
      rw [if_neg q]; exact z

/-- a new instance, tracked, without attributes -/
theorem Inv.made (I : Inv X pins σ H s) : Inv X pins σ (upd (upd H s.heap.objs.size (.own (s.heap.objs.size + 1))) (s.heap.objs.size + 1) (.ins C s.heap.objs.size []))
    { s with heap := (s.heap.push PySem.W.emptyDict).push (PySem.W.instObj C s.heap.objs.size) } := by
  have e1 : (s.heap.push PySem.W.emptyDict).get? s.heap.objs.size = some PySem.W.emptyDict := Heap.get?_push_size s.heap rfl
  have e2 : ((s.heap.push PySem.W.emptyDict).push (PySem.W.instObj C s.heap.objs.size)).get? (s.heap.objs.size + 1) = some (PySem.W.instObj C s.heap.objs.size) := by
    have := Heap.get?_push_size (s.heap.push PySem.W.emptyDict) (o := PySem.W.instObj C s.heap.objs.size) rfl
    rwa [Heap.size_push] at this
  have e3 : (s.heap.push PySem.W.emptyDict).Ns s.heap.objs.size (fun _ => none) := ⟨PySem.W.emptyDict, #[], _, e1, rfl, (fun e he => absurd he (by simp)), fun _ => rfl⟩
  have I1 := I.laid (a := s.heap.objs.size) (o := .own (s.heap.objs.size + 1)) (h' := s.heap.push PySem.W.emptyDict) (t' := s.toks) (fun b u q => Heap.get?_push_of_some _ q) (Nat.le_refl _) ⟨_, e1⟩
  refine I1.laid (a := s.heap.objs.size + 1) (o := .ins C s.heap.objs.size []) (t' := s.toks) (fun b u q => Heap.get?_push_of_some _ q) (Nat.le_of_eq (Heap.size_push _ _)) ?_
  have ne : s.heap.objs.size ≠ s.heap.objs.size + 1 := Nat.ne_of_lt (Nat.lt_succ_self _)
  refine ⟨by rw [upd_ne ne, upd_same], Nat.zero_le _, ne, e2, fun _ => none, (Heap.Ns1.of_empty e3).at fun o q => Heap.get?_push_of_some _ q, fun _ => True.intro, fun y hy => absurd rfl hy⟩

/-- e.f where nothing but the object is asked: through attributeBase (super) and the last hold -/
theorem attr_of {prog : Program} {w : World} {env : Env} {e : Expr} {f : Str} {pos : Pos} {s : Shared} {Q : Value → Shared → Prop} (hb : attributeBase e f env (eval e env) = eval e env)
    (h : wpAny (model prog w) A (eval e env) (fun o s₁ => wpAny (model prog w) A (getAttr o f true) Q E s₁) E s) : wpAny (model prog w) A (eval (.Attribute e f pos) env) Q E s :=
  Attribute_any_ h (by rw [arm_eval_Attribute, hb])
end

/-- e.f, an attribute of the instance -/
def tFld (K : PySem.W.Frag) (ta : TE) (f : Str) : TE := fun σ H Q => ta σ H fun x H1 => ∃ a C dx fs v, x = .ref a ∧ H1 a = some (.ins C dx fs) ∧ Cls K C ∧ NoAttr K C f ∧ fs.lookup f = some v ∧ Q v H1
/-- e.f = value -/
def sFld (K : PySem.W.Frag) (ta tv : TE) (f : Str) : TS := fun D σ H => tv σ H fun y H1 => ta σ H1 fun x H2 => ∃ a C dx fs, x = .ref a ∧ H2 a = some (.ins C dx fs) ∧ Cls K C ∧ NoAttr K C f ∧ fs.length < 1000 ∧
  D.nx σ (upd H2 a (.ins C dx (putF f y fs)))
section
variable {X : Cx} {o e value : Expr} {f : Str} {pos pos' tpos : Pos} {ta tv : TE}
theorem pe_fld (he : PE X e ta) (hb : attributeBase e f X.env (eval e X.env) = eval e X.env) : PE X (.Attribute e f pos) (tFld X.K ta f) := by
  intro pins s σ H Q I h
  refine attr_of hb (thn (he pins s σ H _ I h) fun u s1 ⟨x, H1, I1, rx, a, C, dx, fs, v, ex, ea, c, n, l, q⟩ => ?_)
  subst ex
  obtain rfl : u = Value.ref a := rx
  exact getattr_ok I1 ea c n l fun u' s2 I2 ru => ⟨v, H1, I2, ru, q⟩
theorem ps_fld (ha : PE X o ta) (hv : PE X value tv) (hs : swapsWith value (some (.Attribute o f pos')) pos.line X.env = pure false) : PS X (.Assign [.Attribute o f pos'] value pos) (sFld X.K ta tv f) := by
  intro pins s σ H D I h
  refine plainObj_wpAny_Assign_Attribute (thn (hv pins s σ H _ I h) fun u s1 ⟨y, H1, I1, ry, q⟩ => thn (ha pins s1 σ H1 _ I1 q) fun ov s2 ⟨x, H2, I2, rx, a, C, dx, fs, ex, ea, c, n, l, q2⟩ => ?_) hs
  subst ex
  obtain rfl : ov = Value.ref a := rx
  exact setattr_ok I2 ea c n l ry fun s3 I3 => ⟨σ, _, I3, q2⟩
end

section
variable {X : Cx} {pins : List (Addr × Obj)} {σ : St} {H : Hp} {s : Shared} {A : Around} {E : Value → Shared → Prop} {Q : Value → Shared → Prop} {c : Value} {b : Bool}
/-- the type of a value, as the fragment's deciders take it; for an instance its class -/
inductive TyOf (K : PySem.W.Frag) (H : Hp) : V → Value → Prop where
  | non : TyOf K H .non (.type "NoneType")
  | bl (x : Bool) : TyOf K H (.bl x) (.type "bool")
  | int (i : Int) : TyOf K H (.int i) (.type "int")
  | str (x : Str) : TyOf K H (.str x) (.type "str")
  | flt (x : UInt64) : TyOf K H (.flt x) (.type "float")
  | lst {a : Addr} {xs : List V} (e : H a = some (.lst xs)) : TyOf K H (.ref a) (.type "list")
  | frz {a : Addr} {o : Obj} {xs : List V} (e : H a = some (.frz o (.lst xs))) : TyOf K H (.ref a) (.type "list")
  | tup {a : Addr} {xs : List V} (e : H a = some (.tup xs)) : TyOf K H (.ref a) (.type "tuple")
  | dK {a : Addr} {kvs : List (Key × V)} (e : H a = some (.dK kvs)) : TyOf K H (.ref a) (.type "dict")
  | dT {a : Addr} {kvs : List (List Key × V)} (e : H a = some (.dT kvs)) : TyOf K H (.ref a) (.type "dict")
  | ins {a C dx : Addr} {fs : List (Str × V)} (e : H a = some (.ins C dx fs)) (cl : Cls K C) (ha : PySem.W.findIn K (.ref C) "__class__" = some (some (.builtin "object.__class__")))
      (hn : PySem.W.specialIn K (.builtin "object.__class__") "__get__" = some (some (.builtin "getset_descriptor.__get__"))) (htk : PySem.W.takesIn K (.builtin "object.__class__") = some true)
      (hm : PySem.W.mroIn K C (.type "object") = some true) : TyOf K H (.ref a) (.ref C)
end
end L2

namespace L2
open PySem PySem.Spec PyProof.Rows

structure Room (k : Nat) (A : Around) : Prop where
  hd : A.handled = none
  dp : A.depth + 3 * k + 5 < recursionLimit
  un : A.units + 16 * k + 200 < cLine
theorem Room.mono {j k : Nat} {A : Around} (r : Room k A) (h : j ≤ k) : Room j A := ⟨r.hd, by have := r.dp; omega, by have := r.un; omega⟩
theorem Room.deeper {k : Nat} {A : Around} (r : Room (k + 1) A) (env : Env) : Room k (A.deeper env) :=
  ⟨r.hd, by have := r.dp; show A.depth + 1 + 3 * k + 5 < _; omega, by have := r.un; show A.units + 3 + 16 * k + 200 < _; omega⟩
theorem make_depth {A : Around} {C : Addr} {us : List Value} {kw : List (Str × Value)} : (A.under (.builtin "type.__call__" ⟨.ref C :: us, kw⟩)).depth = A.depth + 1 := by
  first | rfl | simp [Around.under, Code.weight, Code.isCreation, Code.isGuard, Code.isCaller, Code.frames, Code.isFrame, guardIds]
theorem make_units {A : Around} {C : Addr} {us : List Value} {kw : List (Str × Value)} : (A.under (.builtin "type.__call__" ⟨.ref C :: us, kw⟩)).units = A.units + 1 := by
  first | rfl | simp [Around.under, Code.cUnits, Code.frames, Code.isFrame]
theorem Room.make {k : Nat} {A : Around} (r : Room (k + 1) A) (C : Addr) (us : List Value) (kw : List (Str × Value)) : Room k (A.under (.builtin "type.__call__" ⟨.ref C :: us, kw⟩)) :=
  ⟨r.hd, by have := r.dp; rw [make_depth]; omega, by have := r.un; rw [make_units]; omega⟩
theorem Room.depth {k : Nat} {A : Around} (r : Room k A) : A.depth < recursionLimit := by have := r.dp; omega
theorem Room.units {k : Nat} {A : Around} (r : Room k A) : A.units + 64 < cLine := by have := r.un; omega
def tNil : TA := fun _ H Q => Q [] H
def tCons (ta : TE) (tr : TA) : TA := fun σ H Q => ta σ H fun x H1 => tr σ H1 fun xs H2 => Q (x :: xs) H2
section
variable {X : Cx} {e : Expr} {es : List Expr} {te : TE} {t : TA} {pos : Pos}
theorem pa_nil : PA X [] tNil := fun _ _ _ _ H Q I h => Calls.spliced_nil ⟨[], H, I, .nil, h⟩
theorem pa_cons (ha : PE X e te) (hr : PA X es t) (hs : starEach (e :: es) X.env = (false, eval e X.env) :: starEach es X.env := by rfl) : PA X (e :: es) (tCons te t) := by
  intro pos pins s σ H Q I h
  rw [hs]
  show wpAny _ _ (spliced ((false, eval e X.env) :: backTo pos (starEach es X.env))) _ _ s
  refine Calls.spliced_cons (thn (ha pins s σ H _ I h) fun u s1 ⟨x, H1, I1, r1, q1⟩ => ?_)
  exact thn (hr pos pins s1 σ H1 _ I1 q1) fun us s2 ⟨xs, H2, I2, r2, q2⟩ => ⟨x :: xs, H2, I2, .cons r1 r2, q2⟩

/-- a tuple, a list of written items -/
def tTup (t : TA) : TE := fun σ H Q => t σ H fun xs H1 => xs.length ≤ sizeLine ∧ ∀ p, H1 p = none → Q (.ref p) (upd H1 p (.tup xs))
def tLst (t : TA) : TE := fun σ H Q => t σ H fun xs H1 => xs.length ≤ sizeLine ∧ ∀ p, H1 p = none → Q (.ref p) (upd H1 p (.lst xs))
theorem pe_tup {x1} (h : PA X es t) : PE X (.Tuple es x1 pos) (tTup t) := by
  intro pins s σ H Q I hq
  refine wpAny_Tuple_spliced (thn (h pos pins s σ H _ I hq) fun us s1 ⟨xs, H1, I1, r, z, q⟩ => ⟨by rw [← r.length]; exact z, ?_⟩)
  have hf : H1 s1.heap.objs.size = none := I1.hok.fresh (Nat.le_refl _)
  refine ⟨.ref s1.heap.objs.size, upd H1 s1.heap.objs.size (.tup xs), I1.laid (t' := s1.toks) (fun b u e => Heap.get?_push_of_some _ e) (Nat.le_refl _) ?_, rfl, q _ hf⟩
  exact ⟨z, us, r, ⟨_, Heap.get?_push_size _ rfl, rfl, _, rfl⟩⟩
theorem pe_lst (h : PA X es t) : PE X (.List es pos) (tLst t) := by
  intro pins s σ H Q I hq
  refine wpAny_List_spliced (thn (h pos pins s σ H _ I hq) fun us s1 ⟨xs, H1, I1, r, z, q⟩ => ⟨by rw [← r.length]; exact z, ?_⟩)
  have hf : H1 s1.heap.objs.size = none := I1.hok.fresh (Nat.le_refl _)
  refine ⟨.ref s1.heap.objs.size, upd H1 s1.heap.objs.size (.lst xs), I1.laid (t' := s1.toks) (fun b u e => Heap.get?_push_of_some _ e) (Nat.le_refl _) ?_, rfl, q _ hf⟩
  exact ⟨z, us, 0, r, Heap.get?_push_size _ rfl⟩
end

/-- a def's promise: the bound arguments in the parameters' order, the heap, the wanted end, the wanted exception -/
abbrev Sp := List V → Hp → VK → XK → Prop
/-- how an exception lies behind a call (file 08 gives it): the callers' frames, abstract heap and state ahead of the call, the wish, the exception, the state -/
abbrev CXT := List Env → Hp → Shared → XK → Value → Shared → Prop

/-- the state at a call -/
structure Env0 (P : Program) (w : World) (K : PySem.W.Frag) (mg : Str → Option Value) (base : Heap) (A : Around) (outer : List Env) (s : Shared) (H : Hp) : Prop where
  frames : A.frames = some outer
  mod : Mod K mg base
  bs : ∀ b o, base.get? b = some o → s.heap.get? b = some o ∧ H b = none
  bsz : base.objs.size ≤ s.heap.objs.size
  funs : s.heap.FunFrames base outer
  frf : ∀ b ∈ frs outer, H b = none
  hok : HOk P w H s.heap
  bare : AllBare s.gens
/-- a call's end -/
def CE (outer : List Env) (P : Program) (w : World) (H : Hp) (s : Shared) (Q : VK) (u : Value) (s' : Shared) : Prop :=
  ∃ v H', s'.os = s.os ∧ AllBare s'.gens ∧ Un (frs outer) [] H H' s.heap s'.heap ∧ HOk P w H' s'.heap ∧ RelV v u ∧ Q v H'
def CR (CX : CXT) (outer : List Env) (P : Program) (w : World) (H : Hp) (s : Shared) (Q : VK) (E : XK) (r : Result) (s' : Shared) : Prop :=
  match r with
  | .ok (.ret u) => CE outer P w H s Q u s'
  | .ok _ => False
  | .error e => CX outer H s E e s'
structure FnOk (P : Program) (w : World) (K : PySem.W.Frag) (mg : Str → Option Value) (base : Heap) (CX : CXT) (k : Nat) (f : Addr) (fd : FuncData) (ps : List Str) (sp : Sp) : Prop where
  len : ∀ vs H Q E, sp vs H Q E → vs.length = ps.length
  run : ∀ (A : Around) (outer : List Env) (s : Shared) (H : Hp) (args : Args) (us : List Value) (vs : List V) (Q : VK) (E : XK), Room k A → Env0 P w K mg base A outer s H → BindsTo s fd args (ps.zip us) → Vals vs us → sp vs H Q E →
    codeAny (model P w) A (.call (.ref f) args) (CR CX outer P w H s Q E) s
theorem Env0.make {P : Program} {w : World} {K : PySem.W.Frag} {mg : Str → Option Value} {base : Heap} {A : Around} {outer : List Env} {s : Shared} {H : Hp} (e : Env0 P w K mg base A outer s H) (C : Addr) (us : List Value) (kw : List (Str × Value)) :
    Env0 P w K mg base (A.under (.builtin "type.__call__" ⟨.ref C :: us, kw⟩)) outer s H := ⟨by first | exact e.frames | (simpa [Around.under, Code.envs, Code.isFrame, pushEnvs] using e.frames), e.mod, e.bs, e.bsz, e.funs, e.frf, e.hok, e.bare⟩
section
variable {X : Cx} {pins : List (Addr × Obj)} {σ : St} {H : Hp} {s s' : Shared}
/-- from a body: what a callee wants -/
theorem Inv.env0 (I : Inv X pins σ H s) : Env0 X.prog X.w X.K X.mg X.base X.A X.stack s H :=
  ⟨I.ok.frames, I.ok.mod, I.bs, Nat.le_trans I.ok.bsz I.sz, I.stack, I.stkFree, I.hok, I.bare⟩
/-- behind a call -/
theorem Inv.after {Q : VK} {u : Value} (I : Inv X pins σ H s) (h : CE X.stack X.prog X.w H s Q u s') : EP X pins σ Q u s' := by
  obtain ⟨v, H', os, bare, un, hok, r, q⟩ := h
  obtain ⟨hh, g, d, t, os'⟩ := s'
  obtain rfl : os' = s.os := os
  exact ⟨v, H', I.call (h' := hh) (g' := g) (d' := d) (t' := t) (ch := []) un hok bare (fun b z => absurd z (by simp)), r, q⟩
end

/-- f(..): the written arguments, then the defaults dvs; E: what is wanted of an exception -/
def tCall (sp : Sp) (dvs : List V) (E : XK) (t : TA) : TE := fun σ H Q => t σ H fun vs H1 => sp (vs ++ dvs) H1 Q E
/-- o.m(..) of an instance of the class at C -/
def tMeth (C : Addr) (m : Str) (sp : Sp) (dvs : List V) (E : XK) (ta : TE) (t : TA) : TE := fun σ H Q => ta σ H fun x H1 => ∃ a dx fs, x = .ref a ∧ H1 a = some (.ins C dx fs) ∧ fs.lookup m = none ∧
  t σ H1 fun vs H2 => sp (x :: (vs ++ dvs)) H2 Q E
/-- C(..): a new instance and its dict, then __init__ -/
def tMake (C : Addr) (sp : Sp) (dvs : List V) (E : XK) (t : TA) : TE := fun σ H Q => t σ H fun vs H1 => ∀ x dx, H1 x = none → H1 dx = none → dx ≠ x →
  sp (.ref x :: (vs ++ dvs)) (upd (upd H1 dx (.own x)) x (.ins C dx [])) (fun v H2 => v = .non ∧ Q (.ref x) H2) E

/-- how the parameters are bound: us the positional arguments, kw the keywords' values by name, ds the defaults that fill up -/
def Binds (K : PySem.W.Frag) (fd : FuncData) (ps : List Str) (ds : List Value) : Prop :=
  ∀ (s : Shared) (us : List Value), K.In s.heap → (us ++ ds).length = ps.length → BindsTo s fd ⟨us, []⟩ (ps.zip (us ++ ds))
/-- every parameter is given -/
theorem Binds.all {K : PySem.W.Frag} {fd : FuncData} {ps : List Str} (h : ∀ us : List Value, us.length = ps.length → bindArgs fd ⟨us, []⟩ = pure (ps.zip us)) : Binds K fd ps [] := fun s us _ hl => by
  rw [List.append_nil] at hl ⊢
  exact .of_eq (h us hl)

/-- an exception of a callee reaches what this body wants of exceptions -/
def Passes (CX : CXT) (X : Cx) (E : XK) : Prop := ∀ (pins : List (Addr × Obj)) (σ : St) (H : Hp) (s : Shared) (e : Value) (s' : Shared), Inv X pins σ H s → CX X.stack H s E e s' → X.xe e s'

section
variable {X : Cx} {CX : CXT} {k : Nat} {f C : Addr} {fd : FuncData} {ps : List Str} {sp : Sp} {dvs : List V} {ds : List Value} {E : XK} {x m : Str} {p pos apos : Pos} {e o : Expr} {es : List Expr} {ta : TE} {t : TA}

/-- the callee runs -/
theorem run_fn {pins : List (Addr × Obj)} {σ : St} {H : Hp} {s : Shared} {Q : VK} {us : List Value} {vs : List V} (F : FnOk X.prog X.w X.K X.mg X.base CX k f fd ps sp) (hr : Room k X.A) (hb : Binds X.K fd ps ds) (hd : Vals dvs ds) (hx : Passes CX X E)
    (I : Inv X pins σ H s) (r : Vals vs us) (h : sp (vs ++ dvs) H Q E) : wpAny (model X.prog X.w) X.A (call (.ref f) us) (EP X pins σ Q) X.xe s := by
  have r2 : Vals (vs ++ dvs) (us ++ ds) := r.append hd
  have hl : (us ++ ds).length = ps.length := by rw [← r2.length]; exact F.len _ _ _ _ h
  refine wpAny_call (codeAny_mono (F.run X.A X.stack s H ⟨us, []⟩ (us ++ ds) (vs ++ dvs) Q E hr I.env0 (hb s us I.kIn hl) r2 h) fun r s' hq => ?_)
  cases r with
  | error e => exact hx pins σ H s e s' I hq
  | ok fl =>
    cases fl with
    | ret u => exact I.after hq
    | next => exact False.elim hq
    | brk => exact False.elim hq
    | cont => exact False.elim hq

theorem pe_call (F : FnOk X.prog X.w X.K X.mg X.base CX k f fd ps sp) (hr : Room k X.A) (hg : Gl X x) (hm : X.mg x = some (.ref f)) (hk : PySem.W.keepIn X.K (.ref f) = true) (hb : Binds X.K fd ps ds) (hd : Vals dvs ds) (hx : Passes CX X E)
    (ha : PA X (e :: es) t) (hdb : (x == ("__debug__" : Str)) = false := by decide) (he : starEach (e :: es) X.env = (false, eval e X.env) :: starEach es X.env := by rfl) (hpl : (backTo pos (starEach es X.env)).any (·.1) = false := by rfl) :
    PE X (.Call (.Name x p) (e :: es) [] pos) (tCall sp dvs E t) := by
  intro pins s σ H Q I h
  refine wpAny_Call_Name_kw (ld_glob I hg hm ?_ hdb)
  refine PySem.W.callWith_K (h₀ := X.base) I.ok.mod.kin hk (thn (ha pos pins s σ H _ I h) fun us s1 ⟨vs, H1, I1, r, q⟩ => ⟨I1.kIn, ?_⟩) he hpl
  exact run_fn F hr hb hd hx I1 r q
theorem pe_call0 (F : FnOk X.prog X.w X.K X.mg X.base CX k f fd ps sp) (hr : Room k X.A) (hg : Gl X x) (hm : X.mg x = some (.ref f)) (hk : PySem.W.keepIn X.K (.ref f) = true) (hb : Binds X.K fd ps ds) (hd : Vals dvs ds) (hx : Passes CX X E)
    (hdb : (x == ("__debug__" : Str)) = false := by decide) : PE X (.Call (.Name x p) [] [] pos) (tCall sp dvs E tNil) := by
  intro pins s σ H Q I h
  refine wpAny_Call_Name_kw (ld_glob I hg hm ?_ hdb)
  exact PySem.W.callWith_K0 I.kIn hk (run_fn (us := []) F hr hb hd hx I .nil h)

/-- o.m(e, ..) -/
theorem pe_meth {pl : Sem Bool} (he : PE X o ta) (c : Cls X.K C) (hm : Meth X.K C m f) (F : FnOk X.prog X.w X.K X.mg X.base CX k f fd ps sp) (hr : Room k X.A) (hb : Binds X.K fd ps ds) (hd : Vals dvs ds) (hx : Passes CX X E) (ha : PA X (e :: es) t)
    (hst : starEach (e :: es) X.env = (false, eval e X.env) :: starEach es X.env := by rfl) (hpl : (backTo pos (starEach es X.env)).any (·.1) = false := by rfl)
    (ht : eval (.Call (.Attribute o m apos) (e :: es) [] pos) X.env = (do
      let ov ← eval o X.env
      standAt apos.atName
      let (f, first) ← holding [ov] (getMethod ov m pl)
      callWith pos f first (backTo pos (starEach (e :: es) X.env)) (backToKw pos (keywordEach [] X.env))) := by rfl) :
    PE X (.Call (.Attribute o m apos) (e :: es) [] pos) (tMeth C m sp dvs E ta t) := by
  intro pins s σ H Q I h
  refine PySem.W.methodCall_KW (pl := pl) (thn (he pins s σ H _ I h) fun u s1 ⟨x, H1, I1, rx, a, dx, fs, ex, ea, l, q⟩ => ?_) ht
  subst ex
  obtain rfl : u = Value.ref a := rx
  refine getmeth_ok I1 ea c hm l ?_
  refine PySem.W.callWith_K (first := [.ref a]) (h₀ := X.base) I.ok.mod.kin hm.kp (thn (ha pos pins s1 σ H1 _ I1 q) fun us s2 ⟨vs, H2, I2, r, q2⟩ => ⟨I2.kIn, ?_⟩) hst hpl
  exact run_fn (us := .ref a :: us) (vs := .ref a :: vs) F hr hb hd hx I2 (.cons rfl r) q2
/-- o.m() -/
theorem pe_meth0 {pl : Sem Bool} (he : PE X o ta) (c : Cls X.K C) (hm : Meth X.K C m f) (F : FnOk X.prog X.w X.K X.mg X.base CX k f fd ps sp) (hr : Room k X.A) (hb : Binds X.K fd ps ds) (hd : Vals dvs ds) (hx : Passes CX X E)
    (ht : eval (.Call (.Attribute o m apos) [] [] pos) X.env = (do
      let ov ← eval o X.env
      standAt apos.atName
      let (f, first) ← holding [ov] (getMethod ov m pl)
      callWith pos f first (backTo pos (starEach [] X.env)) (backToKw pos (keywordEach [] X.env))) := by rfl) :
    PE X (.Call (.Attribute o m apos) [] [] pos) (tMeth C m sp dvs E ta tNil) := by
  intro pins s σ H Q I h
  refine PySem.W.methodCall_KW (pl := pl) (thn (he pins s σ H _ I h) fun u s1 ⟨x, H1, I1, rx, a, dx, fs, ex, ea, l, q⟩ => ?_) ht
  subst ex
  obtain rfl : u = Value.ref a := rx
  refine getmeth_ok I1 ea c hm l ?_
  exact PySem.W.callWith_K0 (first := [.ref a]) I1.kIn hm.kp (run_fn (us := [.ref a]) (vs := [.ref a]) F hr hb hd hx I1 (.cons rfl .nil) q)

/-- what a class must have to be made -/
structure Mk (K : PySem.W.Frag) (C f : Addr) : Prop where
  makes : PySem.W.makesIn K C = true
  init : PySem.W.findIn K (.ref C) "__init__" = some (some (.ref f))
  fn : PySem.W.isFn K (.ref f) = true
  kp : PySem.W.keepIn K (.ref C) = true

theorem run_make {pins : List (Addr × Obj)} {σ : St} {H : Hp} {s : Shared} {Q : VK} {us : List Value} {vs : List V} (M : Mk X.K C f) (F : FnOk X.prog X.w X.K X.mg X.base CX k f fd ps sp) (hr : Room (k + 1) X.A) (hb : Binds X.K fd ps ds) (hd : Vals dvs ds)
    (hx : Passes CX X E) (I : Inv X pins σ H s) (r : Vals vs us)
    (h : ∀ x dx, H x = none → H dx = none → dx ≠ x → sp (.ref x :: (vs ++ dvs)) (upd (upd H dx (.own x)) x (.ins C dx [])) (fun v H2 => v = .non ∧ Q (.ref x) H2) E) :
    wpAny (model X.prog X.w) X.A (call (.ref C) us) (EP X pins σ Q) X.xe s := by
  have hq := h (s.heap.objs.size + 1) s.heap.objs.size (I.hok.fresh (Nat.le_succ _)) (I.hok.fresh (Nat.le_refl _)) (Nat.ne_of_lt (Nat.lt_succ_self _))
  have I2 := Inv.made (C := C) I
  have r2 : Vals (V.ref (s.heap.objs.size + 1) :: (vs ++ dvs)) (Value.ref (s.heap.objs.size + 1) :: (us ++ ds)) := .cons rfl (r.append hd)
  have hl : (Value.ref (s.heap.objs.size + 1) :: us ++ ds).length = ps.length := by
    have e := r2.length
    rw [F.len _ _ _ _ hq] at e
    exact e.symm
  refine wpAny_call (make_map (f := f) I.kIn M.makes M.init (beq_iff_eq.mp M.fn) (codeAny_mono (F.run _ X.stack _ _ ⟨Value.ref (s.heap.objs.size + 1) :: us, []⟩ (Value.ref (s.heap.objs.size + 1) :: (us ++ ds)) _ _ E (hr.make C us [])
    (I2.env0.make C us []) (hb _ (Value.ref (s.heap.objs.size + 1) :: us) I2.kIn hl) r2 hq) fun r s' hq' => ?_))
  cases r with
  | error e => exact hx pins σ _ _ e s' I2 hq'
  | ok fl =>
    cases fl with
    | ret u =>
      obtain ⟨v, H', I3, rv, ev, q3⟩ := I2.after hq'
      subst ev
      exact ⟨rv, ⟨V.ref (s.heap.objs.size + 1), H', I3, rfl, q3⟩⟩
    | next => exact False.elim hq'
    | brk => exact False.elim hq'
    | cont => exact False.elim hq'
theorem pe_make0 (M : Mk X.K C f) (F : FnOk X.prog X.w X.K X.mg X.base CX k f fd ps sp) (hr : Room (k + 1) X.A) (hg : Gl X x) (hm : X.mg x = some (.ref C)) (hb : Binds X.K fd ps ds) (hd : Vals dvs ds) (hx : Passes CX X E)
    (hdb : (x == ("__debug__" : Str)) = false := by decide) : PE X (.Call (.Name x p) [] [] pos) (tMake C sp dvs E tNil) := by
  intro pins s σ H Q I h
  refine wpAny_Call_Name_kw (ld_glob I hg hm ?_ hdb)
  exact PySem.W.callWith_K0 I.kIn M.kp (run_make (us := []) M F hr hb hd hx I .nil h)
end

/-- the values of the keywords, from the left -/
def PK (X : Cx) (kws : List Keyword) (t : TA) : Prop :=
  ∀ (pos : Pos) (pins : List (Addr × Obj)) (s : Shared) (σ : St) (H : Hp) (Q : List V → Hp → Prop), Inv X pins σ H s → t σ H Q → wpAny (model X.prog X.w) X.A (evalAll ((backToKw pos (keywordEach kws X.env)).map (·.2))) (AP X pins σ Q) X.xe s
section
variable {X : Cx} {CX : CXT} {k : Nat} {f C : Addr} {fd : FuncData} {ps ks : List Str} {sp : Sp} {E : XK} {x m : Str} {p pos apos kpos : Pos} {e o : Expr} {es : List Expr} {kws : List Keyword} {te ta : TE} {t tk : TA} {nm : Option Str}
theorem pk_nil : PK X [] tNil := fun _ _ _ _ H Q I h => wpAny_evalAll_nil ⟨[], H, I, .nil, h⟩
theorem pk_cons (ha : PE X e te) (hr : PK X kws t) : PK X (⟨nm, e, kpos⟩ :: kws) (tCons te t) := by
  intro pos pins s σ H Q I h
  show wpAny _ _ (evalAll ((do let v ← eval e X.env; standAt pos; pure v) :: (backToKw pos (keywordEach kws X.env)).map (·.2))) _ _ s
  refine wpAny_evalAll_cons (wpAny_bind (thn (ha pins s σ H _ I h) fun u s1 ⟨x, H1, I1, r1, q1⟩ => wpAny_bind (wpAny_standAt (wpAny_pure ?_))))
  exact thn (hr pos pins s1 σ H1 _ I1 q1) fun us s2 ⟨xs, H2, I2, r2, q2⟩ => ⟨x :: xs, H2, I2, .cons r1 r2, q2⟩

/-- how a call with keywords binds: g puts the positional values us and the keywords' values ws (names ks) in the parameters' order, defaults among them -/
structure KBinds (K : PySem.W.Frag) (fd : FuncData) (ps ks : List Str) (g : List Value → List Value → List Value) (gV : List V → List V → List V) : Prop where
  to : ∀ (s : Shared) (us ws : List Value), K.In s.heap → (g us ws).length = ps.length → BindsTo s fd ⟨us, ks.zip ws⟩ (ps.zip (g us ws))
  rel : ∀ {vs : List V} {us : List Value} {zs : List V} {ws : List Value}, Vals vs us → Vals zs ws → Vals (gV vs zs) (g us ws)
variable {g : List Value → List Value → List Value} {gV : List V → List V → List V}
end

/-- names: the parameters first -/
structure FnScope (N P : List Str) (sc : Scope) : Prop where
  kind : sc.kind = .function
  co : sc.isCoroutine = false
  gen : sc.isGenerator = false
  nd : N.Nodup
  pre : N.take P.length = P
  par : ∀ x ∈ P, sc.names.lookup x = some .local ∨ sc.names.lookup x = some .cell
  nofree : ∀ y ∈ sc.names, y.2 ≠ .free

theorem bindL_out {kindOf : Str → Option NameKind} {x : Str} : ∀ {binds : List (Str × Value)} {m : Str → Option Value}, (∀ v, (x, v) ∉ binds) → bindL kindOf binds m x = m x
  | [], _, _ => rfl
  | (n, v) :: r, m, h => by
    unfold bindL
    rw [bindL_out fun w hw => h w (List.mem_cons_of_mem _ hw)]
    split
    · have : x ≠ n := by rintro rfl; exact h v List.mem_cons_self
      simp [this]
    · rfl
theorem bindC_out {kindOf : Str → Option NameKind} {x : Str} : ∀ {binds : List (Str × Value)} {m : Str → Option Value}, (∀ v, (x, v) ∉ binds) → bindC kindOf binds m x = m x
  | [], _, _ => rfl
  | (n, v) :: r, m, h => by
    unfold bindC
    rw [bindC_out fun w hw => h w (List.mem_cons_of_mem _ hw)]
    split
    · rfl
    · have : x ≠ n := by rintro rfl; exact h v List.mem_cons_self
      simp [this]
theorem bindL_get {kindOf : Str → Option NameKind} {x : Str} {v : Value} : ∀ {P : List Str} {vs : List Value} {i : Nat} {m : Str → Option Value}, P.Nodup → P[i]? = some x → vs[i]? = some v → kindOf x = some .local →
    bindL kindOf (P.zip vs) m x = some v
  | [], _, _, _, _, h, _, _ => by simp at h
  | _ :: _, [], _, _, _, _, h, _ => by simp at h
  | p :: P, w :: vs, 0, m, nd, h1, h2, hk => by
    simp at h1 h2; subst h1; subst h2
    show bindL kindOf ((p, w) :: P.zip vs) m p = _
    unfold bindL
    rw [bindL_out fun v hv => (List.nodup_cons.mp nd).1 (List.of_mem_zip hv).1, if_pos hk]
    simp
  | p :: P, w :: vs, i + 1, m, nd, h1, h2, hk => by
    show bindL kindOf ((p, w) :: P.zip vs) m x = _
    unfold bindL
    exact bindL_get (i := i) (List.nodup_cons.mp nd).2 (by simpa using h1) (by simpa using h2) hk
theorem bindC_get {kindOf : Str → Option NameKind} {x : Str} {v : Value} : ∀ {P : List Str} {vs : List Value} {i : Nat} {m : Str → Option Value}, P.Nodup → P[i]? = some x → vs[i]? = some v → kindOf x ≠ some .local →
    bindC kindOf (P.zip vs) m x = some v
  | [], _, _, _, _, h, _, _ => by simp at h
  | _ :: _, [], _, _, _, _, h, _ => by simp at h
  | p :: P, w :: vs, 0, m, nd, h1, h2, hk => by
    simp at h1 h2; subst h1; subst h2
    show bindC kindOf ((p, w) :: P.zip vs) m p = _
    unfold bindC
    rw [bindC_out fun v hv => (List.nodup_cons.mp nd).1 (List.of_mem_zip hv).1, if_neg hk]
    simp
  | p :: P, w :: vs, i + 1, m, nd, h1, h2, hk => by
    show bindC kindOf ((p, w) :: P.zip vs) m x = _
    unfold bindC
    exact bindC_get (i := i) (List.nodup_cons.mp nd).2 (by simpa using h1) (by simpa using h2) hk

/-- the names' values at the entry -/
def start (N : List Str) (vs : List V) : St := vs.map some ++ List.replicate (N.length - vs.length) none

/-- the context of a def's body, at its entry; an exception leaves the frame, then lies as CX says -/
def cxOf (CX : CXT) (P : Program) (w : World) (K : PySem.W.Frag) (mg : Str → Option Value) (base : Heap) (N : List Str) (qual : Str) (scope : Scope) (f : Addr) (cd : Value) (A : Around) (outer : List Env) (s : Shared) (H : Hp) (E : XK) : Cx where
  prog := P
  w := w
  K := K
  mg := mg
  base := base
  A := A.deeper (envOfC qual scope s.heap.objs.size f cd)
  N := N
  s_0 := s
  H_0 := H
  env := envOfC qual scope s.heap.objs.size f cd
  outer := outer
  stack := envOfC qual scope s.heap.objs.size f cd :: outer
  ex := []
  calm := true
  fn := fun _ => true
  pn := []
  xe := fun e s' => wpAny (model P w) (A.deeper (envOfC qual scope s.heap.objs.size f cd)) (leaving (envOfC qual scope s.heap.objs.size f cd) e) (fun _ s'' => CX outer H s E e s'') (fun e' s'' => CX outer H s E e' s'') s'

theorem cell_has {sc : Scope} {n : Nat} {x : Str} (h : sc.names.lookup x = some .cell) : ∃ c, (cellsFrom n sc.names []).lookup x = some c := by
  have q := PySem.W.cellsFrom_some sc.names n [] (.inl h)
  exact Option.isSome_iff_exists.mp q

theorem inv_start {CX : CXT} {P : Program} {w : World} {K : PySem.W.Frag} {mg : Str → Option Value} {base : Heap} {N ps : List Str} {qual : Str} {scope : Scope} {f : Addr} {cd : Value} {A : Around} {outer : List Env} {s s1 : Shared} {H : Hp} {E : XK} {us : List Value} {vs : List V}
    (S : FnScope N ps scope) (hd : A.handled = none) (e0 : Env0 P w K mg base A outer s H) (hl : vs.length = ps.length) (r : Vals vs us)
    (x : InCallC s s.heap.objs.size (bindL (envOfC qual scope s.heap.objs.size f cd).kindOf (ps.zip us) fun _ => none) (cellsFrom (s.heap.objs.size + 1) scope.names []) (bindC (envOfC qual scope s.heap.objs.size f cd).kindOf (ps.zip us) fun _ => none) s1) :
    Inv (cxOf CX P w K mg base N qual scope f cd A outer s H E) [] (start N vs) H s1 := by
  have hpl : ps.length ≤ N.length := by have := congrArg List.length S.pre; rw [List.length_take] at this; omega
  obtain ⟨h1, tk, rfl, hk⟩ := x.done
  have noA : ∀ b : Addr, b ∉ (cxOf CX P w K mg base N qual scope f cd A outer s H E).ex := fun b z => absurd (show b ∈ ([] : List Addr) from z) (by simp)
  refine ⟨⟨e0.mod, S.kind, rfl, rfl, Nat.le_refl _, fun y z c h1 h2 => ?_, fun y hy => ?_, fun y c _ h => ?_, fun _ => hd, Around.frames_deeper e0.frames, .inr ⟨rfl, rfl⟩, fun b z => absurd z (noA b), e0.bs, e0.bsz, fun b _ _ => noA b, fun b z => absurd z (noA b), e0.funs, e0.frf⟩,
    rfl, e0.bare, Un.kept hk, ⟨_, x.toInCall.ns, fun i y v h1 h2 h3 => ?_⟩, fun y c h => ⟨_, x.cell y c h⟩, e0.hok.fresh (Nat.le_refl _), fun y c h => ?_, fun p hp => absurd (show p ∈ ([] : List (Addr × Obj)) from hp) (by simp), e0.hok.kept hk, ?_⟩
  · exact name_of_addr x.apart (PySem.mem_of_lookup h1) (PySem.mem_of_lookup h2)
  · have hy : scope.names.lookup y = some .cell ∨ scope.names.lookup y = some .free := hy
    rcases hy with hy | hy
    · exact cell_has hy
    · exact absurd rfl (S.nofree _ (PySem.mem_of_lookup hy))
  · exact Nat.le_of_lt (x.above y c (PySem.mem_of_lookup h))
  · have hi : i < vs.length := by
      unfold start at h2
      by_cases hi : i < vs.length
      · exact hi
      · rw [List.getElem?_append_right (by simpa using hi)] at h2
        rw [List.getElem?_replicate] at h2
        split at h2 <;> cases h2
    have ha : vs[i]? = some v := by
      unfold start at h2
      rw [List.getElem?_append_left (by simpa using hi), List.getElem?_map] at h2
      cases e : vs[i]? with
      | none => rw [e] at h2; cases h2
      | some a => rw [e] at h2; cases h2; rfl
    obtain ⟨u, hu, rv⟩ := r.get ha
    have hp : ps[i]? = some y := by
      rw [← S.pre, List.getElem?_take_of_lt (by omega)]; exact h1
    have ndP : ps.Nodup := by rw [← S.pre]; exact S.nd.sublist (List.take_sublist _ _)
    refine ⟨u, rv, ?_⟩
    rcases S.par y (List.mem_of_getElem? hp) with k | k
    · exact .inl ⟨k, bindL_get ndP hp hu k⟩
    · obtain ⟨c, e⟩ := cell_has (n := s.heap.objs.size + 1) k
      refine .inr ⟨.inl k, c, e, ?_⟩
      have q := x.cell y c e
      rw [bindC_get ndP hp hu (by show scope.names.lookup y ≠ _; rw [k]; decide)] at q
      exact q
  · exact e0.hok.fresh (Nat.le_of_lt (x.above y c (PySem.mem_of_lookup h)))
  · unfold start
    show _ = N.length
    rw [List.length_append, List.length_map, List.length_replicate]
    omega

/-- THE RULE: a def (or a method) of the text, by its body. The body's reading t is chosen for each entry; it is run at the parameters' values -/
theorem fn_of {CX : CXT} {P : Program} {w : World} {K : PySem.W.Frag} {mg : Str → Option Value} {base : Heap} {k : Nat} {f : Addr} {name qual : Str} {params : Arguments} {body : List Stmt} {scope : Scope} {dV kV doc pm cdv ct oc : Value} {an od : Option Addr}
    {osl : Array (Option Value)} {N ps : List Str} {sp : Sp} (lk : K.lookup f = some ⟨oc, od, .func (PySem.W.fnOf name qual params body scope dV kV doc pm an cdv ct), osl⟩) (hcd : PySem.W.codeIn K cdv qual = true) (S : FnScope N ps scope)
    (len : ∀ vs H Q E, sp vs H Q E → vs.length = ps.length)
    (hbody : ∀ (A : Around) (outer : List Env) (s : Shared) (H : Hp) (vs : List V) (Q : VK) (E : XK), Room k (A.deeper (envOfC qual scope s.heap.objs.size f cdv)) → sp vs H Q E →
      ∃ t, PSs (cxOf CX P w K mg base N qual scope f cdv A outer s H E) body t ∧ t { nx := fun _ H' => Q .non H', rt := Q } (start N vs) H) :
    FnOk P w K mg base CX (k + 1) f (PySem.W.fnOf name qual params body scope dV kV doc pm an cdv ct) ps sp := by
  refine ⟨len, fun A outer s H args us vs Q E hr e0 hb r hsp => ?_⟩
  have hl := len _ _ _ _ hsp
  have KX : K.In s.heap := e0.mod.kin.keeps fun b o e => (e0.bs b o e).1
  have lim : s.heap.NoLimit := e0.mod.nolimit.keeps fun b o e => (e0.bs b o e).1
  have hkind : ∀ y ∈ ps.zip us, scope.names.lookup y.1 = some .local ∨ (scope.names.lookup y.1 = some .cell ∧ ((cellsFrom (s.heap.objs.size + 1) scope.names []).lookup y.1).isSome = true) := fun ⟨n, v⟩ hy => by
    rcases S.par n (List.of_mem_zip hy).1 with q | q
    · exact .inl q
    · exact .inr ⟨q, PySem.W.cellsFrom_some _ _ _ (.inl q)⟩
  refine codeAny_call_function hr.depth (KX _ _ lk) rfl S.co S.gen rfl (PySem.W.codeRec_of KX hcd) (hb _ _ _ _ ?_)
  refine wpAny_newFunctionEnv_cells S.kind hkind fun env he s1 x => ?_
  subst he
  refine ⟨lim.keeps x.toInCall.keep, codeAny_func ?_⟩
  obtain ⟨t, ht, hq⟩ := hbody A outer s H vs Q E (hr.deeper _) hsp
  have I : Inv (cxOf CX P w K mg base N qual scope f cdv A outer s H E) [] (start N vs) H s1 := inv_start S hr.hd e0 hl r x
  refine wpAny_mono (ht [] s1 (start N vs) H _ I hq) (fun fl s' hs => ?_) fun e s' hs => hs
  have fin : ∀ {σ' : St} {H' : Hp} {v : V} {u : Value}, Inv (cxOf CX P w K mg base N qual scope f cdv A outer s H E) [] σ' H' s' → RelV v u → Q v H' → CE outer P w H s Q u s' :=
    fun {σ' H' v u} J rv q => ⟨v, H', J.os, J.bare, J.base, J.hok, rv, q⟩
  cases fl with
  | ret u =>
    obtain ⟨v, σ', H', J, rv, q⟩ := hs
    exact fin J rv q
  | next =>
    obtain ⟨σ', H', J, q⟩ := hs
    exact fin (v := V.non) (u := Value.none) J rfl q
  | brk =>
    obtain ⟨_, _, _, q⟩ := hs
    exact False.elim q
  | cont =>
    obtain ⟨_, _, _, q⟩ := hs
    exact False.elim q
end L2

namespace L2
open PySem PySem.Spec PyProof.Rows
section
variable {X : Cx} {x : Str} {p pos : Pos} {e : Expr} {es : List Expr} {t : TA} {id T : String} {r : List V → Hp → VK → Prop}

def tCB (r : List V → Hp → VK → Prop) (t : TA) : TE := fun σ H Q => t σ H fun vs H1 => r vs H1 Q
/-- f(e, ..), f a built-in function -/
theorem pe_callB (hc : CallR X (.builtin id) r) (hg : Gl X x) (hm : X.mg x = none) (hv : bootBuiltins x = some (.builtin id)) (ha : PA X (e :: es) t) (hn : x ≠ "__name__" := by decide) (hdb : (x == ("__debug__" : Str)) = false := by decide)
    (he : starEach (e :: es) X.env = (false, eval e X.env) :: starEach es X.env := by rfl) (hpl : (backTo pos (starEach es X.env)).any (·.1) = false := by rfl) : PE X (.Call (.Name x p) (e :: es) [] pos) (tCB r t) := by
  intro pins s σ H Q I h
  refine wpAny_Call_Name_kw (ld_blt I hg hm hv ?_ hn hdb)
  exact PyProof.Rows.callWith_builtin1 (thn (ha pos pins s σ H _ I h) fun us s1 ⟨vs, H1, I1, r1, q1⟩ => hc pins s1 σ H1 vs us Q I1 r1 q1) he hpl
end
end L2

namespace HT
open PySem PyProof.Rows

section
open PySem.SeqAt
open PySem.AutoSeq1 (wpAny_loadPart')
open PySem.MeetsSeq PySem.MeetsSeq2 PySem.MeetsSeq3

end

section
variable {prog : Program} {w : World} {A : Around} {E : Value → Shared → Prop} {s : Shared}

/-- a slice's bound as a place among n (d where it is left out) -/
def sIx (n d : Nat) : Option Int → Nat
  | none => d
  | some v => if v < 0 then (v + (n : Int)).toNat else min v.toNat n
theorem sIx_none (n d : Nat) : sIx n d none = d := rfl
theorem sIx_nat (n d k : Nat) : sIx n d (some (k : Int)) = min k n := by
  show (if (k : Int) < 0 then ((k : Int) + (n : Int)).toNat else min (k : Int).toNat n) = min k n
  rw [if_neg (by omega), Int.toNat_natCast]
end
end HT

namespace L2
open PySem PySem.Spec PyProof.Rows

abbrev TO := St → Hp → (Option Int → Hp → Prop) → Prop
/-- a slice's part (left out, or an int) -/
def PO (X : Cx) (e : Option Expr) (t : TO) : Prop :=
  ∀ (pins : List (Addr × Obj)) (s : Shared) (σ : St) (H : Hp) (Q : Option Int → Hp → Prop), Inv X pins σ H s → t σ H Q →
    wpAny (model X.prog X.w) X.A (evalPart e X.env) (fun u s' => ∃ o H', Inv X pins σ H' s' ∧ IsPart u o ∧ Q o H') X.xe s
def tNoPart : TO := fun _ H Q => Q none H
def tPart (t : TE) : TO := fun σ H Q => t σ H fun x H1 => ∃ i, x = .int i ∧ Q (some i) H1

section
variable {X : Cx} {e : Expr} {te : TE} {lo hi : Option Expr} {tl th : TO} {pos p2 : Pos}

theorem po_none : PO X none tNoPart := by
  intro pins s σ H Q I h
  rw [evalPart_none]
  exact wpAny_pure ⟨none, H, I, .none, h⟩
theorem po_some (h : PE X e te) : PO X (some e) (tPart te) := by
  intro pins s σ H Q I hw
  rw [evalPart_some]
  refine thn (h pins s σ H _ I hw) fun u s1 ⟨x, H1, I1, r1, q1⟩ => ?_
  obtain ⟨i, rfl, q⟩ := q1
  obtain ⟨t, rfl⟩ := r1
  exact ⟨some i, H1, I1, .int i t, q⟩

/-- what a slice of a value is, by values: the slice object stands at sl -/
def SlR (X : Cx) (r : V → Option Int → Option Int → Hp → VK → Prop) : Prop :=
  ∀ (pins : List (Addr × Obj)) (s : Shared) (σ : St) (H : Hp) (x : V) (v vl vu : Value) (lo hi : Option Int) (sl : Addr) (Q : VK), Inv X pins σ H s → RelV x v → s.heap.IsSliceOf sl vl vu .none → IsPart vl lo → IsPart vu hi → r x lo hi H Q →
    ∃ T id, typeLookup (.type T) "__getitem__" = pure (some (.builtin id)) ∧ s.TypeIs v T ∧ wpAny (model X.prog X.w) X.A (getItem v (.ref sl)) (EP X pins σ Q) X.xe s
def tSl (r : V → Option Int → Option Int → Hp → VK → Prop) (te : TE) (tl th : TO) : TE := fun σ H Q => te σ H fun x H1 => tl σ H1 fun l H2 => th σ H2 fun u H3 => r x l u H3 Q
/-- a[lo:hi], any a -/
theorem pe_slice {r : V → Option Int → Option Int → Hp → VK → Prop} (hr : SlR X r) (he : PE X e te) (hl : PO X lo tl) (hu : PO X hi th) : PE X (.Subscript e (.Slice lo hi none p2) pos) (tSl r te tl th) := by
  intro pins s σ H Q I h
  refine Subscript_ (thn (he pins s σ H _ I h) fun v s1 ⟨x, H1, I1, r1, q1⟩ => ?_)
  refine wpAny_Slice (thn (hl pins s1 σ H1 _ I1 q1) fun vl s2 ⟨l, H2, I2, pl, q2⟩ => thn (hu pins s2 σ H2 _ I2 q2) fun vu s3 ⟨u, H3, I3, pu, q3⟩ => ?_)
  rw [evalPart_none]
  refine wpAny_pure ?_
  have I4 : Inv X pins σ H3 { s3 with heap := s3.heap.push { cls := .type "slice", data := .fields #[vl, vu, .none] } } := I3.kept (t' := s3.toks) fun b ob q => Heap.get?_push_of_some _ q
  obtain ⟨T, id, hT, ht, hg⟩ := hr pins { s3 with heap := s3.heap.push { cls := .type "slice", data := .fields #[vl, vu, .none] } } σ H3 x v vl vu l u s3.heap.objs.size Q I4 r1 (Heap.IsSliceOf.new ..) pl pu q3
  show wpAny (model X.prog X.w) X.A (subscriptTail e (.Slice lo hi none p2) v (.ref s3.heap.objs.size)) (EP X pins σ Q) X.xe { s3 with heap := s3.heap.push { cls := .type "slice", data := .fields #[vl, vu, .none] } }
  exact tail_any (ops := [.ref s3.heap.objs.size, v]) ht hT hg (by with_unfolding_all rfl)

/-- the items of xs[lo:hi] -/
def cutV (xs : List V) (lo hi : Option Int) : List V := (xs.drop (HT.sIx xs.length 0 lo)).take (HT.sIx xs.length xs.length hi - HT.sIx xs.length 0 lo)
theorem cutV_length (xs : List V) (lo hi : Option Int) : (cutV xs lo hi).length ≤ xs.length := by
  unfold cutV
  rw [List.length_take, List.length_drop]
  omega
end
end L2

namespace L2
open PySem PySem.Spec PyProof.Rows

/-- the place that an index of any sign means -/
def ixN (n : Nat) (i : Int) : Option Nat := if 0 ≤ i then (if i < n then some i.toNat else none) else if -(n : Int) ≤ i then some (i + n).toNat else none
def atI {α : Type} (xs : List α) (i : Int) : Option α := (ixN xs.length i).bind fun j => xs[j]?
theorem ixN_seq {n : Nat} {i : Int} {j : Nat} (h : ixN n i = some j) : seqIndex? i n = some j ∧ j < n ∧ -(n : Int) ≤ i ∧ i < n := by
  unfold ixN at h
  by_cases h0 : 0 ≤ i
  · rw [if_pos h0] at h
    by_cases h1 : i < n
    · rw [if_pos h1] at h
      have e : i.toNat = j := Option.some.inj h
      exact ⟨by rw [seqIndex_of h0 h1, e], by omega, by omega, h1⟩
    · rw [if_neg h1] at h; cases h
  · rw [if_neg h0] at h
    by_cases h1 : -(n : Int) ≤ i
    · rw [if_pos h1] at h
      have e : (i + n).toNat = j := Option.some.inj h
      exact ⟨by rw [seqIndex_neg (by omega) h1, e], by omega, h1, by omega⟩
    · rw [if_neg h1] at h; cases h
theorem atI_get {α : Type} {xs : List α} {i : Int} {v : α} (h : atI xs i = some v) : ∃ j, seqIndex? i xs.length = some j ∧ xs[j]? = some v ∧ j < xs.length ∧ -(xs.length : Int) ≤ i ∧ i < xs.length := by
  unfold atI at h
  cases e : ixN xs.length i with
  | none => rw [e] at h; cases h
  | some j =>
    rw [e] at h
    obtain ⟨h1, h2, h3, h4⟩ := ixN_seq e
    exact ⟨j, h1, h, h2, h3, h4⟩
theorem atI_nat {α : Type} {xs : List α} {j : Nat} {v : α} (h : xs[j]? = some v) : atI xs (j : Int) = some v := by
  have hj : j < xs.length := (List.getElem?_eq_some_iff.mp h).1
  have e : ixN xs.length (j : Int) = some j := by
    unfold ixN
    rw [if_pos (by omega), if_pos (by omega)]; simp
  unfold atI; rw [e]; exact h
/-- what stands as an index of a plain subscript -/
def PlainIx (b : Expr) : Prop := ∀ o i, subscripted b false o i = operate [o, i] (getItem o i)
/-- a subscript by values -/
def IxR (X : Cx) (r : R2) : Prop :=
  ∀ (value slice : Expr) (pins : List (Addr × Obj)) (s : Shared) (σ : St) (H : Hp) (x y : V) (v u : Value) (Q : VK), Inv X pins σ H s → RelV x v → RelV y u → r x y H Q →
    subscripted slice false v u = operate [v, u] (getItem v u) → wpAny (model X.prog X.w) X.A (subscriptTail value slice v u) (EP X pins σ Q) X.xe s
/-- a call of a builtin's method by values: the receiver, the arguments -/
def MtR (X : Cx) (id : String) (r : V → List V → Hp → VK → Prop) : Prop :=
  ∀ (pins : List (Addr × Obj)) (s : Shared) (σ : St) (H : Hp) (x : V) (xs : List V) (v : Value) (us : List Value) (Q : VK), Inv X pins σ H s → RelV x v → Vals xs us → r x xs H Q →
    wpAny (model X.prog X.w) X.A (call (.builtin id) (v :: us)) (EP X pins σ Q) X.xe s
section
variable {X : Cx} {a b : Expr} {ta tb : TE} {pos : Pos}
/-- a[b] -/
theorem pe_ix {r : R2} (hr : IxR X r) (ha : PE X a ta) (hb : PE X b tb) (hs : PlainIx b) : PE X (.Subscript a b pos) (tOp r ta tb) := by
  intro pins s σ H Q I h
  exact Subscript_ (binT ha hb I h fun v u s2 x y H2 I2 rx ry q => hr a b pins s2 σ H2 x y v u Q I2 rx ry q (hs _ _))

def rIxL (K : PySem.W.Frag) : R2 := fun x y H Q => ∃ p xs i v, x = .ref p ∧ y = .int i ∧ SqL K H p xs ∧ atI xs i = some v ∧ Q v H
def rIxT (K : PySem.W.Frag) : R2 := fun x y H Q => ∃ p xs i v, x = .ref p ∧ y = .int i ∧ SqT K H p xs ∧ atI xs i = some v ∧ Q v H
theorem ix_list : IxR X (rIxL X.K) := by
  intro value slice pins s σ H x y v u Q I rx ry h hs
  obtain ⟨p, xs, i, z, rfl, rfl, hq, he, q⟩ := h
  cases rx
  obtain ⟨t, rfl⟩ := ry
  obtain ⟨its, r, pl, hz⟩ := I.list hq
  obtain ⟨j, h1, h2, h3, h4, h5⟩ := atI_get he
  obtain ⟨w, ew, rw'⟩ := r.get h2
  have hl := r.length
  have hn := line63
  have fin : EP X pins σ Q w s := ⟨z, H, I, rw', q⟩
  by_cases h0 : 0 ≤ i
  · have hj : i.toNat = j := by
      rw [seqIndex_of h0 h5] at h1
      exact Option.some.inj h1
    exact item_listR pl.isList h0 (by omega) (by rw [hj]; simpa using ew) fin hs
  · have hj : (i + (its.toArray.size : Int)).toNat = j := by
      rw [seqIndex_neg (by omega) h4] at h1
      rw [List.size_toArray, ← hl]
      exact Option.some.inj h1
    exact subscriptTail_builtinR (x := w) pl.isList.typeIs slot_list_getitem.lookup
      (wpAny_getItem_list_neg (Q := fun r s' => r = w ∧ EP X pins σ Q r s') pl.isList (by omega) (by rw [List.size_toArray] <;> omega) (by omega) (by rw [hj]; simpa using ew) ⟨rfl, fin⟩) hs
theorem ix_tup : IxR X (rIxT X.K) := by
  intro value slice pins s σ H x y v u Q I rx ry h hs
  obtain ⟨p, xs, i, z, rfl, rfl, hq, he, q⟩ := h
  cases rx
  obtain ⟨t, rfl⟩ := ry
  obtain ⟨its, r, pl, hz⟩ := I.tuple hq
  obtain ⟨j, h1, h2, h3, h4, h5⟩ := atI_get he
  obtain ⟨w, ew, rw'⟩ := r.get h2
  have hl := r.length
  have hn := line63
  have fin : EP X pins σ Q w s := ⟨z, H, I, rw', q⟩
  exact subscriptTail_builtinR (x := w) pl.typeIs slot_tuple_getitem.lookup
    (getItem_tuple (j := j) (Q := fun r s' => r = w ∧ EP X pins σ Q r s') pl (by omega) (by omega) (by rw [List.size_toArray, ← hl]; exact h1) (by simpa using ew) ⟨rfl, fin⟩) hs
/-- the list's object behind a store -/
theorem mapSeq_set (its : List Value) (n j : Nat) (u : Value) : Obj.mapSeq (·.setIfInBounds j u) { cls := .type "list", data := .seq its.toArray n } = { cls := .type "list", data := .seq (its.set j u).toArray n } := by
  simp [Obj.mapSeq]
theorem Inv.lst {pins : List (Addr × Obj)} {σ : St} {H : Hp} {s : Shared} {p : Addr} {xs : List V} (I : Inv X pins σ H s) (h : H p = some (.lst xs)) :
    ∃ (its : List Value) (n : Nat), Vals xs its ∧ s.heap.get? p = some { cls := .type "list", data := .seq its.toArray n } ∧ xs.length ≤ sizeLine := by
  obtain ⟨z, its, n, r, e⟩ := I.hok p _ h
  exact ⟨its, n, r, e, z⟩
/-- the list at p is written by an update of its object -/
theorem Inv.lstUpd {pins : List (Addr × Obj)} {σ : St} {H : Hp} {s : Shared} {p : Addr} {xs ys : List V} {its its' : List Value} {n n' : Nat} {f : Obj → Obj} (I : Inv X pins σ H s) (h : H p = some (.lst xs))
    (ho : s.heap.get? p = some { cls := .type "list", data := .seq its.toArray n }) (hf : f { cls := .type "list", data := .seq its.toArray n } = { cls := .type "list", data := .seq its'.toArray n' }) (r : Vals ys its') (hz : ys.length ≤ sizeLine) (t : Nat) :
    Inv X pins σ (upd H p (.lst ys)) { s with heap := s.heap.update p f, toks := t } := by
  have e : (s.heap.update p f).get? p = some { cls := .type "list", data := .seq its'.toArray n' } := by
    rw [Heap.get?_update_self f ho (by rw [hf] <;> rfl), hf]
  refine I.write (x := p) (e := p) (by rw [h]; trivial) (.inl rfl) (fun b u hb q => (Heap.get?_update_other _ _ (Ne.symm hb)).trans q) ⟨_, e⟩ ?_
  exact ⟨hz, its', n', r, e⟩
def rSetL : V → V → V → Hp → (Hp → Prop) → Prop := fun o i v H Q => ∃ p xs k j, o = .ref p ∧ i = .int k ∧ H p = some (.lst xs) ∧ ixN xs.length k = some j ∧ Q (upd H p (.lst (xs.set j v)))
theorem set_list : PSet X rSetL := by
  intro pins s σ H o i v ov iv u Q I ro ri rv h
  obtain ⟨p, xs, k, j, rfl, rfl, hp, hj, q⟩ := h
  cases ro
  obtain ⟨t, rfl⟩ := ri
  obtain ⟨its, n, r, ho, hz⟩ := I.lst hp
  obtain ⟨h1, h2, h3, h4⟩ := ixN_seq hj
  have hl := r.length
  have hn := line63
  have I' : Inv X pins σ (upd H p (.lst (xs.set j v))) { s with heap := s.heap.update p (Obj.mapSeq (·.setIfInBounds j u)) } :=
    I.lstUpd hp ho (mapSeq_set its n j u) (r.set rv j) (by rw [List.length_set]; exact hz) s.toks
  by_cases h0 : 0 ≤ k
  · have hk : k.toNat = j := by
      rw [seqIndex_of h0 h4] at h1
      exact Option.some.inj h1
    exact PySem.W.ki_setAt ho h0 (by omega) (by rw [List.size_toArray, ← hl]; exact h4) (by rw [hk]; exact ⟨_, I', q⟩)
  · have hk : (k + (its.toArray.size : Int)).toNat = j := by
      rw [seqIndex_neg (by omega) h3] at h1
      rw [List.size_toArray, ← hl]
      exact Option.some.inj h1
    exact PySem.W.ki_setBack ho (by omega) (by rw [List.size_toArray, ← hl]; exact h3) (by omega) (by rw [hk]; exact ⟨_, I', q⟩)

theorem slice_bounds (lo hi : Option Int) (n : Nat) : (sliceBounds lo hi none n).1 = ((HT.sIx n 0 lo : Nat) : Int) ∧ (sliceBounds lo hi none n).2.1 = ((HT.sIx n n hi : Nat) : Int) ∧ (sliceBounds lo hi none n).2.2 = 1 := by
  refine ⟨?_, ?_, rfl⟩
  · cases lo with
    | none => simp [sliceBounds, HT.sIx]
    | some i =>
      simp only [sliceBounds, HT.sIx, Option.getD_none, show (1 : Int) > 0 by decide, if_true]
      by_cases h : i < 0
      · simp only [h, if_true] <;> omega
      · simp only [h, if_false] <;> omega
  · cases hi with
    | none => simp [sliceBounds, HT.sIx]
    | some i =>
      simp only [sliceBounds, HT.sIx, Option.getD_none, show (1 : Int) > 0 by decide, if_true]
      by_cases h : i < 0
      · simp only [h, if_true] <;> omega
      · simp only [h, if_false] <;> omega
theorem slicePick_cut (its : List Value) (lo hi : Option Int) : slicePick its.toArray lo hi none = ((its.drop (HT.sIx its.length 0 lo)).take (HT.sIx its.length its.length hi - HT.sIx its.length 0 lo)).toArray := by
  obtain ⟨h1, h2, h3⟩ := slice_bounds lo hi its.toArray.size
  unfold slicePick
  rw [h1, h2, h3]
  simp only [sliceRange_one, pick_run, List.size_toArray] <;> rfl
/-- xs[lo:hi] of a list: a new list -/
def rSlL (K : PySem.W.Frag) : V → Option Int → Option Int → Hp → VK → Prop := fun x lo hi H Q => ∃ a xs, x = .ref a ∧ SqL K H a xs ∧ ∀ p, H p = none → Q (.ref p) (upd H p (.lst (cutV xs lo hi)))
theorem sl_list : SlR X (rSlL X.K) := by
  intro pins s σ H x v vl vu lo hi sl Q I rx hs pl pu h
  obtain ⟨a, xs, rfl, hx, q⟩ := h
  cases rx
  obtain ⟨its, r, ht, hz⟩ := I.list hx
  have hlen := r.length
  refine ⟨"list", _, slot_list_getitem.lookup, ht.isList.typeIs, ?_⟩
  refine wpAny_getItem_list_slice ht.isList hs pl pu .none (by simp) ?_ (by rw [List.size_toArray] <;> omega)
  rw [slicePick_cut, ← hlen]
  refine ⟨.ref s.heap.objs.size, _, I.laid (t' := s.toks) (o := .lst (cutV xs lo hi)) (fun b ob q => Heap.get?_push_of_some _ q) (Nat.le_refl _) ?_, rfl, q _ (I.hok.fresh (Nat.le_refl _))⟩
  exact ⟨Nat.le_trans (cutV_length xs lo hi) hz, _, 0, (r.drop (HT.sIx xs.length 0 lo)).take (HT.sIx xs.length xs.length hi - HT.sIx xs.length 0 lo), Heap.get?_push_size _ rfl⟩

theorem call_len_seq : CallR X (.builtin "len") (fun xs H Q => ∃ p ys, xs = [.ref p] ∧ (SqL X.K H p ys ∨ SqT X.K H p ys) ∧ Q (.int ys.length) H) := by
  intro pins s σ H xs us Q I r h
  obtain ⟨p, ys, rfl, hq, q⟩ := h
  obtain ⟨u, rfl, rx⟩ := vals1 r
  cases rx
  have hn := line63
  rcases hq with hq | hq
  · obtain ⟨its, r', pl, hz⟩ := I.list hq
    have hlen := r'.length
    exact Calls.call_len_list pl.isList (by simp only [List.size_toArray] <;> omega) ⟨.int ys.length, H, I.tok _, ⟨s.toks + 1, by rw [List.size_toArray, hlen]⟩, q⟩
  · obtain ⟨its, r', pl, hz⟩ := I.tuple hq
    have hlen := r'.length
    exact len_tuple pl (by simp only [List.size_toArray] <;> omega) ⟨.int ys.length, H, I.tok _, ⟨s.toks + 1, by rw [List.size_toArray, hlen]⟩, q⟩
/-- the value is of that builtin type -/
def tyV (K : PySem.W.Frag) (T : String) (x : V) (H : Hp) : Prop := match x with
  | .str _ => T = "str"
  | .int _ => T = "int"
  | .ref p => (T = "list" ∧ ∃ xs, SqL K H p xs) ∨ (T = "tuple" ∧ ∃ o, K.lookup p = some o ∧ o.cls = .type "tuple" ∧ o.dict = none) ∨
      (T = "dict" ∧ ((∃ kvs, H p = some (.dK kvs)) ∨ ∃ kvs, H p = some (.dT kvs))) ∨ (T = "set" ∧ ∃ S n, H p = some (.set S n))
  | _ => False
theorem tyV_is {pins : List (Addr × Obj)} {σ : St} {H : Hp} {s : Shared} {T : String} {x : V} {v : Value} (I : Inv X pins σ H s) (r : RelV x v) (ty : tyV X.K T x H) :
    s.TypeIs v T ∧ ∀ a, v = .ref a → ∃ ob, s.heap.get? a = some ob ∧ ob.dict = none := by
  cases x with
  | str z =>
    obtain ⟨t, rfl⟩ := r
    cases (show T = "str" from ty)
    exact ⟨typeIs_str s z t, fun _ e => nomatch e⟩
  | int i =>
    obtain ⟨t, rfl⟩ := r
    cases (show T = "int" from ty)
    exact ⟨typeIs_int s i t, fun _ e => nomatch e⟩
  | ref p =>
    cases r
    rcases ty with ⟨rfl, xs, hq⟩ | ⟨rfl, o, hk, hc, hd⟩ | ⟨rfl, hk⟩ | ⟨rfl, S, n, hk⟩
    · obtain ⟨its, _, pl, _⟩ := I.list hq
      refine ⟨pl.isList.typeIs, fun a e => ?_⟩
      cases e
      obtain ⟨o, n, e, c, hd, _⟩ := pl
      exact ⟨o, e, hd⟩
    · refine ⟨⟨o, I.kIn p o hk, hc⟩, fun a e => ?_⟩
      cases e
      exact ⟨o, I.kIn _ o hk, hd⟩
    · have z : ∃ o, s.heap.get? p = some o ∧ o.ExactDict := by
        rcases hk with ⟨kvs, hk⟩ | ⟨kvs, hk⟩
        · obtain ⟨_, _, _, _, o, _, _, e, ex, _⟩ := I.hok p _ hk
          exact ⟨o, e, ex⟩
        · obtain ⟨_, _, _, _, o, _, _, e, ex, _⟩ := I.hok p _ hk
          exact ⟨o, e, ex⟩
      obtain ⟨o, e, ex⟩ := z
      refine ⟨⟨o, e, ex.1⟩, fun a e2 => ?_⟩
      cases e2
      exact ⟨o, e, ex.2.1⟩
    · obtain ⟨o, _, _, _, e, ex, _⟩ := I.hok p _ hk
      refine ⟨⟨o, e, ex.1⟩, fun a e2 => ?_⟩
      cases e2
      exact ⟨o, e, ex.2.1⟩
  | _ => exact False.elim ty
def tBM0 (K : PySem.W.Frag) (T : String) (r : V → List V → Hp → VK → Prop) (to : TE) : TE := fun σ H Q => to σ H fun x H1 => tyV K T x H1 ∧ r x [] H1 Q
def tBM (K : PySem.W.Frag) (T : String) (r : V → List V → Hp → VK → Prop) (to : TE) (t : TA) : TE := fun σ H Q => to σ H fun x H1 => tyV K T x H1 ∧ t σ H1 fun xs H2 => r x xs H2 Q
variable {o e : Expr} {es : List Expr} {to : TE} {t : TA} {name : Str} {apos cpos : Pos} {T id : String} {r : V → List V → Hp → VK → Prop}
theorem pe_bm0 (pa : PlainAttrs T) (slot : Slot T name id) (hty : typeOf (.builtin id) = pure (.type "method_descriptor")) (hm : MtR X id r) (ho : PE X o to)
    (hbase : attributeBase o name X.env (eval o X.env) = eval o X.env := by rfl) (hline : (apos.endLine == cpos.line) = true := by rfl) : PE X (.Call (.Attribute o name apos) [] [] cpos) (tBM0 X.K T r to) := by
  intro pins s σ H Q I h
  refine wpAny_Call_method0_late hbase hline (thn (ho pins s σ H _ I h) fun v s1 ⟨x, H1, I1, r1, ty, q1⟩ => ?_)
  obtain ⟨h1, h2⟩ := tyV_is I1 r1 ty
  exact ⟨T, id, pa, slot, hty, h1, h2, Calls.callWith_builtin rfl (PySem.evalArgs_none (hm pins s1 σ H1 x [] v [] Q I1 r1 .nil q1))⟩
theorem pe_bm (pa : PlainAttrs T) (slot : Slot T name id) (hty : typeOf (.builtin id) = pure (.type "method_descriptor")) (hm : MtR X id r) (ho : PE X o to) (ha : PA X (e :: es) t)
    (hbase : attributeBase o name X.env (eval o X.env) = eval o X.env := by rfl)
    (hfew : ((backTo cpos (starEach (e :: es) X.env)).all (fun x => !x.1) && (backToKw cpos (keywordEach [] X.env)).all (fun x => x.1.isSome)
      && decide ((e :: es).length + ([] : List Keyword).length + (if ([] : List Keyword).isEmpty then 0 else 1) < 30)) = true := by rfl)
    (hline : (apos.endLine == cpos.line) = true := by rfl) (hs : starEach (e :: es) X.env = (false, eval e X.env) :: starEach es X.env := by rfl) (hplain : (backTo cpos (starEach es X.env)).any (·.1) = false := by rfl) :
    PE X (.Call (.Attribute o name apos) (e :: es) [] cpos) (tBM X.K T r to t) := by
  intro pins s σ H Q I h
  refine wpAny_Call_method_late hbase hfew hline rfl (thn (ho pins s σ H _ I h) fun v s1 ⟨x, H1, I1, r1, ty, q1⟩ => ?_)
  obtain ⟨h1, h2⟩ := tyV_is I1 r1 ty
  refine ⟨T, id, pa, slot, hty, h1, h2, ?_⟩
  have hA := ha cpos pins s1 σ H1 _ I1 q1
  rw [hs] at hA ⊢
  refine Calls.callWith_builtin (by show (false || (backTo cpos (starEach es X.env)).any (·.1)) = false; rw [hplain] <;> rfl) (Calls.evalArgs_plain ?_)
  exact thn hA fun us s2 ⟨vs, H2, I2, r2, q2⟩ => hm pins s2 σ H2 x vs v us Q I2 r1 r2 q2
end
end L2

namespace L2
open PySem PySem.Spec PyProof.Rows

def MtM (X : Cx) (id : String) (r : V → List V → Hp → VK → Prop) : Prop :=
  ∀ (pins : List (Addr × Obj)) (s : Shared) (σ : St) (H : Hp) (x : V) (xs : List V) (v : Value) (us : List Value) (Q : VK), Inv X pins σ H s → RelV x v → Vals xs us → r x xs H Q →
    wpAny (model X.prog X.w) X.A (call (.builtin id) (v :: us)) (EP X pins σ Q) X.xe s

theorem Vals.one : ∀ {x : V} {us : List Value}, Vals [x] us → ∃ u, us = [u] ∧ RelV x u
  | _, _, .cons r .nil => ⟨_, rfl, r⟩
theorem Vals.zero : ∀ {us : List Value}, Vals [] us → us = []
  | _, .nil => rfl
theorem Vals.dropLast {xs : List V} {us : List Value} (h : Vals xs us) : Vals xs.dropLast us.dropLast := by
  induction h with
  | nil => exact .nil
  | cons r t ih =>
    cases t with
    | nil => exact .nil
    | cons q t' => exact .cons r ih
theorem Vals.rep {xs : List V} {us : List Value} (h : Vals xs us) : ∀ k : Nat, Vals (List.replicate k xs).flatten (List.replicate k us).flatten
  | 0 => .nil
  | k + 1 => by
    rw [List.replicate_succ, List.replicate_succ, List.flatten_cons, List.flatten_cons]
    exact Vals.append h (Vals.rep h k)
theorem erase_last {α : Type} (l : List α) : l.eraseIdx (l.length - 1) = l.dropLast := by
  induction l with
  | nil => rfl
  | cons a r ih =>
    cases r with
    | nil => rfl
    | cons b r =>
      have e : (a :: b :: r).length - 1 = ((b :: r).length - 1) + 1 := by
        have h1 : (a :: b :: r).length = r.length + 2 := rfl
        have h2 : (b :: r).length = r.length + 1 := rfl
        omega
      rw [e, List.eraseIdx_cons_succ, ih]
      all_goals rfl
theorem foldl_rep (its : List Value) : ∀ (k : Nat) (acc : List Value),
    List.foldl (fun x1 x2 => x1 ++ x2) acc.toArray (List.replicate k its.toArray) = (acc ++ (List.replicate k its).flatten).toArray
  | 0, acc => by simp
  | k + 1, acc => by
    have e : acc.toArray ++ its.toArray = (acc ++ its).toArray := by simp
    have e2 : (acc ++ its) ++ (List.replicate k its).flatten = acc ++ (List.replicate (k + 1) its).flatten := by
      rw [List.replicate_succ, List.flatten_cons, List.append_assoc]
    rw [← e2, ← foldl_rep its k (acc ++ its), ← e, List.replicate_succ, List.foldl_cons]

section
variable {X : Cx} {pins : List (Addr × Obj)} {σ : St} {H : Hp} {s : Shared} {l b : Addr} {xs ys zs : List V}

theorem Inv.lset {its its' : List Value} {n : Nat} {f : Array Value → Array Value} {t' : Nat} (I : Inv X pins σ H s) (hH : H l = some (.lst xs))
    (e : s.heap.get? l = some { cls := .type "list", data := .seq its.toArray n }) (hf : f its.toArray = its'.toArray) (hv : Vals ys its') (hz : ys.length ≤ sizeLine) :
    Inv X pins σ (upd H l (.lst ys)) { s with heap := s.heap.update l (Obj.mapSeq f), toks := t' } := by
  have q := PySem.IsL.update e f
  rw [hf] at q
  refine I.write (x := l) (e := l) (by rw [hH]; exact trivial) (.inl rfl) (fun b' u hb hu => (Heap.get?_update_other s.heap (Obj.mapSeq f) (Ne.symm hb)).trans hu) ⟨_, q⟩ ?_
  exact ⟨hz, its', _, hv, q⟩
theorem Inv.lnew {its : List Value} {t' : Nat} (I : Inv X pins σ H s) (hv : Vals ys its) (hz : ys.length ≤ sizeLine) :
    Inv X pins σ (upd H s.heap.objs.size (.lst ys)) { s with heap := s.heap.push { cls := .type "list", data := .seq its.toArray }, toks := t' } :=
  I.laid (fun _ _ q => Heap.get?_push_of_some _ q) (Nat.le_refl _) ⟨hz, its, 0, hv, Heap.get?_push_size _ rfl⟩
theorem Inv.fresh (I : Inv X pins σ H s) : H s.heap.objs.size = none := I.hok.fresh (Nat.le_refl _)
theorem Inv.lstM (I : Inv X pins σ H s) (hH : H l = some (.lst xs)) : xs.length ≤ sizeLine ∧ ∃ (its : List Value) (n : Nat), Vals xs its ∧ xs.length = its.length ∧ s.heap.get? l = some { cls := .type "list", data := .seq its.toArray n } := by
  obtain ⟨z, its, n, r, e⟩ := I.hok l _ hH
  exact ⟨z, its, n, r, r.length, e⟩

theorem notLongL {n : Nat} (h : n ≤ sizeLine) : Builtin.List.listTooLong n = false := by
  unfold Builtin.List.listTooLong
  exact decide_eq_false (by omega)
end

section
variable {X : Cx}

def rAppend : V → List V → Hp → VK → Prop := fun x vs H Q => ∃ l xs y, x = .ref l ∧ vs = [y] ∧ H l = some (.lst xs) ∧ xs.length < sizeLine ∧ Q .non (upd H l (.lst (xs ++ [y])))
theorem mt_append : MtM X "list.append" rAppend := by
  intro pins s σ H x vs v us Q I rx rv h
  obtain ⟨l, xs, y, rfl, rfl, hH, hz, q⟩ := h
  cases rx
  obtain ⟨u, rfl, ru⟩ := rv.one
  obtain ⟨z, its, n, r, hl, e⟩ := I.lstM hH
  refine call_meets F.slot_list_append ⟨_, e, rfl⟩ F.entry_list_append (F.args_list_append_2 _ _) (PySem.list_append l its.toArray n u (by rw [List.size_toArray]; omega)) ⟨e, ?_⟩
  refine ⟨.non, _, I.lset (its' := its ++ [u]) hH e (by simp) (r.append (.cons ru .nil)) ?_, rfl, q⟩
  rw [List.length_append, List.length_singleton]
  omega

def rExtend : V → List V → Hp → VK → Prop := fun x vs H Q => ∃ l b xs zs, x = .ref l ∧ vs = [.ref b] ∧ H l = some (.lst xs) ∧ H b = some (.lst zs) ∧ xs.length + zs.length ≤ sizeLine ∧ Q .non (upd H l (.lst (xs ++ zs)))
theorem mt_extend : MtM X "list.extend" rExtend := by
  intro pins s σ H x vs v us Q I rx rv h
  obtain ⟨l, b, xs, zs, rfl, rfl, hH, hB, hz, q⟩ := h
  cases rx
  obtain ⟨u, rfl, ru⟩ := rv.one
  cases ru
  obtain ⟨z, its, n, r, hl, e⟩ := I.lstM hH
  obtain ⟨z2, its2, n2, r2, hl2, e2⟩ := I.lstM hB
  have hsz : its.toArray.size + its2.toArray.size ≤ sizeLine := by rw [List.size_toArray, List.size_toArray]; omega
  have hlong : ¬ (!its.toArray.isEmpty && Builtin.List.listTooLong (its.toArray.size + its2.toArray.size)) = true := by
    rw [notLongL hsz, Bool.and_false]
    exact Bool.false_ne_true
  refine call_meets F.slot_list_extend ⟨_, e, rfl⟩ F.entry_list_extend (F.args_list_extend_2 _ _)
    (AutoSeq1.list_extend_list_list_0 l its.toArray n b its2.toArray n2 hlong (by rw [List.size_toArray]; omega) (by omega)) ⟨e, e2, ?_⟩
  refine ⟨.non, _, I.lset (its' := its ++ its2) hH e (by simp) (r.append r2) ?_, rfl, q⟩
  rw [List.length_append]
  omega

def rPop : V → List V → Hp → VK → Prop := fun x vs H Q => ∃ l xs y, x = .ref l ∧ vs = [] ∧ H l = some (.lst xs) ∧ xs[xs.length - 1]? = some y ∧ Q y (upd H l (.lst xs.dropLast))
theorem mt_pop : MtM X "list.pop" rPop := by
  intro pins s σ H x vs v us Q I rx rv h
  obtain ⟨l, xs, y, rfl, rfl, hH, hy, q⟩ := h
  cases rx
  have hus := rv.zero
  subst hus
  obtain ⟨z, its, n, r, hl, e⟩ := I.lstM hH
  obtain ⟨u, hu, ru⟩ := r.get hy
  have hy' : its.toArray[its.toArray.size - 1]? = some u := by
    show its.toArray[its.length - 1]? = some u
    rw [← Array.getElem?_toList, ← hl]
    exact hu
  refine call_meets F.slot_list_pop ⟨_, e, rfl⟩ F.entry_list_pop (F.args_list_pop_1 _) (MeetsSeq.list_pop_last l its.toArray n u hy' (by rw [List.size_toArray]; omega)) ⟨e, ?_⟩
  refine ⟨y, _, I.lset (its' := its.dropLast) hH e ?_ r.dropLast ?_, ru, q⟩
  · show its.toArray.eraseIdxIfInBounds (its.toArray.size - 1) = its.dropLast.toArray
    rw [List.size_toArray, List.eraseIdxIfInBounds_toArray, erase_last]
  · rw [List.length_dropLast]
    omega

def rCat : R2 := fun x y H Q => ∃ l b xs zs, x = .ref l ∧ y = .ref b ∧ H l = some (.lst xs) ∧ H b = some (.lst zs) ∧ xs.length + zs.length ≤ sizeLine ∧ ∀ p, H p = none → Q (.ref p) (upd H p (.lst (xs ++ zs)))
theorem op_cat : OpR X (binaryOp .Add) rCat := by
  intro pins s σ H x y v u Q I rx ry h
  obtain ⟨l, b, xs, zs, rfl, rfl, hH, hB, hz, q⟩ := h
  cases rx
  cases ry
  obtain ⟨z, its, n, r, hl, e⟩ := I.lstM hH
  obtain ⟨z2, its2, n2, r2, hl2, e2⟩ := I.lstM hB
  refine PySem.P.add_list e e2 ?_ (by rw [List.size_toArray, List.size_toArray]; omega)
  have ea : its.toArray ++ its2.toArray = (its ++ its2).toArray := by simp
  rw [ea]
  exact ⟨.ref _, _, I.lnew (t' := s.toks) (r.append r2) (by rw [List.length_append]; omega), rfl, q _ I.fresh⟩
/-- a list times an int (a negative one is nothing) -/
def rRep : R2 := fun x y H Q => ∃ l k xs, x = .ref l ∧ y = .int k ∧ H l = some (.lst xs) ∧ -(2 ^ 63) ≤ k ∧ k < 2 ^ 63 ∧ xs.length * k.toNat ≤ sizeLine ∧
  ∀ p, H p = none → Q (.ref p) (upd H p (.lst (List.replicate k.toNat xs).flatten))
theorem len_rep {α : Type} (xs : List α) (k : Nat) : (List.replicate k xs).flatten.length = k * xs.length := by
  induction k with
  | zero => simp
  | succ k ih => rw [List.replicate_succ, List.flatten_cons, List.length_append, ih, Nat.succ_mul, Nat.add_comm]
theorem op_rep : OpR X (binaryOp .Mult) rRep := by
  intro pins s σ H x y v u Q I rx ry h
  obtain ⟨l, k, xs, rfl, rfl, hH, h1, h2, hz, q⟩ := h
  cases rx
  obtain ⟨t, rfl⟩ := ry
  obtain ⟨z, its, n, r, hl, e⟩ := I.lstM hH
  have hlen : its.toArray.size * k.toNat ≤ sizeLine := by rw [List.size_toArray, ← hl]; exact hz
  have hcap : ¬ its.toArray.size * k.toNat > (2 ^ 63 - 1) / 8 := by
    have : (sizeLine : Nat) ≤ (2 ^ 63 - 1) / 8 := by decide
    omega
  have hfit : ¬ (!Builtin.List.listFitsIndex k) = true := by
    rw [fitsIndex_both h1 h2]
    exact Bool.false_ne_true
  have hlong : ¬ Builtin.List.listTooLong (its.toArray.size * k.toNat) = true := by
    rw [notLongL hlen]
    exact Bool.false_ne_true
  have hnew : List.foldl (fun x1 x2 => x1 ++ x2) #[] (List.replicate (if its.toArray.isEmpty = true then 0 else k.toNat) its.toArray) = (List.replicate k.toNat its).flatten.toArray := by
    have f0 : ∀ m : Nat, List.foldl (fun x1 x2 => x1 ++ x2) #[] (List.replicate m its.toArray) = (List.replicate m its).flatten.toArray := fun m => by
      have := foldl_rep its m []
      rw [List.nil_append] at this
      exact this
    rw [f0]
    cases its with
    | nil => simp
    | cons a r' => rw [if_neg (by simp)]
  refine wpAny_binaryOp_repeat_ref (T := "list") (U := "int") (by decide) ⟨_, e, rfl⟩ (fun s' => typeIs_int s' k t) noFill_list_mul F.fills_int_mul F.slot_int_rmul repeat_list F.slot_int_index.lookup
    (call_meets F.slot_int_rmul (typeIs_int s k t) F.entry_int_rmul (F.args_int_rmul_2 _ _) (int___rmul___int_list k t l its.toArray n)
      ⟨e, rfl, ⟨_, e, rfl⟩, call_meets F.slot_list_mul ⟨_, e, rfl⟩ F.entry_list_mul (F.args_list_mul_2 _ _) (AutoListH.list___mul___list_int_3 l its.toArray n k t hfit hcap hlong) ⟨e, ?_⟩⟩)
  rw [hnew]
  exact ⟨.ref _, _, I.lnew (t' := s.toks) (r.rep k.toNat) (by rw [len_rep, Nat.mul_comm]; exact hz), rfl, q _ I.fresh⟩

end

section
variable {prog : Program} {w : World} {A : Around} {E : Value → Shared → Prop} {s : Shared}
set_option maxRecDepth 100000 in
end

section
variable {X : Cx}
end
end L2

namespace L2
open PySem PySem.Spec PyProof.Rows

theorem Vals.ints : ∀ {ns : List Int} {us : List Value}, Vals (ns.map V.int) us → IntsAre us ns
  | [], us, h => by
    rw [List.map_nil] at h
    cases h
    exact IntsAre.nil
  | n :: ns, us, h => by
    rw [List.map_cons] at h
    cases h with
    | cons r t =>
      obtain ⟨k, rfl⟩ := r
      exact IntsAre.cons n k (Vals.ints t)
theorem vals_of_ints : ∀ {us : List Value} {ns : List Int}, IntsAre us ns → Vals (ns.map V.int) us
  | _, _, .nil => by rw [List.map_nil]; exact Paired.nil
  | _, _, .cons n t h => by rw [List.map_cons]; exact Paired.cons (show RelV (V.int n) (Value.int n t) from ⟨t, rfl⟩) (vals_of_ints h)
theorem Vals.ref1 {a : Addr} {us : List Value} (r : Vals [V.ref a] us) : us = [Value.ref a] := by
  cases r with
  | cons r t =>
    cases t
    cases r
    rfl
section
variable {prog : Program} {w : World} {A : Around} {E : Value → Shared → Prop} {s : Shared} {l : Addr} {its : List Value} {ns : List Int} {Q : Value → Shared → Prop}
end

section
variable {X : Cx}
def rSorted (K : PySem.W.Frag) : List V → Hp → VK → Prop := fun vs H Q => ∃ (a : Addr) (ns : List Int), vs = [V.ref a] ∧ SqL K H a (ns.map V.int) ∧ ns.length < 64 ∧
  ∀ (ns' : List Int) (p : Addr), ns'.Perm ns → ns'.Pairwise (· ≤ ·) → H p = none → Q (.ref p) (upd H p (.lst (ns'.map V.int)))
theorem small64 {n : Nat} (h : n < 64) : n ≤ sizeLine := by rw [sizeLine_eq]; omega
theorem cr_sorted : CallR X (.builtin "sorted") (rSorted X.K) := by
  intro pins s σ H vs us Q I r h
  obtain ⟨a, ns, rfl, hs, h64, q⟩ := h
  obtain ⟨its, rv, hl, _⟩ := I.list hs
  rw [Vals.ref1 r]
  have hi := rv.ints
  refine PyProof.Rows.sorted_ints hl.isList hi (by rw [hi.length]; exact h64) fun out ns' h1 h2 h3 => ?_
  obtain ⟨ep, he'⟩ := PyProof.Rows.sortedAll_at s.heap its out
  have hlen : (ns'.map V.int).length ≤ sizeLine := by rw [List.length_map, h2.length_eq]; exact small64 h64
  exact ⟨.ref _, upd H (s.heap.objs.size + 1) (.lst (ns'.map V.int)), I.laid (t' := s.toks) (fun _ _ => PyProof.Rows.sortedAll_old) (Nat.le_succ _) ⟨hlen, out.toList, ep, vals_of_ints h1, he'⟩, rfl, q ns' _ h2 h3 (I.hok.fresh (Nat.le_succ _))⟩
end

section
variable {X : Cx}
end

section
variable {X : Cx}
end

section
variable {X : Cx}
end

mutual
inductive Dp (K : PySem.W.Frag) (H : Hp) : V → PyData → Prop
  | non : Dp K H .non .none
  | bl (b : Bool) : Dp K H (.bl b) (.bool b)
  | int (i : Int) : Dp K H (.int i) (.int i)
  | str (x : Str) : Dp K H (.str x) (.str x)
  | lst {a : Addr} {xs : List V} {ds : List PyData} : SqL K H a xs → DpAll K H xs ds → Dp K H (.ref a) (.list ds)
  | tup {a : Addr} {xs : List V} {ds : List PyData} : SqT K H a xs → DpAll K H xs ds → Dp K H (.ref a) (.tuple ds)
inductive DpAll (K : PySem.W.Frag) (H : Hp) : List V → List PyData → Prop
  | nil : DpAll K H [] []
  | cons {v : V} {vs : List V} {d : PyData} {ds : List PyData} : Dp K H v d → DpAll K H vs ds → DpAll K H (v :: vs) (d :: ds)
end
section
variable {X : Cx} {pins : List (Addr × Obj)} {σ : St} {H : Hp} {s : Shared}
mutual
theorem Dp.reads (I : Inv X pins σ H s) : ∀ (d : PyData) (v : V) (u : Value), Dp X.K H v d → RelV v u → ∃ as, Reads s.heap u d as
  | .none, _, _, h, r => by
    cases h
    cases r
    exact ⟨_, Reads.none⟩
  | .bool b, _, _, h, r => by
    cases h
    cases r
    exact ⟨_, Reads.bool b⟩
  | .int i, _, _, h, r => by
    cases h
    obtain ⟨t, rfl⟩ := r
    exact ⟨_, Reads.int i t⟩
  | .str x, _, _, h, r => by
    cases h
    obtain ⟨t, rfl⟩ := r
    exact ⟨_, Reads.str x t⟩
  | .list ds, _, _, h, r => by
    cases h with
    | lst hs ha =>
      cases r
      obtain ⟨its, rv, ⟨o, n, ho, hc, _, hd⟩, _⟩ := I.list hs
      obtain ⟨as, hr⟩ := Dp.readsAll I ds _ its ha rv
      exact ⟨_, Reads.list ho hc hd hr⟩
  | .tuple ds, _, _, h, r => by
    cases h with
    | tup hs ha =>
      cases r
      obtain ⟨its, rv, ⟨o, ho, hc, n, hd⟩, _⟩ := I.tuple hs
      obtain ⟨as, hr⟩ := Dp.readsAll I ds _ its ha rv
      exact ⟨_, Reads.tuple ho hc hd hr⟩
  | .dict _, _, _, h, _ => by cases h
theorem Dp.readsAll (I : Inv X pins σ H s) : ∀ (ds : List PyData) (vs : List V) (us : List Value), DpAll X.K H vs ds → Vals vs us → ∃ as, ReadsAll s.heap us ds as
  | [], _, _, h, r => by
    cases h
    cases r
    exact ⟨_, ReadsAll.nil⟩
  | d :: ds, _, _, h, r => by
    cases h with
    | cons h1 h2 =>
      cases r with
      | cons r1 r2 =>
        obtain ⟨as, q1⟩ := Dp.reads I d _ _ h1 r1
        obtain ⟨bs, q2⟩ := Dp.readsAll I ds _ _ h2 r2
        exact ⟨_, ReadsAll.cons q1 q2⟩
end
end
section
variable {X : Cx}
def rEqD (K : PySem.W.Frag) : R2 := fun x y H Q => ∃ d e, Dp K H x d ∧ Dp K H y e ∧ SeqAt.shaped d = true ∧ SeqAt.shaped e = true ∧ Q (.bl (PyData.eqv d e)) H
def rNeD (K : PySem.W.Frag) : R2 := fun x y H Q => ∃ d e, Dp K H x d ∧ Dp K H y e ∧ SeqAt.shaped d = true ∧ SeqAt.shaped e = true ∧ Q (.bl (!PyData.eqv d e)) H
theorem op_eqD (hu : X.A.units + 64 < cLine) : OpR X (compareOp .Eq) (rEqD X.K) := by
  intro pins s σ H x y v u Q I rx ry h
  obtain ⟨d, e, hd, he, sd, se, q⟩ := h
  obtain ⟨as, r1⟩ := Dp.reads I d x v hd rx
  obtain ⟨bs, r2⟩ := Dp.reads I e y u he ry
  exact SeqAt.compareEq_shaped r1 r2 sd se hu ⟨.bl _, H, I, rfl, q⟩
theorem op_neD (hu : X.A.units + 64 < cLine) : OpR X (compareOp .NotEq) (rNeD X.K) := by
  intro pins s σ H x y v u Q I rx ry h
  obtain ⟨d, e, hd, he, sd, se, q⟩ := h
  obtain ⟨as, r1⟩ := Dp.reads I d x v hd rx
  obtain ⟨bs, r2⟩ := Dp.reads I e y u he ry
  exact SeqAt.compareNe_shaped r1 r2 sd se hu ⟨.bl _, H, I, rfl, q⟩
end
end L2

namespace L2
open PySem PySem.Spec PyProof.Rows
abbrev CellAt (h : Heap) (c : Addr) (v : Option Value) : Prop := h.IsCell c v
def relS (scope sc : Scope) : Scope :=
  { scope with names := scope.names.map fun (n, k) => if (k == .free && sc.kind == .function && sc.names.lookup n == some .cell) then (n, .cell) else (n, k) }

def cloFrom (cells : List (Str × Addr)) : List (Str × NameKind) → List (Str × Addr) → List (Str × Addr)
  | [], acc => acc
  | (n, k) :: r, acc => if k == .free then cloFrom cells r ((n, (cells.lookup n).getD 0) :: acc) else cloFrom cells r acc

theorem closure_loop (env : Env) (f : Str × NameKind → List (Str × Addr) → Sem (ForInStep (List (Str × Addr))))
    (hf : ∀ n k c, f (n, k) c = if k == .free then (do let a ← cellOf env n; pure (.yield ((n, a) :: c))) else pure (.yield c)) :
    ∀ (names : List (Str × NameKind)) (acc : List (Str × Addr)), (∀ y ∈ names, y.2 = .free → ∃ c, env.cells.lookup y.1 = some c) → forIn names acc f = pure (cloFrom env.cells names acc)
  | [], acc, _ => by rw [List.forIn_nil]; rfl
  | (n, k) :: r, acc, h => by
    rw [List.forIn_cons, hf]
    have ih := fun acc => closure_loop env f hf r acc fun y hy => h y (List.mem_cons_of_mem _ hy)
    unfold cloFrom
    by_cases hk : (k == NameKind.free) = true
    · rw [if_pos hk, if_pos hk]
      obtain ⟨c, hc⟩ := h (n, k) List.mem_cons_self (by simpa using hk)
      have e : cellOf env n = pure c := by unfold cellOf; rw [hc]
      rw [e]
      have e2 : (env.cells.lookup n).getD 0 = c := by rw [hc]; rfl
      rw [e2]
      exact ih _
    · rw [if_neg hk, if_neg hk]
      exact ih _
theorem closure_ok {scope : Scope} {env : Env} (h : ∀ y ∈ scope.names, y.2 = .free → ∃ c, env.cells.lookup y.1 = some c) : closureFor scope env = pure (cloFrom env.cells scope.names []) := by
  simp only [closureFor]
  rw [closure_loop env _ (fun n k c => rfl) scope.names [] h]
  rfl

theorem mem_lookup {α : Type} : ∀ {l : List (Str × α)} {n : Str} {c : α}, (n, c) ∈ l → ∃ c', l.lookup n = some c'
  | (k, v) :: r, n, c, h => by
    rw [List.lookup_cons]
    cases hb : n == k with
    | true => exact ⟨_, rfl⟩
    | false =>
      rcases List.mem_cons.mp h with e | h
      · cases e; simp at hb
      · exact mem_lookup h

theorem cloFrom_mem {cells : List (Str × Addr)} : ∀ {names : List (Str × NameKind)} {acc : List (Str × Addr)} {n : Str} {c : Addr}, (n, c) ∈ cloFrom cells names acc → (n, c) ∈ acc ∨ ((n, .free) ∈ names ∧ c = (cells.lookup n).getD 0)
  | [], _, _, _, h => .inl h
  | (m, k) :: r, acc, n, c, h => by
    unfold cloFrom at h
    split at h
    · rename_i hk
      have hk : k = .free := by simpa using hk
      rcases cloFrom_mem h with h | ⟨h1, h2⟩
      · rcases List.mem_cons.mp h with e | h
        · cases e; exact .inr ⟨hk ▸ List.mem_cons_self, rfl⟩
        · exact .inl h
      · exact .inr ⟨List.mem_cons_of_mem _ h1, h2⟩
    · rcases cloFrom_mem h with h | ⟨h1, h2⟩
      · exact .inl h
      · exact .inr ⟨List.mem_cons_of_mem _ h1, h2⟩
theorem cloFrom_acc {cells : List (Str × Addr)} : ∀ {names : List (Str × NameKind)} {acc : List (Str × Addr)} {p : Str × Addr}, p ∈ acc → p ∈ cloFrom cells names acc
  | [], _, _, h => h
  | (m, k) :: r, acc, p, h => by
    unfold cloFrom
    split
    · exact cloFrom_acc (List.mem_cons_of_mem _ h)
    · exact cloFrom_acc h
theorem cloFrom_has {cells : List (Str × Addr)} : ∀ {names : List (Str × NameKind)} {acc : List (Str × Addr)} {n : Str}, (n, .free) ∈ names → (n, (cells.lookup n).getD 0) ∈ cloFrom cells names acc
  | (m, k) :: r, acc, n, h => by
    unfold cloFrom
    rcases List.mem_cons.mp h with e | h
    · cases e
      exact cloFrom_acc List.mem_cons_self
    · split
      · exact cloFrom_has h
      · exact cloFrom_has h

theorem cells_mem : ∀ {names : List (Str × NameKind)} {h : Heap} {acc : List (Str × Addr)} {x : Str} {c : Addr}, (x, c) ∈ cellsFrom h.objs.size names acc →
    (x, c) ∈ acc ∨ ((x, .cell) ∈ names ∧ h.objs.size ≤ c ∧ CellAt (pushCells h names) c none)
  | [], _, _, _, _, h => .inl h
  | (n, k) :: r, h, acc, x, c, hm => by
    unfold cellsFrom at hm
    unfold pushCells
    split at hm
    · rename_i hk
      rw [if_pos hk]
      have hk : k = .cell := by simpa using hk
      rw [← Heap.size_push h { cls := .type "cell", data := .cell none }] at hm
      rcases cells_mem hm with hm | ⟨h1, h2, h3⟩
      · rcases List.mem_cons.mp hm with e | hm
        · cases e
          exact .inr ⟨hk ▸ List.mem_cons_self, Nat.le_refl _, _, pushCells_keeps r _ _ _ (Heap.get?_push_size _ rfl), rfl⟩
        · exact .inl hm
      · rw [Heap.size_push] at h2
        exact .inr ⟨List.mem_cons_of_mem _ h1, Nat.le_of_succ_le h2, h3⟩
    · rename_i hk
      rw [if_neg hk]
      rcases cells_mem hm with hm | ⟨h1, h2, h3⟩
      · exact .inl hm
      · exact .inr ⟨List.mem_cons_of_mem _ h1, h2, h3⟩
theorem cells_acc : ∀ {names : List (Str × NameKind)} {n : Nat} {acc : List (Str × Addr)} {p : Str × Addr}, p ∈ acc → p ∈ cellsFrom n names acc
  | [], _, _, _, h => h
  | (m, k) :: r, n, acc, p, h => by
    unfold cellsFrom
    split
    · exact cells_acc (List.mem_cons_of_mem _ h)
    · exact cells_acc h
theorem cells_has : ∀ {names : List (Str × NameKind)} {n : Nat} {acc : List (Str × Addr)} {x : Str}, (x, .cell) ∈ names → ∃ c, (x, c) ∈ cellsFrom n names acc
  | (m, k) :: r, n, acc, x, h => by
    unfold cellsFrom
    rcases List.mem_cons.mp h with e | h
    · cases e
      exact ⟨n, cells_acc List.mem_cons_self⟩
    · split
      · exact cells_has h
      · exact cells_has h
theorem cells_inj : ∀ {names : List (Str × NameKind)} {h : Heap} {acc : List (Str × Addr)} {x y : Str} {c : Addr}, (∀ p ∈ acc, p.2 < h.objs.size) → (∀ x y c, (x, c) ∈ acc → (y, c) ∈ acc → x = y) →
    (x, c) ∈ cellsFrom h.objs.size names acc → (y, c) ∈ cellsFrom h.objs.size names acc → x = y
  | [], _, _, _, _, _, _, hi, h1, h2 => hi _ _ _ h1 h2
  | (n, k) :: r, h, acc, x, y, c, hl, hi, h1, h2 => by
    unfold cellsFrom at h1 h2
    split at h1
    · rename_i hk
      rw [if_pos hk] at h2
      rw [← Heap.size_push h { cls := .type "cell", data := .cell none }] at h1 h2
      refine cells_inj (h := h.push _) (fun p hp => ?_) (fun x y c a b => ?_) h1 h2
      · rw [Heap.size_push]
        rcases List.mem_cons.mp hp with rfl | hp
        · exact Nat.lt_succ_self _
        · exact Nat.lt_succ_of_lt (hl p hp)
      · rcases List.mem_cons.mp a with e | a <;> rcases List.mem_cons.mp b with e' | b
        · cases e; cases e'; rfl
        · cases e; exact absurd (hl _ b) (Nat.lt_irrefl _)
        · cases e'; exact absurd (hl _ a) (Nat.lt_irrefl _)
        · exact hi _ _ _ a b
    · rename_i hk
      rw [if_neg hk] at h2
      exact cells_inj hl hi h1 h2

theorem newEnv_comp {M : Model} {A : Around} {E : Value → Shared → Prop} {s : Shared} {scope : Scope} {globals : Addr} {closure : List (Str × Addr)} {qual : Str} {func : Option Addr} {code : Value} {around : Env} {builtins : Addr} {Q : Env → Shared → Prop}
    (h : Q (newEnv scope s.heap.objs.size globals (cellsFrom (s.heap.objs.size + 1) scope.names closure) qual func code (some around) builtins)
      { s with heap := pushCells (s.heap.push { cls := .type "dict", data := .dict #[] }) scope.names }) :
    wpAny M A (newFunctionEnv scope globals closure [] qual func code (some around) builtins) Q E s := by
  simp only [newFunctionEnv, Option.isSome_some, if_true]
  refine wpAny_bind (wpAny_alloc ?_)
  refine wpAny_bind (wpAny_layCells _ (fun n k c => rfl) scope.names closure _ _ ?_)
  rw [show ({ s with heap := s.heap.push { cls := .type "dict", data := .dict #[] } } : Shared).heap.objs.size = s.heap.objs.size + 1 from Heap.size_push ..]
  rw [List.forIn_nil]
  exact wpAny_bind (wpAny_pure (wpAny_pure h))

/-- every name of the written scope, in the scope that runs -/
theorem lookup_relS {sc : Scope} : ∀ {names : List (Str × NameKind)} {x : Str} {k : NameKind},
    (names.map fun (n, k) => if (k == NameKind.free && sc.kind == .function && sc.names.lookup n == some .cell) then (n, NameKind.cell) else (n, k)).lookup x = some k →
    ∃ k', names.lookup x = some k' ∧ (k = k' ∨ (k' = .free ∧ k = .cell))
  | [], _, _, h => by simp at h
  | (n, k₀) :: r, x, k, h => by
    have ih := @lookup_relS sc r x k
    have h' : List.lookup x ((if (k₀ == NameKind.free && sc.kind == .function && sc.names.lookup n == some .cell) = true then (n, NameKind.cell) else (n, k₀)) :: (r.map _)) = some k := h
    cases hx : x == n with
    | true =>
      simp only [List.lookup_cons, hx]
      by_cases hc : (k₀ == NameKind.free && sc.kind == .function && sc.names.lookup n == some .cell) = true
      · rw [if_pos hc] at h'
        simp only [List.lookup_cons, hx] at h'
        cases h'
        simp only [Bool.and_eq_true, beq_iff_eq] at hc
        exact ⟨k₀, rfl, .inr ⟨hc.1.1, rfl⟩⟩
      · rw [if_neg hc] at h'
        simp only [List.lookup_cons, hx] at h'
        cases h'
        exact ⟨_, rfl, .inl rfl⟩
    | false =>
      simp only [List.lookup_cons, hx]
      by_cases hc : (k₀ == NameKind.free && sc.kind == .function && sc.names.lookup n == some .cell) = true
      · rw [if_pos hc] at h'
        simp only [List.lookup_cons, hx] at h'
        exact ih h'
      · rw [if_neg hc] at h'
        simp only [List.lookup_cons, hx] at h'
        exact ih h'
/-- the names of a comprehension's block: its own (with their places in N), or captured -/
structure BlkOk (N : List Str) (sc scope : Scope) (own : List (Str × Nat)) : Prop where
  kind : scope.kind = .function
  uniq : ∀ y ∈ scope.names, scope.names.lookup y.1 = some y.2
  ix : ∀ p ∈ own, N[p.2]? = some p.1
  free : ∀ y ∈ scope.names, y.2 = .free → sc.names.lookup y.1 = some .cell ∨ sc.names.lookup y.1 = some .free
  own : ∀ y ∈ scope.names, y.2 = .local ∨ y.2 = .cell → y.1 ∈ own.map (·.1) ∨ y.1 ∉ N
/-- the slots of the block's own names forgotten -/
def wipe (σ : St) : List Nat → St
  | [] => σ
  | v :: vs => (wipe σ vs).set v none
theorem wipe_length (σ : St) : ∀ vs : List Nat, (wipe σ vs).length = σ.length
  | [] => rfl
  | v :: vs => by unfold wipe; rw [List.length_set, wipe_length σ vs]
theorem wipe_some {σ : St} {i : Nat} {x : V} : ∀ {vs : List Nat}, (wipe σ vs)[i]? = some (some x) → σ[i]? = some (some x) ∧ i ∉ vs
  | [], h => ⟨h, by simp⟩
  | v :: vs, h => by
    unfold wipe at h
    by_cases hi : v = i
    · subst hi
      by_cases hv : v < (wipe σ vs).length
      · rw [List.getElem?_set_self hv] at h; cases h
      · rw [List.getElem?_eq_none (by simpa using hv)] at h; cases h
    · rw [List.getElem?_set_ne hi] at h
      obtain ⟨h1, h2⟩ := wipe_some h
      exact ⟨h1, by simp only [List.mem_cons, not_or]; exact ⟨fun e => hi e.symm, h2⟩⟩

/-- the context of a block that starts at s, its iterator's objects at fp -/
abbrev Cx.blk (X : Cx) (s : Shared) (H : Hp) (scope : Scope) (cenv : Env) (fp : List Addr) : Cx := { X with s_0 := s, H_0 := H, env := cenv, outer := X.stack, ex := fp, fn := fun x => scope.names.lookup x == some .cell, pn := [], xe := fun _ _ => False }
section
variable {X : Cx} {pins : List (Addr × Obj)} {σ : St} {H : Hp} {s : Shared}
theorem block_start {scope : Scope} {own : List (Str × Nat)} {fp : List Addr} (I : Inv X pins σ H s) (ok : BlkOk X.N X.env.scope scope own) (hN : X.N.Nodup) (hfp : ∀ b ∈ fp, FpOk X pins H b ∧ b < s.heap.objs.size) :
    Inv (X.blk s H scope (compEnvC scope (cellsFrom (s.heap.objs.size + 1) scope.names (cloFrom X.env.cells scope.names [])) s.heap.objs.size X.env) fp) [] (wipe σ (own.map (·.2))) H { s with heap := pushCells (s.heap.push { cls := .type "dict", data := .dict #[] }) scope.names } := by
  have hfree : ∀ y ∈ scope.names, y.2 = .free → ∃ c, X.env.cells.lookup y.1 = some c := fun y hy e => by
    rcases ok.free y hy e with k | k
    · exact I.ok.has _ (.inl k)
    · exact I.ok.has _ (.inr k)
  generalize hcenv : compEnvC scope (cellsFrom (s.heap.objs.size + 1) scope.names (cloFrom X.env.cells scope.names [])) s.heap.objs.size X.env = cenv
  have kp : ∀ b o, s.heap.get? b = some o → (pushCells (s.heap.push { cls := .type "dict", data := .dict #[] }) scope.names).get? b = some o := fun b o e => pushCells_keeps _ _ _ _ (Heap.get?_push_of_some _ e)
  have hL : cenv.locals = s.heap.objs.size := by rw [← hcenv]; rfl
  have hcl : cenv.cells = cellsFrom (s.heap.objs.size + 1) scope.names (cloFrom X.env.cells scope.names []) := by rw [← hcenv]; rfl
  have hsc : cenv.scope = relS scope X.env.scope := by rw [← hcenv]; rfl
  rw [← Heap.size_push s.heap { cls := .type "dict", data := .dict #[] }] at hcl
  have cm : ∀ {y c}, (y, c) ∈ cloFrom X.env.cells scope.names [] → X.env.cells.lookup y = some c ∧ c < s.heap.objs.size := fun {y c} hm => by
    rcases cloFrom_mem hm with hm | ⟨h1, rfl⟩
    · cases hm
    · obtain ⟨c, hc⟩ := hfree _ h1 rfl
      rw [hc]
      obtain ⟨w, z⟩ := I.cell _ _ hc
      exact ⟨rfl, z.lt⟩
  have mem : ∀ {y c}, cenv.cells.lookup y = some c → (X.env.cells.lookup y = some c ∧ c < s.heap.objs.size) ∨ (s.heap.objs.size + 1 ≤ c ∧ CellAt (pushCells (s.heap.push { cls := .type "dict", data := .dict #[] }) scope.names) c none) := fun {y c} e => by
    rw [hcl] at e
    rcases cells_mem (PySem.mem_of_lookup e) with hm | ⟨_, h2, h3⟩
    · exact .inl (cm hm)
    · rw [Heap.size_push] at h2; exact .inr ⟨h2, h3⟩
  have look : ∀ {y}, scope.names.lookup y = some .free → ∃ c, cenv.cells.lookup y = some c ∧ X.env.cells.lookup y = some c := fun {y} hl => by
    have hy : (y, NameKind.free) ∈ scope.names := PySem.mem_of_lookup hl
    obtain ⟨c', e'⟩ := mem_lookup (cells_acc (names := scope.names) (n := (s.heap.push { cls := .type "dict", data := .dict #[] }).objs.size) (cloFrom_has (cells := X.env.cells) (acc := []) hy))
    rw [← hcl] at e'
    refine ⟨c', e', ?_⟩
    rw [hcl] at e'
    rcases cells_mem (PySem.mem_of_lookup e') with hm | ⟨h1, _, _⟩
    · exact (cm hm).1
    · have := ok.uniq _ h1
      rw [hl] at this; cases this
  have okB : (X.blk s H scope cenv fp).Ok := by
    refine ⟨I.ok.mod, by show cenv.scope.kind = _; rw [hsc]; exact ok.kind, by show cenv.globals = _; rw [← hcenv]; exact I.ok.glob, by show cenv.builtins = _; rw [← hcenv]; exact I.ok.blt, by show s.heap.objs.size ≤ cenv.locals; rw [hL]; exact Nat.le_refl _,
      fun y z c e1 e2 => ?_, fun y hy => ?_, fun y c z e => ?_, I.ok.hd, I.ok.frames, .inl rfl, fun b hb => ⟨?_, fun y c e z => ?_⟩, I.bs, Nat.le_trans I.ok.bsz I.sz, fun b o e hb => ?_, fun b hb z => ?_, I.stack, I.stkFree⟩
    · have e1 : cenv.cells.lookup y = some c := e1
      have e2 : cenv.cells.lookup z = some c := e2
      rw [hcl] at e1 e2
      refine cells_inj (fun p hp => ?_) (fun y z c a b => I.ok.inj y z c (cm a).1 (cm b).1) (PySem.mem_of_lookup e1) (PySem.mem_of_lookup e2)
      rw [Heap.size_push]
      exact Nat.lt_succ_of_lt (cm (y := p.1) (c := p.2) hp).2
    · show ∃ c, cenv.cells.lookup y = some c
      have key : ∀ k, cenv.kindOf y = some k → (k = .cell ∨ k = .free) → ∃ c, cenv.cells.lookup y = some c := fun k hk hk' => by
        unfold Env.kindOf at hk
        rw [hsc] at hk
        obtain ⟨k', e, r⟩ := lookup_relS hk
        have : k' = .cell ∨ k' = .free := by
          rcases r with rfl | ⟨rfl, _⟩
          · exact hk'
          · exact .inr rfl
        rcases this with rfl | rfl
        · obtain ⟨c, hm⟩ := cells_has (n := (s.heap.push { cls := .type "dict", data := .dict #[] }).objs.size) (acc := cloFrom X.env.cells scope.names []) (PySem.mem_of_lookup e)
          obtain ⟨c', e'⟩ := mem_lookup hm
          exact ⟨c', by rw [hcl]; exact e'⟩
        · obtain ⟨c, h1, _⟩ := look e
          exact ⟨c, h1⟩
      rcases hy with hy | hy
      · exact key _ hy (.inl rfl)
      · exact key _ hy (.inr rfl)
    · have z : (scope.names.lookup y == some NameKind.cell) = true := z
      have z : scope.names.lookup y = some .cell := by simpa using z
      have e : cenv.cells.lookup y = some c := e
      rw [hcl] at e
      rcases cells_mem (PySem.mem_of_lookup e) with hm | ⟨_, h2, _⟩
      · rcases cloFrom_mem hm with hm | ⟨h1, _⟩
        · cases hm
        · have q := ok.uniq _ h1
          rw [z] at q; cases q
      · rw [Heap.size_push] at h2
        exact Nat.le_of_succ_le h2
    · show b ≠ cenv.locals
      rw [hL]; exact Nat.ne_of_lt (hfp b hb).2
    · have e : cenv.cells.lookup y = some c := e
      rcases mem e with ⟨h1, _⟩ | ⟨h1, _⟩
      · exact (hfp b hb).1.2.2.2.2.1 y c h1 z
      · have h2 : s.heap.objs.size + 1 ≤ b := by rw [← z]; exact h1
        exact absurd (Nat.lt_of_lt_of_le (hfp b hb).2 (Nat.le_of_succ_le h2)) (Nat.lt_irrefl _)
    · rcases (hfp b hb).1.2.2.2.1 with z | z
      · exact I.ok.noex b o e z
      · exact absurd (Nat.lt_of_lt_of_le (Heap.lt_size e) (Nat.le_trans I.ok.bsz z)) (Nat.lt_irrefl _)
    · rcases List.mem_cons.mp (I.stkSub b z) with z | z
      · exact (hfp b hb).1.2.1 z
      · exact (hfp b hb).1.2.2.1 z
  refine ⟨okB, rfl, I.bare, Un.kept kp, ⟨fun _ => none, ?_, fun i y av e1 e2 e3 => ?_⟩, fun y c e => ?_, ?_, fun y c e => ?_, fun p hp => ?_, I.hok.kept kp, by rw [wipe_length]; exact I.len⟩
  · show Heap.Ns _ cenv.locals _
    rw [hL]
    exact Heap.Ns.keeps (Heap.Ns.new ..) fun b o e => pushCells_keeps _ _ _ _ e
  · obtain ⟨e2, hne⟩ := wipe_some e2
    have hfr : scope.names.lookup y = some .free ∧ (cenv.kindOf y = some .cell ∨ cenv.kindOf y = some .free) := by
      have key : ∀ k, cenv.scope.names.lookup y = some k → k = .local ∨ k = .cell ∨ k = .free → scope.names.lookup y = some .free ∧ (cenv.kindOf y = some .cell ∨ cenv.kindOf y = some .free) := fun k hk hk' => by
        have hk0 := hk
        rw [hsc] at hk
        obtain ⟨k', e, r⟩ := lookup_relS hk
        have no : ¬ (k' = .local ∨ k' = .cell) := fun hh => by
          rcases ok.own _ (PySem.mem_of_lookup e) hh with e' | e'
          · obtain ⟨p, hp, hpy⟩ := List.mem_map.mp e'
            have e3 := ok.ix p hp
            have : p.1 = y := hpy
            rw [this] at e3
            exact hne (List.mem_map.mpr ⟨p, hp, nodup_ix hN e3 e1⟩)
          · exact e' (List.mem_of_getElem? e1)
        rcases r with rfl | ⟨rfl, rfl⟩
        · rcases hk' with rfl | rfl | rfl
          · exact absurd (.inl rfl) no
          · exact absurd (.inr rfl) no
          · exact ⟨e, .inr hk0⟩
        · exact ⟨e, .inl hk0⟩
      have e3 : Vis cenv.scope y := e3
      rcases e3 with e3 | e3 | e3
      · exact key _ e3 (.inl rfl)
      · exact key _ e3 (.inr (.inl rfl))
      · exact key _ e3 (.inr (.inr rfl))
    obtain ⟨m, hn, hl⟩ := I.loc
    have hvis : Vis X.env.scope y := (ok.free _ (PySem.mem_of_lookup hfr.1) rfl).elim (fun k => .inr (.inl k)) (fun k => .inr (.inr k))
    obtain ⟨w, r, q⟩ := hl i y av e1 e2 hvis
    refine ⟨w, r, .inr ⟨hfr.2, ?_⟩⟩
    obtain ⟨c, h1, h2⟩ := look hfr.1
    rcases q with ⟨k, _⟩ | ⟨_, c', e', z⟩
    · have k : X.env.scope.names.lookup y = some .local := k
      rcases ok.free _ (PySem.mem_of_lookup hfr.1) rfl with k' | k' <;> rw [show X.env.scope.names.lookup y = _ from k'] at k <;> cases k
    · rw [h2] at e'; cases e'
      exact ⟨c, h1, z.keeps kp⟩
  · have e : cenv.cells.lookup y = some c := e
    rcases mem e with ⟨h1, _⟩ | ⟨_, z⟩
    · obtain ⟨w, z⟩ := I.cell y c h1
      exact ⟨w, z.keeps kp⟩
    · exact ⟨_, z⟩
  · show H cenv.locals = none
    rw [hL]; exact I.hok.fresh (Nat.le_refl _)
  · have e : cenv.cells.lookup y = some c := e
    rcases mem e with ⟨h1, _⟩ | ⟨h1, _⟩
    · exact I.freeC y c h1
    · exact I.hok.fresh (Nat.le_of_succ_le h1)
  · exact absurd (show p ∈ ([] : List (Addr × Obj)) ++ [] from hp) (by simp)

/-- an item appended to a tracked list -/
theorem app_ok {E : Value → Shared → Prop} {D : Addr} {xs : List V} {y : V} {v : Value} {Q : Value → Shared → Prop} (I : Inv X pins σ H s) (hD : H D = some (.lst xs)) (hz : xs.length < sizeLine) (r : RelV y v)
    (h : ∀ s', Inv X pins σ (upd H D (.lst (xs ++ [y]))) s' → Q .none s') : wpAny (model X.prog X.w) X.A (call (.builtin "list.append") [.ref D, v]) Q E s := by
  obtain ⟨hz', its, n, ri, e⟩ := I.hok D _ hD
  have hl := ri.length
  refine append_at (hsz := by rw [List.size_toArray]; omega) e fun h' sb ho' => ?_
  refine h { s with heap := h' } (I.write (t' := s.toks) (by rw [hD]; trivial) (.inl rfl) (fun b u hb q => (sb.2 b hb).trans q) ⟨_, ho'⟩ ⟨by rw [List.length_append]; exact hz, its ++ [v], n + 1, ri.append (.cons r .nil), ?_⟩)
  rw [ho']
  simp

/-- a clause's tests -/
def PTs (X : Cx) (ifs : List Expr) (t : TT) : Prop :=
  ∀ (pins : List (Addr × Obj)) (s : Shared) (σ : St) (H : Hp) (Q : Bool → Hp → Prop), Inv X pins σ H s → t σ H Q →
    wpAny (model X.prog X.w) X.A (forIn ifs true fun c r => if r = true then do let ok ← isTrue c X.env (eval c X.env); pure (ForInStep.yield ok) else pure (ForInStep.yield r)) (TP X pins σ Q) X.xe s
theorem pts_one {c : Expr} {t : TT} (h : PT X c t) : PTs X [c] t := fun pins s σ H Q I hw => wpAny_tests_one (h pins s σ H Q I hw)
end

theorem thnF {α : Type} {t : Sem α} {Q Q' : α → Shared → Prop} {M : Model} {A : Around} {E : Value → Shared → Prop} {s : Shared} (h : wpAny M A t Q (fun _ _ => False) s) (hQ : ∀ a s, Q a s → Q' a s) : wpAny M A t Q' E s := wpAny_mono h hQ fun _ _ z => False.elim z

/-- the loop of a list comprehension's block, the target of any form (codeAny_compLoop_tests asks a target that no tuple goes to; statement and proof follow it, PyProof/CompMap.lean:41-61, with the step letOwnedTupleGo kept) -/
theorem compLoop_any {prog : Program} {w : World} {A : Around} {R : Result → Shared → Prop} {s : Shared} {elt target iter : Expr} {ifs : List Expr} {scope : Scope} {pos : Pos} {it acc : Value} {env : Env} (I : Nat → Shared → Prop)
    (turn : ∀ n s, I n s → wpAny (model prog w) A (pyNext it) (fun r s₁ => match r with
      | none => R (.ok .next) s₁
      | some v => wpAny (model prog w) A (letOwnedTupleGo target it v) (fun _ s₁' => wpAny (model prog w) A (assign target env v) (fun _ s₂ =>
          wpAny (model prog w) A (forIn ifs true fun c r => if r = true then do let ok ← isTrue c env (eval c env); pure (ForInStep.yield ok) else pure (ForInStep.yield r)) (fun ok s₃ =>
            if ok = true then wpAny (model prog w) A (eval elt env) (fun x s₄ =>
              wpAny (model prog w) A (call (.builtin "list.append") [acc, x]) (fun _ s₅ => ∃ m, m < n ∧ I m s₅) (notedBy (model prog w) A env fun e s' => R (.error e) s') s₄) (notedBy (model prog w) A env fun e s' => R (.error e) s') s₃
            else ∃ m, m < n ∧ I m s₃) (notedBy (model prog w) A env fun e s' => R (.error e) s') s₂) (notedBy (model prog w) A env fun e s' => R (.error e) s') s₁') (notedBy (model prog w) A env fun e s' => R (.error e) s') s₁) (notedBy (model prog w) A env fun e s' => R (.error e) s') s)
    (n : Nat) (h : I n s) :
    codeAny (model prog w) A (.compLoop (.ListComp elt [⟨target, iter, ifs, 0⟩] scope pos) 0 it acc env) R s := by
  refine codeAny_loop rfl I (fun n s hI => ?_) n h
  show wpAny _ A ((compTurn (.ListComp elt [⟨target, iter, ifs, 0⟩] scope pos) 0 it acc env).onRaise (fun x => do noteFrame x env; theTreesLotGoes x)) _ _ s
  refine wpAny_noted ?_
  rw [compTurn_list]
  refine wpAny_bind (wpAny_standAt (wpAny_bind (wpAny_mono (turn n s hI) (fun r s₁ h₁ => ?_) fun _ _ h' => h')))
  cases r with
  | none => exact wpAny_pure h₁
  | some v =>
    refine wpAny_bind (wpAny_mono h₁ (fun _ s₁' h₁' => ?_) fun _ _ h' => h')
    refine wpAny_bind (wpAny_mono h₁' (fun _ s₂ h₂ => wpAny_bind (wpAny_mono h₂ (fun ok s₃ h₃ => ?_) fun _ _ h' => h')) fun _ _ h' => h')
    cases ok with
    | false => exact wpAny_pure ⟨rfl, h₃⟩
    | true =>
      exact wpAny_bind (wpAny_bind (wpAny_mono h₃ (fun x s₄ h₄ => wpAny_bind (wpAny_mono h₄ (fun _ s₅ h₅ => wpAny_pure (wpAny_pure ⟨rfl, h₅⟩)) fun _ _ h' => h')) fun _ _ h' => h'))

section
variable {X : Cx}
/-- [elt for target in iter if ..]: D the new list; W by the turn and a measure, Nx what a turn is to reach -/
def tLc (wi : TI) (g : TG) (tt : TT) (te : TE) (vs : List Nat) : TE := fun σ H Q => wi σ H fun J H1 => ∀ D, H1 D = none → ∃ W : Nat → Nat → Hp → Prop, (∃ m, W 0 m (upd H1 D (.lst []))) ∧ ∀ i m H, W i m H →
  (J.stop i H ∧ Q (.ref D) H) ∨ (J.go i H ∧ ∃ Nx : Hp → Prop, (∀ H', Nx H' → ∃ m', m' < m ∧ W (i + 1) m' H') ∧ ∀ x H', J.yld i H x H' → g x (wipe σ vs) H' fun σ2 H2 => wipe σ2 vs = wipe σ vs ∧ tt σ2 H2 fun b H3 =>
    if b = true then te σ2 H3 fun y H4 => ∃ acc, H4 D = some (.lst acc) ∧ acc.length < sizeLine ∧ Nx (upd H4 D (.lst (acc ++ [y]))) else Nx H3)
theorem lc_core {pins : List (Addr × Obj)} {s : Shared} {σ : St} {H : Hp} {Q : VK} {elt tg iter : Expr} {ifs : List Expr} {scope : Scope} {own : List (Str × Nat)} {pos pos' : Pos} {wi : TI} {g : TG} {tt : TT} {te : TE} {use : Option (Value → Sem Unit)} {Qf : Value → Shared → Prop}
    (hc : X.calm = true) (hN : X.N.Nodup) (I : Inv X pins σ H s) (hi : PI X tg iter wi) (ok : BlkOk X.N X.env.scope scope own)
    (hg : ∀ (s : Shared) (H : Hp) (C : Addr) (cl : List (Str × Addr)) (fp : List Addr), PG (X.blk s H scope (compEnvC scope cl C X.env) fp) tg g) (ht : ∀ (s : Shared) (H : Hp) (C : Addr) (cl : List (Str × Addr)) (fp : List Addr), PTs (X.blk s H scope (compEnvC scope cl C X.env) fp) ifs tt)
    (he : ∀ (s : Shared) (H : Hp) (C : Addr) (cl : List (Str × Addr)) (fp : List Addr), PE (X.blk s H scope (compEnvC scope cl C X.env) fp) elt te) (hs : ∀ x, foldedSetIterable iter X.env x = pure x)
    (h : tLc wi g tt te (own.map (·.2)) σ H Q)
    (hRR : ∀ D C s' m H', Inv X pins σ H' s' → Q (.ref D) H' → s'.heap.Ns C m → FpOk X pins H' C → compPost (model X.prog X.w) X.A X.xe use Qf (.ref D) C (.ok .next) s') :
    wpAny (model X.prog X.w) X.A (comprehension (.ListComp elt [⟨tg, iter, ifs, 0⟩] scope pos) scope X.env pos' (newList []) false (eval iter X.env) use) Qf X.xe s := by
  have hfree : ∀ y ∈ scope.names, y.2 = .free → ∃ c, X.env.cells.lookup y.1 = some c := fun y hy e => by
    rcases ok.free y hy e with k | k
    · exact I.ok.has _ (.inl k)
    · exact I.ok.has _ (.inr k)
  refine wpAny_comprehension_free (use := use) rfl hs (closure_ok hfree) ok.kind (fun y hy e => by rw [ok.uniq y hy, e])
    (thn (hi pins s σ H _ I h) fun xv s1 hx => thn hx fun itv s2 h2 => ?_)
  obtain ⟨it, fp, tn, J, H2, e, I2, T, st2, f2, q⟩ := h2
  subst e
  refine wpAny_newObj_type (newEnv_comp ?_) (by show 0 ≤ sizeLine; decide)
  generalize hD : s2.heap.objs.size = D
  have hDn : H2 D = none := I2.hok.fresh (Nat.le_of_eq hD)
  obtain ⟨W, ⟨m0, w0⟩, turn⟩ := q D hDn
  -- the new list
  generalize hs3 : ({ s2 with heap := s2.heap.push { cls := .type "list", data := .seq ([] : List Value).toArray } } : Shared) = s3
  have I3 : Inv X pins σ (upd H2 D (.lst [])) s3 := by
    rw [← hs3]
    refine I2.laid (t' := s2.toks) (fun b o e => Heap.get?_push_of_some _ e) (Nat.le_of_eq hD) ⟨Nat.zero_le _, [], 0, .nil, ?_⟩
    rw [← hD]
    exact Heap.get?_push_size _ rfl
  have h3 : s3.heap = s2.heap.push { cls := .type "list", data := .seq ([] : List Value).toArray } := by rw [← hs3]
  have sz : ∀ b ∈ fp, b < s2.heap.objs.size := fun b hb => by
    obtain ⟨o, e, _⟩ := T.obj _ _ st2 b hb
    exact Heap.lt_size e
  have f3 : ∀ b ∈ fp, FpOk X pins (upd H2 D (.lst [])) b ∧ b < s3.heap.objs.size := fun b hb => by
    have hlt := sz b hb
    refine ⟨⟨?_, (f2 b hb).2⟩, by rw [h3, Heap.size_push]; exact Nat.lt_succ_of_lt hlt⟩
    rw [upd_ne (by rw [← hD]; exact Nat.ne_of_lt hlt)]
    exact (f2 b hb).1
  have st3 : tn 0 s3.heap := T.keep _ _ _ st2 fun b _ o e => by rw [h3]; exact Heap.get?_push_of_some _ e
  have I4 := block_start I3 ok hN f3
  have pg := hg s3 (upd H2 D (.lst [])) s3.heap.objs.size (cellsFrom (s3.heap.objs.size + 1) scope.names (cloFrom X.env.cells scope.names [])) fp
  have pt := ht s3 (upd H2 D (.lst [])) s3.heap.objs.size (cellsFrom (s3.heap.objs.size + 1) scope.names (cloFrom X.env.cells scope.names [])) fp
  have pe := he s3 (upd H2 D (.lst [])) s3.heap.objs.size (cellsFrom (s3.heap.objs.size + 1) scope.names (cloFrom X.env.cells scope.names [])) fp
  show codeAny _ _ (.compStart (.ListComp elt [⟨tg, iter, ifs, 0⟩] scope pos) 0 (.ref it) (.ref D) (compEnvC scope (cellsFrom (s3.heap.objs.size + 1) scope.names (cloFrom X.env.cells scope.names [])) s3.heap.objs.size X.env)) (compPost (model X.prog X.w) X.A X.xe use Qf (.ref D) s3.heap.objs.size) { s3 with heap := pushCells (s3.heap.push { cls := .type "dict", data := .dict #[] }) scope.names }
  have nfp : ∀ b ∈ fp, (upd H2 D (.lst [])) b = none := fun b hb => (f3 b hb).1.1
  generalize hce : compEnvC scope (cellsFrom (s3.heap.objs.size + 1) scope.names (cloFrom X.env.cells scope.names [])) s3.heap.objs.size X.env = ce at I4 pg pt pe ⊢
  have cL : ce.locals = s3.heap.objs.size := by subst hce; rfl
  generalize hH3 : upd H2 D (.lst []) = H3 at I3 I4 pg pt pe w0 nfp f3
  generalize hs4 : ({ s3 with heap := pushCells (s3.heap.push { cls := .type "dict", data := .dict #[] }) scope.names } : Shared) = s4 at I4 ⊢
  have st4 : tn 0 s4.heap := T.keep _ _ _ st3 fun b _ o e => by rw [← hs4]; exact pushCells_keeps _ _ _ _ (Heap.get?_push_of_some _ e)
  have stat : ∀ {σ' : St} {H' : Hp} {s' : Shared}, Inv (X.blk s3 H3 scope ce fp) [] σ' H' s' → (∀ b ∈ fp, H' b = none) → ∀ b ∈ fp, FpOk (X.blk s3 H3 scope ce fp) [] H' b := fun {σ' H' s'} I' hn b hb =>
    ⟨hn b hb, (I'.ok.exf b hb).1, I'.ok.exfs b hb, .inl hb, fun x c e => (I'.ok.exf b hb).2 x c e, fun p hp => absurd (show p ∈ ([] : List (Addr × Obj)) ++ [] from hp) (by simp)⟩
  have loop : codeAny (model X.prog X.w) X.A (.compLoop (.ListComp elt [⟨tg, iter, ifs, 0⟩] scope pos) 0 (.ref it) (.ref D) ce) (compPost (model X.prog X.w) X.A X.xe use Qf (.ref D) s3.heap.objs.size) s4 := by
    refine compLoop_any (fun n s' => ∃ i H', Inv (X.blk s3 H3 scope ce fp) [] (wipe σ (own.map (·.2))) H' s' ∧ tn i s'.heap ∧ (∀ b ∈ fp, H' b = none) ∧ W i n H') ?_ m0 ⟨0, H3, I4, st4, nfp, w0⟩
    rintro n s5 ⟨i, H5, I5, st5, n5, w5⟩
    rcases turn i n H5 w5 with ⟨stop, qq⟩ | ⟨go, Nx, hNx, step⟩
    · have td := T.done (X.blk s3 H3 scope ce fp) rfl rfl rfl hc i [] s5 _ H5 (fun _ _ => False) I5 (stat I5 n5) st5 stop
      refine thnF td fun r s6 ⟨hr, I6⟩ => ?_
      subst hr
      -- back in the def's context
      have I7 : Inv X pins σ H5 s6 := I3.call' (ch := fp) I6.os I6.base I6.hok I6.bare fun b hb => ⟨(f3 b hb).1.2.2.2.1, (f3 b hb).1.2.1, (f3 b hb).1.2.2.2.2.1, (f3 b hb).1.2.2.2.2.2⟩
      have nC : H5 s3.heap.objs.size = none := by
        have z : H5 ce.locals = none := I6.free
        rw [cL] at z
        exact z
      obtain ⟨m, hn, _⟩ := I6.loc
      have hn : s6.heap.Ns ce.locals m := hn
      rw [cL] at hn
      exact hRR D s3.heap.objs.size s6 m H5 I7 qq hn (I3.fpOk (Nat.le_refl _) nC)
    · have ti := T.item (X.blk s3 H3 scope ce fp) rfl rfl rfl hc i [] s5 _ H5 (fun _ _ => False) I5 (stat I5 n5) st5 go
      refine thnF ti fun r s6 ⟨u, hr, h6⟩ => ?_
      subst hr
      refine thnF h6 fun _ s7 ⟨x, H7, I7, r7, y7, st7, n7⟩ => ?_
      have I7' := I7.pinned (stat I7 n7) (T.obj _ _ st7)
      refine thnF (pg _ s7 _ H7 x u _ I7' r7 (step x H7 y7)) fun _ s8 ⟨σ8, H8, I8, hw8, q8⟩ => ?_
      refine thnF (pt _ s8 σ8 H8 _ I8 q8) fun b s9 ⟨H9, I9, q9⟩ => ?_
      -- the turn's end
      have fin : ∀ {s' : Shared} {H' : Hp}, Inv (X.blk s3 H3 scope ce fp) ([] ++ pinsAt fp s7.heap) σ8 H' s' → Nx H' → ∃ m, m < n ∧ ∃ i H', Inv (X.blk s3 H3 scope ce fp) [] (wipe σ (own.map (·.2))) H' s' ∧ tn i s'.heap ∧ (∀ b ∈ fp, H' b = none) ∧ W i m H' := fun {s' H'} I' nx => by
        obtain ⟨m', hm, w'⟩ := hNx H' nx
        have pin' : ∀ b ∈ fp, ∀ o, s7.heap.get? b = some o → s'.heap.get? b = some o ∧ H' b = none := fun b hb o e =>
          let z := I'.pin (b, o) (List.mem_append_right _ (List.mem_append_right _ (mem_pinsAt hb e)))
          ⟨z.1, z.2.1⟩
        have hl : (wipe σ (own.map (·.2))).length = σ8.length := by rw [← hw8, wipe_length]
        refine ⟨m', hm, i + 1, H', (I'.unpinned (pins := [])).weak hl (fun j v e => ?_), T.keep _ _ _ st7 fun b hb o e => (pin' b hb o e).1, fun b hb => ?_, w'⟩
        · rw [← hw8] at e
          exact (wipe_some e).1
        · obtain ⟨o, e, _⟩ := T.obj _ _ st7 b hb
          exact (pin' b hb o e).2
      cases b with
      | false =>
        simp only [Bool.false_eq_true, if_false] at q9 ⊢
        exact fin I9 q9
      | true =>
        simp only [if_true] at q9 ⊢
        refine thnF (pe _ s9 σ8 H9 _ I9 q9) fun z s10 ⟨yv, H10, I10, r10, acc, hD10, hz10, nx⟩ => ?_
        exact app_ok (X := X.blk s3 H3 scope ce fp) I10 hD10 hz10 r10 fun s11 I11 => fin I11 nx
  exact codeAny_compStart_list loop (T.self X.A 0 _ _ _ st4 loop)
/-- name = [..] on one line, the name a local -/
theorem ps_setLc {i : Nat} {y : Str} {py : Pos} {elt tg iter : Expr} {ifs : List Expr} {scope : Scope} {own : List (Str × Nat)} {pos spos : Pos} {wi : TI} {g : TG} {tt : TT} {te : TE} (hc : X.calm = true) (hN : X.N.Nodup) (hy : X.N[i]? = some y) (hyl : X.env.scope.names.lookup y = some .local)
    (hsw : swapsWith (.ListComp elt [⟨tg, iter, ifs, 0⟩] scope pos) (some (.Name y py)) spos.line X.env = pure true) (hi : PI X tg iter wi) (ok : BlkOk X.N X.env.scope scope own)
    (hg : ∀ (s : Shared) (H : Hp) (C : Addr) (cl : List (Str × Addr)) (fp : List Addr), PG (X.blk s H scope (compEnvC scope cl C X.env) fp) tg g) (ht : ∀ (s : Shared) (H : Hp) (C : Addr) (cl : List (Str × Addr)) (fp : List Addr), PTs (X.blk s H scope (compEnvC scope cl C X.env) fp) ifs tt)
    (he : ∀ (s : Shared) (H : Hp) (C : Addr) (cl : List (Str × Addr)) (fp : List Addr), PE (X.blk s H scope (compEnvC scope cl C X.env) fp) elt te) (hs : ∀ x, foldedSetIterable iter X.env x = pure x := by intro _; rfl) :
    PS X (.Assign [.Name y py] (.ListComp elt [⟨tg, iter, ifs, 0⟩] scope pos) spos) (tAsg (tLc wi g tt te (own.map (·.2))) (gName i)) := by
  intro pins s σ H D I h
  rw [exec_Assign_Name_used _ _ _ _ hsw]
  refine wpAny_bind (wpAny_standAt (wpAny_bind ?_))
  show wpAny _ X.A (do let _ ← comprehension (.ListComp elt [⟨tg, iter, ifs, 0⟩] scope pos) scope X.env (firstIterPos [⟨tg, iter, ifs, 0⟩] pos) (newList []) false (eval iter X.env) (some (assign (.Name y py) X.env))) _ _ s
  have h : tLc wi g tt te (own.map (·.2)) σ H (fun x H1 => gName i x σ H1 D.nx) := h
  refine wpAny_bind (thn (lc_core (Qf := fun _ s' => SP X pins D .next s') hc hN I hi ok hg ht he hs h fun L C s' m H' I' q hn f => ?_) fun _ s' hq => wpAny_pure (wpAny_pure hq))
  show wpAny _ _ (assign (.Name y py) X.env (.ref L)) _ _ _
  refine wpAny_assign_Name (store_ok2 (v := V.ref L) I' hN hy (.inl hyl) rfl (fun s2 I2 ⟨a, sb, ha⟩ => ?_) (.inr hyl))
  obtain ⟨f0, f1, f2, f3, f4, f5⟩ := f
  have haC : C ≠ a := by
    rcases ha with z | z
    · rw [z]; exact f1
    · exact fun e => f4 y a z e.symm
  refine ⟨m, hn.sameBut sb haC, fun h3 sb3 => ?_⟩
  exact ⟨_, H', I2.turned (t' := s2.toks) (fun b o hb e => (sb3.2 b hb).trans e) f0 f1 f3 f4 f5, q⟩
theorem sw_true {elt : Expr} {gs : List Comprehension} {scope : Scope} {pos py : Pos} {y : Str} {l : Nat} {env : Env} (hk : env.scope.kind = .function) (hy : env.scope.names.lookup y = some .local) (hl : (py.line == pos.line) = true)
    (ha : (scope.names.any fun (n, k) => n == y && (k == .local || k == .cell)) = false) : swapsWith (.ListComp elt gs scope pos) (some (.Name y py)) l env = pure true := by
  have ky : env.kindOf y = some .local := hy
  have hb : env.blockKind = .function := by unfold Env.blockKind; rw [hk]; rfl
  unfold swapsWith
  simp only [hb, ky, ha, Expr.pos, hl]
  rfl
end

def blkC (N : List Str) (sc scope : Scope) (own : List (Str × Nat)) : Bool :=
  (match scope.kind with | .function => true | _ => false) && (scope.names.all fun y => decide (scope.names.lookup y.1 = some y.2)) && (own.all fun p => decide (N[p.2]? = some p.1)) &&
    (scope.names.all fun y => match y.2 with
      | .free => (match sc.names.lookup y.1 with | some .cell => true | some .free => true | _ => false)
      | .local => decide (y.1 ∈ own.map (·.1)) || decide (y.1 ∉ N)
      | .cell => decide (y.1 ∈ own.map (·.1)) || decide (y.1 ∉ N)
      | _ => true)
theorem blkOk_by {N : List Str} {sc scope : Scope} {own : List (Str × Nat)} (h : blkC N sc scope own = true) : BlkOk N sc scope own := by
  unfold blkC at h
  simp only [Bool.and_eq_true, List.all_eq_true, decide_eq_true_eq] at h
  obtain ⟨⟨⟨h1, h2⟩, h3⟩, h4⟩ := h
  refine ⟨?_, h2, h3, fun y hy e => ?_, fun y hy e => ?_⟩
  · split at h1
    · assumption
    · cases h1
  · have q := h4 y hy
    simp only [e] at q
    split at q <;> first | exact .inl (by assumption) | exact .inr (by assumption) | cases q
  · have q := h4 y hy
    rcases e with e | e <;> (simp only [e, Bool.or_eq_true, decide_eq_true_eq] at q; exact q)
end L2

namespace L2
open PySem PySem.Spec PyProof.Rows

section
variable {prog : Program} {w : World} {A : Around} {R : Result → Shared → Prop} {s : Shared} {elt t0 i0 t1 i1 : Expr} {ifs0 ifs1 : List Expr} {scope : Scope} {pos : Pos} {it acc : Value} {env : Env}
end

section
variable {X : Cx}
end
end L2

namespace L2
open PySem PySem.Spec PyProof.Rows

section
variable {κ : Type} [DecidableEq κ]
def valV (kvs : List (κ × V)) (k : κ) : Option V := (kvs.find? fun kv => decide (kv.1 = k)).map (·.2)
/-- in its place, or at the end -/
def putK (kvs : List (κ × V)) (k : κ) (v : V) : List (κ × V) :=
  if (kvs.any fun kv => decide (kv.1 = k)) = true then kvs.map (fun kv => if kv.1 = k then (kv.1, v) else kv) else kvs ++ [(k, v)]
theorem valV_pos {p : κ × V} {r : List (κ × V)} {k : κ} (e : p.1 = k) : valV (p :: r) k = some p.2 := by simp [valV, List.find?_cons, e]
theorem valV_neg {p : κ × V} {r : List (κ × V)} {k : κ} (e : ¬ p.1 = k) : valV (p :: r) k = valV r k := by simp [valV, List.find?_cons, e]
theorem valV_any (k : κ) : ∀ kvs : List (κ × V), (kvs.any fun kv => decide (kv.1 = k)) = (valV kvs k).isSome
  | [] => rfl
  | p :: r => by
    rw [List.any_cons]
    by_cases e : p.1 = k
    · simp only [valV_pos e, decide_eq_true e, Bool.true_or, Option.isSome_some]
    · rw [valV_neg e, decide_eq_false e, Bool.false_or]; exact valV_any k r
theorem valV_map (k j : κ) (y : V) : ∀ kvs : List (κ × V), valV (kvs.map fun kv => if kv.1 = k then (kv.1, y) else kv) j = (valV kvs j).map fun x => if j = k then y else x
  | [] => rfl
  | p :: r => by
    have ih := valV_map k j y r
    rw [List.map_cons]
    by_cases h : p.1 = k
    · rw [if_pos h]
      by_cases e : p.1 = j
      · rw [valV_pos (p := (p.1, y)) e, valV_pos e, Option.map_some, if_pos (e.symm.trans h)]
      · rw [valV_neg (p := (p.1, y)) e, valV_neg e, ih]
    · rw [if_neg h]
      by_cases e : p.1 = j
      · rw [valV_pos (p := p) e, valV_pos e, Option.map_some, if_neg (fun z => h (e.trans z))]
      · rw [valV_neg (p := p) e, valV_neg e, ih]
theorem valV_snoc (k j : κ) (y : V) : ∀ kvs : List (κ × V), valV kvs k = none → valV (kvs ++ [(k, y)]) j = if j = k then some y else valV kvs j
  | [], _ => by
    by_cases e : k = j
    · rw [if_pos e.symm]; exact valV_pos (p := (k, y)) e
    · rw [if_neg (fun z => e z.symm)]; exact valV_neg (p := (k, y)) e
  | p :: r, hn => by
    rw [List.cons_append]
    have hk : ¬ p.1 = k := fun z => by rw [valV_pos z] at hn; cases hn
    rw [valV_neg hk] at hn
    have ih := valV_snoc k j y r hn
    by_cases e : p.1 = j
    · rw [valV_pos e, valV_pos e, if_neg (fun z => hk (e.trans z))]
    · rw [valV_neg e, valV_neg e, ih]
theorem valV_put (kvs : List (κ × V)) (k j : κ) (y : V) : valV (putK kvs k y) j = if j = k then some y else valV kvs j := by
  unfold putK
  by_cases a : (kvs.any fun kv => decide (kv.1 = k)) = true
  · rw [if_pos a, valV_map]
    rw [valV_any] at a
    by_cases e : j = k
    · obtain ⟨x, hx⟩ := Option.isSome_iff_exists.mp a
      rw [if_pos e, e, hx, Option.map_some, if_pos rfl]
    · rw [if_neg e]
      cases valV kvs j with
      | none => rfl
      | some x => rw [Option.map_some, if_neg e]
  · rw [if_neg a]
    refine valV_snoc k j y kvs ?_
    rw [valV_any] at a
    cases q : valV kvs k with
    | none => rfl
    | some x => rw [q] at a; exact (a rfl).elim
theorem length_putK (kvs : List (κ × V)) (k : κ) (v : V) : (putK kvs k v).length ≤ kvs.length + 1 := by
  unfold putK
  split
  · rw [List.length_map]; omega
  · rw [List.length_append, List.length_cons, List.length_nil]; omega
theorem putK_new {kvs : List (κ × V)} {k : κ} (v : V) (h : valV kvs k = none) : putK kvs k v = kvs ++ [(k, v)] := by
  unfold putK
  rw [valV_any, h]
  exact if_neg (by decide)

theorem RelO.isSome_eq {o : Option V} {u : Option Value} (r : RelO o u) : o.isSome = u.isSome := by
  cases o with
  | none => cases u with
    | none => rfl
    | some _ => exact (show False from r).elim
  | some _ => cases u with
    | none => exact (show False from r).elim
    | some _ => rfl
/-- raw tables of the same keys -/
theorem KV.val {kvs : List (κ × V)} {vs : List (κ × Value)} (r : KV kvs vs) (k : κ) : RelO (valV kvs k) (valueAt vs k) := by
  unfold KV at r
  induction r with
  | nil => exact True.intro
  | @cons p q ps qs h t ih =>
    obtain ⟨h1, h2⟩ := h
    by_cases e : p.1 = k
    · have e' : q.1 = k := h1.symm.trans e
      have b : valueAt (q :: qs) k = some q.2 := by simp [valueAt, List.find?_cons, e']
      rw [valV_pos e, b]; exact h2
    · have e' : ¬ q.1 = k := fun z => e (h1.trans z)
      have b : valueAt (q :: qs) k = valueAt qs k := by simp [valueAt, List.find?_cons, e']
      rw [valV_neg e, b]; exact ih
theorem KV.any {kvs : List (κ × V)} {vs : List (κ × Value)} (r : KV kvs vs) (k : κ) : (kvs.any fun kv => decide (kv.1 = k)) = vs.any fun kv => decide (kv.1 = k) := by
  unfold KV at r
  induction r with
  | nil => rfl
  | cons h t ih => rw [List.any_cons, List.any_cons, ih, h.1]
theorem KV.repl {kvs : List (κ × V)} {vs : List (κ × Value)} (r : KV kvs vs) (k : κ) {y : V} {u : Value} (ry : RelV y u) :
    KV (kvs.map fun kv => if kv.1 = k then (kv.1, y) else kv) (vs.map fun kv => if kv.1 = k then (kv.1, u) else kv) := by
  unfold KV at r ⊢
  induction r with
  | nil => exact .nil
  | @cons p q ps qs h t ih =>
    rw [List.map_cons, List.map_cons]
    refine .cons ?_ ih
    obtain ⟨h1, h2⟩ := h
    by_cases e : p.1 = k
    · rw [if_pos e, if_pos (h1.symm.trans e)]; exact ⟨h1, ry⟩
    · rw [if_neg e, if_neg (fun z => e (h1.trans z))]; exact ⟨h1, h2⟩
theorem KV.put {kvs : List (κ × V)} {vs : List (κ × Value)} (r : KV kvs vs) (k : κ) {y : V} {u : Value} (ry : RelV y u) : KV (putK kvs k y) (stored vs k u) := by
  unfold putK stored
  rw [r.any k]
  by_cases e : (vs.any fun kv => decide (kv.1 = k)) = true
  · rw [if_pos e, if_pos e]; exact r.repl k ry
  · rw [if_neg e, if_neg e]; exact Paired.snoc r ⟨rfl, ry⟩
theorem KV.keys {kvs : List (κ × V)} {vs : List (κ × Value)} (r : KV kvs vs) : kvs.map (·.1) = vs.map (·.1) := by
  unfold KV at r
  induction r with
  | nil => rfl
  | cons h t ih => rw [List.map_cons, List.map_cons, ih, h.1]
theorem KV.length {kvs : List (κ × V)} {vs : List (κ × Value)} (r : KV kvs vs) : kvs.length = vs.length := Paired.length r
end


theorem kV_is {P : Program} {w : World} {k : Key} {u : Value} (r : RelV (kV k) u) : (mixKind P w).is k u = true := by
  cases k with
  | inl i => obtain ⟨t, e⟩ := (show ∃ t, u = Value.int i t from r); subst e; exact mixKind_int P w i t
  | inr x => obtain ⟨t, e⟩ := (show ∃ t, u = Value.str x t from r); subst e; exact mixKind_str P w x t
theorem items_are {P : Program} {w : World} : ∀ {ks : List Key} {us : List Value}, Vals (ks.map kV) us → ItemsAre (mixKind P w) ks us
  | [], _, r => by rw [List.map_nil] at r; cases r; exact .nil
  | k :: ks, _, r => by
    rw [List.map_cons] at r
    cases r with
    | cons h t => exact .cons (kV_is h) (items_are t)

/-- raw entries of a dict with tuple keys -/
abbrev KT (H : Hp) : List (List Key × V) → List (List Key × Addr × Value) → Prop := Paired fun p q => p.1 = q.1 ∧ H q.2.1 = some (.tup (p.1.map kV)) ∧ RelV p.2 q.2.2
theorem KT.val {H : Hp} {kvs : List (List Key × V)} {xs : List (List Key × Addr × Value)} (r : KT H kvs xs) (k : List Key) : RelO (valV kvs k) ((atKey xs k).map (·.2)) := by
  induction r with
  | nil => exact True.intro
  | @cons p q ps qs h t ih =>
    obtain ⟨h1, _, h2⟩ := h
    by_cases e : p.1 = k
    · have e' : q.1 = k := h1.symm.trans e
      have b : atKey (q :: qs) k = some q.2 := by simp [atKey, List.find?_cons, e']
      rw [valV_pos e, b]; exact h2
    · have e' : ¬ q.1 = k := fun z => e (h1.trans z)
      have b : atKey (q :: qs) k = atKey qs k := by simp [atKey, List.find?_cons, e']
      rw [valV_neg e, b]; exact ih
theorem KT.repl {H : Hp} {kvs : List (List Key × V)} {xs : List (List Key × Addr × Value)} (r : KT H kvs xs) (k : List Key) {y : V} {u : Value} (ry : RelV y u) :
    KT H (kvs.map fun kv => if kv.1 = k then (kv.1, y) else kv) (xs.map (putAt k u)) := by
  induction r with
  | nil => exact .nil
  | @cons p q ps qs h t ih =>
    rw [List.map_cons, List.map_cons]
    refine .cons ?_ ih
    obtain ⟨h1, h2, h3⟩ := h
    unfold putAt
    by_cases e : p.1 = k
    · rw [if_pos e, if_pos (h1.symm.trans e)]; exact ⟨h1, h2, ry⟩
    · rw [if_neg e, if_neg (fun z => e (h1.trans z))]; exact ⟨h1, h2, h3⟩
theorem KT.put {H : Hp} {kvs : List (List Key × V)} {xs : List (List Key × Addr × Value)} (r : KT H kvs xs) (k : List Key) {b : Addr} {y : V} {u : Value} (hb : H b = some (.tup (k.map kV))) (ry : RelV y u) :
    KT H (putK kvs k y) (storedH xs k b u) := by
  have e : (kvs.any fun kv => decide (kv.1 = k)) = (atKey xs k).isSome := by
    rw [valV_any, (r.val k).isSome_eq, Option.isSome_map]
  unfold putK storedH
  rw [e]
  by_cases q : (atKey xs k).isSome = true
  · rw [if_pos q, if_pos q]; exact r.repl k ry
  · rw [if_neg q, if_neg q]; exact Paired.snoc r ⟨rfl, hb, ry⟩
theorem KT.keeps {H H' : Hp} {kvs : List (List Key × V)} {xs : List (List Key × Addr × Value)} (r : KT H kvs xs) (ht : ∀ b ys, H b = some (.tup ys) → H' b = some (.tup ys)) : KT H' kvs xs :=
  Paired.mapP r fun _ _ z => ⟨z.1, ht _ _ z.2.1, z.2.2⟩

section
variable {P : Program} {w : World} {H : Hp} {h : Heap} {a : Addr}
theorem rd_of {u : HO} (ok : HOk P w H h) (e : Rd H a u) : ObjOk P w H h a u := e.ok ok
theorem dk_rd {kvs : List (Key × V)} (ok : HOk P w H h) (e : Rd H a (.dK kvs)) : kvs.length ≤ sizeLine ∧ (a == sysModules) = false ∧ ∃ vs, KV kvs vs ∧ h.DictOf (mixKind P w) a vs :=
  show ObjOk P w H h a (.dK kvs) from rd_of ok e
theorem dk_of {kvs : List (Key × V)} (ok : HOk P w H h) (e : H a = some (.dK kvs)) : kvs.length ≤ sizeLine ∧ (a == sysModules) = false ∧ ∃ vs, KV kvs vs ∧ h.DictOf (mixKind P w) a vs := dk_rd ok (.inl e)
/-- a tracked tuple of ints and texts is a key -/
theorem key_of {ks : List Key} (ok : HOk P w H h) (e : H a = some (.tup (ks.map kV))) : (tupleKind (mixKind P w)).is h ks a := by
  obtain ⟨_, its, r, o, h1, h2, n, h3⟩ := (show ObjOk P w H h a (.tup (ks.map kV)) from ok a _ e)
  exact ⟨o, its.toArray, n, h1, h2, h3, by simpa using items_are r⟩
theorem dt_rd {kvs : List (List Key × V)} (ok : HOk P w H h) (e : Rd H a (.dT kvs)) : kvs.length ≤ sizeLine ∧ (a == sysModules) = false ∧
    ∃ xs, KT H kvs xs ∧ h.DictOfH (tupleKind (mixKind P w)) a xs := by
  obtain ⟨z, y, xs, r, o, es, ep, h1, h2, h3, h4, h5⟩ := (show ObjOk P w H h a (.dT kvs) from rd_of ok e)
  refine ⟨z, y, xs, r, o, es, ep, h1, h2, h3, h4, fun x hx => ?_, h5⟩
  have all : ∀ {l : List (List Key × V)} {m : List (List Key × Addr × Value)}, KT H l m → ∀ x ∈ m, (tupleKind (mixKind P w)).is h x.1 x.2.1 := by
    intro l m q
    induction q with
    | nil => intro x hx; exact nomatch hx
    | @cons p q ps qs hq t ih =>
      intro x hx
      rcases List.mem_cons.mp hx with e | hx
      · subst e
        exact key_of ok (by rw [← hq.1]; exact hq.2.1)
      · exact ih x hx
  exact all r x hx
theorem dt_of {kvs : List (List Key × V)} (ok : HOk P w H h) (e : H a = some (.dT kvs)) : kvs.length ≤ sizeLine ∧ (a == sysModules) = false ∧
    ∃ xs, KT H kvs xs ∧ h.DictOfH (tupleKind (mixKind P w)) a xs := dt_rd ok (.inl e)
end

/-- what the dict at a holds at the key y -/
def DGet (H : Hp) (a : Addr) (y : V) (r : Option V) : Prop :=
  (∃ kvs k, Rd H a (.dK kvs) ∧ y = kV k ∧ r = valV kvs k) ∨ ∃ kvs k b, Rd H a (.dT kvs) ∧ y = .ref b ∧ H b = some (.tup (k.map kV)) ∧ r = valV kvs k
/-- the heap behind a[y] = v -/
def DPut (H : Hp) (a : Addr) (y v : V) (H' : Hp) : Prop :=
  (∃ kvs k, H a = some (.dK kvs) ∧ y = kV k ∧ kvs.length < sizeLine ∧ H' = upd H a (.dK (putK kvs k v))) ∨
  ∃ kvs k b, H a = some (.dT kvs) ∧ y = .ref b ∧ H b = some (.tup (k.map kV)) ∧ kvs.length < sizeLine ∧ H' = upd H a (.dT (putK kvs k v))
section
variable {X : Cx} {pins : List (Addr × Obj)} {σ : St} {H : Hp} {s : Shared} {a : Addr} {y v : V} {u r : Value} {o : Option V} {A : Around} {E : Value → Shared → Prop}

theorem Inv.big (I : Inv X pins σ H s) : sysModules < s.heap.objs.size := by
  have h : mainGlobals < s.heap.objs.size := (I.mod.glob.keeps I.bk).lt
  exact Nat.lt_trans (by decide) h

/-- d[y], there -/
theorem d_getItem {Q : Value → Shared → Prop} (hu : A.units + 1 < cLine) (I : Inv X pins σ H s) (g : DGet H a y (some v)) (ry : RelV y u) (h : ∀ w' s', Inv X pins σ H s' → RelV v w' → Q w' s') :
    wpAny (model X.prog X.w) A (getItem (.ref a) u) Q E s := by
  rcases g with ⟨kvs, k, e, ey, l⟩ | ⟨kvs, k, b, e, ey, eb, l⟩
  · subst ey
    obtain ⟨z, hd, vs, rel, dd⟩ := dk_rd I.hok e
    obtain ⟨w', hw, rw'⟩ := RelO.some_of (v := v) (o := valueAt vs k) (by rw [l]; exact rel.val k)
    exact wpAny_getItem_of (kV_is ry) dd.mapOf hw (h w' _ (I.tok _) rw')
  · subst ey
    cases (show u = Value.ref b from ry)
    obtain ⟨z, hd, xs, rel, dd⟩ := dt_rd I.hok e
    obtain ⟨w', hw, rw'⟩ := RelO.some_of (v := v) (o := (atKey xs k).map (·.2)) (by rw [l]; exact rel.val k)
    obtain ⟨p, hp, hp2⟩ := Option.map_eq_some_iff.mp hw
    refine wpAny_getItem_heap (tupleKind_room_in1 hu) (key_of I.hok eb) dd hp ?_
    rw [hp2]
    exact h w' _ (I.tok _) rw'
/-- y in d -/
theorem d_in {Q : Value → Shared → Prop} (hu : A.units + 1 < cLine) (I : Inv X pins σ H s) (g : DGet H a y o) (ry : RelV y u) (h : ∀ s', Inv X pins σ H s' → Q (.bool o.isSome) s') :
    wpAny (model X.prog X.w) A (compareOp .In u (.ref a)) Q E s := by
  rcases g with ⟨kvs, k, e, ey, l⟩ | ⟨kvs, k, b, e, ey, eb, l⟩
  · subst ey
    obtain ⟨z, hd, vs, rel, dd⟩ := dk_rd I.hok e
    refine wpAny_in_of (kV_is ry) hd dd.mapOf ?_
    rw [← (rel.val k).isSome_eq, ← l]
    exact h _ (I.tok _)
  · subst ey
    cases (show u = Value.ref b from ry)
    obtain ⟨z, hd, xs, rel, dd⟩ := dt_rd I.hok e
    refine wpAny_in_heap (tupleKind_room_in1 hu) (key_of I.hok eb) hd dd ?_
    have q := (rel.val k).isSome_eq
    rw [Option.isSome_map] at q
    rw [← q, ← l]
    exact h _ (I.tok _)
theorem d_notIn {Q : Value → Shared → Prop} (hu : A.units + 1 < cLine) (I : Inv X pins σ H s) (g : DGet H a y o) (ry : RelV y u) (h : ∀ s', Inv X pins σ H s' → Q (.bool (!o.isSome)) s') :
    wpAny (model X.prog X.w) A (compareOp .NotIn u (.ref a)) Q E s := by
  rcases g with ⟨kvs, k, e, ey, l⟩ | ⟨kvs, k, b, e, ey, eb, l⟩
  · subst ey
    obtain ⟨z, hd, vs, rel, dd⟩ := dk_rd I.hok e
    refine wpAny_notIn_of (kV_is ry) hd dd.mapOf ?_
    rw [← (rel.val k).isSome_eq, ← l]
    exact h _ (I.tok _)
  · subst ey
    cases (show u = Value.ref b from ry)
    obtain ⟨z, hd, xs, rel, dd⟩ := dt_rd I.hok e
    refine wpAny_notIn_heap (tupleKind_room_in1 hu) (key_of I.hok eb) hd dd ?_
    have q := (rel.val k).isSome_eq
    rw [Option.isSome_map] at q
    rw [← q, ← l]
    exact h _ (I.tok _)
/-- a dict's object is replaced -/
theorem d_write {h' : Heap} {t' : Nat} {ob : HO} (I : Inv X pins σ H s) (mu : Mut (H a)) (hs : Heap.SameBut a s.heap h') (he : ∃ q, h'.get? a = some q) (new : ObjOk X.prog X.w (upd H a ob) h' a ob) :
    Inv X pins σ (upd H a ob) { s with heap := h', toks := t' } :=
  I.write (x := a) (e := a) mu (.inl rfl) (fun b q hb z => (hs.2 b hb).trans z) he new
theorem dk_new {P : Program} {w : World} {H' : Hp} {h' : Heap} {kvs : List (Key × V)} {vs : List (Key × Value)} (z : kvs.length ≤ sizeLine) (hd : (a == sysModules) = false) (rel : KV kvs vs) (dd : h'.DictOf (mixKind P w) a vs) :
    ObjOk P w H' h' a (.dK kvs) := ⟨z, hd, vs, rel, dd⟩
/-- d[y] = v -/
theorem d_setItem {H' : Hp} {Q : Unit → Shared → Prop} (hu : A.units + 1 < cLine) (I : Inv X pins σ H s) (g : DPut H a y v H') (ry : RelV y u) (rv : RelV v r) (h : ∀ s', Inv X pins σ H' s' → Q () s') :
    wpAny (model X.prog X.w) A (setItem (.ref a) u r) Q E s := by
  rcases g with ⟨kvs, k, e, ey, l, eH⟩ | ⟨kvs, k, b, e, ey, eb, l, eH⟩
  · subst ey eH
    obtain ⟨z, hd, vs, rel, dd⟩ := dk_of I.hok e
    have hz : vs.length ≤ sizeLine := by rw [← rel.length]; exact z
    have hl : (putK kvs k v).length ≤ sizeLine := by have := length_putK kvs k v; omega
    refine wpAny_setItem_pairs (hsz := hz) (kV_is ry) dd fun h' dd' hs => h _ ?_
    have he : ∃ q, h'.get? a = some q := let ⟨q, _, _, hq, _⟩ := dd'; ⟨q, hq⟩
    exact d_write I (by rw [e]; exact True.intro) hs he (dk_new hl hd (rel.put k rv) dd')
  · subst ey eH
    cases (show u = Value.ref b from ry)
    obtain ⟨z, hd, xs, rel, dd⟩ := dt_of I.hok e
    have hz : xs.length ≤ sizeLine := by rw [← Paired.length rel]; exact z
    have hl : (putK kvs k v).length ≤ sizeLine := by have := length_putK kvs k v; omega
    refine wpAny_setItem_heap (hsz := hz) (tupleKind_room_in1 hu) (key_of I.hok eb) dd fun h' dd' hs => h _ ?_
    obtain ⟨q, es, ep, hq, h2, h3, h4, _, h5⟩ := dd'
    refine d_write I (by rw [e]; exact True.intro) hs ⟨q, hq⟩ ⟨hl, hd, _, (rel.put k eb rv).keeps fun c ys ec => ?_, q, es, ep, hq, h2, h3, h4, h5⟩
    rw [upd_ne (ne_of ec e (fun z => nomatch z))]
    exact ec
end

section
variable {X : Cx} {pins : List (Addr × Obj)} {σ : St} {H : Hp} {s : Shared} {a : Addr} {kvs : List (Key × V)} {k : Key} {u : Value} {A : Around} {E : Value → Shared → Prop}
end


/-- the element of a subscription, not a slice -/
def NoSl (i : Expr) : Prop := ∀ ov iv, subscripted i false ov iv = operate [ov, iv] (getItem ov iv)
theorem subD_of {prog : Program} {w : World} {A : Around} {E : Value → Shared → Prop} {s : Shared} {env : Env} {value slice : Expr} {pos : Pos} {T id : String} {Q : Value → Shared → Prop}
    (hl : typeLookup (.type T) "__getitem__" = pure (some (.builtin id))) (hs : NoSl slice)
    (h : wpAny (model prog w) A (eval value env) (fun o s₁ => wpAny (model prog w) A (eval slice env) (fun i s₂ => s₂.TypeIs o T ∧ wpAny (model prog w) A (getItem o i) Q E s₂) E s₁) E s) :
    wpAny (model prog w) A (eval (.Subscript value slice pos) env) Q E s := by
  refine Subscript_ (wpAny_mono h (fun o s₁ h₁ => wpAny_mono h₁ (fun i s₂ h₂ => ?_) fun _ _ x => x) fun _ _ x => x)
  obtain ⟨hT, h₂⟩ := h₂
  unfold subscriptTail
  refine wpAny_bind ?_
  rw [getitemInPython_of_ne hT.not_modules]
  refine wpAny_bind (wpAny_specialOf hT hl ?_)
  have fin : wpAny (model prog w) A (subscripted slice false o i) (fun r s₃ => wpAny (model prog w) A (letTemporaryGo value o r >>= fun _ => pure r) Q E s₃) E s₂ := by
    rw [hs o i]
    exact wpAny_operating (wpAny_mono h₂ (fun r s₃ h₃ => wpAny_bind (wpAny_letTemporaryGo (wpAny_pure h₃))) fun _ _ x => x)
  first
    | exact wpAny_pure (wpAny_bind fin)
    | exact wpAny_bind (wpAny_pure (wpAny_bind fin))
    | exact wpAny_bind fin

theorem dict_typeIs {X : Cx} {pins : List (Addr × Obj)} {σ : St} {H : Hp} {s : Shared} {a : Addr} {y : V} {o : Option V} (I : Inv X pins σ H s) (g : DGet H a y o) : s.TypeIs (.ref a) "dict" := by
  rcases g with ⟨kvs, k, e, _, _⟩ | ⟨kvs, k, b, e, _, _, _⟩
  · obtain ⟨_, _, vs, _, dd⟩ := dk_rd I.hok e
    exact dd.typeIs
  · obtain ⟨_, _, xs, _, dd⟩ := dt_rd I.hok e
    exact dd.typeIs
/-- d[y] -/
def tDGet (td ty : TE) : TE := fun σ H Q => td σ H fun x H1 => ty σ H1 fun y H2 => ∃ a v, x = .ref a ∧ DGet H2 a y (some v) ∧ Q v H2
/-- y in d, y not in d -/
def tDIn (ty td : TE) : TE := fun σ H Q => ty σ H fun y H1 => td σ H1 fun x H2 => ∃ a o, x = .ref a ∧ DGet H2 a y o ∧ Q (.bl o.isSome) H2
def tDNotIn (ty td : TE) : TE := fun σ H Q => ty σ H fun y H1 => td σ H1 fun x H2 => ∃ a o, x = .ref a ∧ DGet H2 a y o ∧ Q (.bl (!o.isSome)) H2
/-- d[y] = v -/
def sDPut (td ty tv : TE) : TS := fun D σ H => tv σ H fun v H1 => td σ H1 fun x H2 => ty σ H2 fun y H3 => ∃ a H4, x = .ref a ∧ DPut H3 a y v H4 ∧ D.nx σ H4
section
variable {X : Cx} {o i e value : Expr} {pos pos' tpos : Pos} {td ty tv : TE}
theorem pe_dget (hu : X.A.units + 1 < cLine) (ho : PE X o td) (hi : PE X i ty) (hs : NoSl i) : PE X (.Subscript o i pos) (tDGet td ty) := by
  intro pins s σ H Q I h
  refine subD_of PySem.F.slot_dict_getitem.lookup hs (thn (ho pins s σ H _ I h) fun u s1 ⟨x, H1, I1, rx, q1⟩ => thn (hi pins s1 σ H1 _ I1 q1) fun iv s2 ⟨y, H2, I2, ry, a, v, ex, g, q2⟩ => ?_)
  subst ex
  obtain rfl : u = Value.ref a := rx
  exact ⟨dict_typeIs I2 g, d_getItem hu I2 g ry fun w' s3 I3 rw' => ⟨v, H2, I3, rw', q2⟩⟩
theorem pc_din (hu : X.A.units + 1 < cLine) (hi : PE X i ty) (ho : PE X o td) : PC X .In i o (tDIn ty td) := by
  intro pins s σ H Q I h
  refine thn (hi pins s σ H _ I h) fun iv s1 ⟨y, H1, I1, ry, q1⟩ => thn (ho pins s1 σ H1 _ I1 q1) fun u s2 ⟨x, H2, I2, rx, a, ov, ex, g, q2⟩ => ?_
  subst ex
  obtain rfl : u = Value.ref a := rx
  exact d_in hu I2 g ry fun s3 I3 => ⟨.bl ov.isSome, H2, I3, rfl, q2⟩
theorem pc_dnotin (hu : X.A.units + 1 < cLine) (hi : PE X i ty) (ho : PE X o td) : PC X .NotIn i o (tDNotIn ty td) := by
  intro pins s σ H Q I h
  refine thn (hi pins s σ H _ I h) fun iv s1 ⟨y, H1, I1, ry, q1⟩ => thn (ho pins s1 σ H1 _ I1 q1) fun u s2 ⟨x, H2, I2, rx, a, ov, ex, g, q2⟩ => ?_
  subst ex
  obtain rfl : u = Value.ref a := rx
  exact d_notIn hu I2 g ry fun s3 I3 => ⟨.bl (!ov.isSome), H2, I3, rfl, q2⟩
theorem ps_dput (hu : X.A.units + 1 < cLine) (ho : PE X o td) (hi : PE X i ty) (hv : PE X value tv) (hs : swapsWith value (some (.Subscript o i pos')) pos.line X.env = pure false) :
    PS X (.Assign [.Subscript o i pos'] value pos) (sDPut td ty tv) := by
  intro pins s σ H D I h
  refine wpAny_Assign_Subscript (thn (hv pins s σ H _ I h) fun r s1 ⟨v, H1, I1, rv, q1⟩ => thn (ho pins s1 σ H1 _ I1 q1) fun u s2 ⟨x, H2, I2, rx, q2⟩ => thn (hi pins s2 σ H2 _ I2 q2) fun iv s3 ⟨y, H3, I3, ry, a, H4, ex, g, q3⟩ => ?_) hs
  subst ex
  obtain rfl : u = Value.ref a := rx
  exact d_setItem hu I3 g ry rv fun s4 I4 => ⟨σ, H4, I4, q3⟩
end


theorem dk_empty {P : Program} {w : World} {H : Hp} (h : Heap) (hb : sysModules < h.objs.size) : ObjOk P w H (h.push { cls := .type "dict", data := .dict #[] }) h.objs.size (.dK []) :=
  ⟨Nat.zero_le _, beq_eq_false_iff_ne.mpr (Ne.symm (Nat.ne_of_lt hb)), [], .nil, Heap.DictOf.new h⟩
/-- {}, to be a dict of the kind that is wanted -/
def tDNewK : TE := fun _ H Q => ∀ p, H p = none → Q (.ref p) (upd H p (.dK []))
section
variable {X : Cx} {pos : Pos}
theorem pe_dnewK : PE X (.Dict [] [] pos) tDNewK := fun pins s σ H Q I h =>
  wpAny_Dict_empty ⟨.ref s.heap.objs.size, _, I.laid (a := s.heap.objs.size) (o := .dK []) (t' := s.toks) (fun _ _ q => Heap.get?_push_of_some _ q) (Nat.le_refl _) (dk_empty s.heap I.big), rfl, h _ (I.hok.fresh (Nat.le_refl _))⟩
end

/-- the pairs of a display, from the left -/
def tPairs : List (TE × TE) → St → Hp → (List (V × V) → Hp → Prop) → Prop
  | [], _, H, Q => Q [] H
  | (tk, tv) :: r, σ, H, Q => tk σ H fun x H1 => tv σ H1 fun y H2 => tPairs r σ H2 fun ps H3 => Q ((x, y) :: ps) H3
abbrev VV : List (V × V) → List (Value × Value) → Prop := Paired fun p q => RelV p.1 q.1 ∧ RelV p.2 q.2
def PPs (X : Cx) (pos : Pos) (keys : List (Option Expr)) (values : List Expr) (trs : List (TE × TE)) : Prop :=
  ∀ (pins : List (Addr × Obj)) (s : Shared) (σ : St) (H : Hp) (Q : List (V × V) → Hp → Prop), Inv X pins σ H s → tPairs trs σ H Q →
    wpAny (model X.prog X.w) X.A (evalPairs (pairTrees keys values X.env pos)) (fun vs s' => ∃ ps H', Inv X pins σ H' s' ∧ VV ps vs ∧ Q ps H') X.xe s
theorem pps_nil {X : Cx} {pos : Pos} : PPs X pos [] [] [] := fun pins s σ H Q I h => pairTrees_nil_walk ⟨[], H, I, .nil, h⟩
theorem pps_cons {X : Cx} {pos : Pos} {k v : Expr} {ks : List (Option Expr)} {vs : List Expr} {tk tv : TE} {trs : List (TE × TE)} (hk : PE X k tk) (hv : PE X v tv) (hr : PPs X pos ks vs trs) :
    PPs X pos (some k :: ks) (v :: vs) ((tk, tv) :: trs) := fun pins s σ H Q I h =>
  pairTrees_cons_walk (thn (hk pins s σ H _ I h) fun u s1 ⟨x, H1, I1, rx, q1⟩ => thn (hv pins s1 σ H1 _ I1 q1) fun w2 s2 ⟨y, H2, I2, ry, q2⟩ =>
    thn (hr pins s2 σ H2 _ I2 q2) fun ws s3 ⟨ps, H3, I3, rel, q3⟩ => ⟨(x, y) :: ps, H3, I3, .cons ⟨rx, ry⟩ rel, q3⟩)

def mergeK (kvs more : List (Key × V)) : List (Key × V) := more.foldl (fun acc kv => putK acc kv.1 kv.2) kvs
theorem KV.merge : ∀ {more : List (Key × V)} {rs : List (Key × Value)} {kvs : List (Key × V)} {vs : List (Key × Value)}, KV more rs → KV kvs vs → KV (mergeK kvs more) (merged vs rs) := by
  intro more rs kvs vs r
  unfold KV at r
  induction r generalizing kvs vs with
  | nil => intro q; exact q
  | @cons p q ps qs h t ih =>
    intro r0
    have e : KV (putK kvs p.1 p.2) (stored vs q.1 q.2) := by
      have := r0.put p.1 h.2
      rw [← h.1]; exact this
    exact ih e
theorem length_mergeK : ∀ (more kvs : List (Key × V)), (mergeK kvs more).length ≤ kvs.length + more.length
  | [], kvs => by show kvs.length ≤ kvs.length + 0; omega
  | p :: r, kvs => by
    have h1 := length_mergeK r (putK kvs p.1 p.2)
    have h2 := length_putK kvs p.1 p.2
    show (mergeK (putK kvs p.1 p.2) r).length ≤ _
    rw [List.length_cons]; omega
theorem carries_of {P : Program} {w : World} : ∀ {kvs : List (Key × V)} {ws : List (Value × Value)}, VV (kvs.map fun kv => (kV kv.1, kv.2)) ws → ∃ rs, Carries (mixKind P w) ws rs ∧ KV kvs rs
  | [], _, r => by rw [List.map_nil] at r; cases r; exact ⟨[], True.intro, .nil⟩
  | p :: kvs, _, r => by
    rw [List.map_cons] at r
    cases r with
    | @cons a b as bs h t =>
      obtain ⟨rs, c, q⟩ := carries_of (P := P) (w := w) t
      obtain ⟨b1, b2⟩ := b
      exact ⟨(p.1, b2) :: rs, ⟨kV_is h.1, rfl, c⟩, .cons ⟨rfl, h.2⟩ q⟩
/-- {k: v, ..} with keys ints and texts; the new dict stands empty while the pairs are made -/
def tDisp (trs : List (TE × TE)) : TE := fun σ H Q => ∀ p, H p = none → tPairs trs σ (upd H p (.dK [])) fun ps H2 => H2 p = some (.dK []) ∧ ∃ kvs : List (Key × V), ps = kvs.map (fun kv => (kV kv.1, kv.2)) ∧ kvs.length ≤ 15 ∧ Q (.ref p) (upd H2 p (.dK (mergeK [] kvs)))
theorem pe_disp {X : Cx} {pos : Pos} {keys : List (Option Expr)} {values : List Expr} {trs : List (TE × TE)} (h : PPs X pos keys values trs) (hall : keys.all (·.isSome) = true) (hl : keys.length = values.length) (h0 : keys ≠ [])
    (h15 : keys.length ≤ 15) : PE X (.Dict keys values pos) (tDisp trs) := by
  intro pins s σ H Q I q
  have hn := I.hok.fresh (Nat.le_refl s.heap.objs.size)
  have I1 := I.laid (a := s.heap.objs.size) (o := .dK []) (h' := s.heap.push { cls := .type "dict", data := .dict #[] }) (t' := s.toks) (fun _ _ q => Heap.get?_push_of_some _ q) (Nat.le_refl _) (dk_empty s.heap I.big)
  refine wpAny_Dict_walk (knd := mixKind X.prog X.w) hall hl h0 h15 (thn (h pins _ σ _ _ I1 (q _ hn)) fun ws s2 ⟨ps, H2, I2, rel, e, kvs, ep, lk, q2⟩ => ?_)
  subst ep
  obtain ⟨rs, c, rk⟩ := carries_of (P := X.prog) (w := X.w) rel
  obtain ⟨z, hd, vs0, r0, dd⟩ := dk_of I2.hok e
  cases r0
  refine ⟨rs, c, dd, fun h' dd' hs => ⟨.ref s.heap.objs.size, _, ?_, rfl, q2⟩⟩
  have hz : (mergeK [] kvs).length ≤ sizeLine := by
    have h1 := length_mergeK kvs []
    rw [List.length_nil] at h1
    rw [sizeLine_eq]; omega
  have he : ∃ q, h'.get? s.heap.objs.size = some q := let ⟨q, _, _, hq, _⟩ := dd'; ⟨q, hq⟩
  exact d_write I2 (by rw [e]; exact True.intro) hs he (dk_new hz hd (rk.merge .nil) dd')


/-- a method call o.m(e) of a built-in, with one argument: what must be seen of the text -/
structure M1 (X : Cx) (o : Expr) (m : Str) (apos : Pos) (e : Expr) (cpos : Pos) : Prop where
  base : attributeBase o m X.env (eval o X.env) = eval o X.env
  few : ((backTo cpos (starEach [e] X.env)).all (fun x => !x.1) && (backToKw cpos (keywordEach [] X.env)).all (fun x => x.1.isSome)
    && decide (([e] : List Expr).length + ([] : List Keyword).length + (if ([] : List Keyword).isEmpty then 0 else 1) < 30)) = true
  line : (apos.endLine == cpos.line) = true
  trees : backTo cpos (starEach [e] X.env) = [(false, eval e X.env)]
structure M2 (X : Cx) (o : Expr) (m : Str) (apos : Pos) (e f : Expr) (cpos : Pos) : Prop where
  base : attributeBase o m X.env (eval o X.env) = eval o X.env
  few : ((backTo cpos (starEach [e, f] X.env)).all (fun x => !x.1) && (backToKw cpos (keywordEach [] X.env)).all (fun x => x.1.isSome)
    && decide (([e, f] : List Expr).length + ([] : List Keyword).length + (if ([] : List Keyword).isEmpty then 0 else 1) < 30)) = true
  line : (apos.endLine == cpos.line) = true
  trees : backTo cpos (starEach [e, f] X.env) = [(false, eval e X.env), (false, eval f X.env)]

section
variable {X : Cx} {pins : List (Addr × Obj)} {σ : St} {H : Hp} {s : Shared} {a : Addr} {y d : V} {u r : Value} {o : Option V} {A : Around} {E : Value → Shared → Prop}
end

section
variable {X : Cx} {o e f : Expr} {apos cpos : Pos} {td ty tx : TE}
end

section
variable {X : Cx} {pins : List (Addr × Obj)} {σ : St} {H : Hp} {s : Shared} {a : Addr} {kvs : List (Key × V)} {A : Around} {E : Value → Shared → Prop}
end


section
variable {X : Cx} {pins : List (Addr × Obj)} {σ : St} {H : Hp} {s : Shared} {a : Addr} {y : V} {u : Value} {A : Around} {E : Value → Shared → Prop}
end
end L2

namespace L2
open PySem PySem.Spec PyProof.Rows

section
variable {prog : Program} {w : World} {A : Around} {E : Value → Shared → Prop}
end

section
variable {X : Cx}
end
end L2

namespace L2
open PySem PySem.Spec PyProof.Rows

section
variable {X : Cx} {pins : List (Addr × Obj)} {σ : St} {H : Hp} {s : Shared} {h' : Heap}
/-- .. and one new object is laid -/
theorem Inv.turnedNew {t' : Nat} {ch : List Addr} {T : Addr} {ob : HO} (I : Inv X pins σ H s) (k : ∀ b o, b ∉ ch → s.heap.get? b = some o → h'.get? b = some o) (hf : ∀ b ∈ ch, FpOk X pins H b) (hT : s.heap.objs.size ≤ T)
    (new : ObjOk X.prog X.w (upd H T ob) h' T ob) : Inv X pins σ (upd H T ob) { s with heap := h', toks := t' } := by
  have hn : H T = none := I.hok.fresh hT
  have nit : ∀ b u, H b = some u → b ∉ ch := fun b u e z => by
    have q := (hf b z).1
    rw [q] at e; cases e
  refine I.step (g' := s.gens) (d' := s.drawn) (ch := ch) (fun b hb => ⟨(hf b hb).2.2.2.1, (hf b hb).2.1, (hf b hb).2.2.2.2.1, (hf b hb).2.2.2.2.2⟩) (fun b o _ _ hc e _ => k b o hc e) (fun b o _ _ hc e _ => ⟨o.slots, k b o hc e⟩)
    (fun b o _ e n => ?_) (fun b o hc e => ⟨o, k b o hc e⟩) (fun b xs e => ?_) (fun b o u e => ?_) (fun b ps e => ⟨#[], ?_⟩) (fun m hm => ?_) (fun b u e => ?_) I.bare
  · rw [upd_ne (Nat.ne_of_lt (Nat.lt_of_lt_of_le (Heap.lt_size e) hT))]; exact n
  · rw [upd_ne (ne_of_none e hn)]; exact e
  · rw [upd_ne (ne_of_none e hn)]; exact e
  · rw [upd_ne (ne_of_none e hn), e]; simp
  · obtain ⟨o, es, ep, ho, r⟩ := hm
    exact ⟨o, es, ep, k _ o (fun z => (hf _ z).2.1 rfl) ho, r⟩
  · by_cases hb : b = T
    · subst hb
      rw [upd_same] at e
      cases e
      exact new
    · rw [upd_ne hb] at e
      refine (I.hok b u e).stay (fun c v hc q => k c v ?_ q) (fun c q => by rw [upd_ne (ne_of_none q hn)]; exact q) fun c xs q => by rw [upd_ne (ne_of_none q hn)]; exact q
      rcases hc with z | z
      · rw [z]; exact nit b u e
      · exact nit c _ z

end
section
variable {X : Cx}
end

section
variable {X : Cx} {tg : Expr}
end
section
variable {X : Cx} {tg : Expr}
end

section
variable {prog : Program} {w : World} {A : Around} {E : Value → Shared → Prop} {s : Shared}
end

section
variable {X : Cx} {pins : List (Addr × Obj)} {σ : St} {H : Hp} {s : Shared} {d : Addr} {o : Obj}
end

section
variable {P : Program} {w : World} {K : PySem.W.Frag} {tg : Expr} {d : Addr} {o : Obj} {es : Array DictEntry} {ep : Nat}
end

section
variable {X : Cx} {tg e : Expr} {td : TE} {apos cpos : Pos}
end

/-- the list at a as it stands at each turn, each item in a new pair -/
def Ite (K : PySem.W.Frag) (a : Addr) : It :=
  ⟨fun i H => ∃ (xs : List V) (x : V), SqL K H a xs ∧ xs[i]? = some x, fun i H v H' => ∃ T x, v = .ref T ∧ H T = none ∧ H' = upd H T (.tup [.int (i : Nat), x]) ∧ ∀ xs, SqL K H a xs → xs[i]? = some x, fun i H => ∃ xs : List V, SqL K H a xs ∧ xs.length ≤ i⟩
theorem turn_enum {P : Program} {w : World} {K : PySem.W.Frag} {elts : List Expr} {kk : Nat} {tpos : Pos} (a e it : Addr) :
    Turn P w K (.Tuple elts kk tpos) (Ite K a) [e, it] e (fun i h => (∃ old, IsEnum h e it ((i : Nat) : Int) old) ∧ h.IsListIter it a i ∧ e ≠ it) where
  mem := by simp
  obj := fun i h st b hb => by
    obtain ⟨⟨old, he⟩, ⟨o, ho, hc, hd⟩, _⟩ := st
    have e' : b = e ∨ b = it := by simpa using hb
    rcases e' with z | z
    · rw [z]; exact ⟨_, he, fun v q => nomatch q⟩
    · rw [z]; exact ⟨o, ho, fun v q => by rw [hd] at q; cases q⟩
  keep := fun i h h' st k => let ⟨⟨old, he⟩, hi, hne⟩ := st; ⟨⟨old, k e (by simp) _ he⟩, hi.at fun o q => k it (by simp) o q, hne⟩
  item := by
    intro X hP hw hK hc i pins s σ H E I hf st hg
    subst hP hw hK
    obtain ⟨⟨old, he⟩, hit, hne⟩ := st
    obtain ⟨xs, x, hq, hx⟩ := hg
    obtain ⟨its, rv, p, hz⟩ := I.list hq
    obtain ⟨u, hu, ru⟩ := rv.get hx
    have hel : e < s.heap.objs.size := Heap.lt_size he
    have hil : it < s.heap.objs.size := by obtain ⟨_, q, _⟩ := hit; exact Heap.lt_size q
    refine wpAny_pyNext_enum_item he hit p.isList (x := u) (by simpa using hu) hne fun h' ho hit' hT hsz hk => ?_
    refine ⟨_, rfl, wpAny_letOwnedTupleGo_enum (s := { s with heap := h', toks := s.toks + 1 }) ho fun h'' he' sb => ?_⟩
    have hT2 : h''.get? s.heap.objs.size = some { cls := .type "tuple", data := .seq #[.int i s.toks, u] } := (sb.2 _ (Nat.ne_of_gt hel)).trans hT
    have new : ObjOk X.prog X.w (upd H s.heap.objs.size (.tup [.int (i : Nat), x])) h'' s.heap.objs.size (.tup [.int (i : Nat), x]) :=
      ⟨by show 2 ≤ sizeLine; decide, [.int i s.toks, u], .cons ⟨_, rfl⟩ (.cons ru .nil), ⟨_, hT2, rfl, _, rfl⟩⟩
    have I1 : Inv X pins σ (upd H s.heap.objs.size (.tup [.int (i : Nat), x])) { s with heap := h'', toks := s.toks + 1 } :=
      I.turnedNew (ch := [e, it]) (fun b ob hb q => (sb.2 b (fun z => hb (by simp [z]))).trans (hk b ob (fun z => hb (by simp [z])) (fun z => hb (by simp [z])) q)) hf (Nat.le_refl _) new
    refine ⟨.ref s.heap.objs.size, _, I1, rfl, ⟨_, x, rfl, I.hok.fresh (Nat.le_refl _), rfl, fun ys hy => by rw [I.list_inj hy hq]; exact hx⟩, ⟨⟨u, ?_⟩, hit'.at fun o q => (sb.2 it (Ne.symm hne)).trans q, hne⟩, fun b hb => ?_⟩
    · have e1 : ((i + 1 : Nat) : Int) = (i : Int) + 1 := by omega
      rw [e1]; exact he'
    · have hb' : b < s.heap.objs.size := by
        have e' : b = e ∨ b = it := by simpa using hb
        rcases e' with z | z
        · rw [z]; exact hel
        · rw [z]; exact hil
      rw [upd_ne (Nat.ne_of_lt hb')]
      exact (hf b hb).1
  done := by
    intro X hP hw hK hc i pins s σ H E I hf st hg
    subst hP hw hK
    obtain ⟨⟨old, he⟩, hit, hne⟩ := st
    obtain ⟨xs, hq, hx⟩ := hg
    obtain ⟨its, rv, p, hz⟩ := I.list hq
    obtain ⟨f0, f1, f2, f3, f4, f5⟩ := hf it (by simp)
    have hl := rv.length
    exact wpAny_pyNext_enum_end (I.ok.hd hc) he hit p.isList (by simp; omega) fun h' eb => ⟨rfl, I.turned (t' := s.toks) (fun b o hb q => eb b o hb q) f0 f1 f3 f4 f5⟩
  self := fun A i s Q E st h => let ⟨⟨_, he⟩, _⟩ := st; wpAny_pyIter_enum he h
def iEnum (K : PySem.W.Frag) (ta : TA) : TI := fun σ H R => ta σ H fun vs H1 => ∃ a xs, vs = [.ref a] ∧ SqL K H1 a xs ∧ R (Ite K a) H1
theorem pi_enum {X : Cx} {e : Expr} {ta : TA} {p pos tpos : Pos} {elts : List Expr} {kk : Nat} (hg : Gl X "enumerate") (hm : X.mg "enumerate" = none) (ha : PA X [e] ta) (hs : starEach [e] X.env = [(false, eval e X.env)] := by rfl) :
    PI X (.Tuple elts kk tpos) (.Call (.Name "enumerate" p) [e] [] pos) (iEnum X.K ta) := by
  intro pins s σ H R I h
  refine Call_ (ld_blt I hg hm boot_enumerate (PyProof.Rows.callWith_type1 (thn (ha pos pins s σ H _ I h) fun us s1 ⟨vs, H1, I1, r1, q1⟩ => ?_) hs rfl))
  obtain ⟨a, xs, ex, hq, q⟩ := q1
  subst ex
  cases r1 with
  | cons r rr =>
    cases rr
    cases r
    obtain ⟨its, rv, p', hz⟩ := I1.list hq
    refine call_enumerate_list p'.isList fun h' he hit hsz hk => wpAny_pyIter_enum he ?_
    have I2 : Inv X pins σ H1 { s1 with heap := h' } := I1.kept (t' := s1.toks) hk
    refine ⟨s1.heap.objs.size + 1, [s1.heap.objs.size + 1, s1.heap.objs.size], _, _, H1, rfl, I2, turn_enum a (s1.heap.objs.size + 1) s1.heap.objs.size, ⟨⟨.none, he⟩, hit, Nat.succ_ne_self _⟩, fun b hb => ?_, q⟩
    have e' : b = s1.heap.objs.size + 1 ∨ b = s1.heap.objs.size := by simpa using hb
    have hle : s1.heap.objs.size ≤ b := by
      rcases e' with z | z
      · rw [z]; exact Nat.le_add_right _ _
      · rw [z]; exact Nat.le_refl _
    exact I1.fpOk hle (I1.hok.fresh hle)
end L2

section 
namespace Bits
open PySem PyProof.Rows

end Bits
end 

section 
namespace TL
open PySem PySem.Builtin PySem.Builtin.Str PySem.StrLaws

end TL
end 

namespace L2
open PySem PySem.Spec PyProof.Rows

section
variable {X : Cx} {pins : List (Addr × Obj)} {σ : St} {H : Hp} {s : Shared} {Q : VK}
end

section
variable {X : Cx}

end

section
variable {X : Cx} {o e : Expr} {to te : TE}
end
end L2

namespace L2
open PySem PySem.Spec PyProof.Rows

section
variable {X : Cx}
end

end L2

namespace Att
open PySem PySem.W PySem.Calls PyProof.Rows

section
variable {prog : Program} {w : World} {A : Around} {E : Value → Shared → Prop} {s : Shared} {K : Frag}

end
end Att

namespace L2
open PySem PySem.Spec PyProof.Rows

end L2

namespace L2
open PySem PySem.Spec PyProof.Rows

end L2


namespace L2
open PySem PySem.Spec PyProof.Rows

/-- the j-th statement of a class's body -/
def inClass (s : Stmt) (j : Nat) : Stmt := match s with
  | .ClassDef _ _ _ body _ _ _ _ _ _ _ => body.getD j (.Pass ⟨0, 0, 0, 0⟩)
  | _ => .Pass ⟨0, 0, 0, 0⟩
def defArgs (s : Stmt) : Arguments := match s with
  | .FunctionDef _ a _ _ _ _ _ _ _ _ => a
  | _ => { posonlyargs := [], args := [], vararg := none, kwonlyargs := [], kw_defaults := [], kwarg := none, defaults := [] }
def defBody (s : Stmt) : List Stmt := match s with
  | .FunctionDef _ _ b _ _ _ _ _ _ _ => b
  | _ => []
def defScope (s : Stmt) : Scope := match s with
  | .FunctionDef _ _ _ _ _ _ sc _ _ _ => sc
  | _ => { kind := .function, names := [], isGenerator := false, isCoroutine := false }

abbrev CX0 : CXT := fun _ _ _ _ _ _ => False
abbrev E0 : XK := fun _ _ _ => False
theorem pass0 {X : Cx} : Passes CX0 X E0 := fun _ _ _ _ _ _ _ h => h.elim

structure Fun (K : PySem.W.Frag) (x qual : Str) (st : Stmt) (f : Addr) (fd : FuncData) : Prop where
  ex : ∃ (oc : Value) (od : Option Addr) (kV doc pm : Value) (an : Option Addr) (cdv ct : Value) (osl : Array (Option Value)),
    fd = PySem.W.fnOf x qual (defArgs st) (defBody st) (defScope st) .none kV doc pm an cdv ct ∧ K.lookup f = some ⟨oc, od, .func fd, osl⟩ ∧ PySem.W.codeIn K cdv qual = true
  kp : PySem.W.keepIn K (.ref f) = true
section
variable {P : Program} {w : World} {K : PySem.W.Frag} {mg : Str → Option Value} {base : Heap}
/-- THE RULE for a def: its body as a term of rules, and the reading of that term -/
theorem Fun.ok {x qual : Str} {st : Stmt} {f : Addr} {fd : FuncData} {N ps : List Str} {k : Nat} {sp : Sp} (F : Fun K x qual st f fd) (S : FnScope N ps (defScope st)) (len : ∀ vs H Q E, sp vs H Q E → vs.length = ps.length)
    (hbody : ∀ (cdv : Value) (A : Around) (outer : List Env) (s : Shared) (H : Hp) (vs : List V) (Q : VK) (E : XK), Room k (A.deeper (envOfC qual (defScope st) s.heap.objs.size f cdv)) → sp vs H Q E →
      ∃ t, PSs (cxOf CX0 P w K mg base N qual (defScope st) f cdv A outer s H E).nox (defBody st) t ∧ t { nx := fun _ H' => Q .non H', rt := Q } (start N vs) H) : FnOk P w K mg base CX0 (k + 1) f fd ps sp := by
  obtain ⟨oc, od, kV, doc, pm, an, cdv, ct, osl, rfl, lk, hcd⟩ := F.ex
  refine fn_of lk hcd S len fun A outer s H vs Q E hr hsp => ?_
  obtain ⟨t, h, q⟩ := hbody cdv A outer s H vs Q E hr hsp
  exact ⟨t, h.nox, q⟩
/-- how its arguments bind (no defaults): h is «fun _ _ _ _ _ _ us hl => match us, hl with | [_, _], _ => rfl», one _ a parameter -/
theorem Fun.binds {x qual : Str} {st : Stmt} {f : Addr} {fd : FuncData} {ps : List Str} (F : Fun K x qual st f fd)
    (h : ∀ (kV doc pm : Value) (an : Option Addr) (cdv ct : Value) (us : List Value), us.length = ps.length → bindArgs (PySem.W.fnOf x qual (defArgs st) (defBody st) (defScope st) .none kV doc pm an cdv ct) ⟨us, []⟩ = pure (ps.zip us)) : Binds K fd ps [] := by
  obtain ⟨oc, od, kV, doc, pm, an, cdv, ct, osl, rfl, lk, hcd⟩ := F.ex
  exact .all (h kV doc pm an cdv ct)
theorem fun_mk {x qual : Str} {st : Stmt} {f : Addr} {oc : Value} {od an : Option Addr} {osl : Array (Option Value)} {kV doc pm cdv ct : Value} (l : K.lookup f = some ⟨oc, od, .func (PySem.W.fnOf x qual (defArgs st) (defBody st) (defScope st) .none kV doc pm an cdv ct), osl⟩)
    (c : PySem.W.codeIn K cdv qual = true) (k : PySem.W.keepIn K (.ref f) = true) : Fun K x qual st f (PySem.W.fnOf x qual (defArgs st) (defBody st) (defScope st) .none kV doc pm an cdv ct) := ⟨⟨oc, od, kV, doc, pm, an, cdv, ct, osl, rfl, l, c⟩, k⟩
end
theorem hu_of {A : Around} {k : Nat} (hr : Room k A) : A.units + 1 < cLine := Nat.lt_of_le_of_lt (Nat.add_le_add_left (by decide : 1 ≤ 64) _) hr.units
section
variable {X : Cx}
theorem pv (i : Nat) {x : Str} {pos : Pos} (hN : X.N[i]? = some x := by rfl) (hv : Vis X.env.scope x := by first | exact Or.inl rfl | exact Or.inr (Or.inl rfl) | exact Or.inr (Or.inr rfl)) (hd : (x == ("__debug__" : Str)) = false := by decide)
    (hcd : (x == ("__classdict__" : Str)) = false := by decide) : PE X (.Name x pos) (tVar i) := pe_var hN hv hd hcd
end

theorem iteF {A B : Prop} (h : B) : if false = true then A else B := by
  rw [if_neg Bool.false_ne_true]
  exact h
theorem iteT {A B : Prop} (h : A) : if true = true then A else B := by
  rw [if_pos rfl]
  exact h
theorem ite2 {c A B : Prop} [Decidable c] (h1 : c → A) (h2 : ¬ c → B) : if c then A else B := by
  by_cases h : c
  · rw [if_pos h]
    exact h1 h
  · rw [if_neg h]
    exact h2 h
theorem iteNS {c A B : Prop} [Decidable c] (hc : c) (h : B) : if (!decide c) = true then A else B := by
  rw [decide_eq_true hc]
  exact iteF h

/-- all that was tracked is as it was -/
def Same (H H' : Hp) : Prop := ∀ b o, H b = some o → H' b = some o
theorem Same.refl (H : Hp) : Same H H := fun _ _ h => h
theorem Same.trans {H H1 H2 : Hp} (a : Same H H1) (b : Same H1 H2) : Same H H2 := fun c o h => b c o (a c o h)
theorem Same.free {H H' : Hp} (e : Same H H') {l : Addr} (h : H' l = Option.none) : H l = Option.none := by
  cases q : H l with
  | none => rfl
  | some o =>
    rw [e l o q] at h
    cases h
theorem Same.seq {K : PySem.W.Frag} {H H' : Hp} {a : Addr} {xs : List V} (e : Same H H') (h : SqL K H a xs) : SqL K H' a xs := by
  rcases h with (h | ⟨o, h⟩) | h
  · exact .inl (.inl (e _ _ h))
  · exact .inl (.inr ⟨o, e _ _ h⟩)
  · exact .inr h

section
variable {κ : Type} [DecidableEq κ]
theorem nd_snoc : ∀ {l : List κ} {k : κ}, l.Nodup → ¬ k ∈ l → (l ++ [k]).Nodup
  | [], k, _, _ => by simp
  | a :: r, k, h, hk => by
    obtain ⟨h1, h2⟩ := List.nodup_cons.mp h
    show (a :: (r ++ [k])).Nodup
    refine List.nodup_cons.mpr ⟨fun m => ?_, nd_snoc h2 fun m => hk (List.mem_cons.mpr (Or.inr m))⟩
    rcases List.mem_append.mp m with q | q
    · exact h1 q
    · exact hk (List.mem_cons.mpr (Or.inl (List.mem_singleton.mp q).symm))
end
/-- a new instance and its __init__ leave all that was tracked as it was -/
theorem Same.made {H H1 : Hp} {x dx C : Addr} (nx : H x = Option.none) (nd : H dx = Option.none) (k : ∀ b o, (upd (upd H dx (.own x)) x (.ins C dx [])) b = some o → b ≠ x → H1 b = some o) : Same H H1 := fun b o e =>
  k b o (by rw [upd_ne (ne_of_none e nx), upd_ne (ne_of_none e nd)]; exact e) (ne_of_none e nx)
end L2

section
set_option Elab.async false
set_option linter.all false
set_option maxRecDepth 100000
set_option maxHeartbeats 2000000
namespace L2
open PySem PySem.Spec PyProof.Rows
open PySem.W (WData Codec OpenSpec Well WellAll ReadsW ReadsAllW)
mutual
/-- x stands for the datum d, lists and tuples all the way -/
inductive Dw (K : PySem.W.Frag) (H : Hp) : V → WData → Prop
  | non : Dw K H .non .none
  | bl (b : Bool) : Dw K H (.bl b) (.bool b)
  | int (i : Int) : Dw K H (.int i) (.int i)
  | str (x : Str) : Dw K H (.str x) (.str x)
  | byt (b : Array UInt8) : Dw K H (.byt b) (.bytes b.toList)
  | lst {a : Addr} {xs : List V} {ds : List WData} : SqL K H a xs → DwAll K H xs ds → Dw K H (.ref a) (.list ds)
  | tup {a : Addr} {xs : List V} {ds : List WData} : SqT K H a xs → DwAll K H xs ds → Dw K H (.ref a) (.tuple ds)
inductive DwAll (K : PySem.W.Frag) (H : Hp) : List V → List WData → Prop
  | nil : DwAll K H [] []
  | cons {v : V} {vs : List V} {d : WData} {ds : List WData} : Dw K H v d → DwAll K H vs ds → DwAll K H (v :: vs) (d :: ds)
end
theorem dw_ints {K : PySem.W.Frag} {H : Hp} : ∀ ns : List Int, DwAll K H (ns.map V.int) (ns.map WData.int)
  | [] => .nil
  | n :: r => .cons (.int n) (dw_ints r)
theorem ints_dw {K : PySem.W.Frag} {H : Hp} : ∀ (ns : List Int) (xs : List V), DwAll K H xs (ns.map WData.int) → xs = ns.map V.int
  | [], xs, h => by
    cases h
    rfl
  | n :: r, xs, h => by
    cases h with
    | cons h1 h2 =>
      cases h1
      rw [ints_dw r _ h2] <;> rfl
section
variable {P : Program} {w : World} {K : PySem.W.Frag} {H : Hp} {h : Heap} {R : PySem.W.WRecords} {cl : Str → Option Addr}
theorem sqL_at {a : Addr} {xs : List V} (hok : HOk P w H h) (KX : K.In h) (q : SqL K H a xs) : ∃ (its : List Value) (o : Obj) (n : Nat), Vals xs its ∧ h.get? a = some o ∧ o.cls = .type "list" ∧ o.data = .seq its.toArray n := by
  rcases q with q | ⟨o, its, n, e, hc, _, hd, _, hv⟩
  · obtain ⟨_, its, n, hv, e⟩ := (show ObjOk P w H h a (.lst xs) from q.ok hok)
    exact ⟨its, _, n, hv, e, rfl, rfl⟩
  · exact ⟨its.toList, o, n, hv, KX _ _ e, hc, by simp [hd]⟩
theorem sqT_at {a : Addr} {xs : List V} (hok : HOk P w H h) (KX : K.In h) (q : SqT K H a xs) : ∃ (its : List Value) (o : Obj) (n : Nat), Vals xs its ∧ h.get? a = some o ∧ o.cls = .type "tuple" ∧ o.data = .seq its.toArray n := by
  rcases q with q | ⟨o, its, n, e, hc, hd, _, hv⟩
  · obtain ⟨_, its, hv, o, e, hc, n, hd⟩ := (show ObjOk P w H h a (.tup xs) from q.ok hok)
    exact ⟨its, o, n, hv, e, hc, hd⟩
  · exact ⟨its.toList, o, n, hv, KX _ _ e, hc, by simp [hd]⟩
mutual
theorem Dw.reads (hok : HOk P w H h) (KX : K.In h) : ∀ (d : WData) (v : V) (u : Value), Dw K H v d → RelV v u → ∃ as, ReadsW R cl h u d as
  | .none, _, _, x, r => by
    cases x
    cases r
    exact ⟨_, ReadsW.none⟩
  | .bool b, _, _, x, r => by
    cases x
    cases r
    exact ⟨_, ReadsW.bool b⟩
  | .int i, _, _, x, r => by
    cases x
    obtain ⟨t, rfl⟩ := r
    exact ⟨_, ReadsW.int i t⟩
  | .str s, _, _, x, r => by
    cases x
    obtain ⟨t, rfl⟩ := r
    exact ⟨_, ReadsW.str s t⟩
  | .bytes b, _, _, x, r => by
    cases x
    obtain ⟨t, rfl⟩ := r
    exact ⟨_, ReadsW.bytes _ t⟩
  | .list ds, _, _, x, r => by
    cases x with
    | lst hs ha =>
      cases r
      obtain ⟨its, o, n, rv, ho, hc, hd⟩ := sqL_at hok KX hs
      obtain ⟨as, hr⟩ := Dw.readsAll hok KX ds _ its ha rv
      exact ⟨_, ReadsW.list ho hc hd hr⟩
  | .tuple ds, _, _, x, r => by
    cases x with
    | tup hs ha =>
      cases r
      obtain ⟨its, o, n, rv, ho, hc, hd⟩ := sqT_at hok KX hs
      obtain ⟨as, hr⟩ := Dw.readsAll hok KX ds _ its ha rv
      exact ⟨_, ReadsW.tuple ho hc hd hr⟩
  | .float _, _, _, x, _ => by cases x
  | .dict _, _, _, x, _ => by cases x
  | .bytearray _, _, _, x, _ => by cases x
  | .set _, _, _, x, _ => by cases x
  | .frozenset _, _, _, x, _ => by cases x
  | .obj _ _, _, _, x, _ => by cases x
theorem Dw.readsAll (hok : HOk P w H h) (KX : K.In h) : ∀ (ds : List WData) (vs : List V) (us : List Value), DwAll K H vs ds → Vals vs us → ∃ as, ReadsAllW R cl h us ds as
  | [], _, _, x, r => by
    cases x
    cases r
    exact ⟨_, ReadsAllW.nil⟩
  | d :: ds, _, _, x, r => by
    cases x with
    | cons h1 h2 =>
      cases r with
      | cons r1 r2 =>
        obtain ⟨as, q1⟩ := Dw.reads hok KX d _ _ h1 r1
        obtain ⟨bs, q2⟩ := Dw.readsAll hok KX ds _ _ h2 r2
        exact ⟨_, ReadsAllW.cons q1 q2⟩
end
end
mutual
/-- data that a codec tells -/
def plW : WData → Bool
  | .none => true
  | .bool _ => true
  | .int _ => true
  | .str _ => true
  | .bytes _ => true
  | .list xs => plWs xs
  | .tuple xs => plWs xs
  | _ => false
def plWs : List WData → Bool
  | [] => true
  | x :: r => plW x && plWs r
end
theorem plWs_map {α : Type} {f : α → WData} (h : ∀ a, plW (f a) = true) : ∀ l : List α, plWs (l.map f) = true
  | [] => rfl
  | x :: r => by
    show (plW (f x) && plWs (r.map f)) = true
    rw [h x, plWs_map h r] <;> rfl
theorem pl_enc : ∀ (c : Codec) (a : c.denote), plW (c.enc a) = true
  | .unit, _ => rfl
  | .bool, _ => rfl
  | .int _ _, _ => rfl
  | .nat _ _, _ => rfl
  | .u8, _ => rfl
  | .bytes _ _, _ => rfl
  | .text _ _ _ _, _ => rfl
  | .list _ _ c, a => plWs_map (fun x => pl_enc c x) a
  | .pair c d, a => by
    show (plW (c.enc a.1) && (plW (d.enc a.2) && true)) = true
    rw [pl_enc c a.1, pl_enc d a.2] <;> rfl
  | .triple c d e, a => by
    show (plW (c.enc a.1) && (plW (d.enc a.2.1) && (plW (e.enc a.2.2) && true))) = true
    rw [pl_enc c a.1, pl_enc d a.2.1, pl_enc e a.2.2] <;> rfl
  | .option c, none => rfl
  | .option c, some x => pl_enc c x
theorem pl_encAll : ∀ (cs : List Codec) (a : Codec.denoteAll cs), plWs (Codec.encAll cs a) = true
  | [], _ => rfl
  | c :: cs, a => by
    show (plW (c.enc a.1) && plWs (Codec.encAll cs a.2)) = true
    rw [pl_enc c a.1, pl_encAll cs a.2] <;> rfl
theorem weight_mem : ∀ {xs : List WData} {d : WData}, d ∈ xs → d.weight ≤ WData.weightAll xs
  | [], d, h => absurd h (by simp)
  | x :: r, d, h => by
    show d.weight ≤ x.weight + 1 + WData.weightAll r
    rcases List.mem_cons.mp h with e | m
    · rw [e]
      omega
    · have z := weight_mem m
      omega
def toV : Value → V
  | .none => .non
  | .bool b => .bl b
  | .int i _ => .int i
  | .str x _ => .str x
  | .bytes b _ => .byt b
  | .ref a => .ref a
  | _ => .non
/-- a value of the arguments, its objects among A -/
def OkU (A : List Addr) : Value → Prop
  | .none => True
  | .bool _ => True
  | .int _ _ => True
  | .str _ _ => True
  | .bytes _ _ => True
  | .ref a => a ∈ A
  | _ => False
theorem OkU.mono {A B : List Addr} (h : ∀ a ∈ A, a ∈ B) : ∀ {u : Value}, OkU A u → OkU B u := fun {u} x => by
  cases u with
  | ref a => exact h a x
  | none => trivial
  | bool b => trivial
  | int i t => trivial
  | str s t => trivial
  | bytes b t => trivial
  | _ => exact False.elim x
theorem relV_toV {A : List Addr} {u : Value} (x : OkU A u) : RelV (toV u) u := by
  cases u with
  | ref a => rfl
  | none => rfl
  | bool b => rfl
  | int i t => exact ⟨t, rfl⟩
  | str s t => exact ⟨t, rfl⟩
  | bytes b t => exact ⟨t, rfl⟩
  | _ => exact False.elim x
theorem vals_toV {A : List Addr} : ∀ {vs : List Value}, (∀ u ∈ vs, OkU A u) → Vals (vs.map toV) vs
  | [], _ => .nil
  | u :: r, h => .cons (relV_toV (h u (List.mem_cons_self ..))) (vals_toV fun x hx => h x (List.mem_cons_of_mem _ hx))
/-- an object of the arguments -/
def ArgOb (h : Heap) (A : List Addr) (a : Addr) : Prop := ∃ vs : List Value, vs.length ≤ sizeLine ∧ (∀ u ∈ vs, OkU A u) ∧
  (h.get? a = some { cls := .type "list", data := .seq vs.toArray } ∨ h.get? a = some { cls := .type "tuple", data := .seq vs.toArray })
theorem ArgOb.mono {h : Heap} {A B : List Addr} {a : Addr} (k : ∀ a ∈ A, a ∈ B) (x : ArgOb h A a) : ArgOb h B a := by
  obtain ⟨vs, h1, h2, h3⟩ := x
  exact ⟨vs, h1, fun u hu => (h2 u hu).mono k, h3⟩
theorem wellAll_len {P : Params} {h : Heap} : ∀ {vs : List Value} {ds : List WData}, WellAll P h vs ds → vs.length = ds.length
  | _, _, .nil => rfl
  | _, _, .cons _ b => by
    show _ + 1 = _ + 1
    rw [wellAll_len b]
theorem well_list {P : Params} {h : Heap} {v : Value} {ds : List WData} (x : Well P h v (.list ds)) : ∃ (a : Addr) (vs : List Value), v = .ref a ∧ h.get? a = some { cls := .type "list", data := .seq vs.toArray } ∧ WellAll P h vs ds := by
  cases x with
  | list ho hall => exact ⟨_, _, rfl, ho, hall⟩
theorem well_tuple {P : Params} {h : Heap} {v : Value} {ds : List WData} (x : Well P h v (.tuple ds)) : ∃ (a : Addr) (vs : List Value), v = .ref a ∧ h.get? a = some { cls := .type "tuple", data := .seq vs.toArray } ∧ WellAll P h vs ds := by
  cases x with
  | tuple ho hall => exact ⟨_, _, rfl, ho, hall⟩
theorem well_cons {P : Params} {h : Heap} {us : List Value} {d : WData} {ds : List WData} (x : WellAll P h us (d :: ds)) : ∃ (v : Value) (vs : List Value), us = v :: vs ∧ Well P h v d ∧ WellAll P h vs ds := by
  cases x with
  | cons a b => exact ⟨_, _, rfl, a, b⟩
theorem line_of {n : Nat} (h : n ≤ 1048576) : n ≤ sizeLine := Nat.le_trans h (by decide)
section
variable {P : Params} {h : Heap}
mutual
theorem area_one : ∀ (d : WData) (v : Value), Well P h v d → plW d = true → d.weight ≤ 1048576 → ∃ A : List Addr, OkU A v ∧ ∀ a ∈ A, ArgOb h A a
  | .none, _, x, _, _ => by
    cases x
    exact ⟨[], trivial, fun a m => absurd m (by simp)⟩
  | .bool b, _, x, _, _ => by
    cases x
    exact ⟨[], trivial, fun a m => absurd m (by simp)⟩
  | .int i, _, x, _, _ => by
    cases x
    exact ⟨[], trivial, fun a m => absurd m (by simp)⟩
  | .str s, _, x, _, _ => by
    cases x
    exact ⟨[], trivial, fun a m => absurd m (by simp)⟩
  | .bytes b, _, x, _, _ => by
    cases x
    exact ⟨[], trivial, fun a m => absurd m (by simp)⟩
  | .list ds, _, x, p, z => by
    obtain ⟨a, vs, rfl, ho, hall⟩ := well_list x
    have z2 : WData.weightAll ds ≤ 1048576 := z
    obtain ⟨A, h1, h2⟩ := area_all ds _ hall p fun d hd => Nat.le_trans (weight_mem hd) z2
    have k : ∀ b ∈ A, b ∈ a :: A := fun b hb => List.mem_cons_of_mem _ hb
    refine ⟨a :: A, List.mem_cons_self .., fun b hb => ?_⟩
    rcases List.mem_cons.mp hb with e | m
    · rw [e]
      exact ⟨vs, line_of (by rw [wellAll_len hall]; exact Nat.le_trans (PySem.W.length_le_weightAllW ds) z2), fun u hu => (h1 u hu).mono k, .inl ho⟩
    · exact (h2 b m).mono k
  | .tuple ds, _, x, p, z => by
    obtain ⟨a, vs, rfl, ho, hall⟩ := well_tuple x
    have z2 : WData.weightAll ds ≤ 1048576 := z
    obtain ⟨A, h1, h2⟩ := area_all ds _ hall p fun d hd => Nat.le_trans (weight_mem hd) z2
    have k : ∀ b ∈ A, b ∈ a :: A := fun b hb => List.mem_cons_of_mem _ hb
    refine ⟨a :: A, List.mem_cons_self .., fun b hb => ?_⟩
    rcases List.mem_cons.mp hb with e | m
    · rw [e]
      exact ⟨vs, line_of (by rw [wellAll_len hall]; exact Nat.le_trans (PySem.W.length_le_weightAllW ds) z2), fun u hu => (h1 u hu).mono k, .inr ho⟩
    · exact (h2 b m).mono k
  | .float _, _, _, p, _ => Bool.noConfusion (show false = true from p)
  | .dict _, _, _, p, _ => Bool.noConfusion (show false = true from p)
  | .bytearray _, _, _, p, _ => Bool.noConfusion (show false = true from p)
  | .set _, _, _, p, _ => Bool.noConfusion (show false = true from p)
  | .frozenset _, _, _, p, _ => Bool.noConfusion (show false = true from p)
  | .obj _ _, _, _, p, _ => Bool.noConfusion (show false = true from p)
theorem area_all : ∀ (ds : List WData) (vs : List Value), WellAll P h vs ds → plWs ds = true → (∀ d ∈ ds, d.weight ≤ 1048576) → ∃ A : List Addr, (∀ u ∈ vs, OkU A u) ∧ ∀ a ∈ A, ArgOb h A a
  | [], _, x, _, _ => by
    cases x
    exact ⟨[], fun u m => absurd m (by simp), fun a m => absurd m (by simp)⟩
  | d :: ds, _, x, p, z => by
    obtain ⟨v, vs, rfl, x1, x2⟩ := well_cons x
    have q : plW d = true ∧ plWs ds = true := Bool.and_eq_true_iff.mp p
    obtain ⟨A, a1, a2⟩ := area_one d v x1 q.1 (z d (List.mem_cons_self ..))
    obtain ⟨B, b1, b2⟩ := area_all ds vs x2 q.2 fun e he => z e (List.mem_cons_of_mem _ he)
    have kA : ∀ b ∈ A, b ∈ A ++ B := fun b hb => List.mem_append.mpr (.inl hb)
    have kB : ∀ b ∈ B, b ∈ A ++ B := fun b hb => List.mem_append.mpr (.inr hb)
    refine ⟨A ++ B, fun u hu => ?_, fun b hb => ?_⟩
    · rcases List.mem_cons.mp hu with e | m
      · rw [e]
        exact a1.mono kA
      · exact (b1 u m).mono kB
    · rcases List.mem_append.mp hb with m | m
      · exact (a2 b m).mono kA
      · exact (b2 b m).mono kB
end
end
/-- what is tracked of an argument's object -/
def hoOf (o : Obj) : Option HO := match o.data with
  | .seq vs _ => if (o.cls == Value.type "list") = true then some (.frz o (.lst (vs.toList.map toV))) else some (.frz o (.tup (vs.toList.map toV)))
  | _ => none
def argH (K : PySem.W.Frag) (h : Heap) (A : List Addr) : Hp := fun b => if b ∈ A then (if (K.lookup b).isNone = true then (h.get? b).bind hoOf else none) else none
/-- nothing is tracked but what is known to the object -/
def OnlyF (H : Hp) : Prop := ∀ b, H b = none ∨ ∃ o u, H b = some (.frz o u)
theorem hoOf_lst (vs : List Value) : hoOf { cls := .type "list", data := .seq vs.toArray } = some (.frz { cls := .type "list", data := .seq vs.toArray } (.lst (vs.map toV))) := by
  show (if (Value.type "list" == Value.type "list") = true then some (HO.frz { cls := .type "list", data := .seq vs.toArray } (.lst (vs.toArray.toList.map toV))) else some (HO.frz { cls := .type "list", data := .seq vs.toArray } (.tup (vs.toArray.toList.map toV)))) = _
  rw [if_pos (beq_self_eq_true _)]
theorem hoOf_tup (vs : List Value) : hoOf { cls := .type "tuple", data := .seq vs.toArray } = some (.frz { cls := .type "tuple", data := .seq vs.toArray } (.tup (vs.map toV))) := by
  show (if (Value.type "tuple" == Value.type "list") = true then some (HO.frz { cls := .type "tuple", data := .seq vs.toArray } (.lst (vs.toArray.toList.map toV))) else some (HO.frz { cls := .type "tuple", data := .seq vs.toArray } (.tup (vs.toArray.toList.map toV)))) = _
  rw [if_neg (by decide)]
section
variable {P : Program} {w : World} {K : PySem.W.Frag} {h : Heap} {A : List Addr}
theorem argH_at {b : Addr} {o : Obj} (hb : b ∈ A) (hk : K.lookup b = none) (e : h.get? b = some o) : argH K h A b = hoOf o := by
  unfold argH
  rw [if_pos hb, hk, if_pos (show (none : Option Obj).isNone = true from rfl), e] <;> rfl
theorem of_argH {b : Addr} {u : HO} (q : argH K h A b = some u) : b ∈ A ∧ K.lookup b = none := by
  unfold argH at q
  by_cases hb : b ∈ A
  · rw [if_pos hb] at q
    cases hk : K.lookup b with
    | none => exact ⟨hb, rfl⟩
    | some o =>
      rw [hk, if_neg (by simp)] at q
      cases q
  · rw [if_neg hb] at q
    cases q
/-- what stands tracked -/
theorem argH_is (ar : ∀ a ∈ A, ArgOb h A a) {b : Addr} {u : HO} (q : argH K h A b = some u) : K.lookup b = none ∧ ∃ vs : List Value, vs.length ≤ sizeLine ∧ (∀ u ∈ vs, OkU A u) ∧
    ((h.get? b = some { cls := .type "list", data := .seq vs.toArray } ∧ u = .frz { cls := .type "list", data := .seq vs.toArray } (.lst (vs.map toV))) ∨
     (h.get? b = some { cls := .type "tuple", data := .seq vs.toArray } ∧ u = .frz { cls := .type "tuple", data := .seq vs.toArray } (.tup (vs.map toV)))) := by
  obtain ⟨hb, hk⟩ := of_argH q
  obtain ⟨vs, h1, h2, h3⟩ := ar b hb
  refine ⟨hk, vs, h1, h2, ?_⟩
  rcases h3 with e | e
  · rw [argH_at hb hk e, hoOf_lst] at q
    exact .inl ⟨e, (Option.some.inj q).symm⟩
  · rw [argH_at hb hk e, hoOf_tup] at q
    exact .inr ⟨e, (Option.some.inj q).symm⟩
theorem argH_only (ar : ∀ a ∈ A, ArgOb h A a) : OnlyF (argH K h A) := fun b => by
  cases q : argH K h A b with
  | none => exact .inl rfl
  | some u =>
    obtain ⟨_, vs, _, _, ⟨_, e⟩ | ⟨_, e⟩⟩ := argH_is ar q
    · exact .inr ⟨_, _, by rw [e]⟩
    · exact .inr ⟨_, _, by rw [e]⟩
theorem argH_ok (ar : ∀ a ∈ A, ArgOb h A a) : HOk P w (argH K h A) h := fun b u q => by
  obtain ⟨_, vs, h1, h2, ⟨e, rfl⟩ | ⟨e, rfl⟩⟩ := argH_is ar q
  · exact ⟨e, by rw [List.length_map]; exact h1, vs, _, vals_toV h2, e⟩
  · exact ⟨e, by rw [List.length_map]; exact h1, vs, vals_toV h2, _, e, rfl, _, rfl⟩
theorem seq_inj {c c' : Value} {vs us : List Value} (e : (some { cls := c, data := .seq vs.toArray } : Option Obj) = some { cls := c', data := .seq us.toArray }) : c = c' ∧ vs = us := by
  have e1 := Option.some.inj e
  have e2 : c = c' := congrArg Obj.cls e1
  have e3 : Data.seq vs.toArray = Data.seq us.toArray := congrArg Obj.data e1
  injection e3 with e4
  refine ⟨e2, ?_⟩
  have e5 := congrArg Array.toList e4
  simpa using e5
/-- a list argument -/
theorem argL (KX : K.In h) (ar : ∀ a ∈ A, ArgOb h A a) {a : Addr} {vs : List Value} (ha : a ∈ A) (e : h.get? a = some { cls := .type "list", data := .seq vs.toArray }) : (∀ u ∈ vs, OkU A u) ∧ SqL K (argH K h A) a (vs.map toV) := by
  obtain ⟨us, h1, h2, h3⟩ := ar a ha
  have hu : us = vs := by
    rcases h3 with q | q
    · rw [e] at q
      exact (seq_inj q).2.symm
    · rw [e] at q
      exact absurd (Value.type.inj (seq_inj q).1) (by decide)
  subst hu
  refine ⟨h2, ?_⟩
  cases hk : K.lookup a with
  | none => exact .inl (.inr ⟨_, by rw [argH_at ha hk e, hoOf_lst]⟩)
  | some o =>
    have e2 := KX a o hk
    rw [e] at e2
    obtain rfl := Option.some.inj e2
    exact .inr ⟨_, us.toArray, _, hk, rfl, rfl, rfl, by rw [List.size_toArray]; exact h1, by simpa using vals_toV h2⟩
theorem argT (KX : K.In h) (ar : ∀ a ∈ A, ArgOb h A a) {a : Addr} {vs : List Value} (ha : a ∈ A) (e : h.get? a = some { cls := .type "tuple", data := .seq vs.toArray }) : (∀ u ∈ vs, OkU A u) ∧ SqT K (argH K h A) a (vs.map toV) := by
  obtain ⟨us, h1, h2, h3⟩ := ar a ha
  have hu : us = vs := by
    rcases h3 with q | q
    · rw [e] at q
      exact absurd (Value.type.inj (seq_inj q).1) (by decide)
    · rw [e] at q
      exact (seq_inj q).2.symm
  subst hu
  refine ⟨h2, ?_⟩
  cases hk : K.lookup a with
  | none => exact .inl (.inr ⟨_, by rw [argH_at ha hk e, hoOf_tup]⟩)
  | some o =>
    have e2 := KX a o hk
    rw [e] at e2
    obtain rfl := Option.some.inj e2
    exact .inr ⟨_, us.toArray, _, hk, rfl, rfl, by rw [List.size_toArray]; exact h1, by simpa using vals_toV h2⟩
mutual
theorem dw_one {Pm : Params} (KX : K.In h) (ar : ∀ a ∈ A, ArgOb h A a) : ∀ (d : WData) (v : Value), Well Pm h v d → plW d = true → OkU A v → Dw K (argH K h A) (toV v) d
  | .none, _, x, _, _ => by
    cases x
    exact .non
  | .bool b, _, x, _, _ => by
    cases x
    exact .bl b
  | .int i, _, x, _, _ => by
    cases x
    exact .int i
  | .str s, _, x, _, _ => by
    cases x
    exact .str s
  | .bytes b, _, x, _, _ => by
    cases x
    have z := Dw.byt (K := K) (H := argH K h A) b.toArray
    exact z
  | .list ds, _, x, p, hu => by
    obtain ⟨a, vs, rfl, ho, hall⟩ := well_list x
    obtain ⟨h2, hs⟩ := argL KX ar hu ho
    exact .lst hs (dw_all KX ar ds _ hall p h2)
  | .tuple ds, _, x, p, hu => by
    obtain ⟨a, vs, rfl, ho, hall⟩ := well_tuple x
    obtain ⟨h2, hs⟩ := argT KX ar hu ho
    exact .tup hs (dw_all KX ar ds _ hall p h2)
  | .float _, _, _, p, _ => Bool.noConfusion (show false = true from p)
  | .dict _, _, _, p, _ => Bool.noConfusion (show false = true from p)
  | .bytearray _, _, _, p, _ => Bool.noConfusion (show false = true from p)
  | .set _, _, _, p, _ => Bool.noConfusion (show false = true from p)
  | .frozenset _, _, _, p, _ => Bool.noConfusion (show false = true from p)
  | .obj _ _, _, _, p, _ => Bool.noConfusion (show false = true from p)
theorem dw_all {Pm : Params} (KX : K.In h) (ar : ∀ a ∈ A, ArgOb h A a) : ∀ (ds : List WData) (vs : List Value), WellAll Pm h vs ds → plWs ds = true → (∀ u ∈ vs, OkU A u) → DwAll K (argH K h A) (vs.map toV) ds
  | [], _, x, _, _ => by
    cases x
    exact .nil
  | d :: ds, _, x, p, hu => by
    obtain ⟨v, vs, rfl, x1, x2⟩ := well_cons x
    have q : plW d = true ∧ plWs ds = true := Bool.and_eq_true_iff.mp p
    exact .cons (dw_one KX ar d v x1 q.1 (hu _ (List.mem_cons_self ..))) (dw_all KX ar ds vs x2 q.2 fun u m => hu u (List.mem_cons_of_mem _ m))
end
end
theorem spec_call {P : Program} {w : World} {K : PySem.W.Frag} {mg mb : Str → Option Value} {CX : CXT} {k : Nat} {fa : Addr} {fd : FuncData} {ps : List Str} {sp : Sp} {s₁ : Shared} {vals : List Value} {ds : List WData} {R : PySem.W.WRecords} {cl : Str → Option Addr} {d0 : WData}
    (KX : K.In s₁.heap) (hns : s₁.heap.Ns mainGlobals mg) (hb : s₁.heap.Ns builtinsNs mb) (hbb : ∀ x : Str, x ≠ "__name__" → mb x = bootBuiltins x) (hlim : s₁.heap.NoLimit) (hg : s₁.gens = #[])
    (hwl : WellAll w.params s₁.heap vals ds) (hpl : plWs ds = true) (hwt : ∀ d ∈ ds, d.weight ≤ 1048576) (hr : Room k callerA)
    (F : ∀ base : Heap, K.In base → base.Ns mainGlobals mg → FnOk P w K mg base CX k fa fd ps sp) (hbind : ∀ (s : Shared) (us : List Value), us.length = ps.length → BindsTo s fd ⟨us, []⟩ (ps.zip us)) (hlen : ds.length = ps.length)
    (hsp : ∀ (H : Hp) (xs : List V), OnlyF H → DwAll K H xs ds → sp xs H (fun v H' => Dw K H' v d0) fun _ _ _ => False)
    (hCX : ∀ H e s', CX [] H s₁ (fun _ _ _ => False) e s' → False) :
    codeAny (model P w) callerA (.call (.ref fa) ⟨vals, []⟩) (fun r s' => ∃ u as, r = .ok (.ret u) ∧ ReadsW R cl s'.heap u d0 as ∧ OldK s₁.heap s'.heap ∧ s'.os = s₁.os ∧ AllBare s'.gens) s₁ := by
  obtain ⟨A, ho, ar⟩ := area_all ds vals hwl hpl hwt
  have hO : OnlyF (argH K s₁.heap A) := argH_only ar
  have hok : HOk P w (argH K s₁.heap A) s₁.heap := argH_ok ar
  have hS := dw_all KX ar ds vals hwl hpl ho
  have hV := vals_toV ho
  have hK : ∀ b u, argH K s₁.heap A b = some u → K.lookup b = none := fun b u q => (argH_is ar q).1
  have noA : ∀ {b : Addr} {o : Obj} {es : Array DictEntry} {ep : Nat}, s₁.heap.get? b = some o → o.data = .dict es ep → argH K s₁.heap A b = none := fun {b o es ep} e d => by
    cases q : argH K s₁.heap A b with
    | none => rfl
    | some u =>
      obtain ⟨_, vs, _, _, ⟨e2, _⟩ | ⟨e2, _⟩⟩ := argH_is ar q
      · rw [e2] at e
        cases e
        have d' : Data.seq vs.toArray _ = Data.dict es ep := d
        cases d'
      · rw [e2] at e
        cases e
        have d' : Data.seq vs.toArray _ = Data.dict es ep := d
        cases d'
  generalize argH K s₁.heap A = H at hO hok hS hK noA
  have base_of : ∀ {b : Addr} {o : Obj}, s₁.heap.get? b = some o → H b = none → (hidT s₁.heap H).get? b = some o := fun e n => hidT_get e n
  have nsK : ∀ {b : Addr} {m : Str → Option Value}, s₁.heap.Ns b m → (hidT s₁.heap H).Ns b m := fun {b m} ⟨o, es, ep, e, d, r⟩ => ⟨o, es, ep, base_of e (noA e d), d, r⟩
  have nK : ∀ b o, K.lookup b = some o → H b = none := fun b o e => by
    cases q : H b with
    | none => rfl
    | some u =>
      rw [hK b u q] at e
      cases e
  have hKb : K.In (hidT s₁.heap H) := fun b o e => base_of (KX b o e) (nK b o e)
  have hM : Mod K mg (hidT s₁.heap H) := ⟨hKb, nsK hns, ⟨mb, nsK hb, hbb⟩, let ⟨mc, h1, h2⟩ := hlim; ⟨mc, nsK h1, h2⟩⟩
  have e0 : Env0 P w K mg (hidT s₁.heap H) callerA [] s₁ H := ⟨rfl, hM, fun b o e => of_hidT e, Nat.le_of_eq (hidT_size _ _), trivial, fun b hb => absurd (show b ∈ ([] : List Addr) from hb) (by simp), hok, .of_eq hg⟩
  have hl : vals.length = ps.length := by rw [wellAll_len hwl]; exact hlen
  refine codeAny_mono ((F _ hKb (nsK hns)).run callerA [] s₁ H ⟨vals, []⟩ vals (vals.map toV) _ _ hr e0 (hbind s₁ vals hl) hV (hsp H _ hO hS)) fun r s' x => ?_
  cases r with
  | error e => exact (hCX H e s' x).elim
  | ok fl =>
    cases fl with
    | next => exact False.elim x
    | brk => exact False.elim x
    | cont => exact False.elim x
    | ret u =>
      obtain ⟨v, H', os, bare, un, hok', r', q⟩ := x
      have kept : ∀ b o, s₁.heap.get? b = some o → s'.heap.get? b = some o := fun b o e => by
        cases q2 : H b with
        | none => exact un.keep b o e q2 (by intro z; exact absurd (show b ∈ ([] : List Addr) from z) (by simp)) (by simp)
        | some u2 =>
          rcases hO b with z | ⟨ob, u3, z⟩
          · rw [q2] at z
            cases z
          · have z2 := un.frzs b ob _ z
            obtain ⟨e1, _⟩ := hok b _ z
            obtain ⟨e2, _⟩ := hok' b _ z2
            rw [e] at e1
            cases e1
            exact e2
      have KX' : K.In s'.heap := fun b o e => kept b o (KX b o e)
      obtain ⟨as, hrd⟩ := Dw.reads (R := R) (cl := cl) hok' KX' d0 v u q r'
      exact ⟨u, as, rfl, hrd, OldK.of_keep kept, os, bare⟩
theorem layable_weight {ds : List WData} (h : WData.layableAll ds = true) : ∀ d ∈ ds, d.weight ≤ 1048576 := fun d hd =>
  (PySem.W.layableW_iff.mp (List.all_eq_true.mp h d hd)).2.2
theorem encAll_len : ∀ (cs : List Codec) (a : Codec.denoteAll cs), (Codec.encAll cs a).length = cs.length
  | [], _ => rfl
  | c :: cs, a => by
    show (Codec.encAll cs a.2).length + 1 = cs.length + 1
    rw [encAll_len cs a.2]
/-- the goal that k_headS leaves (case hc), from the promise of the row's def: whatever the arguments that the codecs let and the row asks for, the def gives what stands for enc (f ..) -/
theorem walk_spec {r : OpenSpec} {k : Nat} {q : Program} {loose : List Str} {XP : (Str → Option Value) → Heap → Prop} {YP : World → Heap → Prop} {d : DefRec} {K : Params → PySem.W.Frag} {CX : World → CXT} {ps : List Str} {sp : World → Sp}
    (hwell : r.wellSaid = true) (hdf : d.params.defaults = []) (hlen : r.args.length = ps.length) (hr : Room k callerA)
    (hY : ∀ (w : World) (h : Heap), YP w h → (K w.params).In h)
    (F : ∀ (w : World) (mg : Str → Option Value) (fa : Addr) (h : Heap), YP w h → (K w.params).In h → h.Ns mainGlobals mg → mg d.name = some (.ref fa) →
      ∃ fd : FuncData, (∀ (s : Shared) (us : List Value), us.length = ps.length → BindsTo s fd ⟨us, []⟩ (ps.zip us)) ∧
        ∀ base : Heap, (K w.params).In base → base.Ns mainGlobals mg → FnOk r.prog w (K w.params) mg base (CX w) k fa fd ps (sp w))
    (hsp : ∀ (w : World) (H : Hp) (xs : List V) (a : Codec.denoteAll r.args), OnlyF H → Codec.withinAll r.args a = true → Codec.app r.args r.asked a = true → DwAll (K w.params) H xs (Codec.encAll r.args a) →
      sp w xs H (fun v H' => Dw (K w.params) H' v (r.ret.enc (Codec.app r.args r.f a))) fun _ _ _ => False)
    (hCX : ∀ (w : World) (H : Hp) (s : Shared) (e : Value) (s' : Shared), CX w [] H s (fun _ _ _ => False) e s' → False) :
    PySem.W.WalkOS q loose XP YP r d [] (fun f vs => PySem.call f vs) := by
  intro w s_0 s₁ mg mb G Y fa o pm cd doc dV kV ho hd hcd hD hmg hg args vals as hpre hlay hrd hwl hlo
  obtain ⟨a, e1, e2⟩ := PySem.W.os_pre_some hpre
  obtain ⟨e3, hwi⟩ := Codec.encAll_of_decAll r.args args a e1
  subst e3
  have KX := hY w _ Y
  obtain ⟨fd, hb, hF⟩ := F w mg fa _ Y KX G.T.g hmg
  refine PySem.W.enter_call (codeAny_mono (spec_call (R := []) (cl := classAt s_0.heap) (d0 := r.ret.enc (Codec.app r.args r.f a)) KX G.T.g G.T.b G.T.builtins G.T.nolimit hg hwl (pl_encAll _ _) (layable_weight hlay) hr hF hb (by rw [encAll_len]; exact hlen)
    (fun H xs hO hS => hsp w H xs a hO hwi e2 hS) fun H e s' => hCX w H s₁ e s') fun r' s' hq => ?_)
  obtain ⟨u, as', rfl, h1, h2, h3, h4⟩ := hq
  exact ⟨.inl ⟨u, _, as', rfl, fun _ => rfl, h1, (OpenSpec.post_iff hwell hwi _ _).mpr rfl, fun z => Bool.noConfusion (show false = true from z)⟩, h2, h3, h4⟩
/-- the same where the promise hangs on the written part alone -/
theorem walk_specK {r : OpenSpec} {k : Nat} {q : Program} {loose : List Str} {XP : (Str → Option Value) → Heap → Prop} {YP : World → Heap → Prop} {d : DefRec} {K : Params → PySem.W.Frag} {CX : CXT} {ps : List Str} {sp : PySem.W.Frag → Sp}
    (hwell : r.wellSaid = true) (hdf : d.params.defaults = []) (hlen : r.args.length = ps.length) (hr : Room k callerA)
    (hY : ∀ (w : World) (h : Heap), YP w h → (K w.params).In h)
    (F : ∀ (w : World) (mg : Str → Option Value) (fa : Addr) (h : Heap), YP w h → (K w.params).In h → h.Ns mainGlobals mg → mg d.name = some (.ref fa) →
      ∃ fd : FuncData, (∀ (s : Shared) (us : List Value), us.length = ps.length → BindsTo s fd ⟨us, []⟩ (ps.zip us)) ∧
        ∀ base : Heap, (K w.params).In base → base.Ns mainGlobals mg → FnOk r.prog w (K w.params) mg base CX k fa fd ps (sp (K w.params)))
    (hsp : ∀ (K : PySem.W.Frag) (H : Hp) (xs : List V) (a : Codec.denoteAll r.args), OnlyF H → Codec.withinAll r.args a = true → Codec.app r.args r.asked a = true → DwAll K H xs (Codec.encAll r.args a) →
      sp K xs H (fun v H' => Dw K H' v (r.ret.enc (Codec.app r.args r.f a))) fun _ _ _ => False)
    (hCX : ∀ (H : Hp) (s : Shared) (e : Value) (s' : Shared), CX [] H s (fun _ _ _ => False) e s' → False) :
    PySem.W.WalkOS q loose XP YP r d [] (fun f vs => PySem.call f vs) :=
  walk_spec (K := K) (CX := fun _ => CX) (sp := fun w => sp (K w.params)) hwell hdf hlen hr hY F (fun w H xs a h1 h2 h3 h4 => hsp (K w.params) H xs a h1 h2 h3 h4) fun _ H s e s' => hCX H s e s'
end L2
-- rests on (row put in by the clerk, for the bench that shows a file only what it spells): KE.SpHead KE.OsShapes
end
end
section
set_option Elab.async false
set_option linter.all false
set_option maxRecDepth 100000
set_option maxHeartbeats 2000000
/-! more rules over the layer: in, not in, index over lists of data; setdefault, update, sorted of a dict -/
namespace L2
open PySem PySem.Spec PyProof.Rows
section
variable {X : Cx}
/-- x in xs, x not in xs: xs a list of data -/
def rInD (K : PySem.W.Frag) : R2 := fun x y H Q => ∃ p xs ds d, y = V.ref p ∧ SqL K H p xs ∧ DpAll K H xs ds ∧ Dp K H x d ∧ PyData.canLayAll0 ds = true ∧ d.canLay0 = true ∧ d.depth ≤ 8 ∧ Q (.bl (ds.any fun z => PyData.eqv z d)) H
def rNotInD (K : PySem.W.Frag) : R2 := fun x y H Q => ∃ p xs ds d, y = V.ref p ∧ SqL K H p xs ∧ DpAll K H xs ds ∧ Dp K H x d ∧ PyData.canLayAll0 ds = true ∧ d.canLay0 = true ∧ d.depth ≤ 8 ∧ Q (.bl (!ds.any fun z => PyData.eqv z d)) H
theorem op_inD (hu : X.A.units + 64 < cLine) : OpR X (compareOp .In) (rInD X.K) := by
  intro pins s σ H x y v u Q I rx ry h
  obtain ⟨p, xs, ds, d, rfl, hs, ha, hd, c1, c2, dep, q⟩ := h
  obtain ⟨as, r1⟩ := Dp.reads I (.list ds) (.ref p) u (.lst hs ha) ry
  obtain ⟨bs, r2⟩ := Dp.reads I d x v hd rx
  refine SeqAt.in_list_reads r1 r2 c1 c2 ?_ ⟨.bl _, H, I, rfl, q⟩
  have : min (PyData.depthAll ds) d.depth ≤ d.depth := Nat.min_le_right _ _
  omega
theorem op_notInD (hu : X.A.units + 64 < cLine) : OpR X (compareOp .NotIn) (rNotInD X.K) := by
  intro pins s σ H x y v u Q I rx ry h
  obtain ⟨p, xs, ds, d, rfl, hs, ha, hd, c1, c2, dep, q⟩ := h
  obtain ⟨as, r1⟩ := Dp.reads I (.list ds) (.ref p) u (.lst hs ha) ry
  obtain ⟨bs, r2⟩ := Dp.reads I d x v hd rx
  refine SeqAt.notIn_list_reads r1 r2 c1 c2 ?_ ⟨.bl _, H, I, rfl, q⟩
  have : min (PyData.depthAll ds) d.depth ≤ d.depth := Nat.min_le_right _ _
  omega
/-- xs.index(y), xs a list of data -/
def rIndexD (K : PySem.W.Frag) : V → List V → Hp → VK → Prop := fun x xs H Q => ∃ (a : Addr) (ys : List V) (ds : List PyData) (y : V) (d : PyData) (j : Nat) (e : PyData), x = V.ref a ∧ xs = [y] ∧ SqL K H a ys ∧ DpAll K H ys ds ∧ Dp K H y d ∧
  PyData.canLayAll0 ds = true ∧ d.canLay0 = true ∧ d.depth ≤ 8 ∧ ds[j]? = some e ∧ PyData.eqv e d = true ∧ (∀ (m : Nat) (e' : PyData), m < j → ds[m]? = some e' → PyData.eqv e' d = false) ∧ Q (.int (j : Nat)) H
theorem mt_indexD (hu : X.A.units + 64 < cLine) : MtR X "list.index" (rIndexD X.K) := by
  intro pins s σ H x xs v us Q I rx rxs h
  obtain ⟨a, ys, ds, y, d, j, e, rfl, rfl, hs, ha, hd, c1, c2, dep, hj, hit, hno, q⟩ := h
  cases rx
  cases rxs with
  | cons ry rt =>
    rename_i uy ut
    cases rt
    obtain ⟨bs, r2⟩ := Dp.reads I d y uy hd ry
    obtain ⟨its, rv, ⟨⟨cls, dd, data, sl⟩, n, ho, hc, hdn, hdt⟩, hlen⟩ := I.list hs
    simp only at hc hdt
    subst hc hdt
    obtain ⟨as, r1⟩ := Dp.readsAll I ds ys its ha rv
    have hm := SeqAt.readsAll_map ds its as c1 r1
    have hlm : its.length = ds.length := by rw [← hm, List.length_map]
    have at_ : ∀ (m : Nat) (hm' : m < its.length) (e' : PyData), ds[m]? = some e' → SeqAt.readOf s.heap its[m] = e' := fun m hm' e' he' => by
      rw [← hm, List.getElem?_map, List.getElem?_eq_getElem hm'] at he'
      exact Option.some.inj he'
    have hjl : j < its.length := by rw [hlm]; exact (List.getElem?_eq_some_iff.mp hj).1
    have hvl := rv.length
    have hsl := sizeLine_eq
    refine call_meets PySem.F.slot_list_index ⟨_, ho, rfl⟩ PySem.F.entry_list_index (PySem.F.args_list_index_2 _ _)
      (SeqAt.list_indexAt a its.toArray n dd sl uy (fun z => PyData.eqv (SeqAt.readOf s.heap z) d) j (by simpa using hjl) (by omega) ?_ ?_) ⟨ho, SeqAt.items_eqAt (by simpa using r1) r2 c1 c2 ?_, ?_⟩
    · show PyData.eqv (SeqAt.readOf s.heap its.toArray[j]) d = true
      have e1 : its.toArray[j]'(by simpa using hjl) = its[j] := by simp
      rw [e1, at_ j hjl e hj]
      exact hit
    · intro m hm' hmj
      have hml : m < its.length := by simpa using hm'
      show PyData.eqv (SeqAt.readOf s.heap its.toArray[m]) d = false
      have e1 : its.toArray[m] = its[m] := by simp
      have hmd : ds[m]? = some (ds[m]'(by omega)) := List.getElem?_eq_getElem (by omega)
      rw [e1, at_ m hml _ hmd]
      exact hno m _ hmj hmd
    · have : min (PyData.depthAll ds) d.depth ≤ d.depth := Nat.min_le_right _ _
      omega
    · exact ⟨.int (j : Nat), H, I.tok _, ⟨_, rfl⟩, q⟩

/-- d.setdefault(k, z) -/
def rSetdef : V → List V → Hp → VK → Prop := fun x xs H Q => ∃ (a : Addr) (kvs : List (Key × V)) (k : Key) (z : V), x = V.ref a ∧ xs = [kV k, z] ∧ H a = some (.dK kvs) ∧ kvs.length < sizeLine ∧
  (∀ v, valV kvs k = some v → Q v H) ∧ (valV kvs k = none → Q z (upd H a (.dK (putK kvs k z))))
theorem mt_setdef : MtR X "dict.setdefault" rSetdef := by
  intro pins s σ H x xs v us Q I rx rxs h
  obtain ⟨a, kvs, k, z, rfl, rfl, e, hz, q1, q2⟩ := h
  cases rx
  cases rxs with
  | cons rk rt =>
    cases rt with
    | cons rz rt2 =>
      cases rt2
      rename_i uk uz
      obtain ⟨hl, hd, vs, rel, dd⟩ := dk_of I.hok e
      refine call_meetsIn PySem.F.slot_dict_setdefault dd.typeIs PySem.F.entry_dict_setdefault (PySem.F.args_dict_setdefault_3 _ _ _) (PySem.kt_meets_setdefault (mixKind X.prog X.w) a (kV_is rk) hd uz)
        ⟨vs, dd, by rw [← rel.length]; exact hl, fun v' hv' => ?_, fun hn h' dd' hs => ?_⟩
      · have r := rel.val k
        rw [hv'] at r
        cases l : valV kvs k with
        | none => rw [l] at r; exact (show False from r).elim
        | some w' => rw [l] at r; exact ⟨w', H, I.tok _, r, q1 w' l⟩
      · have r := rel.val k
        rw [hn] at r
        cases l : valV kvs k with
        | some w' => rw [l] at r; exact (show False from r).elim
        | none =>
          have he : ∃ q, h'.get? a = some q := let ⟨q, _, _, hq, _⟩ := dd'; ⟨q, hq⟩
          have hl' : (putK kvs k z).length ≤ sizeLine := by have := length_putK kvs k z; omega
          exact ⟨z, _, d_write I (by rw [e]; exact True.intro) hs he (dk_new hl' hd (rel.put k rz) dd'), rz, q2 l⟩

/-- d.update(e), two dicts -/
def rUpdate : V → List V → Hp → VK → Prop := fun x xs H Q => ∃ (a b : Addr) (kvs more : List (Key × V)), x = V.ref a ∧ xs = [V.ref b] ∧ H a = some (.dK kvs) ∧ H b = some (.dK more) ∧ a ≠ b ∧ kvs.length + more.length ≤ sizeLine ∧
  Q .non (upd H a (.dK (mergeK kvs more)))
theorem mt_update : MtR X "dict.update" rUpdate := by
  intro pins s σ H x xs v us Q I rx rxs h
  obtain ⟨a, b, kvs, more, rfl, rfl, ea, eb, hne, hz, q⟩ := h
  cases rx
  have hus := Vals.ref1 rxs
  subst hus
  obtain ⟨hl, hd, vs, rel, dd⟩ := dk_of I.hok ea
  obtain ⟨hl2, hd2, vs2, rel2, dd2⟩ := dk_of I.hok eb
  refine call_meetsIn PySem.F.slot_dict_update dd.typeIs PySem.F.entry_dict_update (PySem.F.args_dict_update_2 _ _) (meets_dict_update (mixKind X.prog X.w) a b hne hd2)
    ⟨vs, vs2, dd, dd2, by rw [← rel.length, ← rel2.length]; exact hz, fun h' dd' _ hs => ?_⟩
  have he : ∃ q, h'.get? a = some q := let ⟨q, _, _, hq, _⟩ := dd'; ⟨q, hq⟩
  have hl' : (mergeK kvs more).length ≤ sizeLine := Nat.le_trans (length_mergeK more kvs) hz
  exact ⟨.non, _, d_write (t' := s.toks) I (by rw [ea]; exact True.intro) hs he (dk_new hl' hd (rel2.merge rel) dd'), rfl, q⟩

/-- sorted(d): the keys, ints, fewer than 64 -/
def rSortedD : List V → Hp → VK → Prop := fun vs H Q => ∃ (a : Addr) (kvs : List (Key × V)) (ns : List Int), vs = [V.ref a] ∧ H a = some (.dK kvs) ∧ kvs.map (·.1) = ns.map Sum.inl ∧ ns.length < 64 ∧
  ∀ (ns' : List Int) (p : Addr), ns'.Perm ns → ns'.Pairwise (· ≤ ·) → H p = none → Q (.ref p) (upd H p (.lst (ns'.map V.int)))
theorem keys_ints {P : Program} {w : World} : ∀ {vs : List (Key × Value)} {ns : List Int} {us : List Value}, vs.map (·.1) = ns.map Sum.inl → us.length = vs.length →
    (∀ (j : Nat) (v : Value), us[j]? = some v → ∃ k x, vs[j]? = some (k, x) ∧ (mixKind P w).is k v = true) → IntsAre us ns
  | [], [], [], _, _, _ => .nil
  | [], [], _ :: _, _, h, _ => by simp at h
  | [], _ :: _, _, h, _, _ => by simp at h
  | _ :: _, [], _, h, _, _ => by simp at h
  | _ :: _, _ :: _, [], _, h, _ => by simp at h
  | (k, x) :: vs, n :: ns, u :: us, he, hl, ht => by
    simp only [List.map_cons, List.cons.injEq] at he
    obtain ⟨k', x', e1, e2⟩ := ht 0 u rfl
    simp only [List.getElem?_cons_zero, Option.some.injEq, Prod.mk.injEq] at e1
    obtain ⟨rfl, rfl⟩ := e1
    have hk := he.1
    subst hk
    obtain ⟨t, rfl⟩ : ∃ t, u = Value.int n t := Value.isInt_shape (k := n) (v := u) e2
    exact .cons n t (keys_ints he.2 (by simpa using hl) fun j v hj => by
      obtain ⟨k'', x'', q1, q2⟩ := ht (j + 1) v (by simpa using hj)
      exact ⟨k'', x'', by simpa using q1, q2⟩)
theorem cr_sortedD (hc : X.calm = true) : CallR X (.builtin "sorted") rSortedD := by
  intro pins s σ H vs us Q I r h
  obtain ⟨a, kvs, ns, rfl, e, hk, h64, q⟩ := h
  rw [Vals.ref1 r]
  obtain ⟨hl, hd, ws, rel, dd⟩ := dk_of I.hok e
  obtain ⟨ep, hat⟩ := dd.dictAt
  have hkeys : ws.map (·.1) = ns.map Sum.inl := by rw [← rel.keys]; exact hk
  have hwl : ws.length = ns.length := by have := congrArg List.length hkeys; simpa using this
  refine Calls.call_function_entry kind_sorted plain_sorted entry_sorted (args_sorted1 _) ?_
  unfold Builtin.«sorted»
  refine wpAny_bind (m := checkCount "sorted" 1 1 _) (wpAny_pure ?_)
  refine wpAny_bind (PySem.W.kdu_collect (A := X.A.in1) (PySem.W.kdl_dict (knd := mixKind X.prog X.w) (kvs := ws) (ep := ep) hd) (I.ok.hd hc) hat (by rw [← rel.length]; exact hl) fun h' tk acc hkp hacc => ?_)
  have hal : acc.toList.length = ws.length := by rw [Array.length_toList]; exact hacc.1
  have hi : IntsAre acc.toList ns := keys_ints hkeys hal fun j v hj => hacc.2 j v (by rw [← Array.getElem?_toList]; exact hj)
  have I1 : Inv X pins σ H { s with heap := h', toks := tk } := I.kept hkp
  refine wpAny_bind (wpAny_newList ?_ (by rw [hal, ← rel.length]; exact hl))
  have hob : (h'.push { cls := .type "list", data := .seq acc.toList.toArray }).get? h'.objs.size = some (seqObj "list" acc.toList.toArray 0) := Heap.get?_push_size _ rfl
  refine wpAny_bind (wpAny_holding (wpAny_call_entry PyProof.Rows.slot_list_sort ⟨_, hob, rfl⟩ PyProof.Rows.entry_list_sort
    (PyProof.Rows.list_sort_tree hob hi (by rw [hi.length]; exact h64) fun out ns' h1 h2 h3 => ⟨.none, rfl, ?_⟩) (PyProof.Rows.args_list_sort _)))
  obtain ⟨ep', he'⟩ := PyProof.Rows.sortedHeap_at (vs := acc.toList) (out := out) hob
  have hlen : (ns'.map V.int).length ≤ sizeLine := by rw [List.length_map, h2.length_eq]; exact small64 h64
  refine wpAny_pure ⟨_, rfl, .ref h'.objs.size, upd H h'.objs.size (.lst (ns'.map V.int)), ?_, rfl, q ns' _ h2 h3 (I1.hok.fresh (Nat.le_refl _))⟩
  refine I1.laid (t' := tk) (fun b o eb => ?_) (Nat.le_refl _) ⟨hlen, out.toList, ep', vals_of_ints h1, he'⟩
  have hb : b ≠ h'.objs.size := Nat.ne_of_lt (Heap.lt_size eb)
  rw [PyProof.Rows.sortedHeap_old hb (Nat.lt_trans (Heap.lt_size eb) (by rw [size_push']; exact Nat.lt_succ_self _))]
  exact Heap.get?_push_of_some _ eb
end
end L2
end
section
set_option Elab.async false
set_option linter.all false
set_option maxRecDepth 100000
set_option maxHeartbeats 2000000
/-! more rules over the layer: a slice with a step, max(xs, default=d), a for and a comprehension over enumerate(xs) -/
namespace L2
open PySem PySem.Spec PyProof.Rows
/-! ### xs[lo:hi:step] -/
def pickV (xs : List V) (lo hi st : Option Int) : List V :=
  (sliceRange (sliceBounds lo hi st xs.length).1 (sliceBounds lo hi st xs.length).2.1 (sliceBounds lo hi st xs.length).2.2).filterMap (xs[·]?)
theorem vals_places {xs : List V} {us : List Value} (r : Vals xs us) : ∀ js : List Nat, Vals (js.filterMap (xs[·]?)) (js.filterMap (us[·]?))
  | [] => .nil
  | j :: js => by
    have t := vals_places r js
    cases e : xs[j]? with
    | some x =>
      obtain ⟨u, hu, ru⟩ := r.get e
      simp only [List.filterMap_cons, e, hu]
      exact .cons ru t
    | none =>
      have e' : us[j]? = none := by
        rw [List.getElem?_eq_none_iff] at e ⊢
        rw [← r.length]; exact e
      simp only [List.filterMap_cons, e, e']
      exact t
theorem pick_list (us : List Value) (n : Nat) (hn : us.length = n) (lo hi st : Option Int) :
    slicePick us.toArray lo hi st = ((sliceRange (sliceBounds lo hi st n).1 (sliceBounds lo hi st n).2.1 (sliceBounds lo hi st n).2.2).filterMap (us[·]?)).toArray := by
  subst hn
  apply Array.toList_inj.mp
  simp [slicePick]
section
variable {X : Cx} {e st : Expr} {te : TE} {lo hi : Option Expr} {tl th ts : TO} {pos p2 : Pos}
def tSl3 (K : PySem.W.Frag) (te : TE) (tl th ts : TO) : TE := fun σ H Q => te σ H fun x H1 => tl σ H1 fun l H2 => th σ H2 fun u H3 => ts σ H3 fun k H4 =>
  ∃ a xs, x = .ref a ∧ SqL K H4 a xs ∧ k ≠ some 0 ∧ (pickV xs l u k).length ≤ sizeLine ∧ ∀ p, H4 p = none → Q (.ref p) (upd H4 p (.lst (pickV xs l u k)))
theorem pe_slice3 (he : PE X e te) (hl : PO X lo tl) (hu : PO X hi th) (hk : PO X (some st) ts) : PE X (.Subscript e (.Slice lo hi (some st) p2) pos) (tSl3 X.K te tl th ts) := by
  intro pins s σ H Q I h
  refine Subscript_ (thn (he pins s σ H _ I h) fun v s1 ⟨x, H1, I1, r1, q1⟩ => ?_)
  refine wpAny_Slice (thn (hl pins s1 σ H1 _ I1 q1) fun vl s2 ⟨l, H2, I2, pl, q2⟩ => thn (hu pins s2 σ H2 _ I2 q2) fun vu s3 ⟨u, H3, I3, pu, q3⟩ => thn (hk pins s3 σ H3 _ I3 q3) fun vk s4 ⟨k, H4, I4, pk, q4⟩ => ?_)
  obtain ⟨a, xs, rfl, hx, h0, hz, q⟩ := q4
  have hv : v = .ref a := by cases r1; rfl
  subst hv
  obtain ⟨its, rv, ht, hsz⟩ := I4.list hx
  have hlen : its.length = xs.length := rv.length.symm
  generalize hs5 : ({ s4 with heap := s4.heap.push { cls := .type "slice", data := .fields #[vl, vu, vk] } } : Shared) = s5
  have I5 : Inv X pins σ H4 s5 := by rw [← hs5]; exact I4.kept (t' := s4.toks) fun b ob q => Heap.get?_push_of_some _ q
  obtain ⟨its', rv', ht', hsz'⟩ := I5.list hx
  have hsl : s5.heap.IsSliceOf s4.heap.objs.size vl vu vk := by rw [← hs5]; exact Heap.IsSliceOf.new ..
  have hl' : its'.length = xs.length := rv'.length.symm
  have hg : wpAny (model X.prog X.w) X.A (getItem (.ref a) (.ref s4.heap.objs.size)) (EP X pins σ Q) X.xe s5 := by
    refine wpAny_getItem_list_slice ht'.isList hsl pl pu pk h0 ?_ (by rw [List.size_toArray]; omega)
    rw [pick_list its' xs.length hl']
    refine ⟨.ref s5.heap.objs.size, _, I5.laid (t' := s5.toks) (o := .lst (pickV xs l u k)) (fun b ob q => Heap.get?_push_of_some _ q) (Nat.le_refl _) ?_, rfl, q _ (I5.hok.fresh (Nat.le_refl _))⟩
    exact ⟨hz, _, 0, vals_places rv' _, Heap.get?_push_size _ rfl⟩
  exact tail_any (ops := [.ref a, .ref s4.heap.objs.size]) ht'.isList.typeIs slot_list_getitem.lookup hg (by with_unfolding_all rfl)
end
/-! ### max(xs, default=d) -/
theorem args_maxd (a v : Value) : argsOk "max" ⟨[a], [(Str.ofString "default", v)]⟩ := by unfold argsOk; kernel_rfl
section
variable {prog : Program} {w : World} {A : Around} {R : Result → Shared → Prop}
theorem maxd_loop {I l S : Addr} {its : List Value} {ns : List Int} {d : Value} (hh : A.handled = none) (hlI : l ≠ I) (hSI : S ≠ I) (hSl : S ≠ l) (hi : IntsAre its ns) :
    ∀ (k j : Nat) (s : Shared) (m : Int) (t : Tok) (c : Nat), ns.length - j = k → j ≤ ns.length → s.heap.IsListIter I l j → s.heap.IsList l its.toArray → m ∈ ns.take j → (∀ a ∈ ns.take j, a ≤ m) →
    s.heap.get? S = some { cls := .type "list", dict := none, data := .seq #[.int m t, .int m t] c, slots := #[] } →
    (∀ m t h' tk, m ∈ ns → (∀ a ∈ ns, a ≤ m) → (∀ b o, b ≠ I → b ≠ S → s.heap.get? b = some o → h'.get? b = some o) → R (.ok (.ret (.int m t))) { s with heap := h', toks := tk }) →
    codeAny (model prog w) A (.builtin "max.loop" ⟨[.ref I, .none, .ref S], [(Str.ofString "default", d)]⟩) R s := by
  have hnm : (toString "max" ++ toString ".loop" : String) = "max.loop" := by decide
  have hil := hi.length
  have W := Walks.list (prog := prog) (w := w) (A := A.in1) hh I l hlI its.toArray
  have hsz : its.toArray.size = ns.length := by rw [List.size_toArray]; exact hil
  intro k
  induction k with
  | zero =>
    intro j s m t c hk hj hit hls hm hle hS hR
    have hjn : j = ns.length := by omega
    subst hjn
    rw [List.take_length] at hm hle
    refine codeAny_builtin PySem.F.entry_max_loop ?_
    rw [Around.under_plainId PySem.F.plain_max_loop _]
    show wpAny _ A.in1 (seqItems? (.ref S) >>= _) _ _ _
    refine wpAny_bind (wpAny_seqItems hS rfl ?_)
    show wpAny _ A.in1 (tryCatch (pyNext (.ref I)) _ >>= _) _ _ _
    refine wpAny_bind (wpAny_tryCatch (W.done s _ _ (by rw [hsz]; exact ⟨hit, hls⟩) fun h1 tk1 k1 => ?_))
    have hS1 := k1 S _ (by simpa using hSI) hS
    show wpAny _ A.in1 (updateSeq S (fun _ => #[]) >>= _) _ _ _
    refine wpAny_bind ?_
    refine wpAny_updateSeq hS1 rfl (wpAny_bind (wpAny_letGo (wpAny_pure ?_)))
    exact hR m t _ tk1 hm hle fun b o hbI hbS e => (Heap.get?_update_other _ _ (Ne.symm hbS)).trans (k1 b o (by simpa using hbI) e)
  | succ k ih =>
    intro j s m t c hk hj hit hls hm hle hS hR
    have hlt : j < ns.length := by omega
    refine codeAny_builtin PySem.F.entry_max_loop ?_
    rw [Around.under_plainId PySem.F.plain_max_loop _]
    show wpAny _ A.in1 (seqItems? (.ref S) >>= _) _ _ _
    refine wpAny_bind (wpAny_seqItems hS rfl ?_)
    show wpAny _ A.in1 (tryCatch (pyNext (.ref I)) _ >>= _) _ _ _
    refine wpAny_bind (wpAny_tryCatch (W.item j s _ _ (by rw [hsz]; exact hlt) ⟨hit, hls⟩ fun v h1 tk1 hv st1 k1 => ?_))
    have hS1 := k1 S _ (by simpa using hSI) hS
    obtain ⟨n, hn⟩ : ∃ n, ns[j]? = some n := ⟨_, List.getElem?_eq_getElem hlt⟩
    obtain ⟨u, hu⟩ := hi.get j n hn
    have hv : v = .int n u := by
      have : its[j]? = some v := by simpa using hv
      rw [hu] at this
      exact (Option.some.inj this).symm
    subst hv
    have htk : ns.take (j + 1) = ns.take j ++ [n] := by
      rw [List.take_succ, hn]; rfl
    show wpAny _ A.in1 (tryCatch (holding [.int n u, .int n u] (richCompare .Gt (.int n u) (.int m t) >>= _)) _ >>= _) _ _ _
    refine wpAny_bind (wpAny_tryCatch (wpAny_holding (wpAny_bind (CmpOf.ints_gt (prog := prog) (w := w) (A := A.in1) (P := fun i v => ∃ t, v = .int (if i = 0 then n else m) t) (fun i => if i = 0 then n else m) (fun _ _ h => h) 0 1 _ _ _ _ _ ⟨u, rfl⟩ ⟨t, rfl⟩ ?_))))
    refine wpAny_bind (wpAny_holding (wpAny_truthy_bool ?_))
    refine wpAny_bind (wpAny_letGo (wpAny_pure ?_))
    by_cases hb : n > m
    · show wpAny _ _ (if decide (n > m) = true then _ else _) _ _ _
      rw [if_pos (decide_eq_true hb)]
      refine wpAny_bind ?_
      refine wpAny_updateSeq hS1 rfl (wpAny_bind (wpAny_letGo ?_))
      rw [hnm]
      have sb := Heap.SameBut.update h1 S (Obj.mapSeq fun _ => #[.int n u, .int n u])
      refine wpAny_pure ⟨plainId_quiet PySem.F.plain_max_loop _, ih (j + 1) _ n u _ (by omega) (by omega) (st1.1.at fun o e => (sb.2 I hSI.symm).trans e) (st1.2.at fun o e => (sb.2 l hSl.symm).trans e) (by rw [htk]; simp) (fun a ha => ?_) (Heap.get?_update_self _ hS1 rfl) fun m' t' h2 tk2 hm' hle' k2 => ?_⟩
      · rw [htk] at ha
        rcases List.mem_append.mp ha with q | q
        · have := hle a q; omega
        · rw [List.mem_singleton.mp q]; exact Int.le_refl _
      · exact hR m' t' h2 tk2 hm' hle' fun b o hbI hbS e => k2 b o hbI hbS ((sb.2 b hbS).trans (k1 b o (by simpa using hbI) e))
    · show wpAny _ _ (if decide (n > m) = true then _ else _) _ _ _
      rw [if_neg (fun z => hb (of_decide_eq_true z))]
      refine wpAny_bind (wpAny_letGo ?_)
      rw [hnm]
      refine wpAny_pure ⟨plainId_quiet PySem.F.plain_max_loop _, ih (j + 1) _ m t c (by omega) (by omega) st1.1 st1.2 (by rw [htk]; simp [hm]) (fun a ha => ?_) hS1 fun m' t' h2 tk2 hm' hle' k2 => ?_⟩
      · rw [htk] at ha
        rcases List.mem_append.mp ha with q | q
        · exact hle a q
        · rw [List.mem_singleton.mp q]; omega
      · exact hR m' t' h2 tk2 hm' hle' fun b o hbI hbS e => k2 b o hbI hbS (k1 b o (by simpa using hbI) e)
end
section
variable {prog : Program} {w : World} {A : Around} {E : Value → Shared → Prop} {s : Shared} {l : Addr} {its : List Value} {ns : List Int} {Q : Value → Shared → Prop}
theorem maxd_raw {d : Value} (hh : A.handled = none) (hl : s.heap.IsList l its.toArray) (hi : IntsAre its ns)
    (h0 : ns = [] → ∀ h' tk, (∀ b o, s.heap.get? b = some o → h'.get? b = some o) → Q d { s with heap := h', toks := tk })
    (h : ∀ h' tk m t, (∀ b o, s.heap.get? b = some o → h'.get? b = some o) → m ∈ ns → (∀ a ∈ ns, a ≤ m) → Q (.int m t) { s with heap := h', toks := tk }) :
    wpAny (model prog w) A (call (.builtin "max") [.ref l] [(Str.ofString "default", d)]) Q E s := by
  have hnm : (toString "max" ++ toString ".loop" : String) = "max.loop" := by decide
  have hil := hi.length
  have hlt : l < s.heap.objs.size := by obtain ⟨_, e, _⟩ := hl; exact Heap.lt_size e
  refine kmk_tree PySem.F.kind_max PySem.F.plain_max PySem.F.entry_max (args_maxd _ _) ?_
  show wpAny _ A.in1 (Builtin.Builtins.bindParams "max" ["key", "default"] 0 ⟨[], [(Str.ofString "default", d)]⟩ >>= _) _ _ s
  refine wpAny_bind (wpAny_of_eq (show Builtin.Builtins.bindParams "max" ["key", "default"] 0 ⟨[], [(Str.ofString "default", d)]⟩ = pure [none, some d] from rfl) ?_)
  refine wpAny_bind (wpAny_pure ?_)
  refine wpAny_bind (wpAny_pyIter_list hl ?_)
  refine wpAny_bind (wpAny_newList ?_ (Nat.zero_le _))
  rw [hnm]
  generalize hI : s.heap.objs.size = I
  generalize hh1 : s.heap.push { cls := .type "list_iterator", data := .fields #[.ref l, .int 0 0] } = h1
  have gI : h1.get? I = some { cls := .type "list_iterator", data := .fields #[.ref l, .int 0 0] } := by rw [← hh1, ← hI]; exact Heap.get?_push_size _ rfl
  have old1 : ∀ b o, s.heap.get? b = some o → h1.get? b = some o := fun b o e => by rw [← hh1]; exact Heap.get?_push_of_some _ e
  have hIlt : I < h1.objs.size := Heap.lt_size gI
  have hlI : l ≠ I := Nat.ne_of_lt (hI ▸ hlt)
  have hlS : l < h1.objs.size := Nat.lt_trans (hI ▸ hlt) hIlt
  generalize hS : h1.objs.size = S at hIlt hlS
  have hSI : S ≠ I := (Nat.ne_of_lt hIlt).symm
  have hSl : S ≠ l := (Nat.ne_of_lt hlS).symm
  have oldS : ∀ b o, s.heap.get? b = some o → b ≠ S ∧ b ≠ I := fun b o e => by
    have hbI : b < I := hI ▸ Heap.lt_size e
    exact ⟨Nat.ne_of_lt (Nat.lt_trans hbI hIlt), Nat.ne_of_lt hbI⟩
  refine wpAny_pure ⟨plainId_quiet PySem.F.plain_max_loop _, ?_⟩
  generalize hh2 : h1.push { cls := .type "list", data := .seq ([] : List Value).toArray } = h2
  have old2 : ∀ b o, h1.get? b = some o → h2.get? b = some o := fun b o e => by rw [← hh2]; exact Heap.get?_push_of_some _ e
  have gS : h2.get? S = some { cls := .type "list", dict := none, data := .seq #[] 0, slots := #[] } := by rw [← hh2, ← hS]; exact Heap.get?_push_size _ rfl
  have hit : h2.IsListIter I l 0 := ⟨_, old2 _ _ gI, rfl, rfl⟩
  have hls : h2.IsList l its.toArray := hl.at fun o e => old2 _ _ (old1 _ _ e)
  have W := Walks.list (prog := prog) (w := w) (A := A.in1) hh I l hlI its.toArray
  have hsz : its.toArray.size = ns.length := by rw [List.size_toArray]; exact hil
  refine codeAny_builtin PySem.F.entry_max_loop ?_
  rw [Around.under_plainId PySem.F.plain_max_loop _]
  show wpAny _ A.in1 (seqItems? (.ref S) >>= _) _ _ _
  refine wpAny_bind (wpAny_seqItems gS rfl ?_)
  show wpAny _ A.in1 (tryCatch (pyNext (.ref I)) _ >>= _) _ _ _
  cases hns : ns with
  | nil =>
    refine wpAny_bind (wpAny_tryCatch (W.done _ _ _ (by rw [hsz, hns]; exact ⟨hit, hls⟩) fun h3 tk3 k3 => ?_))
    refine wpAny_bind (wpAny_rule (wpAny_pure ?_))
    exact h0 hns h3 tk3 fun b o e => k3 b o (by simpa using (oldS b o e).2) (old2 _ _ (old1 _ _ e))
  | cons n rest =>
    refine wpAny_bind (wpAny_tryCatch (W.item 0 _ _ _ (by rw [hsz, hns]; exact Nat.succ_pos _) ⟨hit, hls⟩ fun v h3 tk3 hv st3 k3 => ?_))
    obtain ⟨u, hu⟩ := hi.get 0 n (by rw [hns]; rfl)
    have hv : v = .int n u := by
      have : its[0]? = some v := by simpa using hv
      rw [hu] at this
      exact (Option.some.inj this).symm
    subst hv
    have hS3 := k3 S _ (by simpa using hSI) gS
    show wpAny _ A.in1 (updateSeq S (fun _ => #[.int n u, .int n u]) >>= _) _ _ _
    refine wpAny_bind ?_
    refine wpAny_updateSeq hS3 rfl ?_
    rw [hnm]
    have sb := Heap.SameBut.update h3 S (Obj.mapSeq fun _ => #[.int n u, .int n u])
    refine wpAny_pure ⟨plainId_quiet PySem.F.plain_max_loop _, maxd_loop hh hlI hSI hSl hi _ 1 _ n u _ rfl (by rw [hns]; exact Nat.succ_pos _) (st3.1.at fun o e => (sb.2 I hSI.symm).trans e) (st3.2.at fun o e => (sb.2 l hSl.symm).trans e) (by rw [hns]; simp) (fun a ha => ?_) (Heap.get?_update_self _ hS3 rfl) fun m t h4 tk4 hm hle k4 => ?_⟩
    · rw [hns] at ha
      simp at ha
      omega
    · exact h h4 tk4 m t (fun b o e => k4 b o (oldS b o e).2 (oldS b o e).1 ((sb.2 b (oldS b o e).1).trans (k3 b o (by simpa using (oldS b o e).2) (old2 _ _ (old1 _ _ e))))) hm hle
end
section
variable {X : Cx} {x : Str} {z : Int} {j : Nat} {p px pd kp pos : Pos} {ta : TA}
/-- max(x, default=z), x a name -/
def tMaxD (K : PySem.W.Frag) (ta : TA) (z : Int) : TE := fun σ H Q => ta σ H fun vs H1 => ∃ (a : Addr) (ns : List Int), vs = [.ref a] ∧ SqL K H1 a (ns.map V.int) ∧ ∀ m, ((ns = [] ∧ m = z) ∨ (m ∈ ns ∧ ∀ y ∈ ns, y ≤ m)) → Q (.int m) H1
theorem pe_maxd (hc : X.calm = true) (hg : Gl X "max") (hm : X.mg "max" = none) (hx : PA X [.Name x px] ta) : PE X (.Call (.Name "max" p) [.Name x px] [⟨some "default", .Constant (.int z) j pd, kp⟩] pos) (tMaxD X.K ta z) := by
  intro pins s σ H Q I h
  refine wpAny_Call_Name_kw (ld_blt I hg hm boot_max ?_)
  refine PyProof.Rows.callWith_kw (thn (hx pos pins s σ H _ I h) fun us s1 ⟨vs, H1, I1, r, q⟩ => ?_)
  refine thn (pk_cons (nm := some "default") (kpos := kp) pe_int pk_nil pos pins s1 σ H1 (fun zs H2 => zs = [.int z] ∧ H2 = H1) I1 ⟨rfl, rfl⟩) fun ws s2 ⟨zs, H2, I2, rz, ez, eH⟩ => ?_
  subst ez eH
  obtain ⟨a, ns, rfl, hs, q1⟩ := q
  rw [Vals.ref1 r]
  cases rz with
  | cons r1 r2 =>
    cases r2
    obtain ⟨t, rfl⟩ := r1
    obtain ⟨its, rv, hl, _⟩ := I2.list hs
    exact maxd_raw (I2.ok.hd hc) hl.isList rv.ints (fun e h' tk hk => ⟨.int z, _, I2.kept hk, ⟨_, rfl⟩, q1 z (.inl ⟨e, rfl⟩)⟩) fun h' tk m t hk h1 h2 => ⟨.int m, _, I2.kept hk, ⟨_, rfl⟩, q1 m (.inr ⟨h1, h2⟩)⟩
end
/-! ### over enumerate(xs) -/
theorem for_enum {K : PySem.W.Frag} {a : Addr} {xs : List V} {g : TG} {tb : TS} {D : Ends} {σ : St} {H : Hp} (Pv : Nat → St → Hp → Prop) (h0 : Pv 0 σ H) (hl : ∀ i σ H, i ≤ xs.length → Pv i σ H → SqL K H a xs)
    (hs : ∀ i x σ H T, xs[i]? = some x → Pv i σ H → H T = none → g (.ref T) σ (upd H T (.tup [.int (i : Nat), x])) fun σ2 H2 => tb { D with nx := Pv (i + 1), ct := Pv (i + 1), bk := D.nx } σ2 H2) (hd : ∀ σ H, Pv xs.length σ H → D.nx σ H) :
    ∃ W : Nat → Nat → St → Hp → Prop, (∃ m, W 0 m σ H) ∧ ∀ i m σ H, W i m σ H →
      ((Ite K a).stop i H ∧ D.nx σ H) ∨ ((Ite K a).go i H ∧ ∃ N : St → Hp → Prop, (∀ σ' H', N σ' H' → ∃ m', m' < m ∧ W (i + 1) m' σ' H') ∧ ∀ x H', (Ite K a).yld i H x H' → g x σ H' fun σ2 H2 => tb { D with nx := N, ct := N, bk := D.nx } σ2 H2) := by
  refine ⟨fun i m σ H => m = xs.length - i ∧ i ≤ xs.length ∧ Pv i σ H, ⟨xs.length, by simp, Nat.zero_le _, h0⟩, ?_⟩
  rintro i m σ H ⟨rfl, hi, pv⟩
  have sq := hl i σ H hi pv
  by_cases hlt : i < xs.length
  · refine .inr ⟨⟨xs, xs[i], sq, by simp [hlt]⟩, Pv (i + 1), fun σ' H' p' => ⟨xs.length - (i + 1), by omega, rfl, hlt, p'⟩, fun v H' y => ?_⟩
    obtain ⟨T, x, rfl, hT, rfl, hx⟩ := y
    exact hs i x σ H T (hx xs sq) pv hT
  · have e : i = xs.length := by omega
    subst e
    exact .inl ⟨⟨xs, sq, Nat.le_refl _⟩, hd σ H pv⟩
theorem lc_enum {K : PySem.W.Frag} {a : Addr} {xs : List V} {g : TG} {tt : TT} {te : TE} {vs : List Nat} {σ : St} {H1 : Hp} {D : Addr} {Qd : Hp → Prop} (Pv : Nat → Hp → Prop) (h0 : Pv 0 (upd H1 D (.lst []))) (hl : ∀ i H, i ≤ xs.length → Pv i H → SqL K H a xs)
    (hs : ∀ i x H T, xs[i]? = some x → Pv i H → H T = none → g (.ref T) (wipe σ vs) (upd H T (.tup [.int (i : Nat), x])) fun σ2 H2 => wipe σ2 vs = wipe σ vs ∧ tt σ2 H2 fun b H3 =>
      if b = true then te σ2 H3 fun y H4 => ∃ acc, H4 D = some (.lst acc) ∧ acc.length < sizeLine ∧ Pv (i + 1) (upd H4 D (.lst (acc ++ [y]))) else Pv (i + 1) H3) (hd : ∀ H, Pv xs.length H → Qd H) :
    ∃ W : Nat → Nat → Hp → Prop, (∃ m, W 0 m (upd H1 D (.lst []))) ∧ ∀ i m H, W i m H →
      ((Ite K a).stop i H ∧ Qd H) ∨ ((Ite K a).go i H ∧ ∃ Nx : Hp → Prop, (∀ H', Nx H' → ∃ m', m' < m ∧ W (i + 1) m' H') ∧ ∀ x H', (Ite K a).yld i H x H' → g x (wipe σ vs) H' fun σ2 H2 => wipe σ2 vs = wipe σ vs ∧ tt σ2 H2 fun b H3 =>
        if b = true then te σ2 H3 fun y H4 => ∃ acc, H4 D = some (.lst acc) ∧ acc.length < sizeLine ∧ Nx (upd H4 D (.lst (acc ++ [y]))) else Nx H3) := by
  refine ⟨fun i m H => m = xs.length - i ∧ i ≤ xs.length ∧ Pv i H, ⟨xs.length, by simp, Nat.zero_le _, h0⟩, ?_⟩
  rintro i m H ⟨rfl, hi, pv⟩
  have sq := hl i H hi pv
  by_cases hlt : i < xs.length
  · refine .inr ⟨⟨xs, xs[i], sq, by simp [hlt]⟩, Pv (i + 1), fun H' p' => ⟨xs.length - (i + 1), by omega, rfl, hlt, p'⟩, fun v H' y => ?_⟩
    obtain ⟨T, x, rfl, hT, rfl, hx⟩ := y
    exact hs i x H T (hx xs sq) pv hT
  · have e : i = xs.length := by omega
    subst e
    exact .inl ⟨⟨xs, sq, Nat.le_refl _⟩, hd H pv⟩
end L2
end
section
set_option Elab.async false
namespace Bs
open Km367

/-- what holds of every cloth that calls have made -/
structure Good (c : Cloth) : Prop where
  len : c.lines.length = 24
  ok : ∀ (k : Nat) (l : Line), c.line k = some l → l.a < 64 ∧ l.b < 64 ∧ l.a ≠ l.b
  uniq : ∀ (j k : Nat) (l m : Line), c.line j = some l → c.line k = some m → joins l m.a m.b = true → j = k

theorem line_lt {c : Cloth} (g : Good c) {k : Nat} {l : Line} (h : c.line k = some l) : k < 24 := by
  unfold Cloth.line at h
  rcases Nat.lt_or_ge k 24 with q | q
  · exact q
  · rw [List.getD_eq_getElem?_getD, List.getElem?_eq_none (by rw [g.len]; exact q)] at h
    cases h

theorem far_some {c : Cloth} {k u w : Nat} (h : c.far k u = some w) : ∃ l, c.line k = some l ∧ ((l.a = u ∧ l.b = w) ∨ (l.b = u ∧ l.a = w)) := by
  unfold Cloth.far at h
  cases e : c.line k with
  | none => rw [e] at h; cases h
  | some l =>
    rw [e] at h
    refine ⟨l, rfl, ?_⟩
    by_cases h1 : l.a = u
    · simp only [h1, if_true] at h
      exact .inl ⟨h1, Option.some.inj h⟩
    · simp only [h1, if_false] at h
      by_cases h2 : l.b = u
      · simp only [h2, if_true] at h
        exact .inr ⟨h2, Option.some.inj h⟩
      · simp only [h2, if_false] at h
        cases h

theorem far_of_a {c : Cloth} {k : Nat} {l : Line} (h : c.line k = some l) : c.far k l.a = some l.b := by
  unfold Cloth.far; rw [h]; simp
theorem far_of_b {c : Cloth} (g : Good c) {k : Nat} {l : Line} (h : c.line k = some l) : c.far k l.b = some l.a := by
  have := (g.ok k l h).2.2
  unfold Cloth.far; rw [h]; simp [this]
theorem far_symm {c : Cloth} (g : Good c) {k u w : Nat} (h : c.far k u = some w) : c.far k w = some u := by
  obtain ⟨l, e, ⟨rfl, rfl⟩ | ⟨rfl, rfl⟩⟩ := far_some h
  · exact far_of_b g e
  · exact far_of_a e
theorem far_lt {c : Cloth} (g : Good c) {k u w : Nat} (h : c.far k u = some w) : k < 24 ∧ u < 64 ∧ w < 64 ∧ u ≠ w := by
  obtain ⟨l, e, q⟩ := far_some h
  have o := g.ok k l e
  have := line_lt g e
  rcases q with ⟨rfl, rfl⟩ | ⟨rfl, rfl⟩
  · exact ⟨this, o.1, o.2.1, o.2.2⟩
  · exact ⟨this, o.2.1, o.1, fun z => o.2.2 z.symm⟩
/-- the two ends of a line are all that it has -/
theorem far_two {c : Cloth} {k u w x y : Nat} (h : c.far k u = some w) (h' : c.far k x = some y) : (x = u ∧ y = w) ∨ (x = w ∧ y = u) := by
  obtain ⟨l, e, q⟩ := far_some h
  obtain ⟨l', e', q'⟩ := far_some h'
  rw [e] at e'; cases e'
  rcases q with ⟨rfl, rfl⟩ | ⟨rfl, rfl⟩ <;> rcases q' with ⟨rfl, rfl⟩ | ⟨rfl, rfl⟩ <;> simp

/-- one hole after another, along lines -/
inductive Reach (c : Cloth) (u : Nat) : Nat → Prop where
  | refl : Reach c u u
  | step {x y k : Nat} : Reach c u x → c.far k x = some y → Reach c u y
theorem Reach.trans {c : Cloth} {u x y : Nat} (a : Reach c u x) (b : Reach c x y) : Reach c u y := by
  induction b with
  | refl => exact a
  | step _ h ih => exact .step ih h
theorem Reach.one {c : Cloth} {u x k : Nat} (h : c.far k u = some x) : Reach c u x := .step .refl h
theorem Reach.symm {c : Cloth} (g : Good c) {u x : Nat} (a : Reach c u x) : Reach c x u := by
  induction a with
  | refl => exact .refl
  | step _ h ih => exact (Reach.one (far_symm g h)).trans ih
/-- a set that holds u and is left by no line holds all that u comes to -/
theorem Reach.inside {c : Cloth} {u : Nat} {S : Nat → Prop} (hu : S u) (hs : ∀ x y k, S x → c.far k x = some y → S y) {x : Nat} (r : Reach c u x) : S x := by
  induction r with
  | refl => exact hu
  | step _ h ih => exact hs _ _ _ ih h

/-! ## the walk -/
def stepW (c : Cloth) (f u : Nat) (s : Way) (k : Nat) : Way := if s.gone.contains k = true then s else match c.far k u with
    | none => s
    | some w =>
      let there : Way := ⟨s.been, k :: s.gone, w :: s.holes⟩
      let on := if there.been.contains w = true then there else c.walk f w ⟨w :: there.been, there.gone, there.holes⟩
      ⟨on.been, on.gone, u :: on.holes⟩
theorem walk_succ (c : Cloth) (f u : Nat) (s : Way) : c.walk (f + 1) u s = (List.range 24).foldl (stepW c f u) s := rfl
theorem stepW_gone {c : Cloth} {f u k : Nat} {s : Way} (h : k ∈ s.gone) : stepW c f u s k = s := by
  unfold stepW; rw [if_pos (by simpa using h)]
theorem stepW_none {c : Cloth} {f u k : Nat} {s : Way} (h : c.far k u = none) : stepW c f u s k = s := by
  unfold stepW; rw [h]; simp
theorem stepW_been {c : Cloth} {f u k w : Nat} {s : Way} (h0 : k ∉ s.gone) (h : c.far k u = some w) (hb : w ∈ s.been) : stepW c f u s k = ⟨s.been, k :: s.gone, u :: w :: s.holes⟩ := by
  unfold stepW; rw [if_neg (by simpa using h0), h]; simp [hb]
theorem stepW_new {c : Cloth} {f u k w : Nat} {s : Way} (h0 : k ∉ s.gone) (h : c.far k u = some w) (hb : w ∉ s.been) :
    stepW c f u s k = ⟨(c.walk f w ⟨w :: s.been, k :: s.gone, w :: s.holes⟩).been, (c.walk f w ⟨w :: s.been, k :: s.gone, w :: s.holes⟩).gone, u :: (c.walk f w ⟨w :: s.been, k :: s.gone, w :: s.holes⟩).holes⟩ := by
  unfold stepW; rw [if_neg (by simpa using h0), h]; simp [hb]

/-- a state of a walk that can be -/
structure Ok (c : Cloth) (s : Way) : Prop where
  nd : s.gone.Nodup
  lt : ∀ k ∈ s.gone, k < 24
  bnd : s.been.Nodup
/-- from one state to a later one, from the hole u -/
structure Ext (c : Cloth) (u : Nat) (s s' : Way) : Prop where
  ok : Ok c s'
  sb : ∀ x ∈ s.been, x ∈ s'.been
  sg : ∀ k ∈ s.gone, k ∈ s'.gone
  full : ∀ x ∈ s'.been, x ∉ s.been → ∀ k y, c.far k x = some y → k ∈ s'.gone
  ends : ∀ k ∈ s'.gone, k ∉ s.gone → ∀ x y, c.far k x = some y → x ∈ s'.been
  reach : ∀ x ∈ s'.been, x ∈ s.been ∨ Reach c u x
  real : ∀ k ∈ s'.gone, k ∈ s.gone ∨ ∃ x y, c.far k x = some y
  len : s'.holes.length + 2 * s.gone.length = s.holes.length + 2 * s'.gone.length
  le : s.gone.length ≤ s'.gone.length

theorem Ext.refl {c : Cloth} {u : Nat} {s : Way} (o : Ok c s) : Ext c u s s :=
  ⟨o, fun _ h => h, fun _ h => h, fun _ h h' => absurd h h', fun _ h h' => absurd h h', fun _ h => .inl h, fun _ h => .inl h, rfl, Nat.le_refl _⟩
theorem Ext.trans {c : Cloth} {u : Nat} {s s' s'' : Way} (a : Ext c u s s') (b : Ext c u s' s'') : Ext c u s s'' where
  ok := b.ok
  sb := fun x h => b.sb x (a.sb x h)
  sg := fun x h => b.sg x (a.sg x h)
  full := fun x h h' k y e => by
    by_cases q : x ∈ s'.been
    · exact b.sg _ (a.full x q h' k y e)
    · exact b.full x h q k y e
  ends := fun k h h' x y e => by
    by_cases q : k ∈ s'.gone
    · exact b.sb _ (a.ends k q h' x y e)
    · exact b.ends k h q x y e
  reach := fun x h => by
    rcases b.reach x h with q | q
    · exact a.reach x q
    · exact .inr q
  real := fun x h => by
    rcases b.real x h with q | q
    · exact a.real x q
    · exact .inr q
  len := by have := a.len; have := b.len; omega
  le := Nat.le_trans a.le b.le

theorem Ok.few {c : Cloth} {s : Way} (o : Ok c s) : s.gone.length ≤ 24 := by
  have := o.nd.length_le_of_subset (l₂ := List.range 24) fun k h => List.mem_range.mpr (o.lt k h)
  simpa using this

/-- folding with what has been gone through known -/
theorem fold_pre {α σ : Type} (f : σ → α → σ) (I : List α → σ → Prop) (l : List α) (s : σ) (h0 : I [] s) (hs : ∀ pre x s, x ∈ l → I pre s → I (pre ++ [x]) (f s x)) : I l (l.foldl f s) := by
  suffices ∀ (post pre : List α) (s : σ), pre ++ post = l → I pre s → I l (post.foldl f s) from this l [] s rfl h0
  intro post
  induction post with
  | nil => intro pre s e i; rw [List.append_nil] at e; subst e; exact i
  | cons x r ih =>
    intro pre s e i
    rw [List.foldl_cons]
    refine ih (pre ++ [x]) _ (by rw [List.append_assoc]; exact e) (hs pre x s ?_ i)
    rw [← e]; simp

/-- one step of a walk, given what the walks within it do -/
theorem step_ext_of {c : Cloth} (g : Good c) {f : Nat} (IH : ∀ (w : Nat) (s : Way), Ok c s → w ∈ s.been → 25 ≤ f + s.gone.length → Ext c w s (c.walk f w s) ∧ ∀ k y, c.far k w = some y → k ∈ (c.walk f w s).gone)
    (u k : Nat) (s' : Way) (o : Ok c s') (hu' : u ∈ s'.been) (hf : 25 ≤ f + 1 + s'.gone.length) : Ext c u s' (stepW c f u s' k) ∧ ∀ y, c.far k u = some y → k ∈ (stepW c f u s' k).gone := by
  by_cases h0 : k ∈ s'.gone
  · rw [stepW_gone h0]; exact ⟨Ext.refl o, fun _ _ => h0⟩
  cases e : c.far k u with
  | none => rw [stepW_none e]; exact ⟨Ext.refl o, fun _ h => nomatch h⟩
  | some w =>
    have hl := far_lt g e
    by_cases hb : w ∈ s'.been
    · rw [stepW_been h0 e hb]
      refine ⟨⟨⟨List.nodup_cons.mpr ⟨h0, o.nd⟩, ?_, o.bnd⟩, fun _ h => h, fun _ h => List.mem_cons_of_mem _ h, fun x h h' => absurd h h', ?_, fun _ h => .inl h, ?_, ?_, ?_⟩, fun _ _ => List.mem_cons_self⟩
      · intro j hj
        rcases List.mem_cons.mp hj with rfl | q
        · exact hl.1
        · exact o.lt j q
      · intro j hj hn x y ex
        rcases List.mem_cons.mp hj with rfl | q
        · rcases far_two e ex with ⟨rfl, _⟩ | ⟨rfl, _⟩
          · exact hu'
          · exact hb
        · exact absurd q hn
      · intro j hj
        rcases List.mem_cons.mp hj with rfl | q
        · exact .inr ⟨_, _, e⟩
        · exact .inl q
      · simp only [List.length_cons]; omega
      · simp only [List.length_cons]; omega
    · rw [stepW_new h0 e hb]
      have o1 : Ok c ⟨w :: s'.been, k :: s'.gone, w :: s'.holes⟩ := by
        refine ⟨List.nodup_cons.mpr ⟨h0, o.nd⟩, ?_, List.nodup_cons.mpr ⟨hb, o.bnd⟩⟩
        intro j hj
        rcases List.mem_cons.mp hj with rfl | q
        · exact hl.1
        · exact o.lt j q
      obtain ⟨Y, hw⟩ := IH w ⟨w :: s'.been, k :: s'.gone, w :: s'.holes⟩ o1 List.mem_cons_self (by simp only [List.length_cons]; omega)
      generalize hon : c.walk f w ⟨w :: s'.been, k :: s'.gone, w :: s'.holes⟩ = on at Y hw
      refine ⟨⟨⟨Y.ok.nd, Y.ok.lt, Y.ok.bnd⟩, fun x h => Y.sb x (List.mem_cons_of_mem _ h), fun x h => Y.sg x (List.mem_cons_of_mem _ h), ?_, ?_, ?_, ?_, ?_, ?_⟩, fun _ _ => Y.sg k List.mem_cons_self⟩
      · intro x h h' j y ex
        by_cases q : x = w
        · subst q; exact hw j y ex
        · exact Y.full x h (by simp [q, h']) j y ex
      · intro j h h' x y ex
        by_cases q : j = k
        · subst q
          rcases far_two e ex with ⟨rfl, _⟩ | ⟨rfl, _⟩
          · exact Y.sb _ (List.mem_cons_of_mem _ hu')
          · exact Y.sb _ List.mem_cons_self
        · exact Y.ends j h (by simp [q, h']) x y ex
      · intro x h
        rcases Y.reach x h with q | q
        · rcases List.mem_cons.mp q with rfl | q
          · exact .inr (Reach.one e)
          · exact .inl q
        · exact .inr ((Reach.one e).trans q)
      · intro j h
        rcases Y.real j h with q | q
        · rcases List.mem_cons.mp q with rfl | q
          · exact .inr ⟨_, _, e⟩
          · exact .inl q
        · exact .inr q
      · have := Y.len
        simp only [List.length_cons] at this ⊢; omega
      · have := Y.le
        simp only [List.length_cons] at this ⊢; omega
theorem walk_ext {c : Cloth} (g : Good c) : ∀ (f u : Nat) (s : Way), Ok c s → u ∈ s.been → 25 ≤ f + s.gone.length →
    Ext c u s (c.walk f u s) ∧ ∀ k y, c.far k u = some y → k ∈ (c.walk f u s).gone
  | 0, u, s, o, hu, hf => absurd o.few (by omega)
  | f + 1, u, s, o, hu, hf => by
    rw [walk_succ]
    have := fold_pre (stepW c f u) (fun pre s' => Ext c u s s' ∧ ∀ k ∈ pre, ∀ y, c.far k u = some y → k ∈ s'.gone) (List.range 24) s ⟨Ext.refl o, fun _ h => nomatch h⟩ ?_
    · exact ⟨this.1, fun k y e => this.2 k (List.mem_range.mpr (far_lt g e).1) y e⟩
    · rintro pre k s' hk ⟨X, hp⟩
      have hle := X.le
      have := step_ext_of g (walk_ext g f) u k s' X.ok (X.sb u hu) (by omega)
      refine ⟨X.trans this.1, fun j hj y e => ?_⟩
      rcases List.mem_append.mp hj with q | q
      · exact this.1.sg _ (hp j q y e)
      · rw [List.mem_singleton] at q; subst q; exact this.2 y e
theorem step_ext {c : Cloth} (g : Good c) {f u k : Nat} {s : Way} (o : Ok c s) (hu : u ∈ s.been) (hf : 25 ≤ f + 1 + s.gone.length) : Ext c u s (stepW c f u s k) ∧ ∀ y, c.far k u = some y → k ∈ (stepW c f u s k).gone :=
  step_ext_of g (walk_ext g f) u k s o hu hf

theorem way_ext {c : Cloth} (g : Good c) (u : Nat) : Ext c u ⟨[u], [], [u]⟩ (c.way u) ∧ ∀ k y, c.far k u = some y → k ∈ (c.way u).gone :=
  walk_ext g (LINES + 1) u ⟨[u], [], [u]⟩ ⟨by simp, (fun _ h => nomatch h), by simp⟩ List.mem_cons_self (Nat.le_refl 25)
/-- the holes of a thread's way: all that hang together with its beginning -/
theorem way_been {c : Cloth} (g : Good c) (u x : Nat) : x ∈ (c.way u).been ↔ Reach c u x := by
  obtain ⟨X, hu⟩ := way_ext g u
  constructor
  · intro h
    rcases X.reach x h with q | q
    · simp only [List.mem_singleton] at q; subst q; exact .refl
    · exact q
  · intro r
    refine r.inside (S := fun x => x ∈ (c.way u).been) (X.sb u (List.mem_singleton.mpr rfl)) fun a b k ha e => ?_
    have hk : k ∈ (c.way u).gone := by
      by_cases q : a = u
      · subst q; exact hu k b e
      · exact X.full a ha (by simpa using q) k b e
    exact X.ends k hk (by simp) b a (far_symm g e)
theorem way_gone {c : Cloth} (g : Good c) (u k : Nat) : k ∈ (c.way u).gone ↔ ∃ x y, Reach c u x ∧ c.far k x = some y := by
  obtain ⟨X, hu⟩ := way_ext g u
  constructor
  · intro h
    rcases X.real k h with q | ⟨x, y, q⟩
    · simp at q
    · exact ⟨x, y, (way_been g u x).mp (X.ends k h (by simp) x y q), q⟩
  · rintro ⟨a, b, r, e⟩
    by_cases q : a = u
    · subst q; exact hu k b e
    · exact X.full a ((way_been g u a).mpr r) (by simpa using q) k b e
theorem way_none {c : Cloth} (g : Good c) (u : Nat) : (c.way u).gone.length = 0 ↔ ∀ k, c.far k u = none := by
  constructor
  · intro h k
    cases e : c.far k u with
    | none => rfl
    | some y =>
      have := (way_ext g u).2 k y e
      rw [List.length_eq_zero_iff.mp h] at this
      cases this
  · intro h
    have : (c.way u).gone = [] := List.eq_nil_iff_forall_not_mem.mpr fun k hk => by
      obtain ⟨x, y, r, e⟩ := (way_gone g u k).mp hk
      have : x = u := by
        refine r.inside (S := fun x => x = u) rfl fun a b j ha e => ?_
        subst ha; rw [h j] at e; cases e
      subst this; rw [h k] at e; cases e
    rw [this]; rfl
theorem way_length {c : Cloth} (g : Good c) (u : Nat) : (c.way u).holes.length = 1 + 2 * (c.way u).gone.length ∧ (c.way u).gone.length ≤ 24 := by
  obtain ⟨X, _⟩ := way_ext g u
  have := X.len
  have := X.ok.few
  simp at *
  omega
end Bs
end
section
set_option Elab.async false
namespace Bs
open Km367

/-! ## the list of calls -/
abbrev FC := List (List Int)
/-- a call as it stands in the list: its numbers -/
inductive Laid : FC → List Int → Prop where
  | start : Laid [[0]] [0]
  | line (a b : Int) : Laid [[1, a, b]] [1, a, b]
  | drop (k : Int) : Laid [[2, k]] [2, k]
  | threads : Laid [[3]] [3]
  | thread (t : Int) : Laid [[4, t]] [4, t]
  | check (n : Int) (r : List Int) : Laid [[5, n], r] (5 :: n :: (r.length : Int) :: r)
  | sides (n : Int) (r : List Int) : Laid [[6, n], r] (6 :: n :: (r.length : Int) :: r)

theorem whole_id (c : FC) : PyKm367.whole c = c := by
  unfold PyKm367.whole
  split <;> rfl
theorem row_some {l x t : List Int} (h : PyFlat.row l = some (x, t)) : l = (x.length : Int) :: (x ++ t) := by
  cases l with
  | nil => cases h
  | cons n r =>
    simp only [PyFlat.row] at h
    by_cases q : 0 ≤ n ∧ n.toNat ≤ r.length
    · rw [if_pos q] at h
      have e := Option.some.inj h
      have e1 : r.take n.toNat = x := congrArg Prod.fst e
      have e2 : r.drop n.toNat = t := congrArg Prod.snd e
      subst e1 e2
      rw [List.take_append_drop, List.length_take, Nat.min_eq_left q.2, Int.toNat_of_nonneg q.1]
    · rw [if_neg q] at h; cases h
theorem rows_one {l t : List Int} {xs : List (List Int)} (h : PyFlat.rows 1 l = some (xs, t)) : ∃ x, xs = [x] ∧ l = (x.length : Int) :: (x ++ t) := by
  unfold PyFlat.rows at h
  cases e : PyFlat.row l with
  | none => rw [e] at h; cases h
  | some p =>
    obtain ⟨x, s⟩ := p
    rw [e] at h
    simp only [PyFlat.rows] at h
    have e' := Option.some.inj h
    have e1 := congrArg Prod.fst e'
    have e2 := congrArg Prod.snd e'
    simp only at e1 e2
    subst e2
    exact ⟨x, e1.symm, row_some e⟩
theorem call_some {p : Int} {r : List Int} {c : FC} {t : List Int} (h : PyFlat.call PyKm367.shape (p :: r) = some (c, t)) : ∃ l, Laid c l ∧ p :: r = l ++ t := by
  unfold PyFlat.call PyKm367.shape at h
  by_cases h0 : p = 0
  · subst h0
    simp [PyFlat.rows] at h
    obtain ⟨rfl, rfl⟩ := h
    exact ⟨_, .start, rfl⟩
  by_cases h1 : p = 1
  · subst h1
    simp [PyFlat.rows] at h
    match r, h with
    | a :: b :: r, h => simp at h; obtain ⟨rfl, rfl⟩ := h; exact ⟨_, .line a b, rfl⟩
    | [a], h => simp at h
    | [], h => simp at h
  by_cases h2 : p = 2
  · subst h2
    simp [PyFlat.rows] at h
    match r, h with
    | a :: r, h => simp at h; obtain ⟨rfl, rfl⟩ := h; exact ⟨_, .drop a, rfl⟩
    | [], h => simp at h
  by_cases h3 : p = 3
  · subst h3
    simp [PyFlat.rows] at h
    obtain ⟨rfl, rfl⟩ := h
    exact ⟨_, .threads, rfl⟩
  by_cases h4 : p = 4
  · subst h4
    simp [PyFlat.rows] at h
    match r, h with
    | a :: r, h => simp at h; obtain ⟨rfl, rfl⟩ := h; exact ⟨_, .thread a, rfl⟩
    | [], h => simp at h
  by_cases h5 : p = 5
  · subst h5
    simp only [if_neg h0, if_neg h1, if_neg h2, if_neg h3, if_neg h4, if_true] at h
    match r, h with
    | [], h => simp at h
    | a :: r, h =>
      rw [if_neg (by simp)] at h
      simp only [List.drop_succ_cons, List.drop_zero, List.take_succ_cons, List.take_zero] at h
      cases e : PyFlat.rows 1 r with
      | none => rw [e] at h; cases h
      | some q =>
        obtain ⟨xs, s⟩ := q
        rw [e] at h
        simp only [Option.some.injEq, Prod.mk.injEq] at h
        obtain ⟨rfl, rfl⟩ := h
        obtain ⟨x, rfl, e'⟩ := rows_one e
        exact ⟨_, .check a x, by rw [e']; rfl⟩
  by_cases h6 : p = 6
  · subst h6
    simp only [if_neg h0, if_neg h1, if_neg h2, if_neg h3, if_neg h4, if_neg h5, if_true] at h
    match r, h with
    | [], h => simp at h
    | a :: r, h =>
      rw [if_neg (by simp)] at h
      simp only [List.drop_succ_cons, List.drop_zero, List.take_succ_cons, List.take_zero] at h
      cases e : PyFlat.rows 1 r with
      | none => rw [e] at h; cases h
      | some q =>
        obtain ⟨xs, s⟩ := q
        rw [e] at h
        simp only [Option.some.injEq, Prod.mk.injEq] at h
        obtain ⟨rfl, rfl⟩ := h
        obtain ⟨x, rfl, e'⟩ := rows_one e
        exact ⟨_, .sides a x, by rw [e']; rfl⟩
  · simp [h0, h1, h2, h3, h4, h5, h6] at h
/-- the calls one behind another -/
inductive Lays : List FC → List Int → Prop where
  | nil : Lays [] []
  | cons {c : FC} {l : List Int} {cs : List FC} {r : List Int} : Laid c l → Lays cs r → Lays (c :: cs) (l ++ r)
theorem calls_lays : ∀ (f : Nat) (l : List Int) (cs : List FC), PyFlat.calls PyKm367.shape f l = some cs → Lays cs l
  | f, [], cs, h => by
    have : cs = [] := by cases f <;> (simp [PyFlat.calls] at h; exact h)
    subst this; exact .nil
  | 0, _ :: _, cs, h => by simp [PyFlat.calls] at h
  | f + 1, p :: r, cs, h => by
    simp only [PyFlat.calls] at h
    cases e : PyFlat.call PyKm367.shape (p :: r) with
    | none => rw [e] at h; cases h
    | some q =>
      obtain ⟨c, t⟩ := q
      rw [e] at h
      simp only at h
      cases e' : PyFlat.calls PyKm367.shape f t with
      | none => rw [e'] at h; cases h
      | some cs' =>
        rw [e'] at h
        have := Option.some.inj h
        subst this
        obtain ⟨l, hl, el⟩ := call_some e
        rw [el]
        exact .cons hl (calls_lays f t cs' e')
/-- the request, as calls; what is due is played on them -/
theorem asked_calls {l : List Int} (h : PyKm367.answers_asked l = true) : ∃ cs : List FC, Lays cs l ∧ (cs.all Km367Neutral.asked1 = true) ∧ Km367Neutral.may Km367Neutral.start cs = true ∧ 1 ≤ cs.length ∧ cs.length ≤ 1000 ∧
    PyKm367.answers l = PyFlat.told (PyFlat.played Km367Neutral.step Km367Neutral.start cs) := by
  unfold PyKm367.answers_asked at h
  unfold PyKm367.answers
  unfold PyKm367.calls at h ⊢
  cases e : PyFlat.calls PyKm367.shape l.length l with
  | none => rw [e] at h; cases h
  | some cs =>
    rw [e] at h
    have ew : cs.map PyKm367.whole = cs := by
      have : PyKm367.whole = id := funext whole_id
      rw [this, List.map_id]
    simp only [ew] at h ⊢
    unfold Km367Neutral.asked at h
    simp only [Bool.and_eq_true, decide_eq_true_eq] at h
    exact ⟨cs, calls_lays _ _ _ e, h.2.2.2.1, h.2.2.2.2, h.2.1, h.2.2.1, rfl⟩

/-! ## one call -/
/-- the call's own numbers, within their bounds -/
inductive Asks : FC → Call → List Int → Prop where
  | start : Asks [[0]] .start [0]
  | line (a b : Nat) : a < 2 ^ 32 → b < 2 ^ 32 → Asks [[1, (a : Int), (b : Int)]] (.line a b) [1, (a : Int), (b : Int)]
  | drop (k : Nat) : k < 2 ^ 32 → Asks [[2, (k : Int)]] (.drop k) [2, (k : Int)]
  | threads : Asks [[3]] .threads [3]
  | thread (t : Nat) : t < 2 ^ 32 → Asks [[4, (t : Int)]] (.thread t) [4, (t : Int)]
  | check (n : Nat) (hs : List Nat) : n < 2 ^ 32 → hs.length = 49 → (∀ x ∈ hs, x < 256) → Asks [[5, (n : Int)], hs.map fun (x : Nat) => (x : Int)] (.check hs n) (5 :: (n : Int) :: 49 :: hs.map fun (x : Nat) => (x : Int))
  | sides (n : Nat) (hs : List Nat) : n < 2 ^ 32 → hs.length = 49 → (∀ x ∈ hs, x < 256) → Asks [[6, (n : Int)], hs.map fun (x : Nat) => (x : Int)] (.sides hs n) (6 :: (n : Int) :: 49 :: hs.map fun (x : Nat) => (x : Int))
theorem natural_nat {z : Int} {b : Nat} (h : Km367Neutral.natural z b = true) : ∃ n : Nat, z = (n : Int) ∧ n < 2 ^ b := by
  unfold Km367Neutral.natural at h
  simp only [Bool.and_eq_true, decide_eq_true_eq] at h
  refine ⟨z.toNat, (Int.toNat_of_nonneg h.1).symm, ?_⟩
  have := h.2
  have e : ((2 : Int) ^ b) = ((2 ^ b : Nat) : Int) := by simp
  rw [e] at this
  omega
theorem nats_of : ∀ {r : List Int}, (r.all (fun (z : Int) => Km367Neutral.natural z 8)) = true → ∃ hs : List Nat, r = hs.map (fun (x : Nat) => (x : Int)) ∧ ∀ x ∈ hs, x < 256
  | [], _ => ⟨[], rfl, fun _ h => nomatch h⟩
  | z :: r, h => by
    rw [List.all_cons, Bool.and_eq_true] at h
    obtain ⟨n, rfl, hn⟩ := natural_nat h.1
    obtain ⟨hs, rfl, hh⟩ := nats_of h.2
    refine ⟨n :: hs, rfl, fun x hx => ?_⟩
    rcases List.mem_cons.mp hx with rfl | q
    · exact hn
    · exact hh x q
theorem nats_map (hs : List Nat) : Km367Neutral.nats (hs.map fun (x : Nat) => (x : Int)) = hs := by
  unfold Km367Neutral.nats
  rw [List.map_map]
  have : (Int.toNat ∘ fun (x : Nat) => (x : Int)) = id := by funext x; simp
  rw [this, List.map_id]
theorem laid_asks {c : FC} {l : List Int} (h : Laid c l) (ha : Km367Neutral.asked1 c = true) : ∃ x, Asks c x l ∧ Km367Neutral.callOf c = some x := by
  cases h with
  | start => exact ⟨_, .start, rfl⟩
  | line a b =>
    simp only [Km367Neutral.asked1, Bool.and_eq_true] at ha
    obtain ⟨n, rfl, hn⟩ := natural_nat ha.1
    obtain ⟨m, rfl, hm⟩ := natural_nat ha.2
    exact ⟨_, .line n m hn hm, by simp [Km367Neutral.callOf]⟩
  | drop k =>
    simp only [Km367Neutral.asked1] at ha
    obtain ⟨n, rfl, hn⟩ := natural_nat ha
    exact ⟨_, .drop n hn, by simp [Km367Neutral.callOf]⟩
  | threads => exact ⟨_, .threads, rfl⟩
  | thread k =>
    simp only [Km367Neutral.asked1] at ha
    obtain ⟨n, rfl, hn⟩ := natural_nat ha
    exact ⟨_, .thread n hn, by simp [Km367Neutral.callOf]⟩
  | check n r =>
    simp only [Km367Neutral.asked1, Bool.and_eq_true, decide_eq_true_eq] at ha
    obtain ⟨n, rfl, hn⟩ := natural_nat ha.2
    obtain ⟨hs, rfl, hh⟩ := nats_of ha.1.2
    have hl : hs.length = 49 := by simpa using ha.1.1
    refine ⟨.check hs n, ?_, by simp [Km367Neutral.callOf, nats_map]⟩
    have := Asks.check n hs hn hl hh
    simpa [hl] using this
  | sides n r =>
    simp only [Km367Neutral.asked1, Bool.and_eq_true, decide_eq_true_eq] at ha
    obtain ⟨n, rfl, hn⟩ := natural_nat ha.2
    obtain ⟨hs, rfl, hh⟩ := nats_of ha.1.2
    have hl : hs.length = 49 := by simpa using ha.1.1
    refine ⟨.sides hs n, ?_, by simp [Km367Neutral.callOf, nats_map]⟩
    have := Asks.sides n hs hn hl hh
    simpa [hl] using this
/-- the cloth that stands, a new one before the first start -/
def cur (s : Km367Neutral.S) : Cloth := s.getD fresh
theorem step_act {s : Km367Neutral.S} {c : FC} {x : Call} (e : Km367Neutral.callOf c = some x) (h : (!(Km367Neutral.step s c).2.isEmpty) = true) :
    Km367Neutral.step s c = (some (act (cur s) x).1, Km367Neutral.told (act (cur s) x).2) := by
  unfold Km367Neutral.step at h ⊢
  rw [e] at h ⊢
  cases s with
  | some a => rfl
  | none =>
    cases x with
    | start => rfl
    | _ => simp [Km367Neutral.isStart] at h
theorem may_cons {s : Km367Neutral.S} {c : FC} {cs : List FC} {x : Call} (e : Km367Neutral.callOf c = some x) (h : Km367Neutral.may s (c :: cs) = true) :
    Km367Neutral.may (some (act (cur s) x).1) cs = true ∧
    PyFlat.told (PyFlat.played Km367Neutral.step s (c :: cs)) = ((Km367Neutral.told (act (cur s) x).2).length : Int) :: Km367Neutral.told (act (cur s) x).2 ++ PyFlat.told (PyFlat.played Km367Neutral.step (some (act (cur s) x).1) cs) := by
  simp only [Km367Neutral.may, Bool.and_eq_true] at h
  have q := step_act e h.1
  rw [q] at h
  refine ⟨h.2, ?_⟩
  simp only [PyFlat.played, q, PyFlat.told, List.flatMap_cons]
end Bs
end
section
set_option Elab.async false
namespace Bs
open Km367

/-- two holes, the lesser first -/
def norm (a b : Nat) : Nat × Nat := (min a b, max a b)
theorem norm_comm (a b : Nat) : norm a b = norm b a := by unfold norm; rw [Nat.min_comm, Nat.max_comm]
theorem norm_eq {a b u v : Nat} : norm a b = norm u v ↔ (a = u ∧ b = v) ∨ (a = v ∧ b = u) := by
  unfold norm
  constructor
  · intro h
    have h1 : min a b = min u v := congrArg Prod.fst h
    have h2 : max a b = max u v := congrArg Prod.snd h
    omega
  · rintro (⟨rfl, rfl⟩ | ⟨rfl, rfl⟩)
    · rfl
    · rw [Nat.min_comm, Nat.max_comm]
theorem joins_norm {l : Line} {u v : Nat} : joins l u v = true ↔ norm l.a l.b = norm u v := by
  rw [norm_eq]
  unfold joins
  simp
/-- the table of the lines' ends -/
def tab (c : Cloth) : List (Option (Nat × Nat)) := c.lines.map (Option.map fun l => norm l.a l.b)
theorem tab_length {c : Cloth} (g : Good c) : (tab c).length = 24 := by unfold tab; rw [List.length_map]; exact g.len
theorem tab_none {c : Cloth} (g : Good c) {k : Nat} (hk : k < 24) : (tab c)[k]? = some none ↔ c.line k = none := by
  unfold tab Cloth.line
  rw [List.getElem?_map, List.getD_eq_getElem?_getD]
  have : k < c.lines.length := by rw [g.len]; exact hk
  rw [List.getElem?_eq_getElem this]
  cases c.lines[k] <;> simp
theorem tab_some {c : Cloth} {k : Nat} {p : Nat × Nat} : (tab c)[k]? = some (some p) ↔ ∃ l, c.line k = some l ∧ norm l.a l.b = p := by
  unfold tab Cloth.line
  rw [List.getElem?_map, List.getD_eq_getElem?_getD]
  cases h : c.lines[k]? with
  | none => simp
  | some o => cases o <;> simp
theorem tab_lt {c : Cloth} (g : Good c) {k : Nat} {p : Nat × Nat} (h : (tab c)[k]? = some (some p)) : p.1 < p.2 ∧ p.2 < 64 ∧ k < 24 := by
  obtain ⟨l, e, rfl⟩ := tab_some.mp h
  have := g.ok k l e
  have := line_lt g e
  unfold norm
  simp only
  omega
theorem tab_uniq {c : Cloth} (g : Good c) {j k : Nat} {p : Nat × Nat} (h : (tab c)[j]? = some (some p)) (h' : (tab c)[k]? = some (some p)) : j = k := by
  obtain ⟨l, e, rfl⟩ := tab_some.mp h
  obtain ⟨m, e', q⟩ := tab_some.mp h'
  exact g.uniq j k l m e e' (joins_norm.mpr q.symm)
theorem far_tab {c : Cloth} (g : Good c) {k u w : Nat} : c.far k u = some w ↔ (tab c)[k]? = some (some (norm u w)) := by
  constructor
  · intro h
    obtain ⟨l, e, q⟩ := far_some h
    refine tab_some.mpr ⟨l, e, ?_⟩
    rcases q with ⟨rfl, rfl⟩ | ⟨rfl, rfl⟩
    · rfl
    · exact norm_comm _ _
  · intro h
    obtain ⟨l, e, q⟩ := tab_some.mp h
    rcases norm_eq.mp q with ⟨rfl, rfl⟩ | ⟨rfl, rfl⟩
    · exact far_of_a e
    · exact far_of_b g e
theorem between_some {c : Cloth} (g : Good c) {u v k : Nat} : c.between u v = some k ↔ (tab c)[k]? = some (some (norm u v)) := by
  have key : ∀ j : Nat, ((match c.line j with
      | none => false
      | some l => joins l u v) = true) ↔ (tab c)[j]? = some (some (norm u v)) := by
    intro j
    rw [tab_some]
    cases e : c.line j with
    | none => simp
    | some l => simp [joins_norm]
  unfold Cloth.between
  constructor
  · intro h
    have := List.find?_some h
    exact (key k).mp this
  · intro h
    have hk := (tab_lt g h).2.2
    cases e : (List.range LINES).find? (fun k => match c.line k with
      | none => false
      | some l => joins l u v) with
    | none =>
      rw [List.find?_eq_none] at e
      exact absurd ((key k).mpr h) (e k (List.mem_range.mpr hk))
    | some j =>
      have := (key j).mp (List.find?_some (p := fun k => match c.line k with
        | none => false
        | some l => joins l u v) e)
      rw [tab_uniq g this h]
theorem between_none {c : Cloth} (g : Good c) {u v : Nat} : c.between u v = none ↔ some (norm u v) ∉ tab c := by
  constructor
  · intro h m
    obtain ⟨k, hk⟩ := List.getElem?_of_mem m
    rw [(between_some g).mpr hk] at h
    cases h
  · intro h
    cases e : c.between u v with
    | none => rfl
    | some k => exact absurd (List.mem_of_getElem? ((between_some g).mp e)) h
theorem free_some {c : Cloth} (g : Good c) {k : Nat} : c.free = some k ↔ (tab c)[k]? = some none ∧ ∀ j, j < k → (tab c)[j]? ≠ some none := by
  unfold Cloth.free
  constructor
  · intro h
    rw [List.find?_range_eq_some] at h
    have hk : k < 24 := List.mem_range.mp h.2.1
    refine ⟨(tab_none g hk).mpr (by simpa using h.1), fun j hj q => ?_⟩
    have := h.2.2 j hj
    rw [(tab_none g (by omega)).mp q] at this
    simp at this
  · rintro ⟨h, h'⟩
    have hk : k < 24 := by
      have := (List.getElem?_eq_some_iff.mp h).1
      rw [tab_length g] at this; exact this
    rw [List.find?_range_eq_some]
    refine ⟨by simp [(tab_none g hk).mp h], List.mem_range.mpr hk, fun j hj => ?_⟩
    cases e : c.line j with
    | none => exact absurd ((tab_none g (by omega)).mpr e) (h' j hj)
    | some l => rfl
theorem free_none {c : Cloth} (g : Good c) : c.free = none ↔ none ∉ tab c := by
  constructor
  · intro h m
    obtain ⟨k, hk⟩ := List.getElem?_of_mem m
    have hl : k < 24 := by
      have := (List.getElem?_eq_some_iff.mp hk).1
      rw [tab_length g] at this; exact this
    unfold Cloth.free at h
    rw [List.find?_eq_none] at h
    have := h k (List.mem_range.mpr hl)
    rw [(tab_none g hl).mp hk] at this
    simp at this
  · intro h
    cases e : c.free with
    | none => rfl
    | some k => exact absurd (List.mem_of_getElem? ((free_some g).mp e).1) h

theorem good_fresh : Good fresh := by
  refine ⟨rfl, fun k l h => ?_, fun j k l m h => ?_⟩
  · have : fresh.line k = none := by
      unfold Cloth.line fresh
      rw [List.getD_eq_getElem?_getD, List.getElem?_replicate]
      split <;> rfl
    rw [this] at h; cases h
  · have : fresh.line j = none := by
      unfold Cloth.line fresh
      rw [List.getD_eq_getElem?_getD, List.getElem?_replicate]
      split <;> rfl
    rw [this] at h; cases h
theorem tab_fresh : tab fresh = List.replicate 24 none := rfl
theorem line_set {c : Cloth} (g : Good c) {k j : Nat} {o : Option Line} (hk : k < 24) : Cloth.line ⟨c.lines.set k o⟩ j = if j = k then o else c.line j := by
  unfold Cloth.line
  simp only [List.getD_eq_getElem?_getD]
  by_cases h : j = k
  · subst h
    rw [List.getElem?_set_self (by rw [g.len]; exact hk), if_pos rfl]; rfl
  · rw [List.getElem?_set_ne (fun q => h q.symm), if_neg h]
theorem tab_set {c : Cloth} {k : Nat} {o : Option Line} : tab ⟨c.lines.set k o⟩ = (tab c).set k (o.map fun l => norm l.a l.b) := by
  unfold tab
  rw [List.map_set]
theorem good_drop {c : Cloth} (g : Good c) {k : Nat} (hk : k < 24) : Good ⟨c.lines.set k none⟩ := by
  refine ⟨by simp [g.len], fun j l h => ?_, fun i j l m h h' q => ?_⟩
  · rw [line_set g hk] at h
    split at h
    · cases h
    · exact g.ok j l h
  · rw [line_set g hk] at h h'
    split at h
    · cases h
    · split at h'
      · cases h'
      · exact g.uniq i j l m h h' q
theorem good_line {c : Cloth} (g : Good c) {k a b : Nat} (hk : k < 24) (ha : a < 64) (hb : b < 64) (hab : a ≠ b) (hn : c.between a b = none) : Good ⟨c.lines.set k (some ⟨a, b⟩)⟩ := by
  have hn := (between_none g).mp hn
  refine ⟨by simp [g.len], fun j l h => ?_, fun i j l m h h' q => ?_⟩
  · rw [line_set g hk] at h
    split at h
    · cases h; exact ⟨ha, hb, hab⟩
    · exact g.ok j l h
  · rw [line_set g hk] at h h'
    rw [joins_norm] at q
    split at h
    · cases h
      split at h'
      · omega
      · exact absurd (List.mem_of_getElem? (tab_some.mpr ⟨m, h', q.symm⟩)) hn
    · split at h'
      · cases h'
        exact absurd (List.mem_of_getElem? (tab_some.mpr ⟨l, h, q⟩)) hn
      · exact g.uniq i j l m h h' (joins_norm.mpr q)
theorem free_lt {c : Cloth} (g : Good c) {k : Nat} (h : c.free = some k) : k < 24 := by
  have := (List.getElem?_eq_some_iff.mp ((free_some g).mp h).1).1
  rw [tab_length g] at this; exact this
theorem good_act {c : Cloth} (g : Good c) (x : Call) : Good (act c x).1 := by
  cases x with
  | start => exact good_fresh
  | line a b =>
    simp only [act]
    by_cases h : HOLES ≤ a ∨ HOLES ≤ b ∨ a = b
    · rw [if_pos h]; exact g
    rw [if_neg h]
    have h' : a < 64 ∧ b < 64 ∧ a ≠ b := by unfold HOLES at h; omega
    cases e : c.between a b with
    | some k => exact g
    | none =>
      rw [if_neg (by simp)]
      cases e' : c.free with
      | none => exact g
      | some k => exact good_line g (free_lt g e') h'.1 h'.2.1 h'.2.2 e
  | drop k =>
    simp only [act]
    cases e : c.line k with
    | none => exact g
    | some l => exact good_drop g (line_lt g e)
  | threads => exact g
  | thread t => exact g
  | check l n => exact g
  | sides l n => exact g
end Bs
end
section
set_option Elab.async false
namespace Bs
open Km367

/-! ## ways that are held -/
theorem steps_nil (c : Cloth) : c.steps [] = [] := rfl
theorem steps_one (c : Cloth) (u : Nat) : c.steps [u] = [] := rfl
theorem steps_cons (c : Cloth) (u v : Nat) (l : List Nat) : c.steps (u :: v :: l) = c.between u v :: c.steps (v :: l) := rfl
theorem steps_snoc (c : Cloth) : ∀ (l : List Nat) (u v : Nat), c.steps (l ++ [u, v]) = c.steps (l ++ [u]) ++ [c.between u v]
  | [], u, v => rfl
  | [a], u, v => rfl
  | a :: b :: l, u, v => by
    show c.between a b :: c.steps (b :: l ++ [u, v]) = c.between a b :: c.steps (b :: l ++ [u]) ++ [c.between u v]
    rw [steps_snoc c (b :: l) u v]
    rfl
theorem steps_length (c : Cloth) : ∀ l : List Nat, (c.steps l).length = l.length - 1
  | [] => rfl
  | [_] => rfl
  | a :: b :: l => by
    show (c.steps (b :: l)).length + 1 = _
    rw [steps_length c (b :: l)]
    simp
theorem take_snoc {α : Type} : ∀ {l : List α} {i : Nat} {x : α}, l[i]? = some x → l.take (i + 1) = l.take i ++ [x]
  | [], i, x, h => by simp at h
  | a :: l, 0, x, h => by
    have e : a = x := Option.some.inj h
    subst e; rfl
  | a :: l, i + 1, x, h => by
    have ih := take_snoc (l := l) (i := i) (x := x) h
    show a :: l.take (i + 1) = a :: l.take i ++ [x]
    rw [ih]; rfl
theorem steps_take (c : Cloth) {l : List Nat} {i u v : Nat} (hu : l[i]? = some u) (hv : l[i + 1]? = some v) : c.steps (l.take (i + 2)) = c.steps (l.take (i + 1)) ++ [c.between u v] := by
  rw [take_snoc hv, take_snoc hu, List.append_assoc]
  exact steps_snoc c _ u v

theorem times_nil (k : Nat) (f : Bool) : times [] k f = 0 := rfl
theorem times_snoc (s : List (Option Nat)) (x : Option Nat) (k : Nat) (f : Bool) : times (s ++ [x]) k f = times s k f + if (s.length % 2 == 0) = f ∧ x = some k then 1 else 0 := by
  unfold times
  rw [List.length_append, List.length_singleton, List.range_succ, List.filter_append, List.length_append]
  congr 1
  · congr 1
    apply List.filter_congr
    intro i hi
    have hi := List.mem_range.mp hi
    rw [List.getD_eq_getElem?_getD, List.getD_eq_getElem?_getD, List.getElem?_append_left hi]
  · have : (s ++ [x]).getD s.length none = x := by
      rw [List.getD_eq_getElem?_getD, List.getElem?_append_right (Nat.le_refl _)]; simp
    simp only [List.filter_cons, List.filter_nil, this]
    by_cases h : (s.length % 2 == 0) = f ∧ x = some k
    · rw [if_pos h, if_pos (by simp [h.1, h.2])]; rfl
    · rw [if_neg h, if_neg (by simpa using h)]; rfl

/-! bits -/
theorem bits_fold (p : Nat → Bool) : ∀ n : Nat, (List.range n).foldl (fun a k => if p k = true then a + 2 ^ k else a) 0 < 2 ^ n ∧
    ∀ j, ((List.range n).foldl (fun a k => if p k = true then a + 2 ^ k else a) 0).testBit j = (decide (j < n) && p j)
  | 0 => ⟨by simp, fun j => by simp⟩
  | n + 1 => by
    obtain ⟨h1, h2⟩ := bits_fold p n
    rw [List.range_succ, List.foldl_append]
    generalize (List.range n).foldl (fun a k => if p k = true then a + 2 ^ k else a) 0 = a at h1 h2
    simp only [List.foldl_cons, List.foldl_nil]
    have hp : 2 ^ (n + 1) = 2 ^ n + 2 ^ n := by rw [Nat.pow_succ]; omega
    by_cases hn : p n = true
    · rw [if_pos hn]
      refine ⟨by omega, fun j => ?_⟩
      rw [Nat.add_comm]
      rcases Nat.lt_trichotomy j n with q | q | q
      · rw [Nat.testBit_two_pow_add_gt q, h2 j]
        have : j < n + 1 := by omega
        simp [q, this]
      · subst q
        rw [Nat.testBit_two_pow_add_eq, h2 j]
        simp [hn]
      · have : 2 ^ n + a < 2 ^ j := Nat.lt_of_lt_of_le (by omega) (Nat.pow_le_pow_right (by decide) q)
        rw [Nat.testBit_lt_two_pow this]
        have : ¬ j < n + 1 := by omega
        simp [this]
    · rw [if_neg hn]
      refine ⟨by omega, fun j => ?_⟩
      rw [h2 j]
      rcases Nat.lt_trichotomy j n with q | q | q
      · have : j < n + 1 := by omega
        simp [q, this]
      · subst q
        have : p j = false := by simpa using hn
        simp [this]
      · have h3 : ¬ j < n + 1 := by omega
        have h4 : ¬ j < n := by omega
        simp [h3, h4]
theorem seen_bit (s : List (Option Nat)) (f : Bool) (j : Nat) : (seen s f).testBit j = (decide (j < 24) && decide (0 < times s j f)) := by
  have := (bits_fold (fun k => decide (0 < times s k f)) 24).2 j
  unfold seen LINES
  simp only [decide_eq_true_eq] at this
  exact this
theorem seen_lt (s : List (Option Nat)) (f : Bool) : seen s f < 2 ^ 24 := by
  have := (bits_fold (fun k => decide (0 < times s k f)) 24).1
  unfold seen LINES
  simp only [decide_eq_true_eq] at this
  exact this
theorem seen_nil (f : Bool) : seen [] f = 0 := by
  apply Nat.eq_of_testBit_eq
  intro j
  rw [seen_bit, times_nil]; simp
theorem seen_snoc {s : List (Option Nat)} {k : Nat} (hk : k < 24) (f : Bool) : seen (s ++ [some k]) f = if (s.length % 2 == 0) = f then seen s f ||| 1 <<< k else seen s f := by
  apply Nat.eq_of_testBit_eq
  intro j
  rw [seen_bit, times_snoc]
  by_cases h : (s.length % 2 == 0) = f
  · rw [if_pos h, Nat.testBit_or, seen_bit, Nat.shiftLeft_eq, Nat.one_mul, Nat.testBit_two_pow]
    by_cases e : k = j
    · subst e
      simp [h, hk]
    · have : ¬ (some k = some j) := fun q => e (Option.some.inj q)
      simp [e]
  · rw [if_neg h, seen_bit]
    simp [h]
end Bs
end
section
set_option Elab.async false
namespace Bs
open Km367

/-! ## where threads begin -/
def hasLine (c : Cloth) (u : Nat) : Bool := (List.range 24).any fun k => (c.far k u).isSome
theorem hasLine_iff {c : Cloth} (g : Good c) {u : Nat} : hasLine c u = true ↔ ∃ k w, c.far k u = some w := by
  unfold hasLine
  rw [List.any_eq_true]
  constructor
  · rintro ⟨k, _, h⟩
    obtain ⟨w, hw⟩ := Option.isSome_iff_exists.mp h
    exact ⟨k, w, hw⟩
  · rintro ⟨k, w, h⟩
    exact ⟨k, List.mem_range.mpr (far_lt g h).1, by rw [h]; rfl⟩
/-- the holes that have a line, rising -/
def lined (c : Cloth) : List Nat := (List.range 64).filter (hasLine c)
theorem mem_lined {c : Cloth} (g : Good c) {u : Nat} : u ∈ lined c ↔ ∃ k w, c.far k u = some w := by
  unfold lined
  rw [List.mem_filter, hasLine_iff g, List.mem_range]
  constructor
  · exact fun h => h.2
  · rintro ⟨k, w, h⟩
    exact ⟨(far_lt g h).2.1, k, w, h⟩
theorem lined_sorted (c : Cloth) : (lined c).Pairwise (· < ·) := List.Pairwise.filter _ List.pairwise_lt_range
theorem lined_nodup (c : Cloth) : (lined c).Nodup := List.Pairwise.imp (fun h => Nat.ne_of_lt h) (lined_sorted c)
def stStep (c : Cloth) (s : List Nat × List Nat) (u : Nat) : List Nat × List Nat := if s.2.contains u = true then s else (s.1 ++ [u], s.2 ++ (c.way u).been)
theorem starts_lined {c : Cloth} (g : Good c) : c.starts = ((lined c).foldl (stStep c) ([], [])).1 := by
  unfold Cloth.starts lined HOLES
  rw [List.foldl_filter]
  refine congrArg (fun f : List Nat × List Nat → Nat → List Nat × List Nat => (List.foldl f ([], []) (List.range 64)).1) (funext fun s => funext fun u => ?_)
  by_cases h : hasLine c u = true
  · rw [if_pos h]
    unfold stStep
    by_cases q : s.2.contains u = true
    · rw [if_pos q, if_pos q]
    · rw [if_neg q, if_neg q]
      have : ¬ (c.way u).gone.length = 0 := fun z => by
        obtain ⟨k, w, e⟩ := (hasLine_iff g).mp h
        rw [(way_none g u).mp z k] at e; cases e
      simp only [if_neg this]
  · rw [if_neg h]
    by_cases q : s.2.contains u = true
    · rw [if_pos q]
    · rw [if_neg q]
      have : (c.way u).gone.length = 0 := (way_none g u).mpr fun k => by
        cases e : c.far k u with
        | none => rfl
        | some w => exact absurd ((hasLine_iff g).mpr ⟨k, w, e⟩) h
      simp only [if_pos this]
theorem stStep_old {c : Cloth} {s : List Nat × List Nat} {u : Nat} (h : u ∈ s.2) : stStep c s u = s := by unfold stStep; rw [if_pos (by simpa using h)]
theorem stStep_new {c : Cloth} {s : List Nat × List Nat} {u : Nat} (h : u ∉ s.2) : stStep c s u = (s.1 ++ [u], s.2 ++ (c.way u).been) := by unfold stStep; rw [if_neg (by simpa using h)]
theorem lined_lt {c : Cloth} {u : Nat} (h : u ∈ lined c) : u < 64 := List.mem_range.mp (List.mem_filter.mp h).1
/-- at most twice as many holes as lines -/
def endsOf (c : Cloth) : List Nat := (tab c).flatMap fun o => match o with | none => [] | some p => [p.1, p.2]
theorem endsOf_length_le : ∀ t : List (Option (Nat × Nat)), (t.flatMap fun o => match o with | none => [] | some p => [p.1, p.2]).length ≤ 2 * t.length
  | [] => by simp
  | none :: t => by
    have := endsOf_length_le t
    simp only [List.flatMap_cons, List.nil_append, List.length_cons]; omega
  | some p :: t => by
    have := endsOf_length_le t
    simp only [List.flatMap_cons, List.length_append, List.length_cons, List.length_nil]; omega
theorem mem_endsOf {c : Cloth} (g : Good c) {u : Nat} : u ∈ endsOf c ↔ ∃ k w, c.far k u = some w := by
  unfold endsOf
  rw [List.mem_flatMap]
  constructor
  · rintro ⟨o, ho, hu⟩
    cases o with
    | none => simp at hu
    | some p =>
      obtain ⟨k, hk⟩ := List.getElem?_of_mem ho
      have hlt := tab_lt g hk
      have hn : norm p.1 p.2 = p := by
        unfold norm
        rw [Nat.min_eq_left (Nat.le_of_lt hlt.1), Nat.max_eq_right (Nat.le_of_lt hlt.1)]
      simp only [List.mem_cons, List.not_mem_nil, or_false] at hu
      rcases hu with rfl | rfl
      · exact ⟨k, p.2, (far_tab g).mpr (by rw [hn]; exact hk)⟩
      · exact ⟨k, p.1, (far_tab g).mpr (by rw [norm_comm, hn]; exact hk)⟩
  · rintro ⟨k, w, h⟩
    refine ⟨some (norm u w), List.mem_of_getElem? ((far_tab g).mp h), ?_⟩
    unfold norm
    simp only [List.mem_cons, List.not_mem_nil, or_false]
    omega
theorem lined_length {c : Cloth} (g : Good c) : (lined c).length ≤ 48 := by
  have h1 := (lined_nodup c).length_le_of_subset (l₂ := endsOf c) fun u hu => (mem_endsOf g).mpr ((mem_lined g).mp hu)
  have h2 := endsOf_length_le (tab c)
  have h3 := tab_length g
  unfold endsOf at h1
  omega
end Bs
end
section
set_option Elab.async false
set_option linter.all false
namespace Bs
open Km367
/-! ## the lines of a hole, rising -/
def lnsTo (c : Cloth) (i u : Nat) : List Nat := (List.range i).filter fun k => (c.far k u).isSome
abbrev lns (c : Cloth) (u : Nat) : List Nat := lnsTo c 24 u
/-- one more behind what a hole has -/
def put (N : Nat → List Nat) (u w : Nat) : Nat → List Nat := fun x => if x = u then N x ++ [w] else N x
theorem lns_succ (c : Cloth) (i u : Nat) : lnsTo c (i + 1) u = lnsTo c i u ++ if (c.far i u).isSome = true then [i] else [] := by
  unfold lnsTo
  rw [List.range_succ, List.filter_append]
  congr 1
  rw [List.filter_cons, List.filter_nil]
theorem lns_zero (c : Cloth) (u : Nat) : lnsTo c 0 u = [] := rfl
theorem lns_len (c : Cloth) (i u : Nat) : (lnsTo c i u).length ≤ i := by
  unfold lnsTo
  have := List.length_filter_le (fun k => (c.far k u).isSome) (List.range i)
  rw [List.length_range] at this
  exact this
theorem lns_none {c : Cloth} (g : Good c) {i : Nat} (h : (tab c)[i]? = some none) : lnsTo c (i + 1) = lnsTo c i := by
  funext u
  rw [lns_succ]
  cases e : c.far i u with
  | none => simp
  | some w => rw [(far_tab g).mp e] at h; cases h
theorem norm_id {a b : Nat} (h : a < b) : norm a b = (a, b) := by
  unfold norm
  rw [Nat.min_eq_left (Nat.le_of_lt h), Nat.max_eq_right (Nat.le_of_lt h)]
theorem lns_some {c : Cloth} (g : Good c) {i : Nat} {p : Nat × Nat} (h : (tab c)[i]? = some (some p)) : lnsTo c (i + 1) = put (put (lnsTo c i) p.1 i) p.2 i := by
  have hlt := tab_lt g h
  have hp : norm p.1 p.2 = p := norm_id hlt.1
  have f1 : c.far i p.1 = some p.2 := (far_tab g).mpr (by rw [hp]; exact h)
  have f2 : c.far i p.2 = some p.1 := (far_tab g).mpr (by rw [norm_comm, hp]; exact h)
  funext u
  rw [lns_succ]
  unfold put
  by_cases h1 : u = p.2
  · subst h1
    have : ¬ p.2 = p.1 := by omega
    rw [if_pos rfl, if_neg this, f2]; rfl
  · rw [if_neg h1]
    by_cases h2 : u = p.1
    · subst h2
      rw [if_pos rfl, f1]; rfl
    · rw [if_neg h2]
      cases e : c.far i u with
      | none => simp
      | some w =>
        rcases far_two f1 e with ⟨z, _⟩ | ⟨z, _⟩
        · exact absurd z h2
        · exact absurd z h1
theorem mem_lns {c : Cloth} (g : Good c) {u k : Nat} : k ∈ lns c u ↔ ∃ w, c.far k u = some w := by
  unfold lns lnsTo
  rw [List.mem_filter, List.mem_range, Option.isSome_iff_exists]
  constructor
  · exact fun h => h.2
  · rintro ⟨w, h⟩
    exact ⟨(far_lt g h).1, w, h⟩
theorem lns_sorted (c : Cloth) (u : Nat) : (lns c u).Pairwise (· < ·) := List.Pairwise.filter _ List.pairwise_lt_range
theorem lns_lined {c : Cloth} (g : Good c) {u : Nat} : lns c u ≠ [] ↔ u ∈ lined c := by
  rw [mem_lined g]
  constructor
  · intro h
    obtain ⟨k, hk⟩ := List.exists_mem_of_ne_nil _ h
    exact ⟨k, (mem_lns g).mp hk⟩
  · rintro ⟨k, w, h⟩ z
    have := (mem_lns g).mpr ⟨w, h⟩
    rw [z] at this; cases this
theorem reach_lt {c : Cloth} (g : Good c) {b x : Nat} (hb : b < 64) (r : Reach c b x) : x < 64 :=
  r.inside (S := fun x => x < 64) hb fun _ _ _ _ e => (far_lt g e).2.2.1
theorem reach_lined {c : Cloth} (g : Good c) {b x : Nat} (hb : b ∈ lined c) (r : Reach c b x) : x ∈ lined c :=
  r.inside (S := fun x => x ∈ lined c) hb fun a y k _ e => (mem_lined g).mpr ⟨k, a, far_symm g e⟩
end Bs
namespace Bs
open Km367
theorem act_line_bad {c : Cloth} {a b : Nat} (h : 64 ≤ a ∨ 64 ≤ b ∨ a = b) : act c (.line a b) = (c, only (-22)) := by
  show (if HOLES ≤ a ∨ HOLES ≤ b ∨ a = b then _ else _) = _
  exact if_pos h
theorem act_line_there {c : Cloth} {a b : Nat} (h : a < 64 ∧ b < 64 ∧ a ≠ b) (hb : (c.between a b).isSome = true) : act c (.line a b) = (c, only (-17)) := by
  show (if HOLES ≤ a ∨ HOLES ≤ b ∨ a = b then _ else _) = _
  rw [if_neg (by unfold HOLES; omega)]
  exact if_pos hb
theorem act_line_full {c : Cloth} {a b : Nat} (h : a < 64 ∧ b < 64 ∧ a ≠ b) (hb : c.between a b = none) (hf : c.free = none) : act c (.line a b) = (c, only (-28)) := by
  show (if HOLES ≤ a ∨ HOLES ≤ b ∨ a = b then _ else _) = _
  rw [if_neg (by unfold HOLES; omega), if_neg (by rw [hb]; simp), hf]
theorem act_line_new {c : Cloth} {a b k : Nat} (h : a < 64 ∧ b < 64 ∧ a ≠ b) (hb : c.between a b = none) (hf : c.free = some k) : act c (.line a b) = (⟨c.lines.set k (some ⟨a, b⟩)⟩, only (k : Int)) := by
  show (if HOLES ≤ a ∨ HOLES ≤ b ∨ a = b then _ else _) = _
  rw [if_neg (by unfold HOLES; omega), if_neg (by rw [hb]; simp), hf]
theorem act_drop_none {c : Cloth} {k : Nat} (h : c.line k = none) : act c (.drop k) = (c, only (-2)) := by
  show (if (c.line k).isNone = true then _ else _) = _
  rw [h]; rfl
theorem act_drop_some {c : Cloth} {k : Nat} {l : Line} (h : c.line k = some l) : act c (.drop k) = (⟨c.lines.set k none⟩, only 0) := by
  show (if (c.line k).isNone = true then _ else _) = _
  rw [h]; rfl
end Bs
end
section
set_option Elab.async false
set_option linter.all false
namespace Bs
open Km367
/-! ## the walk by a row of holes that aren't done yet -/
theorem fold_id {α σ : Type} {f : σ → α → σ} {s : σ} : ∀ {l : List α}, (∀ x ∈ l, f s x = s) → l.foldl f s = s
  | [], _ => rfl
  | x :: l, h => by
    rw [List.foldl_cons, h x List.mem_cons_self]
    exact fold_id fun y hy => h y (List.mem_cons_of_mem _ hy)
theorem fold_congr {α σ : Type} {f f' : σ → α → σ} (J : σ → Prop) : ∀ {l : List α} {s : σ}, J s → (∀ s x, J s → x ∈ l → f s x = f' s x ∧ J (f s x)) → l.foldl f s = l.foldl f' s
  | [], _, _, _ => rfl
  | x :: l, s, j, h => by
    obtain ⟨e, j'⟩ := h s x j List.mem_cons_self
    rw [List.foldl_cons, List.foldl_cons, ← e]
    exact fold_congr J j' fun s y hs hy => h s y hs (List.mem_cons_of_mem _ hy)
theorem fold_at {σ : Type} {f : σ → Nat → σ} {n k : Nat} {s : σ} (hk : k < n) (h1 : ∀ j, j < k → f s j = s) (h2 : ∀ j, j ≤ k → f (f s k) j = f s k) : (List.range n).foldl f s = (List.range n).foldl f (f s k) := by
  have e : n = (k + 1) + (n - (k + 1)) := by omega
  rw [e, List.range_add, List.foldl_append, List.foldl_append]
  congr 1
  rw [List.range_succ, List.foldl_append, List.foldl_append, fold_id fun j hj => h1 j (List.mem_range.mp hj), fold_id (s := f s k) fun j hj => h2 j (Nat.le_of_lt (List.mem_range.mp hj))]
  show f s k = f (f s k) k
  rw [h2 k (Nat.le_refl k)]
theorem walk_fuel {c : Cloth} (g : Good c) : ∀ (f f' u : Nat) (s : Way), Ok c s → u ∈ s.been → 25 ≤ f + s.gone.length → 25 ≤ f' + s.gone.length → c.walk f u s = c.walk f' u s
  | 0, _, u, s, o, hu, hf, _ => absurd o.few (by omega)
  | _ + 1, 0, u, s, o, hu, _, hf => absurd o.few (by omega)
  | f + 1, f' + 1, u, s, o, hu, hf, hf' => by
    rw [walk_succ, walk_succ]
    refine fold_congr (fun s' => Ok c s' ∧ u ∈ s'.been ∧ s.gone.length ≤ s'.gone.length) ⟨o, hu, Nat.le_refl _⟩ fun s' k ⟨o', hu', hl⟩ _ => ?_
    have X := (step_ext g (f := f) (k := k) o' hu' (by omega)).1
    refine ⟨?_, X.ok, X.sb u hu', Nat.le_trans hl X.le⟩
    by_cases h0 : k ∈ s'.gone
    · rw [stepW_gone h0, stepW_gone h0]
    cases e : c.far k u with
    | none => rw [stepW_none e, stepW_none e]
    | some w =>
      by_cases hb : w ∈ s'.been
      · rw [stepW_been h0 e hb, stepW_been h0 e hb]
      · rw [stepW_new h0 e hb, stepW_new h0 e hb]
        have o1 : Ok c ⟨w :: s'.been, k :: s'.gone, w :: s'.holes⟩ := by
          refine ⟨List.nodup_cons.mpr ⟨h0, o'.nd⟩, ?_, List.nodup_cons.mpr ⟨hb, o'.bnd⟩⟩
          intro j hj
          rcases List.mem_cons.mp hj with rfl | q
          · exact (far_lt g e).1
          · exact o'.lt j q
        rw [walk_fuel g f f' w _ o1 List.mem_cons_self (by simp only [List.length_cons]; omega) (by simp only [List.length_cons]; omega)]
/-- all that is to be done from a hole -/
@[irreducible] def wlk (c : Cloth) (u : Nat) (s : Way) : Way := c.walk (24 + 1) u s
theorem wlk_eq (c : Cloth) (u : Nat) (s : Way) : wlk c u s = c.walk (24 + 1) u s := by unfold wlk; rfl
theorem way_wlk (c : Cloth) (b : Nat) : c.way b = wlk c b ⟨[b], [], [b]⟩ := by rw [wlk_eq]; rfl
theorem wlk_done {c : Cloth} {u : Nat} {s : Way} (h : ∀ k w, c.far k u = some w → k ∈ s.gone) : wlk c u s = s := by
  rw [wlk_eq, walk_succ]
  refine fold_id fun k _ => ?_
  cases e : c.far k u with
  | none => exact stepW_none e
  | some w => exact stepW_gone (h k w e)
theorem wlk_step {c : Cloth} (g : Good c) {u k w : Nat} {s : Way} (o : Ok c s) (hu : u ∈ s.been) (hf : c.far k u = some w) (h1 : ∀ j, j < k → ∀ y, c.far j u = some y → j ∈ s.gone) : wlk c u s = wlk c u (stepW c 24 u s k) := by
  rw [wlk_eq, wlk_eq, walk_succ, walk_succ]
  obtain ⟨X, hk⟩ := step_ext g (f := 24) (k := k) o hu (by omega)
  refine fold_at (far_lt g hf).1 (fun j hj => ?_) fun j hj => ?_
  · cases e : c.far j u with
    | none => exact stepW_none e
    | some y => exact stepW_gone (h1 j hj y e)
  · cases e : c.far j u with
    | none => exact stepW_none e
    | some y =>
      refine stepW_gone ?_
      by_cases z : j = k
      · subst z; exact hk y e
      · exact X.sg j (h1 j (by omega) y e)
/-- what comes of a row of holes that aren't done, the last one first -/
def fin (c : Cloth) : List Nat → Way → Way
  | [], s => s
  | [u], s => wlk c u s
  | u :: v :: r, s => fin c (v :: r) ⟨(wlk c u s).been, (wlk c u s).gone, v :: (wlk c u s).holes⟩
theorem fin_eq {c : Cloth} {u : Nat} {r : List Nat} {s s' : Way} (h : wlk c u s = wlk c u s') : fin c (u :: r) s = fin c (u :: r) s' := by
  cases r with
  | nil => exact h
  | cons v r => simp only [fin, h]
structure Mach (c : Cloth) (b : Nat) (st : List Nat) (s : Way) : Prop where
  ok : Ok c s
  sub : ∀ x ∈ st, x ∈ s.been
  fin : fin c st s = c.way b
  hb : ∀ x, x ∈ s.holes ↔ x ∈ s.been
  reach : ∀ x ∈ s.been, Reach c b x
  len : s.holes.length + st.length ≤ 2 + 2 * s.gone.length
theorem Mach.start (c : Cloth) (b : Nat) : Mach c b [b] ⟨[b], [], [b]⟩ :=
  ⟨⟨by simp, (fun _ h => nomatch h), by simp⟩, fun _ h => h, (way_wlk c b).symm, fun _ => Iff.rfl, fun x h => by rw [List.mem_singleton] at h; subst h; exact .refl, Nat.le_refl 2⟩
theorem Mach.last {c : Cloth} {b : Nat} {s : Way} (M : Mach c b [] s) : s = c.way b := M.fin
theorem Mach.few {c : Cloth} {b : Nat} {st : List Nat} {s : Way} (M : Mach c b st s) : s.holes.length ≤ 50 ∧ st.length ≤ 50 ∧ s.gone.length ≤ 24 := by
  have := M.len
  have := M.ok.few
  omega
section
variable {c : Cloth} {b u v k w : Nat} {r : List Nat} {s : Way}
/-- all lines of a hole are gone along: back -/
theorem Mach.back (M : Mach c b (u :: v :: r) s) (h : ∀ k w, c.far k u = some w → k ∈ s.gone) : Mach c b (v :: r) ⟨s.been, s.gone, v :: s.holes⟩ := by
  refine ⟨⟨M.ok.nd, M.ok.lt, M.ok.bnd⟩, fun x hx => M.sub x (List.mem_cons_of_mem _ hx), ?_, fun x => ?_, M.reach, ?_⟩
  · have := M.fin
    simp only [Bs.fin, wlk_done h] at this
    exact this
  · have hv : v ∈ s.been := M.sub v (by simp)
    rw [List.mem_cons, M.hb]
    exact ⟨fun q => q.elim (fun e => e ▸ hv) id, .inr⟩
  · have := M.len
    simp only [List.length_cons] at this ⊢; omega
theorem Mach.out (M : Mach c b [u] s) (h : ∀ k w, c.far k u = some w → k ∈ s.gone) : Mach c b [] s := by
  refine ⟨M.ok, (fun _ h => nomatch h), ?_, M.hb, M.reach, ?_⟩
  · have := M.fin
    simp only [Bs.fin, wlk_done h] at this
    exact this
  · have := M.len
    simp only [List.length_cons, List.length_nil] at this ⊢; omega
theorem ok_gone (g : Good c) (o : Ok c s) (hk : k ∉ s.gone) (hf : c.far k u = some w) {bs hs : List Nat} (hb : bs.Nodup) : Ok c ⟨bs, k :: s.gone, hs⟩ := by
  refine ⟨List.nodup_cons.mpr ⟨hk, o.nd⟩, ?_, hb⟩
  intro j hj
  rcases List.mem_cons.mp hj with rfl | q
  · exact (far_lt g hf).1
  · exact o.lt j q
/-- along a line to a hole where it has been, and back -/
theorem Mach.old (g : Good c) (M : Mach c b (u :: r) s) (hk : k ∉ s.gone) (hf : c.far k u = some w) (h1 : ∀ j, j < k → ∀ y, c.far j u = some y → j ∈ s.gone) (hw : w ∈ s.been) : Mach c b (u :: r) ⟨s.been, k :: s.gone, u :: w :: s.holes⟩ := by
  have hu : u ∈ s.been := M.sub u (by simp)
  refine ⟨ok_gone g M.ok hk hf M.ok.bnd, M.sub, ?_, fun x => ?_, M.reach, ?_⟩
  · rw [← M.fin]
    refine (fin_eq ?_).symm
    rw [wlk_step g M.ok hu hf h1, stepW_been hk hf hw]
  · rw [List.mem_cons, List.mem_cons, M.hb]
    exact ⟨fun q => q.elim (fun e => e ▸ hu) fun q => q.elim (fun e => e ▸ hw) id, fun q => .inr (.inr q)⟩
  · have := M.len
    simp only [List.length_cons] at this ⊢; omega
/-- along a line to a hole where it hasn't been -/
theorem Mach.new (g : Good c) (M : Mach c b (u :: r) s) (hk : k ∉ s.gone) (hf : c.far k u = some w) (h1 : ∀ j, j < k → ∀ y, c.far j u = some y → j ∈ s.gone) (hw : w ∉ s.been) : Mach c b (w :: u :: r) ⟨w :: s.been, k :: s.gone, w :: s.holes⟩ := by
  have hu : u ∈ s.been := M.sub u (by simp)
  have o1 : Ok c ⟨w :: s.been, k :: s.gone, w :: s.holes⟩ := ok_gone g M.ok hk hf (List.nodup_cons.mpr ⟨hw, M.ok.bnd⟩)
  refine ⟨o1, fun x hx => ?_, ?_, fun x => ?_, fun x hx => ?_, ?_⟩
  · rcases List.mem_cons.mp hx with rfl | q
    · exact List.mem_cons_self
    · exact List.mem_cons_of_mem _ (M.sub x q)
  · rw [← M.fin]
    show Bs.fin c (u :: r) ⟨(wlk c w _).been, (wlk c w _).gone, u :: (wlk c w _).holes⟩ = _
    refine (fin_eq ?_).symm
    rw [wlk_step g M.ok hu hf h1, stepW_new hk hf hw]
    rw [wlk_eq c w, walk_fuel g 24 (24 + 1) w _ o1 List.mem_cons_self (by simp only [List.length_cons]; omega) (by omega)]
  · rw [List.mem_cons, List.mem_cons, M.hb]
  · rcases List.mem_cons.mp hx with rfl | q
    · exact .step (M.reach u hu) hf
    · exact M.reach x q
  · have := M.len
    simp only [List.length_cons] at this ⊢; omega
end
/-- the first of a hole's lines that was not gone along -/
theorem first_ok {c : Cloth} (g : Good c) {u k : Nat} {pre post G : List Nat} (e : lns c u = pre ++ k :: post) (h : ∀ x ∈ pre, x ∈ G) : (∃ w, c.far k u = some w) ∧ ∀ j, j < k → ∀ y, c.far j u = some y → j ∈ G := by
  refine ⟨(mem_lns g).mp (by rw [e]; simp), fun j hj y hy => ?_⟩
  have hm : j ∈ lns c u := (mem_lns g).mpr ⟨y, hy⟩
  have hs := lns_sorted c u
  rw [e] at hm hs
  rcases List.mem_append.mp hm with q | q
  · exact h j q
  · rw [List.pairwise_append, List.pairwise_cons] at hs
    rcases List.mem_cons.mp q with z | z
    · omega
    · have := hs.2.1.1 j z; omega
theorem way_holes {c : Cloth} {b : Nat} {s : Way} (M : Mach c b [] s) (x : Nat) : x ∈ (c.way b).holes ↔ x ∈ (c.way b).been := by rw [← M.last]; exact M.hb x
end Bs
end
section
set_option Elab.async false
set_option linter.all false
namespace Bs
open Km367
/-! ## every other one -/
def evs {α : Type} : List α → List α
  | [] => []
  | [a] => [a]
  | a :: _ :: r => a :: evs r
theorem evs_snoc {α : Type} (x : α) : ∀ l : List α, evs (l ++ [x]) = if l.length % 2 = 0 then evs l ++ [x] else evs l
  | [] => rfl
  | [a] => rfl
  | a :: b :: r => by
    show a :: evs (r ++ [x]) = _
    rw [evs_snoc x r]
    have e : (a :: b :: r).length % 2 = r.length % 2 := by simp only [List.length_cons]; omega
    rw [e]
    split <;> rfl
theorem ods_snoc {α : Type} (x : α) (l : List α) : evs (l ++ [x]).tail = if l.length % 2 = 1 then evs l.tail ++ [x] else evs l.tail := by
  cases l with
  | nil => rfl
  | cons a r =>
    show evs (r ++ [x]) = _
    rw [evs_snoc x r]
    have e : ((a :: r).length % 2 = 1) ↔ (r.length % 2 = 0) := by simp only [List.length_cons]; omega
    simp only [e, List.tail_cons]
theorem evs_mem {α : Type} {x : α} : ∀ {l : List α}, x ∈ evs l → x ∈ l
  | [], h => h
  | [a], h => h
  | a :: b :: r, h => by
    rcases List.mem_cons.mp h with q | q
    · subst q; exact List.mem_cons_self
    · exact List.mem_cons_of_mem _ (List.mem_cons_of_mem _ (evs_mem q))
theorem ods_mem {α : Type} {x : α} {l : List α} (h : x ∈ evs l.tail) : x ∈ l := List.mem_of_mem_tail (evs_mem h)
theorem evs_len {α : Type} : ∀ l : List α, (evs l).length ≤ l.length
  | [] => Nat.le_refl _
  | [a] => Nat.le_refl _
  | a :: b :: r => by
    have := evs_len r
    simp only [evs, List.length_cons]; omega
theorem ods_len {α : Type} (l : List α) : (evs l.tail).length ≤ l.length := by
  have h1 := evs_len l.tail
  have h2 := List.length_tail (l := l)
  omega
theorem evs_map {α β : Type} (f : α → β) : ∀ l : List α, evs (l.map f) = (evs l).map f
  | [] => rfl
  | [a] => rfl
  | a :: b :: r => by
    show f a :: evs (r.map f) = f a :: (evs r).map f
    rw [evs_map f r]
/-- the items at 0, 2, 4, .. -/
theorem evs_get {α : Type} : ∀ (l : List α) (j : Nat), (evs l)[j]? = l[2 * j]?
  | [], j => by simp [evs]
  | [a], 0 => rfl
  | [a], j + 1 => by simp [evs]
  | a :: b :: r, 0 => rfl
  | a :: b :: r, j + 1 => by
    show (evs r)[j]? = (a :: b :: r)[2 * j + 2]?
    rw [evs_get r j]; rfl
/-! ## how often -/
theorem times_evs (k : Nat) : ∀ ks : List Nat, times (ks.map some) k true = (evs ks).count k ∧ times (ks.map some) k false = (evs ks.tail).count k := by
  intro ks
  suffices ∀ (n : Nat) (ks : List Nat), ks.length = n → times (ks.map some) k true = (evs ks).count k ∧ times (ks.map some) k false = (evs ks.tail).count k from this _ ks rfl
  intro n
  induction n with
  | zero =>
    intro ks h
    rw [List.length_eq_zero_iff] at h
    subst h
    exact ⟨rfl, rfl⟩
  | succ n ih =>
    intro ks h
    rcases List.eq_nil_or_concat ks with rfl | ⟨l, x, rfl⟩
    · simp at h
    · rw [List.concat_eq_append] at *
      have hl : l.length = n := by simpa using h
      obtain ⟨h1, h2⟩ := ih l hl
      rw [List.map_append, List.map_singleton, times_snoc, times_snoc, h1, h2, evs_snoc, ods_snoc, List.length_map]
      rcases Nat.mod_two_eq_zero_or_one l.length with q | q
      · by_cases e : x = k
        · subst e; simp [q]
        · simp [q, e]
      · by_cases e : x = k
        · subst e; simp [q]
        · simp [q, e]
/-! ## bits -/
def bitsOf (l : List Nat) : Nat := l.foldl (fun b n => b ||| 2 ^ n) 0
theorem bits_from (j : Nat) : ∀ (l : List Nat) (b : Nat), (l.foldl (fun b n => b ||| 2 ^ n) b).testBit j = (b.testBit j || decide (j ∈ l))
  | [], b => by simp
  | x :: l, b => by
    rw [List.foldl_cons, bits_from j l, Nat.testBit_or, Nat.testBit_two_pow]
    by_cases e : x = j
    · subst e; simp
    · have : ¬ j = x := fun z => e z.symm
      simp [e, this]
theorem bitsOf_bit (l : List Nat) (j : Nat) : (bitsOf l).testBit j = decide (j ∈ l) := by
  unfold bitsOf
  rw [bits_from]; simp
theorem bitsOf_snoc (l : List Nat) (x : Nat) : bitsOf (l ++ [x]) = bitsOf l ||| 2 ^ x := by
  unfold bitsOf
  rw [List.foldl_append]; rfl
theorem seen_evs {ks : List Nat} (h : ∀ k ∈ ks, k < 24) : seen (ks.map some) true = bitsOf (evs ks) ∧ seen (ks.map some) false = bitsOf (evs ks.tail) := by
  constructor
  · apply Nat.eq_of_testBit_eq
    intro j
    rw [seen_bit, bitsOf_bit, (times_evs j ks).1]
    by_cases e : j ∈ evs ks
    · simp [e, h j (evs_mem e), List.count_pos_iff]
    · simp [e, List.count_eq_zero_of_not_mem e]
  · apply Nat.eq_of_testBit_eq
    intro j
    rw [seen_bit, bitsOf_bit, (times_evs j ks).2]
    by_cases e : j ∈ evs ks.tail
    · simp [e, h j (ods_mem e), List.count_pos_iff]
    · simp [e, List.count_eq_zero_of_not_mem e]
/-! ## ways -/
theorem steps_get (c : Cloth) : ∀ {l : List Nat} {i u v : Nat}, l[i]? = some u → l[i + 1]? = some v → (c.steps l)[i]? = some (c.between u v)
  | [], i, u, v, h, _ => by simp at h
  | [a], i, u, v, _, h => by simp at h
  | a :: b :: r, 0, u, v, h, h' => by
    have e1 : a = u := Option.some.inj h
    have e2 : b = v := Option.some.inj h'
    subst e1 e2; rfl
  | a :: b :: r, i + 1, u, v, h, h' => steps_get c (l := b :: r) (i := i) h h'
theorem mem_steps (c : Cloth) {y : Option Nat} : ∀ {l : List Nat}, y ∈ c.steps l → ∃ u v, y = c.between u v
  | [], h => by cases h
  | [a], h => by cases h
  | a :: b :: r, h => by
    rw [steps_cons] at h
    rcases List.mem_cons.mp h with q | q
    · exact ⟨a, b, q⟩
    · exact mem_steps c (l := b :: r) q
theorem way_big {c : Cloth} {l : List Nat} {x : Nat} (hx : x ∈ l) (h : 64 ≤ x) : c.isWay l = false := by
  unfold Cloth.isWay
  rw [Bool.and_eq_false_iff]
  refine .inl ?_
  rw [List.all_eq_false]
  exact ⟨x, hx, by unfold HOLES; simp; omega⟩
theorem way_gap {c : Cloth} {l : List Nat} {i u v : Nat} (hu : l[i]? = some u) (hv : l[i + 1]? = some v) (h : c.between u v = none) : c.isWay l = false := by
  unfold Cloth.isWay
  rw [Bool.and_eq_false_iff]
  refine .inr ?_
  rw [List.all_eq_false]
  refine ⟨none, ?_, by simp⟩
  rw [← h]
  exact List.mem_of_getElem? (steps_get c hu hv)
theorem way_yes {c : Cloth} {l ks : List Nat} (h : ∀ x ∈ l, x < 64) (e : c.steps l = ks.map some) : c.isWay l = true := by
  unfold Cloth.isWay
  rw [Bool.and_eq_true, e]
  refine ⟨?_, ?_⟩
  · rw [List.all_eq_true]
    exact fun x hx => decide_eq_true (h x hx)
  · rw [List.all_map, List.all_eq_true]
    exact fun x _ => rfl
theorem along_line {c : Cloth} (g : Good c) {l ks : List Nat} (e : c.steps l = ks.map some) {k : Nat} (hk : k ∈ ks) : k < 24 ∧ (c.line k).isSome = true := by
  have hm : some k ∈ c.steps l := by rw [e]; exact List.mem_map.mpr ⟨k, hk, rfl⟩
  obtain ⟨u, v, h⟩ := mem_steps c hm
  have ht := (between_some g).mp h.symm
  obtain ⟨m, hm, _⟩ := tab_some.mp ht
  exact ⟨line_lt g hm, by rw [hm]; rfl⟩
/-! ## each line once on each side -/
def numsTo (c : Cloth) (i : Nat) : List Nat := (List.range i).filter fun k => (c.line k).isSome
theorem nums_succ (c : Cloth) (i : Nat) : numsTo c (i + 1) = numsTo c i ++ if (c.line i).isSome = true then [i] else [] := by
  unfold numsTo
  rw [List.range_succ, List.filter_append]
  congr 1
  rw [List.filter_cons, List.filter_nil]
theorem mem_nums {c : Cloth} {k : Nat} : k ∈ numsTo c 24 ↔ k < 24 ∧ (c.line k).isSome = true := by
  unfold numsTo
  rw [List.mem_filter, List.mem_range]
theorem nums_sorted (c : Cloth) (i : Nat) : (numsTo c i).Pairwise (· < ·) := List.Pairwise.filter _ List.pairwise_lt_range
theorem nums_nodup (c : Cloth) (i : Nat) : (numsTo c i).Nodup := List.Pairwise.imp (fun h => Nat.ne_of_lt h) (nums_sorted c i)
theorem nums_len (c : Cloth) (i : Nat) : (numsTo c i).length ≤ i := by
  unfold numsTo
  have := List.length_filter_le (fun k => (c.line k).isSome) (List.range i)
  rw [List.length_range] at this
  exact this
theorem once_perm {c : Cloth} {l : List Nat} (h : ∀ k ∈ l, k < 24 ∧ (c.line k).isSome = true) : l.Perm (numsTo c 24) ↔ ∀ k, k < 24 → (c.line k).isSome = true → l.count k = 1 := by
  constructor
  · intro p k hk hl
    rw [p.count_eq k]
    exact (nums_nodup c 24).count.trans (if_pos (mem_nums.mpr ⟨hk, hl⟩))
  · intro q
    rw [List.perm_iff_count]
    intro a
    rw [(nums_nodup c 24).count]
    by_cases ha : a ∈ numsTo c 24
    · rw [if_pos ha]
      obtain ⟨h1, h2⟩ := mem_nums.mp ha
      exact q a h1 h2
    · rw [if_neg ha]
      exact List.count_eq_zero_of_not_mem fun z => ha (mem_nums.mpr (h a z))
theorem alike_iff {c : Cloth} (g : Good c) {l ks : List Nat} (hw : c.isWay l = true) (e : c.steps l = ks.map some) : c.alike l = true ↔ (evs ks).Perm (numsTo c 24) ∧ (evs ks.tail).Perm (numsTo c 24) := by
  rw [once_perm fun k hk => along_line g e (evs_mem hk), once_perm fun k hk => along_line g e (ods_mem hk)]
  unfold Cloth.alike
  rw [hw, Bool.true_and, List.all_eq_true, e]
  constructor
  · intro h
    refine ⟨fun k hk hl => ?_, fun k hk hl => ?_⟩
    · have := h k (List.mem_range.mpr hk)
      obtain ⟨m, hm⟩ := Option.isSome_iff_exists.mp hl
      rw [hm] at this
      simp only [Bool.and_eq_true, beq_iff_eq] at this
      rw [← (times_evs k ks).1]; exact this.1
    · have := h k (List.mem_range.mpr hk)
      obtain ⟨m, hm⟩ := Option.isSome_iff_exists.mp hl
      rw [hm] at this
      simp only [Bool.and_eq_true, beq_iff_eq] at this
      rw [← (times_evs k ks).2]; exact this.2
  · rintro ⟨h1, h2⟩ k hk
    cases hm : c.line k with
    | none => rfl
    | some m =>
      have hl : (c.line k).isSome = true := by rw [hm]; rfl
      have hk := List.mem_range.mp hk
      simp only [Bool.and_eq_true, beq_iff_eq]
      rw [(times_evs k ks).1, (times_evs k ks).2]
      exact ⟨h1 k hk hl, h2 k hk hl⟩
/-- sorted, it is the row of numbers just if it has each of them once -/
theorem sorted_nums {c : Cloth} {l : List Nat} {ns : List Int} (hp : ns.Perm (l.map fun (x : Nat) => (x : Int))) (hs : ns.Pairwise (· ≤ ·)) : ns = (numsTo c 24).map (fun (x : Nat) => (x : Int)) ↔ l.Perm (numsTo c 24) := by
  have back : ∀ m : List Nat, (m.map fun (x : Nat) => (x : Int)).map Int.toNat = m := fun m => by
    rw [List.map_map]
    have : (Int.toNat ∘ fun (x : Nat) => (x : Int)) = id := by funext x; simp
    rw [this, List.map_id]
  constructor
  · intro e
    rw [e] at hp
    have := (hp.map Int.toNat).symm
    rw [back, back] at this
    exact this
  · intro p
    refine List.Perm.eq_of_pairwise (le := (· ≤ ·)) (fun a b _ _ h h' => Int.le_antisymm h h') hs (List.Pairwise.map _ (fun a b hab => by have : a < b := hab; omega) (nums_sorted c 24)) ?_
    exact hp.trans (p.map _)
/-! ## the calls -/
def thAns : Option (List Nat) → Ans
  | none => only (-2)
  | some l => ⟨(l.length : Nat), l ++ List.replicate (MOST - l.length) 0⟩
theorem act_thread (c : Cloth) (t : Nat) : act c (.thread t) = (c, thAns (c.thread t)) := by
  unfold act
  dsimp only
  generalize c.thread t = o
  cases o <;> rfl
theorem act_thread_none {c : Cloth} {t : Nat} (h : c.starts[t]? = none) : act c (.thread t) = (c, only (-2)) := by
  have e : c.thread t = none := by unfold Cloth.thread; rw [h]
  rw [act_thread, e]
  unfold thAns
  rfl
theorem act_thread_some {c : Cloth} {t u : Nat} (h : c.starts[t]? = some u) : act c (.thread t) = (c, ⟨((c.way u).holes.reverse.length : Nat), (c.way u).holes.reverse ++ List.replicate (MOST - (c.way u).holes.reverse.length) 0⟩) := by
  have e : c.thread t = some (c.way u).holes.reverse := by unfold Cloth.thread; rw [h]
  rw [act_thread, e]
  unfold thAns
  rfl
theorem act_check_big {c : Cloth} {l : List Nat} {n : Nat} (h : 49 < n) : act c (.check l n) = (c, only (-22)) := by
  show (c, if MOST < n then _ else _) = _
  rw [if_pos (show MOST < n from h)]
theorem act_check {c : Cloth} {l : List Nat} {n : Nat} (h : n ≤ 49) : act c (.check l n) = (c, only (if c.alike (l.take n) = true then 1 else 0)) := by
  show (c, if MOST < n then _ else _) = _
  rw [if_neg (by unfold MOST LINES; omega)]
theorem alike_no {c : Cloth} {l : List Nat} (h : c.isWay l = false) : c.alike l = false := by
  unfold Cloth.alike; rw [h]; rfl
theorem act_sides_bad {c : Cloth} {l : List Nat} {n : Nat} (h : 49 < n ∨ c.isWay (l.take n) = false) : act c (.sides l n) = (c, only (-22)) := by
  show (c, if MOST < n ∨ c.isWay (l.take n) = false then _ else _) = _
  rw [if_pos (show MOST < n ∨ c.isWay (l.take n) = false from h)]
theorem act_sides {c : Cloth} (g : Good c) {l ks : List Nat} {n : Nat} (h : n ≤ 49) (hw : c.isWay (l.take n) = true) (e : c.steps (l.take n) = ks.map some) : act c (.sides l n) = (c, ⟨(ks.length : Nat), [bitsOf (evs ks), bitsOf (evs ks.tail)]⟩) := by
  show (c, if MOST < n ∨ c.isWay (l.take n) = false then _ else _) = _
  rw [if_neg (by rw [hw]; unfold MOST LINES; simp; omega)]
  have hs := seen_evs (ks := ks) fun k hk => (along_line g e hk).1
  rw [e, List.length_map, hs.1, hs.2]
theorem bitsOf_lt {l : List Nat} (h : ∀ k ∈ l, k < 24) : bitsOf l < 2 ^ 24 := by
  apply Nat.lt_pow_two_of_testBit
  intro j hj
  rw [bitsOf_bit]
  simp only [decide_eq_false_iff_not]
  intro z
  have := h j z
  omega
end Bs
end
section
set_option Elab.async false
set_option linter.all false
set_option maxRecDepth 100000
set_option maxHeartbeats 2000000
namespace Bsp
open PySem PySem.Spec PyProof.Rows L2
open PySem.W (Codec)
open Km367 (Cloth)
/-! ### the text by places -/
def top (i : Nat) : Stmt := PySem.Challenge.pw_bothsides_s01_answers.main.body.getD i (.Pass ⟨0, 0, 0, 0⟩)
abbrev sNoLines : Stmt := top 16
abbrev sInit : Stmt := inClass (top 17) 0
abbrev sStart : Stmt := inClass (top 17) 1
abbrev sLine : Stmt := inClass (top 17) 2
abbrev sDrop : Stmt := inClass (top 17) 3
abbrev sThreads : Stmt := inClass (top 17) 4
abbrev sThread : Stmt := inClass (top 17) 5
abbrev sCheck : Stmt := inClass (top 17) 6
abbrev sSides : Stmt := inClass (top 17) 7
abbrev sBetween : Stmt := top 18
abbrev sAtHoles : Stmt := top 19
abbrev sOther : Stmt := top 20
abbrev sFirst : Stmt := top 21
abbrev sWay : Stmt := top 22
abbrev sWays : Stmt := top 23
abbrev sAlong : Stmt := top 24
abbrev sFront : Stmt := top 25
abbrev sBack : Stmt := top 26
abbrev sBits : Stmt := top 27
abbrev sTo : Stmt := top 28
abbrev sAns : Stmt := top 29
/-! ### the cloth as it lies -/
abbrev Row := Option (Nat × Nat)
def RowV (H : Hp) (v : V) : Row → Prop
  | none => v = .non
  | some p => ∃ t, v = .ref t ∧ H t = some (.tup [.int (p.1 : Int), .int (p.2 : Int)])
def LinesAt (H : Hp) (l : Addr) (T : List Row) : Prop := ∃ vs, H l = some (.lst vs) ∧ Paired (RowV H) vs T
def bf (l : Addr) : List (Str × V) := putF "lines" (.ref l) []
theorem bf_lines (l : Addr) : (bf l).lookup ("lines" : Str) = some (.ref l) := by
  unfold bf
  rw [lookup_putF, if_pos rfl]
theorem bf_no (l : Addr) {m : Str} (h : ¬ m = "lines") : (bf l).lookup m = none := by
  unfold bf
  rw [lookup_putF, if_neg h]
  all_goals rfl
theorem bf_put (l l' : Addr) : putF "lines" (.ref l') (bf l) = bf l' := by
  show (if ("lines" : Str) = "lines" then [(("lines" : Str), V.ref l')] else _) = ([("lines", V.ref l')] : List (Str × V))
  rw [if_pos rfl]
structure ClothAt (C : Addr) (H : Hp) (p l : Addr) (T : List Row) : Prop where
  ins : ∃ dx, H p = some (.ins C dx (bf l))
  lines : LinesAt H l T
theorem RowV.keep {H H' : Hp} {v : V} {o : Row} (h : RowV H v o) (kp : ∀ b xs, H b = some (.tup xs) → H' b = some (.tup xs)) : RowV H' v o := by
  cases o with
  | none => exact h
  | some p =>
    obtain ⟨t, rfl, e⟩ := h
    exact ⟨t, rfl, kp _ _ e⟩
theorem rows_keep {H H' : Hp} {vs : List V} {T : List Row} (h : Paired (RowV H) vs T) (kp : ∀ b xs, H b = some (.tup xs) → H' b = some (.tup xs)) : Paired (RowV H') vs T := L2.Paired.mapP h fun _ _ r => r.keep kp
/-- all but x stays -/
def But (x : Addr) (H H' : Hp) : Prop := ∀ b o, H b = some o → b ≠ x → H' b = some o
theorem But.upd {H : Hp} {x : Addr} {o : HO} : But x H (L2.upd H x o) := fun b u e h => by rw [upd_ne h]; exact e
theorem But.tups {x : Addr} {H H' : Hp} (h : But x H H') (hx : ∀ xs, H x ≠ some (.tup xs)) : ∀ b xs, H b = some (.tup xs) → H' b = some (.tup xs) := fun b xs e => h b _ e fun z => hx xs (z ▸ e)
theorem LinesAt.keep {H H' : Hp} {l : Addr} {T : List Row} (h : LinesAt H l T) (kp : Same H H') : LinesAt H' l T := by
  obtain ⟨vs, e, r⟩ := h
  exact ⟨vs, kp _ _ e, rows_keep r fun b xs q => kp _ _ q⟩
theorem LinesAt.but {H H' : Hp} {l x : Addr} {T : List Row} (h : LinesAt H l T) (kp : But x H H') (hl : l ≠ x) (hx : ∀ xs, H x ≠ some (.tup xs)) : LinesAt H' l T := by
  obtain ⟨vs, e, r⟩ := h
  exact ⟨vs, kp _ _ e hl, rows_keep r (kp.tups hx)⟩
/-! ### the table as data -/
def rowD : Row → PyData
  | none => .none
  | some p => .tuple [.int (p.1 : Int), .int (p.2 : Int)]
theorem row_dp {K : PySem.W.Frag} {H : Hp} {v : V} {o : Row} (h : RowV H v o) : Dp K H v (rowD o) := by
  cases o with
  | none => cases h; exact .non
  | some p =>
    obtain ⟨t, rfl, e⟩ := h
    exact .tup (SqT.of e) (.cons (.int _) (.cons (.int _) .nil))
theorem rows_dp {K : PySem.W.Frag} {H : Hp} : ∀ {vs : List V} {T : List Row}, Paired (RowV H) vs T → DpAll K H vs (T.map rowD)
  | _, _, .nil => .nil
  | _, _, .cons r t => .cons (row_dp r) (rows_dp t)
theorem row_lay (o : Row) : (rowD o).canLay0 = true := by cases o <;> rfl
theorem rows_lay : ∀ T : List Row, PyData.canLayAll0 (T.map rowD) = true
  | [] => rfl
  | o :: T => by
    rw [List.map_cons]
    show ((rowD o).canLay0 && PyData.canLayAll0 (T.map rowD)) = true
    rw [row_lay, rows_lay T]; rfl
theorem row_depth (o : Row) : (rowD o).depth ≤ 8 := by cases o <;> exact Nat.le_of_ble_eq_true rfl
theorem row_eqv (a b : Row) : PyData.eqv (rowD a) (rowD b) = decide (a = b) := by
  cases a with
  | none => cases b <;> simp [rowD, PyData.eqv]
  | some p =>
    cases b with
    | none => simp [rowD, PyData.eqv]
    | some q =>
      obtain ⟨p1, p2⟩ := p
      obtain ⟨q1, q2⟩ := q
      simp [rowD, PyData.eqv, PyData.eqvAll, Int.natCast_inj, Bool.beq_eq_decide_eq]
theorem rows_any (o : Row) (T : List Row) : ((T.map rowD).any fun z => PyData.eqv z (rowD o)) = decide (o ∈ T) := by
  rw [List.any_map]
  induction T with
  | nil => rfl
  | cons a T ih =>
    rw [List.any_cons, ih]
    show (PyData.eqv (rowD a) (rowD o) || _) = _
    rw [row_eqv]
    by_cases h : a = o
    · subst h; simp
    · have h' : ¬ o = a := fun z => h z.symm
      simp [h, h']
end Bsp
end
section
set_option Elab.async false
set_option linter.all false
set_option maxRecDepth 100000
set_option maxHeartbeats 2000000
namespace Bsp
open PySem PySem.Spec PyProof.Rows L2
open PySem.W (Codec)
open Km367 (Cloth act)
open Bs (Good tab norm)
/-! ### the promises -/
def rows0 : List Row := List.replicate 24 none
def spNoLines : Sp := fun vs H Q _ => vs = [] ∧ ∀ (H' : Hp) (l : Addr), H l = none → LinesAt H' l rows0 → Same H H' → Q (.ref l) H'
def spInit (C : Addr) : Sp := fun vs H Q _ => ∃ (p dx : Addr), vs = [.ref p] ∧ H p = some (.ins C dx []) ∧ ∀ (H' : Hp) (l : Addr), H l = none → ClothAt C H' p l rows0 → But p H H' → Q .non H'
def spStart (C : Addr) : Sp := fun vs H Q _ => ∃ (p l : Addr) (T : List Row), vs = [.ref p] ∧ ClothAt C H p l T ∧ ∀ (H' : Hp) (l' : Addr), H l' = none → ClothAt C H' p l' rows0 → But p H H' → Q (.int 0) H'
def spLine (C : Addr) : Sp := fun vs H Q _ => ∃ (p l : Addr) (a b : Nat) (c : Cloth), vs = [.ref p, .int (a : Int), .int (b : Int)] ∧ ClothAt C H p l (tab c) ∧ Good c ∧
  ∀ (H' : Hp), ClothAt C H' p l (tab (act c (.line a b)).1) → But l H H' → Q (.int (act c (.line a b)).2.value) H'
def spDrop (C : Addr) : Sp := fun vs H Q _ => ∃ (p l : Addr) (k : Nat) (c : Cloth), vs = [.ref p, .int (k : Int)] ∧ ClothAt C H p l (tab c) ∧ Good c ∧
  ∀ (H' : Hp), ClothAt C H' p l (tab (act c (.drop k)).1) → But l H H' → Q (.int (act c (.drop k)).2.value) H'
def tupN (p : Nat × Nat) : HO := .tup [.int (p.1 : Int), .int (p.2 : Int)]
def spBetween : Sp := fun vs H Q _ => ∃ (a b : Nat), vs = [.int (a : Int), .int (b : Int)] ∧ ∀ (H' : Hp) (t : Addr), H t = none → H' t = some (tupN (norm a b)) → Same H H' → Q (.ref t) H'
structure Txt (K : PySem.W.Frag) (mg : Str → Option Value) (C : Addr) : Prop where
  cl : Cls K C
  nL : NoAttr K C "lines"
  mgC : mg "Cloth" = some (.ref C)
  hole : ∃ t, mg "LAST_HOLE" = some (Value.int 63 t)
  most : ∃ t, mg "MOST_LINES" = some (Value.int 24 t)
  nosuch : ∃ t, mg "NO_SUCH" = some (Value.int (-2) t)
  there : ∃ t, mg "LINE_IS_THERE" = some (Value.int (-17) t)
  wrong : ∃ t, mg "WRONG_INPUT" = some (Value.int (-22) t)
  nofree : ∃ t, mg "NO_LINE_FREE" = some (Value.int (-28) t)
  mostH : ∃ t, mg "MOST_HOLES" = some (Value.int 49 t)
  c0 : ∃ t, mg "SW_START" = some (Value.int 0 t)
  c1 : ∃ t, mg "SW_LINE" = some (Value.int 1 t)
  c2 : ∃ t, mg "SW_DROP" = some (Value.int 2 t)
  c3 : ∃ t, mg "SW_THREADS" = some (Value.int 3 t)
  c4 : ∃ t, mg "SW_THREAD" = some (Value.int 4 t)
  c5 : ∃ t, mg "SW_CHECK" = some (Value.int 5 t)
  c6 : ∃ t, mg "SW_SIDES" = some (Value.int 6 t)
  min : mg "min" = none
  max : mg "max" = none
  len : mg "len" = none
  sorted : mg "sorted" = none
  enumerate : mg "enumerate" = none
  range : mg "range" = none
section
variable {P : Program} {w : World} {K : PySem.W.Frag} {mg : Str → Option Value} {base : Heap}
theorem hu64 {A : Around} {k : Nat} (hr : Room k A) : A.units + 64 < cLine := by have := hr.un; omega
theorem scNo : FnScope [] [] (defScope sNoLines) := ⟨rfl, rfl, rfl, by decide +kernel, rfl, by decide +kernel, by decide +kernel⟩
theorem paired_rep {H : Hp} : ∀ n : Nat, Paired (RowV H) (List.replicate n V.non) (List.replicate n none)
  | 0 => .nil
  | n + 1 => .cons (show RowV H V.non none from rfl) (paired_rep n)
theorem rep1 : ∀ n : Nat, (List.replicate n [V.non]).flatten = List.replicate n V.non
  | 0 => rfl
  | n + 1 => by rw [List.replicate_succ, List.flatten_cons, rep1 n]; rfl
theorem ok_no {f C : Addr} {fd : FuncData} (F : Fun K "no_lines" "no_lines" sNoLines f fd) (T : Txt K mg C) : FnOk P w K mg base CX0 1 f fd [] spNoLines := by
  refine F.ok scNo (fun vs H Q E h => ?_) (fun cdv A outer s H vs Q E hr h => ?_)
  · obtain ⟨rfl, _⟩ := h
    rfl
  · obtain ⟨rfl, k⟩ := h
    obtain ⟨t, em⟩ := T.most
    refine ⟨_, pss_one (ps_ret (pe_op op_rep (pe_lst (pa_cons pe_non pa_nil)) (pe_glob (v := .int 24) rfl em ⟨_, rfl⟩))), ?_⟩
    refine ⟨(by show 1 ≤ sizeLine; decide), fun q hq => ?_⟩
    refine ⟨q, 24, [.non], rfl, rfl, upd_same, by decide, by decide, (by show 1 * 24 ≤ sizeLine; decide), fun l hl => ?_⟩
    have hn : l ≠ q := fun z => by subst z; rw [upd_same] at hl; cases hl
    have hl0 : H l = none := by rw [upd_ne hn] at hl; exact hl
    refine k _ l hl0 ⟨_, upd_same, ?_⟩ fun b o e => ?_
    · rw [rep1]; exact paired_rep 24
    · rw [upd_ne (ne_of_none e hl0), upd_ne (ne_of_none e hq)]; exact e
theorem scI : FnScope ["self"] ["self"] (defScope sInit) := ⟨rfl, rfl, rfl, by decide +kernel, rfl, by decide +kernel, by decide +kernel⟩
theorem ok_init {f fN C : Addr} {fd fdN : FuncData} (F : Fun K "__init__" "Cloth.__init__" sInit f fd) (T : Txt K mg C) (FN : Fun K "no_lines" "no_lines" sNoLines fN fdN) (bN : Binds K fdN [] []) (mN : mg "no_lines" = some (.ref fN)) :
    FnOk P w K mg base CX0 2 f fd ["self"] (spInit C) := by
  have GN : FnOk P w K mg base CX0 1 fN fdN [] spNoLines := ok_no FN T
  refine F.ok scI (fun vs H Q E h => ?_) (fun cdv A outer s H vs Q E hr h => ?_)
  · obtain ⟨p, dx, rfl, _⟩ := h
    rfl
  · obtain ⟨p, dx, rfl, hp, k⟩ := h
    refine ⟨_, pss_one (ps_fld (pv 0) (pe_call0 GN hr rfl mN FN.kp bN .nil pass0) rfl), ?_⟩
    refine ⟨rfl, fun H1 l hl L s1 => ?_⟩
    refine ⟨_, rfl, p, C, dx, [], rfl, s1 _ _ hp, T.cl, T.nL, (by show 0 < 1000; decide), ?_⟩
    have hlp : l ≠ p := fun z => by subst z; rw [hp] at hl; cases hl
    refine k _ l hl ⟨⟨dx, upd_same⟩, L.but But.upd hlp fun xs z => by rw [s1 _ _ hp] at z; cases z⟩ fun b o e hb => ?_
    rw [upd_ne hb]; exact s1 _ _ e
theorem scS : FnScope ["self"] ["self"] (defScope sStart) := ⟨rfl, rfl, rfl, by decide +kernel, rfl, by decide +kernel, by decide +kernel⟩
theorem ok_start {f fN C : Addr} {fd fdN : FuncData} (F : Fun K "sw_start" "Cloth.sw_start" sStart f fd) (T : Txt K mg C) (FN : Fun K "no_lines" "no_lines" sNoLines fN fdN) (bN : Binds K fdN [] []) (mN : mg "no_lines" = some (.ref fN)) :
    FnOk P w K mg base CX0 2 f fd ["self"] (spStart C) := by
  have GN : FnOk P w K mg base CX0 1 fN fdN [] spNoLines := ok_no FN T
  refine F.ok scS (fun vs H Q E h => ?_) (fun cdv A outer s H vs Q E hr h => ?_)
  · obtain ⟨p, l, T, rfl, _⟩ := h
    rfl
  · obtain ⟨p, l, T0, rfl, hc, k⟩ := h
    obtain ⟨dx, hp⟩ := hc.ins
    refine ⟨_, pss_cons (ps_fld (pv 0) (pe_call0 GN hr rfl mN FN.kp bN .nil pass0) rfl) (pss_one (ps_ret pe_int)), ?_⟩
    refine ⟨rfl, fun H1 l1 hl L s1 => ?_⟩
    refine ⟨_, rfl, p, C, dx, _, rfl, s1 _ _ hp, T.cl, T.nL, (by show 1 < 1000; decide), ?_⟩
    have hlp : l1 ≠ p := fun z => by subst z; rw [hp] at hl; cases hl
    rw [bf_put]
    refine k _ l1 hl ⟨⟨dx, upd_same⟩, L.but But.upd hlp fun xs z => by rw [s1 _ _ hp] at z; cases z⟩ fun b o e hb => ?_
    rw [upd_ne hb]; exact s1 _ _ e
end
end Bsp
end
section
set_option Elab.async false
set_option linter.all false
set_option maxRecDepth 100000
set_option maxHeartbeats 2000000
namespace Bsp
open PySem PySem.Spec PyProof.Rows L2
open PySem.W (Codec)
open Km367 (Cloth act)
open Bs (Good tab norm)
theorem paired_get {α β : Type} {F : α → β → Prop} : ∀ {l : List α} {m : List β} {i : Nat} {y : β}, Paired F l m → m[i]? = some y → ∃ x, l[i]? = some x ∧ F x y
  | _, _, _, _, .nil, h => by simp at h
  | _, _, 0, _, .cons r _, h => by simp at h; subst h; exact ⟨_, rfl, r⟩
  | _, _, i + 1, y, .cons _ t, h => by
    obtain ⟨x, h1, h2⟩ := paired_get (i := i) (y := y) t (by simpa using h)
    exact ⟨x, by simpa using h1, h2⟩
theorem paired_set {α β : Type} {F : α → β → Prop} {x : α} {y : β} (r : F x y) : ∀ {l : List α} {m : List β} (i : Nat), Paired F l m → Paired F (l.set i x) (m.set i y)
  | _, _, _, .nil => .nil
  | _, _, 0, .cons _ t => .cons r t
  | _, _, i + 1, .cons q t => .cons q (paired_set r i t)
theorem paired_len {α β : Type} {F : α → β → Prop} : ∀ {l : List α} {m : List β}, Paired F l m → l.length = m.length
  | _, _, .nil => rfl
  | _, _, .cons _ t => by simp [paired_len t]
theorem ixN_nat {n j : Nat} (h : j < n) : ixN n (j : Int) = some j := by
  unfold ixN
  rw [if_pos (by omega), if_pos (by omega)]; simp
section
variable {P : Program} {w : World} {K : PySem.W.Frag} {mg : Str → Option Value} {base : Heap}
theorem scBt : FnScope ["a", "b"] ["a", "b"] (defScope sBetween) := ⟨rfl, rfl, rfl, by decide +kernel, rfl, by decide +kernel, by decide +kernel⟩
theorem ok_between {f C : Addr} {fd : FuncData} (F : Fun K "between" "between" sBetween f fd) (T : Txt K mg C) : FnOk P w K mg base CX0 1 f fd ["a", "b"] spBetween := by
  refine F.ok scBt (fun vs H Q E h => ?_) (fun cdv A outer s H vs Q E hr h => ?_)
  · obtain ⟨a, b, rfl, _⟩ := h
    rfl
  · obtain ⟨a, b, rfl, k⟩ := h
    refine ⟨_, pss_one (ps_ret (pe_tup (pa_cons (pe_callB (call_min2 rfl) (by rfl) T.min boot_min (pa_cons (pv 0) (pa_cons (pv 1) pa_nil)))
        (pa_cons (pe_callB (call_max2 rfl) (by rfl) T.max boot_max (pa_cons (pv 0) (pa_cons (pv 1) pa_nil))) pa_nil)))), ?_⟩
    refine ⟨_, rfl, _, rfl, _, _, rfl, _, rfl, _, rfl, _, _, rfl, (by show 2 ≤ sizeLine; decide), fun t ht => ?_⟩
    have e1 : (if (b : Int) < (a : Int) then (b : Int) else (a : Int)) = (((norm a b).1 : Nat) : Int) := by
      unfold norm; simp only; split <;> omega
    have e2 : (if (b : Int) > (a : Int) then (b : Int) else (a : Int)) = (((norm a b).2 : Nat) : Int) := by
      unfold norm; simp only; split <;> omega
    rw [e1, e2]
    exact k _ t ht upd_same fun x o e => by rw [upd_ne (ne_of_none e ht)]; exact e
theorem scL : FnScope ["self", "a", "b", "ends", "number"] ["self", "a", "b"] (defScope sLine) := ⟨rfl, rfl, rfl, by decide +kernel, rfl, by decide +kernel, by decide +kernel⟩
theorem ok_line {f fB C : Addr} {fd fdB : FuncData} (F : Fun K "sw_line" "Cloth.sw_line" sLine f fd) (T : Txt K mg C) (FB : Fun K "between" "between" sBetween fB fdB) (bB : Binds K fdB ["a", "b"] []) (mB : mg "between" = some (.ref fB)) :
    FnOk P w K mg base CX0 2 f fd ["self", "a", "b"] (spLine C) := by
  have GB : FnOk P w K mg base CX0 1 fB fdB ["a", "b"] spBetween := ok_between FB T
  refine F.ok scL (fun vs H Q E h => ?_) (fun cdv A outer s H vs Q E hr h => ?_)
  · obtain ⟨p, l, a, b, c, rfl, _⟩ := h
    rfl
  · obtain ⟨p, l, a, b, c, rfl, hc, g, k⟩ := h
    obtain ⟨tH, eH⟩ := T.hole
    obtain ⟨tW, eW⟩ := T.wrong
    obtain ⟨tT, eT⟩ := T.there
    obtain ⟨tF, eF⟩ := T.nofree
    have hu := hu64 hr
    obtain ⟨dx, hp⟩ := hc.ins
    obtain ⟨vs, hl, hrows⟩ := hc.lines
    refine ⟨_, pss_cons (ps_if (PW.pt (pw_or (pt_cmpR op_gt (pv 1) (pe_glob (v := .int 63) rfl eH ⟨_, rfl⟩) (nomark _)) (pw_or (pt_cmpR op_gt (pv 2) (pe_glob (v := .int 63) rfl eH ⟨_, rfl⟩) (nomark _)) (pw_or1 (pt_cmpR op_eq (pv 1) (pv 2) (nomark _))))))
        (pss_one (ps_ret (pe_glob (v := .int (-22)) rfl eW ⟨_, rfl⟩))) pss_nil)
      (pss_cons (ps_set (i := 3) scL.nd rfl (Or.inl rfl) (pe_call GB hr rfl mB FB.kp bB .nil pass0 (pa_cons (pv 1) (pa_cons (pv 2) pa_nil))))
      (pss_cons (ps_if (pt_cmpR (op_inD hu) (pv 3) (pe_fld (pv 0) rfl) (by with_unfolding_all rfl)) (pss_one (ps_ret (pe_glob (v := .int (-17)) rfl eT ⟨_, rfl⟩))) pss_nil)
      (pss_cons (ps_if (pt_cmpR (op_notInD hu) pe_non (pe_fld (pv 0) rfl) (by with_unfolding_all rfl)) (pss_one (ps_ret (pe_glob (v := .int (-28)) rfl eF ⟨_, rfl⟩))) pss_nil)
      (pss_cons (ps_set (i := 4) scL.nd rfl (Or.inl rfl) (pe_bm PySem.F.plainAttrs_list PySem.F.slot_list_index PySem.F.type_list_index (mt_indexD hu) (pe_fld (pv 0) rfl) (pa_cons pe_non pa_nil)))
      (pss_cons (ps_asg (pv 3) (pg_sub (pe_fld (pv 0) rfl) (pv 4) set_list))
      (pss_one (ps_ret (pv 4)))))))), ?_⟩
    have refused : ∀ z : Int, act c (.line a b) = (c, Km367.only z) → ∀ H1, Same H H1 → Q (.int z) H1 := fun z e H1 s1 => by
      have := k H1 (by rw [e]; exact ⟨⟨dx, s1 _ _ hp⟩, hc.lines.keep s1⟩) (fun b o e _ => s1 b o e)
      rw [e] at this
      exact this
    have bad : (64 ≤ a ∨ 64 ≤ b ∨ a = b) → act c (.line a b) = (c, Km367.only (-22)) := Bs.act_line_bad
    -- the holes
    refine ⟨_, rfl, _, _, rfl, rfl, _, rfl, ite2 (fun h1 => iteT (refused (-22) (bad (.inl (by have := of_decide_eq_true h1; omega))) H (Same.refl H))) fun h1 => ?_⟩
    refine ⟨_, rfl, _, _, rfl, rfl, _, rfl, ite2 (fun h2 => iteT (refused (-22) (bad (.inr (.inl (by have := of_decide_eq_true h2; omega)))) H (Same.refl H))) fun h2 => ?_⟩
    refine ⟨_, rfl, _, rfl, rfl, _, rfl, ite2 (fun h3 => refused (-22) (bad (.inr (.inr (by have := of_decide_eq_true h3; injection this with q; omega)))) H (Same.refl H)) fun h3 => ?_⟩
    have hab : a < 64 ∧ b < 64 ∧ a ≠ b := by
      refine ⟨?_, ?_, fun z => h3 (by rw [z]; exact decide_eq_true rfl)⟩
      · have : ¬ (63 : Int) < a := fun z => h1 (decide_eq_true z)
        omega
      · have : ¬ (63 : Int) < b := fun z => h2 (decide_eq_true z)
        omega
    -- ends = between(a, b)
    refine ⟨_, rfl, _, rfl, a, b, rfl, fun H1 t ht et s1 => ?_⟩
    have rt : RowV H1 (.ref t) (some (norm a b)) := ⟨t, rfl, et⟩
    have hp1 := s1 _ _ hp
    have hl1 := s1 _ _ hl
    have hrows1 := rows_keep hrows fun b xs q => s1 b _ q
    -- if ends in self.lines
    refine ⟨_, rfl, _, rfl, p, C, dx, _, _, rfl, hp1, T.cl, T.nL, bf_lines l, l, vs, _, _, rfl, SqL.of hl1, rows_dp hrows1, row_dp rt, rows_lay _, row_lay _, row_depth _, _, rfl, ?_⟩
    rw [rows_any]
    refine ite2 (fun h4 => refused (-17) ?_ H1 s1) fun h4 => ?_
    · have hm : some (norm a b) ∈ tab c := of_decide_eq_true h4
      refine Bs.act_line_there hab ?_
      cases e : c.between a b with
      | none => exact absurd hm ((Bs.between_none g).mp e)
      | some k => rfl
    have hbn : c.between a b = none := (Bs.between_none g).mpr fun z => h4 (decide_eq_true z)
    -- if None not in self.lines
    refine ⟨_, rfl, p, C, dx, _, _, rfl, hp1, T.cl, T.nL, bf_lines l, l, vs, _, _, rfl, SqL.of hl1, rows_dp hrows1, row_dp (o := none) rfl, rows_lay _, row_lay _, row_depth _, _, rfl, ?_⟩
    rw [rows_any]
    refine ite2 (fun h5 => refused (-28) ?_ H1 s1) fun h5 => ?_
    · have hm : none ∉ tab c := by
        intro z
        rw [decide_eq_true z] at h5
        cases h5
      exact Bs.act_line_full hab hbn ((Bs.free_none g).mpr hm)
    obtain ⟨j, hj⟩ : ∃ j, c.free = some j := by
      cases e : c.free with
      | some j => exact ⟨j, rfl⟩
      | none =>
        have hm := (Bs.free_none g).mp e
        rw [decide_eq_false hm] at h5
        exact absurd rfl h5
    have hact := Bs.act_line_new hab hbn hj
    obtain ⟨hj1, hj2⟩ := (Bs.free_some g).mp hj
    have hjl : j < 24 := Bs.free_lt g hj
    have hvl : vs.length = 24 := by rw [paired_len hrows]; exact Bs.tab_length g
    -- number = self.lines.index(None)
    refine ⟨_, rfl, p, C, dx, _, _, rfl, hp1, T.cl, T.nL, bf_lines l, .inl ⟨rfl, _, SqL.of hl1⟩, l, vs, _, .non, _, j, rowD none, rfl, rfl, SqL.of hl1, rows_dp hrows1, row_dp (o := none) rfl, rows_lay _, row_lay none, row_depth none,
      (by rw [List.getElem?_map, hj1]; rfl), rfl, (fun m e' hm he' => ?_), ?_⟩
    · rw [List.getElem?_map] at he'
      cases eo : (tab c)[m]? with
      | none => rw [eo] at he'; cases he'
      | some o =>
        rw [eo] at he'
        have : rowD o = e' := Option.some.inj he'
        subst this
        rw [row_eqv]
        exact decide_eq_false fun z => hj2 m hm (by rw [eo, z])
    -- self.lines[number] = ends
    refine ⟨_, rfl, _, rfl, p, C, dx, _, _, rfl, hp1, T.cl, T.nL, bf_lines l, _, rfl, l, vs, _, j, rfl, rfl, hl1, ixN_nat (by omega), ?_⟩
    refine ⟨_, rfl, ?_⟩
    have hpl : p ≠ l := ne_of hp1 hl1 (by intro z; cases z)
    have key := k (upd H1 l (.lst (vs.set j (.ref t)))) ?_ (fun x o e hx => by rw [upd_ne hx]; exact s1 _ _ e)
    · rw [hact] at key
      exact key
    · rw [hact]
      refine ⟨⟨dx, by rw [upd_ne hpl]; exact hp1⟩, _, upd_same, ?_⟩
      rw [Bs.tab_set]
      have kt : ∀ b xs, H1 b = some (.tup xs) → upd H1 l (.lst (vs.set j (.ref t))) b = some (.tup xs) := But.tups But.upd fun xs z => by rw [hl1] at z; cases z
      exact paired_set (rt.keep kt) j (rows_keep hrows1 kt)
theorem scD : FnScope ["self", "line"] ["self", "line"] (defScope sDrop) := ⟨rfl, rfl, rfl, by decide +kernel, rfl, by decide +kernel, by decide +kernel⟩
theorem ok_drop {f C : Addr} {fd : FuncData} (F : Fun K "sw_drop" "Cloth.sw_drop" sDrop f fd) (T : Txt K mg C) : FnOk P w K mg base CX0 1 f fd ["self", "line"] (spDrop C) := by
  refine F.ok scD (fun vs H Q E h => ?_) (fun cdv A outer s H vs Q E hr h => ?_)
  · obtain ⟨p, l, a, c, rfl, _⟩ := h
    rfl
  · obtain ⟨p, l, a, c, rfl, hc, g, k⟩ := h
    obtain ⟨tM, eM⟩ := T.most
    obtain ⟨tN, eN⟩ := T.nosuch
    obtain ⟨dx, hp⟩ := hc.ins
    obtain ⟨vs, hl, hrows⟩ := hc.lines
    have hvl : vs.length = 24 := by rw [paired_len hrows]; exact Bs.tab_length g
    refine ⟨_, pss_cons (ps_if (PW.pt (pw_or (pt_cmpR op_ge (pv 1) (pe_glob (v := .int 24) rfl eM ⟨_, rfl⟩) (nomark _)) (pw_or1 (pt_cmpR op_isN (pe_ix ix_list (pe_fld (pv 0) rfl) (pv 1) (fun _ _ => rfl)) pe_non (nomark _)))))
        (pss_one (ps_ret (pe_glob (v := .int (-2)) rfl eN ⟨_, rfl⟩))) pss_nil)
      (pss_cons (ps_asg pe_non (pg_sub (pe_fld (pv 0) rfl) (pv 1) set_list))
      (pss_one (ps_ret pe_int))), ?_⟩
    have refused : c.line a = none → Q (.int (-2)) H := fun e => by
      have ha : act c (.drop a) = (c, Km367.only (-2)) := Bs.act_drop_none e
      have := k H (by rw [ha]; exact hc) (fun b o e _ => e)
      rw [ha] at this
      exact this
    refine ⟨_, rfl, _, _, rfl, rfl, _, rfl, ite2 (fun h1 => iteT (refused ?_)) fun h1 => ?_⟩
    · have h24 : (24 : Int) ≤ a := of_decide_eq_true h1
      cases e : c.line a with
      | none => rfl
      | some x => have := Bs.line_lt g e; omega
    have hlt : a < 24 := by
      have : ¬ (24 : Int) ≤ a := fun z => h1 (decide_eq_true z)
      omega
    obtain ⟨o, ho⟩ : ∃ o, (tab c)[a]? = some o := ⟨_, List.getElem?_eq_getElem (by rw [Bs.tab_length g]; exact hlt)⟩
    obtain ⟨v, hv, hvr⟩ := paired_get hrows ho
    refine ⟨_, rfl, p, C, dx, _, _, rfl, hp, T.cl, T.nL, bf_lines l, _, rfl, l, vs, _, v, rfl, rfl, SqL.of hl, atI_nat hv, rfl, _, rfl, ite2 (fun h2 => refused ?_) fun h2 => ?_⟩
    · have hn : v = .non := of_decide_eq_true h2
      subst hn
      cases o with
      | none => exact (Bs.tab_none g hlt).mp ho
      | some q => obtain ⟨t, e, _⟩ := hvr; cases e
    have hsome : ∃ x, c.line a = some x := by
      cases e : c.line a with
      | some x => exact ⟨x, rfl⟩
      | none =>
        have := (Bs.tab_none g hlt).mpr e
        rw [ho] at this
        cases this
        exact absurd (decide_eq_true (show v = .non from hvr)) h2
    obtain ⟨x, hx⟩ := hsome
    have hact : act c (.drop a) = (⟨c.lines.set a none⟩, Km367.only 0) := Bs.act_drop_some hx
    refine ⟨_, rfl, p, C, dx, _, _, rfl, hp, T.cl, T.nL, bf_lines l, _, rfl, l, vs, _, a, rfl, rfl, hl, ixN_nat (by omega), ?_⟩
    have hpl : p ≠ l := ne_of hp hl (by intro z; cases z)
    have key := k (upd H l (.lst (vs.set a .non))) ?_ (fun x o e hx => by rw [upd_ne hx]; exact e)
    · rw [hact] at key
      exact key
    · rw [hact]
      refine ⟨⟨dx, by rw [upd_ne hpl]; exact hp⟩, _, upd_same, ?_⟩
      rw [Bs.tab_set]
      have kt : ∀ b xs, H b = some (.tup xs) → upd H l (.lst (vs.set a .non)) b = some (.tup xs) := But.tups But.upd fun xs z => by rw [hl] at z; cases z
      exact paired_set (show RowV _ V.non none from rfl) a (rows_keep hrows kt)
end
end Bsp
end
section
set_option Elab.async false
set_option linter.all false
set_option maxRecDepth 100000
set_option maxHeartbeats 2000000
namespace Bsp
open PySem PySem.Spec PyProof.Rows L2
open PySem.W (Codec)
open Km367 (Cloth act)
open Bs (Good tab norm put lnsTo lns lined)
def iVs (l : List Nat) : List V := l.map fun (x : Nat) => V.int (x : Int)
theorem iVs_snoc (l : List Nat) (x : Nat) : iVs (l ++ [x]) = iVs l ++ [V.int (x : Int)] := by unfold iVs; rw [List.map_append]; rfl
theorem iVs_len (l : List Nat) : (iVs l).length = l.length := by unfold iVs; rw [List.length_map]
theorem iVs_get {l : List Nat} {i : Nat} {v : V} (h : (iVs l)[i]? = some v) : ∃ x : Nat, l[i]? = some x ∧ v = V.int (x : Int) := by
  unfold iVs at h
  rw [List.getElem?_map] at h
  cases e : l[i]? with
  | none => rw [e] at h; cases h
  | some x => rw [e] at h; exact ⟨x, rfl, (Option.some.inj h).symm⟩
theorem paired_getL {α β : Type} {F : α → β → Prop} : ∀ {l : List α} {m : List β} {i : Nat} {x : α}, Paired F l m → l[i]? = some x → ∃ y, m[i]? = some y ∧ F x y
  | _, _, _, _, .nil, h => by simp at h
  | _, _, 0, _, .cons r _, h => by simp at h; subst h; exact ⟨_, rfl, r⟩
  | _, _, i + 1, y, .cons _ t, h => by
    obtain ⟨x, h1, h2⟩ := paired_getL (i := i) (x := y) t (by simpa using h)
    exact ⟨x, by simpa using h1, h2⟩
/-! ### a dict of holes -/
def kvU (us : List (Nat × Addr)) : List (Key × V) := us.map fun p => (Sum.inl (p.1 : Int), V.ref p.2)
theorem inl_inj {a b : Nat} (h : (Sum.inl (a : Int) : Key) = Sum.inl (b : Int)) : a = b := by
  have := Sum.inl.inj h
  omega
theorem kvU_some : ∀ {us : List (Nat × Addr)}, (us.map (·.1)).Nodup → ∀ {u : Nat} {a : Addr}, (u, a) ∈ us → valV (kvU us) (Sum.inl (u : Int)) = some (.ref a)
  | [], _, _, _, h => nomatch h
  | p :: us, nd, u, a, h => by
    rw [List.map_cons, List.nodup_cons] at nd
    show valV ((Sum.inl (p.1 : Int), V.ref p.2) :: kvU us) _ = _
    rcases List.mem_cons.mp h with e | q
    · subst e; exact valV_pos rfl
    · have : ¬ (Sum.inl (p.1 : Int) : Key) = Sum.inl (u : Int) := fun z => nd.1 (by rw [inl_inj z]; exact List.mem_map.mpr ⟨(u, a), q, rfl⟩)
      rw [valV_neg this]
      exact kvU_some nd.2 q
theorem kvU_none : ∀ {us : List (Nat × Addr)} {u : Nat}, u ∉ us.map (·.1) → valV (kvU us) (Sum.inl (u : Int)) = none
  | [], _, _ => rfl
  | p :: us, u, h => by
    rw [List.map_cons, List.mem_cons, not_or] at h
    show valV ((Sum.inl (p.1 : Int), V.ref p.2) :: kvU us) _ = _
    rw [valV_neg (fun z => h.1 (inl_inj z).symm)]
    exact kvU_none h.2
/-- the dict at d, made behind H0, holds at each hole the list of its other ends -/
structure Oth (H0 H : Hp) (d : Addr) (us : List (Nat × Addr)) (N : Nat → List Nat) : Prop where
  same : Same H0 H
  dnew : H0 d = none
  dict : H d = some (.dK (kvU us))
  nk : (us.map (·.1)).Nodup
  na : (us.map (·.2)).Nodup
  at_ : ∀ u a, (u, a) ∈ us → H a = some (.lst (iVs (N u))) ∧ H0 a = none
  has : ∀ u, N u ≠ [] ↔ u ∈ us.map (·.1)
theorem mem_fst {us : List (Nat × Addr)} {u : Nat} (h : u ∈ us.map (·.1)) : ∃ a, (u, a) ∈ us := by
  obtain ⟨p, hp, e⟩ := List.mem_map.mp h
  exact ⟨p.2, by rw [← e]; exact hp⟩
theorem nd_snd {us : List (Nat × Addr)} (h : (us.map (·.2)).Nodup) {u v : Nat} {a : Addr} (h1 : (u, a) ∈ us) (h2 : (v, a) ∈ us) : u = v := by
  induction us with
  | nil => cases h1
  | cons p us ih =>
    rw [List.map_cons, List.nodup_cons] at h
    rcases List.mem_cons.mp h1 with e1 | q1
    · rcases List.mem_cons.mp h2 with e2 | q2
      · rw [← e1] at e2; exact (congrArg Prod.fst e2).symm
      · subst e1; exact absurd (List.mem_map.mpr ⟨(v, a), q2, rfl⟩) h.1
    · rcases List.mem_cons.mp h2 with e2 | q2
      · subst e2; exact absurd (List.mem_map.mpr ⟨(u, a), q1, rfl⟩) h.1
      · exact ih h.2 q1 q2
theorem nd_fst {us : List (Nat × Addr)} (h : (us.map (·.1)).Nodup) {u : Nat} {a b : Addr} (h1 : (u, a) ∈ us) (h2 : (u, b) ∈ us) : a = b := by
  induction us with
  | nil => cases h1
  | cons p us ih =>
    rw [List.map_cons, List.nodup_cons] at h
    rcases List.mem_cons.mp h1 with e1 | q1
    · rcases List.mem_cons.mp h2 with e2 | q2
      · rw [← e1] at e2; exact (congrArg Prod.snd e2).symm
      · subst e1; exact absurd (List.mem_map.mpr ⟨(u, b), q2, rfl⟩) h.1
    · rcases List.mem_cons.mp h2 with e2 | q2
      · subst e2; exact absurd (List.mem_map.mpr ⟨(u, a), q1, rfl⟩) h.1
      · exact ih h.2 q1 q2
section
variable {H0 H : Hp} {d : Addr} {us : List (Nat × Addr)} {N : Nat → List Nat} {u w : Nat} {a q : Addr}
theorem Oth.fresh {o : HO} (O : Oth H0 H d us N) (hq : H q = none) : Oth H0 (upd H q o) d us N where
  same := fun b x e => by rw [upd_ne (ne_of_none (O.same b x e) hq)]; exact O.same b x e
  dnew := O.dnew
  dict := by rw [upd_ne (ne_of_none O.dict hq)]; exact O.dict
  nk := O.nk
  na := O.na
  at_ := fun v b h => by
    obtain ⟨h1, h2⟩ := O.at_ v b h
    exact ⟨by rw [upd_ne (ne_of_none h1 hq)]; exact h1, h2⟩
  has := O.has
theorem Oth.grow (O : Oth H0 H d us N) (hm : (u, a) ∈ us) : Oth H0 (upd H a (.lst (iVs (N u) ++ [.int (w : Int)]))) d us (put N u w) := by
  obtain ⟨ha, ha0⟩ := O.at_ u a hm
  have hda : d ≠ a := ne_of O.dict ha (by intro z; cases z)
  refine ⟨fun b x e => ?_, O.dnew, by rw [upd_ne hda]; exact O.dict, O.nk, O.na, fun v b h => ?_, fun v => ?_⟩
  · rw [upd_ne (ne_of_none e ha0)]; exact O.same b x e
  · obtain ⟨h1, h2⟩ := O.at_ v b h
    refine ⟨?_, h2⟩
    unfold put
    by_cases e : v = u
    · subst e
      have := nd_fst O.nk h hm
      subst this
      rw [upd_same, if_pos rfl, iVs_snoc]
    · have hb : b ≠ a := fun z => by subst z; exact e (nd_snd O.na h hm)
      rw [upd_ne hb, if_neg e]; exact h1
  · unfold put
    by_cases e : v = u
    · subst e
      rw [if_pos rfl]
      exact ⟨fun _ => List.mem_map.mpr ⟨(v, a), hm, rfl⟩, fun _ => by simp⟩
    · rw [if_neg e]; exact O.has v
theorem Oth.new (O : Oth H0 H d us N) (hu : u ∉ us.map (·.1)) (hq : H q = some (.lst [])) (hq0 : H0 q = none) (hqu : q ∉ us.map (·.2)) :
    Oth H0 (upd (upd H d (.dK (putK (kvU us) (Sum.inl (u : Int)) (.ref q)))) q (.lst [.int (w : Int)])) d (us ++ [(u, q)]) (put N u w) := by
  have hdq : d ≠ q := ne_of O.dict hq (by intro z; cases z)
  have hN : N u = [] := by
    cases e : N u with
    | nil => rfl
    | cons x r => exact absurd ((O.has u).mp (by rw [e]; simp)) hu
  refine ⟨fun b x e => ?_, O.dnew, ?_, ?_, ?_, fun v b h => ?_, fun v => ?_⟩
  · rw [upd_ne (ne_of_none e hq0), upd_ne (ne_of_none e O.dnew)]; exact O.same b x e
  · rw [upd_ne hdq, upd_same, putK_new _ (kvU_none hu)]
    unfold kvU
    rw [List.map_append]; rfl
  · rw [List.map_append]; exact nd_snoc O.nk hu
  · rw [List.map_append]; exact nd_snoc O.na hqu
  · unfold put
    rcases List.mem_append.mp h with h' | h'
    · clear h
      have h := h'
      obtain ⟨h1, h2⟩ := O.at_ v b h
      have hv : v ≠ u := fun z => hu (z ▸ List.mem_map.mpr ⟨(v, b), h, rfl⟩)
      have hb : b ≠ q := fun z => hqu (z ▸ List.mem_map.mpr ⟨(v, b), h, rfl⟩)
      have hbd : b ≠ d := ne_of h1 O.dict (by intro z; cases z)
      rw [upd_ne hb, upd_ne hbd, if_neg hv]
      exact ⟨h1, h2⟩
    · simp only [List.mem_singleton, Prod.mk.injEq] at h'
      obtain ⟨rfl, rfl⟩ := h'
      rw [upd_same, if_pos rfl, hN]
      exact ⟨rfl, hq0⟩
  · unfold put
    rw [List.map_append, List.mem_append]
    by_cases e : v = u
    · subst e
      rw [if_pos rfl]
      exact ⟨fun _ => .inr (by simp), fun _ => by simp⟩
    · rw [if_neg e, O.has v]
      constructor
      · exact .inl
      · rintro (z | z)
        · exact z
        · simp at z; exact absurd z e
/-- numbers.setdefault(ends[i], []).append(number) -/
theorem read_put {K : PySem.W.Frag} {D : Ends} {σ : L2.St} {t : Addr} {xs : List V} {i : Int} (hσ1 : σ[1]? = some (some (.ref d))) (hσ2 : σ[2]? = some (some (.int (w : Int)))) (hσ3 : σ[3]? = some (some (.ref t))) (ht : H t = some (.tup xs)) (hi : atI xs i = some (.int (u : Int)))
    (O : Oth H0 H d us N) (hlen : us.length < 1000) (hN : (N u).length < 1000) (nx : ∀ H' us', Oth H0 H' d us' (put N u w) → us'.length ≤ us.length + 1 → H' t = some (.tup xs) → D.nx σ H') :
    tDrop (tBM K "list" rAppend (tBM K "dict" rSetdef (tVar 1) (tCons (tOp (rIxT K) (tVar 3) (tC (.int i))) (tCons (tLst tNil) tNil))) (tCons (tVar 2) tNil)) D σ H := by
  have h1000 : 1000 < sizeLine := by decide
  refine ⟨_, hσ1, .inr (.inr (.inl ⟨rfl, .inl ⟨_, O.dict⟩⟩)), _, hσ3, t, xs, i, _, rfl, rfl, SqT.of ht, hi, Nat.zero_le _, fun q hq => ?_⟩
  have O1 : Oth H0 (upd H q (.lst [])) d us N := O.fresh hq
  have hq0 : H0 q = none := O.same.free hq
  have ht1 : (upd H q (.lst [])) t = some (.tup xs) := by rw [upd_ne (ne_of_none ht hq)]; exact ht
  refine ⟨d, kvU us, Sum.inl (u : Int), .ref q, rfl, rfl, O1.dict, (by unfold kvU; rw [List.length_map]; omega), fun v hv => ?_, fun hn => ?_⟩
  · by_cases hu : u ∈ us.map (·.1)
    · obtain ⟨a, ha⟩ := mem_fst hu
      rw [kvU_some O.nk ha] at hv
      cases hv
      obtain ⟨h1, h2⟩ := O1.at_ u a ha
      have hat : t ≠ a := ne_of ht1 h1 (by intro z; cases z)
      refine ⟨.inl ⟨rfl, _, SqL.of h1⟩, _, hσ2, a, _, _, rfl, rfl, h1, (by rw [iVs_len]; omega), ?_⟩
      exact nx _ us (O1.grow ha) (by omega) (by rw [upd_ne hat]; exact ht1)
    · rw [kvU_none hu] at hv; cases hv
  · have hu : u ∉ us.map (·.1) := fun z => by
      obtain ⟨a, ha⟩ := mem_fst z
      rw [kvU_some O.nk ha] at hn; cases hn
    have hqd : q ≠ d := fun z => by subst z; rw [O.dict] at hq; cases hq
    have hdt : t ≠ d := ne_of ht O.dict (by intro z; cases z)
    have hqt : t ≠ q := ne_of_none ht hq
    have e2 : (upd (upd H q (.lst [])) d (.dK (putK (kvU us) (Sum.inl (u : Int)) (.ref q)))) q = some (.lst []) := by rw [upd_ne hqd, upd_same]
    refine ⟨.inl ⟨rfl, _, SqL.of e2⟩, _, hσ2, q, [], _, rfl, rfl, e2, Nat.zero_lt_of_lt h1000, ?_⟩
    refine nx _ (us ++ [(u, q)]) (O1.new hu upd_same hq0 fun z => ?_) (by simp) (by rw [upd_ne hqt, upd_ne hdt]; exact ht1)
    obtain ⟨p, hp, e⟩ := List.mem_map.mp z
    have := (O.at_ p.1 p.2 hp).1
    rw [e, hq] at this; cases this
end
def spAtHoles : Sp := fun vs H Q _ => ∃ (l : Addr) (c : Cloth), vs = [.ref l] ∧ LinesAt H l (tab c) ∧ Good c ∧ ∀ (H' : Hp) (d : Addr) (us : List (Nat × Addr)), Oth H H' d us (lns c) → us.length ≤ 48 → Q (.ref d) H'
section
variable {P : Program} {w : World} {K : PySem.W.Frag} {mg : Str → Option Value} {base : Heap}
theorem scO : FnScope ["lines", "numbers", "number", "ends"] ["lines"] (defScope sAtHoles) := ⟨rfl, rfl, rfl, by decide +kernel, rfl, by decide +kernel, by decide +kernel⟩
theorem ok_atHoles {f C : Addr} {fd : FuncData} (F : Fun K "lines_at_holes" "lines_at_holes" sAtHoles f fd) (T : Txt K mg C) : FnOk P w K mg base CX0 1 f fd ["lines"] spAtHoles := by
  refine F.ok scO (fun vs H Q E h => ?_) (fun cdv A outer s H vs Q E hr h => ?_)
  · obtain ⟨l, c, rfl, _⟩ := h
    rfl
  · obtain ⟨l, c, rfl, ⟨vs, hl, hrows⟩, g, k⟩ := h
    have hvl : vs.length = 24 := by rw [paired_len hrows]; exact Bs.tab_length g
    refine ⟨_, pss_cons (ps_set (i := 1) scO.nd rfl (Or.inl rfl) pe_dnewK)
      (pss_cons (ps_for PassesOwn.never rfl (pi_enum rfl T.enumerate (pa_cons (pv 0) pa_nil)) (pg_tup (n := 2) rfl (pgs_cons (pg_name (i := 2) scO.nd rfl (Or.inl rfl)) (pgs_cons (pg_name (i := 3) scO.nd rfl (Or.inl rfl)) pgs_nil)))
        (pss_one (ps_if (pt_cmpR op_notN (pv 3) pe_non (nomark _))
          (pss_cons (ps_expr (pe_bm PySem.F.plainAttrs_list PySem.F.slot_list_append PySem.F.type_list_append mt_append
              (pe_bm PySem.F.plainAttrs_dict PySem.F.slot_dict_setdefault PySem.F.type_dict_setdefault mt_setdef (pv 1) (pa_cons (pe_ix ix_tup (pv 3) pe_int (fun _ _ => rfl)) (pa_cons (pe_lst pa_nil) pa_nil)))
              (pa_cons (pv 2) pa_nil)))
            (pss_one (ps_expr (pe_bm PySem.F.plainAttrs_list PySem.F.slot_list_append PySem.F.type_list_append mt_append
              (pe_bm PySem.F.plainAttrs_dict PySem.F.slot_dict_setdefault PySem.F.type_dict_setdefault mt_setdef (pv 1) (pa_cons (pe_ix ix_tup (pv 3) pe_int (fun _ _ => rfl)) (pa_cons (pe_lst pa_nil) pa_nil)))
              (pa_cons (pv 2) pa_nil)))))
          pss_nil)))
      (pss_one (ps_ret (pv 1)))), ?_⟩
    intro d hd
    have s1 : Same H (upd H d (.dK [])) := fun b o e => by rw [upd_ne (ne_of_none e hd)]; exact e
    refine ⟨_, rfl, l, vs, rfl, SqL.of (s1 _ _ hl), for_enum (K := K) (a := l) (xs := vs) (fun i σ H' => ∃ (e2 e3 : Option V) (us : List (Nat × Addr)), σ = [some (.ref l), some (.ref d), e2, e3] ∧ Oth H H' d us (lnsTo c i) ∧ us.length ≤ 2 * i)
      ⟨none, none, [], rfl, ⟨s1, hd, upd_same, List.nodup_nil, List.nodup_nil, (fun _ _ h => nomatch h), fun u => by simp [Bs.lns_zero]⟩, Nat.le_refl _⟩ (fun i σ H' _ ⟨_, _, _, _, O, _⟩ => SqL.of (O.same _ _ hl)) ?_ ?_⟩
    · rintro i x σ H' tt hi ⟨e2, e3, us, rfl, O, hlen⟩ htt
      obtain ⟨o, ho, ro⟩ := paired_getL hrows hi
      have hi24 : i < 24 := by have := (List.getElem?_eq_some_iff.mp hi).1; omega
      have O0 := O.fresh (o := .tup [.int ((i : Nat) : Int), x]) htt
      have et : (upd H' tt (.tup [.int ((i : Nat) : Int), x])) tt = some (.tup [.int ((i : Nat) : Int), x]) := upd_same
      generalize upd H' tt (.tup [.int ((i : Nat) : Int), x]) = H1 at O0 et ⊢
      refine ⟨tt, _, rfl, SqT.of et, rfl, _, _, rfl, _, _, rfl, rfl, ?_⟩
      cases o with
      | none =>
        have : x = .non := ro
        subst this
        refine ⟨_, rfl, rfl, _, rfl, iteNS rfl ?_⟩
        refine ⟨_, _, us, rfl, ?_, by omega⟩
        rw [Bs.lns_none g ho]; exact O0
      | some p =>
        obtain ⟨t, rfl, ht⟩ := ro
        have ht' := O0.same _ _ ht
        have hlt := Bs.tab_lt g ho
        refine ⟨_, rfl, rfl, _, rfl, ite2 (fun _ => ?_) (fun z => absurd (by simp) z)⟩
        have n1 := Bs.lns_len c i p.1
        have n2 := Bs.lns_len c i p.2
        refine read_put (H0 := H) (H := H1) (us := us) (N := lnsTo c i) (u := p.1) (w := i) (t := t) (xs := [.int (p.1 : Int), .int (p.2 : Int)]) rfl rfl rfl ht' (atI_nat (j := 0) rfl) O0 (by omega) (by omega) fun H2 us2 O2 l2 ht2 => ?_
        refine read_put (H0 := H) (H := H2) (us := us2) (u := p.2) (w := i) (t := t) (xs := [.int (p.1 : Int), .int (p.2 : Int)]) rfl rfl rfl ht2 (atI_nat (j := 1) rfl) O2 (by omega) ?_ fun H3 us3 O3 l3 ht3 => ?_
        · unfold put
          rw [if_neg (by omega)]; omega
        · refine ⟨_, _, us3, rfl, ?_, by omega⟩
          rw [Bs.lns_some g ho]; exact O3
    · rintro σ H' ⟨e2, e3, us, rfl, O, hlen⟩
      refine ⟨_, rfl, ?_⟩
      rw [hvl] at O hlen
      exact k H' d us O hlen
end
end Bsp
end
section
set_option Elab.async false
set_option linter.all false
set_option maxRecDepth 100000
set_option maxHeartbeats 2000000
namespace Bsp
open PySem PySem.Spec PyProof.Rows L2
open PySem.W (Codec)
open Km367 (Cloth act)
open Bs (Good tab norm put lnsTo lns lined Reach Mach)
/-! ### a dict of True -/
def kvT (R : List Nat) : List (Key × V) := R.map fun (x : Nat) => (Sum.inl (x : Int), V.bl true)
theorem kvT_in : ∀ {R : List Nat} {x : Nat}, x ∈ R → valV (kvT R) (Sum.inl (x : Int)) = some (.bl true)
  | [], _, h => nomatch h
  | y :: R, x, h => by
    show valV ((Sum.inl (y : Int), V.bl true) :: kvT R) _ = _
    by_cases e : y = x
    · subst e; exact valV_pos rfl
    · rw [valV_neg (fun z => e (inl_inj z))]
      rcases List.mem_cons.mp h with q | q
      · exact absurd q.symm e
      · exact kvT_in q
theorem kvT_out : ∀ {R : List Nat} {x : Nat}, x ∉ R → valV (kvT R) (Sum.inl (x : Int)) = none
  | [], _, _ => rfl
  | y :: R, x, h => by
    rw [List.mem_cons, not_or] at h
    show valV ((Sum.inl (y : Int), V.bl true) :: kvT R) _ = _
    rw [valV_neg (fun z => h.1 (inl_inj z).symm)]
    exact kvT_out h.2
theorem kvT_put {R : List Nat} {x : Nat} (h : x ∉ R) : putK (kvT R) (Sum.inl (x : Int)) (.bl true) = kvT (R ++ [x]) := by
  rw [putK_new _ (kvT_out h)]
  unfold kvT
  rw [List.map_append]; rfl
theorem kvT_len (R : List Nat) : (kvT R).length = R.length := by unfold kvT; rw [List.length_map]
theorem merge_in {x : Nat} : ∀ (R : List Nat) (kvs : List (Key × V)), (valV (mergeK kvs (kvT R)) (Sum.inl (x : Int))).isSome = true ↔ (valV kvs (Sum.inl (x : Int))).isSome = true ∨ x ∈ R
  | [], kvs => by simp [kvT, mergeK]
  | y :: R, kvs => by
    show (valV (mergeK (putK kvs (Sum.inl (y : Int)) (.bl true)) (kvT R)) (Sum.inl (x : Int))).isSome = true ↔ _
    rw [merge_in R, valV_put]
    by_cases e : x = y
    · subst e; simp
    · have : ¬ (Sum.inl (x : Int) : Key) = Sum.inl (y : Int) := fun z => e (inl_inj z)
      rw [if_neg this]; simp [e]
/-! ### lists of iVs as data -/
def dInts (l : List Nat) : List PyData := l.map fun (x : Nat) => PyData.int (x : Int)
theorem dp_ints {K : PySem.W.Frag} {H : Hp} : ∀ l : List Nat, DpAll K H (iVs l) (dInts l)
  | [] => .nil
  | x :: l => .cons (.int _) (dp_ints l)
theorem lay_ints : ∀ l : List Nat, PyData.canLayAll0 (dInts l) = true
  | [] => rfl
  | x :: l => by
    show (true && PyData.canLayAll0 (dInts l)) = true
    rw [lay_ints l]; rfl
theorem depth_ints : ∀ l : List Nat, PyData.depthAll (dInts l) ≤ 1
  | [] => by decide
  | x :: l => by
    show max _ (PyData.depthAll (dInts l)) ≤ 1
    exact Nat.max_le.mpr ⟨Nat.le_of_ble_eq_true rfl, depth_ints l⟩
theorem shaped_ints (l : List Nat) : SeqAt.shaped (.list (dInts l)) = true := by
  unfold SeqAt.shaped
  rw [Bool.and_eq_true]
  refine ⟨lay_ints l, decide_eq_true ?_⟩
  have h1 := depth_ints l
  have h2 : (PyData.list (dInts l)).depth = PyData.depthAll (dInts l) + 1 := rfl
  omega
theorem eqv_nil_ne {l : List Nat} {x : Nat} : PyData.eqv (.list (dInts (l ++ [x]))) (.list []) = false := by
  cases l <;> rfl
def spOther : Sp := fun vs H Q _ => ∃ (t : Addr) (a b h : Nat), vs = [.ref t, .int (h : Int)] ∧ H t = some (tupN (a, b)) ∧ Q (.int ((if a = h then b else a : Nat) : Int)) H
def spFirst : Sp := fun vs H Q _ => ∃ (a d : Addr) (L G : List Nat), vs = [.ref a, .ref d] ∧ H a = some (.lst (iVs L)) ∧ H d = some (.dK (kvT G)) ∧
  ((∀ x ∈ L, x ∈ G) → Q .non H) ∧ ∀ pre k post, L = pre ++ k :: post → (∀ x ∈ pre, x ∈ G) → k ∉ G → Q (.int (k : Int)) H
def spWay : Sp := fun vs H Q _ => ∃ (H0 : Hp) (l d : Addr) (us : List (Nat × Addr)) (c : Cloth) (b : Nat), vs = [.ref l, .ref d, .int (b : Int)] ∧ LinesAt H l (tab c) ∧ Oth H0 H d us (lns c) ∧ Good c ∧ b ∈ lined c ∧
  ∀ (H' : Hp) (q : Addr), H q = none → H' q = some (.lst (iVs (c.way b).holes.reverse)) → (∀ x, x ∈ (c.way b).holes ↔ x ∈ (c.way b).been) → Same H H' → Q (.ref q) H'
theorem split_at {L : List Nat} {i k : Nat} (h : L[i]? = some k) : L = L.take i ++ k :: L.drop (i + 1) := by
  have hl := (List.getElem?_eq_some_iff.mp h)
  obtain ⟨h1, h2⟩ := hl
  rw [← h2, List.getElem_cons_drop, List.take_append_drop]
theorem last_at {l : List Nat} {x : Nat} : atI (iVs (l ++ [x])) (-1) = some (V.int (x : Int)) := by
  unfold atI ixN
  rw [iVs_len, iVs_snoc]
  simp only [List.length_append, List.length_singleton]
  rw [if_neg (by omega), if_pos (by omega)]
  have e : ((-1 : Int) + ((l.length + 1 : Nat) : Int)).toNat = (iVs l).length := by rw [iVs_len]; omega
  rw [e]
  show (iVs l ++ [V.int (x : Int)])[(iVs l).length]? = _
  rw [List.getElem?_append_right (Nat.le_refl _)]
  simp
theorem cut_last_nil : cutV (iVs []) (some (-1)) none = [] := rfl
theorem cut_last {l : List Nat} {x : Nat} : cutV (iVs (l ++ [x])) (some (-1)) none = [V.int (x : Int)] := by
  unfold cutV
  have e1 : HT.sIx (iVs (l ++ [x])).length 0 (some (-1)) = (iVs l).length := by
    show (if (-1 : Int) < 0 then ((-1 : Int) + ((iVs (l ++ [x])).length : Int)).toNat else min (-1 : Int).toNat (iVs (l ++ [x])).length) = _
    rw [if_pos (by omega), iVs_len, iVs_len, List.length_append, List.length_singleton]
    omega
  rw [e1, HT.sIx_none, iVs_snoc, List.drop_left, List.length_append, List.length_singleton, show (iVs l).length + 1 - (iVs l).length = 1 by omega]
  rfl
section
variable {P : Program} {w : World} {K : PySem.W.Frag} {mg : Str → Option Value} {base : Heap}
theorem scOe : FnScope ["ends", "here"] ["ends", "here"] (defScope sOther) := ⟨rfl, rfl, rfl, by decide +kernel, rfl, by decide +kernel, by decide +kernel⟩
theorem ok_other {f : Addr} {fd : FuncData} (F : Fun K "other_end" "other_end" sOther f fd) : FnOk P w K mg base CX0 1 f fd ["ends", "here"] spOther := by
  refine F.ok scOe (fun vs H Q E h => ?_) (fun cdv A outer s H vs Q E hr h => ?_)
  · obtain ⟨t, a, b, h, rfl, _⟩ := h
    rfl
  · obtain ⟨t, a, b, h, rfl, ht, k⟩ := h
    refine ⟨_, pss_one (ps_ret (pe_ifExp (pt_cmpR op_eq (pe_ix ix_tup (pv 0) pe_int (fun _ _ => rfl)) (pv 1) (nomark _)) (pe_ix ix_tup (pv 0) pe_int (fun _ _ => rfl)) (pe_ix ix_tup (pv 0) pe_int (fun _ _ => rfl)))), ?_⟩
    refine ⟨_, rfl, t, _, _, _, rfl, rfl, SqT.of ht, atI_nat (j := 0) rfl, _, rfl, rfl, _, rfl, ite2 (fun h1 => ?_) fun h1 => ?_⟩
    · have e : a = h := by have := of_decide_eq_true h1; injection this with q; omega
      rw [if_pos e] at k
      exact ⟨_, rfl, t, _, _, _, rfl, rfl, SqT.of ht, atI_nat (j := 1) rfl, k⟩
    · have e : ¬ a = h := fun z => h1 (decide_eq_true (by rw [z]))
      rw [if_neg e] at k
      exact ⟨_, rfl, t, _, _, _, rfl, rfl, SqT.of ht, atI_nat (j := 0) rfl, k⟩
theorem scF : FnScope ["numbers", "gone", "number"] ["numbers", "gone"] (defScope sFirst) := ⟨rfl, rfl, rfl, by decide +kernel, rfl, by decide +kernel, by decide +kernel⟩
theorem ok_first {f : Addr} {fd : FuncData} (F : Fun K "first_not_gone" "first_not_gone" sFirst f fd) : FnOk P w K mg base CX0 1 f fd ["numbers", "gone"] spFirst := by
  refine F.ok scF (fun vs H Q E h => ?_) (fun cdv A outer s H vs Q E hr h => ?_)
  · obtain ⟨a, d, L, G, rfl, _⟩ := h
    rfl
  · obtain ⟨a, d, L, G, rfl, ha, hd, k0, k1⟩ := h
    have hu1 := hu_of hr
    refine ⟨_, pss_cons (ps_for PassesOwn.never rfl (pi_list (pv 0)) (pg_name (i := 2) scF.nd rfl (Or.inl rfl))
        (pss_one (ps_if (pt_cmp (pc_dnotin hu1 (pv 2) (pv 1))) (pss_one (ps_ret (pv 2))) pss_nil)))
      (pss_one (ps_ret pe_non)), ?_⟩
    refine ⟨_, rfl, a, rfl, ⟨_, SqL.of ha⟩, for_list (K := K) (a := a) (xs := iVs L) (fun i σ H' => ∃ e : Option V, σ = [some (.ref a), some (.ref d), e] ∧ H' = H ∧ ∀ x ∈ L.take i, x ∈ G)
      ⟨none, rfl, rfl, fun x hx => by simp at hx⟩ (fun i σ H' _ ⟨_, _, e, _⟩ => by rw [e]; exact SqL.of ha) ?_ ?_⟩
    · rintro i x σ H' hi ⟨e, rfl, rfl, hp⟩
      obtain ⟨y, hy, rfl⟩ := iVs_get hi
      refine ⟨_, rfl, _, rfl, d, _, rfl, .inl ⟨kvT G, Sum.inl (y : Int), .inl hd, rfl, rfl⟩, _, rfl, ?_⟩
      by_cases hyG : y ∈ G
      · rw [kvT_in hyG]
        refine iteF ⟨_, rfl, rfl, fun z hz => ?_⟩
        rw [Bs.take_snoc hy] at hz
        rcases List.mem_append.mp hz with q | q
        · exact hp z q
        · rw [List.mem_singleton.mp q]; exact hyG
      · rw [kvT_out hyG]
        exact iteT ⟨_, rfl, k1 _ _ _ (split_at hy) hp hyG⟩
    · rintro σ H' ⟨e, rfl, rfl, hp⟩
      rw [iVs_len, List.take_length] at hp
      exact k0 hp
theorem scW : FnScope ["lines", "at_holes", "beginning", "way", "been", "gone", "undone", "here", "number", "there"] ["lines", "at_holes", "beginning"] (defScope sWay) := ⟨rfl, rfl, rfl, by decide +kernel, rfl, by decide +kernel, by decide +kernel⟩
theorem ok_way {f fF fE : Addr} {fd fdF fdE : FuncData} (F : Fun K "thread_way" "thread_way" sWay f fd) (FF : Fun K "first_not_gone" "first_not_gone" sFirst fF fdF) (bF : Binds K fdF ["numbers", "gone"] []) (mF : mg "first_not_gone" = some (.ref fF))
    (FE : Fun K "other_end" "other_end" sOther fE fdE) (bE : Binds K fdE ["ends", "here"] []) (mE : mg "other_end" = some (.ref fE)) : FnOk P w K mg base CX0 2 f fd ["lines", "at_holes", "beginning"] spWay := by
  have GF : FnOk P w K mg base CX0 1 fF fdF ["numbers", "gone"] spFirst := ok_first FF
  have GE : FnOk P w K mg base CX0 1 fE fdE ["ends", "here"] spOther := ok_other FE
  refine F.ok scW (fun vs H Q E h => ?_) (fun cdv A outer s H vs Q E hr h => ?_)
  · obtain ⟨H0, l, d, us, c, b, rfl, _⟩ := h
    rfl
  · obtain ⟨H0, l, d, us, c, b, rfl, L, O, g, hb, k⟩ := h
    have hu := hu64 hr
    have hu1 := hu_of hr
    have h1000 : 1000 < sizeLine := by decide
    obtain ⟨lv, hlv, hrows⟩ := L
    refine ⟨_, pss_cons (ps_set (i := 3) scW.nd rfl (Or.inl rfl) (pe_lst (pa_cons (pv 2) pa_nil)))
      (pss_cons (ps_set (i := 4) scW.nd rfl (Or.inl rfl) (pe_disp (pps_cons (pv 2) pe_bl pps_nil) rfl rfl (List.cons_ne_nil _ _) (Nat.le_of_ble_eq_true rfl)))
      (pss_cons (ps_set (i := 5) scW.nd rfl (Or.inl rfl) pe_dnewK)
      (pss_cons (ps_set (i := 6) scW.nd rfl (Or.inl rfl) (pe_lst (pa_cons (pv 2) pa_nil)))
      (pss_cons (ps_while PassesOwn.never (pt_cmpR (op_neD hu) (pv 6) (pe_lst pa_nil) (nomark _))
        (pss_cons (ps_set (i := 7) scW.nd rfl (Or.inl rfl) (pe_ix ix_list (pv 6) (pe_un un_neg pe_int) (fun _ _ => rfl)))
        (pss_cons (ps_set (i := 8) scW.nd rfl (Or.inl rfl) (pe_call GF hr rfl mF FF.kp bF .nil pass0 (pa_cons (pe_dget hu1 (pv 1) (pv 7) (fun _ _ => rfl)) (pa_cons (pv 5) pa_nil))))
        (pss_one (ps_if (pt_cmpR op_isN (pv 8) pe_non (nomark _))
          (pss_cons (ps_expr (pe_bm0 PySem.F.plainAttrs_list PySem.F.slot_list_pop PySem.F.type_list_pop mt_pop (pv 6)))
          (pss_one (ps_expr (pe_bm PySem.F.plainAttrs_list PySem.F.slot_list_extend PySem.F.type_list_extend mt_extend (pv 3) (pa_cons (pe_slice sl_list (pv 6) (po_some (pe_un un_neg pe_int)) po_none) pa_nil)))))
          (pss_cons (ps_dput hu1 (pv 5) (pv 8) pe_bl rfl)
          (pss_cons (ps_set (i := 9) scW.nd rfl (Or.inl rfl) (pe_call GE hr rfl mE FE.kp bE .nil pass0 (pa_cons (pe_ix ix_list (pv 0) (pv 8) (fun _ _ => rfl)) (pa_cons (pv 7) pa_nil))))
          (pss_cons (ps_expr (pe_bm PySem.F.plainAttrs_list PySem.F.slot_list_append PySem.F.type_list_append mt_append (pv 3) (pa_cons (pv 9) pa_nil)))
          (pss_one (ps_if (pt_cmp (pc_din hu1 (pv 9) (pv 4)))
            (pss_one (ps_expr (pe_bm PySem.F.plainAttrs_list PySem.F.slot_list_append PySem.F.type_list_append mt_append (pv 3) (pa_cons (pv 7) pa_nil))))
            (pss_cons (ps_dput hu1 (pv 4) (pv 9) pe_bl rfl)
            (pss_one (ps_expr (pe_bm PySem.F.plainAttrs_list PySem.F.slot_list_append PySem.F.type_list_append mt_append (pv 6) (pa_cons (pv 9) pa_nil)))))))))))))))
      (pss_one (ps_ret (pv 3))))))), ?_⟩
    -- way = [beginning]
    refine ⟨_, rfl, (by show 1 ≤ sizeLine; decide), fun wy hwy => ?_⟩
    have s1 : Same H (upd H wy (.lst [.int (b : Int)])) := fun x o e => by rw [upd_ne (ne_of_none e hwy)]; exact e
    have ew : (upd H wy (.lst [.int (b : Int)])) wy = some (.lst (iVs [b])) := upd_same
    generalize upd H wy (.lst [.int (b : Int)]) = H1 at s1 ew ⊢
    -- been = {beginning: True}
    intro be hbe
    have hbe0 : H be = none := s1.free hbe
    have nwb : wy ≠ be := ne_of_none ew hbe
    refine ⟨_, rfl, upd_same, [(Sum.inl (b : Int), .bl true)], rfl, (by show 1 ≤ 15; decide), ?_⟩
    have s2 : Same H1 (upd (upd H1 be (.dK [])) be (.dK (mergeK [] [(Sum.inl (b : Int), .bl true)]))) := fun x o e => by
      rw [upd_ne (ne_of_none e hbe), upd_ne (ne_of_none e hbe)]; exact e
    have eb : (upd (upd H1 be (.dK [])) be (.dK (mergeK [] [(Sum.inl (b : Int), .bl true)]))) be = some (.dK (kvT [b])) := upd_same
    generalize upd (upd H1 be (.dK [])) be (.dK (mergeK [] [(Sum.inl (b : Int), .bl true)])) = H2 at s2 eb ⊢
    have ew := s2 _ _ ew
    have s2 := s1.trans s2
    clear s1
    -- gone = {}
    intro go hgo
    have hgo0 : H go = none := s2.free hgo
    have nwg : wy ≠ go := ne_of_none ew hgo
    have nbg : be ≠ go := ne_of_none eb hgo
    have s3 : Same H2 (upd H2 go (.dK [])) := fun x o e => by rw [upd_ne (ne_of_none e hgo)]; exact e
    have eg : (upd H2 go (.dK [])) go = some (.dK (kvT [])) := upd_same
    generalize upd H2 go (.dK []) = H3 at s3 eg ⊢
    have ew := s3 _ _ ew
    have eb := s3 _ _ eb
    have s3 := s2.trans s3
    clear s2
    -- undone = [beginning]
    refine ⟨_, rfl, (by show 1 ≤ sizeLine; decide), fun un hun => ?_⟩
    have hun0 : H un = none := s3.free hun
    have nwu : wy ≠ un := ne_of_none ew hun
    have nbu : be ≠ un := ne_of_none eb hun
    have ngu : go ≠ un := ne_of_none eg hun
    have s4 : Same H3 (upd H3 un (.lst [.int (b : Int)])) := fun x o e => by rw [upd_ne (ne_of_none e hun)]; exact e
    have eu : (upd H3 un (.lst [.int (b : Int)])) un = some (.lst (iVs [b])) := upd_same
    generalize upd H3 un (.lst [.int (b : Int)]) = H4 at s4 eu ⊢
    have ew := s4 _ _ ew
    have eb := s4 _ _ eb
    have eg := s4 _ _ eg
    have s4 := s3.trans s4
    clear s3
    -- while undone != []
    refine ⟨fun m σ H' => ∃ (e7 e8 e9 : Option V) (st : List Nat) (s : Km367.Way), σ = [some (.ref l), some (.ref d), some (.int (b : Int)), some (.ref wy), some (.ref be), some (.ref go), some (.ref un), e7, e8, e9] ∧ H' wy = some (.lst (iVs s.holes.reverse)) ∧ H' be = some (.dK (kvT s.been.reverse)) ∧
        H' go = some (.dK (kvT s.gone.reverse)) ∧ H' un = some (.lst (iVs st.reverse)) ∧ Same H H' ∧ Mach c b st s ∧ m = 2 * (24 - s.gone.length) + st.length,
      ⟨_, none, none, none, [b], ⟨[b], [], [b]⟩, rfl, ew, eb, eg, eu, s4, Mach.start c b, rfl⟩, ?_⟩
    rintro m σ H1 ⟨e7, e8, e9, st, s, rfl, ew, eb, eg, eu, s1, M, rfl⟩
    obtain ⟨f1, f2, f3⟩ := M.few
    refine ⟨_, rfl, Nat.zero_le _, fun z hz => ?_⟩
    have sz : Same H1 (upd H1 z (.lst [])) := fun x o e => by rw [upd_ne (ne_of_none e hz)]; exact e
    have ez : (upd H1 z (.lst [])) z = some (.lst []) := upd_same
    generalize upd H1 z (.lst []) = H2 at sz ez ⊢
    have ew := sz _ _ ew
    have eb := sz _ _ eb
    have eg := sz _ _ eg
    have eu := sz _ _ eu
    have s2 := s1.trans sz
    clear s1 sz
    refine ⟨.list (dInts st.reverse), .list [], .lst (SqL.of eu) (dp_ints _), .lst (SqL.of ez) .nil, shaped_ints _, shaped_ints [], _, rfl, ?_⟩
    cases st with
    | nil =>
      refine iteF ⟨_, rfl, ?_⟩
      have e := M.last
      refine k H2 wy hwy ?_ (Bs.way_holes M) s2
      rw [← e]; exact ew
    | cons u r =>
      rw [List.reverse_cons] at eu ⊢
      rw [eqv_nil_ne]
      refine iteT ⟨_, fun _ _ h => h, ?_⟩
      -- here = undone[-1]
      refine ⟨_, rfl, _, rfl, un, _, _, _, rfl, rfl, SqL.of eu, last_at, ?_⟩
      have hub : u ∈ s.been := M.sub u (by simp)
      have hul : u ∈ lined c := Bs.reach_lined g hb (M.reach u hub)
      obtain ⟨a, ha⟩ := mem_fst ((O.has u).mp ((Bs.lns_lined g).mpr hul))
      have haH := (O.at_ u a ha).1
      -- number = first_not_gone(at_holes[here], gone)
      refine ⟨_, rfl, _, rfl, d, .ref a, rfl, .inl ⟨kvU us, Sum.inl (u : Int), .inl (s2 _ _ O.dict), rfl, (kvU_some O.nk ha).symm⟩, _, rfl, a, go, lns c u, s.gone.reverse, rfl, s2 _ _ haH, eg, fun hall => ?_, fun pre n post hpre hin hnot => ?_⟩
      · -- all of them are gone along: back
        have hall' : ∀ k w, c.far k u = some w → k ∈ s.gone := fun j y hj => List.mem_reverse.mp (hall j ((Bs.mem_lns g).mpr ⟨y, hj⟩))
        refine ⟨_, rfl, rfl, _, rfl, ite2 (fun _ => ?_) (fun z => absurd (decide_eq_true rfl) z)⟩
        -- undone.pop()
        refine ⟨_, rfl, .inl ⟨rfl, _, SqL.of eu⟩, un, _, .int (u : Int), rfl, rfl, eu, ?_, ?_⟩
        · rw [iVs_snoc]; simp
        have hdl : (iVs (r.reverse ++ [u])).dropLast = iVs r.reverse := by rw [iVs_snoc, List.dropLast_concat]
        rw [hdl]
        have s3 : Same H (upd H2 un (.lst (iVs r.reverse))) := fun x o e => by rw [upd_ne (ne_of_none e hun0)]; exact s2 _ _ e
        have ew3 : (upd H2 un (.lst (iVs r.reverse))) wy = _ := (upd_ne nwu).trans ew
        have eb3 : (upd H2 un (.lst (iVs r.reverse))) be = _ := (upd_ne nbu).trans eb
        have eg3 : (upd H2 un (.lst (iVs r.reverse))) go = _ := (upd_ne ngu).trans eg
        have eu3 : (upd H2 un (.lst (iVs r.reverse))) un = some (.lst (iVs r.reverse)) := upd_same
        generalize upd H2 un (.lst (iVs r.reverse)) = H3 at s3 ew3 eb3 eg3 eu3 ⊢
        -- way.extend(undone[-1:])
        refine ⟨_, rfl, .inl ⟨rfl, _, SqL.of ew3⟩, _, rfl, _, rfl, _, rfl, un, _, rfl, SqL.of eu3, fun z2 hz2 => ?_⟩
        have s4 : Same H3 (upd H3 z2 (.lst (cutV (iVs r.reverse) (some (-1)) none))) := fun x o e => by rw [upd_ne (ne_of_none e hz2)]; exact e
        have ez4 : (upd H3 z2 (.lst (cutV (iVs r.reverse) (some (-1)) none))) z2 = some (.lst (cutV (iVs r.reverse) (some (-1)) none)) := upd_same
        have nwz : wy ≠ z2 := ne_of_none ew3 hz2
        have hcl : (cutV (iVs r.reverse) (some (-1)) none).length ≤ 50 := by
          have h1 := cutV_length (iVs r.reverse) (some (-1)) none
          rw [iVs_len, List.length_reverse] at h1
          simp only [List.length_cons] at f2
          omega
        show _
        generalize hcv : cutV (iVs r.reverse) (some (-1)) none = cv at s4 ez4 hcl ⊢
        generalize upd H3 z2 (.lst cv) = H4 at s4 ez4 ⊢
        refine ⟨wy, z2, _, _, rfl, rfl, s4 _ _ ew3, ez4, (by rw [iVs_len, List.length_reverse]; omega), ?_⟩
        have ew5 : (upd H4 wy (.lst (iVs s.holes.reverse ++ cv))) wy = some (.lst (iVs s.holes.reverse ++ cv)) := upd_same
        have eb5 : (upd H4 wy (.lst (iVs s.holes.reverse ++ cv))) be = _ := (upd_ne nwb.symm).trans (s4 _ _ eb3)
        have eg5 : (upd H4 wy (.lst (iVs s.holes.reverse ++ cv))) go = _ := (upd_ne nwg.symm).trans (s4 _ _ eg3)
        have eu5 : (upd H4 wy (.lst (iVs s.holes.reverse ++ cv))) un = _ := (upd_ne nwu.symm).trans (s4 _ _ eu3)
        have s5 : Same H (upd H4 wy (.lst (iVs s.holes.reverse ++ cv))) := fun x o e => by rw [upd_ne (ne_of_none e hwy)]; exact s4 _ _ (s3 _ _ e)
        cases r with
        | nil =>
          have hcv : cv = [] := by rw [← hcv]; rfl
          subst hcv
          rw [List.append_nil] at ew5 eb5 eg5 eu5 s5 ⊢
          exact ⟨_, (by simp only [List.length_cons, List.length_nil]; omega), _, _, _, [], s, rfl, ew5, eb5, eg5, eu5, s5, M.out hall', rfl⟩
        | cons v r =>
          have hcv : cv = [.int (v : Int)] := by rw [← hcv, List.reverse_cons]; exact cut_last
          subst hcv
          refine ⟨_, (by simp only [List.length_cons]; omega), _, _, _, v :: r, ⟨s.been, s.gone, v :: s.holes⟩, rfl, ?_, eb5, eg5, eu5, s5, M.back hall', rfl⟩
          rw [ew5, List.reverse_cons, iVs_snoc]
      · -- along the line n
        have hnot' : n ∉ s.gone := fun z => hnot (List.mem_reverse.mpr z)
        obtain ⟨⟨x, hx⟩, h1⟩ := Bs.first_ok g hpre (G := s.gone) fun y hy => List.mem_reverse.mp (hin y hy)
        have hn24 := (Bs.far_lt g hx).1
        have hux := (Bs.far_lt g hx).2.2.2
        refine ⟨_, rfl, rfl, _, rfl, ite2 (fun z => absurd (of_decide_eq_true z) (by intro q; cases q)) fun _ => ?_⟩
        -- gone[number] = True
        refine ⟨_, rfl, _, rfl, go, _, rfl, .inl ⟨kvT s.gone.reverse, Sum.inl (n : Int), eg, rfl, (by rw [kvT_len, List.length_reverse]; omega), rfl⟩, ?_⟩
        rw [kvT_put hnot]
        have s3 : Same H (upd H2 go (.dK (kvT (s.gone.reverse ++ [n])))) := fun x o e => by rw [upd_ne (ne_of_none e hgo0)]; exact s2 _ _ e
        have ew3 : (upd H2 go (.dK (kvT (s.gone.reverse ++ [n])))) wy = _ := (upd_ne nwg).trans ew
        have eb3 : (upd H2 go (.dK (kvT (s.gone.reverse ++ [n])))) be = _ := (upd_ne nbg).trans eb
        have eg3 : (upd H2 go (.dK (kvT (s.gone.reverse ++ [n])))) go = some (.dK (kvT (n :: s.gone).reverse)) := by rw [upd_same, List.reverse_cons]
        have eu3 : (upd H2 go (.dK (kvT (s.gone.reverse ++ [n])))) un = _ := (upd_ne ngu.symm).trans eu
        generalize upd H2 go (.dK (kvT (s.gone.reverse ++ [n]))) = H3 at s3 ew3 eb3 eg3 eu3 ⊢
        -- there = other_end(lines[number], here)
        have htab := (Bs.far_tab g).mp hx
        obtain ⟨v, hv, t, rfl, ht⟩ := paired_get hrows htab
        refine ⟨_, rfl, _, rfl, l, lv, _, _, rfl, rfl, SqL.of (s3 _ _ hlv), atI_nat hv, _, rfl, t, (norm u x).1, (norm u x).2, u, rfl, s3 _ _ ht, ?_⟩
        have ex : (if (norm u x).1 = u then (norm u x).2 else (norm u x).1) = x := by
          unfold norm
          simp only
          split <;> omega
        rw [ex]
        -- way.append(there)
        refine ⟨_, rfl, .inl ⟨rfl, _, SqL.of ew3⟩, _, rfl, wy, _, _, rfl, rfl, ew3, (by rw [iVs_len, List.length_reverse]; omega), ?_⟩
        have s4 : Same H (upd H3 wy (.lst (iVs s.holes.reverse ++ [.int (x : Int)]))) := fun y o e => by rw [upd_ne (ne_of_none e hwy)]; exact s3 _ _ e
        have ew4 : (upd H3 wy (.lst (iVs s.holes.reverse ++ [.int (x : Int)]))) wy = some (.lst (iVs (x :: s.holes).reverse)) := by rw [upd_same, List.reverse_cons, iVs_snoc]
        have eb4 : (upd H3 wy (.lst (iVs s.holes.reverse ++ [.int (x : Int)]))) be = _ := (upd_ne nwb.symm).trans eb3
        have eg4 : (upd H3 wy (.lst (iVs s.holes.reverse ++ [.int (x : Int)]))) go = _ := (upd_ne nwg.symm).trans eg3
        have eu4 : (upd H3 wy (.lst (iVs s.holes.reverse ++ [.int (x : Int)]))) un = _ := (upd_ne nwu.symm).trans eu3
        generalize upd H3 wy (.lst (iVs s.holes.reverse ++ [.int (x : Int)])) = H4 at s4 ew4 eb4 eg4 eu4 ⊢
        -- if there in been
        refine ⟨_, rfl, _, rfl, be, _, rfl, .inl ⟨kvT s.been.reverse, Sum.inl (x : Int), .inl eb4, rfl, rfl⟩, _, rfl, ?_⟩
        by_cases hxb : x ∈ s.been
        · rw [kvT_in (List.mem_reverse.mpr hxb)]
          refine iteT ?_
          have M5 := M.old g hnot' hx h1 hxb
          refine ⟨_, rfl, .inl ⟨rfl, _, SqL.of ew4⟩, _, rfl, wy, _, _, rfl, rfl, ew4, (by rw [iVs_len, List.length_reverse]; simp only [List.length_cons]; omega), ?_⟩
          have f4 := M5.few.2.2
          simp only [List.length_cons] at f4
          refine ⟨_, ?_, _, _, _, u :: r, ⟨s.been, n :: s.gone, u :: x :: s.holes⟩, rfl, ?_, ?_, ?_, ?_, ?_, M5, rfl⟩
          · simp only [List.length_cons]; omega
          · rw [upd_same, List.reverse_cons (a := u), iVs_snoc]
          · exact (upd_ne nwb.symm).trans eb4
          · exact (upd_ne nwg.symm).trans eg4
          · rw [List.reverse_cons (a := u) (as := r)]; exact (upd_ne nwu.symm).trans eu4
          · intro y o e; rw [upd_ne (ne_of_none e hwy)]; exact s4 _ _ e
        · rw [kvT_out (fun z => hxb (List.mem_reverse.mp z))]
          refine iteF ?_
          have M5 := M.new g hnot' hx h1 hxb
          have f4 := M5.few
          simp only [List.length_cons] at f4
          have fb : s.been.length ≤ 64 := by
            have := M.ok.bnd.length_le_of_subset (l₂ := List.range 64) fun y hy => List.mem_range.mpr (Bs.reach_lt g (Bs.lined_lt hb) (M.reach y hy))
            simpa using this
          -- been[there] = True
          refine ⟨_, rfl, _, rfl, be, _, rfl, .inl ⟨kvT s.been.reverse, Sum.inl (x : Int), eb4, rfl, (by rw [kvT_len, List.length_reverse]; omega), rfl⟩, ?_⟩
          rw [kvT_put (fun z => hxb (List.mem_reverse.mp z))]
          have s5 : Same H (upd H4 be (.dK (kvT (s.been.reverse ++ [x])))) := fun y o e => by rw [upd_ne (ne_of_none e hbe0)]; exact s4 _ _ e
          have ew5 : (upd H4 be (.dK (kvT (s.been.reverse ++ [x])))) wy = _ := (upd_ne nwb).trans ew4
          have eb5 : (upd H4 be (.dK (kvT (s.been.reverse ++ [x])))) be = some (.dK (kvT (x :: s.been).reverse)) := by rw [upd_same, List.reverse_cons]
          have eg5 : (upd H4 be (.dK (kvT (s.been.reverse ++ [x])))) go = _ := (upd_ne nbg.symm).trans eg4
          have eu5 : (upd H4 be (.dK (kvT (s.been.reverse ++ [x])))) un = _ := (upd_ne nbu.symm).trans eu4
          generalize upd H4 be (.dK (kvT (s.been.reverse ++ [x]))) = H5 at s5 ew5 eb5 eg5 eu5 ⊢
          -- undone.append(there)
          refine ⟨_, rfl, .inl ⟨rfl, _, SqL.of eu5⟩, _, rfl, un, _, _, rfl, rfl, eu5, (by rw [iVs_len]; simp only [List.length_append, List.length_reverse, List.length_singleton]; omega), ?_⟩
          refine ⟨_, ?_, _, _, _, x :: u :: r, ⟨x :: s.been, n :: s.gone, x :: s.holes⟩, rfl, ?_, ?_, ?_, ?_, ?_, M5, rfl⟩
          · simp only [List.length_cons]; omega
          · exact (upd_ne nwu).trans ew5
          · exact (upd_ne nbu).trans eb5
          · exact (upd_ne ngu).trans eg5
          · rw [upd_same, List.reverse_cons (a := x), List.reverse_cons (a := u)]; simp only [iVs_snoc]
          · intro y o e; rw [upd_ne (ne_of_none e hun0)]; exact s5 _ _ e
end
end Bsp
end
section
set_option Elab.async false
set_option linter.all false
set_option maxRecDepth 100000
set_option maxHeartbeats 2000000
namespace Bsp
open PySem PySem.Spec PyProof.Rows L2
open PySem.W (Codec)
open Km367 (Cloth act)
open Bs (Good tab norm put lnsTo lns lined Reach stStep)
section
variable {H0 H H' : Hp} {d : Addr} {us : List (Nat × Addr)} {N : Nat → List Nat} {u w : Nat} {a q : Addr}
theorem Oth.later (O : Oth H0 H d us N) (s : Same H H') : Oth H0 H' d us N :=
  ⟨O.same.trans s, O.dnew, s _ _ O.dict, O.nk, O.na, fun v b h => ⟨s _ _ (O.at_ v b h).1, (O.at_ v b h).2⟩, O.has⟩
/-- an object that is neither the old heap's nor the dict's is written -/
theorem Oth.write {o : HO} (O : Oth H0 H d us N) (h0 : H0 q = none) (hd : q ≠ d) (hu : q ∉ us.map (·.2)) : Oth H0 (upd H q o) d us N :=
  ⟨fun b x e => by rw [upd_ne (ne_of_none e h0)]; exact O.same b x e, O.dnew, by rw [upd_ne (fun z => hd z.symm)]; exact O.dict, O.nk, O.na,
    fun v b h => ⟨by
      have hb : b ≠ q := fun z => hu (z ▸ List.mem_map.mpr ⟨(v, b), h, rfl⟩)
      rw [upd_ne hb]; exact (O.at_ v b h).1, (O.at_ v b h).2⟩, O.has⟩
theorem Oth.notin (O : Oth H0 H d us N) (h : H q = none) : q ∉ us.map (·.2) := fun z => by
  obtain ⟨p, hp, e⟩ := List.mem_map.mp z
  have := (O.at_ p.1 p.2 hp).1
  rw [e, h] at this; cases this
end
theorem sorted_lined {c : Cloth} (g : Good c) {us : List (Nat × Addr)} (nk : (us.map (·.1)).Nodup) (has : ∀ u, lns c u ≠ [] ↔ u ∈ us.map (·.1)) {ns : List Int} (hp : ns.Perm (us.map fun p => (p.1 : Int))) (hs : ns.Pairwise (· ≤ ·)) :
    ns = (lined c).map fun (x : Nat) => (x : Int) := by
  have hinj : ∀ {l : List Nat}, l.Nodup → (l.map fun (x : Nat) => (x : Int)).Nodup := fun {l} h =>
    List.Pairwise.map _ (fun a b hab => by intro z; exact hab (by omega)) h
  have e : (us.map fun p => (p.1 : Int)) = (us.map (·.1)).map fun (x : Nat) => (x : Int) := by rw [List.map_map]; rfl
  have h1 : ns.Nodup := (hp.nodup_iff).mpr (by rw [e]; exact hinj nk)
  have h2 : ((lined c).map fun (x : Nat) => (x : Int)).Nodup := hinj (Bs.lined_nodup c)
  refine List.Perm.eq_of_pairwise (le := (· ≤ ·)) (fun a b _ _ h h' => Int.le_antisymm h h') hs (List.Pairwise.map _ (fun a b hab => by have : a < b := hab; omega) (Bs.lined_sorted c)) ?_
  rw [List.perm_ext_iff_of_nodup h1 h2]
  intro x
  rw [hp.mem_iff, e, List.mem_map, List.mem_map]
  constructor
  · rintro ⟨y, hy, rfl⟩
    exact ⟨y, (Bs.lns_lined g).mp ((has y).mpr hy), rfl⟩
  · rintro ⟨y, hy, rfl⟩
    exact ⟨y, (has y).mp ((Bs.lns_lined g).mpr hy), rfl⟩
/-- lists that hold the ways of the threads that begin at us -/
def WaysAt (c : Cloth) (H : Hp) (rs : List Addr) (us : List Nat) : Prop := Paired (fun r u => H r = some (.lst (iVs (c.way u).holes.reverse))) rs us
theorem WaysAt.keep {c : Cloth} {H H' : Hp} {rs : List Addr} {us : List Nat} (h : WaysAt c H rs us) (k : ∀ b xs, H b = some (.lst xs) → b ∈ rs → H' b = some (.lst xs)) : WaysAt c H' rs us := by
  unfold WaysAt at h ⊢
  induction h with
  | nil => exact .nil
  | cons r t ih => exact .cons (k _ _ r List.mem_cons_self) (ih fun b xs e hb => k b xs e (List.mem_cons_of_mem _ hb))
theorem WaysAt.snoc {c : Cloth} {H : Hp} {rs : List Addr} {us : List Nat} {r u} (h : WaysAt c H rs us) (e : H r = some (.lst (iVs (c.way u).holes.reverse))) : WaysAt c H (rs ++ [r]) (us ++ [u]) := by
  unfold WaysAt at h ⊢
  induction h with
  | nil => exact .cons e .nil
  | cons q t ih => exact .cons q ih
theorem WaysAt.ne {c : Cloth} {H : Hp} {rs : List Addr} {us : List Nat} (h : WaysAt c H rs us) {q : Addr} (hq : ∀ xs, H q ≠ some (.lst xs)) : q ∉ rs := by
  unfold WaysAt at h
  induction h with
  | nil => simp
  | cons r t ih =>
    rw [List.mem_cons, not_or]
    exact ⟨fun z => hq _ (z ▸ r), ih⟩
def spWays : Sp := fun vs H Q _ => ∃ (l : Addr) (c : Cloth), vs = [.ref l] ∧ LinesAt H l (tab c) ∧ Good c ∧ ∀ (H' : Hp) (q : Addr) (rs : List Addr), H q = none → H' q = some (.lst (rs.map V.ref)) → WaysAt c H' rs c.starts → Same H H' → Q (.ref q) H'
def spThreads (C : Addr) : Sp := fun vs H Q _ => ∃ (p l : Addr) (c : Cloth), vs = [.ref p] ∧ ClothAt C H p l (tab c) ∧ Good c ∧ ∀ (H' : Hp), Same H H' → Q (.int (c.starts.length : Nat)) H'
theorem starts_len {c : Cloth} (g : Good c) : c.starts.length ≤ 48 := by
  rw [Bs.starts_lined g]
  have : ∀ (l : List Nat) (s : List Nat × List Nat), (l.foldl (stStep c) s).1.length ≤ s.1.length + l.length := by
    intro l
    induction l with
    | nil => intro s; exact Nat.le_refl _
    | cons x l ih =>
      intro s
      rw [List.foldl_cons]
      have h1 := ih (stStep c s x)
      have h2 : (stStep c s x).1.length ≤ s.1.length + 1 := by
        unfold stStep
        split
        · omega
        · simp
      simp only [List.length_cons]
      omega
  have h1 := this (lined c) ([], [])
  have h2 := Bs.lined_length g
  simp at h1
  omega
theorem valV_isSome {kvs : List (Key × V)} {x y : Nat} : (valV (putK kvs (Sum.inl (y : Int)) (.bl true)) (Sum.inl (x : Int))).isSome = true ↔ (valV kvs (Sum.inl (x : Int))).isSome = true ∨ x = y := by
  rw [valV_put]
  by_cases e : x = y
  · subst e; simp
  · have : ¬ (Sum.inl (x : Int) : Key) = Sum.inl (y : Int) := fun z => e (inl_inj z)
    rw [if_neg this]; simp [e]
section
variable {P : Program} {w : World} {K : PySem.W.Frag} {mg : Str → Option Value} {base : Heap}
theorem scB : FnScope ["lines", "at_holes", "been", "ways", "hole", "way", "reached"] ["lines"] (defScope sWays) := ⟨rfl, rfl, rfl, by decide +kernel, rfl, by decide +kernel, by decide +kernel⟩
theorem ok_ways {f fO fH C : Addr} {fd fdO fdH : FuncData} (F : Fun K "thread_ways" "thread_ways" sWays f fd) (T : Txt K mg C) (FO : Fun K "lines_at_holes" "lines_at_holes" sAtHoles fO fdO) (bO : Binds K fdO ["lines"] []) (mO : mg "lines_at_holes" = some (.ref fO))
    (FH : Fun K "thread_way" "thread_way" sWay fH fdH) (bH : Binds K fdH ["lines", "at_holes", "beginning"] []) (mH : mg "thread_way" = some (.ref fH)) (GH : FnOk P w K mg base CX0 2 fH fdH ["lines", "at_holes", "beginning"] spWay) : FnOk P w K mg base CX0 3 f fd ["lines"] spWays := by
  have GO : FnOk P w K mg base CX0 1 fO fdO ["lines"] spAtHoles := ok_atHoles FO T
  refine F.ok scB (fun vs H Q E h => ?_) (fun cdv A outer s H vs Q E hr h => ?_)
  · obtain ⟨l, c, rfl, _⟩ := h
    rfl
  · obtain ⟨l, c, rfl, L, g, k⟩ := h
    have hu1 := hu_of hr
    have hr1 : Room 1 _ := hr.mono (by decide)
    have h1000 : 10000 < sizeLine := by decide
    refine ⟨_, pss_cons (ps_set (i := 1) scB.nd rfl (Or.inl rfl) (pe_call GO hr1 rfl mO FO.kp bO .nil pass0 (pa_cons (pv 0) pa_nil)))
      (pss_cons (ps_set (i := 2) scB.nd rfl (Or.inl rfl) pe_dnewK)
      (pss_cons (ps_set (i := 3) scB.nd rfl (Or.inl rfl) (pe_lst pa_nil))
      (pss_cons (ps_for PassesOwn.never rfl (pi_list (pe_callB (cr_sortedD rfl) (by rfl) T.sorted boot_sorted (pa_cons (pv 1) pa_nil))) (pg_name (i := 4) scB.nd rfl (Or.inl rfl))
        (pss_one (ps_if (pt_cmp (pc_dnotin hu1 (pv 4) (pv 2)))
          (pss_cons (ps_set (i := 5) scB.nd rfl (Or.inl rfl) (pe_call GH hr rfl mH FH.kp bH .nil pass0 (pa_cons (pv 0) (pa_cons (pv 1) (pa_cons (pv 4) pa_nil)))))
          (pss_cons (ps_expr (pe_bm PySem.F.plainAttrs_list PySem.F.slot_list_append PySem.F.type_list_append mt_append (pv 3) (pa_cons (pv 5) pa_nil)))
          (pss_one (ps_for PassesOwn.never rfl (pi_list (pv 5)) (pg_name (i := 6) scB.nd rfl (Or.inl rfl))
            (pss_one (ps_dput hu1 (pv 2) (pv 6) pe_bl rfl))))))
          pss_nil)))
      (pss_one (ps_ret (pv 3)))))), ?_⟩
    refine ⟨_, rfl, l, c, rfl, L, g, fun H1 d us O hus => ?_⟩
    intro r hr1
    have O2 := O.fresh (o := .dK []) hr1
    refine ⟨Nat.zero_le _, fun q hq => ?_⟩
    have hqr : q ≠ r := fun z => by subst z; rw [upd_same] at hq; cases hq
    have O3 := O2.fresh (o := .lst []) hq
    have hr0 : H r = none := O.same.free hr1
    have hq0 : H q = none := O2.same.free hq
    have hrd : r ≠ d := fun z => by subst z; rw [O.dict] at hr1; cases hr1
    have hqd : q ≠ d := fun z => by subst z; rw [O2.dict] at hq; cases hq
    have hru := O.notin hr1
    have hqu := O2.notin hq
    have eR : (upd (upd H1 r (.dK [])) q (.lst [])) r = some (.dK []) := by rw [upd_ne (fun z => hqr z.symm), upd_same]
    have eQ : (upd (upd H1 r (.dK [])) q (.lst [])) q = some (.lst []) := upd_same
    generalize upd (upd H1 r (.dK [])) q (.lst []) = H3 at O3 eR eQ ⊢
    refine ⟨_, rfl, d, kvU us, us.map fun p => (p.1 : Int), rfl, O3.dict, (by unfold kvU; rw [List.map_map, List.map_map]; rfl), (by rw [List.length_map]; omega), fun ns p hperm hsort hp => ?_⟩
    have hns := sorted_lined g O.nk O.has hperm hsort
    have hxs : ns.map V.int = iVs (lined c) := by rw [hns]; unfold iVs; rw [List.map_map]; rfl
    rw [hxs]
    have hpr : p ≠ r := fun z => by subst z; rw [eR] at hp; cases hp
    have hpq : p ≠ q := fun z => by subst z; rw [eQ] at hp; cases hp
    refine ⟨p, rfl, ⟨_, SqL.of upd_same⟩, for_list (K := K) (a := p) (xs := iVs (lined c)) (fun i σ H' => ∃ (e4 e5 e6 : Option V) (kvs : List (Key × V)) (rs : List Addr), σ = [some (.ref l), some (.ref d), some (.ref r), some (.ref q), e4, e5, e6] ∧
        Oth H H' d us (lns c) ∧ H' p = some (.lst (iVs (lined c))) ∧ H' r = some (.dK kvs) ∧ kvs.length ≤ 64 * i ∧ (∀ x : Nat, (valV kvs (Sum.inl (x : Int))).isSome = true ↔ x ∈ (((lined c).take i).foldl (stStep c) ([], [])).2) ∧
        H' q = some (.lst (rs.map V.ref)) ∧ rs.length ≤ i ∧ q ∉ rs ∧ WaysAt c H' rs (((lined c).take i).foldl (stStep c) ([], [])).1)
      ⟨none, none, none, [], [], rfl, O3.fresh hp, upd_same, by rw [upd_ne (fun z => hpr z.symm)]; exact eR, Nat.le_refl _, by intro x; simp [valV], by rw [upd_ne (fun z => hpq z.symm)]; exact eQ, Nat.le_refl _, by simp, .nil⟩ (fun i σ H' _ ⟨_, _, _, _, _, _, _, h, _⟩ => SqL.of h) ?_ ?_⟩
    · rintro i x σ H' hi ⟨e4, e5, e6, kvs, rs, rfl, O', hp', hr', hkl, hkey, hq', hrl, hqrs, hW⟩
      obtain ⟨b, hb, rfl⟩ := iVs_get hi
      have hbl : b ∈ lined c := List.mem_of_getElem? hb
      have hil : i < 48 := by have h1 := (List.getElem?_eq_some_iff.mp hb).1; have h2 := Bs.lined_length g; omega
      have htk : ((lined c).take (i + 1)).foldl (stStep c) ([], []) = stStep c (((lined c).take i).foldl (stStep c) ([], [])) b := by
        rw [Bs.take_snoc hb, List.foldl_append]; rfl
      rw [htk]
      generalize ((lined c).take i).foldl (stStep c) ([], []) = st at hkey hW ⊢
      refine ⟨_, rfl, _, rfl, r, _, rfl, .inl ⟨kvs, Sum.inl (b : Int), .inl hr', rfl, rfl⟩, _, rfl, ?_⟩
      by_cases hin : b ∈ st.2
      · rw [(hkey b).mpr hin]
        refine iteF ?_
        rw [Bs.stStep_old hin]
        exact ⟨_, _, _, kvs, rs, rfl, O', hp', hr', by omega, hkey, hq', by omega, hqrs, hW⟩
      · have hno : (valV kvs (Sum.inl (b : Int))).isSome = false := by
          cases e : (valV kvs (Sum.inl (b : Int))).isSome with
          | false => rfl
          | true => exact absurd ((hkey b).mp e) hin
        rw [hno]
        refine iteT ?_
        rw [Bs.stStep_new hin]
        -- way = thread_way(lines, at_holes, hole)
        refine ⟨_, rfl, _, rfl, _, rfl, H, l, d, us, c, b, rfl, L.keep O'.same, O', g, hbl, fun H4 wy hwy0 hwy hhs s4 => ?_⟩
        have hq4 := s4 _ _ hq'
        have hqw : q ≠ wy := ne_of_none hq' hwy0
        have hpw : p ≠ wy := ne_of_none hp' hwy0
        -- ways.append(way)
        refine ⟨_, rfl, .inl ⟨rfl, _, SqL.of hq4⟩, _, rfl, q, _, _, rfl, rfl, hq4, (by rw [List.length_map]; omega), ?_⟩
        have O5 := (O'.later s4).write (o := .lst (rs.map V.ref ++ [.ref wy])) hq0 hqd hqu
        have b5 : But q H4 (upd H4 q (.lst (rs.map V.ref ++ [.ref wy]))) := But.upd
        have hq5 : (upd H4 q (.lst (rs.map V.ref ++ [.ref wy]))) q = some (.lst ((rs ++ [wy]).map V.ref)) := by rw [upd_same, List.map_append]; rfl
        generalize upd H4 q (.lst (rs.map V.ref ++ [.ref wy])) = H5 at O5 b5 hq5 ⊢
        have hp5 := b5 _ _ (s4 _ _ hp') hpq
        have hr5 := b5 _ _ (s4 _ _ hr') (fun z => hqr z.symm)
        have hwy5 := b5 _ _ hwy (fun z => hqw z.symm)
        have hW5 : WaysAt c H5 (rs ++ [wy]) (st.1 ++ [b]) := (hW.keep fun x xs e hx => b5 _ _ (s4 _ _ e) (fun z => hqrs (z ▸ hx))).snoc hwy5
        have hqrs5 : q ∉ rs ++ [wy] := by
          rw [List.mem_append, not_or]
          exact ⟨hqrs, by simpa using hqw⟩
        have hrw : r ≠ wy := ne_of_none hr' hwy0
        have hrrs : r ∉ rs ++ [wy] := hW5.ne fun xs z => by rw [hr5] at z; cases z
        have hlen : (c.way b).holes.reverse.length ≤ 49 := by
          rw [List.length_reverse]
          have := Bs.way_length g b
          omega
        -- for reached in way: been[reached] = True
        refine ⟨_, rfl, wy, rfl, ⟨_, SqL.of hwy5⟩, for_list (K := K) (a := wy) (xs := iVs (c.way b).holes.reverse) (fun j σ H' => ∃ (e6 : Option V) (kvs' : List (Key × V)), σ = [some (.ref l), some (.ref d), some (.ref r), some (.ref q), some (.int (b : Int)), some (.ref wy), e6] ∧
            But r H5 H' ∧ H' r = some (.dK kvs') ∧ kvs'.length ≤ 64 * i + j ∧ ∀ x : Nat, (valV kvs' (Sum.inl (x : Int))).isSome = true ↔ x ∈ st.2 ∨ x ∈ (c.way b).holes.reverse.take j)
          ⟨_, kvs, rfl, (fun _ _ h _ => h), hr5, by omega, fun x => by rw [hkey x]; simp⟩ (fun j σ H' _ ⟨_, _, _, hbut, _⟩ => SqL.of (hbut _ _ hwy5 hrw.symm)) ?_ ?_⟩
        · rintro j x σ H6 hj ⟨e6, kvs', rfl, hbut, hr6, hkl6, hkey6⟩
          obtain ⟨y, hy, rfl⟩ := iVs_get hj
          have hj49 : j < 49 := by have := (List.getElem?_eq_some_iff.mp hy).1; omega
          refine ⟨_, rfl, _, rfl, r, _, rfl, .inl ⟨kvs', Sum.inl (y : Int), hr6, rfl, by omega, rfl⟩, ?_⟩
          have hpl := length_putK kvs' (Sum.inl (y : Int) : Key) (V.bl true)
          refine ⟨_, _, rfl, fun b' o e hb' => ?_, upd_same, by omega, fun x => ?_⟩
          · rw [upd_ne hb']; exact hbut _ _ e hb'
          · rw [valV_isSome, hkey6, Bs.take_snoc hy, List.mem_append, List.mem_singleton, or_assoc]
        · rintro σ H6 ⟨e6, kvs', rfl, hbut, hr6, hkl6, hkey6⟩
          rw [iVs_len] at hkl6 hkey6
          rw [List.take_length] at hkey6
          refine ⟨_, _, _, kvs', rs ++ [wy], rfl, ?_, hbut _ _ hp5 hpr, hr6, by omega, fun x => ?_, hbut _ _ hq5 hqr, by simp; omega, hqrs5, hW5.keep fun x xs e hx => hbut _ _ e fun z => hrrs (z ▸ hx)⟩
          · refine ⟨fun x o e => hbut _ _ (O5.same _ _ e) (ne_of_none e hr0), O5.dnew, hbut _ _ O5.dict (fun z => hrd z.symm), O5.nk, O5.na, fun v a' h => ⟨hbut _ _ (O5.at_ v a' h).1 fun z => hru (z ▸ List.mem_map.mpr ⟨(v, a'), h, rfl⟩), (O5.at_ v a' h).2⟩, O5.has⟩
          · rw [hkey6, List.mem_append, List.mem_reverse, hhs]
    · rintro σ H' ⟨e4, e5, e6, kvs, rs, rfl, O', hp', hr', hkl, hkey, hq', hrl, hqrs, hW⟩
      rw [iVs_len, List.take_length, ← Bs.starts_lined g] at hW
      exact ⟨_, rfl, k H' q rs hq0 hq' hW O'.same⟩
theorem scT : FnScope ["self"] ["self"] (defScope sThreads) := ⟨rfl, rfl, rfl, by decide +kernel, rfl, by decide +kernel, by decide +kernel⟩
theorem ok_threads {f fB C : Addr} {fd fdB : FuncData} (F : Fun K "sw_threads" "Cloth.sw_threads" sThreads f fd) (T : Txt K mg C) (FB : Fun K "thread_ways" "thread_ways" sWays fB fdB) (bB : Binds K fdB ["lines"] []) (mB : mg "thread_ways" = some (.ref fB))
    (GB : FnOk P w K mg base CX0 3 fB fdB ["lines"] spWays) : FnOk P w K mg base CX0 4 f fd ["self"] (spThreads C) := by
  refine F.ok scT (fun vs H Q E h => ?_) (fun cdv A outer s H vs Q E hr h => ?_)
  · obtain ⟨p, l, c, rfl, _⟩ := h
    rfl
  · obtain ⟨p, l, c, rfl, hc, g, k⟩ := h
    obtain ⟨dx, hp⟩ := hc.ins
    refine ⟨_, pss_one (ps_ret (pe_callB call_len_seq (by rfl) T.len PySem.boot_len (pa_cons (pe_call GB hr rfl mB FB.kp bB .nil pass0 (pa_cons (pe_fld (pv 0) rfl) pa_nil)) pa_nil))), ?_⟩
    refine ⟨_, rfl, p, C, dx, _, _, rfl, hp, T.cl, T.nL, bf_lines l, l, c, rfl, hc.lines, g, fun H' q rs hq hq' hW s1 => ?_⟩
    refine ⟨q, _, rfl, .inl (SqL.of hq'), ?_⟩
    have e : (rs.map V.ref).length = c.starts.length := by rw [List.length_map]; exact paired_len hW
    rw [e]
    exact k H' s1
end
end Bsp
end
section
set_option Elab.async false
set_option linter.all false
set_option maxRecDepth 100000
set_option maxHeartbeats 2000000
namespace Bsp
open PySem PySem.Spec PyProof.Rows L2
open PySem.W (Codec)
open Km367 (Cloth act)
open Bs (Good tab norm put lnsTo lns lined Reach stStep evs bitsOf numsTo)
def zV (l : List Int) : List V := l.map V.int
theorem zV_len (l : List Int) : (zV l).length = l.length := by unfold zV; rw [List.length_map]
theorem zV_app (l m : List Int) : zV (l ++ m) = zV l ++ zV m := by unfold zV; rw [List.map_append]
theorem zV_get {l : List Int} {i : Nat} {z : Int} (h : l[i]? = some z) : (zV l)[i]? = some (V.int z) := by unfold zV; rw [List.getElem?_map, h]; rfl
/-- the numbers that a call answers -/
abbrev toldA (c : Cloth) (x : Km367.Call) : List Int := Km367Neutral.told (act c x).2
theorem told_only (z : Int) : Km367Neutral.told (Km367.only z) = [z] := rfl
theorem told_len {c : Cloth} (g : Good c) (x : Km367.Call) : (toldA c x).length ≤ 50 := by
  have one : ∀ z : Int, (Km367Neutral.told (Km367.only z)).length ≤ 50 := fun z => by rw [told_only]; exact Nat.le_of_ble_eq_true rfl
  cases x with
  | start => exact one 0
  | line a b =>
    unfold toldA
    by_cases h : 64 ≤ a ∨ 64 ≤ b ∨ a = b
    · rw [Bs.act_line_bad h]; exact one _
    · have h' : a < 64 ∧ b < 64 ∧ a ≠ b := by omega
      cases e : c.between a b with
      | some k => rw [Bs.act_line_there h' (by rw [e]; rfl)]; exact one _
      | none =>
        cases e' : c.free with
        | none => rw [Bs.act_line_full h' e e']; exact one _
        | some k => rw [Bs.act_line_new h' e e']; exact one _
  | drop k =>
    unfold toldA
    cases e : c.line k with
    | none => rw [Bs.act_drop_none e]; exact one _
    | some l => rw [Bs.act_drop_some e]; exact one _
  | threads => exact one _
  | thread t =>
    unfold toldA act
    simp only
    cases e : c.thread t with
    | none => exact one _
    | some l =>
      have hl : l.length ≤ 49 := by
        unfold Cloth.thread at e
        cases e' : c.starts[t]? with
        | none => rw [e'] at e; cases e
        | some u =>
          rw [e'] at e
          have := Option.some.inj e
          rw [← this, List.length_reverse]
          have := Bs.way_length g u
          omega
      show ((_ : Int) :: Km367Neutral.nums _).length ≤ 50
      unfold Km367Neutral.nums Km367.MOST Km367.LINES
      rw [List.length_cons, List.length_map, List.length_append, List.length_replicate]
      omega
  | check l n =>
    unfold toldA act
    simp only
    split <;> exact one _
  | sides l n =>
    unfold toldA act
    simp only
    split
    · exact one _
    · show 3 ≤ 50; decide
section
theorem ClothAt.keep {C : Addr} {H H' : Hp} {p l : Addr} {T : List Row} (h : ClothAt C H p l T) (s : Same H H') : ClothAt C H' p l T := by
  obtain ⟨dx, hp⟩ := h.ins
  exact ⟨⟨dx, s _ _ hp⟩, h.lines.keep s⟩
theorem ClothAt.but {C : Addr} {H H' : Hp} {p l x : Addr} {T : List Row} (h : ClothAt C H p l T) (s : But x H H') (hp : p ≠ x) (hl : l ≠ x) (hx : ∀ xs, H x ≠ some (.tup xs)) : ClothAt C H' p l T := by
  obtain ⟨dx, e⟩ := h.ins
  exact ⟨⟨dx, s _ _ e hp⟩, h.lines.but s hl hx⟩
end
theorem iVs_zV (l : List Nat) : iVs l = zV (l.map fun (x : Nat) => (x : Int)) := by
  unfold iVs zV
  rw [List.map_map]; rfl
/-! ### every other one, by a slice -/
theorem evs_length {α : Type} : ∀ l : List α, (evs l).length = (l.length + 1) / 2
  | [] => by simp [evs]
  | [a] => by simp [evs]
  | a :: b :: r => by
    show (evs r).length + 1 = _
    rw [evs_length r]
    simp only [List.length_cons]; omega
theorem range_pick {α : Type} {l : List α} : ∀ n : Nat, n ≤ l.length → (List.range n).filterMap (fun j => l[j]?) = l.take n
  | 0, _ => rfl
  | n + 1, h => by
    have hx : l[n]? = some (l[n]'(by omega)) := List.getElem?_eq_getElem (by omega)
    rw [List.range_succ, List.filterMap_append, range_pick n (by omega), Bs.take_snoc hx]
    simp [hx]
theorem pick_evs {α : Type} {xs : List α} {js : List Nat} (o : Nat) (hj : js = (List.range (evs (xs.drop o)).length).map fun k => o + 2 * k) : js.filterMap (fun j => xs[j]?) = evs (xs.drop o) := by
  rw [hj, List.filterMap_map]
  have e : ((fun j => xs[j]?) ∘ fun k => o + 2 * k) = fun k => (evs (xs.drop o))[k]? := by
    funext k
    show xs[o + 2 * k]? = _
    rw [Bs.evs_get, List.getElem?_drop]
  rw [e, range_pick _ (Nat.le_refl _), List.take_length]
theorem pick_front (xs : List V) : pickV xs (some 0) none (some 2) = evs xs := by
  unfold pickV
  refine pick_evs (xs := xs) 0 ?_
  rw [List.drop_zero, evs_length]
  have e : sliceBounds (some 0) none (some 2) xs.length = (0, (xs.length : Int), 2) := by
    unfold sliceBounds
    simp
    omega
  rw [e]
  unfold sliceRange
  simp only
  rw [if_pos (by decide)]
  have ec : (if (0 : Int) < (xs.length : Int) then ((xs.length : Int) - 0 + 2 - 1) / 2 else 0).toNat = (xs.length + 1) / 2 := by
    split <;> omega
  rw [ec]
  refine List.map_congr_left fun k _ => ?_
  omega
theorem pick_back (xs : List V) : pickV xs (some 1) none (some 2) = evs xs.tail := by
  rw [← List.drop_one]
  unfold pickV
  refine pick_evs (xs := xs) 1 ?_
  rw [evs_length, List.length_drop]
  by_cases h0 : xs.length = 0
  · rw [h0]; rfl
  have e : sliceBounds (some 1) none (some 2) xs.length = (1, (xs.length : Int), 2) := by
    unfold sliceBounds
    simp
    omega
  rw [e]
  unfold sliceRange
  simp only
  rw [if_pos (by decide)]
  have ec : (if (1 : Int) < (xs.length : Int) then ((xs.length : Int) - 1 + 2 - 1) / 2 else 0).toNat = (xs.length - 1 + 1) / 2 := by
    split <;> omega
  rw [ec]
  refine List.map_congr_left fun k _ => ?_
  omega
theorem iVs_evs (l : List Nat) : evs (iVs l) = iVs (evs l) := Bs.evs_map _ l
theorem iVs_ods (l : List Nat) : evs (iVs l).tail = iVs (evs l.tail) := by
  have : (iVs l).tail = iVs l.tail := by unfold iVs; rw [List.map_tail]
  rw [this, iVs_evs]
theorem bitOr_nat (a b : Nat) : Builtin.bitOr (a : Int) (b : Int) = ((a ||| b : Nat) : Int) := by
  have e : ∀ n : Nat, Builtin.bitNot (Builtin.bitNot (n : Int)) = (n : Int) := fun n => by unfold Builtin.bitNot; omega
  have d : ∀ n : Nat, decide (0 ≤ Builtin.bitNot (n : Int)) = false := fun n => decide_eq_false (by unfold Builtin.bitNot; omega)
  unfold Builtin.bitOr Builtin.bitAnd
  rw [d, d]
  simp only
  rw [e, e, e]
  simp
/-! ### lists of ints, held against one another -/
def dI (l : List Int) : List PyData := l.map PyData.int
theorem dp_I {K : PySem.W.Frag} {H : Hp} : ∀ l : List Int, DpAll K H (zV l) (dI l)
  | [] => .nil
  | x :: l => .cons (.int _) (dp_I l)
theorem lay_I : ∀ l : List Int, PyData.canLayAll0 (dI l) = true
  | [] => rfl
  | x :: l => by
    show (true && PyData.canLayAll0 (dI l)) = true
    rw [lay_I l]; rfl
theorem depth_I : ∀ l : List Int, PyData.depthAll (dI l) ≤ 1
  | [] => by decide
  | x :: l => by
    show max _ (PyData.depthAll (dI l)) ≤ 1
    exact Nat.max_le.mpr ⟨Nat.le_of_ble_eq_true rfl, depth_I l⟩
theorem shaped_I (l : List Int) : SeqAt.shaped (.list (dI l)) = true := by
  unfold SeqAt.shaped
  rw [Bool.and_eq_true]
  refine ⟨lay_I l, decide_eq_true ?_⟩
  have h1 := depth_I l
  have h2 : (PyData.list (dI l)).depth = PyData.depthAll (dI l) + 1 := rfl
  omega
theorem eqv_I : ∀ l m : List Int, PyData.eqv (.list (dI l)) (.list (dI m)) = decide (l = m)
  | [], [] => rfl
  | [], _ :: _ => rfl
  | _ :: _, [] => rfl
  | x :: l, y :: m => by
    have ih := eqv_I l m
    have h : PyData.eqv (.list (dI (x :: l))) (.list (dI (y :: m))) = ((x == y) && PyData.eqv (.list (dI l)) (.list (dI m))) := by
      simp [dI, PyData.eqv, PyData.eqvAll]
    rw [h, ih, Bool.beq_eq_decide_eq]
    by_cases e : x = y <;> by_cases e' : l = m <;> simp [e, e']
theorem rep0 : ∀ n : Nat, (List.replicate n [V.int 0]).flatten = zV ((List.replicate n 0).map fun (x : Nat) => (x : Int))
  | 0 => rfl
  | n + 1 => by
    rw [List.replicate_succ, List.flatten_cons, rep0 n, List.replicate_succ]
    rfl
theorem thread_told (W : List Nat) : [V.int ((W.length : Nat) : Int)] ++ iVs W ++ (List.replicate (49 - W.length) [V.int 0]).flatten = zV (Km367Neutral.told ⟨((W.length : Nat) : Int), W ++ List.replicate (Km367.MOST - W.length) 0⟩) := by
  have e : Km367Neutral.told ⟨((W.length : Nat) : Int), W ++ List.replicate (Km367.MOST - W.length) 0⟩ = [((W.length : Nat) : Int)] ++ (W.map (fun (x : Nat) => (x : Int)) ++ (List.replicate (49 - W.length) 0).map fun (x : Nat) => (x : Int)) := by
    unfold Km367Neutral.told Km367Neutral.nums
    rw [List.map_append]
    rfl
  rw [e, rep0, iVs_zV, zV_app, zV_app, List.append_assoc]
  rfl
def spThread (C : Addr) : Sp := fun vs H Q _ => ∃ (p l : Addr) (t : Nat) (c : Cloth), vs = [.ref p, .int (t : Int)] ∧ ClothAt C H p l (tab c) ∧ Good c ∧ ∀ (H' : Hp) (r : Addr), H r = none → H' r = some (.lst (zV (toldA c (.thread t)))) → Same H H' → Q (.ref r) H'
def spSide (f : List Nat → List Nat) : Sp := fun vs H Q _ => ∃ (a : Addr) (ks : List Nat), vs = [.ref a] ∧ H a = some (.lst (iVs ks)) ∧ ks.length ≤ 100 ∧ ∀ (H' : Hp) (q : Addr), H q = none → H' q = some (.lst (iVs (f ks))) → Same H H' → Q (.ref q) H'
def spBits : Sp := fun vs H Q _ => ∃ (a : Addr) (ks : List Nat), vs = [.ref a] ∧ H a = some (.lst (iVs ks)) ∧ (∀ k ∈ ks, k < 24) ∧ Q (.int (bitsOf ks : Nat)) H
def spAlong : Sp := fun vs H Q _ => ∃ (l z : Addr) (c : Cloth) (row : List Nat), vs = [.ref l, .ref z] ∧ LinesAt H l (tab c) ∧ Good c ∧ H z = some (.lst (iVs row)) ∧ row.length ≤ 100 ∧
  (c.isWay row = false → ∀ H', Same H H' → Q .non H') ∧ ∀ (ks : List Nat) (H' : Hp) (q : Addr), c.isWay row = true → c.steps row = ks.map some → H q = none → H' q = some (.lst (iVs ks)) → Same H H' → Q (.ref q) H'
section
variable {P : Program} {w : World} {K : PySem.W.Frag} {mg : Str → Option Value} {base : Heap}
theorem scTh : FnScope ["self", "t", "ways", "way"] ["self", "t"] (defScope sThread) := ⟨rfl, rfl, rfl, by decide +kernel, rfl, by decide +kernel, by decide +kernel⟩
theorem ok_thread {f fB C : Addr} {fd fdB : FuncData} (F : Fun K "sw_thread" "Cloth.sw_thread" sThread f fd) (T : Txt K mg C) (FB : Fun K "thread_ways" "thread_ways" sWays fB fdB) (bB : Binds K fdB ["lines"] []) (mB : mg "thread_ways" = some (.ref fB))
    (GB : FnOk P w K mg base CX0 3 fB fdB ["lines"] spWays) : FnOk P w K mg base CX0 4 f fd ["self", "t"] (spThread C) := by
  refine F.ok scTh (fun vs H Q E h => ?_) (fun cdv A outer s H vs Q E hr h => ?_)
  · obtain ⟨p, l, t, c, rfl, _⟩ := h
    rfl
  · obtain ⟨p, l, t, c, rfl, hc, g, k⟩ := h
    obtain ⟨dx, hp⟩ := hc.ins
    obtain ⟨tN, eN⟩ := T.nosuch
    obtain ⟨tM, eM⟩ := T.mostH
    have h1000 : 1000 < sizeLine := by decide
    refine ⟨_, pss_cons (ps_set (i := 2) scTh.nd rfl (Or.inl rfl) (pe_call GB hr rfl mB FB.kp bB .nil pass0 (pa_cons (pe_fld (pv 0) rfl) pa_nil)))
      (pss_cons (ps_if (pt_cmpR op_ge (pv 1) (pe_callB call_len_seq (by rfl) T.len PySem.boot_len (pa_cons (pv 2) pa_nil)) (nomark _)) (pss_one (ps_ret (pe_lst (pa_cons (pe_glob (v := .int (-2)) rfl eN ⟨_, rfl⟩) pa_nil)))) pss_nil)
      (pss_cons (ps_set (i := 3) scTh.nd rfl (Or.inl rfl) (pe_ix ix_list (pv 2) (pv 1) (fun _ _ => rfl)))
      (pss_one (ps_ret (pe_op op_cat (pe_op op_cat (pe_lst (pa_cons (pe_callB call_len_seq (by rfl) T.len PySem.boot_len (pa_cons (pv 3) pa_nil)) pa_nil)) (pv 3))
        (pe_op op_rep (pe_lst (pa_cons pe_int pa_nil)) (pe_op op_sub (pe_glob (v := .int 49) rfl eM ⟨_, rfl⟩) (pe_callB call_len_seq (by rfl) T.len PySem.boot_len (pa_cons (pv 3) pa_nil))))))))), ?_⟩
    refine ⟨_, rfl, p, C, dx, _, _, rfl, hp, T.cl, T.nL, bf_lines l, l, c, rfl, hc.lines, g, fun H1 q rs hq hq' hW s1 => ?_⟩
    have hrl : rs.length = c.starts.length := paired_len hW
    refine ⟨_, rfl, _, rfl, q, _, rfl, .inl (SqL.of hq'), _, _, rfl, rfl, _, rfl, ?_⟩
    rw [List.length_map, hrl]
    generalize hN : c.starts.length = N
    refine ite2 (fun h1 => ?_) fun h1 => ?_
    · have hge : c.starts.length ≤ t := by have := of_decide_eq_true h1; omega
      refine ⟨(by show 1 ≤ sizeLine; decide), fun z hz => ?_⟩
      refine k _ z (s1.free hz) ?_ fun x o e => by rw [upd_ne (ne_of_none (s1 _ _ e) hz)]; exact s1 _ _ e
      rw [upd_same]
      unfold toldA
      rw [Bs.act_thread_none (List.getElem?_eq_none hge)]; rfl
    · have hlt : t < c.starts.length := by
        have : ¬ ((N : Nat) : Int) ≤ (t : Int) := fun z => h1 (decide_eq_true z)
        omega
      obtain ⟨u, hu⟩ : ∃ u, c.starts[t]? = some u := ⟨_, List.getElem?_eq_getElem hlt⟩
      obtain ⟨wr, hwr, hwl⟩ := paired_get hW hu
      have hat : (rs.map V.ref)[t]? = some (V.ref wr) := by rw [List.getElem?_map, hwr]; rfl
      have hlen : (c.way u).holes.reverse.length ≤ 49 := by
        rw [List.length_reverse]
        have := Bs.way_length g u
        omega
      generalize hWd : (c.way u).holes.reverse = W at hwl hlen
      -- way = ways[t]
      refine ⟨_, rfl, _, rfl, q, _, _, _, rfl, rfl, SqL.of hq', atI_nat hat, ?_⟩
      -- [len(way)] + way
      refine ⟨_, rfl, wr, _, rfl, .inl (SqL.of hwl), (by show 1 ≤ sizeLine; decide), fun z1 hz1 => ?_⟩
      rw [iVs_len]
      have s2 : Same H1 (upd H1 z1 (.lst [.int ((W.length : Nat) : Int)])) := fun x o e => by rw [upd_ne (ne_of_none e hz1)]; exact e
      have e1 : (upd H1 z1 (.lst [.int ((W.length : Nat) : Int)])) z1 = some (.lst [.int ((W.length : Nat) : Int)]) := upd_same
      generalize upd H1 z1 (.lst [.int ((W.length : Nat) : Int)]) = H2 at s2 e1 ⊢
      refine ⟨_, rfl, z1, wr, _, _, rfl, rfl, e1, s2 _ _ hwl, (by rw [iVs_len]; show 1 + _ ≤ sizeLine; omega), fun z2 hz2 => ?_⟩
      have s3 : Same H2 (upd H2 z2 (.lst ([.int ((W.length : Nat) : Int)] ++ iVs W))) := fun x o e => by rw [upd_ne (ne_of_none e hz2)]; exact e
      have e2 : (upd H2 z2 (.lst ([.int ((W.length : Nat) : Int)] ++ iVs W))) z2 = some (.lst ([.int ((W.length : Nat) : Int)] ++ iVs W)) := upd_same
      generalize upd H2 z2 (.lst ([.int ((W.length : Nat) : Int)] ++ iVs W)) = H3 at s3 e2 ⊢
      -- [0] * (MOST_HOLES - len(way))
      refine ⟨(by show 1 ≤ sizeLine; decide), fun z3 hz3 => ?_⟩
      have s4 : Same H3 (upd H3 z3 (.lst [.int 0])) := fun x o e => by rw [upd_ne (ne_of_none e hz3)]; exact e
      have e3 : (upd H3 z3 (.lst [.int 0])) z3 = some (.lst [.int 0]) := upd_same
      generalize upd H3 z3 (.lst [.int 0]) = H4 at s4 e3 ⊢
      refine ⟨_, rfl, wr, _, rfl, .inl (SqL.of (s4 _ _ (s3 _ _ (s2 _ _ hwl)))), _, _, rfl, rfl, z3, _, _, rfl, rfl, e3, ?_, ?_, ?_, fun z4 hz4 => ?_⟩
      · rw [iVs_len]; omega
      · rw [iVs_len]; omega
      · rw [iVs_len]; show 1 * _ ≤ sizeLine; omega
      rw [iVs_len]
      have en : ((49 : Int) - ((W.length : Nat) : Int)).toNat = 49 - W.length := by omega
      rw [en]
      have s5 : Same H4 (upd H4 z4 (.lst (List.replicate (49 - W.length) [V.int 0]).flatten)) := fun x o e => by rw [upd_ne (ne_of_none e hz4)]; exact e
      have e4 : (upd H4 z4 (.lst (List.replicate (49 - W.length) [V.int 0]).flatten)) z4 = some (.lst (List.replicate (49 - W.length) [V.int 0]).flatten) := upd_same
      generalize upd H4 z4 (.lst (List.replicate (49 - W.length) [V.int 0]).flatten) = H5 at s5 e4 ⊢
      refine ⟨z2, z4, _, _, rfl, rfl, s5 _ _ (s4 _ _ e2), e4, ?_, fun z5 hz5 => ?_⟩
      · rw [len_rep, List.length_append, iVs_len]
        show 1 + _ + _ * 1 ≤ sizeLine
        omega
      have s6 : Same H H5 := (((s1.trans s2).trans s3).trans s4).trans s5
      refine k _ z5 (s6.free hz5) ?_ fun x o e => by rw [upd_ne (ne_of_none (s6 _ _ e) hz5)]; exact s6 _ _ e
      rw [upd_same]
      unfold toldA
      rw [Bs.act_thread_some hu, hWd]
      exact congrArg (fun x => some (HO.lst x)) (thread_told W)
theorem scFr : FnScope ["along"] ["along"] (defScope sFront) := ⟨rfl, rfl, rfl, by decide +kernel, rfl, by decide +kernel, by decide +kernel⟩
theorem ok_front {f : Addr} {fd : FuncData} (F : Fun K "front" "front" sFront f fd) : FnOk P w K mg base CX0 1 f fd ["along"] (spSide evs) := by
  refine F.ok scFr (fun vs H Q E h => ?_) (fun cdv A outer s H vs Q E hr h => ?_)
  · obtain ⟨a, ks, rfl, _⟩ := h
    rfl
  · obtain ⟨a, ks, rfl, ha, hl, k⟩ := h
    have h1000 : 1000 < sizeLine := by decide
    refine ⟨_, pss_one (ps_ret (pe_slice3 (pv 0) (po_some pe_int) po_none (po_some pe_int))), ?_⟩
    have e : pickV (iVs ks) (some 0) none (some 2) = iVs (evs ks) := by rw [pick_front, iVs_evs]
    refine ⟨_, rfl, _, rfl, _, rfl, a, _, rfl, SqL.of ha, (by decide), ?_, fun q hq => ?_⟩
    · rw [e, iVs_len]
      have := Bs.evs_len ks
      omega
    · rw [e]
      exact k _ q hq upd_same fun x o e => by rw [upd_ne (ne_of_none e hq)]; exact e
theorem scBk : FnScope ["along"] ["along"] (defScope sBack) := ⟨rfl, rfl, rfl, by decide +kernel, rfl, by decide +kernel, by decide +kernel⟩
theorem ok_back {f : Addr} {fd : FuncData} (F : Fun K "back" "back" sBack f fd) : FnOk P w K mg base CX0 1 f fd ["along"] (spSide fun l => evs l.tail) := by
  refine F.ok scBk (fun vs H Q E h => ?_) (fun cdv A outer s H vs Q E hr h => ?_)
  · obtain ⟨a, ks, rfl, _⟩ := h
    rfl
  · obtain ⟨a, ks, rfl, ha, hl, k⟩ := h
    have h1000 : 1000 < sizeLine := by decide
    refine ⟨_, pss_one (ps_ret (pe_slice3 (pv 0) (po_some pe_int) po_none (po_some pe_int))), ?_⟩
    have e : pickV (iVs ks) (some 1) none (some 2) = iVs (evs ks.tail) := by rw [pick_back, iVs_ods]
    refine ⟨_, rfl, _, rfl, _, rfl, a, _, rfl, SqL.of ha, (by decide), ?_, fun q hq => ?_⟩
    · rw [e, iVs_len]
      have := Bs.ods_len ks
      omega
    · rw [e]
      exact k _ q hq upd_same fun x o e => by rw [upd_ne (ne_of_none e hq)]; exact e
theorem scBi : FnScope ["numbers", "bits", "number"] ["numbers"] (defScope sBits) := ⟨rfl, rfl, rfl, by decide +kernel, rfl, by decide +kernel, by decide +kernel⟩
theorem ok_bits {f : Addr} {fd : FuncData} (F : Fun K "as_bits" "as_bits" sBits f fd) : FnOk P w K mg base CX0 1 f fd ["numbers"] spBits := by
  refine F.ok scBi (fun vs H Q E h => ?_) (fun cdv A outer s H vs Q E hr h => ?_)
  · obtain ⟨a, ks, rfl, _⟩ := h
    rfl
  · obtain ⟨a, ks, rfl, ha, hlt, k⟩ := h
    refine ⟨_, pss_cons (ps_set (i := 1) scBi.nd rfl (Or.inl rfl) pe_int)
      (pss_cons (ps_for PassesOwn.never rfl (pi_list (pv 0)) (pg_name (i := 2) scBi.nd rfl (Or.inl rfl))
        (pss_one (ps_set (i := 1) scBi.nd rfl (Or.inl rfl) (pe_op op_or (pv 1) (pe_op op_shl pe_int (pv 2))))))
      (pss_one (ps_ret (pv 1)))), ?_⟩
    refine ⟨_, rfl, a, rfl, ⟨_, SqL.of ha⟩, for_list (K := K) (a := a) (xs := iVs ks) (fun i σ H' => ∃ e : Option V, σ = [some (.ref a), some (.int ((bitsOf (ks.take i) : Nat) : Int)), e] ∧ H' = H)
      ⟨none, rfl, rfl⟩ (fun i σ H' _ ⟨_, _, e⟩ => by rw [e]; exact SqL.of ha) ?_ ?_⟩
    · rintro i x σ H' hi ⟨e, rfl, rfl⟩
      obtain ⟨y, hy, rfl⟩ := iVs_get hi
      have hy24 := hlt y (List.mem_of_getElem? hy)
      refine ⟨_, rfl, _, rfl, _, _, rfl, rfl, ⟨(by omega), (by omega), (by decide)⟩, _, _, rfl, rfl, ?_⟩
      have e1 : (1 : Int) * 2 ^ ((y : Nat) : Int).toNat = ((2 ^ y : Nat) : Int) := by
        rw [Int.one_mul, Int.toNat_natCast]; simp
      have e2 : Builtin.bitOr ((bitsOf (ks.take i) : Nat) : Int) ((1 : Int) * 2 ^ ((y : Nat) : Int).toNat) = ((bitsOf (ks.take (i + 1)) : Nat) : Int) := by
        rw [e1, bitOr_nat, Bs.take_snoc hy, Bs.bitsOf_snoc]
      show gName 1 (V.int (Builtin.bitOr ((bitsOf (ks.take i) : Nat) : Int) ((1 : Int) * 2 ^ ((y : Nat) : Int).toNat))) _ _ _
      rw [e2]
      exact ⟨_, rfl, rfl⟩
    · rintro σ H' ⟨e, rfl, rfl⟩
      rw [iVs_len, List.take_length]
      exact ⟨_, rfl, k⟩
end
end Bsp
end
section
set_option Elab.async false
set_option linter.all false
set_option maxRecDepth 100000
set_option maxHeartbeats 2000000
namespace Bsp
open PySem PySem.Spec PyProof.Rows L2
open PySem.W (Codec)
open Km367 (Cloth act)
open Bs (Good tab norm lined evs bitsOf numsTo)
theorem steps_short {c : Cloth} {row : List Nat} (h : row.length ≤ 1) : c.steps row = [] := by
  match row, h with
  | [], _ => rfl
  | [_], _ => rfl
section
variable {P : Program} {w : World} {K : PySem.W.Frag} {mg : Str → Option Value} {base : Heap}
theorem scAl : FnScope ["lines", "row", "along", "step", "ends"] ["lines", "row"] (defScope sAlong) := ⟨rfl, rfl, rfl, by decide +kernel, rfl, by decide +kernel, by decide +kernel⟩
theorem ok_along {f fB C : Addr} {fd fdB : FuncData} (F : Fun K "lines_along" "lines_along" sAlong f fd) (T : Txt K mg C) (FB : Fun K "between" "between" sBetween fB fdB) (bB : Binds K fdB ["a", "b"] []) (mB : mg "between" = some (.ref fB)) :
    FnOk P w K mg base CX0 2 f fd ["lines", "row"] spAlong := by
  have GB : FnOk P w K mg base CX0 1 fB fdB ["a", "b"] spBetween := ok_between FB T
  refine F.ok scAl (fun vs H Q E h => ?_) (fun cdv A outer s H vs Q E hr h => ?_)
  · obtain ⟨l, z, c, row, rfl, _⟩ := h
    rfl
  · obtain ⟨l, z, c, row, rfl, L, g, hz, hlen, kN, kY⟩ := h
    obtain ⟨tH, eH⟩ := T.hole
    have hu := hu64 hr
    have h1000 : 1000 < sizeLine := by decide
    obtain ⟨vs, hl, hrows⟩ := id L
    refine ⟨_, pss_cons (ps_if (pt_cmpR op_gt (pe_maxd rfl rfl T.max (pa_cons (pv 1) pa_nil)) (pe_glob (v := .int 63) rfl eH ⟨_, rfl⟩) (nomark _)) (pss_one (ps_ret pe_non)) pss_nil)
      (pss_cons (ps_set (i := 2) scAl.nd rfl (Or.inl rfl) (pe_lst pa_nil))
      (pss_cons (ps_for PassesOwn.never rfl (pi_range2 rfl T.range (pa_cons pe_int (pa_cons (pe_callB call_len_seq (by rfl) T.len PySem.boot_len (pa_cons (pv 1) pa_nil)) pa_nil))) (pg_name (i := 3) scAl.nd rfl (Or.inl rfl))
        (pss_cons (ps_set (i := 4) scAl.nd rfl (Or.inl rfl) (pe_call GB hr rfl mB FB.kp bB .nil pass0 (pa_cons (pe_ix ix_list (pv 1) (pe_op op_sub (pv 3) pe_int) (fun _ _ => rfl)) (pa_cons (pe_ix ix_list (pv 1) (pv 3) (fun _ _ => rfl)) pa_nil))))
        (pss_cons (ps_if (pt_cmpR (op_notInD hu) (pv 4) (pv 0) (by with_unfolding_all rfl)) (pss_one (ps_ret pe_non)) pss_nil)
        (pss_one (ps_expr (pe_bm PySem.F.plainAttrs_list PySem.F.slot_list_append PySem.F.type_list_append mt_append (pv 2)
          (pa_cons (pe_bm PySem.F.plainAttrs_list PySem.F.slot_list_index PySem.F.type_list_index (mt_indexD hu) (pv 0) (pa_cons (pv 4) pa_nil)) pa_nil)))))))
      (pss_one (ps_ret (pv 2))))), ?_⟩
    -- if max(row, default=0) > LAST_HOLE
    have hsq : SqL K H z ((row.map fun (x : Nat) => (x : Int)).map V.int) := by
      have e : (row.map fun (x : Nat) => (x : Int)).map V.int = iVs row := by unfold iVs; rw [List.map_map]; rfl
      rw [e]; exact SqL.of hz
    refine ⟨_, rfl, z, _, rfl, hsq, fun m hm => ?_⟩
    refine ⟨_, _, rfl, rfl, _, rfl, ite2 (fun h1 => kN ?_ H (Same.refl H)) fun h1 => ?_⟩
    · have h1 : (63 : Int) < m := of_decide_eq_true h1
      rcases hm with ⟨_, rfl⟩ | ⟨hm, _⟩
      · omega
      · obtain ⟨x, hx, rfl⟩ := List.mem_map.mp hm
        exact Bs.way_big hx (by omega)
    have h64 : ∀ x ∈ row, x < 64 := by
      have h1 : ¬ (63 : Int) < m := fun q => h1 (decide_eq_true q)
      intro x hx
      rcases hm with ⟨he, _⟩ | ⟨_, hle⟩
      · rw [List.map_eq_nil_iff.mp he] at hx; cases hx
      · have := hle (x : Int) (List.mem_map.mpr ⟨x, hx, rfl⟩)
        omega
    -- along = []
    refine ⟨Nat.zero_le _, fun q hq => ?_⟩
    have s1 : Same H (upd H q (.lst [])) := fun x o e => by rw [upd_ne (ne_of_none e hq)]; exact e
    have eq1 : (upd H q (.lst [])) q = some (.lst (iVs [])) := upd_same
    generalize upd H q (.lst []) = H1 at s1 eq1 ⊢
    -- for step in range(1, len(row))
    refine ⟨_, rfl, z, _, rfl, .inl (SqL.of (s1 _ _ hz)), 1, _, rfl, ⟨by decide, by decide, ?_, ?_⟩, ?_⟩
    · rw [iVs_len]; omega
    · rw [iVs_len]; omega
    rw [iVs_len]
    have en : ((row.length : Nat) : Int) - 1 = ((row.length : Nat) : Int) - 1 := rfl
    refine for_range (lo := 1) (n := (((row.length : Nat) : Int) - 1).toNat) (fun i σ H' => ∃ (e3 e4 : Option V) (ks : List Nat), σ = [some (.ref l), some (.ref z), some (.ref q), e3, e4] ∧ Same H H' ∧ H' q = some (.lst (iVs ks)) ∧ c.steps (row.take (i + 1)) = ks.map some ∧ ks.length = i)
      ⟨none, none, [], rfl, s1, eq1, steps_short (by rw [List.length_take]; omega), rfl⟩ ?_ ?_
    · rintro i σ H2 hi ⟨e3, e4, ks, rfl, s2, eq2, hst, hkl⟩
      have hi1 : i + 1 < row.length := by omega
      obtain ⟨u, hu'⟩ : ∃ u, row[i]? = some u := ⟨_, List.getElem?_eq_getElem (by omega)⟩
      obtain ⟨v, hv'⟩ : ∃ v, row[i + 1]? = some v := ⟨_, List.getElem?_eq_getElem hi1⟩
      have gu : (iVs row)[i]? = some (.int (u : Int)) := by unfold iVs; rw [List.getElem?_map, hu']; rfl
      have gv : (iVs row)[i + 1]? = some (.int (v : Int)) := by unfold iVs; rw [List.getElem?_map, hv']; rfl
      have e1 : (1 : Int) + ((i : Nat) : Int) - 1 = ((i : Nat) : Int) := by omega
      have e2 : (1 : Int) + ((i : Nat) : Int) = ((i + 1 : Nat) : Int) := by omega
      -- ends = between(row[step - 1], row[step])
      refine ⟨_, rfl, _, rfl, _, _, rfl, rfl, z, _, _, _, rfl, rfl, SqL.of (s2 _ _ hz), (by rw [e1]; exact atI_nat gu), _, rfl, _, rfl, z, _, _, _, rfl, rfl, SqL.of (s2 _ _ hz), (by rw [e2]; exact atI_nat gv), u, v, rfl, fun H3 t ht et s3 => ?_⟩
      have s3' := s2.trans s3
      have eq3 := s3 _ _ eq2
      have hl3 := s3' _ _ hl
      have rows3 := rows_keep hrows fun b xs q => s3' b _ q
      have rt : RowV H3 (.ref t) (some (norm u v)) := ⟨t, rfl, et⟩
      -- if ends not in lines
      refine ⟨_, rfl, _, rfl, l, vs, _, _, rfl, SqL.of hl3, rows_dp rows3, row_dp rt, rows_lay _, row_lay _, row_depth _, _, rfl, ?_⟩
      rw [rows_any]
      refine ite2 (fun h4 => kN ?_ H3 s3') fun h4 => ?_
      · have hm : some (norm u v) ∉ tab c := by
          intro z
          rw [decide_eq_true z] at h4
          cases h4
        exact Bs.way_gap hu' hv' ((Bs.between_none g).mpr hm)
      obtain ⟨j, hj⟩ : ∃ j, c.between u v = some j := by
        cases e : c.between u v with
        | some j => exact ⟨j, rfl⟩
        | none =>
          have hm := (Bs.between_none g).mp e
          rw [decide_eq_false hm] at h4
          exact absurd rfl h4
      have hjt := (Bs.between_some g).mp hj
      -- along.append(lines.index(ends))
      refine ⟨_, rfl, .inl ⟨rfl, _, SqL.of eq3⟩, _, rfl, .inl ⟨rfl, _, SqL.of hl3⟩, _, rfl, l, vs, _, .ref t, _, j, rowD (some (norm u v)), rfl, rfl, SqL.of hl3, rows_dp rows3, row_dp rt, rows_lay _, row_lay _, row_depth _,
        (by rw [List.getElem?_map, hjt]; rfl), (by rw [row_eqv]; exact decide_eq_true rfl), (fun m e' hm he' => ?_), q, _, _, rfl, rfl, eq3, (by rw [iVs_len]; omega), ?_⟩
      · rw [List.getElem?_map] at he'
        cases eo : (tab c)[m]? with
        | none => rw [eo] at he'; cases he'
        | some o =>
          rw [eo] at he'
          have : rowD o = e' := Option.some.inj he'
          subst this
          rw [row_eqv]
          refine decide_eq_false fun z => ?_
          subst z
          have := Bs.tab_uniq g eo hjt
          omega
      · refine ⟨_, _, ks ++ [j], rfl, fun x o e => ?_, ?_, ?_, by simp [hkl]⟩
        · rw [upd_ne (ne_of_none e hq)]; exact s3' _ _ e
        · rw [upd_same, iVs_snoc]
        · rw [Bs.steps_take c hu' hv', hst, hj, List.map_append]; rfl
    · rintro σ H2 ⟨e3, e4, ks, rfl, s2, eq2, hst, hkl⟩
      rw [List.take_of_length_le (by omega)] at hst
      exact ⟨_, rfl, kY ks H2 q (Bs.way_yes h64 hst) hst hq eq2 s2⟩
end
end Bsp
end
section
set_option Elab.async false
set_option linter.all false
set_option maxRecDepth 100000
set_option maxHeartbeats 2000000
namespace Bsp
open PySem PySem.Spec PyProof.Rows L2
open PySem.W (Codec)
open Km367 (Cloth act)
open Bs (Good tab norm lined evs bitsOf numsTo)
theorem cut_to {hs : List Nat} {n : Nat} : cutV (iVs hs) none (some (n : Int)) = iVs (hs.take n) := by
  unfold cutV
  rw [HT.sIx_none, HT.sIx_nat, iVs_len, List.drop_zero, Nat.sub_zero]
  unfold iVs
  rw [← List.map_take]
  congr 1
  rw [← List.take_take, List.take_of_length_le (l := hs) (Nat.le_refl _)]
def spCheck (C : Addr) : Sp := fun vs H Q _ => ∃ (p l z : Addr) (n : Nat) (hs : List Nat) (c : Cloth), vs = [.ref p, .ref z, .int (n : Int)] ∧ H z = some (.lst (iVs hs)) ∧ hs.length = 49 ∧ ClothAt C H p l (tab c) ∧ Good c ∧ ∀ (H' : Hp), Same H H' → Q (.int (act c (.check hs n)).2.value) H'
def spSides (C : Addr) : Sp := fun vs H Q _ => ∃ (p l z : Addr) (n : Nat) (hs : List Nat) (c : Cloth), vs = [.ref p, .ref z, .int (n : Int)] ∧ H z = some (.lst (iVs hs)) ∧ hs.length = 49 ∧ ClothAt C H p l (tab c) ∧ Good c ∧
  ∀ (H' : Hp) (r : Addr), H r = none → H' r = some (.lst (zV (toldA c (.sides hs n)))) → Same H H' → Q (.ref r) H'
section
variable {P : Program} {w : World} {K : PySem.W.Frag} {mg : Str → Option Value} {base : Heap}
theorem scSd : FnScope ["self", "holes", "n", "along"] ["self", "holes", "n"] (defScope sSides) := ⟨rfl, rfl, rfl, by decide +kernel, rfl, by decide +kernel, by decide +kernel⟩
theorem ok_sides {f fA fF fK fB C : Addr} {fd fdA fdF fdK fdB : FuncData} (F : Fun K "sw_sides" "Cloth.sw_sides" sSides f fd) (T : Txt K mg C)
    (FA : Fun K "lines_along" "lines_along" sAlong fA fdA) (bA : Binds K fdA ["lines", "row"] []) (mA : mg "lines_along" = some (.ref fA)) (GA : FnOk P w K mg base CX0 2 fA fdA ["lines", "row"] spAlong)
    (FF : Fun K "front" "front" sFront fF fdF) (bF : Binds K fdF ["along"] []) (mF : mg "front" = some (.ref fF)) (FK : Fun K "back" "back" sBack fK fdK) (bK : Binds K fdK ["along"] []) (mK : mg "back" = some (.ref fK))
    (FB : Fun K "as_bits" "as_bits" sBits fB fdB) (bB : Binds K fdB ["numbers"] []) (mB : mg "as_bits" = some (.ref fB)) : FnOk P w K mg base CX0 3 f fd ["self", "holes", "n"] (spSides C) := by
  have GF : FnOk P w K mg base CX0 1 fF fdF ["along"] (spSide evs) := ok_front FF
  have GK : FnOk P w K mg base CX0 1 fK fdK ["along"] (spSide fun l => evs l.tail) := ok_back FK
  have GB : FnOk P w K mg base CX0 1 fB fdB ["numbers"] spBits := ok_bits FB
  refine F.ok scSd (fun vs H Q E h => ?_) (fun cdv A outer s H vs Q E hr h => ?_)
  · obtain ⟨p, l, z, n, hs, c, rfl, _⟩ := h
    rfl
  · obtain ⟨p, l, z, n, hs, c, rfl, hz, h49, hc, g, k⟩ := h
    obtain ⟨tM, eM⟩ := T.mostH
    obtain ⟨tW, eW⟩ := T.wrong
    obtain ⟨dx, hp⟩ := hc.ins
    have hr1 : Room 1 _ := hr.mono (by decide)
    have h1000 : 1000 < sizeLine := by decide
    refine ⟨_, pss_cons (ps_if (pt_cmpR op_gt (pv 2) (pe_glob (v := .int 49) rfl eM ⟨_, rfl⟩) (nomark _)) (pss_one (ps_ret (pe_lst (pa_cons (pe_glob (v := .int (-22)) rfl eW ⟨_, rfl⟩) pa_nil)))) pss_nil)
      (pss_cons (ps_set (i := 3) scSd.nd rfl (Or.inl rfl) (pe_call GA hr rfl mA FA.kp bA .nil pass0 (pa_cons (pe_fld (pv 0) rfl) (pa_cons (pe_slice sl_list (pv 1) po_none (po_some (pv 2))) pa_nil))))
      (pss_cons (ps_if (pt_cmpR op_isN (pv 3) pe_non (nomark _)) (pss_one (ps_ret (pe_lst (pa_cons (pe_glob (v := .int (-22)) rfl eW ⟨_, rfl⟩) pa_nil)))) pss_nil)
      (pss_one (ps_ret (pe_lst (pa_cons (pe_callB call_len_seq (by rfl) T.len PySem.boot_len (pa_cons (pv 3) pa_nil))
        (pa_cons (pe_call GB hr1 rfl mB FB.kp bB .nil pass0 (pa_cons (pe_call GF hr1 rfl mF FF.kp bF .nil pass0 (pa_cons (pv 3) pa_nil)) pa_nil))
        (pa_cons (pe_call GB hr1 rfl mB FB.kp bB .nil pass0 (pa_cons (pe_call GK hr1 rfl mK FK.kp bK .nil pass0 (pa_cons (pv 3) pa_nil)) pa_nil)) pa_nil)))))))), ?_⟩
    have refused : (49 < n ∨ c.isWay (hs.take n) = false) → ∀ H1, Same H H1 → ∀ r, H1 r = none → Q (.ref r) (upd H1 r (.lst [.int (-22)])) := fun hbad H1 s1 r hr => by
      refine k _ r (s1.free hr) ?_ fun x o e => by rw [upd_ne (ne_of_none (s1 _ _ e) hr)]; exact s1 _ _ e
      rw [upd_same]
      unfold toldA
      rw [Bs.act_sides_bad hbad]; rfl
    -- if n > MOST_HOLES
    refine ⟨_, rfl, _, _, rfl, rfl, _, rfl, ite2 (fun h1 => ⟨(by show 1 ≤ sizeLine; decide), fun r hr => refused (.inl (by have := of_decide_eq_true h1; omega)) H (Same.refl H) r hr⟩) fun h1 => ?_⟩
    have hn : n ≤ 49 := by
      have : ¬ (49 : Int) < (n : Int) := fun z => h1 (decide_eq_true z)
      omega
    -- along = lines_along(self.lines, holes[:n])
    refine ⟨_, rfl, p, C, dx, _, _, rfl, hp, T.cl, T.nL, bf_lines l, _, rfl, _, rfl, _, rfl, z, _, rfl, SqL.of hz, fun y hy => ?_⟩
    rw [cut_to]
    have s1 : Same H (upd H y (.lst (iVs (hs.take n)))) := fun x o e => by rw [upd_ne (ne_of_none e hy)]; exact e
    have ey : (upd H y (.lst (iVs (hs.take n)))) y = some (.lst (iVs (hs.take n))) := upd_same
    generalize upd H y (.lst (iVs (hs.take n))) = H1 at s1 ey ⊢
    refine ⟨l, y, c, hs.take n, rfl, hc.lines.keep s1, g, ey, (by rw [List.length_take]; omega), fun hno H2 s2 => ?_, fun ks H2 q hw hst hq eq2 s2 => ?_⟩
    · refine ⟨_, rfl, rfl, _, rfl, ite2 (fun _ => ⟨(by show 1 ≤ sizeLine; decide), fun r hr => refused (.inr hno) H2 (s1.trans s2) r hr⟩) (fun z => absurd (decide_eq_true rfl) z)⟩
    · refine ⟨_, rfl, rfl, _, rfl, ite2 (fun z => absurd (of_decide_eq_true z) (by intro q; cases q)) fun _ => ?_⟩
      have s2' := s1.trans s2
      have hkl : ks.length ≤ 49 := by
        have h1 := Bs.steps_length c (hs.take n)
        rw [hst, List.length_map, List.length_take] at h1
        omega
      have hk24 : ∀ k ∈ ks, k < 24 := fun k hk => (Bs.along_line g hst hk).1
      -- [len(along), as_bits(front(along)), as_bits(back(along))]
      refine ⟨_, rfl, q, _, rfl, .inl (SqL.of eq2), ?_⟩
      refine ⟨_, rfl, q, ks, rfl, eq2, by omega, fun H3 q3 hq3 eq3 s3 => ?_⟩
      refine ⟨q3, _, rfl, eq3, fun k hk => hk24 k (Bs.evs_mem hk), ?_⟩
      refine ⟨_, rfl, q, ks, rfl, s3 _ _ eq2, by omega, fun H4 q4 hq4 eq4 s4 => ?_⟩
      refine ⟨q4, _, rfl, eq4, fun k hk => hk24 k (Bs.ods_mem hk), ?_⟩
      refine ⟨(by show 3 ≤ sizeLine; decide), fun r hr => ?_⟩
      rw [iVs_len]
      have s4' := (s2'.trans s3).trans s4
      refine k _ r (s4'.free hr) ?_ fun x o e => by rw [upd_ne (ne_of_none (s4' _ _ e) hr)]; exact s4' _ _ e
      rw [upd_same]
      unfold toldA
      rw [Bs.act_sides g hn hw hst]; rfl
theorem lc_pair {X : Cx} {k : Nat} {pos p5 p6 : Pos} {K : PySem.W.Frag} (hK : X.K = K) (hc : X.calm = true) (hN : X.N.Nodup) (h5 : X.N[5]? = some ("number" : Str)) (h6 : X.N[6]? = some ("ends" : Str)) (l5 : X.env.scope.names.lookup ("number" : Str) = some .local) (l6 : X.env.scope.names.lookup ("ends" : Str) = some .local) :
    PG X (.Tuple [.Name "number" p5, .Name "ends" p6] k pos) (gTup K 2 (gCons (gName 5) (gCons (gName 6) gNil))) := by
  subst hK
  exact pg_tup (n := 2) hc (pgs_cons (pg_name (i := 5) hN h5 (Or.inl l5) (.inr l5)) (pgs_cons (pg_name (i := 6) hN h6 (Or.inl l6) (.inr l6)) pgs_nil))
theorem lc_test {X : Cx} {pos p6 p7 : Pos} {j : Nat} (h6 : X.N[6]? = some ("ends" : Str)) (v6 : Vis X.env.scope "ends") : PTs X [.Compare (.Name "ends" p6) [.IsNot] [.Constant .none j p7] pos] (tTest (tOp (fun x y H Q => y = .non ∧ Q (.bl (!decide (x = .non))) H) (tVar 6) (tC .non))) :=
  pts_one (pt_cmpR op_notN (pv 6 h6 v6) pe_non (nomark _))
theorem lc_elt {X : Cx} {p5 : Pos} (h5 : X.N[5]? = some ("number" : Str)) (v5 : Vis X.env.scope "number") : PE X (.Name "number" p5) (tVar 5) := pv 5 h5 v5
theorem scCk : FnScope ["self", "holes", "n", "along", "numbers", "number", "ends"] ["self", "holes", "n"] (defScope sCheck) := ⟨rfl, rfl, rfl, by decide +kernel, rfl, by decide +kernel, by decide +kernel⟩
theorem ok_check {f fA fF fK C : Addr} {fd fdA fdF fdK : FuncData} (F : Fun K "sw_check" "Cloth.sw_check" sCheck f fd) (T : Txt K mg C)
    (FA : Fun K "lines_along" "lines_along" sAlong fA fdA) (bA : Binds K fdA ["lines", "row"] []) (mA : mg "lines_along" = some (.ref fA)) (GA : FnOk P w K mg base CX0 2 fA fdA ["lines", "row"] spAlong)
    (FF : Fun K "front" "front" sFront fF fdF) (bF : Binds K fdF ["along"] []) (mF : mg "front" = some (.ref fF)) (FK : Fun K "back" "back" sBack fK fdK) (bK : Binds K fdK ["along"] []) (mK : mg "back" = some (.ref fK)) :
    FnOk P w K mg base CX0 3 f fd ["self", "holes", "n"] (spCheck C) := by
  have GF : FnOk P w K mg base CX0 1 fF fdF ["along"] (spSide evs) := ok_front FF
  have GK : FnOk P w K mg base CX0 1 fK fdK ["along"] (spSide fun l => evs l.tail) := ok_back FK
  refine F.ok scCk (fun vs H Q E h => ?_) (fun cdv A outer s H vs Q E hr h => ?_)
  · obtain ⟨p, l, z, n, hs, c, rfl, _⟩ := h
    rfl
  · obtain ⟨p, l, z, n, hs, c, rfl, hz, h49, hc, g, k⟩ := h
    obtain ⟨tM, eM⟩ := T.mostH
    obtain ⟨tW, eW⟩ := T.wrong
    obtain ⟨dx, hp⟩ := hc.ins
    obtain ⟨vs, hl, hrows⟩ := id hc.lines
    have hvl : vs.length = 24 := by rw [paired_len hrows]; exact Bs.tab_length g
    have hu := hu64 hr
    have hr1 : Room 1 _ := hr.mono (by decide)
    have h1000 : 1000 < sizeLine := by decide
    refine ⟨_, pss_cons (ps_if (pt_cmpR op_gt (pv 2) (pe_glob (v := .int 49) rfl eM ⟨_, rfl⟩) (nomark _)) (pss_one (ps_ret (pe_glob (v := .int (-22)) rfl eW ⟨_, rfl⟩))) pss_nil)
      (pss_cons (ps_set (i := 3) scCk.nd rfl (Or.inl rfl) (pe_call GA hr rfl mA FA.kp bA .nil pass0 (pa_cons (pe_fld (pv 0) rfl) (pa_cons (pe_slice sl_list (pv 1) po_none (po_some (pv 2))) pa_nil))))
      (pss_cons (ps_if (pt_cmpR op_isN (pv 3) pe_non (nomark _)) (pss_one (ps_ret pe_int)) pss_nil)
      (pss_cons (ps_setLc (i := 4) rfl scCk.nd rfl rfl (sw_true rfl rfl rfl (by decide +kernel)) (pi_enum rfl T.enumerate (pa_cons (pe_fld (pv 0) rfl) pa_nil)) (show BlkOk ["self", "holes", "n", "along", "numbers", "number", "ends"] (defScope sCheck) _ [("number", 5), ("ends", 6)] from blkOk_by (by decide +kernel))
        (fun _ _ _ _ _ => lc_pair (K := K) rfl rfl scCk.nd rfl rfl rfl rfl) (fun _ _ _ _ _ => lc_test rfl (.inl rfl)) (fun _ _ _ _ _ => lc_elt rfl (.inl rfl)))
      (pss_one (ps_ret (pe_ifExp (PW.pt (pw_and (pt_cmpR (op_eqD hu) (pe_callB cr_sorted (by rfl) T.sorted boot_sorted (pa_cons (pe_call GF hr1 rfl mF FF.kp bF .nil pass0 (pa_cons (pv 3) pa_nil)) pa_nil)) (pv 4) (nomark _))
        (pw_and1 (pt_cmpR (op_eqD hu) (pe_callB cr_sorted (by rfl) T.sorted boot_sorted (pa_cons (pe_call GK hr1 rfl mK FK.kp bK .nil pass0 (pa_cons (pv 3) pa_nil)) pa_nil)) (pv 4) (nomark _))))) pe_int pe_int)))))), ?_⟩
    -- if n > MOST_HOLES
    refine ⟨_, rfl, _, _, rfl, rfl, _, rfl, ite2 (fun h1 => ?_) fun h1 => ?_⟩
    · have hn : 49 < n := by have := of_decide_eq_true h1; omega
      have := k H (Same.refl H)
      rw [Bs.act_check_big hn] at this
      exact this
    have hn : n ≤ 49 := by
      have : ¬ (49 : Int) < (n : Int) := fun z => h1 (decide_eq_true z)
      omega
    rw [Bs.act_check hn] at k
    -- along = lines_along(self.lines, holes[:n])
    refine ⟨_, rfl, p, C, dx, _, _, rfl, hp, T.cl, T.nL, bf_lines l, _, rfl, _, rfl, _, rfl, z, _, rfl, SqL.of hz, fun y hy => ?_⟩
    rw [cut_to]
    have s1 : Same H (upd H y (.lst (iVs (hs.take n)))) := fun x o e => by rw [upd_ne (ne_of_none e hy)]; exact e
    have ey : (upd H y (.lst (iVs (hs.take n)))) y = some (.lst (iVs (hs.take n))) := upd_same
    generalize upd H y (.lst (iVs (hs.take n))) = H1 at s1 ey ⊢
    refine ⟨l, y, c, hs.take n, rfl, hc.lines.keep s1, g, ey, (by rw [List.length_take]; omega), fun hno H2 s2 => ?_, fun ks H2 q hw hst hq eq2 s2 => ?_⟩
    · refine ⟨_, rfl, rfl, _, rfl, ite2 (fun _ => ?_) (fun z => absurd (decide_eq_true rfl) z)⟩
      have := k H2 (s1.trans s2)
      rw [Bs.alike_no hno] at this
      exact this
    · refine ⟨_, rfl, rfl, _, rfl, ite2 (fun z => absurd (of_decide_eq_true z) (by intro q; cases q)) fun _ => ?_⟩
      have s2' := s1.trans s2
      have hkl : ks.length ≤ 49 := by
        have h1 := Bs.steps_length c (hs.take n)
        rw [hst, List.length_map, List.length_take] at h1
        omega
      -- numbers = [..]
      refine ⟨_, rfl, p, C, dx, _, _, rfl, s2' _ _ hp, T.cl, T.nL, bf_lines l, l, vs, rfl, SqL.of (s2' _ _ hl), fun D hD => ?_⟩
      refine lc_enum (K := K) (a := l) (xs := vs) (fun i H' => Same H2 H' ∧ H' D = some (.lst (iVs (numsTo c i)))) ⟨fun x o e => by rw [upd_ne (ne_of_none e hD)]; exact e, upd_same⟩ (fun i H' _ h => SqL.of (h.1 _ _ (s2' _ _ hl))) ?_ ?_
      · rintro i x H3 tt hi ⟨s3, eD⟩ htt
        obtain ⟨o, ho, ro⟩ := paired_getL hrows hi
        have hi24 : i < 24 := by have := (List.getElem?_eq_some_iff.mp hi).1; omega
        have nD : D ≠ tt := ne_of_none eD htt
        have et : (upd H3 tt (.tup [.int ((i : Nat) : Int), x])) tt = some (.tup [.int ((i : Nat) : Int), x]) := upd_same
        have eD4 : (upd H3 tt (.tup [.int ((i : Nat) : Int), x])) D = _ := (upd_ne nD).trans eD
        have s4 : Same H2 (upd H3 tt (.tup [.int ((i : Nat) : Int), x])) := fun b o e => by rw [upd_ne (ne_of_none (s3 _ _ e) htt)]; exact s3 _ _ e
        generalize upd H3 tt (.tup [.int ((i : Nat) : Int), x]) = H4 at et eD4 s4 ⊢
        refine ⟨tt, _, rfl, SqT.of et, rfl, _, _, rfl, _, _, rfl, rfl, rfl, ?_⟩
        cases o with
        | none =>
          have : x = .non := ro
          subst this
          refine ⟨_, rfl, rfl, _, rfl, iteNS rfl ⟨s4, ?_⟩⟩
          have hln := (Bs.tab_none g hi24).mp ho
          rw [eD4, Bs.nums_succ, hln]
          simp
        | some pr =>
          obtain ⟨t, rfl, ht⟩ := ro
          obtain ⟨ln, hln, _⟩ := Bs.tab_some.mp ho
          refine ⟨_, rfl, rfl, _, rfl, ite2 (fun _ => ?_) (fun z => absurd (by simp) z)⟩
          have hnl := Bs.nums_len c i
          refine ⟨_, rfl, _, eD4, (by rw [iVs_len]; omega), fun b o e => ?_, ?_⟩
          · rw [upd_ne (ne_of_none e hD)]; exact s4 _ _ e
          · rw [upd_same, Bs.nums_succ, hln, ← iVs_snoc]
            rfl
      · rintro H3 ⟨s3, eD⟩
        rw [hvl] at eD
        have s3' := s2'.trans s3
        have eq3 := s3 _ _ eq2
        -- sorted(front(along)) == numbers
        refine ⟨_, rfl, q, ks, rfl, eq3, by omega, fun H4 q4 hq4 eq4 s4 => ?_⟩
        have hE1 : iVs (evs ks) = ((evs ks).map fun (x : Nat) => (x : Int)).map V.int := by unfold iVs; rw [List.map_map]; rfl
        refine ⟨q4, (evs ks).map fun (x : Nat) => (x : Int), rfl, (by rw [← hE1]; exact SqL.of eq4), ?_, fun ns1 p1 hp1 hs1 hf1 => ?_⟩
        · rw [List.length_map]
          have := Bs.evs_len ks
          omega
        have s5 : Same H4 (upd H4 p1 (.lst (ns1.map V.int))) := fun x o e => by rw [upd_ne (ne_of_none e hf1)]; exact e
        have ep1 : (upd H4 p1 (.lst (ns1.map V.int))) p1 = some (.lst (zV ns1)) := upd_same
        generalize upd H4 p1 (.lst (ns1.map V.int)) = H5 at s5 ep1 ⊢
        have eD5 : H5 D = some (.lst (zV ((numsTo c 24).map fun (x : Nat) => (x : Int)))) := by rw [← iVs_zV]; exact s5 _ _ (s4 _ _ eD)
        refine ⟨_, rfl, .list (dI ns1), .list (dI ((numsTo c 24).map fun (x : Nat) => (x : Int))), .lst (SqL.of ep1) (dp_I _), .lst (SqL.of eD5) (dp_I _), shaped_I _, shaped_I _, _, rfl, ?_⟩
        rw [eqv_I]
        have q1 := Bs.sorted_nums (c := c) hp1 hs1
        have qa := Bs.alike_iff g hw hst
        have s5' := (s3'.trans s4).trans s5
        refine ite2 (fun h1 => ?_) fun h1 => ?_
        · have h1 := q1.mp (of_decide_eq_true h1)
          -- sorted(back(along)) == numbers
          refine ⟨_, rfl, q, ks, rfl, s5 _ _ (s4 _ _ eq3), by omega, fun H6 q6 hq6 eq6 s6 => ?_⟩
          have hE2 : iVs (evs ks.tail) = ((evs ks.tail).map fun (x : Nat) => (x : Int)).map V.int := by unfold iVs; rw [List.map_map]; rfl
          refine ⟨q6, (evs ks.tail).map fun (x : Nat) => (x : Int), rfl, (by rw [← hE2]; exact SqL.of eq6), ?_, fun ns2 p2 hp2 hs2 hf2 => ?_⟩
          · rw [List.length_map]
            have := Bs.ods_len ks
            omega
          have s7 : Same H6 (upd H6 p2 (.lst (ns2.map V.int))) := fun x o e => by rw [upd_ne (ne_of_none e hf2)]; exact e
          have ep2 : (upd H6 p2 (.lst (ns2.map V.int))) p2 = some (.lst (zV ns2)) := upd_same
          generalize upd H6 p2 (.lst (ns2.map V.int)) = H7 at s7 ep2 ⊢
          have eD7 := s7 _ _ (s6 _ _ eD5)
          refine ⟨_, rfl, .list (dI ns2), .list (dI ((numsTo c 24).map fun (x : Nat) => (x : Int))), .lst (SqL.of ep2) (dp_I _), .lst (SqL.of eD7) (dp_I _), shaped_I _, shaped_I _, _, rfl, ?_⟩
          rw [eqv_I]
          have q2 := Bs.sorted_nums (c := c) hp2 hs2
          have s7' := (s5'.trans s6).trans s7
          have kk := k H7 s7'
          refine ite2 (fun h2 => ?_) fun h2 => ?_
          · have h2 := q2.mp (of_decide_eq_true h2)
            rw [if_pos (qa.mpr ⟨h1, h2⟩)] at kk
            exact kk
          · rw [if_neg fun z => h2 (decide_eq_true (q2.mpr (qa.mp z).2))] at kk
            exact kk
        · have kk := k H5 s5'
          rw [if_neg fun z => h1 (decide_eq_true (q1.mpr (qa.mp z).1))] at kk
          exact iteF kk
end
end Bsp
end
section
set_option Elab.async false
set_option linter.all false
set_option maxRecDepth 100000
set_option maxHeartbeats 2000000
namespace Bsp
open PySem PySem.Spec PyProof.Rows L2
open PySem.W (Codec)
open Km367 (Cloth act Call)
open Bs (Good tab norm lined evs bitsOf numsTo Asks Lays cur FC)
/-- a call's number, the whole numbers behind it, its row -/
inductive Parts : Call → Int → List Nat → List Nat → Prop where
  | start : Parts .start 0 [] []
  | line (a b : Nat) : Parts (.line a b) 1 [a, b] []
  | drop (k : Nat) : Parts (.drop k) 2 [k] []
  | threads : Parts .threads 3 [] []
  | thread (t : Nat) : Parts (.thread t) 4 [t] []
  | check (hs : List Nat) (n : Nat) : hs.length = 49 → Parts (.check hs n) 5 [n] hs
  | sides (hs : List Nat) (n : Nat) : hs.length = 49 → Parts (.sides hs n) 6 [n] hs
def ci (l : List Nat) : List Int := l.map fun (x : Nat) => (x : Int)
theorem ci_len (l : List Nat) : (ci l).length = l.length := by unfold ci; rw [List.length_map]
theorem zV_ci (l : List Nat) : zV (ci l) = iVs l := (iVs_zV l).symm
def nbv : List V := [.int 0, .int 2, .int 1, .int 0, .int 1, .int 1, .int 1]
theorem asks_parts {fc : FC} {x : Call} {lay : List Int} (h : Asks fc x lay) : ∃ (n : Int) (ns row : List Nat), Parts x n ns row ∧ atI nbv n = some (.int ((ns.length : Nat) : Int)) ∧
    ((n ≠ 5 ∧ n ≠ 6 ∧ row = [] ∧ lay = n :: ci ns) ∨ ((n = 5 ∨ n = 6) ∧ row.length = 49 ∧ lay = n :: (ci ns ++ (49 :: ci row)))) := by
  cases h with
  | start => exact ⟨0, [], [], .start, rfl, .inl ⟨by decide, by decide, rfl, rfl⟩⟩
  | line a b _ _ => exact ⟨1, [a, b], [], .line a b, rfl, .inl ⟨by decide, by decide, rfl, rfl⟩⟩
  | drop k _ => exact ⟨2, [k], [], .drop k, rfl, .inl ⟨by decide, by decide, rfl, rfl⟩⟩
  | threads => exact ⟨3, [], [], .threads, rfl, .inl ⟨by decide, by decide, rfl, rfl⟩⟩
  | thread t _ => exact ⟨4, [t], [], .thread t, rfl, .inl ⟨by decide, by decide, rfl, rfl⟩⟩
  | check n hs _ hl _ => exact ⟨5, [n], hs, .check hs n hl, rfl, .inr ⟨.inl rfl, hl, rfl⟩⟩
  | sides n hs _ hl _ => exact ⟨6, [n], hs, .sides hs n hl, rfl, .inr ⟨.inr rfl, hl, rfl⟩⟩
theorem tst_no {A B : Prop} {a b : Int} (h : a ≠ b) (k : B) : if decide (V.int a = V.int b) = true then A else B := by
  rw [decide_eq_false (fun z => h (by injection z))]
  exact iteF k
theorem tst_yes {A B : Prop} {a b : Int} (h : a = b) (k : A) : if decide (V.int a = V.int b) = true then A else B := by
  rw [decide_eq_true (by rw [h])]
  exact iteT k
def spTo (C : Addr) : Sp := fun vs H Q _ => ∃ (p l z y : Addr) (c : Cloth) (x : Call) (h : Int) (ns row : List Nat), vs = [.ref p, .int h, .ref z, .ref y] ∧ Parts x h ns row ∧ H z = some (.lst (iVs ns)) ∧ H y = some (.lst (iVs row)) ∧ ClothAt C H p l (tab c) ∧ Good c ∧
  ∀ (H' : Hp) (l' r : Addr), ClothAt C H' p l' (tab (act c x).1) → H' r = some (.lst (zV (toldA c x))) → H r = none → (l' = l ∨ H l' = none) → (∀ b o, H b = some o → b ≠ p → b ≠ l → H' b = some o) → Q (.ref r) H'
def spAns (K : PySem.W.Frag) : Sp := fun vs H Q _ => ∃ (a : Addr) (ns : List Int), vs = [.ref a] ∧ SqL K H a (zV ns) ∧ PyKm367.answers_asked ns = true ∧ ∀ (H' : Hp) (q : Addr), H' q = some (.lst (zV (PyKm367.answers ns))) → Q (.ref q) H'
section
variable {P : Program} {w : World} {K : PySem.W.Frag} {mg : Str → Option Value} {base : Heap}
/-- a def with its promise, and how it is called -/
structure Def (P : Program) (w : World) (K : PySem.W.Frag) (mg : Str → Option Value) (base : Heap) (C : Addr) (m : Str) (k : Nat) (f : Addr) (fd : FuncData) (ps : List Str) (sp : Sp) : Prop where
  meth : Meth K C m f
  bind : Binds K fd ps []
  ok : FnOk P w K mg base CX0 k f fd ps sp
theorem only_told {c c' : Cloth} {x : Call} {z : Int} (h : act c x = (c', Km367.only z)) : zV (toldA c x) = [.int z] := by
  unfold toldA
  rw [h]; rfl
theorem scTo : FnScope ["cloth", "call", "numbers", "row"] ["cloth", "call", "numbers", "row"] (defScope sTo) := ⟨rfl, rfl, rfl, by decide +kernel, rfl, by decide +kernel, by decide +kernel⟩
theorem line_only (c : Cloth) (a b : Nat) : ∃ z, (act c (.line a b)).2 = Km367.only z := by
  by_cases h : 64 ≤ a ∨ 64 ≤ b ∨ a = b
  · rw [Bs.act_line_bad h]; exact ⟨_, rfl⟩
  · have h' : a < 64 ∧ b < 64 ∧ a ≠ b := by omega
    cases e : c.between a b with
    | some k => rw [Bs.act_line_there h' (by rw [e]; rfl)]; exact ⟨_, rfl⟩
    | none =>
      cases e' : c.free with
      | none => rw [Bs.act_line_full h' e e']; exact ⟨_, rfl⟩
      | some k => rw [Bs.act_line_new h' e e']; exact ⟨_, rfl⟩
theorem drop_only (c : Cloth) (k : Nat) : ∃ z, (act c (.drop k)).2 = Km367.only z := by
  cases e : c.line k with
  | none => rw [Bs.act_drop_none e]; exact ⟨_, rfl⟩
  | some l => rw [Bs.act_drop_some e]; exact ⟨_, rfl⟩
theorem check_only (c : Cloth) (hs : List Nat) (n : Nat) : ∃ z, (act c (.check hs n)).2 = Km367.only z := by
  rcases Nat.lt_or_ge 49 n with h | h
  · rw [Bs.act_check_big h]; exact ⟨_, rfl⟩
  · rw [Bs.act_check h]; exact ⟨_, rfl⟩
theorem told_val {c : Cloth} {x : Call} (h : ∃ z, (act c x).2 = Km367.only z) : zV (toldA c x) = [.int (act c x).2.value] := by
  obtain ⟨z, e⟩ := h
  unfold toldA
  rw [e]; rfl
theorem ok_to {f C f0 f1 f2 f3 f4 f5 f6 : Addr} {fd d0 d1 d2 d3 d4 d5 d6 : FuncData} (F : Fun K "answer_to" "answer_to" sTo f fd) (T : Txt K mg C)
    (D0 : Def P w K mg base C "sw_start" 2 f0 d0 ["self"] (spStart C)) (D1 : Def P w K mg base C "sw_line" 2 f1 d1 ["self", "a", "b"] (spLine C)) (D2 : Def P w K mg base C "sw_drop" 1 f2 d2 ["self", "line"] (spDrop C))
    (D3 : Def P w K mg base C "sw_threads" 4 f3 d3 ["self"] (spThreads C)) (D4 : Def P w K mg base C "sw_thread" 4 f4 d4 ["self", "t"] (spThread C)) (D5 : Def P w K mg base C "sw_check" 3 f5 d5 ["self", "holes", "n"] (spCheck C)) (D6 : Def P w K mg base C "sw_sides" 3 f6 d6 ["self", "holes", "n"] (spSides C)) :
    FnOk P w K mg base CX0 5 f fd ["cloth", "call", "numbers", "row"] (spTo C) := by
  refine F.ok scTo (fun vs H Q E h => ?_) (fun cdv A outer s H vs Q E hr h => ?_)
  · obtain ⟨p, l, z, y, c, x, h, ns, row, rfl, _⟩ := h
    rfl
  · obtain ⟨p, l, z, y, c, x, h, ns, row, rfl, hp, hz, hy, hc, g, k⟩ := h
    obtain ⟨t0, e0⟩ := T.c0
    obtain ⟨t1, e1⟩ := T.c1
    obtain ⟨t2, e2⟩ := T.c2
    obtain ⟨t3, e3⟩ := T.c3
    obtain ⟨t4, e4⟩ := T.c4
    obtain ⟨t5, e5⟩ := T.c5
    have r1 : Room 1 _ := hr.mono (by decide)
    have r2 : Room 2 _ := hr.mono (by decide)
    have r3 : Room 3 _ := hr.mono (by decide)
    obtain ⟨dx, hpi⟩ := hc.ins
    obtain ⟨lv, hll, _⟩ := id hc.lines
    have nl : ∀ (m : Str), ¬ m = "lines" → (bf l).lookup m = none := fun m h => bf_no l h
    refine ⟨_, pss_cons (ps_if (pt_cmpR op_eq (pv 1) (pe_glob (v := .int 0) rfl e0 ⟨_, rfl⟩) (nomark _)) (pss_one (ps_ret (pe_lst (pa_cons (pe_meth0 (pv 0) T.cl D0.meth D0.ok r2 D0.bind .nil pass0) pa_nil)))) pss_nil)
      (pss_cons (ps_if (pt_cmpR op_eq (pv 1) (pe_glob (v := .int 1) rfl e1 ⟨_, rfl⟩) (nomark _)) (pss_one (ps_ret (pe_lst (pa_cons (pe_meth (pv 0) T.cl D1.meth D1.ok r2 D1.bind .nil pass0 (pa_cons (pe_ix ix_list (pv 2) pe_int (fun _ _ => rfl)) (pa_cons (pe_ix ix_list (pv 2) pe_int (fun _ _ => rfl)) pa_nil))) pa_nil)))) pss_nil)
      (pss_cons (ps_if (pt_cmpR op_eq (pv 1) (pe_glob (v := .int 2) rfl e2 ⟨_, rfl⟩) (nomark _)) (pss_one (ps_ret (pe_lst (pa_cons (pe_meth (pv 0) T.cl D2.meth D2.ok r1 D2.bind .nil pass0 (pa_cons (pe_ix ix_list (pv 2) pe_int (fun _ _ => rfl)) pa_nil)) pa_nil)))) pss_nil)
      (pss_cons (ps_if (pt_cmpR op_eq (pv 1) (pe_glob (v := .int 3) rfl e3 ⟨_, rfl⟩) (nomark _)) (pss_one (ps_ret (pe_lst (pa_cons (pe_meth0 (pv 0) T.cl D3.meth D3.ok hr D3.bind .nil pass0) pa_nil)))) pss_nil)
      (pss_cons (ps_if (pt_cmpR op_eq (pv 1) (pe_glob (v := .int 4) rfl e4 ⟨_, rfl⟩) (nomark _)) (pss_one (ps_ret (pe_meth (pv 0) T.cl D4.meth D4.ok hr D4.bind .nil pass0 (pa_cons (pe_ix ix_list (pv 2) pe_int (fun _ _ => rfl)) pa_nil)))) pss_nil)
      (pss_cons (ps_if (pt_cmpR op_eq (pv 1) (pe_glob (v := .int 5) rfl e5 ⟨_, rfl⟩) (nomark _)) (pss_one (ps_ret (pe_lst (pa_cons (pe_meth (pv 0) T.cl D5.meth D5.ok r3 D5.bind .nil pass0 (pa_cons (pv 3) (pa_cons (pe_ix ix_list (pv 2) pe_int (fun _ _ => rfl)) pa_nil))) pa_nil)))) pss_nil)
      (pss_one (ps_ret (pe_meth (pv 0) T.cl D6.meth D6.ok r3 D6.bind .nil pass0 (pa_cons (pv 3) (pa_cons (pe_ix ix_list (pv 2) pe_int (fun _ _ => rfl)) pa_nil)))))))))), ?_⟩
    cases hp with
    | start =>
      refine ⟨_, rfl, rfl, _, rfl, tst_yes rfl ?_⟩
      refine ⟨_, rfl, p, dx, _, rfl, hpi, nl _ (by decide +kernel), p, l, _, rfl, hc, fun H1 l1 hl1 hc1 b1 => ?_⟩
      refine ⟨(by show 1 ≤ sizeLine; decide), fun r hr => ?_⟩
      obtain ⟨dx1, hp1⟩ := hc1.ins
      have hr0 : H r = none := by
        cases e : H r with
        | none => rfl
        | some o =>
          by_cases hrp : r = p
          · subst hrp; rw [hp1] at hr; cases hr
          · rw [b1 r o e hrp] at hr; cases hr
      exact k _ l1 r (hc1.keep fun b o e => by rw [upd_ne (ne_of_none e hr)]; exact e) upd_same hr0 (.inr hl1) fun b o e hb _ => by
        have := b1 b o e hb
        rw [upd_ne (ne_of_none this hr)]; exact this
    | line a b =>
      refine ⟨_, rfl, rfl, _, rfl, tst_no (by decide) ⟨_, rfl, rfl, _, rfl, tst_yes rfl ?_⟩⟩
      refine ⟨_, rfl, p, dx, _, rfl, hpi, nl _ (by decide +kernel), _, rfl, z, _, _, _, rfl, rfl, SqL.of hz, atI_nat (j := 0) rfl, _, rfl, z, _, _, _, rfl, rfl, SqL.of hz, atI_nat (j := 1) rfl, p, l, a, b, c, rfl, hc, g, fun H1 hc1 b1 => ?_⟩
      refine ⟨(by show 1 ≤ sizeLine; decide), fun r hr => ?_⟩
      obtain ⟨lv1, hl1, _⟩ := id hc1.lines
      have hr0 : H r = none := by
        cases e : H r with
        | none => rfl
        | some o =>
          by_cases hrp : r = l
          · subst hrp; rw [hl1] at hr; cases hr
          · rw [b1 r o e hrp] at hr; cases hr
      refine k _ l r (hc1.keep fun b o e => by rw [upd_ne (ne_of_none e hr)]; exact e) ?_ hr0 (.inl rfl) fun b o e _ hb => by
        have := b1 b o e hb
        rw [upd_ne (ne_of_none this hr)]; exact this
      rw [upd_same, told_val (line_only c a b)]
    | drop n =>
      refine ⟨_, rfl, rfl, _, rfl, tst_no (by decide) ⟨_, rfl, rfl, _, rfl, tst_no (by decide) ⟨_, rfl, rfl, _, rfl, tst_yes rfl ?_⟩⟩⟩
      refine ⟨_, rfl, p, dx, _, rfl, hpi, nl _ (by decide +kernel), _, rfl, z, _, _, _, rfl, rfl, SqL.of hz, atI_nat (j := 0) rfl, p, l, n, c, rfl, hc, g, fun H1 hc1 b1 => ?_⟩
      refine ⟨(by show 1 ≤ sizeLine; decide), fun r hr => ?_⟩
      obtain ⟨lv1, hl1, _⟩ := id hc1.lines
      have hr0 : H r = none := by
        cases e : H r with
        | none => rfl
        | some o =>
          by_cases hrp : r = l
          · subst hrp; rw [hl1] at hr; cases hr
          · rw [b1 r o e hrp] at hr; cases hr
      refine k _ l r (hc1.keep fun b o e => by rw [upd_ne (ne_of_none e hr)]; exact e) ?_ hr0 (.inl rfl) fun b o e _ hb => by
        have := b1 b o e hb
        rw [upd_ne (ne_of_none this hr)]; exact this
      rw [upd_same, told_val (drop_only c n)]
    | threads =>
      refine ⟨_, rfl, rfl, _, rfl, tst_no (by decide) ⟨_, rfl, rfl, _, rfl, tst_no (by decide) ⟨_, rfl, rfl, _, rfl, tst_no (by decide) ⟨_, rfl, rfl, _, rfl, tst_yes rfl ?_⟩⟩⟩⟩
      refine ⟨_, rfl, p, dx, _, rfl, hpi, nl _ (by decide +kernel), p, l, c, rfl, hc, g, fun H1 s1 => ?_⟩
      refine ⟨(by show 1 ≤ sizeLine; decide), fun r hr => ?_⟩
      have s2 : Same H (upd H1 r (.lst [.int ((c.starts.length : Nat) : Int)])) := fun b o e => by rw [upd_ne (ne_of_none (s1 _ _ e) hr)]; exact s1 _ _ e
      exact k _ l r (hc.keep s2) upd_same (s1.free hr) (.inl rfl) fun b o e _ _ => s2 _ _ e
    | thread t =>
      refine ⟨_, rfl, rfl, _, rfl, tst_no (by decide) ⟨_, rfl, rfl, _, rfl, tst_no (by decide) ⟨_, rfl, rfl, _, rfl, tst_no (by decide) ⟨_, rfl, rfl, _, rfl, tst_no (by decide) ⟨_, rfl, rfl, _, rfl, tst_yes rfl ?_⟩⟩⟩⟩⟩
      refine ⟨_, rfl, p, dx, _, rfl, hpi, nl _ (by decide +kernel), _, rfl, z, _, _, _, rfl, rfl, SqL.of hz, atI_nat (j := 0) rfl, p, l, t, c, rfl, hc, g, fun H1 r hr0 er s1 => ?_⟩
      refine k _ l r ?_ er hr0 (.inl rfl) fun b o e _ _ => s1 _ _ e
      rw [Bs.act_thread]
      exact hc.keep s1
    | check hs n h49 =>
      refine ⟨_, rfl, rfl, _, rfl, tst_no (by decide) ⟨_, rfl, rfl, _, rfl, tst_no (by decide) ⟨_, rfl, rfl, _, rfl, tst_no (by decide) ⟨_, rfl, rfl, _, rfl, tst_no (by decide) ⟨_, rfl, rfl, _, rfl, tst_no (by decide) ⟨_, rfl, rfl, _, rfl, tst_yes rfl ?_⟩⟩⟩⟩⟩⟩
      refine ⟨_, rfl, p, dx, _, rfl, hpi, nl _ (by decide +kernel), _, rfl, _, rfl, z, _, _, _, rfl, rfl, SqL.of hz, atI_nat (j := 0) rfl, p, l, y, n, row, c, rfl, hy, h49, hc, g, fun H1 s1 => ?_⟩
      refine ⟨(by show 1 ≤ sizeLine; decide), fun r hr => ?_⟩
      have s2 : Same H (upd H1 r (.lst [.int (act c (.check row n)).2.value])) := fun b o e => by rw [upd_ne (ne_of_none (s1 _ _ e) hr)]; exact s1 _ _ e
      refine k _ l r (hc.keep s2) ?_ (s1.free hr) (.inl rfl) fun b o e _ _ => s2 _ _ e
      rw [upd_same, told_val (check_only c row n)]
    | sides hs n h49 =>
      refine ⟨_, rfl, rfl, _, rfl, tst_no (by decide) ⟨_, rfl, rfl, _, rfl, tst_no (by decide) ⟨_, rfl, rfl, _, rfl, tst_no (by decide) ⟨_, rfl, rfl, _, rfl, tst_no (by decide) ⟨_, rfl, rfl, _, rfl, tst_no (by decide) ⟨_, rfl, rfl, _, rfl, tst_no (by decide) ?_⟩⟩⟩⟩⟩⟩
      refine ⟨_, rfl, p, dx, _, rfl, hpi, nl _ (by decide +kernel), _, rfl, _, rfl, z, _, _, _, rfl, rfl, SqL.of hz, atI_nat (j := 0) rfl, p, l, y, n, row, c, rfl, hy, h49, hc, g, fun H1 r hr0 er s1 => ?_⟩
      exact k _ l r (hc.keep s1) er hr0 (.inl rfl) fun b o e _ _ => s1 _ _ e
end
end Bsp
end
section
set_option Elab.async false
set_option linter.all false
set_option maxRecDepth 100000
set_option maxHeartbeats 2000000
namespace Bsp
open PySem PySem.Spec PyProof.Rows L2
open PySem.W (Codec)
open Km367 (Cloth act Call)
open Bs (Good tab norm lined evs bitsOf numsTo Asks Lays cur FC)
theorem seq_split {i : Nat} {x : V} {t v : TS} {D : Ends} {σ : L2.St} {H : Hp} (Facts : L2.St → Hp → Prop) (fin : ∀ σ' H', Facts σ' H' → v D σ' H') (h : (∀ σ' H', Facts σ' H' → v D σ' H') → t { D with nx := v D } (σ.set i (some x)) H) : gName i x σ H (tSeq t v D) := h fin
theorem cut_seg {ns mid r : List Int} {i : Nat} (hi : i ≤ ns.length) (e : ns.drop i = mid ++ r) : cutV (zV ns) (some ((i : Nat) : Int)) (some ((i + mid.length : Nat) : Int)) = zV mid := by
  have hl : ns.length = i + mid.length + r.length := by
    have := congrArg List.length e
    rw [List.length_drop, List.length_append] at this
    omega
  unfold cutV
  rw [HT.sIx_nat, HT.sIx_nat, zV_len, Nat.min_eq_left (by omega), Nat.min_eq_left (by omega)]
  have e2 : (zV ns).drop i = zV mid ++ zV r := by
    unfold zV
    rw [← List.map_drop, e, List.map_append]
  rw [e2, show i + mid.length - i = mid.length by omega, ← zV_len mid, List.take_left]
section
variable {P : Program} {w : World} {K : PySem.W.Frag} {mg : Str → Option Value} {base : Heap}
theorem scA : FnScope ["calls", "cloth", "answered", "at", "call", "behind", "numbers", "row", "row_at", "answer"] ["calls"] (defScope sAns) := ⟨rfl, rfl, rfl, by decide +kernel, rfl, by decide +kernel, by decide +kernel⟩
theorem ok_ans {f C fI fT tN : Addr} {fd fdI fdT : FuncData} (F : Fun K "answers" "answers" sAns f fd) (T : Txt K mg C) (M : Mk K C fI) (GI : FnOk P w K mg base CX0 2 fI fdI ["self"] (spInit C)) (bI : Binds K fdI ["self"] [])
    (FT : Fun K "answer_to" "answer_to" sTo fT fdT) (bT : Binds K fdT ["cloth", "call", "numbers", "row"] []) (mT : mg "answer_to" = some (.ref fT)) (GT : FnOk P w K mg base CX0 5 fT fdT ["cloth", "call", "numbers", "row"] (spTo C))
    (mN : mg "NUMBERS_BEHIND" = some (.ref tN)) (sN : ∀ H : Hp, SqT K H tN nbv) : FnOk P w K mg base CX0 6 f fd ["calls"] (spAns K) := by
  refine F.ok scA (fun vs H Q E h => ?_) (fun cdv A outer s H vs Q E hr h => ?_)
  · obtain ⟨a, ns, rfl, _⟩ := h
    rfl
  · obtain ⟨a, ns, rfl, hS, hask, kk⟩ := h
    have hr3 : Room 3 _ := hr.mono (by decide)
    obtain ⟨t5, e5⟩ := T.c5
    obtain ⟨t6, e6⟩ := T.c6
    have hbig : 60000 < sizeLine := by decide
    obtain ⟨cs0, lays0, ask0, may0, _, hc1000, ans0⟩ := Bs.asked_calls hask
    refine ⟨_, pss_cons (ps_set (i := 1) scA.nd rfl (Or.inl rfl) (pe_make0 M GI hr3 rfl T.mgC bI .nil pass0))
      (pss_cons (ps_set (i := 2) scA.nd rfl (Or.inl rfl) (pe_lst pa_nil))
      (pss_cons (ps_set (i := 3) scA.nd rfl (Or.inl rfl) pe_int)
      (pss_cons (ps_while PassesOwn.never (pt_cmpR op_lt (pv 3) (pe_callB call_len_seq (by rfl) T.len PySem.boot_len (pa_cons (pv 0) pa_nil)) (nomark _))
        (pss_cons (ps_set (i := 4) scA.nd rfl (Or.inl rfl) (pe_ix ix_list (pv 0) (pv 3) (fun _ _ => rfl)))
        (pss_cons (ps_set (i := 5) scA.nd rfl (Or.inl rfl) (pe_op op_add (pe_op op_add (pv 3) pe_int) (pe_ix ix_tup (pe_glob (v := .ref tN) rfl mN rfl) (pv 4) (fun _ _ => rfl))))
        (pss_cons (ps_set (i := 6) scA.nd rfl (Or.inl rfl) (pe_slice sl_list (pv 0) (po_some (pe_op op_add (pv 3) pe_int)) (po_some (pv 5))))
        (pss_cons (ps_set (i := 7) scA.nd rfl (Or.inl rfl) (pe_lst pa_nil))
        (pss_cons (ps_if (PW.pt (pw_or (pt_cmpR op_eq (pv 4) (pe_glob (v := .int 5) rfl e5 ⟨_, rfl⟩) (nomark _)) (pw_or1 (pt_cmpR op_eq (pv 4) (pe_glob (v := .int 6) rfl e6 ⟨_, rfl⟩) (nomark _)))))
          (pss_cons (ps_set (i := 8) scA.nd rfl (Or.inl rfl) (pe_op op_add (pv 5) pe_int))
          (pss_cons (ps_set (i := 5) scA.nd rfl (Or.inl rfl) (pe_op op_add (pv 8) (pe_ix ix_list (pv 0) (pv 5) (fun _ _ => rfl))))
          (pss_one (ps_set (i := 7) scA.nd rfl (Or.inl rfl) (pe_slice sl_list (pv 0) (po_some (pv 8)) (po_some (pv 5))))))) pss_nil)
        (pss_cons (ps_set (i := 9) scA.nd rfl (Or.inl rfl) (pe_call GT hr rfl mT FT.kp bT .nil pass0 (pa_cons (pv 1) (pa_cons (pv 4) (pa_cons (pv 6) (pa_cons (pv 7) pa_nil))))))
        (pss_cons (ps_expr (pe_bm PySem.F.plainAttrs_list PySem.F.slot_list_append PySem.F.type_list_append mt_append (pv 2) (pa_cons (pe_callB call_len_seq (by rfl) T.len PySem.boot_len (pa_cons (pv 9) pa_nil)) pa_nil)))
        (pss_cons (ps_expr (pe_bm PySem.F.plainAttrs_list PySem.F.slot_list_extend PySem.F.type_list_extend mt_extend (pv 2) (pa_cons (pv 9) pa_nil)))
        (pss_one (ps_set (i := 3) scA.nd rfl (Or.inl rfl) (pv 5))))))))))))
      (pss_one (ps_ret (pv 2)))))), ?_⟩
    -- cloth = Cloth()
    intro p dx hp hdx hne
    refine ⟨p, dx, rfl, upd_same, fun H1 l hl hc kp => ⟨rfl, ?_⟩⟩
    have s1 : Same H H1 := Same.made hp hdx kp
    have hl0 : H l = none := by
      cases e : H l with
      | none => rfl
      | some o =>
        have h1 : l ≠ p := ne_of_none e hp
        have h2 : l ≠ dx := ne_of_none e hdx
        rw [upd_ne h1, upd_ne h2, e] at hl; cases hl
    -- answered = []; at = 0
    refine ⟨Nat.zero_le _, fun q hq => ?_⟩
    have hq0 : H q = none := s1.free hq
    have s2 : Same H (upd H1 q (.lst [])) := fun b o e => by rw [upd_ne (ne_of_none (s1 _ _ e) hq)]; exact s1 _ _ e
    obtain ⟨dp, hpi⟩ := hc.ins
    obtain ⟨lv, hll, _⟩ := id hc.lines
    have hpq : p ≠ q := ne_of_none hpi hq
    have hlq : l ≠ q := ne_of_none hll hq
    have hc2 : ClothAt C (upd H1 q (.lst [])) p l (tab Km367.fresh) := hc.keep fun b o e => by rw [upd_ne (ne_of_none e hq)]; exact e
    refine ⟨fun m σ H' => ∃ (at_ : Nat) (st : Km367Neutral.S) (cs : List FC) (out : List Int) (l : Addr) (v4 v5 v6 v7 v8 v9 : Option V), σ = [some (.ref a), some (.ref p), some (.ref q), some (.int (at_ : Int)), v4, v5, v6, v7, v8, v9] ∧ Lays cs (ns.drop at_) ∧ cs.all Km367Neutral.asked1 = true ∧ Km367Neutral.may st cs = true ∧
        PyKm367.answers ns = out ++ PyFlat.told (PyFlat.played Km367Neutral.step st cs) ∧ H' q = some (.lst (zV out)) ∧ out.length + 51 * cs.length ≤ 51000 ∧ ClothAt C H' p l (tab (cur st)) ∧ Good (cur st) ∧ l ≠ q ∧ H l = none ∧ Same H H' ∧ at_ ≤ ns.length ∧ m = cs.length,
      ⟨_, 0, none, cs0, [], l, none, none, none, none, none, none, rfl, lays0, ask0, may0, ans0, upd_same, by simp; omega, hc2, Bs.good_fresh, hlq, hl0, s2, Nat.zero_le _, rfl⟩, ?_⟩
    clear s1 s2 hc2 hl hc kp hlq hl0 hll hpi hq
    rintro m σ H2 ⟨at_, st, cs, out, l, v4, v5, v6, v7, v8, v9, rfl, lays, ask, may, ans, hq2, hsz, hc2, g, hlq, hl0, s2, hat, rfl⟩
    have sq := s2.seq hS
    refine ⟨_, rfl, _, rfl, a, _, rfl, .inl sq, _, _, rfl, rfl, _, rfl, ?_⟩
    rw [zV_len]
    cases cs with
    | nil =>
      have hd : ns.drop at_ = [] := by
        generalize hdd : ns.drop at_ = dr at lays
        cases lays
        rfl
      have hge : ns.length ≤ at_ := List.drop_eq_nil_iff.mp hd
      refine ite2 (fun z => ?_) (fun _ => ⟨_, rfl, ?_⟩)
      · have := of_decide_eq_true z; omega
      · refine kk H2 q ?_
        rw [ans, hq2]
        show some (HO.lst (zV out)) = some (HO.lst (zV (out ++ [])))
        rw [List.append_nil]
    | cons fc cs =>
      generalize hdr : ns.drop at_ = dr at lays
      cases lays with
      | @cons _ lay _ r hlaid lays' =>
        rw [List.all_cons, Bool.and_eq_true] at ask
        obtain ⟨x, asks, hcall⟩ := Bs.laid_asks hlaid ask.1
        obtain ⟨n, nums, row, hparts, hnb, hcase⟩ := asks_parts asks
        obtain ⟨may', told'⟩ := Bs.may_cons hcall may
        obtain ⟨tl, hlay, hlead⟩ : ∃ tl, lay = n :: (ci nums ++ tl) ∧ (tl = [] ∧ n ≠ 5 ∧ n ≠ 6 ∧ row = [] ∨ tl = 49 :: ci row ∧ (n = 5 ∨ n = 6) ∧ row.length = 49) := by
          rcases hcase with ⟨h1, h2, h3, h4⟩ | ⟨h1, h2, h3⟩
          · exact ⟨[], by rw [List.append_nil]; exact h4, .inl ⟨rfl, h1, h2, h3⟩⟩
          · exact ⟨_, h3, .inr ⟨rfl, h1, h2⟩⟩
        have hlen : ns.length = at_ + (1 + nums.length + tl.length + r.length) := by
          have := congrArg List.length hdr
          rw [List.length_drop, List.length_append, hlay, List.length_cons, List.length_append, ci_len] at this
          omega
        have hget : ns[at_]? = some n := by
          have : (ns.drop at_)[0]? = some n := by rw [hdr, hlay]; rfl
          rw [List.getElem?_drop] at this
          simpa using this
        have hd1 : ns.drop (at_ + 1) = ci nums ++ (tl ++ r) := by
          rw [← List.drop_drop, hdr, hlay]
          simp
        refine ite2 (fun _ => ?_) (fun z => absurd (decide_eq_true (by omega)) z)
        refine ⟨_, fun _ _ h => h, ?_⟩
        -- call = calls[at]; behind = ..
        refine ⟨_, rfl, _, rfl, a, _, _, _, rfl, rfl, sq, atI_nat (zV_get hget), ?_⟩
        refine ⟨_, rfl, _, _, rfl, rfl, _, rfl, tN, nbv, _, _, rfl, rfl, sN H2, hnb, _, _, rfl, rfl, ?_⟩
        have eb : (at_ : Int) + 1 + ((nums.length : Nat) : Int) = ((at_ + 1 + nums.length : Nat) : Int) := by omega
        show gName 5 (V.int ((at_ : Int) + 1 + ((nums.length : Nat) : Int))) _ _ _
        rw [eb]
        -- numbers = calls[at + 1:behind]
        refine ⟨_, rfl, _, rfl, _, _, rfl, rfl, _, rfl, _, rfl, _, rfl, a, _, rfl, sq, fun z hz => ?_⟩
        have ec : (at_ : Int) + 1 = ((at_ + 1 : Nat) : Int) := by omega
        have ek : cutV (zV ns) (some ((at_ : Int) + 1)) (some ((at_ + 1 + nums.length : Nat) : Int)) = iVs nums := by
          rw [ec, ← ci_len nums, cut_seg (by omega) hd1, zV_ci]
        simp only [ek]
        have s3 : Same H2 (upd H2 z (.lst (iVs nums))) := fun b o e => by rw [upd_ne (ne_of_none e hz)]; exact e
        have ez3 : (upd H2 z (.lst (iVs nums))) z = some (.lst (iVs nums)) := upd_same
        generalize upd H2 z (.lst (iVs nums)) = H3 at s3 ez3 ⊢
        -- row = []
        refine ⟨Nat.zero_le _, fun y hy => ?_⟩
        have s4 : Same H3 (upd H3 y (.lst [])) := fun b o e => by rw [upd_ne (ne_of_none e hy)]; exact e
        have ey4 : (upd H3 y (.lst [])) y = some (.lst (iVs [])) := upd_same
        generalize upd H3 y (.lst []) = H4 at s4 ey4 ⊢
        have ez4 := s4 _ _ ez3
        have s24 : Same H2 H4 := s3.trans s4
        dsimp only
        refine seq_split (t := tIfS _ _ _) (fun σ' H' => ∃ (e8 : Option V) (y : Addr), σ' = [some (.ref a), some (.ref p), some (.ref q), some (.int (at_ : Int)), some (.int n), some (.int ((at_ + lay.length : Nat) : Int)), some (.ref z), some (.ref y), e8, v9] ∧ H' z = some (.lst (iVs nums)) ∧ H' y = some (.lst (iVs row)) ∧ Same H2 H') ?_ fun fin => ?_
        · -- answer = answer_to(cloth, call, numbers, row)
          rintro σ' H5 ⟨e8, y, rfl, ez5, ey5, s25⟩
          have hq5 := s25 _ _ hq2
          have s15 : Same H H5 := s2.trans s25
          refine ⟨_, rfl, _, rfl, _, rfl, _, rfl, p, l, z, y, cur st, x, n, nums, row, rfl, hparts, ez5, ey5, hc2.keep s25, g, fun H6 l6 r6 hc6 hr6 hr5 hl6 k6 => ?_⟩
          have hqp : q ≠ p := fun z => hpq z.symm
          have hq6 : H6 q = some (.lst (zV out)) := k6 _ _ hq5 hqp (fun z => hlq z.symm)
          have hrq : r6 ≠ q := fun z => by subst z; rw [hq5] at hr5; cases hr5
          have hl6q : l6 ≠ q := by
            rcases hl6 with z | z
            · rw [z]; exact hlq
            · intro y; subst y; rw [hq5] at z; cases z
          have hl60 : H l6 = none := by
            rcases hl6 with z | z
            · rw [z]; exact hl0
            · exact s15.free z
          have s6 : Same H H6 := fun b o e => k6 b o (s15 _ _ e) (ne_of_none e hp) (ne_of_none e hl0)
          have htl := told_len g x
          -- answered.append(len(answer))
          simp only [List.length_cons] at hsz
          refine ⟨_, rfl, .inl ⟨rfl, _, SqL.of hq6⟩, _, rfl, r6, _, rfl, .inl (SqL.of hr6), q, _, _, rfl, rfl, hq6, (by rw [zV_len]; omega), ?_⟩
          rw [zV_len]
          have hq7 : (upd H6 q (.lst (zV out ++ [.int (((toldA (cur st) x).length : Nat) : Int)]))) q = some (.lst (zV (out ++ [(((toldA (cur st) x).length : Nat) : Int)]))) := by rw [upd_same, zV_app]; rfl
          have hr7 : (upd H6 q (.lst (zV out ++ [.int (((toldA (cur st) x).length : Nat) : Int)]))) r6 = some (.lst (zV (toldA (cur st) x))) := by rw [upd_ne hrq]; exact hr6
          have b7 : But q H6 (upd H6 q (.lst (zV out ++ [.int (((toldA (cur st) x).length : Nat) : Int)]))) := But.upd
          generalize upd H6 q (.lst (zV out ++ [.int (((toldA (cur st) x).length : Nat) : Int)])) = H7 at hq7 hr7 b7 ⊢
          -- answered.extend(answer)
          refine ⟨_, rfl, .inl ⟨rfl, _, SqL.of hq7⟩, _, rfl, q, r6, _, _, rfl, rfl, hq7, hr7, (by rw [zV_len, zV_len, List.length_append, List.length_singleton]; omega), ?_⟩
          -- at = behind
          refine ⟨_, rfl, ?_⟩
          have hc7 : ClothAt C H7 p l6 (tab (act (cur st) x).1) := hc6.but b7 hpq hl6q fun xs z => by rw [hq6] at z; cases z
          refine ⟨cs.length, Nat.lt_succ_self _, at_ + lay.length, some (act (cur st) x).1, cs, out ++ [(((toldA (cur st) x).length : Nat) : Int)] ++ toldA (cur st) x, l6, _, _, _, _, _, _, rfl, ?_, ask.2, may', ?_, ?_, ?_, hc7.but But.upd hpq hl6q (fun xs z => by rw [hq7] at z; cases z), Bs.good_act g x, hl6q, hl60, ?_, ?_, rfl⟩
          · rw [← List.drop_drop, hdr, List.drop_left]; exact lays'
          · rw [ans, told']
            simp only [List.append_assoc, List.cons_append, List.nil_append]
          · rw [upd_same, ← zV_app]
          · simp only [List.length_append, List.length_singleton]; omega
          · intro b o e
            rw [upd_ne (ne_of_none e hq0)]
            exact b7 _ _ (s6 _ _ e) (ne_of_none e hq0)
          · rw [hlay, List.length_cons, List.length_append, ci_len]; omega
        · -- if call == SW_CHECK or call == SW_SIDES
          have sq4 := s24.seq sq
          rcases hlead with ⟨htl, h5, h6, hrow⟩ | ⟨htl, h56, h49⟩
          · refine ⟨_, rfl, rfl, _, rfl, tst_no h5 ⟨_, rfl, rfl, _, rfl, tst_no h6 ?_⟩⟩
            have el : at_ + 1 + nums.length = at_ + lay.length := by
              rw [hlay, htl, List.append_nil, List.length_cons, ci_len]; omega
            refine fin _ H4 ⟨v8, y, ?_, ez4, ?_, s24⟩
            · rw [← el]
              rfl
            · rw [hrow]; exact ey4
          · have htll : tl.length = 50 := by rw [htl, List.length_cons, ci_len, h49]
            have hb1 : at_ + 1 + nums.length ≤ ns.length := by omega
            have hd2 : ns.drop (at_ + 1 + nums.length) = 49 :: (ci row ++ r) := by
              rw [← List.drop_drop, hd1, ← ci_len nums, List.drop_left, htl]; rfl
            have hg49 : ns[at_ + 1 + nums.length]? = some 49 := by
              have : (ns.drop (at_ + 1 + nums.length))[0]? = some 49 := by rw [hd2]; rfl
              rw [List.getElem?_drop] at this
              simpa using this
            have hd3 : ns.drop (at_ + 1 + nums.length + 1) = ci row ++ r := by
              rw [← List.drop_drop, hd2]; rfl
            have hll : lay.length = 1 + nums.length + 1 + 49 := by
              rw [hlay, htl, List.length_cons, List.length_append, List.length_cons, ci_len, ci_len, h49]; omega
            have b1 : ((at_ + 1 + nums.length : Nat) : Int) + 1 = ((at_ + 1 + nums.length + 1 : Nat) : Int) := by omega
            have b2 : ((at_ + 1 + nums.length + 1 : Nat) : Int) + 49 = ((at_ + lay.length : Nat) : Int) := by rw [hll]; omega
            have ek2 : cutV (zV ns) (some ((at_ + 1 + nums.length + 1 : Nat) : Int)) (some ((at_ + lay.length : Nat) : Int)) = iVs row := by
              have e : at_ + lay.length = at_ + 1 + nums.length + 1 + (ci row).length := by rw [hll, ci_len, h49]; omega
              rw [e, cut_seg (by omega) hd3, zV_ci]
            rcases h56 with h5 | h6
            · refine ⟨_, rfl, rfl, _, rfl, tst_yes h5 (iteT ?_)⟩
              -- row_at = behind + 1
              refine ⟨_, rfl, _, _, rfl, rfl, ?_⟩
              show gName 8 (V.int (((at_ + 1 + nums.length : Nat) : Int) + 1)) _ _ _
              rw [b1]
              -- behind = row_at + calls[behind]
              refine ⟨_, rfl, _, rfl, _, rfl, a, _, _, _, rfl, rfl, sq4, atI_nat (zV_get hg49), _, _, rfl, rfl, ?_⟩
              show gName 5 (V.int (((at_ + 1 + nums.length + 1 : Nat) : Int) + 49)) _ _ _
              rw [b2]
              -- row = calls[row_at:behind]
              refine ⟨_, rfl, _, rfl, _, rfl, _, rfl, _, rfl, a, _, rfl, sq4, fun y2 hy2 => ?_⟩
              simp only [ek2]
              exact fin _ _ ⟨_, y2, rfl, by rw [upd_ne (ne_of_none ez4 hy2)]; exact ez4, upd_same, fun b o e => by rw [upd_ne (ne_of_none (s24 _ _ e) hy2)]; exact s24 _ _ e⟩
            · refine ⟨_, rfl, rfl, _, rfl, tst_no (by omega) ⟨_, rfl, rfl, _, rfl, tst_yes h6 ?_⟩⟩
              -- row_at = behind + 1
              refine ⟨_, rfl, _, _, rfl, rfl, ?_⟩
              show gName 8 (V.int (((at_ + 1 + nums.length : Nat) : Int) + 1)) _ _ _
              rw [b1]
              -- behind = row_at + calls[behind]
              refine ⟨_, rfl, _, rfl, _, rfl, a, _, _, _, rfl, rfl, sq4, atI_nat (zV_get hg49), _, _, rfl, rfl, ?_⟩
              show gName 5 (V.int (((at_ + 1 + nums.length + 1 : Nat) : Int) + 49)) _ _ _
              rw [b2]
              -- row = calls[row_at:behind]
              refine ⟨_, rfl, _, rfl, _, rfl, _, rfl, _, rfl, a, _, rfl, sq4, fun y2 hy2 => ?_⟩
              simp only [ek2]
              exact fin _ _ ⟨_, y2, rfl, by rw [upd_ne (ne_of_none ez4 hy2)]; exact ez4, upd_same, fun b o e => by rw [upd_ne (ne_of_none (s24 _ _ e) hy2)]; exact s24 _ _ e⟩
end
end Bsp
end
section
set_option Elab.async false
set_option linter.all false
set_option maxRecDepth 100000
set_option maxHeartbeats 2000000
namespace Bsp
open PySem PySem.Spec PyProof.Rows L2
open PySem.W (Codec)
open Km367 (Cloth act Call)
theorem all_mk {P : Program} {w : World} {K : PySem.W.Frag} {h : Heap} {mg : Str → Option Value} {fa C tN f1 f2 f3 f4 f5 f6 f7 f8 f9 f10 f11 f12 f13 f14 f15 f16 f17 f18 f19 f20 f21 : Addr} {od1 an1 od2 an2 od3 an3 od4 an4 od5 an5 od6 an6 od7 an7 od8 an8 od9 an9 od10 an10 od11 an11 od12 an12 od13 an13 od14 an14 od15 an15 od16 an16 od17 an17 od18 an18 od19 an19 od20 an20 od21 an21 dN : Option Addr} {sl1 sl2 sl3 sl4 sl5 sl6 sl7 sl8 sl9 sl10 sl11 sl12 sl13 sl14 sl15 sl16 sl17 sl18 sl19 sl20 sl21 slN : Array (Option Value)} {oc1 kV1 dc1 pm1 cd1 ct1 oc2 kV2 dc2 pm2 cd2 ct2 oc3 kV3 dc3 pm3 cd3 ct3 oc4 kV4 dc4 pm4 cd4 ct4 oc5 kV5 dc5 pm5 cd5 ct5 oc6 kV6 dc6 pm6 cd6 ct6 oc7 kV7 dc7 pm7 cd7 ct7 oc8 kV8 dc8 pm8 cd8 ct8 oc9 kV9 dc9 pm9 cd9 ct9 oc10 kV10 dc10 pm10 cd10 ct10 oc11 kV11 dc11 pm11 cd11 ct11 oc12 kV12 dc12 pm12 cd12 ct12 oc13 kV13 dc13 pm13 cd13 ct13 oc14 kV14 dc14 pm14 cd14 ct14 oc15 kV15 dc15 pm15 cd15 ct15 oc16 kV16 dc16 pm16 cd16 ct16 oc17 kV17 dc17 pm17 cd17 ct17 oc18 kV18 dc18 pm18 cd18 ct18 oc19 kV19 dc19 pm19 cd19 ct19 oc20 kV20 dc20 pm20 cd20 ct20 oc21 kV21 dc21 pm21 cd21 ct21 : Value} {u0 u1 u2 u3 u4 u5 u6 u7 u8 u9 u10 u11 u12 u13 w0 w1 w2 w3 w4 w5 w6 : Tok} {nN : Nat} (X : K.In h) (G : h.Ns mainGlobals mg) (hfa : mg "answers" = some (.ref fa))
    (aC : PySem.W.nsIn K mainGlobals "Cloth" = some (some (.ref C)))
    (a1 : PySem.W.nsIn K mainGlobals "no_lines" = some (some (.ref f1))) (l1 : K.lookup f1 = some ⟨oc1, od1, .func (PySem.W.fnOf "no_lines" "no_lines" (defArgs sNoLines) (defBody sNoLines) (defScope sNoLines) .none kV1 dc1 pm1 an1 cd1 ct1), sl1⟩) (c1 : PySem.W.codeIn K cd1 "no_lines" = true) (k1 : PySem.W.keepIn K (.ref f1) = true)
    (a2 : PySem.W.nsIn K mainGlobals "between" = some (some (.ref f2))) (l2 : K.lookup f2 = some ⟨oc2, od2, .func (PySem.W.fnOf "between" "between" (defArgs sBetween) (defBody sBetween) (defScope sBetween) .none kV2 dc2 pm2 an2 cd2 ct2), sl2⟩) (c2 : PySem.W.codeIn K cd2 "between" = true) (k2 : PySem.W.keepIn K (.ref f2) = true)
    (a3 : PySem.W.nsIn K mainGlobals "lines_at_holes" = some (some (.ref f3))) (l3 : K.lookup f3 = some ⟨oc3, od3, .func (PySem.W.fnOf "lines_at_holes" "lines_at_holes" (defArgs sAtHoles) (defBody sAtHoles) (defScope sAtHoles) .none kV3 dc3 pm3 an3 cd3 ct3), sl3⟩) (c3 : PySem.W.codeIn K cd3 "lines_at_holes" = true) (k3 : PySem.W.keepIn K (.ref f3) = true)
    (a4 : PySem.W.nsIn K mainGlobals "other_end" = some (some (.ref f4))) (l4 : K.lookup f4 = some ⟨oc4, od4, .func (PySem.W.fnOf "other_end" "other_end" (defArgs sOther) (defBody sOther) (defScope sOther) .none kV4 dc4 pm4 an4 cd4 ct4), sl4⟩) (c4 : PySem.W.codeIn K cd4 "other_end" = true) (k4 : PySem.W.keepIn K (.ref f4) = true)
    (a5 : PySem.W.nsIn K mainGlobals "first_not_gone" = some (some (.ref f5))) (l5 : K.lookup f5 = some ⟨oc5, od5, .func (PySem.W.fnOf "first_not_gone" "first_not_gone" (defArgs sFirst) (defBody sFirst) (defScope sFirst) .none kV5 dc5 pm5 an5 cd5 ct5), sl5⟩) (c5 : PySem.W.codeIn K cd5 "first_not_gone" = true) (k5 : PySem.W.keepIn K (.ref f5) = true)
    (a6 : PySem.W.nsIn K mainGlobals "thread_way" = some (some (.ref f6))) (l6 : K.lookup f6 = some ⟨oc6, od6, .func (PySem.W.fnOf "thread_way" "thread_way" (defArgs sWay) (defBody sWay) (defScope sWay) .none kV6 dc6 pm6 an6 cd6 ct6), sl6⟩) (c6 : PySem.W.codeIn K cd6 "thread_way" = true) (k6 : PySem.W.keepIn K (.ref f6) = true)
    (a7 : PySem.W.nsIn K mainGlobals "thread_ways" = some (some (.ref f7))) (l7 : K.lookup f7 = some ⟨oc7, od7, .func (PySem.W.fnOf "thread_ways" "thread_ways" (defArgs sWays) (defBody sWays) (defScope sWays) .none kV7 dc7 pm7 an7 cd7 ct7), sl7⟩) (c7 : PySem.W.codeIn K cd7 "thread_ways" = true) (k7 : PySem.W.keepIn K (.ref f7) = true)
    (a8 : PySem.W.nsIn K mainGlobals "lines_along" = some (some (.ref f8))) (l8 : K.lookup f8 = some ⟨oc8, od8, .func (PySem.W.fnOf "lines_along" "lines_along" (defArgs sAlong) (defBody sAlong) (defScope sAlong) .none kV8 dc8 pm8 an8 cd8 ct8), sl8⟩) (c8 : PySem.W.codeIn K cd8 "lines_along" = true) (k8 : PySem.W.keepIn K (.ref f8) = true)
    (a9 : PySem.W.nsIn K mainGlobals "front" = some (some (.ref f9))) (l9 : K.lookup f9 = some ⟨oc9, od9, .func (PySem.W.fnOf "front" "front" (defArgs sFront) (defBody sFront) (defScope sFront) .none kV9 dc9 pm9 an9 cd9 ct9), sl9⟩) (c9 : PySem.W.codeIn K cd9 "front" = true) (k9 : PySem.W.keepIn K (.ref f9) = true)
    (a10 : PySem.W.nsIn K mainGlobals "back" = some (some (.ref f10))) (l10 : K.lookup f10 = some ⟨oc10, od10, .func (PySem.W.fnOf "back" "back" (defArgs sBack) (defBody sBack) (defScope sBack) .none kV10 dc10 pm10 an10 cd10 ct10), sl10⟩) (c10 : PySem.W.codeIn K cd10 "back" = true) (k10 : PySem.W.keepIn K (.ref f10) = true)
    (a11 : PySem.W.nsIn K mainGlobals "as_bits" = some (some (.ref f11))) (l11 : K.lookup f11 = some ⟨oc11, od11, .func (PySem.W.fnOf "as_bits" "as_bits" (defArgs sBits) (defBody sBits) (defScope sBits) .none kV11 dc11 pm11 an11 cd11 ct11), sl11⟩) (c11 : PySem.W.codeIn K cd11 "as_bits" = true) (k11 : PySem.W.keepIn K (.ref f11) = true)
    (a12 : PySem.W.nsIn K mainGlobals "answer_to" = some (some (.ref f12))) (l12 : K.lookup f12 = some ⟨oc12, od12, .func (PySem.W.fnOf "answer_to" "answer_to" (defArgs sTo) (defBody sTo) (defScope sTo) .none kV12 dc12 pm12 an12 cd12 ct12), sl12⟩) (c12 : PySem.W.codeIn K cd12 "answer_to" = true) (k12 : PySem.W.keepIn K (.ref f12) = true)
    (a13 : PySem.W.nsIn K mainGlobals "answers" = some (some (.ref f13))) (l13 : K.lookup f13 = some ⟨oc13, od13, .func (PySem.W.fnOf "answers" "answers" (defArgs sAns) (defBody sAns) (defScope sAns) .none kV13 dc13 pm13 an13 cd13 ct13), sl13⟩) (c13 : PySem.W.codeIn K cd13 "answers" = true) (k13 : PySem.W.keepIn K (.ref f13) = true)
    (a14 : PySem.W.findIn K (.ref C) "__init__" = some (some (.ref f14))) (i14 : PySem.W.isFn K (.ref f14) = true) (l14 : K.lookup f14 = some ⟨oc14, od14, .func (PySem.W.fnOf "__init__" "Cloth.__init__" (defArgs sInit) (defBody sInit) (defScope sInit) .none kV14 dc14 pm14 an14 cd14 ct14), sl14⟩) (c14 : PySem.W.codeIn K cd14 "Cloth.__init__" = true) (k14 : PySem.W.keepIn K (.ref f14) = true)
    (a15 : PySem.W.findIn K (.ref C) "sw_start" = some (some (.ref f15))) (i15 : PySem.W.isFn K (.ref f15) = true) (l15 : K.lookup f15 = some ⟨oc15, od15, .func (PySem.W.fnOf "sw_start" "Cloth.sw_start" (defArgs sStart) (defBody sStart) (defScope sStart) .none kV15 dc15 pm15 an15 cd15 ct15), sl15⟩) (c15 : PySem.W.codeIn K cd15 "Cloth.sw_start" = true) (k15 : PySem.W.keepIn K (.ref f15) = true)
    (a16 : PySem.W.findIn K (.ref C) "sw_line" = some (some (.ref f16))) (i16 : PySem.W.isFn K (.ref f16) = true) (l16 : K.lookup f16 = some ⟨oc16, od16, .func (PySem.W.fnOf "sw_line" "Cloth.sw_line" (defArgs sLine) (defBody sLine) (defScope sLine) .none kV16 dc16 pm16 an16 cd16 ct16), sl16⟩) (c16 : PySem.W.codeIn K cd16 "Cloth.sw_line" = true) (k16 : PySem.W.keepIn K (.ref f16) = true)
    (a17 : PySem.W.findIn K (.ref C) "sw_drop" = some (some (.ref f17))) (i17 : PySem.W.isFn K (.ref f17) = true) (l17 : K.lookup f17 = some ⟨oc17, od17, .func (PySem.W.fnOf "sw_drop" "Cloth.sw_drop" (defArgs sDrop) (defBody sDrop) (defScope sDrop) .none kV17 dc17 pm17 an17 cd17 ct17), sl17⟩) (c17 : PySem.W.codeIn K cd17 "Cloth.sw_drop" = true) (k17 : PySem.W.keepIn K (.ref f17) = true)
    (a18 : PySem.W.findIn K (.ref C) "sw_threads" = some (some (.ref f18))) (i18 : PySem.W.isFn K (.ref f18) = true) (l18 : K.lookup f18 = some ⟨oc18, od18, .func (PySem.W.fnOf "sw_threads" "Cloth.sw_threads" (defArgs sThreads) (defBody sThreads) (defScope sThreads) .none kV18 dc18 pm18 an18 cd18 ct18), sl18⟩) (c18 : PySem.W.codeIn K cd18 "Cloth.sw_threads" = true) (k18 : PySem.W.keepIn K (.ref f18) = true)
    (a19 : PySem.W.findIn K (.ref C) "sw_thread" = some (some (.ref f19))) (i19 : PySem.W.isFn K (.ref f19) = true) (l19 : K.lookup f19 = some ⟨oc19, od19, .func (PySem.W.fnOf "sw_thread" "Cloth.sw_thread" (defArgs sThread) (defBody sThread) (defScope sThread) .none kV19 dc19 pm19 an19 cd19 ct19), sl19⟩) (c19 : PySem.W.codeIn K cd19 "Cloth.sw_thread" = true) (k19 : PySem.W.keepIn K (.ref f19) = true)
    (a20 : PySem.W.findIn K (.ref C) "sw_check" = some (some (.ref f20))) (i20 : PySem.W.isFn K (.ref f20) = true) (l20 : K.lookup f20 = some ⟨oc20, od20, .func (PySem.W.fnOf "sw_check" "Cloth.sw_check" (defArgs sCheck) (defBody sCheck) (defScope sCheck) .none kV20 dc20 pm20 an20 cd20 ct20), sl20⟩) (c20 : PySem.W.codeIn K cd20 "Cloth.sw_check" = true) (k20 : PySem.W.keepIn K (.ref f20) = true)
    (a21 : PySem.W.findIn K (.ref C) "sw_sides" = some (some (.ref f21))) (i21 : PySem.W.isFn K (.ref f21) = true) (l21 : K.lookup f21 = some ⟨oc21, od21, .func (PySem.W.fnOf "sw_sides" "Cloth.sw_sides" (defArgs sSides) (defBody sSides) (defScope sSides) .none kV21 dc21 pm21 an21 cd21 ct21), sl21⟩) (c21 : PySem.W.codeIn K cd21 "Cloth.sw_sides" = true) (k21 : PySem.W.keepIn K (.ref f21) = true)
    (zg0 : PySem.W.nsIn K mainGlobals "LAST_HOLE" = some (some (Value.int (63) u0)))
    (zg1 : PySem.W.nsIn K mainGlobals "MOST_LINES" = some (some (Value.int (24) u1)))
    (zg2 : PySem.W.nsIn K mainGlobals "NO_SUCH" = some (some (Value.int (-2) u2)))
    (zg3 : PySem.W.nsIn K mainGlobals "LINE_IS_THERE" = some (some (Value.int (-17) u3)))
    (zg4 : PySem.W.nsIn K mainGlobals "WRONG_INPUT" = some (some (Value.int (-22) u4)))
    (zg5 : PySem.W.nsIn K mainGlobals "NO_LINE_FREE" = some (some (Value.int (-28) u5)))
    (zg6 : PySem.W.nsIn K mainGlobals "MOST_HOLES" = some (some (Value.int (49) u6)))
    (zg7 : PySem.W.nsIn K mainGlobals "SW_START" = some (some (Value.int (0) u7)))
    (zg8 : PySem.W.nsIn K mainGlobals "SW_LINE" = some (some (Value.int (1) u8)))
    (zg9 : PySem.W.nsIn K mainGlobals "SW_DROP" = some (some (Value.int (2) u9)))
    (zg10 : PySem.W.nsIn K mainGlobals "SW_THREADS" = some (some (Value.int (3) u10)))
    (zg11 : PySem.W.nsIn K mainGlobals "SW_THREAD" = some (some (Value.int (4) u11)))
    (zg12 : PySem.W.nsIn K mainGlobals "SW_CHECK" = some (some (Value.int (5) u12)))
    (zg13 : PySem.W.nsIn K mainGlobals "SW_SIDES" = some (some (Value.int (6) u13)))
    (zn0 : PySem.W.nsIn K mainGlobals "min" = some none)
    (zn1 : PySem.W.nsIn K mainGlobals "max" = some none)
    (zn2 : PySem.W.nsIn K mainGlobals "len" = some none)
    (zn3 : PySem.W.nsIn K mainGlobals "sorted" = some none)
    (zn4 : PySem.W.nsIn K mainGlobals "enumerate" = some none)
    (zn5 : PySem.W.nsIn K mainGlobals "range" = some none)
    (aN : PySem.W.nsIn K mainGlobals "NUMBERS_BEHIND" = some (some (.ref tN))) (lN : K.lookup tN = some ⟨.type "tuple", dN, .seq #[.int 0 w0, .int 2 w1, .int 1 w2, .int 0 w3, .int 1 w4, .int 1 w5, .int 1 w6] nN, slN⟩)
    (pg : PySem.W.plainGet K C Str.empty = true) (hd : PySem.W.hasDictIn K C = true) (po : PySem.W.plainOver K C = true) (sa : PySem.W.findIn K (.ref C) "__setattr__" = some (some (.builtin "object.__setattr__"))) (mk : PySem.W.makesIn K C = true) (kc : PySem.W.keepIn K (.ref C) = true) (nL : PySem.W.findIn K (.ref C) "lines" = some none) :
    ∃ fd : FuncData, (∀ (s : Shared) (us : List Value), us.length = (["calls"] : List Str).length → BindsTo s fd ⟨us, []⟩ ((["calls"] : List Str).zip us)) ∧ ∀ base : Heap, K.In base → base.Ns mainGlobals mg → FnOk P w K mg base CX0 6 fa fd ["calls"] (spAns K) := by
  have e := hfa.symm.trans (PySem.W.mg_of X G a13)
  cases e
  have T : Txt K mg C := ⟨⟨pg, hd, po, sa⟩, nL, PySem.W.mg_of X G aC, ⟨_, PySem.W.mg_of X G zg0⟩, ⟨_, PySem.W.mg_of X G zg1⟩, ⟨_, PySem.W.mg_of X G zg2⟩, ⟨_, PySem.W.mg_of X G zg3⟩, ⟨_, PySem.W.mg_of X G zg4⟩, ⟨_, PySem.W.mg_of X G zg5⟩, ⟨_, PySem.W.mg_of X G zg6⟩, ⟨_, PySem.W.mg_of X G zg7⟩, ⟨_, PySem.W.mg_of X G zg8⟩, ⟨_, PySem.W.mg_of X G zg9⟩, ⟨_, PySem.W.mg_of X G zg10⟩, ⟨_, PySem.W.mg_of X G zg11⟩, ⟨_, PySem.W.mg_of X G zg12⟩, ⟨_, PySem.W.mg_of X G zg13⟩, PySem.W.mg_none_of X G zn0, PySem.W.mg_none_of X G zn1, PySem.W.mg_none_of X G zn2, PySem.W.mg_none_of X G zn3, PySem.W.mg_none_of X G zn4, PySem.W.mg_none_of X G zn5⟩
  have F1 := fun_mk (st := sNoLines) l1 c1 k1
  have F2 := fun_mk (st := sBetween) l2 c2 k2
  have F3 := fun_mk (st := sAtHoles) l3 c3 k3
  have F4 := fun_mk (st := sOther) l4 c4 k4
  have F5 := fun_mk (st := sFirst) l5 c5 k5
  have F6 := fun_mk (st := sWay) l6 c6 k6
  have F7 := fun_mk (st := sWays) l7 c7 k7
  have F8 := fun_mk (st := sAlong) l8 c8 k8
  have F9 := fun_mk (st := sFront) l9 c9 k9
  have F10 := fun_mk (st := sBack) l10 c10 k10
  have F11 := fun_mk (st := sBits) l11 c11 k11
  have F12 := fun_mk (st := sTo) l12 c12 k12
  have F13 := fun_mk (st := sAns) l13 c13 k13
  have F14 := fun_mk (st := sInit) l14 c14 k14
  have F15 := fun_mk (st := sStart) l15 c15 k15
  have F16 := fun_mk (st := sLine) l16 c16 k16
  have F17 := fun_mk (st := sDrop) l17 c17 k17
  have F18 := fun_mk (st := sThreads) l18 c18 k18
  have F19 := fun_mk (st := sThread) l19 c19 k19
  have F20 := fun_mk (st := sCheck) l20 c20 k20
  have F21 := fun_mk (st := sSides) l21 c21 k21
  have b1 := F1.binds (ps := []) fun _ _ _ _ _ _ us hl => match us, hl with | [], _ => rfl
  have b2 := F2.binds (ps := ["a", "b"]) fun _ _ _ _ _ _ us hl => match us, hl with | [_, _], _ => rfl
  have b3 := F3.binds (ps := ["lines"]) fun _ _ _ _ _ _ us hl => match us, hl with | [_], _ => rfl
  have b4 := F4.binds (ps := ["ends", "here"]) fun _ _ _ _ _ _ us hl => match us, hl with | [_, _], _ => rfl
  have b5 := F5.binds (ps := ["numbers", "gone"]) fun _ _ _ _ _ _ us hl => match us, hl with | [_, _], _ => rfl
  have b6 := F6.binds (ps := ["lines", "at_holes", "beginning"]) fun _ _ _ _ _ _ us hl => match us, hl with | [_, _, _], _ => rfl
  have b7 := F7.binds (ps := ["lines"]) fun _ _ _ _ _ _ us hl => match us, hl with | [_], _ => rfl
  have b8 := F8.binds (ps := ["lines", "row"]) fun _ _ _ _ _ _ us hl => match us, hl with | [_, _], _ => rfl
  have b9 := F9.binds (ps := ["along"]) fun _ _ _ _ _ _ us hl => match us, hl with | [_], _ => rfl
  have b10 := F10.binds (ps := ["along"]) fun _ _ _ _ _ _ us hl => match us, hl with | [_], _ => rfl
  have b11 := F11.binds (ps := ["numbers"]) fun _ _ _ _ _ _ us hl => match us, hl with | [_], _ => rfl
  have b12 := F12.binds (ps := ["cloth", "call", "numbers", "row"]) fun _ _ _ _ _ _ us hl => match us, hl with | [_, _, _, _], _ => rfl
  have b14 := F14.binds (ps := ["self"]) fun _ _ _ _ _ _ us hl => match us, hl with | [_], _ => rfl
  have b15 := F15.binds (ps := ["self"]) fun _ _ _ _ _ _ us hl => match us, hl with | [_], _ => rfl
  have b16 := F16.binds (ps := ["self", "a", "b"]) fun _ _ _ _ _ _ us hl => match us, hl with | [_, _, _], _ => rfl
  have b17 := F17.binds (ps := ["self", "line"]) fun _ _ _ _ _ _ us hl => match us, hl with | [_, _], _ => rfl
  have b18 := F18.binds (ps := ["self"]) fun _ _ _ _ _ _ us hl => match us, hl with | [_], _ => rfl
  have b19 := F19.binds (ps := ["self", "t"]) fun _ _ _ _ _ _ us hl => match us, hl with | [_, _], _ => rfl
  have b20 := F20.binds (ps := ["self", "holes", "n"]) fun _ _ _ _ _ _ us hl => match us, hl with | [_, _, _], _ => rfl
  have b21 := F21.binds (ps := ["self", "holes", "n"]) fun _ _ _ _ _ _ us hl => match us, hl with | [_, _, _], _ => rfl
  have m1 := PySem.W.mg_of X G a1
  have m2 := PySem.W.mg_of X G a2
  have m3 := PySem.W.mg_of X G a3
  have m4 := PySem.W.mg_of X G a4
  have m5 := PySem.W.mg_of X G a5
  have m6 := PySem.W.mg_of X G a6
  have m7 := PySem.W.mg_of X G a7
  have m8 := PySem.W.mg_of X G a8
  have m9 := PySem.W.mg_of X G a9
  have m10 := PySem.W.mg_of X G a10
  have m11 := PySem.W.mg_of X G a11
  have m12 := PySem.W.mg_of X G a12
  refine ⟨PySem.W.fnOf "answers" "answers" (defArgs sAns) (defBody sAns) (defScope sAns) .none kV13 dc13 pm13 an13 cd13 ct13, fun s us hu => match us, hu with | [_], _ => .of_eq rfl, fun base _ _ => ?_⟩
  have GI := ok_init (P := P) (w := w) (base := base) F14 T F1 b1 m1
  have D0 : Def P w K mg base C "sw_start" 2 _ _ _ (spStart C) := ⟨⟨a15, i15, k15⟩, b15, ok_start F15 T F1 b1 m1⟩
  have D1 : Def P w K mg base C "sw_line" 2 _ _ _ (spLine C) := ⟨⟨a16, i16, k16⟩, b16, ok_line F16 T F2 b2 m2⟩
  have D2 : Def P w K mg base C "sw_drop" 1 _ _ _ (spDrop C) := ⟨⟨a17, i17, k17⟩, b17, ok_drop F17 T⟩
  have GW := ok_way (P := P) (w := w) (base := base) F6 F5 b5 m5 F4 b4 m4
  have GV := ok_ways (P := P) (w := w) (base := base) F7 T F3 b3 m3 F6 b6 m6 GW
  have D3 : Def P w K mg base C "sw_threads" 4 _ _ _ (spThreads C) := ⟨⟨a18, i18, k18⟩, b18, ok_threads F18 T F7 b7 m7 GV⟩
  have D4 : Def P w K mg base C "sw_thread" 4 _ _ _ (spThread C) := ⟨⟨a19, i19, k19⟩, b19, ok_thread F19 T F7 b7 m7 GV⟩
  have GA := ok_along (P := P) (w := w) (base := base) F8 T F2 b2 m2
  have D5 : Def P w K mg base C "sw_check" 3 _ _ _ (spCheck C) := ⟨⟨a20, i20, k20⟩, b20, ok_check F20 T F8 b8 m8 GA F9 b9 m9 F10 b10 m10⟩
  have D6 : Def P w K mg base C "sw_sides" 3 _ _ _ (spSides C) := ⟨⟨a21, i21, k21⟩, b21, ok_sides F21 T F8 b8 m8 GA F9 b9 m9 F10 b10 m10 F11 b11 m11⟩
  have GT := ok_to (P := P) (w := w) (base := base) F12 T D0 D1 D2 D3 D4 D5 D6
  have sN : ∀ H : Hp, SqT K H tN nbv := fun H => .inr ⟨_, _, _, lN, rfl, rfl, (by show 7 ≤ sizeLine; decide), .cons ⟨_, rfl⟩ (.cons ⟨_, rfl⟩ (.cons ⟨_, rfl⟩ (.cons ⟨_, rfl⟩ (.cons ⟨_, rfl⟩ (.cons ⟨_, rfl⟩ (.cons ⟨_, rfl⟩ .nil))))))⟩
  exact ok_ans F13 T ⟨mk, a14, i14, kc⟩ GI b14 F12 b12 m12 GT (PySem.W.mg_of X G aN) sN
end Bsp
end
set_option Elab.async false
set_option linter.all false
open PySem PySem.W PyProof.Rows
set_option maxRecDepth 100000 in
set_option maxHeartbeats 0 in
theorem PySem.Challenge.cw_bothsides_s01_answers_holds : PySem.Challenge.rw_bothsides_s01_answers.Holds := by
  w_on; k_headS; (case hw => exact ⟨[.list [.int 0]], by decide +kernel, by decide +kernel⟩)
  k_fillS
  refine L2.walk_specK (r := PySem.Challenge.rw_bothsides_s01_answers) (k := 6) (CX := L2.CX0) (ps := ["calls"]) (sp := Bsp.spAns) (by decide +kernel) rfl rfl ⟨rfl, by decide, by decide⟩ (fun w h Y => PySem.W.kIn_of Y) ?F ?S (fun _ _ _ _ z => z)
  case F =>
    intro w mg fa h Y KX G hmg
    refine' Bsp.all_mk KX G hmg ?aC ?a1 ?l1 ?c1 ?k1 ?a2 ?l2 ?c2 ?k2 ?a3 ?l3 ?c3 ?k3 ?a4 ?l4 ?c4 ?k4 ?a5 ?l5 ?c5 ?k5 ?a6 ?l6 ?c6 ?k6 ?a7 ?l7 ?c7 ?k7 ?a8 ?l8 ?c8 ?k8 ?a9 ?l9 ?c9 ?k9 ?a10 ?l10 ?c10 ?k10 ?a11 ?l11 ?c11 ?k11 ?a12 ?l12 ?c12 ?k12 ?a13 ?l13 ?c13 ?k13 ?a14 ?i14 ?l14 ?c14 ?k14 ?a15 ?i15 ?l15 ?c15 ?k15 ?a16 ?i16 ?l16 ?c16 ?k16 ?a17 ?i17 ?l17 ?c17 ?k17 ?a18 ?i18 ?l18 ?c18 ?k18 ?a19 ?i19 ?l19 ?c19 ?k19 ?a20 ?i20 ?l20 ?c20 ?k20 ?a21 ?i21 ?l21 ?c21 ?k21 ?zg0 ?zg1 ?zg2 ?zg3 ?zg4 ?zg5 ?zg6 ?zg7 ?zg8 ?zg9 ?zg10 ?zg11 ?zg12 ?zg13 ?zn0 ?zn1 ?zn2 ?zn3 ?zn4 ?zn5 ?aN ?lN ?pg ?hd ?po ?sa ?mk ?kc ?nL
    (case aC => k_is); (case a1 => k_is); (case l1 => k_is); (case c1 => k_is); (case k1 => k_is); (case a2 => k_is)
    (case l2 => k_is); (case c2 => k_is); (case k2 => k_is); (case a3 => k_is); (case l3 => k_is); (case c3 => k_is)
    (case k3 => k_is); (case a4 => k_is); (case l4 => k_is); (case c4 => k_is); (case k4 => k_is); (case a5 => k_is)
    (case l5 => k_is); (case c5 => k_is); (case k5 => k_is); (case a6 => k_is); (case l6 => k_is); (case c6 => k_is)
    (case k6 => k_is); (case a7 => k_is); (case l7 => k_is); (case c7 => k_is); (case k7 => k_is); (case a8 => k_is)
    (case l8 => k_is); (case c8 => k_is); (case k8 => k_is); (case a9 => k_is); (case l9 => k_is); (case c9 => k_is)
    (case k9 => k_is); (case a10 => k_is); (case l10 => k_is); (case c10 => k_is); (case k10 => k_is); (case a11 => k_is)
    (case l11 => k_is); (case c11 => k_is); (case k11 => k_is); (case a12 => k_is); (case l12 => k_is); (case c12 => k_is)
    (case k12 => k_is); (case a13 => k_is); (case l13 => k_is); (case c13 => k_is); (case k13 => k_is); (case a14 => k_is)
    (case i14 => k_is); (case l14 => k_is); (case c14 => k_is); (case k14 => k_is); (case a15 => k_is); (case i15 => k_is)
    (case l15 => k_is); (case c15 => k_is); (case k15 => k_is); (case a16 => k_is); (case i16 => k_is); (case l16 => k_is)
    (case c16 => k_is); (case k16 => k_is); (case a17 => k_is); (case i17 => k_is); (case l17 => k_is); (case c17 => k_is)
    (case k17 => k_is); (case a18 => k_is); (case i18 => k_is); (case l18 => k_is); (case c18 => k_is); (case k18 => k_is)
    (case a19 => k_is); (case i19 => k_is); (case l19 => k_is); (case c19 => k_is); (case k19 => k_is); (case a20 => k_is)
    (case i20 => k_is); (case l20 => k_is); (case c20 => k_is); (case k20 => k_is); (case a21 => k_is); (case i21 => k_is)
    (case l21 => k_is); (case c21 => k_is); (case k21 => k_is); (case zg0 => k_is); (case zg1 => k_is); (case zg2 => k_is)
    (case zg3 => k_is); (case zg4 => k_is); (case zg5 => k_is); (case zg6 => k_is); (case zg7 => k_is); (case zg8 => k_is)
    (case zg9 => k_is); (case zg10 => k_is); (case zg11 => k_is); (case zg12 => k_is); (case zg13 => k_is); (case zn0 => k_is)
    (case zn1 => k_is); (case zn2 => k_is); (case zn3 => k_is); (case zn4 => k_is); (case zn5 => k_is); (case aN => k_is)
    (case lN => k_is); (case pg => k_is); (case hd => k_is); (case po => k_is); (case sa => k_is); (case mk => k_is)
    (case kc => k_is); (case nL => k_is)
  case S =>
    intro K H xs a hO hwi hask hx
    cases hx with
    | cons h1 h2 =>
      cases h2
      cases h1 with
      | lst hs ha =>
        have e := L2.ints_dw a.1 _ ha
        subst e
        exact ⟨_, a.1, rfl, hs, hask, fun H' p hp => .lst (L2.SqL.of hp) (L2.dw_ints _)⟩
