import PyProof.Rows.All
import Wide.All
import OpenK.AllK
import Wide.FinOn
import PyProof.EqAt
import PyProof.EqKinds
import PyProof.TupleCall
import KE.BitLaws
import Open.SpecLaws
import KE.OsHead
import KE.OsGo
import PyFlatLaws
import PySem.Challenge.RW_firstbad_s01_answers
-- CHANGE: your row's module here, as the last of these rows
set_option Elab.async false
set_option linter.all false
set_option maxRecDepth 100000
namespace L2
open PySem PySem.Spec PyProof.Rows

/-- a key: an int or a str -/
abbrev Key := Sum Int Str
def keyIs : Key → Value → Bool
  | .inl k, v => Value.isInt k v
  | .inr x, v => Value.isStrOf x v
def keyH (w : World) : Key → Int
  | .inl k => hashInt k
  | .inr x => hashStr w x
theorem keyIs_shape : ∀ {k : Key} {v : Value}, keyIs k v = true → (∃ i t, k = Sum.inl i ∧ v = Value.int i t) ∨ (∃ x t, k = Sum.inr x ∧ v = Value.str x t)
  | .inl i, v, h => by
    obtain ⟨t, e⟩ := Value.isInt_shape (k := i) (v := v) h
    exact .inl ⟨i, t, rfl, e⟩
  | .inr x, v, h => by
    obtain ⟨t, e⟩ := Value.isStrOf_shape (x := x) (v := v) h
    exact .inr ⟨x, t, rfl, e⟩
theorem keyIs_int (i : Int) (t : Tok) : keyIs (.inl i) (.int i t) = true := by simp [keyIs, Value.isInt]
theorem keyIs_str (x : Str) (t : Tok) : keyIs (.inr x) (.str x t) = true := by simp [keyIs, Value.isStrOf]
theorem key_ll (a b : Int) : decide ((Sum.inl a : Key) = Sum.inl b) = (a == b) := by
  by_cases e : a = b
  · subst e; simp
  · have h : ¬ (Sum.inl a : Key) = Sum.inl b := fun q => e (Sum.inl.inj q)
    rw [decide_eq_false h]
    exact (beq_eq_false_iff_ne.mpr e).symm
theorem key_rr (a b : Str) : decide ((Sum.inr a : Key) = Sum.inr b) = decide (a = b) := by
  by_cases e : a = b
  · subst e; simp
  · have h : ¬ (Sum.inr a : Key) = Sum.inr b := fun q => e (Sum.inr.inj q)
    rw [decide_eq_false h, decide_eq_false e]
theorem key_lr (a : Int) (b : Str) : decide ((Sum.inl a : Key) = Sum.inr b) = false := decide_eq_false (fun q => nomatch q)
theorem key_rl (a : Str) (b : Int) : decide ((Sum.inr a : Key) = Sum.inl b) = false := decide_eq_false (fun q => nomatch q)

def mixKind (prog : Program) (w : World) : PySem.KeyKind prog w Key where
  is := keyIs
  hash := keyH w
  inj := fun v a b ha hb => by
    rcases keyIs_shape ha with ⟨i, t, rfl, rfl⟩ | ⟨x, t, rfl, rfl⟩
    · rcases keyIs_shape hb with ⟨j, u, rfl, e⟩ | ⟨y, u, rfl, e⟩
      · injection e with e1 _; rw [e1]
      · exact nomatch e
    · rcases keyIs_shape hb with ⟨j, u, rfl, e⟩ | ⟨y, u, rfl, e⟩
      · exact nomatch e
      · injection e with e1 _; rw [e1]
  byValue := fun k v h => by
    rcases keyIs_shape h with ⟨i, t, rfl, rfl⟩ | ⟨x, t, rfl, rfl⟩ <;> rfl
  pyHash := fun hv h => by
    rcases keyIs_shape hv with ⟨i, t, rfl, rfl⟩ | ⟨x, t, rfl, rfl⟩
    · exact wpAny_pyHash_int h
    · exact wpAny_pyHash_str h
  eqBool := fun hu hv h => by
    rcases keyIs_shape hu with ⟨i, t, rfl, rfl⟩ | ⟨x, t, rfl, rfl⟩
    · rcases keyIs_shape hv with ⟨j, u, rfl, rfl⟩ | ⟨y, u, rfl, rfl⟩
      · rw [key_ll] at h; exact wpAny_eqBool_int h
      · rw [key_lr] at h; exact SeqAt.EqAt.int_str i t y u _ _ _ _ h
    · rcases keyIs_shape hv with ⟨j, u, rfl, rfl⟩ | ⟨y, u, rfl, rfl⟩
      · rw [key_rl] at h; exact SeqAt.EqAt.str_int x t j u _ _ _ _ h
      · rw [key_rr] at h; exact wpAny_eqBool_str h
  «strs» := fun k x t v h => by
    rcases keyIs_shape h with ⟨i, u, rfl, e⟩ | ⟨y, u, rfl, e⟩
    · exact nomatch e
    · injection e with e1 _
      subst e1
      cases v <;> rfl

theorem mixKind_int (prog : Program) (w : World) (i : Int) (t : Tok) : (mixKind prog w).is (.inl i) (.int i t) = true := keyIs_int i t
theorem mixKind_str (prog : Program) (w : World) (x : Str) (t : Tok) : (mixKind prog w).is (.inr x) (.str x t) = true := keyIs_str x t
end L2

namespace L2
open PySem PySem.Spec PyProof.Rows

/-- a value, without the heap -/
inductive V where
  | non | bl (b : Bool) | int (i : Int) | str (x : Str) | byt (b : Array UInt8) | flt (b : UInt64) | ref (a : Addr) | ty (n : String)
  deriving DecidableEq

def RelV : V → Value → Prop
  | .non, u => u = Value.none
  | .bl b, u => u = Value.bool b
  | .int i, u => ∃ t, u = Value.int i t
  | .str x, u => ∃ t, u = Value.str x t
  | .byt b, u => ∃ t, u = Value.bytes b t
  | .flt b, u => ∃ t, u = Value.float b t
  | .ref a, u => u = Value.ref a
  | .ty n, u => u = Value.type n

abbrev Vals : List V → List Value → Prop := Paired RelV
theorem Vals.length {xs : List V} {us : List Value} (r : Vals xs us) : xs.length = us.length := Paired.length r
theorem Vals.get : ∀ {xs : List V} {us : List Value} {i : Nat} {x : V}, Vals xs us → xs[i]? = some x → ∃ u, us[i]? = some u ∧ RelV x u
  | _, _, _, _, .nil, e => by simp at e
  | _, _, 0, _, .cons r _, e => by simp at e; subst e; exact ⟨_, rfl, r⟩
  | _, _, i + 1, x, .cons _ t, e => by
    obtain ⟨u, h1, h2⟩ := Vals.get (i := i) (x := x) t (by simpa using e)
    exact ⟨u, by simpa using h1, h2⟩
theorem Vals.set {x : V} {u : Value} (r : RelV x u) : ∀ {xs : List V} {us : List Value} (i : Nat), Vals xs us → Vals (xs.set i x) (us.set i u)
  | _, _, _, .nil => .nil
  | _, _, 0, .cons _ t => .cons r t
  | _, _, i + 1, .cons q t => .cons q (Vals.set r i t)
theorem Vals.append : ∀ {xs ys : List V} {us ws : List Value}, Vals xs us → Vals ys ws → Vals (xs ++ ys) (us ++ ws)
  | _, _, _, _, .nil, s => s
  | _, _, _, _, .cons r t, s => .cons r (Vals.append t s)
theorem Vals.take : ∀ {xs : List V} {us : List Value} (n : Nat), Vals xs us → Vals (xs.take n) (us.take n)
  | _, _, 0, _ => .nil
  | _, _, _ + 1, .nil => .nil
  | _, _, n + 1, .cons r t => .cons r (Vals.take n t)
theorem Vals.drop : ∀ {xs : List V} {us : List Value} (n : Nat), Vals xs us → Vals (xs.drop n) (us.drop n)
  | _, _, 0, r => r
  | _, _, _ + 1, .nil => .nil
  | _, _, n + 1, .cons _ t => Vals.drop n t
theorem Vals.none_of : ∀ {xs : List V} {us : List Value} {i : Nat}, Vals xs us → xs[i]? = none → us[i]? = none := fun {xs us i} r e => by
  have h1 := r.length
  have h2 : xs.length ≤ i := List.getElem?_eq_none_iff.mp e
  exact List.getElem?_eq_none_iff.mpr (by omega)

def RelO : Option V → Option Value → Prop
  | some v, some u => RelV v u
  | none, none => True
  | _, _ => False
def KV {κ : Type} : List (κ × V) → List (κ × Value) → Prop := Paired fun (p : κ × V) (q : κ × Value) => p.1 = q.1 ∧ RelV p.2 q.2

/-- a key of a dict (00_mix): an int or a text -/
def kV : Key → V
  | .inl i => .int i
  | .inr x => .str x

/-- what stands at a tracked address -/
inductive HO where
  /-- a list -/
  | lst (xs : List V)
  /-- a tuple (never changes) -/
  | tup (xs : List V)
  /-- a dict whose keys are ints and texts; one whose keys are tuples of ints and texts (the empty one is both) -/
  | dK (kvs : List (Key × V)) | dT (kvs : List (List Key × V))
  /-- a set of ints: its members, its size -/
  | set (S : Int → Bool) (n : Nat)
  /-- an instance of the class at C, its dict at dx, its attributes -/
  | ins (C dx : Addr) (fs : List (Str × V))
  /-- the dict of the instance at x -/
  | own (x : Addr)
  /-- the dict of an exception -/
  | xd (fs : List (Str × V))
  /-- a bound method, f of x -/
  | met (f x : Addr)
  /-- a range object lo, lo + 1, .. below hi -/
  | rng (lo hi : Int)
  /-- a thing that is known to the object (the script; a dict while a loop walks it): read, never written while it is so -/
  | frz (o : Obj) (u : HO)
  /-- a code object's table -/
  | tbl (ps : Array Value)
  /-- any other thing, by what is true of its one object (a def of one's own: SetO a S n := HO.ext fun h => ..) -/
  | ext (φ : Heap → Prop)

abbrev Hp := Addr → Option HO
def upd (H : Hp) (a : Addr) (o : HO) : Hp := fun b => if b = a then some o else H b
theorem upd_same {H : Hp} {a : Addr} {o : HO} : upd H a o a = some o := by unfold upd; rw [if_pos rfl]
theorem upd_ne {H : Hp} {a b : Addr} {o : HO} (h : b ≠ a) : upd H a o b = H b := by unfold upd; rw [if_neg h]
theorem upd_upd {H : Hp} {a : Addr} {o u : HO} : upd (upd H a o) a u = upd H a u := by
  funext b; unfold upd; split <;> rfl
/-- two objects of different content stand apart -/
theorem ne_of {H : Hp} {a b : Addr} {o u : HO} (h : H a = some o) (h' : H b = some u) (d : o ≠ u) : a ≠ b := by
  intro e; subst e; rw [h] at h'; exact d (Option.some.inj h')
theorem ne_of_none {H : Hp} {a b : Addr} {o : HO} (h : H a = some o) (h' : H b = none) : a ≠ b := by
  intro e; subst e; rw [h] at h'; cases h'

section
variable (P : Program) (w : World)
def ObjOk (H : Hp) (h : Heap) (a : Addr) : HO → Prop
  | .lst xs => xs.length ≤ sizeLine ∧ ∃ (its : List Value) (n : Nat), Vals xs its ∧ h.get? a = some { cls := .type "list", data := .seq its.toArray n }
  | .tup xs => xs.length ≤ sizeLine ∧ ∃ its : List Value, Vals xs its ∧ IsTup h a its.toArray
  | .dK kvs => kvs.length ≤ sizeLine ∧ (a == sysModules) = false ∧ ∃ vs, KV kvs vs ∧ h.DictOf (mixKind P w) a vs
  | .dT kvs => kvs.length ≤ sizeLine ∧ (a == sysModules) = false ∧ ∃ xs : List (List Key × Addr × Value),
      Paired (fun (p : List Key × V) (q : List Key × Addr × Value) => p.1 = q.1 ∧ H q.2.1 = some (.tup (p.1.map kV)) ∧ RelV p.2 q.2.2) kvs xs ∧
      ∃ o es ep, h.get? a = some o ∧ o.ExactDict ∧ o.data = .dict es ep ∧ es.toList = xs.map (entryOfKey (tupleKind (mixKind P w))) ∧ (xs.map (·.1)).Nodup
  | .set S n => h.SetOf (intKind P w) a S n
  | .ins C dx fs => H dx = some (.own a) ∧ fs.length ≤ 1000 ∧ dx ≠ a ∧ h.get? a = some (PySem.W.instObj C dx) ∧
      ∃ mA, h.Ns1 dx mA ∧ (∀ f, RelO (fs.lookup f) (mA f)) ∧ PySem.Within mA (fs.map (·.1))
  | .own _ => ∃ o, h.get? a = some o
  | .xd fs => ∃ mA, h.Ns1 a mA ∧ ∀ f, RelO (fs.lookup f) (mA f)
  | .rng lo hi => ∃ t u v, h.get? a = some { cls := .type "range", data := .fields #[.int lo t, .int hi u, .int 1 v] }
  | .frz o u => h.get? a = some o ∧ ObjOk H h a u
  | .tbl ps => h.get? a = some { cls := .none, data := .fields ps }
  | .met f x => h.get? a = some (PySem.W.methodObj (.ref f) (.ref x))
  | .ext φ => φ h ∧ (∃ o, h.get? a = some o) ∧ ∀ h1 h2 : Heap, φ h1 → (∀ o, h1.get? a = some o → h2.get? a = some o) → φ h2
/-- the abstract heap is held -/
def HOk (H : Hp) (h : Heap) : Prop := ∀ a o, H a = some o → ObjOk P w H h a o
end

section
variable {P : Program} {w : World} {H H' : Hp} {h h' : Heap} {a : Addr} {o : HO}
theorem ObjOk.lt (x : ObjOk P w H h a o) : a < h.objs.size := by
  cases o with
  | lst xs => obtain ⟨_, _, _, _, e⟩ := x; exact Heap.lt_size e
  | tup xs => obtain ⟨_, _, _, p⟩ := x; exact p.lt
  | dK kvs => obtain ⟨_, _, _, _, o, _, _, e, _⟩ := x; exact Heap.lt_size e
  | dT kvs => obtain ⟨_, _, _, _, o, _, _, e, _⟩ := x; exact Heap.lt_size e
  | set S n => obtain ⟨o, _, _, _, e, _⟩ := x; exact Heap.lt_size e
  | ins C dx fs => obtain ⟨_, _, _, e, _⟩ := x; exact Heap.lt_size e
  | own y => obtain ⟨_, e⟩ := x; exact Heap.lt_size e
  | xd fs => obtain ⟨_, ⟨_, _, _, e, _⟩, _⟩ := x; exact Heap.lt_size e
  | rng lo hi => obtain ⟨_, _, _, e⟩ := x; exact Heap.lt_size e
  | frz ob u => obtain ⟨e, _⟩ := x; exact Heap.lt_size e
  | tbl ps => exact Heap.lt_size (show h.get? a = some _ from x)
  | met f y => exact Heap.lt_size (show h.get? a = some _ from x)
  | ext φ => obtain ⟨_, ⟨_, e⟩, _⟩ := x; exact Heap.lt_size e
theorem Paired.mapP {α β : Type} {F G : α → β → Prop} : ∀ {l₁ : List α} {l₂ : List β}, Paired F l₁ l₂ → (∀ a b, F a b → G a b) → Paired G l₁ l₂
  | _, _, .nil, _ => .nil
  | _, _, .cons r t, f => .cons (f _ _ r) (Paired.mapP t f)
/-- what an object's description leans on: its own object, its own dict, the tuples -/
theorem ObjOk.stay (x : ObjOk P w H h a o) (k : ∀ b u, (b = a ∨ H b = some (.own a)) → h.get? b = some u → h'.get? b = some u)
    (ho : ∀ b, H b = some (.own a) → H' b = some (.own a)) (ht : ∀ b xs, H b = some (.tup xs) → H' b = some (.tup xs)) : ObjOk P w H' h' a o := by
  induction o with
  | lst xs => obtain ⟨z, its, n, r, e⟩ := x; exact ⟨z, its, n, r, k _ _ (.inl rfl) e⟩
  | tup xs => obtain ⟨z, its, r, ob, e, c⟩ := x; exact ⟨z, its, r, ob, k _ _ (.inl rfl) e, c⟩
  | dK kvs => obtain ⟨z, y, vs, r, ob, es, ep, e, c⟩ := x; exact ⟨z, y, vs, r, ob, es, ep, k _ _ (.inl rfl) e, c⟩
  | dT kvs =>
    obtain ⟨z, y, xs, r, ob, es, ep, e, c⟩ := x
    exact ⟨z, y, xs, Paired.mapP r fun p q z => ⟨z.1, ht _ _ z.2.1, z.2.2⟩, ob, es, ep, k _ _ (.inl rfl) e, c⟩
  | set S n => obtain ⟨ob, es, ep, t, e, c⟩ := x; exact ⟨ob, es, ep, t, k _ _ (.inl rfl) e, c⟩
  | ins C dx fs =>
    obtain ⟨d, z, ne, e, mA, ⟨od, es, ep, e2, c⟩, r⟩ := x
    exact ⟨ho _ d, z, ne, k _ _ (.inl rfl) e, mA, ⟨od, es, ep, k _ _ (.inr d) e2, c⟩, r⟩
  | own y => obtain ⟨ob, e⟩ := x; exact ⟨ob, k _ _ (.inl rfl) e⟩
  | xd fs => obtain ⟨mA, ⟨od, es, ep, e, c⟩, r⟩ := x; exact ⟨mA, ⟨od, es, ep, k _ _ (.inl rfl) e, c⟩, r⟩
  | rng lo hi => obtain ⟨t, u, v, e⟩ := x; exact ⟨t, u, v, k _ _ (.inl rfl) e⟩
  | frz ob u ih => obtain ⟨e, q⟩ := x; exact ⟨k _ _ (.inl rfl) e, ih q⟩
  | tbl ps =>
    have e : h.get? a = some { cls := .none, data := .fields ps } := x
    show h'.get? a = some { cls := .none, data := .fields ps }
    exact k a _ (.inl rfl) e
  | met f y =>
    have e : h.get? a = some (PySem.W.methodObj (.ref f) (.ref y)) := x
    show h'.get? a = some (PySem.W.methodObj (.ref f) (.ref y))
    exact k a _ (.inl rfl) e
  | ext φ => obtain ⟨p, ⟨o, e⟩, st⟩ := x; exact ⟨st _ _ p fun o q => k _ _ (.inl rfl) q, ⟨o, k _ _ (.inl rfl) e⟩, st⟩
theorem HOk.lt (x : HOk P w H h) (e : H a = some o) : a < h.objs.size := (x a o e).lt
theorem HOk.fresh (x : HOk P w H h) (e : h.objs.size ≤ a) : H a = none := by
  cases q : H a with
  | none => rfl
  | some u => exact absurd (Nat.lt_of_lt_of_le (x.lt q) e) (Nat.lt_irrefl _)
/-- every object of the heap is kept -/
theorem HOk.kept (x : HOk P w H h) (k : ∀ b u, h.get? b = some u → h'.get? b = some u) : HOk P w H h' := fun a o e =>
  (x a o e).stay (fun b u _ q => k b u q) (fun _ q => q) fun _ _ q => q
/-- a new object is laid and tracked -/
theorem HOk.laid (x : HOk P w H h) (k : ∀ b u, h.get? b = some u → h'.get? b = some u) (hp : h.objs.size ≤ a) (new : ObjOk P w (upd H a o) h' a o) : HOk P w (upd H a o) h' := fun b u e => by
  have hn := x.fresh hp
  by_cases hb : b = a
  · subst hb; rw [upd_same] at e; cases e; exact new
  · rw [upd_ne hb] at e
    exact (x b u e).stay (fun c v _ q => k c v q) (fun c q => by rw [upd_ne (ne_of_none q hn)]; exact q) fun c xs q => by rw [upd_ne (ne_of_none q hn)]; exact q
end

/-- what may be read as u: it is u, or a known u -/
def Rd (H : Hp) (a : Addr) (u : HO) : Prop := H a = some u ∨ ∃ o, H a = some (.frz o u)
theorem Rd.of {H : Hp} {a : Addr} {u : HO} (h : H a = some u) : Rd H a u := .inl h
theorem Rd.ok {P : Program} {w : World} {H : Hp} {h : Heap} {a : Addr} {u : HO} (r : Rd H a u) (x : HOk P w H h) : ObjOk P w H h a u := by
  rcases r with r | ⟨o, r⟩
  · exact x a u r
  · obtain ⟨_, q⟩ := x a _ r
    exact q
/-- what may be written -/
def Mut : Option HO → Prop
  | some (.lst _) => True
  | some (.dK _) => True
  | some (.dT _) => True
  | some (.set _ _) => True
  | some (.ins _ _ _) => True
  | some (.ext _) => True
  | _ => False
section
variable {P : Program} {w : World} {H : Hp} {h h' : Heap} {x e : Addr} {o' : HO}
/-- the object at e is changed: x itself, or the dict of the instance x -/
theorem HOk.write (ok : HOk P w H h) (mu : Mut (H x)) (he : e = x ∨ H e = some (.own x)) (k : ∀ b u, b ≠ e → h.get? b = some u → h'.get? b = some u) (heo : ∃ u, h'.get? e = some u)
    (new : ObjOk P w (upd H x o') h' x o') : HOk P w (upd H x o') h' := fun b u q => by
  have nown : ∀ c y, H c = some (.own y) → c ≠ x := fun c y r z => by subst z; rw [r] at mu; exact mu
  have ntup : ∀ c xs, H c = some (.tup xs) → c ≠ x := fun c xs r z => by subst z; rw [r] at mu; exact mu
  by_cases hb : b = x
  · subst hb; rw [upd_same] at q; cases q; exact new
  · rw [upd_ne hb] at q
    by_cases hbe : b = e
    · have q' : H b = some (.own x) := by
        rcases he with z | z
        · exact absurd (hbe.trans z) hb
        · rw [hbe]; exact z
      rw [q] at q'; cases q'
      obtain ⟨v, hv⟩ := heo
      exact ⟨v, by rw [hbe]; exact hv⟩
    · refine (ok b u q).stay (fun c v hc r => k c v ?_ r) (fun c r => by rw [upd_ne (nown c b r)]; exact r) fun c xs r => by rw [upd_ne (ntup c xs r)]; exact r
      rcases hc with rfl | hc
      · exact hbe
      · rintro rfl
        rcases he with z | z
        · exact nown c b hc z
        · rw [hc] at z; cases z; exact hb rfl
end

structure Un (fs ex : List Addr) (H H' : Hp) (h h' : Heap) : Prop where
  keep : ∀ b o, h.get? b = some o → H b = none → b ∉ fs → b ∉ ex → h'.get? b = some o
  slot : ∀ b o, h.get? b = some o → H b = none → b ∈ fs → b ∉ ex → ∃ sl, h'.get? b = some { o with slots := sl }
  free : ∀ b o, h.get? b = some o → H b = none → b ∉ ex → H' b = none
  there : ∀ b o, h.get? b = some o → b ∉ ex → ∃ o', h'.get? b = some o'
  tups : ∀ b xs, H b = some (.tup xs) → H' b = some (.tup xs)
  frzs : ∀ b o u, H b = some (.frz o u) → H' b = some (.frz o u)
  tbls : ∀ b ps, H b = some (.tbl ps) → ∃ more, H' b = some (.tbl (ps ++ more))
section
variable {fs fs' ex ex' : List Addr} {H H1 H2 : Hp} {h h1 h2 h' : Heap} {a x e : Addr} {o : HO}
theorem Un.any (u : Un fs ex H H1 h h1) {b : Addr} {ob : Obj} (q : h.get? b = some ob) (n : H b = none) (hx : b ∉ ex) : ∃ sl, h1.get? b = some { ob with slots := sl } := by
  by_cases hb : b ∈ fs
  · exact u.slot b ob q n hb hx
  · exact ⟨ob.slots, u.keep b ob q n hb hx⟩
theorem Un.trans (a : Un fs ex H H1 h h1) (b : Un fs ex H1 H2 h1 h2) : Un fs ex H H2 h h2 where
  keep := fun c ob q n hc hx => b.keep c ob (a.keep c ob q n hc hx) (a.free c ob q n hx) hc hx
  slot := fun c ob q n hc hx => by
    obtain ⟨sl, e1⟩ := a.slot c ob q n hc hx
    obtain ⟨sl', e2⟩ := b.slot c _ e1 (a.free c ob q n hx) hc hx
    exact ⟨sl', e2⟩
  free := fun c ob q n hx => by
    obtain ⟨o', e1⟩ := a.there c ob q hx
    exact b.free c o' e1 (a.free c ob q n hx) hx
  there := fun c ob q hx => by
    obtain ⟨o', e1⟩ := a.there c ob q hx
    exact b.there c o' e1 hx
  tups := fun c xs q => b.tups c xs (a.tups c xs q)
  frzs := fun c ob xs q => b.frzs c ob xs (a.frzs c ob xs q)
  tbls := fun c ps q => by
    obtain ⟨m1, e1⟩ := a.tbls c ps q
    obtain ⟨m2, e2⟩ := b.tbls c _ e1
    exact ⟨m1 ++ m2, by rw [e2, Array.append_assoc]⟩
theorem Un.kept (k : ∀ b u, h.get? b = some u → h'.get? b = some u) : Un fs ex H H h h' :=
  ⟨fun b ob q _ _ _ => k b ob q, fun b ob q _ _ _ => ⟨ob.slots, k b ob q⟩, fun _ _ _ n _ => n, fun b ob q _ => ⟨ob, k b ob q⟩, fun _ _ q => q, fun _ _ _ q => q, fun _ ps q => ⟨#[], by rw [q]; simp⟩⟩
theorem Un.refl : Un fs ex H H h h := Un.kept fun _ _ q => q
theorem Un.laid (k : ∀ b u, h.get? b = some u → h'.get? b = some u) (hp : h.objs.size ≤ a) (hn : H a = none) : Un fs ex H (upd H a o) h h' where
  keep := fun b u q _ _ _ => k b u q
  slot := fun b u q _ _ _ => ⟨u.slots, k b u q⟩
  free := fun b u q n _ => by rw [upd_ne (Nat.ne_of_lt (Nat.lt_of_lt_of_le (Heap.lt_size q) hp))]; exact n
  there := fun b u q _ => ⟨u, k b u q⟩
  tups := fun b xs q => by rw [upd_ne (ne_of_none q hn)]; exact q
  frzs := fun b u xs q => by rw [upd_ne (ne_of_none q hn)]; exact q
  tbls := fun b ps q => ⟨#[], by rw [upd_ne (ne_of_none q hn), q]; simp⟩
theorem Un.write (mu : Mut (H x)) (he : e = x ∨ H e = some (.own x)) (k : ∀ b u, b ≠ e → h.get? b = some u → h'.get? b = some u) (heo : ∃ u, h'.get? e = some u) : Un fs ex H (upd H x o) h h' := by
  have hx : ∀ b, H b = none → b ≠ x := fun b n z => by subst z; rw [n] at mu; exact mu
  have hb : ∀ b, H b = none → b ≠ e := fun b n z => by
    subst z
    rcases he with r | r
    · exact hx b n r
    · rw [n] at r; cases r
  have hm : ∀ b u, H b = some u → ¬ Mut (some u) → b ≠ x := fun b u q nm z => by subst z; rw [q] at mu; exact nm mu
  refine ⟨fun b u q n _ _ => k b u (hb b n) q, fun b u q n _ _ => ⟨u.slots, k b u (hb b n) q⟩, fun b u q n _ => by rw [upd_ne (hx b n)]; exact n, fun b u q _ => ?_,
    fun b xs q => by rw [upd_ne (hm b _ q fun z => z)]; exact q, fun b u xs q => by rw [upd_ne (hm b _ q fun z => z)]; exact q, fun b ps q => ⟨#[], by rw [upd_ne (hm b _ q fun z => z), q]; simp⟩⟩
  by_cases hbe : b = e
  · subst hbe; exact heo
  · exact ⟨u, k b u hbe q⟩
theorem Un.mono (u : Un fs ex H H1 h h1) (hs : ∀ b ∈ fs, b ∈ fs') (hx : ∀ b ∈ ex, b ∈ ex') : Un fs' ex' H H1 h h1 :=
  ⟨fun b ob q n hb he => u.keep b ob q n (fun z => hb (hs b z)) fun z => he (hx b z), fun _ _ q n _ he => u.any q n fun z => he (hx _ z), fun b ob q n he => u.free b ob q n fun z => he (hx b z), fun b ob q he => u.there b ob q fun z => he (hx b z), u.tups, u.frzs, u.tbls⟩
end

def trk (h : Heap) (H : Hp) : List Addr := (List.range h.objs.size).filter fun a => (H a).isSome
def hidT (h : Heap) (H : Hp) : Heap := PySem.W.hideAll h (trk h H)
theorem hidT_size (h : Heap) (H : Hp) : (hidT h H).objs.size = h.objs.size := PySem.W.hideAll_size _ _
theorem hidT_get {h : Heap} {H : Hp} {b : Addr} {o : Obj} (e : h.get? b = some o) (n : H b = none) : (hidT h H).get? b = some o :=
  PySem.W.hideAll_get _ e fun hm => by
    have q : (H b).isSome = true := (List.mem_filter.mp hm).2
    rw [n] at q; simp at q
theorem of_hidT {h : Heap} {H : Hp} {b : Addr} {o : Obj} (e : (hidT h H).get? b = some o) : h.get? b = some o ∧ H b = none := by
  have e' : h.get? b = some o := PySem.W.of_hideAll (trk h H) e
  refine ⟨e', ?_⟩
  cases q : H b with
  | none => rfl
  | some x =>
    have hm : b ∈ trk h H := List.mem_filter.mpr ⟨List.mem_range.mpr (Heap.lt_size e'), by simp [q]⟩
    have z : (hidT h H).get? b = none := PySem.W.hideAll_none (trk h H) hm
    rw [z] at e; cases e

def allNews (g h : Heap) (L : Addr) : List (Addr × Obj) := (List.range h.objs.size).filterMap fun a => if a = L ∨ (g.get? a).isSome = true then none else (h.get? a).map fun o => (a, o)
def rest (g h : Heap) (L d : Addr) : List (Addr × Obj) := (allNews g h L).filter fun p => decide (p.1 ≠ d)
end L2

namespace L2
open PySem PySem.Spec PyProof.Rows

/-- the module's facts, over the base: the heap at the law's entry without what is tracked there -/
structure Mod (K : PySem.W.Frag) (mg : Str → Option Value) (base : Heap) : Prop where
  kin : K.In base
  glob : base.Ns mainGlobals mg
  blt : ∃ mb, base.Ns builtinsNs mb ∧ ∀ x : Str, x ≠ "__name__" → mb x = bootBuiltins x
  nolimit : base.NoLimit

/-- the context: a def's body (or a comprehension's block) running. base: fixed through the whole law; s₀, H₀: the entry; outer: the frames whose slots others may change (a def's callers); stack: all frames that run;
   ex: iterators that were made ahead of the entry and are walked here (a comprehension's); fn: the names whose cells were made at the entry (a def: all; a comprehension's block: its own); calm: not within an except suite; pn: pins that every state bears; xe: what is wanted of an exception that leaves the code -/
structure Cx where
  prog : Program
  w : World
  K : PySem.W.Frag
  mg : Str → Option Value
  base : Heap
  A : Around
  N : List Str
  s_0 : Shared
  H_0 : Hp
  env : Env
  outer : List Env
  stack : List Env
  ex : List Addr
  fn : Str → Bool
  calm : Bool
  pn : List (Addr × Obj)
  xe : Value → Shared → Prop
/-- the callers' frames -/
def frs (l : List Env) : List Addr := l.filterMap (·.frame)
abbrev Cx.fs (X : Cx) : List Addr := frs X.outer

def Vis (sc : Scope) (x : Str) : Prop := sc.names.lookup x = some .local ∨ sc.names.lookup x = some .cell ∨ sc.names.lookup x = some .free
def Loc (sc : Scope) (x : Str) : Prop := sc.names.lookup x = some .local ∨ sc.names.lookup x = some .cell
def Look (env : Env) (h : Heap) (m : Str → Option Value) (x : Str) (u : Value) : Prop :=
  (env.kindOf x = some .local ∧ m x = some u) ∨ ((env.kindOf x = some .cell ∨ env.kindOf x = some .free) ∧ ∃ c, env.cells.lookup x = some c ∧ h.IsCell c (some u))

structure Cx.Ok (X : Cx) : Prop where
  mod : Mod X.K X.mg X.base
  kind : X.env.scope.kind = .function
  glob : X.env.globals = mainGlobals
  blt : X.env.builtins = builtinsNs
  above : X.s_0.heap.objs.size ≤ X.env.locals
  inj : ∀ x y c, X.env.cells.lookup x = some c → X.env.cells.lookup y = some c → x = y
  has : ∀ x, (X.env.kindOf x = some .cell ∨ X.env.kindOf x = some .free) → ∃ c, X.env.cells.lookup x = some c
  cab : ∀ x c, X.fn x = true → X.env.cells.lookup x = some c → X.s_0.heap.objs.size ≤ c
  hd : X.calm = true → X.A.handled = none
  frames : X.A.frames = some X.stack
  stk : X.stack = X.outer ∨ (X.stack = X.env :: X.outer ∧ X.env.frame = some X.env.locals)
  exf : ∀ b ∈ X.ex, b ≠ X.env.locals ∧ ∀ x c, X.env.cells.lookup x = some c → c ≠ b
  bs : ∀ b o, X.base.get? b = some o → X.s_0.heap.get? b = some o ∧ X.H_0 b = none
  bsz : X.base.objs.size ≤ X.s_0.heap.objs.size
  noex : ∀ b o, X.base.get? b = some o → b ∉ X.ex
  exfs : ∀ b ∈ X.ex, b ∉ X.fs
  funs : X.s_0.heap.FunFrames X.base X.outer
  frf : ∀ b ∈ X.fs, X.H_0 b = none

structure Inv (X : Cx) (pins : List (Addr × Obj)) (σ : List (Option V)) (H : Hp) (s : Shared) : Prop where
  ok : X.Ok
  os : s.os = X.s_0.os
  bare : AllBare s.gens
  base : Un X.fs X.ex X.H_0 H X.s_0.heap s.heap
  loc : ∃ m, s.heap.Ns X.env.locals m ∧ ∀ (i : Nat) (x : Str) (v : V), X.N[i]? = some x → σ[i]? = some (some v) → Vis X.env.scope x → ∃ u, RelV v u ∧ Look X.env s.heap m x u
  cell : ∀ x c, X.env.cells.lookup x = some c → ∃ v, s.heap.IsCell c v
  free : H X.env.locals = none
  freeC : ∀ x c, X.env.cells.lookup x = some c → H c = none
  pin : ∀ p ∈ X.pn ++ pins, s.heap.get? p.1 = some p.2 ∧ H p.1 = none ∧ p.1 ≠ X.env.locals ∧ p.1 ∉ X.fs ∧ ∀ v, p.2.data ≠ .cell v
  hok : HOk X.prog X.w H s.heap
  len : σ.length = X.N.length

section
variable {X : Cx} {pins : List (Addr × Obj)} {σ : List (Option V)} {H H' : Hp} {s : Shared} {h' : Heap}

theorem Cx.Ok.nofr (ok : X.Ok) {b : Addr} {o : Obj} (e : X.base.get? b = some o) : b ∉ X.fs := fun hb => by
  have := (ok.funs.mem hb).1
  rw [e] at this; cases this
theorem Inv.bs (I : Inv X pins σ H s) : ∀ b o, X.base.get? b = some o → s.heap.get? b = some o ∧ H b = none := fun b o e =>
  ⟨I.base.keep b o (I.ok.bs b o e).1 (I.ok.bs b o e).2 (I.ok.nofr e) (I.ok.noex b o e), I.base.free b o (I.ok.bs b o e).1 (I.ok.bs b o e).2 (I.ok.noex b o e)⟩
theorem Inv.bk (I : Inv X pins σ H s) : ∀ b o, X.base.get? b = some o → s.heap.get? b = some o := fun b o e => (I.bs b o e).1
theorem Inv.mod (I : Inv X pins σ H s) : Mod X.K X.mg X.base := I.ok.mod
theorem Inv.kIn (I : Inv X pins σ H s) : X.K.In s.heap := I.ok.mod.kin.keeps I.bk
theorem Inv.nolimit (I : Inv X pins σ H s) : s.heap.NoLimit := I.ok.mod.nolimit.keeps I.bk
/-- the frame over the base: for OpenK's rules (K.In X.base is I.mod.kin) -/
theorem Inv.fr (I : Inv X pins σ H s) : ∃ m, Fr X.base X.env.locals s.heap m :=
  let ⟨m, hn, _⟩ := I.loc
  ⟨m, hn, I.bk, Nat.le_trans I.ok.bsz I.ok.above⟩
theorem Inv.lt (I : Inv X pins σ H s) : X.env.locals < s.heap.objs.size := let ⟨_, hn, _⟩ := I.loc; hn.lt
theorem Inv.sz (I : Inv X pins σ H s) : X.s_0.heap.objs.size ≤ s.heap.objs.size := Nat.le_trans I.ok.above (Nat.le_of_lt I.lt)
theorem Inv.nofs (I : Inv X pins σ H s) {a : Addr} (h : s.heap.objs.size ≤ a) : a ∉ X.fs := fun hb => by
  obtain ⟨_, o, ho, _⟩ := I.ok.funs.mem hb
  exact absurd (Nat.lt_of_lt_of_le (Heap.lt_size ho) (Nat.le_trans I.sz h)) (Nat.lt_irrefl _)
theorem Inv.cne (I : Inv X pins σ H s) : ∀ x c, X.env.cells.lookup x = some c → c ≠ X.env.locals := fun x c e z => by
  obtain ⟨v, o, ho, hd⟩ := I.cell x c e
  obtain ⟨m, ⟨o', es, ep, ho', hd', _⟩, _⟩ := I.loc
  rw [z, ho'] at ho; cases ho; rw [hd'] at hd; cases hd
theorem Inv.funs (I : Inv X pins σ H s) : s.heap.FunFrames X.base X.outer := by
  have all : ∀ (l : List Env), (∀ b ∈ frs l, b ∈ X.fs) → X.s_0.heap.FunFrames X.base l → s.heap.FunFrames X.base l := by
    intro l
    induction l with
    | nil => intro _ _; trivial
    | cons env r ih =>
      intro hs hl
      obtain ⟨hk, ⟨L, o, hf, hn, ho, hd⟩, hr⟩ := hl
      have hL : L ∈ X.fs := hs L (by unfold frs; rw [List.filterMap_cons, hf]; exact List.mem_cons_self)
      obtain ⟨sl, e⟩ := I.base.slot L o ho (I.ok.frf L hL) hL fun z => I.ok.exfs L z hL
      exact ⟨hk, ⟨L, _, hf, hn, e, hd⟩, ih (fun b hb => hs b (by unfold frs; rw [List.filterMap_cons, hf]; exact List.mem_cons_of_mem _ hb)) hr⟩
  exact all X.outer (fun _ hb => hb) I.ok.funs

/-- the frames that run, for a call -/
theorem Inv.stack (I : Inv X pins σ H s) : s.heap.FunFrames X.base X.stack := by
  rcases I.ok.stk with e | ⟨e, hf⟩
  · rw [e]; exact I.funs
  · rw [e]
    obtain ⟨m, hn, _⟩ := I.loc
    refine .cons (by rw [I.ok.kind]; decide) hf hn ?_ I.funs
    exact Heap.get?_none_of_le (Nat.le_trans I.ok.bsz I.ok.above)
theorem Inv.stkSub (I : Inv X pins σ H s) : ∀ b ∈ frs X.stack, b ∈ X.env.locals :: X.fs := fun b hb => by
  rcases I.ok.stk with e | ⟨e, hf⟩
  · rw [e] at hb; exact List.mem_cons_of_mem _ hb
  · rw [e] at hb
    unfold frs at hb
    rw [List.filterMap_cons, hf] at hb
    exact hb
theorem Inv.stkFree (I : Inv X pins σ H s) : ∀ b ∈ frs X.stack, H b = none := fun b hb => by
  rcases List.mem_cons.mp (I.stkSub b hb) with e | hb
  · rw [e]; exact I.free
  · obtain ⟨_, o, ho, _⟩ := I.ok.funs.mem hb
    exact I.base.free b o ho (I.ok.frf b hb) fun z => I.ok.exfs b z hb

/-- THE STEP: the untracked objects but the frame and the records at ch are kept (the callers' frames up to slots), the frame's map is kept, the new abstract heap is held -/
theorem Inv.step {g' : Array GenState} {t' : Nat} {d' : Drawn} {ch : List Addr} (I : Inv X pins σ H s)
    (hch : ∀ b ∈ ch, (b ∈ X.ex ∨ X.s_0.heap.objs.size ≤ b) ∧ b ≠ X.env.locals ∧ (∀ x c, X.env.cells.lookup x = some c → c ≠ b) ∧ ∀ p ∈ X.pn ++ pins, p.1 ≠ b)
    (keep : ∀ b o, b ≠ X.env.locals → b ∉ X.fs → b ∉ ch → s.heap.get? b = some o → H b = none → h'.get? b = some o)
    (slot : ∀ b o, b ≠ X.env.locals → b ∈ X.fs → b ∉ ch → s.heap.get? b = some o → H b = none → ∃ sl, h'.get? b = some { o with slots := sl }) (free : ∀ b o, b ∉ ch → s.heap.get? b = some o → H b = none → H' b = none)
    (there : ∀ b o, b ∉ ch → s.heap.get? b = some o → ∃ o', h'.get? b = some o')
    (tups : ∀ b xs, H b = some (.tup xs) → H' b = some (.tup xs)) (frzs : ∀ b o u, H b = some (.frz o u) → H' b = some (.frz o u)) (tbls : ∀ b ps, H b = some (.tbl ps) → ∃ more, H' b = some (.tbl (ps ++ more)))
    (ns : ∀ m, s.heap.Ns X.env.locals m → h'.Ns X.env.locals m) (hok : HOk X.prog X.w H' h') (hg : AllBare g') :
    Inv X pins σ H' { s with heap := h', gens := g', drawn := d', toks := t' } := by
  have neL : ∀ b o, X.s_0.heap.get? b = some o → b ≠ X.env.locals := fun b o e => Nat.ne_of_lt (Nat.lt_of_lt_of_le (Heap.lt_size e) I.ok.above)
  have neC : ∀ b o, X.s_0.heap.get? b = some o → b ∉ X.ex → b ∉ ch := fun b o e hx hb => by
    rcases (hch b hb).1 with z | z
    · exact hx z
    · exact absurd (Nat.lt_of_lt_of_le (Heap.lt_size e) z) (Nat.lt_irrefl _)
  have cellK : ∀ x c, X.env.cells.lookup x = some c → ∀ v, s.heap.IsCell c v → h'.IsCell c v := fun x c e v ⟨o, ho, hd⟩ => by
    have nch : c ∉ ch := fun z => (hch c z).2.2.1 x c e rfl
    by_cases hc : c ∈ X.fs
    · obtain ⟨sl, q⟩ := slot c o (I.cne x c e) hc nch ho (I.freeC x c e)
      exact ⟨_, q, hd⟩
    · exact ⟨o, keep c o (I.cne x c e) hc nch ho (I.freeC x c e), hd⟩
  refine ⟨I.ok, I.os, hg, ⟨fun b o e n hb hx => ?_, fun b o e n hb hx => ?_, fun b o e n hx => ?_, fun b o e hx => ?_, fun b xs e => tups b xs (I.base.tups b xs e), fun b o xs e => frzs b o xs (I.base.frzs b o xs e), fun b ps e => ?_⟩, ?_, fun x c e => ?_, ?_, fun x c e => ?_, fun p hp => ?_, hok, I.len⟩
  · exact keep b o (neL b o e) hb (neC b o e hx) (I.base.keep b o e n hb hx) (I.base.free b o e n hx)
  · obtain ⟨sl, e1⟩ := I.base.slot b o e n hb hx
    obtain ⟨sl', e2⟩ := slot b _ (neL b o e) hb (neC b o e hx) e1 (I.base.free b o e n hx)
    exact ⟨sl', e2⟩
  · obtain ⟨o', e1⟩ := I.base.there b o e hx
    exact free b o' (neC b o e hx) e1 (I.base.free b o e n hx)
  · obtain ⟨o', e1⟩ := I.base.there b o e hx
    exact there b o' (neC b o e hx) e1
  · obtain ⟨m1, e1⟩ := I.base.tbls b ps e
    obtain ⟨m2, e2⟩ := tbls b _ e1
    exact ⟨m1 ++ m2, by rw [e2, Array.append_assoc]⟩
  · obtain ⟨m, hn, hl⟩ := I.loc
    refine ⟨m, ns m hn, fun i x v e1 e2 e3 => ?_⟩
    obtain ⟨u, r, l⟩ := hl i x v e1 e2 e3
    refine ⟨u, r, ?_⟩
    rcases l with l | ⟨k, c, e, z⟩
    · exact .inl l
    · exact .inr ⟨k, c, e, cellK x c e _ z⟩
  · obtain ⟨v, z⟩ := I.cell x c e
    exact ⟨v, cellK x c e v z⟩
  · obtain ⟨m, ⟨o, _, _, ho, _⟩, _⟩ := I.loc
    exact free _ o (fun z => (hch _ z).2.1 rfl) ho I.free
  · obtain ⟨v, o, ho, hd⟩ := I.cell x c e
    exact free c o (fun z => (hch c z).2.2.1 x c e rfl) ho (I.freeC x c e)
  · obtain ⟨e, n, ne, nf, d⟩ := I.pin p hp
    have nch : p.1 ∉ ch := fun z => (hch p.1 z).2.2.2 p hp rfl
    exact ⟨keep p.1 p.2 ne nf nch e n, free p.1 p.2 nch e n, ne, nf, d⟩
/-- .. where the frame's own object is kept too -/
theorem Inv.un {t' : Nat} (I : Inv X pins σ H s) (u : Un X.fs [] H H' s.heap h') (hok : HOk X.prog X.w H' h') : Inv X pins σ H' { s with heap := h', toks := t' } := by
  obtain ⟨m, ⟨o, es, ep, ho, r⟩, _⟩ := id I.loc
  obtain ⟨sl, hL⟩ := u.any ho I.free (by simp)
  exact I.step (g' := s.gens) (d' := s.drawn) (ch := []) (fun _ z => nomatch z) (fun b o _ hb _ e n => u.keep b o e n hb (by simp)) (fun b o _ hb _ e n => u.slot b o e n hb (by simp)) (fun b o _ e n => u.free b o e n (by simp)) (fun b o _ e => u.there b o e (by simp)) u.tups u.frzs u.tbls (fun m' hm => by
    obtain ⟨o', es', ep', ho', r'⟩ := hm
    rw [ho] at ho'; cases ho'
    exact ⟨_, es', ep', hL, r'⟩) hok I.bare
/-- behind a call (or a comprehension's block): the slots of this frame may have changed too, the records at ch may have turned -/
theorem Inv.call {g' : Array GenState} {t' : Nat} {d' : Drawn} {ch : List Addr} (I : Inv X pins σ H s) (u : Un (frs X.stack) ch H H' s.heap h') (hok : HOk X.prog X.w H' h') (hg : AllBare g')
    (hch : ∀ b ∈ ch, (b ∈ X.ex ∨ X.s_0.heap.objs.size ≤ b) ∧ b ≠ X.env.locals ∧ (∀ x c, X.env.cells.lookup x = some c → c ≠ b) ∧ ∀ p ∈ X.pn ++ pins, p.1 ≠ b) :
    Inv X pins σ H' { s with heap := h', gens := g', drawn := d', toks := t' } := by
  obtain ⟨m, ⟨o, es, ep, ho, r⟩, _⟩ := id I.loc
  obtain ⟨sl, hL⟩ := u.any ho I.free fun z => (hch _ z).2.1 rfl
  exact I.step (ch := ch) hch (fun b o hL hb hc e n => u.keep b o e n (fun z => (List.mem_cons.mp (I.stkSub b z)).elim hL hb) hc) (fun b o _ _ hc e n => u.any e n hc) (fun b o hc e n => u.free b o e n hc) (fun b o hc e => u.there b o e hc) u.tups u.frzs u.tbls (fun m' hm => by
    obtain ⟨o', es', ep', ho', r'⟩ := hm
    rw [ho] at ho'; cases ho'
    exact ⟨_, es', ep', hL, r'⟩) hok hg
/-- an untracked record of ours (an iterator) has turned -/
theorem Inv.turned {t' : Nat} {it : Addr} (I : Inv X pins σ H s) (k : ∀ b o, b ≠ it → s.heap.get? b = some o → h'.get? b = some o) (hn : H it = none) (hL : it ≠ X.env.locals)
    (h1 : it ∈ X.ex ∨ X.s_0.heap.objs.size ≤ it) (h2 : ∀ x c, X.env.cells.lookup x = some c → c ≠ it) (h3 : ∀ p ∈ X.pn ++ pins, p.1 ≠ it) : Inv X pins σ H { s with heap := h', toks := t' } := by
  have nit : ∀ b u, H b = some u → b ≠ it := fun b u e z => by rw [z, hn] at e; cases e
  refine I.step (g' := s.gens) (d' := s.drawn) (ch := [it]) (fun b hb => ?_) (fun b o _ _ hc e _ => k b o (fun z => hc (by simp [z])) e) (fun b o _ _ hc e _ => ⟨o.slots, k b o (fun z => hc (by simp [z])) e⟩) (fun _ _ _ _ n => n)
    (fun b o hc e => ⟨o, k b o (fun z => hc (by simp [z])) e⟩) (fun _ _ e => e) (fun _ _ _ e => e) (fun b ps e => ⟨#[], by rw [e]; simp⟩) (fun m hm => ?_) (fun b u e => ?_) I.bare
  · have e : b = it := by simpa using hb
    subst e
    exact ⟨h1, hL, h2, h3⟩
  · obtain ⟨o, es, ep, ho, r⟩ := hm
    exact ⟨o, es, ep, k _ o (Ne.symm hL) ho, r⟩
  · refine (I.hok b u e).stay (fun c v hc q => k c v ?_ q) (fun _ q => q) fun _ _ q => q
    rcases hc with z | z
    · rw [z]; exact nit b u e
    · exact nit c _ z
theorem Inv.tok (I : Inv X pins σ H s) (t : Nat) : Inv X pins σ H { s with toks := t } := I.un (h' := s.heap) (t' := t) Un.refl I.hok
/-- all objects kept -/
theorem Inv.kept {t' : Nat} (I : Inv X pins σ H s) (k : ∀ b u, s.heap.get? b = some u → h'.get? b = some u) : Inv X pins σ H { s with heap := h', toks := t' } := I.un (Un.kept k) (I.hok.kept k)
/-- a new object laid and tracked -/
theorem Inv.laid {a : Addr} {o : HO} {t' : Nat} (I : Inv X pins σ H s) (k : ∀ b u, s.heap.get? b = some u → h'.get? b = some u) (hp : s.heap.objs.size ≤ a) (new : ObjOk X.prog X.w (upd H a o) h' a o) :
    Inv X pins σ (upd H a o) { s with heap := h', toks := t' } := I.un (Un.laid k hp (I.hok.fresh hp)) (I.hok.laid k hp new)
/-- an object written -/
theorem Inv.write {x e : Addr} {o : HO} {t' : Nat} (I : Inv X pins σ H s) (mu : Mut (H x)) (he : e = x ∨ H e = some (.own x)) (k : ∀ b u, b ≠ e → s.heap.get? b = some u → h'.get? b = some u) (heo : ∃ u, h'.get? e = some u)
    (new : ObjOk X.prog X.w (upd H x o) h' x o) : Inv X pins σ (upd H x o) { s with heap := h', toks := t' } := I.un (Un.write mu he k heo) (I.hok.write mu he k heo new)
/-- forgetting slots, pins -/
theorem Inv.weak {σ' : List (Option V)} (I : Inv X pins σ H s) (hl : σ'.length = σ.length) (w : ∀ (i : Nat) v, σ'[i]? = some (some v) → σ[i]? = some (some v)) : Inv X pins σ' H s :=
  ⟨I.ok, I.os, I.bare, I.base, let ⟨m, hn, hl'⟩ := I.loc; ⟨m, hn, fun i x v e1 e2 e3 => hl' i x v e1 (w i v e2) e3⟩, I.cell, I.free, I.freeC, I.pin, I.hok, hl.trans I.len⟩
theorem Inv.pins_of {pins' : List (Addr × Obj)} (I : Inv X pins σ H s) (h : ∀ p ∈ pins', s.heap.get? p.1 = some p.2 ∧ H p.1 = none ∧ p.1 ≠ X.env.locals ∧ p.1 ∉ X.fs ∧ ∀ v, p.2.data ≠ .cell v) : Inv X pins' σ H s :=
  ⟨I.ok, I.os, I.bare, I.base, I.loc, I.cell, I.free, I.freeC, fun p hp => (List.mem_append.mp hp).elim (fun z => I.pin p (List.mem_append_left _ z)) (h p), I.hok, I.len⟩

theorem nodup_ix {N : List Str} (hN : N.Nodup) {i j : Nat} {x : Str} (a : N[i]? = some x) (b : N[j]? = some x) : i = j := by
  obtain ⟨h1, e1⟩ := List.getElem?_eq_some_iff.mp a
  obtain ⟨h2, e2⟩ := List.getElem?_eq_some_iff.mp b
  exact (List.getElem_inj hN).mp (e1.trans e2.symm)

/-- a name is stored; what changed -/
theorem store_ok2 {M : Model} {A : Around} {E : Value → Shared → Prop} {i : Nat} {x : Str} {v : V} {u : Value} {Q : Unit → Shared → Prop} (I : Inv X pins σ H s) (hN : X.N.Nodup) (hi : X.N[i]? = some x) (hx : Loc X.env.scope x) (r : RelV v u)
    (h : ∀ s', Inv X pins (σ.set i (some v)) H s' → (∃ a, Heap.SameBut a s.heap s'.heap ∧ (a = X.env.locals ∨ X.env.cells.lookup x = some a)) → Q () s') (hf : X.fn x = true ∨ X.env.scope.names.lookup x = some .local := by first | exact .inl rfl | exact .inr rfl | assumption) : wpAny M A (storeName X.env x u) Q E s := by
  obtain ⟨m, hn, hl⟩ := id I.loc
  have hcls : (X.env.scope.kind == .class || (X.env.scope.kind == .module && X.env.locals != X.env.globals)) = false := by rw [I.ok.kind]; rfl
  have hiσ : i < σ.length := by rw [I.len]; exact (List.getElem?_eq_some_iff.mp hi).1
  have cne := I.cne
  have tracked : ∀ {a : Addr} {h' : Heap}, (∃ o, s.heap.get? a = some o ∧ H a = none) → Heap.SameBut a s.heap h' → HOk X.prog X.w H h' := fun {a h'} ha hs b ob e => by
    obtain ⟨_, _, hfree⟩ := ha
    refine (I.hok b ob e).stay (fun c w' hc q => (hs.2 c ?_).trans q) (fun _ q => q) fun _ _ q => q
    rintro rfl
    rcases hc with rfl | hc
    · rw [hfree] at e; cases e
    · rw [hfree] at hc; cases hc
  rcases hx with hk | hk
  · refine wpAny_storeName_local hk hn (fun h' hn' hs => ?_) hcls
    obtain ⟨oL, _, _, hoL, _⟩ := id hn
    refine h _ ⟨I.ok, I.os, I.bare, ⟨fun b o e n hb hx => ?_, fun b o e n hb hx => ?_, I.base.free, fun b o e hx => ?_, I.base.tups, I.base.frzs, I.base.tbls⟩, ⟨_, hn', fun j y v' e1 e2 e3 => ?_⟩, fun y c e => ?_, I.free, I.freeC, fun p hp => ?_, tracked ⟨oL, hoL, I.free⟩ hs, by simpa using I.len⟩ ⟨_, hs, .inl rfl⟩
    · exact (hs.2 b (Nat.ne_of_lt (Nat.lt_of_lt_of_le (Heap.lt_size e) I.ok.above))).trans (I.base.keep b o e n hb hx)
    · obtain ⟨sl, e1⟩ := I.base.slot b o e n hb hx
      exact ⟨sl, (hs.2 b (Nat.ne_of_lt (Nat.lt_of_lt_of_le (Heap.lt_size e) I.ok.above))).trans e1⟩
    · obtain ⟨o', e1⟩ := I.base.there b o e hx
      exact ⟨o', (hs.2 b (Nat.ne_of_lt (Nat.lt_of_lt_of_le (Heap.lt_size e) I.ok.above))).trans e1⟩
    · by_cases hj : j = i
      · subst hj
        rw [hi] at e1; cases e1
        rw [List.getElem?_set_self hiσ] at e2
        cases e2
        exact ⟨u, r, .inl ⟨hk, by simp⟩⟩
      · rw [List.getElem?_set_ne (Ne.symm hj)] at e2
        obtain ⟨u', r', q⟩ := hl j y v' e1 e2 e3
        refine ⟨u', r', ?_⟩
        rcases q with ⟨k, e⟩ | ⟨k, c, e, z⟩
        · refine .inl ⟨k, ?_⟩
          have : y ≠ x := fun e => hj (nodup_ix hN e1 (e ▸ hi))
          simp [this, e]
        · exact .inr ⟨k, c, e, z.sameBut hs (cne y c e)⟩
    · obtain ⟨w', z⟩ := I.cell y c e
      exact ⟨w', z.sameBut hs (cne y c e)⟩
    · obtain ⟨e, n, ne, nf, d⟩ := I.pin p hp
      exact ⟨(hs.2 p.1 ne).trans e, n, ne, nf, d⟩
  · have hfn : X.fn x = true := by
      rcases hf with z | z
      · exact z
      · rw [z] at hk; cases hk
    obtain ⟨c, hc⟩ := I.ok.has x (.inl hk)
    obtain ⟨w', z⟩ := I.cell x c hc
    refine wpAny_storeName_cell I.ok.kind hk hc z (fun h' hc' hs => ?_)
    obtain ⟨oc, hoc, hocd⟩ := id z
    refine h { s with heap := h' } ⟨I.ok, I.os, I.bare, ⟨fun b o e n hb hx => ?_, fun b o e n hb hx => ?_, I.base.free, fun b o e hx => ?_, I.base.tups, I.base.frzs, I.base.tbls⟩, ⟨m, hn.sameBut hs (Ne.symm (cne x c hc)), fun j y v' e1 e2 e3 => ?_⟩, fun y c' e => ?_, I.free, I.freeC, fun p hp => ?_, tracked ⟨oc, hoc, I.freeC x c hc⟩ hs, by simpa using I.len⟩ ⟨c, hs, .inr hc⟩
    · exact (hs.2 b (Nat.ne_of_lt (Nat.lt_of_lt_of_le (Heap.lt_size e) (I.ok.cab x c hfn hc)))).trans (I.base.keep b o e n hb hx)
    · obtain ⟨sl, e1⟩ := I.base.slot b o e n hb hx
      exact ⟨sl, (hs.2 b (Nat.ne_of_lt (Nat.lt_of_lt_of_le (Heap.lt_size e) (I.ok.cab x c hfn hc)))).trans e1⟩
    · obtain ⟨o', e1⟩ := I.base.there b o e hx
      exact ⟨o', (hs.2 b (Nat.ne_of_lt (Nat.lt_of_lt_of_le (Heap.lt_size e) (I.ok.cab x c hfn hc)))).trans e1⟩
    · by_cases hj : j = i
      · subst hj
        rw [hi] at e1; cases e1
        rw [List.getElem?_set_self hiσ] at e2
        cases e2
        exact ⟨u, r, .inr ⟨.inl hk, c, hc, hc'⟩⟩
      · rw [List.getElem?_set_ne (Ne.symm hj)] at e2
        obtain ⟨u', r', q⟩ := hl j y v' e1 e2 e3
        refine ⟨u', r', ?_⟩
        rcases q with q | ⟨k, c', e, z'⟩
        · exact .inl q
        · refine .inr ⟨k, c', e, z'.sameBut hs ?_⟩
          rintro rfl
          exact hj (nodup_ix hN e1 (I.ok.inj _ _ _ e hc ▸ hi))
    · by_cases hcc : c' = c
      · subst hcc; exact ⟨_, hc'⟩
      · obtain ⟨w2, z2⟩ := I.cell y c' e
        exact ⟨w2, z2.sameBut hs hcc⟩
    · obtain ⟨e, n, ne, nf, d⟩ := I.pin p hp
      refine ⟨(hs.2 p.1 ?_).trans e, n, ne, nf, d⟩
      intro q
      rw [q, hoc] at e
      have q' : oc = p.2 := Option.some.inj e
      exact d w' (by rw [← q']; exact hocd)
theorem store_ok {M : Model} {A : Around} {E : Value → Shared → Prop} {i : Nat} {x : Str} {v : V} {u : Value} {Q : Unit → Shared → Prop} (I : Inv X pins σ H s) (hN : X.N.Nodup) (hi : X.N[i]? = some x) (hx : Loc X.env.scope x) (r : RelV v u)
    (h : ∀ s', Inv X pins (σ.set i (some v)) H s' → Q () s') (hf : X.fn x = true ∨ X.env.scope.names.lookup x = some .local := by first | exact .inl rfl | exact .inr rfl | assumption) : wpAny M A (storeName X.env x u) Q E s :=
  store_ok2 I hN hi hx r (fun s' I' _ => h s' I') hf
/-- behind a call or a block, the state as it is -/
theorem Inv.call' {s' : Shared} {ch : List Addr} (I : Inv X pins σ H s) (ho : s'.os = s.os) (u : Un (frs X.stack) ch H H' s.heap s'.heap) (hok : HOk X.prog X.w H' s'.heap) (hg : AllBare s'.gens)
    (hch : ∀ b ∈ ch, (b ∈ X.ex ∨ X.s_0.heap.objs.size ≤ b) ∧ b ≠ X.env.locals ∧ (∀ x c, X.env.cells.lookup x = some c → c ≠ b) ∧ ∀ p ∈ X.pn ++ pins, p.1 ≠ b) : Inv X pins σ H' s' := by
  obtain ⟨h', g', d', t', o'⟩ := s'
  have e : o' = s.os := ho
  subst e
  exact I.call (g' := g') (t' := t') (d' := d') u hok hg hch
end

/-- an exception: its class, its own dict's address (where it has one), the abstract heap behind it -/
abbrev XK := Value → Option Addr → Hp → Prop
abbrev St := List (Option V)
abbrev VK := V → Hp → Prop
/-- an expression's reading; a test's; an argument list's -/
abbrev TE := St → Hp → VK → Prop
abbrev TT := St → Hp → (Bool → Hp → Prop) → Prop
abbrev TA := St → Hp → (List V → Hp → Prop) → Prop
/-- what is wanted behind a statement -/
structure Ends where
  nx : St → Hp → Prop
  rt : VK
  bk : St → Hp → Prop := fun _ _ => False
  ct : St → Hp → Prop := fun _ _ => False
abbrev TS := Ends → St → Hp → Prop

def EP (X : Cx) (pins : List (Addr × Obj)) (σ : St) (Q : VK) (u : Value) (s' : Shared) : Prop := ∃ v H', Inv X pins σ H' s' ∧ RelV v u ∧ Q v H'
def TP (X : Cx) (pins : List (Addr × Obj)) (σ : St) (Q : Bool → Hp → Prop) (b : Bool) (s' : Shared) : Prop := ∃ H', Inv X pins σ H' s' ∧ Q b H'
def AP (X : Cx) (pins : List (Addr × Obj)) (σ : St) (Q : List V → Hp → Prop) (us : List Value) (s' : Shared) : Prop := ∃ vs H', Inv X pins σ H' s' ∧ Vals vs us ∧ Q vs H'
def SP (X : Cx) (pins : List (Addr × Obj)) (D : Ends) (f : Flow) (s' : Shared) : Prop :=
  match f with
  | .next => ∃ σ' H', Inv X pins σ' H' s' ∧ D.nx σ' H'
  | .brk => ∃ σ' H', Inv X pins σ' H' s' ∧ D.bk σ' H'
  | .cont => ∃ σ' H', Inv X pins σ' H' s' ∧ D.ct σ' H'
  | .ret u => ∃ v σ' H', Inv X pins σ' H' s' ∧ RelV v u ∧ D.rt v H'

def PE (X : Cx) (e : Expr) (t : TE) : Prop :=
  ∀ (pins : List (Addr × Obj)) (s : Shared) (σ : St) (H : Hp) (Q : VK), Inv X pins σ H s → t σ H Q → wpAny (model X.prog X.w) X.A (eval e X.env) (EP X pins σ Q) X.xe s
def PT (X : Cx) (e : Expr) (t : TT) : Prop :=
  ∀ (pins : List (Addr × Obj)) (s : Shared) (σ : St) (H : Hp) (Q : Bool → Hp → Prop), Inv X pins σ H s → t σ H Q → wpAny (model X.prog X.w) X.A (isTrue e X.env (eval e X.env)) (TP X pins σ Q) X.xe s
/-- a test whatever its 'whole' is (and, or) -/
def PW (X : Cx) (e : Expr) (t : TT) : Prop :=
  ∀ (whole : Sem Value) (pins : List (Addr × Obj)) (s : Shared) (σ : St) (H : Hp) (Q : Bool → Hp → Prop), Inv X pins σ H s → t σ H Q → wpAny (model X.prog X.w) X.A (isTrue e X.env whole) (TP X pins σ Q) X.xe s
theorem PW.pt {X : Cx} {e : Expr} {t : TT} (h : PW X e t) : PT X e t := h _
/-- an argument list (no star), from the left -/
def PA (X : Cx) (es : List Expr) (t : TA) : Prop :=
  ∀ (pos : Pos) (pins : List (Addr × Obj)) (s : Shared) (σ : St) (H : Hp) (Q : List V → Hp → Prop), Inv X pins σ H s → t σ H Q → wpAny (model X.prog X.w) X.A (spliced (backTo pos (starEach es X.env))) (AP X pins σ Q) X.xe s
def PS (X : Cx) (st : Stmt) (t : TS) : Prop :=
  ∀ (pins : List (Addr × Obj)) (s : Shared) (σ : St) (H : Hp) (D : Ends), Inv X pins σ H s → t D σ H → wpAny (model X.prog X.w) X.A (exec st X.env) (SP X pins D) X.xe s
def PSs (X : Cx) (st : List Stmt) (t : TS) : Prop :=
  ∀ (pins : List (Addr × Obj)) (s : Shared) (σ : St) (H : Hp) (D : Ends), Inv X pins σ H s → t D σ H → wpAny (model X.prog X.w) X.A (execs st X.env) (SP X pins D) X.xe s
/-- weaken the end -/
theorem thn {α : Type} {t : Sem α} {Q Q' : α → Shared → Prop} {M : Model} {A : Around} {E : Value → Shared → Prop} {s : Shared} (h : wpAny M A t Q E s) (hQ : ∀ a s, Q a s → Q' a s) : wpAny M A t Q' E s := wpAny_mono h hQ fun _ _ x => x
end L2

namespace L2
open PySem PySem.Spec PyProof.Rows
section
variable {X : Cx}

def tVar (i : Nat) : TE := fun σ H Q => ∃ v, σ[i]? = some (some v) ∧ Q v H
def tC (v : V) : TE := fun _ H Q => Q v H
theorem pe_var {i : Nat} {x : Str} {pos : Pos} (hN : X.N[i]? = some x) (hv : Vis X.env.scope x) (hd : (x == ("__debug__" : Str)) = false := by decide) (hcd : (x == ("__classdict__" : Str)) = false := by decide) : PE X (.Name x pos) (tVar i) := by
  intro pins s σ H Q I h
  obtain ⟨v, e, h⟩ := h
  obtain ⟨m, hn, hl⟩ := I.loc
  obtain ⟨u, r, l⟩ := hl i x v hN e hv
  have fin : EP X pins σ Q u s := ⟨v, H, I, r, h⟩
  rcases l with ⟨hk, hm⟩ | ⟨hk, c, hc, hcell⟩
  · exact wpAny_Name (wpAny_loadName_local I.ok.kind hk hn hm fin) hd
  · rcases hk with hk | hk
    · exact wpAny_Name (wpAny_loadName_cell I.ok.kind hk hc hcell fin) hd
    · exact wpAny_Name (wpAny_loadName_free I.ok.kind hk hc hcell fin hcd) hd
theorem pe_int {i j pos} : PE X (.Constant (.int i) j pos) (tC (.int i)) := fun _ _ _ H _ I h => wpAny_Constant_int ⟨.int i, H, I.tok _, ⟨_, rfl⟩, h⟩
theorem pe_bl {b j pos} : PE X (.Constant (.bool b) j pos) (tC (.bl b)) := fun _ _ _ H _ I h => Constant_bool ⟨.bl b, H, I, rfl, h⟩
theorem pe_non {j pos} : PE X (.Constant .none j pos) (tC .non) := fun _ _ _ H _ I h => Constant_none ⟨.non, H, I, rfl, h⟩
/-- a global name of the def -/
def Gl (X : Cx) (x : Str) : Prop := X.env.kindOf x = some .globalImplicit
theorem ld_glob {E : Value → Shared → Prop} {pins : List (Addr × Obj)} {s : Shared} {σ : St} {H : Hp} {x : Str} {u : Value} {pos : Pos} {Q : Value → Shared → Prop} (I : Inv X pins σ H s) (hg : Gl X x) (hm : X.mg x = some u) (h : Q u s)
    (hd : (x == ("__debug__" : Str)) = false := by decide) : wpAny (model X.prog X.w) X.A (eval (.Name x pos) X.env) Q E s :=
  Calls.Name_function_global I.ok.kind hg (Calls.loadGlobal_global (by rw [I.ok.glob]; exact I.mod.glob.keeps I.bk) hm h) hd
theorem ld_blt {E : Value → Shared → Prop} {pins : List (Addr × Obj)} {s : Shared} {σ : St} {H : Hp} {x : Str} {u : Value} {pos : Pos} {Q : Value → Shared → Prop} (I : Inv X pins σ H s) (hg : Gl X x) (hm : X.mg x = none) (hv : bootBuiltins x = some u) (h : Q u s)
    (hn : x ≠ "__name__" := by decide) (hd : (x == ("__debug__" : Str)) = false := by decide) : wpAny (model X.prog X.w) X.A (eval (.Name x pos) X.env) Q E s := by
  obtain ⟨mb, h1, h2⟩ := I.mod.blt
  exact Calls.Name_function_global I.ok.kind hg (Calls.loadGlobal_builtin (by rw [I.ok.glob]; exact I.mod.glob.keeps I.bk) hm (by rw [I.ok.blt]; exact h1.keeps I.bk) ((h2 x hn).trans hv) h) hd
/-- a module's constant, a class, a function, as a value -/
theorem pe_glob {x : Str} {v : V} {u : Value} {pos : Pos} (hg : Gl X x) (hm : X.mg x = some u) (r : RelV v u) (hd : (x == ("__debug__" : Str)) = false := by decide) : PE X (.Name x pos) (tC v) :=
  fun _ _ _ H _ I h => ld_glob I hg hm ⟨v, H, I, r, h⟩ hd
/-- two ints -/
def t2I (ta tb : TE) (k : Int → Int → Hp → Prop) : St → Hp → Prop := fun σ H => ta σ H fun x H1 => tb σ H1 fun y H2 => ∃ i j, x = .int i ∧ y = .int j ∧ k i j H2
variable {a b : Expr} {ta tb : TE} {pos : Pos}
def PC (X : Cx) (op : CmpOp) (a b : Expr) (t : TE) : Prop :=
  ∀ (pins : List (Addr × Obj)) (s : Shared) (σ : St) (H : Hp) (Q : VK), Inv X pins σ H s → t σ H Q →
    wpAny (model X.prog X.w) X.A (eval a X.env) (fun v s₁ => wpAny (model X.prog X.w) X.A (eval b X.env) (fun u s₂ => wpAny (model X.prog X.w) X.A (compareOp op v u) (EP X pins σ Q) X.xe s₂) X.xe s₁) X.xe s
theorem nobehind (b : Expr) {op : CmpOp} (h : op ≠ .In) (h2 : op ≠ .NotIn) : behindInMarks op b = false := by
  have e1 : (op == CmpOp.In) = false := by cases op <;> first | rfl | exact absurd rfl h
  have e2 : (op == CmpOp.NotIn) = false := by cases op <;> first | rfl | exact absurd rfl h2
  cases b <;> simp [behindInMarks, e1, e2]
def tCmp (p : Int → Int → Bool) (ta tb : TE) : TE := fun σ H Q => t2I ta tb (fun i j H2 => Q (.bl (p i j)) H2) σ H
abbrev tLt : TE → TE → TE := tCmp fun i j => decide (i < j)
abbrev tLe : TE → TE → TE := tCmp fun i j => decide (i ≤ j)
abbrev tGt : TE → TE → TE := tCmp fun i j => decide (j < i)
abbrev tGe : TE → TE → TE := tCmp fun i j => decide (j ≤ i)
abbrev tEqI : TE → TE → TE := tCmp fun i j => decide (i = j)
abbrev tNeI : TE → TE → TE := tCmp fun i j => !decide (i = j)
/-- is None -/
def tIsN (ta : TE) : TE := fun σ H Q => ta σ H fun x H1 => Q (.bl (decide (x = .non))) H1
def tNotN (ta : TE) : TE := fun σ H Q => ta σ H fun x H1 => Q (.bl (!decide (x = .non))) H1
theorem RelV.none_iff {x : V} {v : Value} (r : RelV x v) : (v == Value.none) = decide (x = .non) := by
  cases x with
  | non => cases r; rfl
  | bl _ => cases r; rfl
  | int _ => obtain ⟨t, rfl⟩ := r; rfl
  | str _ => obtain ⟨t, rfl⟩ := r; rfl
  | byt _ => obtain ⟨t, rfl⟩ := r; rfl
  | flt _ => obtain ⟨t, rfl⟩ := r; rfl
  | ref _ => cases r; rfl
  | ty _ => cases r; rfl
theorem pc_isN {j pos'} (ha : PE X a ta) : PC X .Is a (.Constant .none j pos') (tIsN ta) := by
  intro pins s σ H Q I h
  refine thn (ha pins s σ H _ I h) fun v s1 ⟨x, H1, I1, r1, q1⟩ => ?_
  exact Constant_none (is_none_gen ⟨.bl _, H1, I1, by rw [r1.none_iff]; rfl, q1⟩)
theorem pc_notN {j pos'} (ha : PE X a ta) : PC X .IsNot a (.Constant .none j pos') (tNotN ta) := by
  intro pins s σ H Q I h
  refine thn (ha pins s σ H _ I h) fun v s1 ⟨x, H1, I1, r1, q1⟩ => ?_
  exact Constant_none (isnot_none_gen ⟨.bl _, H1, I1, by rw [r1.none_iff]; rfl, q1⟩)
/-- a comparison as a value, as a test -/
def tB (t : TE) : TT := fun σ H Q => t σ H fun x H1 => ∃ c, x = .bl c ∧ Q c H1
theorem pe_cmp {op : CmpOp} {t : TE} (h : PC X op a b t) (h1 : behindInMarks op b = false := by first | exact nobehind _ (by decide) (by decide) | rfl) : PE X (.Compare a [op] [b] pos) t := fun pins s σ H Q I hw => wpAny_Compare1 (h pins s σ H Q I hw) h1
theorem pt_cmp {op : CmpOp} {t : TE} (h : PC X op a b t) (h1 : behindInMarks op b = false := by first | exact nobehind _ (by decide) (by decide) | rfl) : PT X (.Compare a [op] [b] pos) (tB t) := by
  intro pins s σ H Q I hw
  refine wpAny_isTrue_Compare1 (thn (h pins s σ H _ I hw) fun v s1 h1 => thn h1 fun u s2 h2 => thn h2 fun c s3 ⟨x, H1, I1, r1, q1⟩ => ?_) h1
  obtain ⟨d, rfl, q⟩ := q1
  cases r1
  exact wpAny_truthy_bool ⟨H1, I1, q⟩
/-- an expression whose value is a bool, as a test -/
theorem pt_val {e : Expr} {t : TE} (h : PE X e t) (he : ∀ whole, isTrue e X.env whole = (do let v ← whole; standAt e.pos; holding [v] (truthy v)) := by intro _; rfl) : PT X e (tB t) := by
  intro pins s σ H Q I hw
  refine isTrue_plain (thn (h pins s σ H _ I hw) fun v s1 ⟨x, H1, I1, r1, q1⟩ => ?_) (he _)
  obtain ⟨d, rfl, q⟩ := q1
  cases r1
  exact wpAny_truthy_bool ⟨H1, I1, q⟩

variable {tA tB' : TT} {rest : List Expr}
def tOr (t u : TT) : TT := fun σ H Q => t σ H fun c H1 => if c = true then Q true H1 else u σ H1 Q
def tNot (t : TT) : TT := fun σ H Q => t σ H fun c H1 => Q (!c) H1
theorem pw_or1 (ha : PT X a tA) : PW X (.BoolOp .Or [a] pos) tA := by
  intro wh pins s σ H Q I h
  refine isTrue_or (thn (ha pins s σ H Q I h) fun c s1 e => ?_)
  cases c with
  | false => exact isTrue_or_nil e
  | true => exact e
theorem pw_or (ha : PT X a tA) (hb : PW X (.BoolOp .Or (b :: rest) pos) tB') : PW X (.BoolOp .Or (a :: b :: rest) pos) (tOr tA tB') := by
  intro wh pins s σ H Q I h
  refine isTrue_or (thn (ha pins s σ H _ I h) fun c s1 ⟨H1, I1, q1⟩ => ?_)
  cases c with
  | true => exact ⟨H1, I1, q1⟩
  | false => exact hb wh pins s1 σ H1 Q I1 q1
theorem pt_not (ha : PT X a tA) : PT X (.UnaryOp .Not a pos) (tNot tA) := by
  intro pins s σ H Q I h
  exact isTrue_not (ha pins s σ H (fun c H1 => Q (!c) H1) I h)
def tNotV (ta : TE) : TE := fun σ H Q => ta σ H fun x H1 => ∃ c, x = .bl c ∧ Q (.bl (!c)) H1
theorem pe_not (ha : PE X a ta) : PE X (.UnaryOp .Not a pos) (tNotV ta) := by
  intro pins s σ H Q I h
  refine UnaryOp_ (thn (ha pins s σ H _ I h) fun v s1 ⟨x, H1, I1, r1, q1⟩ => ?_)
  obtain ⟨c, rfl, q1⟩ := q1
  cases r1
  exact not_of (wpAny_truthy_bool ⟨.bl (!c), H1, I1, rfl, q1⟩)
/-- a if t else b -/
def tIf (t : TT) (ta tb : TE) : TE := fun σ H Q => t σ H fun c H1 => if c = true then ta σ H1 Q else tb σ H1 Q
theorem pe_ifExp {c : Expr} (hc : PT X c tA) (ha : PE X a ta) (hb : PE X b tb) : PE X (.IfExp c a b pos) (tIf tA ta tb) := by
  intro pins s σ H Q I h
  refine wpAny_IfExp (thn (hc pins s σ H _ I h) fun d s1 ⟨H1, I1, q1⟩ => ?_)
  cases d with
  | true => exact ha pins s1 σ H1 Q I1 q1
  | false => exact hb pins s1 σ H1 Q I1 q1
end
end L2

namespace L2
open PySem PySem.Spec PyProof.Rows

def SqL (K : PySem.W.Frag) (H : Hp) (a : Addr) (xs : List V) : Prop :=
  Rd H a (.lst xs) ∨
    ∃ (o : Obj) (its : Array Value) (n : Nat), K.lookup a = some o ∧ o.cls = .type "list" ∧ o.dict = none ∧ o.data = .seq its n ∧ its.size ≤ sizeLine ∧ Vals xs its.toList
def SqT (K : PySem.W.Frag) (H : Hp) (a : Addr) (xs : List V) : Prop :=
  Rd H a (.tup xs) ∨
    ∃ (o : Obj) (its : Array Value) (n : Nat), K.lookup a = some o ∧ o.cls = .type "tuple" ∧ o.data = .seq its n ∧ its.size ≤ sizeLine ∧ Vals xs its.toList
def absV : Value → Option V
  | .none => some .non
  | .bool b => some (.bl b)
  | .int i _ => some (.int i)
  | .str x _ => some (.str x)
  | .bytes b _ => some (.byt b)
  | .float b _ => some (.flt b)
  | .ref a => some (.ref a)
  | .type n => some (.ty n)
  | _ => none
theorem RelV.abs {x : V} {u : Value} (r : RelV x u) : absV u = some x := by
  cases x with
  | non => cases r; rfl
  | bl _ => cases r; rfl
  | int _ => obtain ⟨t, rfl⟩ := r; rfl
  | str _ => obtain ⟨t, rfl⟩ := r; rfl
  | byt _ => obtain ⟨t, rfl⟩ := r; rfl
  | flt _ => obtain ⟨t, rfl⟩ := r; rfl
  | ref _ => cases r; rfl
  | ty _ => cases r; rfl
theorem RelV.inj {x y : V} {u : Value} (r : RelV x u) (q : RelV y u) : x = y := Option.some.inj (r.abs.symm.trans q.abs)
theorem Vals.inj : ∀ {xs ys : List V} {us : List Value}, Vals xs us → Vals ys us → xs = ys
  | _, _, _, .nil, .nil => rfl
  | _, _, _, .cons r t, .cons r' t' => by rw [r.inj r', Vals.inj t t']
section
variable {X : Cx} {pins : List (Addr × Obj)} {σ : St} {H : Hp} {s : Shared} {a : Addr} {xs ys : List V}
theorem SqL.of {K : PySem.W.Frag} (h : H a = some (.lst xs)) : SqL K H a xs := .inl (.inl h)
theorem SqT.of {K : PySem.W.Frag} (h : H a = some (.tup xs)) : SqT K H a xs := .inl (.inl h)
theorem Inv.list (I : Inv X pins σ H s) (h : SqL X.K H a xs) : ∃ its : List Value, Vals xs its ∧ PlainL s.heap a its.toArray ∧ xs.length ≤ sizeLine := by
  rcases h with h | ⟨o, its, n, hk, hc, hd, hs, hz, r⟩
  · obtain ⟨z, its, n, r, e⟩ := h.ok I.hok
    exact ⟨its, r, ⟨_, n, e, rfl, rfl, rfl⟩, z⟩
  · refine ⟨its.toList, r, ⟨o, n, I.kIn a o hk, hc, hd, by simpa using hs⟩, ?_⟩
    have e := r.length
    simp only [Array.length_toList] at e
    omega
theorem Inv.tuple (I : Inv X pins σ H s) (h : SqT X.K H a xs) : ∃ its : List Value, Vals xs its ∧ IsTup s.heap a its.toArray ∧ xs.length ≤ sizeLine := by
  rcases h with h | ⟨o, its, n, hk, hc, hs, hz, r⟩
  · obtain ⟨z, its, r, p⟩ := h.ok I.hok
    exact ⟨its, r, p, z⟩
  · refine ⟨its.toList, r, ⟨o, I.kIn a o hk, hc, n, by simpa using hs⟩, ?_⟩
    have e := r.length
    simp only [Array.length_toList] at e
    omega
theorem Inv.list_inj (I : Inv X pins σ H s) (h : SqL X.K H a xs) (h' : SqL X.K H a ys) : xs = ys := by
  obtain ⟨its, r, ⟨o, n, e, _, _, d⟩, _⟩ := I.list h
  obtain ⟨its', r', ⟨o', n', e', _, _, d'⟩, _⟩ := I.list h'
  rw [e] at e'; cases e'
  rw [d] at d'
  injection d' with d1 _
  have : its = its' := by simpa using congrArg Array.toList d1
  subst this
  exact r.inj r'
end

abbrev Cx.wish (X : Cx) (E : Value → Shared → Prop) : Cx := { X with xe := E }
/-- no exception leaves -/
abbrev Cx.nox (X : Cx) : Cx := X.wish fun _ _ => False
theorem Cx.Ok.wish {X : Cx} (ok : X.Ok) (E : Value → Shared → Prop) : (X.wish E).Ok :=
  ⟨ok.mod, ok.kind, ok.glob, ok.blt, ok.above, ok.inj, ok.has, ok.cab, ok.hd, ok.frames, ok.stk, ok.exf, ok.bs, ok.bsz, ok.noex, ok.exfs, ok.funs, ok.frf⟩
theorem Cx.Ok.unwish {X : Cx} {E : Value → Shared → Prop} (ok : (X.wish E).Ok) : X.Ok :=
  ⟨ok.mod, ok.kind, ok.glob, ok.blt, ok.above, ok.inj, ok.has, ok.cab, ok.hd, ok.frames, ok.stk, ok.exf, ok.bs, ok.bsz, ok.noex, ok.exfs, ok.funs, ok.frf⟩
section
variable {X : Cx} {pins : List (Addr × Obj)} {σ : St} {H : Hp} {s : Shared} {E : Value → Shared → Prop}
theorem Inv.wish (I : Inv X pins σ H s) (E : Value → Shared → Prop) : Inv (X.wish E) pins σ H s := ⟨I.ok.wish E, I.os, I.bare, I.base, I.loc, I.cell, I.free, I.freeC, I.pin, I.hok, I.len⟩
theorem Inv.unwish (I : Inv (X.wish E) pins σ H s) : Inv X pins σ H s := ⟨I.ok.unwish, I.os, I.bare, I.base, I.loc, I.cell, I.free, I.freeC, I.pin, I.hok, I.len⟩
theorem SP.unwish {D : Ends} {f : Flow} {s' : Shared} (h : SP (X.wish E) pins D f s') : SP X pins D f s' := by
  cases f with
  | next => obtain ⟨σ', H', I, q⟩ := h; exact ⟨σ', H', I.unwish, q⟩
  | brk => obtain ⟨σ', H', I, q⟩ := h; exact ⟨σ', H', I.unwish, q⟩
  | cont => obtain ⟨σ', H', I, q⟩ := h; exact ⟨σ', H', I.unwish, q⟩
  | ret u => obtain ⟨v, σ', H', I, r, q⟩ := h; exact ⟨v, σ', H', I.unwish, r, q⟩
theorem PE.nox {e : Expr} {t : TE} (h : PE X.nox e t) : PE X e t := fun pins s σ H Q I hw =>
  wpAny_mono (h pins s σ H Q (I.wish _) hw) (fun _ _ ⟨v, H', I', r, q⟩ => ⟨v, H', I'.unwish, r, q⟩) fun _ _ z => False.elim z
theorem PT.nox {e : Expr} {t : TT} (h : PT X.nox e t) : PT X e t := fun pins s σ H Q I hw =>
  wpAny_mono (h pins s σ H Q (I.wish _) hw) (fun _ _ ⟨H', I', q⟩ => ⟨H', I'.unwish, q⟩) fun _ _ z => False.elim z
theorem PSs.nox {st : List Stmt} {t : TS} (h : PSs X.nox st t) : PSs X st t := fun pins s σ H D I hw =>
  wpAny_mono (h pins s σ H D (I.wish _) hw) (fun _ _ q => q.unwish) fun _ _ z => False.elim z
end

section
variable {X : Cx} {st : Stmt} {rest : List Stmt} {t u : TS} {e : Expr} {te : TE} {pos : Pos}
def tNext : TS := fun D σ H => D.nx σ H
def tSeq (t u : TS) : TS := fun D σ H => t { D with nx := u D } σ H
theorem pss_nil : PSs X [] tNext := fun _ _ σ H _ I h => wpAny_execs_nil ⟨σ, H, I, h⟩
theorem pss_cons (h1 : PS X st t) (h2 : PSs X rest u) : PSs X (st :: rest) (tSeq t u) := by
  intro pins s σ H D I h
  refine wpAny_execs_cons (thn (h1 pins s σ H { D with nx := u D } I h) fun f s1 q => ?_)
  cases f with
  | next =>
    obtain ⟨σ', H', I', q⟩ := q
    exact h2 pins s1 σ' H' D I' q
  | ret v => exact q
  | brk => exact q
  | cont => exact q
theorem pss_one (h1 : PS X st t) : PSs X [st] t := by
  intro pins s σ H D I h
  refine wpAny_execs_cons (thn (h1 pins s σ H D I h) fun f s1 q => ?_)
  cases f with
  | next => exact wpAny_execs_nil q
  | ret v => exact q
  | brk => exact q
  | cont => exact q
/-- in a def's body nothing is shown -/
theorem Inv.quiet {pins : List (Addr × Obj)} {σ : St} {H : Hp} {s : Shared} (I : Inv X pins σ H s) : interactive X.env = false := by simp [interactive, I.ok.kind]
/-- an expression whose value is dropped -/
def tDrop (te : TE) : TS := fun D σ H => te σ H fun _ H1 => D.nx σ H1
theorem ps_expr (he : PE X e te) (hs : swapsWith e none pos.line X.env = pure false := by rfl) : PS X (.Expr e pos) (tDrop te) := by
  intro pins s σ H D I h
  exact wpAny_Expr_any (thn (he pins s σ H _ I h) fun v s1 ⟨x, H1, I1, r1, q1⟩ => ⟨σ, H1, I1, q1⟩) I.quiet hs
def tRet (te : TE) : TS := fun D σ H => te σ H D.rt
theorem ps_ret (he : PE X e te) : PS X (.Return (some e) pos) (tRet te) := by
  intro pins s σ H D I h
  exact wpAny_Return_some (thn (he pins s σ H _ I h) fun v s1 ⟨x, H1, I1, r1, q1⟩ => ⟨x, σ, H1, I1, r1, q1⟩)
def tIfS (c : TT) (t u : TS) : TS := fun D σ H => c σ H fun b H1 => if b = true then t D σ H1 else u D σ H1
theorem ps_if {c : Expr} {a b : List Stmt} {tc : TT} (hc : PT X c tc) (ha : PSs X a t) (hb : PSs X b u) : PS X (.If c a b pos) (tIfS tc t u) := by
  intro pins s σ H D I h
  refine wpAny_If (thn (hc pins s σ H _ I h) fun d s1 ⟨H1, I1, q1⟩ => ?_)
  cases d with
  | true => exact ha pins s1 σ H1 D I1 q1
  | false => exact hb pins s1 σ H1 D I1 q1
end

abbrev TG := V → St → Hp → (St → Hp → Prop) → Prop
abbrev TGs := List V → St → Hp → (St → Hp → Prop) → Prop
def PG (X : Cx) (target : Expr) (t : TG) : Prop :=
  ∀ (pins : List (Addr × Obj)) (s : Shared) (σ : St) (H : Hp) (v : V) (u : Value) (Q : St → Hp → Prop), Inv X pins σ H s → RelV v u → t v σ H Q →
    wpAny (model X.prog X.w) X.A (assign target X.env u) (fun _ s' => ∃ σ' H', Inv X pins σ' H' s' ∧ Q σ' H') X.xe s
/-- several targets, one after another -/
def PGs (X : Cx) (ts : List Expr) (t : TGs) : Prop :=
  ∀ (pins : List (Addr × Obj)) (s : Shared) (σ : St) (H : Hp) (vs : List V) (us : List Value) (Q : St → Hp → Prop), Inv X pins σ H s → Vals vs us → t vs σ H Q →
    wpAny (model X.prog X.w) X.A (assignInOrder ((assignEach ts X.env).map (·.2)) us) (fun _ s' => ∃ σ' H', Inv X pins σ' H' s' ∧ Q σ' H') X.xe s
/-- o[i] = v, by values -/
abbrev TSet := V → V → V → Hp → (Hp → Prop) → Prop
/-- a op= b, by values -/
abbrev TIp := V → V → Hp → VK → Prop
def PIp (X : Cx) (op : Operator) (t : TIp) : Prop :=
  ∀ (pins : List (Addr × Obj)) (s : Shared) (σ : St) (H : Hp) (x y : V) (v u : Value) (Q : VK), Inv X pins σ H s → RelV x v → RelV y u → t x y H Q →
    wpAny (model X.prog X.w) X.A (inplaceOp op v u) (EP X pins σ Q) X.xe s
section
variable {X : Cx} {pos : Pos}
def gName (i : Nat) : TG := fun v σ H Q => Q (σ.set i (some v)) H
theorem pg_name {i : Nat} {x : Str} (hN : X.N.Nodup) (hi : X.N[i]? = some x) (hx : Loc X.env.scope x) (hf : X.fn x = true ∨ X.env.scope.names.lookup x = some .local := by first | exact .inl rfl | exact .inr rfl | assumption) : PG X (.Name x pos) (gName i) := by
  intro pins s σ H v u Q I r h
  exact wpAny_assign_Name (store_ok I hN hi hx r (fun s' I' => ⟨_, H, I', h⟩) hf)
def gNil : TGs := fun vs σ H Q => vs = [] ∧ Q σ H
def gCons (t : TG) (u : TGs) : TGs := fun vs σ H Q => ∃ v r, vs = v :: r ∧ t v σ H fun σ' H' => u r σ' H' Q
theorem pgs_nil : PGs X [] gNil := by
  intro pins s σ H vs us Q I r h
  obtain ⟨e, h⟩ := h
  subst e
  cases r
  exact assignInOrder_nil ⟨σ, H, I, h⟩
theorem pgs_cons {e : Expr} {es : List Expr} {t : TG} {u : TGs} (h1 : PG X e t) (h2 : PGs X es u)
    (hs : (assignEach (e :: es) X.env).map (·.2) = assign e X.env :: (assignEach es X.env).map (·.2) := by rfl) : PGs X (e :: es) (gCons t u) := by
  intro pins s σ H vs us Q I r h
  obtain ⟨v, vr, e1, h⟩ := h
  subst e1
  cases r with
  | cons r rr =>
    rw [hs]
    refine assignInOrder_cons (thn (h1 pins s σ H _ _ _ I r h) fun _ s1 ⟨σ1, H1, I1, q1⟩ => ?_)
    exact h2 pins s1 σ1 H1 _ _ Q I1 rr q1
/-- (a, b, ..) = a tuple of that length -/
def gTup (K : PySem.W.Frag) (n : Nat) (t : TGs) : TG := fun v σ H Q => ∃ a xs, v = .ref a ∧ SqT K H a xs ∧ xs.length = n ∧ t xs σ H Q
theorem pg_tup {es : List Expr} {k : Nat} {t : TGs} {n : Nat} (hc : X.calm = true) (h : PGs X es t)
    (hn : (assignEach es X.env).length = n := by rfl) (hst : (assignEach es X.env).findIdx? (·.1) = none := by rfl) : PG X (.Tuple es k pos) (gTup X.K n t) := by
  intro pins s σ H v u Q I r hw
  obtain ⟨a, xs, e1, hq, hl, hw⟩ := hw
  subst e1
  cases r
  obtain ⟨its, rv, ht, hz⟩ := I.tuple hq
  refine assign_Tuple_tuple (I.ok.hd hc) ht (by simp [hn, ← hl, rv.length]) hst fun h' hx => ?_
  have I1 : Inv X pins σ H { s with heap := h' } := I.kept (t' := s.toks) fun b o e => hx b o (Nat.ne_of_lt (Heap.lt_size e)) e
  exact h pins _ σ H xs _ Q I1 (by simpa using rv) hw
/-- target = value -/
def tAsg (te : TE) (g : TG) : TS := fun D σ H => te σ H fun x H1 => g x σ H1 D.nx
/-- name = value -/
theorem ps_set {i : Nat} {x : Str} {e : Expr} {te : TE} {pos' : Pos} (hN : X.N.Nodup) (hi : X.N[i]? = some x) (hx : Loc X.env.scope x) (he : PE X e te) (hs : swapsWith e (some (.Name x pos')) pos.line X.env = pure false := by rfl) (hf : X.fn x = true ∨ X.env.scope.names.lookup x = some .local := by first | exact .inl rfl | exact .inr rfl | assumption) :
    PS X (.Assign [.Name x pos'] e pos) (tAsg te (gName i)) := by
  intro pins s σ H D I h
  refine wpAny_Assign_Name (thn (he pins s σ H _ I h) fun v s1 ⟨y, H1, I1, r1, q1⟩ => ?_) hs
  exact store_ok I1 hN hi hx r1 (fun s2 I2 => ⟨_, H1, I2, q1⟩) hf
/-- name op= e -/
def tAug (i : Nat) (te : TE) (ti : TIp) : TS := fun D σ H => ∃ x, σ[i]? = some (some x) ∧ te σ H fun y H1 => ti x y H1 fun z H2 => D.nx (σ.set i (some z)) H2
theorem ps_aug {i : Nat} {x : Str} {e : Expr} {te : TE} {op : Operator} {ti : TIp} {pos' : Pos} (hN : X.N.Nodup) (hi : X.N[i]? = some x) (hx : Loc X.env.scope x) (he : PE X e te) (ho : PIp X op ti) (hf : X.fn x = true ∨ X.env.scope.names.lookup x = some .local := by first | exact .inl rfl | exact .inr rfl | assumption) :
    PS X (.AugAssign (.Name x pos') op e pos) (tAug i te ti) := by
  intro pins s σ H D I h
  obtain ⟨v, e1, h⟩ := h
  obtain ⟨m, hn, hl⟩ := I.loc
  have vis : Vis X.env.scope x := by rcases hx with k | k; exact .inl k; exact .inr (.inl k)
  obtain ⟨u, r, l⟩ := hl i x v hi e1 vis
  refine wpAny_AugAssign_Name ?_
  have go : wpAny (model X.prog X.w) X.A (eval e X.env) (fun w s₂ => wpAny (model X.prog X.w) X.A (inplaceOp op u w) (fun r s₃ => wpAny (model X.prog X.w) X.A (storeName X.env x r) (fun _ => SP X pins D .next) X.xe s₃) X.xe s₂) X.xe s := by
    refine thn (he pins s σ H _ I h) fun w s1 ⟨y, H1, I1, r1, q1⟩ => ?_
    refine thn (ho pins s1 σ H1 v y u w _ I1 r r1 q1) fun z s2 ⟨zv, H2, I2, r2, q2⟩ => ?_
    exact store_ok I2 hN hi hx r2 (fun s3 I3 => ⟨_, H2, I3, q2⟩) hf
  rcases l with ⟨hk, hm⟩ | ⟨hk, c, hc, hcell⟩
  · exact wpAny_loadName_local I.ok.kind hk hn hm go
  · rcases hk with hk | hk
    · exact wpAny_loadName_cell I.ok.kind hk hc hcell go
    · rcases hx with k | k
      · have : X.env.scope.names.lookup x = some .free := hk
        rw [k] at this; cases this
      · have : X.env.scope.names.lookup x = some .free := hk
        rw [k] at this; cases this
/-- ints -/
def ipI (f : Int → Int → Int) : TIp := fun x y H Q => ∃ i j, x = .int i ∧ y = .int j ∧ Q (.int (f i j)) H
theorem ip_add : PIp X .Add (ipI fun i j => i + j) := by
  intro pins s σ H x y v u Q I r1 r2 h
  obtain ⟨i, j, e1, e2, q⟩ := h
  subst e1; subst e2
  obtain ⟨t, rfl⟩ := r1
  obtain ⟨t', rfl⟩ := r2
  exact iadd_int ⟨.int _, H, I.tok _, ⟨_, rfl⟩, q⟩
end

section
variable {X : Cx} {pos : Pos}
/-- the invariant W with its measure -/
def tWhile (c : TT) (tb : TS) : TS := fun D σ H => ∃ W : Nat → St → Hp → Prop, (∃ m, W m σ H) ∧ ∀ m σ H, W m σ H →
  c σ H fun b H1 => if b = true then ∃ N : St → Hp → Prop, (∀ σ' H', N σ' H' → ∃ m', m' < m ∧ W m' σ' H') ∧ tb { D with nx := N, ct := N, bk := D.nx } σ H1 else D.nx σ H1
theorem ps_while {c : Expr} {body : List Stmt} {tc : TT} {tb : TS} (hp : PassesOwn (model X.prog X.w) X.A X.env X.xe) (hc : PT X c tc) (hb : PSs X body tb) : PS X (.While c body [] pos) (tWhile tc tb) := by
  intro pins s σ H D I h
  obtain ⟨W, ⟨m0, w0⟩, turn⟩ := h
  refine wpAny_While (codeAny_whileLoop (fun n s' => ∃ σ' H', Inv X pins σ' H' s' ∧ W n σ' H') ?_ m0 ⟨σ, H, I, w0⟩)
  rintro n s1 ⟨σ1, H1, I1, w1⟩
  refine wpAny_passesOwn hp (thn (hc pins s1 σ1 H1 _ I1 (turn n σ1 H1 w1)) fun b s2 ⟨H2, I2, q2⟩ => ?_)
  cases b with
  | true =>
    obtain ⟨N, hN, q2⟩ := q2
    rw [if_pos rfl]
    refine wpAny_passesOwn hp (thn (hb pins s2 σ1 H2 _ I2 q2) fun f s3 q3 => ?_)
    cases f with
    | next =>
      obtain ⟨σ3, H3, I3, n3⟩ := q3
      obtain ⟨m', hm, w3⟩ := hN σ3 H3 n3
      exact ⟨m', hm, σ3, H3, I3, w3⟩
    | cont =>
      obtain ⟨σ3, H3, I3, n3⟩ := q3
      obtain ⟨m', hm, w3⟩ := hN σ3 H3 n3
      exact ⟨m', hm, σ3, H3, I3, w3⟩
    | brk => exact q3
    | ret v => exact q3
  | false =>
    rw [if_neg Bool.false_ne_true]
    exact wpAny_execs_nil ⟨σ1, H2, I2, q2⟩
end

/-- at turn i: it yields x (the heap may grow), or it stops -/
structure It where
  go : Nat → Hp → Prop
  yld : Nat → Hp → V → Hp → Prop
  stop : Nat → Hp → Prop
/-- the iterator's own objects may turn: they are not the frame's, not pinned, younger than the entry (or a comprehension's own) -/
def FpOk (X : Cx) (pins : List (Addr × Obj)) (H : Hp) (b : Addr) : Prop :=
  H b = none ∧ b ≠ X.env.locals ∧ b ∉ X.fs ∧ (b ∈ X.ex ∨ X.s_0.heap.objs.size ≤ b) ∧ (∀ x c, X.env.cells.lookup x = some c → c ≠ b) ∧ ∀ p ∈ X.pn ++ pins, p.1 ≠ b
theorem Inv.fpOk {X : Cx} {pins : List (Addr × Obj)} {σ : St} {H H' : Hp} {s : Shared} {b : Addr} (I : Inv X pins σ H s) (hb : s.heap.objs.size ≤ b) (hn : H' b = none) : FpOk X pins H' b := by
  refine ⟨hn, Nat.ne_of_gt (Nat.lt_of_lt_of_le I.lt hb), I.nofs hb, .inr (Nat.le_trans I.sz hb), fun x c e z => ?_, fun p hp z => ?_⟩
  · obtain ⟨v, q⟩ := I.cell x c e
    exact absurd (Nat.lt_of_lt_of_le q.lt (by rw [z]; exact hb)) (Nat.lt_irrefl _)
  · exact absurd (Nat.lt_of_lt_of_le (Heap.lt_size (I.pin p hp).1) (by rw [z]; exact hb)) (Nat.lt_irrefl _)
structure Turn (P : Program) (w : World) (K : PySem.W.Frag) (tg : Expr) (J : It) (fp : List Addr) (it : Addr) (tn : Nat → Heap → Prop) : Prop where
  mem : it ∈ fp
  obj : ∀ i h, tn i h → ∀ b ∈ fp, ∃ o, h.get? b = some o ∧ ∀ v, o.data ≠ .cell v
  keep : ∀ i h h', tn i h → (∀ b ∈ fp, ∀ o, h.get? b = some o → h'.get? b = some o) → tn i h'
  item : ∀ (X : Cx), X.prog = P → X.w = w → X.K = K → X.calm = true → ∀ (i : Nat) (pins : List (Addr × Obj)) (s : Shared) (σ : St) (H : Hp) (E : Value → Shared → Prop), Inv X pins σ H s → (∀ b ∈ fp, FpOk X pins H b) → tn i s.heap → J.go i H →
    wpAny (model P w) X.A (pyNext (.ref it)) (fun r s1 => ∃ u, r = some u ∧
      wpAny (model P w) X.A (letOwnedTupleGo tg (.ref it) u) (fun _ s2 => ∃ x H', Inv X pins σ H' s2 ∧ RelV x u ∧ J.yld i H x H' ∧ tn (i + 1) s2.heap ∧ ∀ b ∈ fp, H' b = none) E s1) E s
  done : ∀ (X : Cx), X.prog = P → X.w = w → X.K = K → X.calm = true → ∀ (i : Nat) (pins : List (Addr × Obj)) (s : Shared) (σ : St) (H : Hp) (E : Value → Shared → Prop), Inv X pins σ H s → (∀ b ∈ fp, FpOk X pins H b) → tn i s.heap → J.stop i H →
    wpAny (model P w) X.A (pyNext (.ref it)) (fun r s1 => r = none ∧ Inv X pins σ H s1) E s
  self : ∀ (A : Around) (i : Nat) (s : Shared) (Q : Value → Shared → Prop) (E : Value → Shared → Prop), tn i s.heap → Q (.ref it) s → wpAny (model P w) A (pyIter (.ref it)) Q E s
abbrev TI := St → Hp → (It → Hp → Prop) → Prop
/-- an iterator has come -/
def PIE (X : Cx) (pins : List (Addr × Obj)) (σ : St) (tg : Expr) (R : It → Hp → Prop) (itv : Value) (s2 : Shared) : Prop :=
  ∃ (it : Addr) (fp : List Addr) (tn : Nat → Heap → Prop) (J : It) (H' : Hp), itv = .ref it ∧ Inv X pins σ H' s2 ∧ Turn X.prog X.w X.K tg J fp it tn ∧ tn 0 s2.heap ∧ (∀ b ∈ fp, FpOk X pins H' b) ∧ R J H'
def PI (X : Cx) (tg iter : Expr) (wi : TI) : Prop :=
  ∀ (pins : List (Addr × Obj)) (s : Shared) (σ : St) (H : Hp) (R : It → Hp → Prop), Inv X pins σ H s → wi σ H R →
    wpAny (model X.prog X.w) X.A (eval iter X.env) (fun v s1 => wpAny (model X.prog X.w) X.A (pyIter v) (PIE X pins σ tg R) X.xe s1) X.xe s

/-- the step ahead of the store is nothing for an iterator that keeps no tuple -/
theorem go_of {M : Model} {A : Around} {E : Value → Shared → Prop} {s : Shared} {tg : Expr} {it : Addr} {u : Value} {o : Obj} {n : String} {vs : Array Value} {Q : Unit → Shared → Prop} (ho : s.heap.get? it = some o) (hc : o.cls = .type n) (hd : o.data = .fields vs)
    (hn : ["enumerate", "zip", "dict_itemiterator", "dict_reverseitemiterator", "odict_iterator", "itertools.zip_longest", "itertools.pairwise"].contains n = false) (hQ : Q () s) : wpAny M A (letOwnedTupleGo tg (.ref it) u) Q E s := by
  unfold letOwnedTupleGo
  cases tg <;> first
    | exact wpAny_pure hQ
    | (cases u <;> first
        | exact wpAny_pure hQ
        | (refine wpAny_bind (wpAny_load ho ?_)
           rw [hc, hd]
           show wpAny M A (if (["enumerate", "zip", "dict_itemiterator", "dict_reverseitemiterator", "odict_iterator", "itertools.zip_longest", "itertools.pairwise"].contains n && vs[0]? == some (rawInt _)) = true then _ else _) Q E s
           rw [if_neg (by intro h; rw [hn, Bool.false_and] at h; cases h)]
           exact wpAny_pure hQ))

/-- the list at a, as it stands at each turn (a loop may append to it) -/
def Itl (K : PySem.W.Frag) (a : Addr) : It :=
  ⟨fun i H => ∃ xs x, SqL K H a xs ∧ xs[i]? = some x, fun i H x H' => H' = H ∧ ∀ xs, SqL K H a xs → xs[i]? = some x, fun i H => ∃ xs, SqL K H a xs ∧ xs.length ≤ i⟩
/-- lo, lo + 1, .. (n of them) -/
def Itr (lo : Int) (n : Nat) : It := ⟨fun i _ => i < n, fun i H x H' => H' = H ∧ x = .int (lo + i), fun i _ => n ≤ i⟩
theorem turn_list {P : Program} {w : World} {K : PySem.W.Frag} {tg : Expr} (a it : Addr) : Turn P w K tg (Itl K a) [it] it (fun i h => h.IsListIter it a i) where
  mem := by simp
  obj := fun i h st b hb => by
    have e : b = it := by simpa using hb
    subst e
    obtain ⟨o, e, c, d⟩ := st
    exact ⟨o, e, fun v z => by rw [d] at z; cases z⟩
  keep := fun i h h' st k => st.at fun o e => k it (by simp) o e
  item := by
    intro X hP hw hK hc i pins s σ H E I hf st hg
    subst hP hw hK
    obtain ⟨xs, x, hq, hx⟩ := hg
    obtain ⟨its, rv, p, hz⟩ := I.list hq
    obtain ⟨u, hu, ru⟩ := rv.get hx
    obtain ⟨f0, f1, f2, f3, f4, f5⟩ := hf it (by simp)
    refine wpAny_pyNext_list_item st p.isList (x := u) (by simpa using hu) fun h' st' sb => ?_
    have I1 : Inv X pins σ H { s with heap := h' } := I.turned (t' := s.toks) (fun b o hb e => (sb.2 b hb).trans e) f0 f1 f3 f4 f5
    obtain ⟨o, e, c, d⟩ := id st'
    exact ⟨u, rfl, go_of (s := { s with heap := h' }) e c d (by decide) ⟨x, H, I1, ru, ⟨rfl, fun ys hy => by rw [I.list_inj hy hq]; exact hx⟩, st', fun b hb => (hf b hb).1⟩⟩
  done := by
    intro X hP hw hK hc i pins s σ H E I hf st hg
    subst hP hw hK
    obtain ⟨xs, hq, hx⟩ := hg
    obtain ⟨its, rv, p, hz⟩ := I.list hq
    obtain ⟨f0, f1, f2, f3, f4, f5⟩ := hf it (by simp)
    have hl := rv.length
    exact wpAny_pyNext_list_end (I.ok.hd hc) st p.isList (by simp; omega) fun h' eb => ⟨rfl, I.turned (t' := s.toks) (fun b o hb e => eb b o hb e) f0 f1 f3 f4 f5⟩
  self := fun _ _ _ _ _ st h => wpAny_pyIter_listiter st h
theorem turn_range {P : Program} {w : World} {K : PySem.W.Frag} {tg : Expr} (it : Addr) (lo : Int) (n : Nat) : Turn P w K tg (Itr lo n) [it] it (fun i h => IsRangeIter h it (lo + (i : Nat) * 1) ((n : Int) - (i : Nat)) 1) where
  mem := by simp
  obj := fun i h st b hb => by
    have e : b = it := by simpa using hb
    subst e
    exact ⟨_, st, fun v z => by
      have z' : Data.fields _ = Data.cell v := z
      cases z'⟩
  keep := fun i h h' st k => k it (by simp) _ st
  item := by
    intro X hP hw hK hc i pins s σ H E I hf st hg
    subst hP hw hK
    obtain ⟨f0, f1, f2, f3, f4, f5⟩ := hf it (by simp)
    have W := Walks.range (prog := X.prog) (w := X.w) (I.ok.hd hc) it lo 1 n
    refine W.item i s _ _ hg st fun v h' tk hv st' kk => ?_
    obtain ⟨t, rfl⟩ := hv
    have I1 : Inv X pins σ H { s with heap := h', toks := tk } := I.turned (fun b o hb e => kk b o (by simpa using hb) e) f0 f1 f3 f4 f5
    refine ⟨_, rfl, go_of (s := { s with heap := h', toks := tk }) (n := "range_iterator") st' rfl rfl (by decide) ⟨.int (lo + i), H, I1, ⟨t, ?_⟩, ⟨rfl, rfl⟩, st', fun b hb => (hf b hb).1⟩⟩
    rw [Int.mul_one]
  done := by
    intro X hP hw hK hc i pins s σ H E I hf st hg
    subst hP hw hK
    obtain ⟨f0, f1, f2, f3, f4, f5⟩ := hf it (by simp)
    exact wpAny_pyNext_range_end (I.ok.hd hc) st (by have : n ≤ i := hg; omega) fun h' eb => ⟨rfl, I.turned (t' := s.toks) (fun b o hb e => eb b o hb e) f0 f1 f3 f4 f5⟩
  self := fun _ _ _ _ _ st h => wpAny_pyIter_rangeiter st h
end L2

namespace L2
open PySem PySem.Spec PyProof.Rows
section
variable {X : Cx} {tg : Expr}
def iList (K : PySem.W.Frag) (tl : TE) : TI := fun σ H R => tl σ H fun x H1 => ∃ a, x = .ref a ∧ (∃ xs, SqL K H1 a xs) ∧ R (Itl K a) H1
theorem pi_list {l : Expr} {tl : TE} (hl : PE X l tl) : PI X tg l (iList X.K tl) := by
  intro pins s σ H R I h
  refine thn (hl pins s σ H _ I h) fun v s1 ⟨x, H1, I1, r1, q1⟩ => ?_
  obtain ⟨a, e, ⟨xs, hq⟩, q⟩ := q1
  subst e
  cases r1
  obtain ⟨its, rv, p, hz⟩ := I1.list hq
  refine wpAny_pyIter_list p.isList ?_
  refine ⟨s1.heap.objs.size, [s1.heap.objs.size], _, _, H1, rfl, I1.kept (t' := s1.toks) fun b o e => Heap.get?_push_of_some _ e, turn_list a _, ⟨_, Heap.get?_push_size _ rfl, rfl, rfl⟩, fun b hb => ?_, q⟩
  have e : b = s1.heap.objs.size := by simpa using hb
  subst e
  exact I1.fpOk (Nat.le_refl _) (I1.hok.fresh (Nat.le_refl _))
/-- a range object just made, walked -/
theorem range_it {pins : List (Addr × Obj)} {σ : St} {H : Hp} {s : Shared} {R : It → Hp → Prop} {E : Value → Shared → Prop} {lo hi : Int} {t u v : Tok} {tk : Nat} (I : Inv X pins σ H s) (h1 : -(2 ^ 62) ≤ lo) (h2 : lo < 2 ^ 62) (h3 : -(2 ^ 62) ≤ hi) (h4 : hi < 2 ^ 62)
    (q : R (Itr lo (hi - lo).toNat) H) : wpAny (model X.prog X.w) X.A (pyIter (.ref s.heap.objs.size)) (PIE X pins σ tg R) E { s with heap := s.heap.push { cls := .type "range", data := .fields #[.int lo t, .int hi u, .int 1 v] }, toks := tk } := by
  refine wpAny_pyIter_range (IsRange.new ..) (small_one h1 h2 h3 h4) ?_
  have I1 : Inv X pins σ H { s with heap := s.heap.push { cls := .type "range", data := .fields #[.int lo t, .int hi u, .int 1 v] }, toks := tk } := I.kept fun b o e => Heap.get?_push_of_some _ e
  refine ⟨(s.heap.push { cls := .type "range", data := .fields #[.int lo t, .int hi u, .int 1 v] }).objs.size, [(s.heap.push { cls := .type "range", data := .fields #[.int lo t, .int hi u, .int 1 v] }).objs.size], _, _, H, rfl,
    I1.kept (t' := tk) fun b o e => Heap.get?_push_of_some _ e, turn_range _ lo (hi - lo).toNat, ?_, fun b hb => ?_, q⟩
  · have e1 : lo + ((0 : Nat) : Int) * 1 = lo := by simp
    have e2 : (((hi - lo).toNat : Nat) : Int) - ((0 : Nat) : Int) = Builtin.Range.rangeSize lo hi 1 := by rw [rangeSize_one]; split <;> omega
    show IsRangeIter _ _ (lo + ((0 : Nat) : Int) * 1) ((((hi - lo).toNat : Nat) : Int) - ((0 : Nat) : Int)) 1
    rw [e1, e2]
    exact Heap.get?_push_size _ rfl
  · have e : b = (s.heap.push { cls := .type "range", data := .fields #[.int lo t, .int hi u, .int 1 v] }).objs.size := by simpa using hb
    subst e
    exact I1.fpOk (Nat.le_refl _) (I1.hok.fresh (Nat.le_refl _))
def iRng1 (ta : TA) : TI := fun σ H R => ta σ H fun vs H1 => ∃ j : Int, vs = [.int j] ∧ -(2 ^ 62) ≤ j ∧ j < 2 ^ 62 ∧ R (Itr 0 j.toNat) H1
theorem pi_range1 {a : Expr} {ta : TA} {p pos : Pos} (hg : Gl X "range") (hm : X.mg "range" = none) (ha : PA X [a] ta) (hs : starEach [a] X.env = [(false, eval a X.env)] := by rfl) : PI X tg (.Call (.Name "range" p) [a] [] pos) (iRng1 ta) := by
  intro pins s σ H R I h
  refine Call_ (ld_blt I hg hm boot_range (PyProof.Rows.callWith_type1 (thn (ha pos pins s σ H _ I h) fun us s1 ⟨vs, H1, I1, r1, q1⟩ => ?_) hs rfl))
  obtain ⟨j, e, q1, q2, q⟩ := q1
  subst e
  cases r1 with
  | cons r rr =>
    cases rr
    obtain ⟨t, rfl⟩ := r
    exact call_range_1 (range_it I1 (by omega) (by omega) q1 q2 (by simpa using q))
/-- W: the invariant by the turn and a measure; N: what the body is to reach -/
def tFor (wi : TI) (g : TG) (tb : TS) : TS := fun D σ H => wi σ H fun J H1 => ∃ W : Nat → Nat → St → Hp → Prop, (∃ m, W 0 m σ H1) ∧ ∀ i m σ H, W i m σ H →
  (J.stop i H ∧ D.nx σ H) ∨ (J.go i H ∧ ∃ N : St → Hp → Prop, (∀ σ' H', N σ' H' → ∃ m', m' < m ∧ W (i + 1) m' σ' H') ∧ ∀ x H', J.yld i H x H' → g x σ H' fun σ2 H2 => tb { D with nx := N, ct := N, bk := D.nx } σ2 H2)
/-- the records at fp as they stand -/
def pinsAt (fp : List Addr) (h : Heap) : List (Addr × Obj) := fp.filterMap fun b => (h.get? b).map fun o => (b, o)
theorem mem_pinsAt {fp : List Addr} {h : Heap} {b : Addr} {o : Obj} (hb : b ∈ fp) (e : h.get? b = some o) : (b, o) ∈ pinsAt fp h := List.mem_filterMap.mpr ⟨b, hb, by rw [e]; rfl⟩
theorem of_pinsAt {fp : List Addr} {h : Heap} {p : Addr × Obj} (hp : p ∈ pinsAt fp h) : p.1 ∈ fp ∧ h.get? p.1 = some p.2 := by
  obtain ⟨b, hb, e⟩ := List.mem_filterMap.mp hp
  cases q : h.get? b with
  | none => rw [q] at e; cases e
  | some o =>
    rw [q] at e
    have e' : (b, o) = p := Option.some.inj e
    subst e'
    exact ⟨hb, q⟩
theorem Inv.pinned {pins : List (Addr × Obj)} {σ : St} {H : Hp} {s : Shared} {fp : List Addr} (I : Inv X pins σ H s) (hf : ∀ b ∈ fp, FpOk X pins H b) (ho : ∀ b ∈ fp, ∃ o, s.heap.get? b = some o ∧ ∀ v, o.data ≠ .cell v) : Inv X (pins ++ pinsAt fp s.heap) σ H s :=
  I.pins_of fun p hp => (List.mem_append.mp hp).elim (fun z => I.pin p (List.mem_append_right _ z)) fun z => by
    obtain ⟨hb, e⟩ := of_pinsAt z
    obtain ⟨f0, f1, f2, _⟩ := hf p.1 hb
    obtain ⟨o, e', d⟩ := ho p.1 hb
    rw [e] at e'; cases e'
    exact ⟨e, f0, f1, f2, d⟩
theorem Inv.unpinned {pins pl : List (Addr × Obj)} {σ : St} {H : Hp} {s : Shared} (I : Inv X (pins ++ pl) σ H s) : Inv X pins σ H s := I.pins_of fun p hp => I.pin p (List.mem_append_right _ (List.mem_append_left _ hp))
theorem ps_for {iter : Expr} {body : List Stmt} {wi : TI} {g : TG} {tb : TS} {pos : Pos} (hp : PassesOwn (model X.prog X.w) X.A X.env X.xe) (hc : X.calm = true) (hi : PI X tg iter wi) (hg : PG X tg g) (hb : PSs X body tb)
    (hs : ∀ x, foldedSetIterable iter X.env x = pure x := by intro _; rfl) : PS X (.For tg iter body [] pos) (tFor wi g tb) := by
  intro pins s σ H D I h
  refine wpAny_For (thn (hi pins s σ H _ I h) fun v s1 h1 => thn h1 fun itv s2 h2 => ?_) hs
  obtain ⟨it, fp, tn, J, H2, e, I2, T, st2, f2, W, ⟨m0, w0⟩, turn⟩ := h2
  subst e
  -- what stays true of the iterator's objects through the loop
  have stat : ∀ {H' : Hp}, (∀ b ∈ fp, H' b = none) → ∀ b ∈ fp, FpOk X pins H' b := fun hn b hb => ⟨hn b hb, (f2 b hb).2⟩
  refine codeAny_forLoop_any (fun n s' => ∃ i σ' H', Inv X pins σ' H' s' ∧ tn i s'.heap ∧ (∀ b ∈ fp, H' b = none) ∧ W i n σ' H') ?_ m0 ⟨0, σ, H2, I2, st2, fun b hb => (f2 b hb).1, w0⟩
  rintro n s3 ⟨i, σ3, H3, I3, st3, fr3, w3⟩
  rcases turn i n σ3 H3 w3 with ⟨stop, qn⟩ | ⟨go, N, hN, step⟩
  · refine wpAny_passesOwn hp (thn (T.done X rfl rfl rfl hc i pins s3 σ3 H3 X.xe I3 (stat fr3) st3 stop) fun r s4 ⟨hr, I4⟩ => ?_)
    subst hr
    exact wpAny_execs_nil ⟨σ3, H3, I4, qn⟩
  · refine wpAny_passesOwn hp (thn (T.item X rfl rfl rfl hc i pins s3 σ3 H3 X.xe I3 (stat fr3) st3 go) fun r s4 ⟨u, hr, h4⟩ => ?_)
    subst hr
    refine wpAny_passesOwn hp (thn h4 fun _ s5 ⟨x, H5, I5, r5, y5, st5, fr5⟩ => ?_)
    have I5' := I5.pinned (stat fr5) (T.obj _ _ st5)
    refine wpAny_passesOwn hp (thn (hg _ s5 σ3 H5 x u _ I5' r5 (step x H5 y5)) fun _ s6 ⟨σ6, H6, I6, q6⟩ => ?_)
    refine wpAny_passesOwn hp (thn (hb _ s6 σ6 H6 _ I6 q6) fun f s7 q7 => ?_)
    have again : ∀ {σ7 : St} {H7 : Hp}, Inv X (pins ++ pinsAt fp s5.heap) σ7 H7 s7 → N σ7 H7 → ∃ m, m < n ∧ ∃ i σ' H', Inv X pins σ' H' s7 ∧ tn i s7.heap ∧ (∀ b ∈ fp, H' b = none) ∧ W i m σ' H' := fun {σ7 H7} I7 n7 => by
      obtain ⟨m', hm, w7⟩ := hN σ7 H7 n7
      refine ⟨m', hm, i + 1, σ7, H7, I7.unpinned, T.keep _ _ _ st5 fun b hb o e => (I7.pin (b, o) (List.mem_append_right _ (List.mem_append_right _ (mem_pinsAt hb e)))).1, fun b hb => ?_, w7⟩
      obtain ⟨o, e, d⟩ := T.obj _ _ st5 b hb
      exact (I7.pin (b, o) (List.mem_append_right _ (List.mem_append_right _ (mem_pinsAt hb e)))).2.1
    cases f with
    | next => obtain ⟨σ7, H7, I7, n7⟩ := q7; exact again I7 n7
    | cont => obtain ⟨σ7, H7, I7, n7⟩ := q7; exact again I7 n7
    | brk => obtain ⟨σ7, H7, I7, q7⟩ := q7; exact ⟨σ7, H7, I7.unpinned, q7⟩
    | ret v => obtain ⟨x7, σ7, H7, I7, r7, q7⟩ := q7; exact ⟨x7, σ7, H7, I7.unpinned, r7, q7⟩
end

/-- over a list that the body leaves as it is -/
theorem for_list {K : PySem.W.Frag} {a : Addr} {xs : List V} {g : TG} {tb : TS} {D : Ends} {σ : St} {H : Hp} (Pv : Nat → St → Hp → Prop) (h0 : Pv 0 σ H) (hl : ∀ i σ H, i ≤ xs.length → Pv i σ H → SqL K H a xs)
    (hs : ∀ i x σ H, xs[i]? = some x → Pv i σ H → g x σ H fun σ2 H2 => tb { D with nx := Pv (i + 1), ct := Pv (i + 1), bk := D.nx } σ2 H2) (hd : ∀ σ H, Pv xs.length σ H → D.nx σ H) :
    ∃ W : Nat → Nat → St → Hp → Prop, (∃ m, W 0 m σ H) ∧ ∀ i m σ H, W i m σ H →
      ((Itl K a).stop i H ∧ D.nx σ H) ∨ ((Itl K a).go i H ∧ ∃ N : St → Hp → Prop, (∀ σ' H', N σ' H' → ∃ m', m' < m ∧ W (i + 1) m' σ' H') ∧ ∀ x H', (Itl K a).yld i H x H' → g x σ H' fun σ2 H2 => tb { D with nx := N, ct := N, bk := D.nx } σ2 H2) := by
  refine ⟨fun i m σ H => m = xs.length - i ∧ i ≤ xs.length ∧ Pv i σ H, ⟨xs.length, by simp, Nat.zero_le _, h0⟩, ?_⟩
  rintro i m σ H ⟨rfl, hi, p⟩
  have q := hl i σ H hi p
  by_cases hlt : i < xs.length
  · refine .inr ⟨⟨xs, xs[i], q, by simp [hlt]⟩, Pv (i + 1), fun σ' H' p' => ⟨xs.length - (i + 1), by omega, rfl, hlt, p'⟩, fun x H' y => ?_⟩
    obtain ⟨e, y⟩ := y
    subst e
    exact hs i x σ _ (y xs q) p
  · have e : i = xs.length := by omega
    subst e
    exact .inl ⟨⟨xs, q, Nat.le_refl _⟩, hd σ H p⟩
end L2

namespace L2
open PySem PySem.Spec PyProof.Rows

abbrev R2 := V → V → Hp → VK → Prop
/-- a two-place operation on values: f is binaryOp op, inplaceOp op or compareOp op -/
def OpR (X : Cx) (f : Value → Value → Sem Value) (r : R2) : Prop :=
  ∀ (pins : List (Addr × Obj)) (s : Shared) (σ : St) (H : Hp) (x y : V) (v u : Value) (Q : VK), Inv X pins σ H s → RelV x v → RelV y u → r x y H Q →
    wpAny (model X.prog X.w) X.A (f v u) (EP X pins σ Q) X.xe s
/-- a call of a value that is known (a builtin, a type) with values -/
def CallR (X : Cx) (f : Value) (r : List V → Hp → VK → Prop) : Prop :=
  ∀ (pins : List (Addr × Obj)) (s : Shared) (σ : St) (H : Hp) (xs : List V) (us : List Value) (Q : VK), Inv X pins σ H s → Vals xs us → r xs H Q →
    wpAny (model X.prog X.w) X.A (call f us) (EP X pins σ Q) X.xe s
def tOp (r : R2) (ta tb : TE) : TE := fun σ H Q => ta σ H fun x H1 => tb σ H1 fun y H2 => r x y H2 Q
def rI0 (g : Int → Int → V) : R2 := fun x y H Q => ∃ i j, x = .int i ∧ y = .int j ∧ Q (g i j) H
section
variable {X : Cx} {a b c : Expr} {ta tb tc : TE} {pos : Pos}

theorem binT (ha : PE X a ta) (hb : PE X b tb) {pins : List (Addr × Obj)} {s : Shared} {σ : St} {H : Hp} {R : V → V → Hp → Prop} (I : Inv X pins σ H s)
    (h : ta σ H fun x H1 => tb σ H1 fun y H2 => R x y H2) {Q : Value → Shared → Prop} {f : Value → Value → Sem Value}
    (hf : ∀ v u s2 x y H2, Inv X pins σ H2 s2 → RelV x v → RelV y u → R x y H2 → wpAny (model X.prog X.w) X.A (f v u) Q X.xe s2) :
    wpAny (model X.prog X.w) X.A (eval a X.env) (fun v s₁ => wpAny (model X.prog X.w) X.A (eval b X.env) (fun u s₂ => wpAny (model X.prog X.w) X.A (f v u) Q X.xe s₂) X.xe s₁) X.xe s := by
  refine thn (ha pins s σ H _ I h) fun v s1 ⟨x, H1, I1, r1, q1⟩ => ?_
  refine thn (hb pins s1 σ H1 _ I1 q1) fun u s2 ⟨y, H2, I2, r2, q2⟩ => ?_
  exact hf v u s2 x y H2 I2 r1 r2 q2

theorem pe_op {op : Operator} {r : R2} (ho : OpR X (binaryOp op) r) (ha : PE X a ta) (hb : PE X b tb) : PE X (.BinOp a op b pos) (tOp r ta tb) := by
  intro pins s σ H Q I h
  exact wpAny_BinOp (binT ha hb I h fun v u s2 x y H2 I2 rx ry q => ho pins s2 σ H2 x y v u Q I2 rx ry q)
theorem opI0 {f : Value → Value → Sem Value} {g : Int → Int → Int}
    (rule : ∀ (i j : Int) (t u : Tok) (s : Shared) (Q : Value → Shared → Prop) (E : Value → Shared → Prop), Q (.int (g i j) s.toks) { s with toks := s.toks + 1 } → wpAny (model X.prog X.w) X.A (f (.int i t) (.int j u)) Q E s) :
    OpR X f (rI0 fun i j => .int (g i j)) := by
  intro pins s σ H x y v u Q I rx ry h
  obtain ⟨i, j, rfl, rfl, q⟩ := h
  obtain ⟨t, rfl⟩ := rx
  obtain ⟨t', rfl⟩ := ry
  exact rule i j t t' s _ _ ⟨.int (g i j), H, I.tok _, ⟨_, rfl⟩, q⟩
theorem opB0 {f : Value → Value → Sem Value} {g : Int → Int → Bool}
    (rule : ∀ (i j : Int) (t u : Tok) (s : Shared) (Q : Value → Shared → Prop) (E : Value → Shared → Prop), Q (.bool (g i j)) s → wpAny (model X.prog X.w) X.A (f (.int i t) (.int j u)) Q E s) :
    OpR X f (rI0 fun i j => .bl (g i j)) := by
  intro pins s σ H x y v u Q I rx ry h
  obtain ⟨i, j, rfl, rfl, q⟩ := h
  obtain ⟨t, rfl⟩ := rx
  obtain ⟨t', rfl⟩ := ry
  exact rule i j t t' s _ _ ⟨.bl (g i j), H, I, rfl, q⟩

def CMul (i j : Int) : Prop := (-(2 ^ 64) < i ∧ i < 2 ^ 64) ∨ (-(2 ^ 64) < j ∧ j < 2 ^ 64)
theorem CMul.ok {i j : Int} (h : CMul i j) : IntMulOk i j := by
  rcases h with ⟨h1, h2⟩ | ⟨h1, h2⟩
  · exact .of_left (intBits_le_64 h1 h2)
  · exact .of_right (intBits_le_64 h1 h2)
theorem op_add : OpR X (binaryOp .Add) (rI0 fun i j => .int (i + j)) := opI0 fun _ _ _ _ _ _ _ q => add_int q
theorem op_sub : OpR X (binaryOp .Sub) (rI0 fun i j => .int (i - j)) := opI0 fun _ _ _ _ _ _ _ q => sub_int q
end

/-- the scalars that == tells apart as data does -/
def scal : V → V → Bool
  | .non, .non => true | .non, .int _ => true | .int _, .non => true | .non, .bl _ => true | .bl _, .non => true | .non, .str _ => true | .str _, .non => true
  | .int _, .int _ => true | .bl _, .bl _ => true | .str _, .str _ => true | .byt _, .byt _ => true
  | .int _, .str _ => true | .str _, .int _ => true | .bl _, .str _ => true | .str _, .bl _ => true
  | _, _ => false
def rEq : R2 := fun x y H Q => scal x y = true ∧ Q (.bl (decide (x = y))) H
theorem dec_int {i j : Int} : decide (V.int i = V.int j) = (i == j) := by
  rw [Bool.eq_iff_iff]
  simp
theorem dec_bl {i j : Bool} : decide (V.bl i = V.bl j) = (i == j) := by
  rw [Bool.eq_iff_iff]
  simp
theorem dec_str {i j : Str} : decide (V.str i = V.str j) = (i == j) := by
  rw [Bool.eq_iff_iff]
  simp
theorem dec_byt {i j : Array UInt8} : decide (V.byt i = V.byt j) = (i.toList == j.toList) := by
  rw [Bool.eq_iff_iff]
  cases i
  cases j
  simp

section
variable {X : Cx} {a b c : Expr} {ta tb tc : TE} {pos : Pos}
theorem fin_bl {pins : List (Addr × Obj)} {σ : St} {H : Hp} {s : Shared} {Q : VK} {k k' : Bool} (I : Inv X pins σ H s) (q : Q (.bl k) H) (e : k = k') : EP X pins σ Q (.bool k') s := by
  subst e
  exact ⟨.bl k, H, I, rfl, q⟩
theorem op_eq : OpR X (compareOp .Eq) rEq := by
  intro pins s σ H x y v u Q I rx ry h
  obtain ⟨hs, q⟩ := h
  cases x with
  | non =>
    cases rx
    cases y with
    | non => cases ry; exact PySem.EqNone.eq_none_none (fin_bl I q (by simp))
    | bl j => cases ry; exact PySem.EqNone.eq_none_bool (fin_bl I q (by simp))
    | int j => obtain ⟨t', rfl⟩ := ry; exact PySem.EqNone.eq_none_int (fin_bl I q (by simp))
    | str j => obtain ⟨t', rfl⟩ := ry; exact PySem.EqNone.eq_none_str (fin_bl I q (by simp))
    | _ => exact absurd (show false = true from hs) Bool.false_ne_true
  | bl i =>
    cases rx
    cases y with
    | non => cases ry; exact PySem.EqNone.eq_bool_none (fin_bl I q (by simp))
    | bl j => cases ry; exact eq_bool (fin_bl I q dec_bl)
    | str j => obtain ⟨t', rfl⟩ := ry; exact PySem.EqMixed.eq_bool_str (fin_bl I q (by simp))
    | _ => exact absurd (show false = true from hs) Bool.false_ne_true
  | int i =>
    obtain ⟨t, rfl⟩ := rx
    cases y with
    | non => cases ry; exact PySem.EqNone.eq_int_none (fin_bl I q (by simp))
    | int j => obtain ⟨t', rfl⟩ := ry; exact eq_int (fin_bl I q dec_int)
    | str j => obtain ⟨t', rfl⟩ := ry; exact PySem.EqMixed.eq_int_str (fin_bl I q (by simp))
    | _ => exact absurd (show false = true from hs) Bool.false_ne_true
  | str i =>
    obtain ⟨t, rfl⟩ := rx
    cases y with
    | non => cases ry; exact PySem.EqNone.eq_str_none (fin_bl I q (by simp))
    | bl j => cases ry; exact PySem.EqMixed.eq_str_bool (fin_bl I q (by simp))
    | int j => obtain ⟨t', rfl⟩ := ry; exact PySem.EqMixed.eq_str_int (fin_bl I q (by simp))
    | str j => obtain ⟨t', rfl⟩ := ry; exact eq_str (fin_bl I q dec_str)
    | _ => exact absurd (show false = true from hs) Bool.false_ne_true
  | byt i =>
    obtain ⟨t, rfl⟩ := rx
    cases y with
    | byt j => obtain ⟨t', rfl⟩ := ry; exact PySem.W.eq_bytes (fin_bl I q dec_byt)
    | _ => exact absurd (show false = true from hs) Bool.false_ne_true
  | _ => cases y <;> exact absurd (show false = true from hs) Bool.false_ne_true
theorem op_lt : OpR X (compareOp .Lt) (rI0 fun i j => .bl (decide (i < j))) := opB0 fun _ _ _ _ _ _ _ q => lt_int q
theorem op_gt : OpR X (compareOp .Gt) (rI0 fun i j => .bl (decide (j < i))) := opB0 fun _ _ _ _ _ _ _ q => gt_int q
theorem op_ge : OpR X (compareOp .GtE) (rI0 fun i j => .bl (decide (j ≤ i))) := opB0 fun _ _ _ _ _ _ _ q => ge_int q
/-- two rules for one operation: by cases -/
theorem OpR.or {f : Value → Value → Sem Value} {r r' : R2} (h : OpR X f r) (h' : OpR X f r') : OpR X f (fun x y H Q => r x y H Q ∨ r' x y H Q) := by
  intro pins s σ H x y v u Q I rx ry q
  rcases q with q | q
  · exact h pins s σ H x y v u Q I rx ry q
  · exact h' pins s σ H x y v u Q I rx ry q

theorem nomark (b : Expr) {op : CmpOp} (h : op ≠ .In := by decide) (h2 : op ≠ .NotIn := by decide) : behindInMarks op b = false := by
  have e1 : (op == CmpOp.In) = false := by cases op <;> first | rfl | exact absurd rfl h
  have e2 : (op == CmpOp.NotIn) = false := by cases op <;> first | rfl | exact absurd rfl h2
  cases b <;> simp [behindInMarks, e1, e2]
/-- a comparison as a value; hm: nomark b, or (for in, not in) by with_unfolding_all rfl -/
theorem pe_cmpR {op : CmpOp} {r : R2} (ho : OpR X (compareOp op) r) (ha : PE X a ta) (hb : PE X b tb) (hm : behindInMarks op b = false) : PE X (.Compare a [op] [b] pos) (tOp r ta tb) := by
  intro pins s σ H Q I h
  exact wpAny_Compare1 (binT ha hb I h fun v u s2 x y H2 I2 rx ry q => ho pins s2 σ H2 x y v u Q I2 rx ry q) hm
/-- a reading of a value as a test -/
def tTest (t : TE) : TT := fun σ H Q => t σ H fun x H' => ∃ k, x = .bl k ∧ Q k H'
theorem pt_cmpR {op : CmpOp} {r : R2} (ho : OpR X (compareOp op) r) (ha : PE X a ta) (hb : PE X b tb) (hm : behindInMarks op b = false) : PT X (.Compare a [op] [b] pos) (tTest (tOp r ta tb)) := by
  intro pins s σ H Q I h
  refine wpAny_isTrue_Compare1 (thn (ha pins s σ H _ I h) fun v s1 ⟨x, H1, I1, r1, q1⟩ => thn (hb pins s1 σ H1 _ I1 q1) fun u s2 ⟨y, H2, I2, r2, q2⟩ =>
    thn (ho pins s2 σ H2 x y v u _ I2 r1 r2 q2) fun c s3 ⟨z, H3, I3, r3, k, e, q3⟩ => ?_) hm
  subst e
  cases r3
  exact wpAny_truthy_bool ⟨H3, I3, q3⟩
theorem line63 : (sizeLine : Nat) < 2 ^ 63 := by rw [sizeLine_eq]; decide
theorem vals1 {x : V} {us : List Value} (r : Vals [x] us) : ∃ u, us = [u] ∧ RelV x u := by
  cases r with
  | cons r1 r2 => cases r2; exact ⟨_, rfl, r1⟩
theorem vals2 {x y : V} {us : List Value} (r : Vals [x, y] us) : ∃ u w', us = [u, w'] ∧ RelV x u ∧ RelV y w' := by
  cases r with
  | cons r1 r2 =>
    cases r2 with
    | cons r3 r4 => cases r4; exact ⟨_, _, rfl, r1, r3⟩
theorem call_min2 (hc : X.calm = true) : CallR X (.builtin "min") (fun xs H Q => ∃ i j, xs = [.int i, .int j] ∧ Q (.int (if j < i then j else i)) H) := by
  intro pins s σ H xs us Q I r h
  obtain ⟨i, j, rfl, q⟩ := h
  obtain ⟨u, w', rfl, ⟨t, rfl⟩, ⟨t', rfl⟩⟩ := vals2 r
  refine min_two_ints (I.ok.hd hc) fun h' tk k => ⟨_, H, I.kept k, ?_, q⟩
  by_cases hj : j < i
  · rw [if_pos hj, if_pos hj]; exact ⟨_, rfl⟩
  · rw [if_neg hj, if_neg hj]; exact ⟨_, rfl⟩
end
end L2

namespace L2
open PySem PySem.Spec PyProof.Rows

structure ObjM (h : Heap) (x dx C : Addr) (mA : Str → Option Value) : Prop where
  obj : h.get? x = some (PySem.W.instObj C dx)
  ns : h.Ns1 dx mA
  ne : dx ≠ x

theorem lookIn_ns {h : Heap} {dx : Addr} {mA : Str → Option Value} (n : h.Ns1 dx mA) : ∃ od, h.get? dx = some od ∧ ∀ name, PySem.W.lookIn name od = some (mA name) := by
  obtain ⟨o, es, ep, ho, hd, hk, _, hm⟩ := n
  refine ⟨o, ho, fun name => ?_⟩
  have e := hm name
  unfold nsFind findBy at e
  rw [← Array.find?_toList] at e
  unfold PySem.W.lookIn
  rw [hd]
  dsimp only
  split
  · rename_i y q
    rw [q] at e
    exact congrArg some e
  · rename_i q
    rw [q] at e
    have a : es.toList.any (·.refKey) = false := by
      rw [List.any_eq_false]
      intro y hy
      obtain ⟨z, t, hkey⟩ := hk y (Array.mem_toList_iff.mp hy)
      simp [DictEntry.refKey, hkey]
    have a' : ¬ es.toList.any (·.refKey) = true := by rw [a]; exact Bool.false_ne_true
    rw [if_neg a']
    exact congrArg some e

theorem ObjM.look {h : Heap} {x dx C : Addr} {mA : Str → Option Value} (I : ObjM h x dx C mA) : ∃ od, PySem.W.InstAt h x (PySem.W.instObj C dx) C (some od) ∧ ∀ name, PySem.W.lookIn name od = some (mA name) :=
  let ⟨od, ho, hl⟩ := lookIn_ns I.ns
  ⟨od, ⟨I.obj, rfl, rfl, ho⟩, hl⟩

section
variable {prog : Program} {w : World} {A : Around} {E : Value → Shared → Prop} {s : Shared} {K : PySem.W.Frag} {x dx C f : Addr} {mA : Str → Option Value} {name : Str} {v : Value}

theorem get_map {expr : Bool} {Q : Value → Shared → Prop} (X : K.In s.heap) (I : ObjM s.heap x dx C mA) (hg : PySem.W.plainGet K C name = true) (hh : PySem.W.hasDictIn K C = true)
    (ha : PySem.W.findIn K (.ref C) name = some none) (hv : mA name = some v) (hv' : PySem.W.handedIn v = true) (h : Q v { s with toks := s.toks + 1 }) :
    wpAny (model prog w) A (getAttr (.ref x) name expr) Q E s := by
  obtain ⟨od, J, hl⟩ := I.look
  exact PySem.W.get_value X J (PySem.W.plainGet_of hg).1 (PySem.W.findObj_own hh ha rfl (by rw [hl, hv])) hv' h

theorem get_meth {pl : Sem Bool} {Q : Value × List Value → Shared → Prop} (X : K.In s.heap) (I : ObjM s.heap x dx C mA) (hg : PySem.W.plainGet K C name = true)
    (hf : PySem.W.findIn K (.ref C) name = some (some (.ref f))) (ht : PySem.W.isFn K (.ref f) = true) (hv : mA name = none) (h : Q (.ref f, [.ref x]) s) :
    wpAny (model prog w) A (getMethod (.ref x) name pl) Q E s := by
  obtain ⟨od, J, hl⟩ := I.look
  exact PySem.W.method_fn X J (PySem.W.plainGet_of hg).1 (PySem.W.plainGet_of hg).2 hf (beq_iff_eq.mp ht) (by show (PySem.W.lookIn name od).map (·.isSome) = some false; rw [hl, hv]; rfl) h

theorem set_map {ns : List Str} {Q : Unit → Shared → Prop} (X : K.In s.heap) (I : ObjM s.heap x dx C mA)
    (hs : PySem.W.findIn K (.ref C) "__setattr__" = some (some (.builtin "object.__setattr__"))) (hp : PySem.W.plainOver K C = true) (ht : PySem.W.takerIn K C name = some none) (hh : PySem.W.hasDictIn K C = true)
    (hw : PySem.Within mA ns) (hsz : ns.length ≤ sizeLine)
    (h : ∀ h', ObjM h' x dx C (fun y => if y = name then some v else mA y) → Heap.SameBut dx s.heap h' → Q () { s with heap := h', toks := s.toks + 2 }) :
    wpAny (model prog w) A (setAttr (.ref x) name v) Q E s := by
  obtain ⟨od, J, hl⟩ := I.look
  refine PySem.W.set_plain X J hs (PySem.W.osa_open (s := { s with toks := s.toks + 1 }) (r := none) X J hp ht fun b => ?_)
  obtain ⟨cd, hc, hd'⟩ := PySem.W.any_some hh
  have hx : s.heap.get? x = some ⟨.ref C, some dx, .plain, #[]⟩ := I.obj
  refine wpAny_bind (wpAny_pure (wpAny_bind (wpAny_bind (wpAny_loadPart hx (wpAny_bind (PySem.W.Looks.here (s := { s with toks := s.toks + 1 }) (PySem.W.looks_clsIn X hc) ?_))))))
  rw [hd']
  refine wpAny_pure (a := some dx) (wpAny_bind (wpAny_pure (wpAny_bind ?_)))
  refine wpAny_nsSet1 (s := { s with toks := s.toks + 1 }) I.ns fun h' hn2 hs2 => ?_
  obtain ⟨oD, esD, epD, hoD, hdD, hcD⟩ := hn2.count (PySem.Within.cons name v hw)
  refine wpAny_bind (wpAny_lookBehind hoD (by rw [hdD]; exact pastItsLine_dict (Nat.le_trans hcD (by rw [List.length_cons]; omega))) ?_)
  exact wpAny_pure (h _ ⟨(hs2.2 _ (Ne.symm I.ne)).trans I.obj, hn2, I.ne⟩ hs2)

/-- C(..): the dict at the heap's end, the instance behind it; then its __init__ -/
theorem make_map {R : Result → Shared → Prop} {vs : List Value} {kw : List (Str × Value)} (X : K.In s.heap) (hm : PySem.W.makesIn K C = true)
    (hi : PySem.W.findIn K (.ref C) "__init__" = some (some (.ref f))) (hf : PySem.W.typeIn K (.ref f) = some (.type "function"))
    (h : codeAny (model prog w) (A.under (.builtin "type.__call__" ⟨.ref C :: vs, kw⟩)) (.call (.ref f) ⟨.ref (s.heap.objs.size + 1) :: vs, kw⟩) (PySem.W.InitBack (s.heap.objs.size + 1) R)
      { s with heap := (s.heap.push PySem.W.emptyDict).push (PySem.W.instObj C s.heap.objs.size) }) :
    codeAny (model prog w) A (.call (.ref C) ⟨vs, kw⟩) R s := by
  obtain ⟨hh, g, d, t, os⟩ := s
  exact PySem.W.make_core (PySem.W.makes_of X hm) (PySem.W.looks_findIn X hi) (fun self => PySem.W.bind_fn X self hf) (.inl rfl) h
end

def putF (f : Str) (v : V) : List (Str × V) → List (Str × V)
  | [] => [(f, v)]
  | (g, x) :: r => if g = f then (g, v) :: r else (g, x) :: putF f v r
theorem lookup_putF (f g : Str) (v : V) : ∀ fs : List (Str × V), (putF f v fs).lookup g = if g = f then some v else fs.lookup g
  | [] => by
    show List.lookup g [(f, v)] = _
    by_cases h : g = f
    · have hb : (g == f) = true := beq_iff_eq.mpr h
      simp only [List.lookup, hb, if_pos h]
    · have hb : (g == f) = false := beq_eq_false_iff_ne.mpr h
      simp only [List.lookup, hb, if_neg h]
  | (k, x) :: r => by
    have ih := lookup_putF f g v r
    rw [show putF f v ((k, x) :: r) = (if k = f then (k, v) :: r else (k, x) :: putF f v r) from rfl]
    by_cases hk : k = f
    · rw [if_pos hk]
      by_cases h : g = k
      · have hb : (g == k) = true := beq_iff_eq.mpr h
        simp only [List.lookup, hb, if_pos (h.trans hk)]
      · have hb : (g == k) = false := beq_eq_false_iff_ne.mpr h
        simp only [List.lookup, hb, if_neg (fun e : g = f => h (e.trans hk.symm))]
    · rw [if_neg hk]
      by_cases h : g = k
      · have hb : (g == k) = true := beq_iff_eq.mpr h
        simp only [List.lookup, hb, if_neg (fun e : g = f => hk (h.symm.trans e))]
      · have hb : (g == k) = false := beq_eq_false_iff_ne.mpr h
        simp only [List.lookup, hb]
        exact ih
theorem keys_putF (f : Str) (v : V) : ∀ fs : List (Str × V), f ∈ (putF f v fs).map (·.1) ∧ ∀ g, g ∈ fs.map (·.1) → g ∈ (putF f v fs).map (·.1)
  | [] => ⟨by simp [putF], fun g h => by simp at h⟩
  | (k, x) :: r => by
    obtain ⟨i1, i2⟩ := keys_putF f v r
    rw [show putF f v ((k, x) :: r) = (if k = f then (k, v) :: r else (k, x) :: putF f v r) from rfl]
    by_cases hk : k = f
    · rw [if_pos hk]
      subst hk
      exact ⟨by simp, fun g h => by simpa using h⟩
    · rw [if_neg hk]
      refine ⟨?_, fun g h => ?_⟩
      · rw [List.map_cons]
        exact List.mem_cons_of_mem _ i1
      · rw [List.map_cons] at h ⊢
        rcases List.mem_cons.mp h with e | e
        · exact List.mem_cons.mpr (.inl e)
        · exact List.mem_cons_of_mem _ (i2 g e)
theorem length_putF (f : Str) (v : V) : ∀ fs : List (Str × V), (putF f v fs).length ≤ fs.length + 1
  | [] => by simp [putF]
  | (k, x) :: r => by
    have ih := length_putF f v r
    rw [show putF f v ((k, x) :: r) = (if k = f then (k, v) :: r else (k, x) :: putF f v r) from rfl]
    by_cases hk : k = f
    · rw [if_pos hk, List.length_cons, List.length_cons]; omega
    · rw [if_neg hk, List.length_cons, List.length_cons]; omega

theorem RelO.some_of {v : V} {o : Option Value} (r : RelO (some v) o) : ∃ u, o = some u ∧ RelV v u := by
  cases o with
  | none => exact (show False from r).elim
  | some u => exact ⟨u, rfl, r⟩
theorem RelO.none_of {o : Option Value} (r : RelO none o) : o = none := by
  cases o with
  | none => rfl
  | some u => exact (show False from r).elim
theorem handed_of {v : V} {u : Value} (r : RelV v u) : PySem.W.handedIn u = true := by
  cases v with
  | non => cases (show u = Value.none from r); rfl
  | bl b => cases (show u = Value.bool b from r); rfl
  | int i => obtain ⟨t, e⟩ := (show ∃ t, u = Value.int i t from r); cases e; rfl
  | str x => obtain ⟨t, e⟩ := (show ∃ t, u = Value.str x t from r); cases e; rfl
  | byt b => obtain ⟨t, e⟩ := (show ∃ t, u = Value.bytes b t from r); cases e; rfl
  | flt b => obtain ⟨t, e⟩ := (show ∃ t, u = Value.float b t from r); cases e; rfl
  | ref a => cases (show u = Value.ref a from r); rfl
  | ty n => cases (show u = Value.type n from r); rfl

section
variable {P : Program} {w : World} {H H' : Hp} {h h' : Heap} {a C dx : Addr} {fs fs' : List (Str × V)}
theorem ins_get (hok : HOk P w H h) (e : H a = some (.ins C dx fs)) : ∃ mA, ObjM h a dx C mA ∧ (∀ f, RelO (fs.lookup f) (mA f)) ∧ PySem.Within mA (fs.map (·.1)) ∧ fs.length ≤ 1000 ∧ H dx = some (.own a) := by
  obtain ⟨d, z, ne, ob, mA, n, r, q⟩ := (show ObjOk P w H h a (.ins C dx fs) from hok a _ e)
  exact ⟨mA, ⟨ob, n, ne⟩, r, q, z, d⟩
end

structure Cls (K : PySem.W.Frag) (C : Addr) : Prop where
  pg : PySem.W.plainGet K C Str.empty = true
  hd : PySem.W.hasDictIn K C = true
  po : PySem.W.plainOver K C = true
  sa : PySem.W.findIn K (.ref C) "__setattr__" = some (some (.builtin "object.__setattr__"))
theorem Cls.get {K : PySem.W.Frag} {C : Addr} (c : Cls K C) (f : Str) : PySem.W.plainGet K C f = true := c.pg
/-- no class of it has the name -/
def NoAttr (K : PySem.W.Frag) (C : Addr) (f : Str) : Prop := PySem.W.findIn K (.ref C) f = some none
theorem NoAttr.taker {K : PySem.W.Frag} {C : Addr} {f : Str} (n : NoAttr K C f) : PySem.W.takerIn K C f = some none := by
  unfold PySem.W.takerIn
  rw [show PySem.W.findIn K (.ref C) f = some none from n]
  rfl
/-- a constant of the class -/
structure Con (K : PySem.W.Frag) (C : Addr) (f : Str) (v : V) (u : Value) : Prop where
  at_ : PySem.W.findIn K (.ref C) f = some (some u)
  rel : RelV v u
  get : PySem.W.specialIn K u "__get__" = some none
  cp : PySem.W.copiedNames.contains f = false
/-- a method: a plain def of the class or of one above it -/
structure Meth (K : PySem.W.Frag) (C : Addr) (m : Str) (f : Addr) : Prop where
  at_ : PySem.W.findIn K (.ref C) m = some (some (.ref f))
  fn : PySem.W.isFn K (.ref f) = true
  kp : PySem.W.keepIn K (.ref f) = true

section
variable {X : Cx} {pins : List (Addr × Obj)} {σ : St} {H : Hp} {s : Shared} {a C dx : Addr} {fs : List (Str × V)} {f : Str} {v : V} {A : Around} {E : Value → Shared → Prop}

theorem getattr_ok {b : Bool} {Q : Value → Shared → Prop} (I : Inv X pins σ H s) (e : H a = some (.ins C dx fs)) (c : Cls X.K C) (n : NoAttr X.K C f) (l : fs.lookup f = some v)
    (h : ∀ u s', Inv X pins σ H s' → RelV v u → Q u s') : wpAny (model X.prog X.w) A (getAttr (.ref a) f b) Q E s := by
  obtain ⟨mA, O, r, _, _, _⟩ := ins_get I.hok e
  obtain ⟨u, hu, ru⟩ := RelO.some_of (v := v) (o := mA f) (by rw [← l]; exact r f)
  exact get_map I.kIn O (c.get f) c.hd n hu (handed_of ru) (h u _ (I.tok _) ru)

theorem getmeth_ok {m : Str} {g : Addr} {pl : Sem Bool} {Q : Value × List Value → Shared → Prop} (I : Inv X pins σ H s) (e : H a = some (.ins C dx fs)) (c : Cls X.K C) (k : Meth X.K C m g) (l : fs.lookup m = none)
    (h : Q (.ref g, [.ref a]) s) : wpAny (model X.prog X.w) A (getMethod (.ref a) m pl) Q E s := by
  obtain ⟨mA, O, r, _, _, _⟩ := ins_get I.hok e
  have hn : mA m = none := RelO.none_of (by rw [← l]; exact r m)
  exact get_meth I.kIn O (c.get m) k.at_ k.fn hn h

theorem setattr_ok {y : V} {u : Value} {Q : Unit → Shared → Prop} (I : Inv X pins σ H s) (e : H a = some (.ins C dx fs)) (c : Cls X.K C) (n : NoAttr X.K C f) (hl : fs.length < 1000) (ry : RelV y u)
    (h : ∀ s', Inv X pins σ (upd H a (.ins C dx (putF f y fs))) s' → Q () s') : wpAny (model X.prog X.w) A (setAttr (.ref a) f u) Q E s := by
  obtain ⟨mA, O, r, wi, _, ho⟩ := ins_get I.hok e
  have hz : (fs.map (·.1)).length ≤ sizeLine := by rw [List.length_map, sizeLine_eq]; omega
  refine set_map I.kIn O c.sa c.po n.taker c.hd wi hz fun h' O' sb => h _ ?_
  have hd : ∃ o, h'.get? dx = some o := let ⟨o, _, _, e', _⟩ := O'.ns; ⟨o, e'⟩
  refine I.write (x := a) (e := dx) (by rw [e]; exact True.intro) (.inr ho) (fun b q hb z => (sb.2 b hb).trans z) hd ?_
  refine ⟨by rw [upd_ne O.ne]; exact ho, ?_, O.ne, O'.obj, _, O'.ns, fun g => ?_, fun g hg => ?_⟩
  · have := length_putF f y fs; omega
  · show RelO ((putF f y fs).lookup g) (if g = f then some u else mA g)
    rw [lookup_putF]
    by_cases q : g = f
    · rw [if_pos q, if_pos q]; exact ry
    · rw [if_neg q, if_neg q]; exact r g
  · by_cases q : g = f
    · rw [q]; exact (keys_putF f y fs).1
    · refine (keys_putF f y fs).2 g (wi g fun z => hg ?_)
      show (if g = f then some u else mA g) = none
      rw [if_neg q]; exact z

/-- a new instance, tracked, without attributes -/
theorem Inv.made (I : Inv X pins σ H s) : Inv X pins σ (upd (upd H s.heap.objs.size (.own (s.heap.objs.size + 1))) (s.heap.objs.size + 1) (.ins C s.heap.objs.size []))
    { s with heap := (s.heap.push PySem.W.emptyDict).push (PySem.W.instObj C s.heap.objs.size) } := by
  have e1 : (s.heap.push PySem.W.emptyDict).get? s.heap.objs.size = some PySem.W.emptyDict := Heap.get?_push_size s.heap rfl
  have e2 : ((s.heap.push PySem.W.emptyDict).push (PySem.W.instObj C s.heap.objs.size)).get? (s.heap.objs.size + 1) = some (PySem.W.instObj C s.heap.objs.size) := by
    have := Heap.get?_push_size (s.heap.push PySem.W.emptyDict) (o := PySem.W.instObj C s.heap.objs.size) rfl
    rwa [Heap.size_push] at this
  have e3 : (s.heap.push PySem.W.emptyDict).Ns s.heap.objs.size (fun _ => none) := ⟨PySem.W.emptyDict, #[], _, e1, rfl, (fun e he => absurd he (by simp)), fun _ => rfl⟩
  have I1 := I.laid (a := s.heap.objs.size) (o := .own (s.heap.objs.size + 1)) (h' := s.heap.push PySem.W.emptyDict) (t' := s.toks) (fun b u q => Heap.get?_push_of_some _ q) (Nat.le_refl _) ⟨_, e1⟩
  refine I1.laid (a := s.heap.objs.size + 1) (o := .ins C s.heap.objs.size []) (t' := s.toks) (fun b u q => Heap.get?_push_of_some _ q) (Nat.le_of_eq (Heap.size_push _ _)) ?_
  have ne : s.heap.objs.size ≠ s.heap.objs.size + 1 := Nat.ne_of_lt (Nat.lt_succ_self _)
  refine ⟨by rw [upd_ne ne, upd_same], Nat.zero_le _, ne, e2, fun _ => none, (Heap.Ns1.of_empty e3).at fun o q => Heap.get?_push_of_some _ q, fun _ => True.intro, fun y hy => absurd rfl hy⟩

/-- e.f where nothing but the object is asked: through attributeBase (super) and the last hold -/
theorem attr_of {prog : Program} {w : World} {env : Env} {e : Expr} {f : Str} {pos : Pos} {s : Shared} {Q : Value → Shared → Prop} (hb : attributeBase e f env (eval e env) = eval e env)
    (h : wpAny (model prog w) A (eval e env) (fun o s₁ => wpAny (model prog w) A (getAttr o f true) Q E s₁) E s) : wpAny (model prog w) A (eval (.Attribute e f pos) env) Q E s :=
  Attribute_any_ h (by rw [arm_eval_Attribute, hb])
end

/-- e.f, an attribute of the instance -/
def tFld (K : PySem.W.Frag) (ta : TE) (f : Str) : TE := fun σ H Q => ta σ H fun x H1 => ∃ a C dx fs v, x = .ref a ∧ H1 a = some (.ins C dx fs) ∧ Cls K C ∧ NoAttr K C f ∧ fs.lookup f = some v ∧ Q v H1
/-- e.f = value -/
def sFld (K : PySem.W.Frag) (ta tv : TE) (f : Str) : TS := fun D σ H => tv σ H fun y H1 => ta σ H1 fun x H2 => ∃ a C dx fs, x = .ref a ∧ H2 a = some (.ins C dx fs) ∧ Cls K C ∧ NoAttr K C f ∧ fs.length < 1000 ∧
  D.nx σ (upd H2 a (.ins C dx (putF f y fs)))
section
variable {X : Cx} {o e value : Expr} {f : Str} {pos pos' tpos : Pos} {ta tv : TE}
theorem pe_fld (he : PE X e ta) (hb : attributeBase e f X.env (eval e X.env) = eval e X.env) : PE X (.Attribute e f pos) (tFld X.K ta f) := by
  intro pins s σ H Q I h
  refine attr_of hb (thn (he pins s σ H _ I h) fun u s1 ⟨x, H1, I1, rx, a, C, dx, fs, v, ex, ea, c, n, l, q⟩ => ?_)
  subst ex
  obtain rfl : u = Value.ref a := rx
  exact getattr_ok I1 ea c n l fun u' s2 I2 ru => ⟨v, H1, I2, ru, q⟩
theorem ps_fld (ha : PE X o ta) (hv : PE X value tv) (hs : swapsWith value (some (.Attribute o f pos')) pos.line X.env = pure false) : PS X (.Assign [.Attribute o f pos'] value pos) (sFld X.K ta tv f) := by
  intro pins s σ H D I h
  refine plainObj_wpAny_Assign_Attribute (thn (hv pins s σ H _ I h) fun u s1 ⟨y, H1, I1, ry, q⟩ => thn (ha pins s1 σ H1 _ I1 q) fun ov s2 ⟨x, H2, I2, rx, a, C, dx, fs, ex, ea, c, n, l, q2⟩ => ?_) hs
  subst ex
  obtain rfl : ov = Value.ref a := rx
  exact setattr_ok I2 ea c n l ry fun s3 I3 => ⟨σ, _, I3, q2⟩
end

section
variable {X : Cx} {pins : List (Addr × Obj)} {σ : St} {H : Hp} {s : Shared} {A : Around} {E : Value → Shared → Prop} {Q : Value → Shared → Prop} {c : Value} {b : Bool}
/-- the type of a value, as the fragment's deciders take it; for an instance its class -/
inductive TyOf (K : PySem.W.Frag) (H : Hp) : V → Value → Prop where
  | non : TyOf K H .non (.type "NoneType")
  | bl (x : Bool) : TyOf K H (.bl x) (.type "bool")
  | int (i : Int) : TyOf K H (.int i) (.type "int")
  | str (x : Str) : TyOf K H (.str x) (.type "str")
  | flt (x : UInt64) : TyOf K H (.flt x) (.type "float")
  | lst {a : Addr} {xs : List V} (e : H a = some (.lst xs)) : TyOf K H (.ref a) (.type "list")
  | frz {a : Addr} {o : Obj} {xs : List V} (e : H a = some (.frz o (.lst xs))) : TyOf K H (.ref a) (.type "list")
  | tup {a : Addr} {xs : List V} (e : H a = some (.tup xs)) : TyOf K H (.ref a) (.type "tuple")
  | dK {a : Addr} {kvs : List (Key × V)} (e : H a = some (.dK kvs)) : TyOf K H (.ref a) (.type "dict")
  | dT {a : Addr} {kvs : List (List Key × V)} (e : H a = some (.dT kvs)) : TyOf K H (.ref a) (.type "dict")
  | ins {a C dx : Addr} {fs : List (Str × V)} (e : H a = some (.ins C dx fs)) (cl : Cls K C) (ha : PySem.W.findIn K (.ref C) "__class__" = some (some (.builtin "object.__class__")))
      (hn : PySem.W.specialIn K (.builtin "object.__class__") "__get__" = some (some (.builtin "getset_descriptor.__get__"))) (htk : PySem.W.takesIn K (.builtin "object.__class__") = some true)
      (hm : PySem.W.mroIn K C (.type "object") = some true) : TyOf K H (.ref a) (.ref C)
end
end L2

namespace L2
open PySem PySem.Spec PyProof.Rows

structure Room (k : Nat) (A : Around) : Prop where
  hd : A.handled = none
  dp : A.depth + 3 * k + 5 < recursionLimit
  un : A.units + 16 * k + 200 < cLine
theorem Room.mono {j k : Nat} {A : Around} (r : Room k A) (h : j ≤ k) : Room j A := ⟨r.hd, by have := r.dp; omega, by have := r.un; omega⟩
theorem Room.deeper {k : Nat} {A : Around} (r : Room (k + 1) A) (env : Env) : Room k (A.deeper env) :=
  ⟨r.hd, by have := r.dp; show A.depth + 1 + 3 * k + 5 < _; omega, by have := r.un; show A.units + 3 + 16 * k + 200 < _; omega⟩
theorem Room.in1 {k : Nat} {A : Around} (r : Room (k + 1) A) : Room k A.in1 :=
  ⟨r.hd, by have := r.dp; show A.depth + 3 * k + 5 < _; omega, by have := r.un; show A.units + 1 + 16 * k + 200 < _; omega⟩
theorem make_depth {A : Around} {C : Addr} {us : List Value} {kw : List (Str × Value)} : (A.under (.builtin "type.__call__" ⟨.ref C :: us, kw⟩)).depth = A.depth + 1 := by
  first | rfl | simp [Around.under, Code.weight, Code.isCreation, Code.isGuard, Code.isCaller, Code.frames, Code.isFrame, guardIds]
theorem make_units {A : Around} {C : Addr} {us : List Value} {kw : List (Str × Value)} : (A.under (.builtin "type.__call__" ⟨.ref C :: us, kw⟩)).units = A.units + 1 := by
  first | rfl | simp [Around.under, Code.cUnits, Code.frames, Code.isFrame]
theorem Room.make {k : Nat} {A : Around} (r : Room (k + 1) A) (C : Addr) (us : List Value) (kw : List (Str × Value)) : Room k (A.under (.builtin "type.__call__" ⟨.ref C :: us, kw⟩)) :=
  ⟨r.hd, by have := r.dp; rw [make_depth]; omega, by have := r.un; rw [make_units]; omega⟩
theorem Room.depth {k : Nat} {A : Around} (r : Room k A) : A.depth < recursionLimit := by have := r.dp; omega
theorem Room.units {k : Nat} {A : Around} (r : Room k A) : A.units + 64 < cLine := by have := r.un; omega
def tNil : TA := fun _ H Q => Q [] H
def tCons (ta : TE) (tr : TA) : TA := fun σ H Q => ta σ H fun x H1 => tr σ H1 fun xs H2 => Q (x :: xs) H2
section
variable {X : Cx} {e : Expr} {es : List Expr} {te : TE} {t : TA} {pos : Pos}
theorem pa_nil : PA X [] tNil := fun _ _ _ _ H Q I h => Calls.spliced_nil ⟨[], H, I, .nil, h⟩
theorem pa_cons (ha : PE X e te) (hr : PA X es t) (hs : starEach (e :: es) X.env = (false, eval e X.env) :: starEach es X.env := by rfl) : PA X (e :: es) (tCons te t) := by
  intro pos pins s σ H Q I h
  rw [hs]
  show wpAny _ _ (spliced ((false, eval e X.env) :: backTo pos (starEach es X.env))) _ _ s
  refine Calls.spliced_cons (thn (ha pins s σ H _ I h) fun u s1 ⟨x, H1, I1, r1, q1⟩ => ?_)
  exact thn (hr pos pins s1 σ H1 _ I1 q1) fun us s2 ⟨xs, H2, I2, r2, q2⟩ => ⟨x :: xs, H2, I2, .cons r1 r2, q2⟩

/-- a tuple, a list of written items -/
def tTup (t : TA) : TE := fun σ H Q => t σ H fun xs H1 => xs.length ≤ sizeLine ∧ ∀ p, H1 p = none → Q (.ref p) (upd H1 p (.tup xs))
def tLst (t : TA) : TE := fun σ H Q => t σ H fun xs H1 => xs.length ≤ sizeLine ∧ ∀ p, H1 p = none → Q (.ref p) (upd H1 p (.lst xs))
theorem pe_tup {x1} (h : PA X es t) : PE X (.Tuple es x1 pos) (tTup t) := by
  intro pins s σ H Q I hq
  refine wpAny_Tuple_spliced (thn (h pos pins s σ H _ I hq) fun us s1 ⟨xs, H1, I1, r, z, q⟩ => ⟨by rw [← r.length]; exact z, ?_⟩)
  have hf : H1 s1.heap.objs.size = none := I1.hok.fresh (Nat.le_refl _)
  refine ⟨.ref s1.heap.objs.size, upd H1 s1.heap.objs.size (.tup xs), I1.laid (t' := s1.toks) (fun b u e => Heap.get?_push_of_some _ e) (Nat.le_refl _) ?_, rfl, q _ hf⟩
  exact ⟨z, us, r, ⟨_, Heap.get?_push_size _ rfl, rfl, _, rfl⟩⟩
theorem pe_lst (h : PA X es t) : PE X (.List es pos) (tLst t) := by
  intro pins s σ H Q I hq
  refine wpAny_List_spliced (thn (h pos pins s σ H _ I hq) fun us s1 ⟨xs, H1, I1, r, z, q⟩ => ⟨by rw [← r.length]; exact z, ?_⟩)
  have hf : H1 s1.heap.objs.size = none := I1.hok.fresh (Nat.le_refl _)
  refine ⟨.ref s1.heap.objs.size, upd H1 s1.heap.objs.size (.lst xs), I1.laid (t' := s1.toks) (fun b u e => Heap.get?_push_of_some _ e) (Nat.le_refl _) ?_, rfl, q _ hf⟩
  exact ⟨z, us, 0, r, Heap.get?_push_size _ rfl⟩
end

/-- a def's promise: the bound arguments in the parameters' order, the heap, the wanted end, the wanted exception -/
abbrev Sp := List V → Hp → VK → XK → Prop
/-- how an exception lies behind a call (file 08 gives it): the callers' frames, abstract heap and state ahead of the call, the wish, the exception, the state -/
abbrev CXT := List Env → Hp → Shared → XK → Value → Shared → Prop

/-- the state at a call -/
structure Env0 (P : Program) (w : World) (K : PySem.W.Frag) (mg : Str → Option Value) (base : Heap) (A : Around) (outer : List Env) (s : Shared) (H : Hp) : Prop where
  frames : A.frames = some outer
  mod : Mod K mg base
  bs : ∀ b o, base.get? b = some o → s.heap.get? b = some o ∧ H b = none
  bsz : base.objs.size ≤ s.heap.objs.size
  funs : s.heap.FunFrames base outer
  frf : ∀ b ∈ frs outer, H b = none
  hok : HOk P w H s.heap
  bare : AllBare s.gens
/-- a call's end -/
def CE (outer : List Env) (P : Program) (w : World) (H : Hp) (s : Shared) (Q : VK) (u : Value) (s' : Shared) : Prop :=
  ∃ v H', s'.os = s.os ∧ AllBare s'.gens ∧ Un (frs outer) [] H H' s.heap s'.heap ∧ HOk P w H' s'.heap ∧ RelV v u ∧ Q v H'
def CR (CX : CXT) (outer : List Env) (P : Program) (w : World) (H : Hp) (s : Shared) (Q : VK) (E : XK) (r : Result) (s' : Shared) : Prop :=
  match r with
  | .ok (.ret u) => CE outer P w H s Q u s'
  | .ok _ => False
  | .error e => CX outer H s E e s'
structure FnOk (P : Program) (w : World) (K : PySem.W.Frag) (mg : Str → Option Value) (base : Heap) (CX : CXT) (k : Nat) (f : Addr) (fd : FuncData) (ps : List Str) (sp : Sp) : Prop where
  len : ∀ vs H Q E, sp vs H Q E → vs.length = ps.length
  run : ∀ (A : Around) (outer : List Env) (s : Shared) (H : Hp) (args : Args) (us : List Value) (vs : List V) (Q : VK) (E : XK), Room k A → Env0 P w K mg base A outer s H → BindsTo s fd args (ps.zip us) → Vals vs us → sp vs H Q E →
    codeAny (model P w) A (.call (.ref f) args) (CR CX outer P w H s Q E) s
theorem FnOk.mono {P : Program} {w : World} {K : PySem.W.Frag} {mg : Str → Option Value} {base : Heap} {CX : CXT} {j k : Nat} {f : Addr} {fd : FuncData} {ps : List Str} {sp : Sp} (F : FnOk P w K mg base CX j f fd ps sp) (h : j ≤ k) :
    FnOk P w K mg base CX k f fd ps sp := ⟨F.len, fun A outer s H args us vs Q E hr => F.run A outer s H args us vs Q E (hr.mono h)⟩
/-- a weaker promise -/
theorem FnOk.imp {P : Program} {w : World} {K : PySem.W.Frag} {mg : Str → Option Value} {base : Heap} {CX : CXT} {k : Nat} {f : Addr} {fd : FuncData} {ps : List Str} {sp sp' : Sp} (F : FnOk P w K mg base CX k f fd ps sp)
    (h : ∀ vs H Q E, sp' vs H Q E → sp vs H Q E) : FnOk P w K mg base CX k f fd ps sp' :=
  ⟨fun vs H Q E q => F.len vs H Q E (h _ _ _ _ q), fun A outer s H args us vs Q E hr he hb hv hs => F.run A outer s H args us vs Q E hr he hb hv (h _ _ _ _ hs)⟩

theorem Env0.make {P : Program} {w : World} {K : PySem.W.Frag} {mg : Str → Option Value} {base : Heap} {A : Around} {outer : List Env} {s : Shared} {H : Hp} (e : Env0 P w K mg base A outer s H) (C : Addr) (us : List Value) (kw : List (Str × Value)) :
    Env0 P w K mg base (A.under (.builtin "type.__call__" ⟨.ref C :: us, kw⟩)) outer s H := ⟨by first | exact e.frames | (simpa [Around.under, Code.envs, Code.isFrame, pushEnvs] using e.frames), e.mod, e.bs, e.bsz, e.funs, e.frf, e.hok, e.bare⟩
theorem Env0.in1 {P : Program} {w : World} {K : PySem.W.Frag} {mg : Str → Option Value} {base : Heap} {A : Around} {outer : List Env} {s : Shared} {H : Hp} (e : Env0 P w K mg base A outer s H) :
    Env0 P w K mg base A.in1 outer s H := ⟨e.frames, e.mod, e.bs, e.bsz, e.funs, e.frf, e.hok, e.bare⟩

section
variable {X : Cx} {pins : List (Addr × Obj)} {σ : St} {H : Hp} {s s' : Shared}
/-- from a body: what a callee wants -/
theorem Inv.env0 (I : Inv X pins σ H s) : Env0 X.prog X.w X.K X.mg X.base X.A X.stack s H :=
  ⟨I.ok.frames, I.ok.mod, I.bs, Nat.le_trans I.ok.bsz I.sz, I.stack, I.stkFree, I.hok, I.bare⟩
/-- behind a call -/
theorem Inv.after {Q : VK} {u : Value} (I : Inv X pins σ H s) (h : CE X.stack X.prog X.w H s Q u s') : EP X pins σ Q u s' := by
  obtain ⟨v, H', os, bare, un, hok, r, q⟩ := h
  obtain ⟨hh, g, d, t, os'⟩ := s'
  obtain rfl : os' = s.os := os
  exact ⟨v, H', I.call (h' := hh) (g' := g) (d' := d) (t' := t) (ch := []) un hok bare (fun b z => absurd z (by simp)), r, q⟩
end

/-- f(..): the written arguments, then the defaults dvs; E: what is wanted of an exception -/
def tCall (sp : Sp) (dvs : List V) (E : XK) (t : TA) : TE := fun σ H Q => t σ H fun vs H1 => sp (vs ++ dvs) H1 Q E
/-- o.m(..) of an instance of the class at C -/
def tMeth (C : Addr) (m : Str) (sp : Sp) (dvs : List V) (E : XK) (ta : TE) (t : TA) : TE := fun σ H Q => ta σ H fun x H1 => ∃ a dx fs, x = .ref a ∧ H1 a = some (.ins C dx fs) ∧ fs.lookup m = none ∧
  t σ H1 fun vs H2 => sp (x :: (vs ++ dvs)) H2 Q E
/-- C(..): a new instance and its dict, then __init__ -/
def tMake (C : Addr) (sp : Sp) (dvs : List V) (E : XK) (t : TA) : TE := fun σ H Q => t σ H fun vs H1 => ∀ x dx, H1 x = none → H1 dx = none → dx ≠ x →
  sp (.ref x :: (vs ++ dvs)) (upd (upd H1 dx (.own x)) x (.ins C dx [])) (fun v H2 => v = .non ∧ Q (.ref x) H2) E

/-- how the parameters are bound: us the positional arguments, kw the keywords' values by name, ds the defaults that fill up -/
def Binds (K : PySem.W.Frag) (fd : FuncData) (ps : List Str) (ds : List Value) : Prop :=
  ∀ (s : Shared) (us : List Value), K.In s.heap → (us ++ ds).length = ps.length → BindsTo s fd ⟨us, []⟩ (ps.zip (us ++ ds))
/-- every parameter is given -/
theorem Binds.all {K : PySem.W.Frag} {fd : FuncData} {ps : List Str} (h : ∀ us : List Value, us.length = ps.length → bindArgs fd ⟨us, []⟩ = pure (ps.zip us)) : Binds K fd ps [] := fun s us _ hl => by
  rw [List.append_nil] at hl ⊢
  exact .of_eq (h us hl)

/-- an exception of a callee reaches what this body wants of exceptions -/
def Passes (CX : CXT) (X : Cx) (E : XK) : Prop := ∀ (pins : List (Addr × Obj)) (σ : St) (H : Hp) (s : Shared) (e : Value) (s' : Shared), Inv X pins σ H s → CX X.stack H s E e s' → X.xe e s'

section
variable {X : Cx} {CX : CXT} {k : Nat} {f C : Addr} {fd : FuncData} {ps : List Str} {sp : Sp} {dvs : List V} {ds : List Value} {E : XK} {x m : Str} {p pos apos : Pos} {e o : Expr} {es : List Expr} {ta : TE} {t : TA}

/-- the callee runs -/
theorem run_fn {pins : List (Addr × Obj)} {σ : St} {H : Hp} {s : Shared} {Q : VK} {us : List Value} {vs : List V} (F : FnOk X.prog X.w X.K X.mg X.base CX k f fd ps sp) (hr : Room k X.A) (hb : Binds X.K fd ps ds) (hd : Vals dvs ds) (hx : Passes CX X E)
    (I : Inv X pins σ H s) (r : Vals vs us) (h : sp (vs ++ dvs) H Q E) : wpAny (model X.prog X.w) X.A (call (.ref f) us) (EP X pins σ Q) X.xe s := by
  have r2 : Vals (vs ++ dvs) (us ++ ds) := r.append hd
  have hl : (us ++ ds).length = ps.length := by rw [← r2.length]; exact F.len _ _ _ _ h
  refine wpAny_call (codeAny_mono (F.run X.A X.stack s H ⟨us, []⟩ (us ++ ds) (vs ++ dvs) Q E hr I.env0 (hb s us I.kIn hl) r2 h) fun r s' hq => ?_)
  cases r with
  | error e => exact hx pins σ H s e s' I hq
  | ok fl =>
    cases fl with
    | ret u => exact I.after hq
    | next => exact False.elim hq
    | brk => exact False.elim hq
    | cont => exact False.elim hq

theorem pe_call (F : FnOk X.prog X.w X.K X.mg X.base CX k f fd ps sp) (hr : Room k X.A) (hg : Gl X x) (hm : X.mg x = some (.ref f)) (hk : PySem.W.keepIn X.K (.ref f) = true) (hb : Binds X.K fd ps ds) (hd : Vals dvs ds) (hx : Passes CX X E)
    (ha : PA X (e :: es) t) (hdb : (x == ("__debug__" : Str)) = false := by decide) (he : starEach (e :: es) X.env = (false, eval e X.env) :: starEach es X.env := by rfl) (hpl : (backTo pos (starEach es X.env)).any (·.1) = false := by rfl) :
    PE X (.Call (.Name x p) (e :: es) [] pos) (tCall sp dvs E t) := by
  intro pins s σ H Q I h
  refine wpAny_Call_Name_kw (ld_glob I hg hm ?_ hdb)
  refine PySem.W.callWith_K (h₀ := X.base) I.ok.mod.kin hk (thn (ha pos pins s σ H _ I h) fun us s1 ⟨vs, H1, I1, r, q⟩ => ⟨I1.kIn, ?_⟩) he hpl
  exact run_fn F hr hb hd hx I1 r q
/-- o.m(e, ..) -/
theorem pe_meth {pl : Sem Bool} (he : PE X o ta) (c : Cls X.K C) (hm : Meth X.K C m f) (F : FnOk X.prog X.w X.K X.mg X.base CX k f fd ps sp) (hr : Room k X.A) (hb : Binds X.K fd ps ds) (hd : Vals dvs ds) (hx : Passes CX X E) (ha : PA X (e :: es) t)
    (hst : starEach (e :: es) X.env = (false, eval e X.env) :: starEach es X.env := by rfl) (hpl : (backTo pos (starEach es X.env)).any (·.1) = false := by rfl)
    (ht : eval (.Call (.Attribute o m apos) (e :: es) [] pos) X.env = (do
      let ov ← eval o X.env
      standAt apos.atName
      let (f, first) ← holding [ov] (getMethod ov m pl)
      callWith pos f first (backTo pos (starEach (e :: es) X.env)) (backToKw pos (keywordEach [] X.env))) := by rfl) :
    PE X (.Call (.Attribute o m apos) (e :: es) [] pos) (tMeth C m sp dvs E ta t) := by
  intro pins s σ H Q I h
  refine PySem.W.methodCall_KW (pl := pl) (thn (he pins s σ H _ I h) fun u s1 ⟨x, H1, I1, rx, a, dx, fs, ex, ea, l, q⟩ => ?_) ht
  subst ex
  obtain rfl : u = Value.ref a := rx
  refine getmeth_ok I1 ea c hm l ?_
  refine PySem.W.callWith_K (first := [.ref a]) (h₀ := X.base) I.ok.mod.kin hm.kp (thn (ha pos pins s1 σ H1 _ I1 q) fun us s2 ⟨vs, H2, I2, r, q2⟩ => ⟨I2.kIn, ?_⟩) hst hpl
  exact run_fn (us := .ref a :: us) (vs := .ref a :: vs) F hr hb hd hx I2 (.cons rfl r) q2
/-- o.m() -/
theorem pe_meth0 {pl : Sem Bool} (he : PE X o ta) (c : Cls X.K C) (hm : Meth X.K C m f) (F : FnOk X.prog X.w X.K X.mg X.base CX k f fd ps sp) (hr : Room k X.A) (hb : Binds X.K fd ps ds) (hd : Vals dvs ds) (hx : Passes CX X E)
    (ht : eval (.Call (.Attribute o m apos) [] [] pos) X.env = (do
      let ov ← eval o X.env
      standAt apos.atName
      let (f, first) ← holding [ov] (getMethod ov m pl)
      callWith pos f first (backTo pos (starEach [] X.env)) (backToKw pos (keywordEach [] X.env))) := by rfl) :
    PE X (.Call (.Attribute o m apos) [] [] pos) (tMeth C m sp dvs E ta tNil) := by
  intro pins s σ H Q I h
  refine PySem.W.methodCall_KW (pl := pl) (thn (he pins s σ H _ I h) fun u s1 ⟨x, H1, I1, rx, a, dx, fs, ex, ea, l, q⟩ => ?_) ht
  subst ex
  obtain rfl : u = Value.ref a := rx
  refine getmeth_ok I1 ea c hm l ?_
  exact PySem.W.callWith_K0 (first := [.ref a]) I1.kIn hm.kp (run_fn (us := [.ref a]) (vs := [.ref a]) F hr hb hd hx I1 (.cons rfl .nil) q)

/-- what a class must have to be made -/
structure Mk (K : PySem.W.Frag) (C f : Addr) : Prop where
  makes : PySem.W.makesIn K C = true
  init : PySem.W.findIn K (.ref C) "__init__" = some (some (.ref f))
  fn : PySem.W.isFn K (.ref f) = true
  kp : PySem.W.keepIn K (.ref C) = true

theorem run_make {pins : List (Addr × Obj)} {σ : St} {H : Hp} {s : Shared} {Q : VK} {us : List Value} {vs : List V} (M : Mk X.K C f) (F : FnOk X.prog X.w X.K X.mg X.base CX k f fd ps sp) (hr : Room (k + 1) X.A) (hb : Binds X.K fd ps ds) (hd : Vals dvs ds)
    (hx : Passes CX X E) (I : Inv X pins σ H s) (r : Vals vs us)
    (h : ∀ x dx, H x = none → H dx = none → dx ≠ x → sp (.ref x :: (vs ++ dvs)) (upd (upd H dx (.own x)) x (.ins C dx [])) (fun v H2 => v = .non ∧ Q (.ref x) H2) E) :
    wpAny (model X.prog X.w) X.A (call (.ref C) us) (EP X pins σ Q) X.xe s := by
  have hq := h (s.heap.objs.size + 1) s.heap.objs.size (I.hok.fresh (Nat.le_succ _)) (I.hok.fresh (Nat.le_refl _)) (Nat.ne_of_lt (Nat.lt_succ_self _))
  have I2 := Inv.made (C := C) I
  have r2 : Vals (V.ref (s.heap.objs.size + 1) :: (vs ++ dvs)) (Value.ref (s.heap.objs.size + 1) :: (us ++ ds)) := .cons rfl (r.append hd)
  have hl : (Value.ref (s.heap.objs.size + 1) :: us ++ ds).length = ps.length := by
    have e := r2.length
    rw [F.len _ _ _ _ hq] at e
    exact e.symm
  refine wpAny_call (make_map (f := f) I.kIn M.makes M.init (beq_iff_eq.mp M.fn) (codeAny_mono (F.run _ X.stack _ _ ⟨Value.ref (s.heap.objs.size + 1) :: us, []⟩ (Value.ref (s.heap.objs.size + 1) :: (us ++ ds)) _ _ E (hr.make C us [])
    (I2.env0.make C us []) (hb _ (Value.ref (s.heap.objs.size + 1) :: us) I2.kIn hl) r2 hq) fun r s' hq' => ?_))
  cases r with
  | error e => exact hx pins σ _ _ e s' I2 hq'
  | ok fl =>
    cases fl with
    | ret u =>
      obtain ⟨v, H', I3, rv, ev, q3⟩ := I2.after hq'
      subst ev
      exact ⟨rv, ⟨V.ref (s.heap.objs.size + 1), H', I3, rfl, q3⟩⟩
    | next => exact False.elim hq'
    | brk => exact False.elim hq'
    | cont => exact False.elim hq'
theorem pe_make0 (M : Mk X.K C f) (F : FnOk X.prog X.w X.K X.mg X.base CX k f fd ps sp) (hr : Room (k + 1) X.A) (hg : Gl X x) (hm : X.mg x = some (.ref C)) (hb : Binds X.K fd ps ds) (hd : Vals dvs ds) (hx : Passes CX X E)
    (hdb : (x == ("__debug__" : Str)) = false := by decide) : PE X (.Call (.Name x p) [] [] pos) (tMake C sp dvs E tNil) := by
  intro pins s σ H Q I h
  refine wpAny_Call_Name_kw (ld_glob I hg hm ?_ hdb)
  exact PySem.W.callWith_K0 I.kIn M.kp (run_make (us := []) M F hr hb hd hx I .nil h)
end

section
variable {X : Cx} {CX : CXT} {k : Nat} {f C : Addr} {fd : FuncData} {ps ks : List Str} {sp : Sp} {E : XK} {x m : Str} {p pos apos kpos : Pos} {e o : Expr} {es : List Expr} {kws : List Keyword} {te ta : TE} {t tk : TA} {nm : Option Str}
/-- how a call with keywords binds: g puts the positional values us and the keywords' values ws (names ks) in the parameters' order, defaults among them -/
structure KBinds (K : PySem.W.Frag) (fd : FuncData) (ps ks : List Str) (g : List Value → List Value → List Value) (gV : List V → List V → List V) : Prop where
  to : ∀ (s : Shared) (us ws : List Value), K.In s.heap → (g us ws).length = ps.length → BindsTo s fd ⟨us, ks.zip ws⟩ (ps.zip (g us ws))
  rel : ∀ {vs : List V} {us : List Value} {zs : List V} {ws : List Value}, Vals vs us → Vals zs ws → Vals (gV vs zs) (g us ws)
variable {g : List Value → List Value → List Value} {gV : List V → List V → List V}
end

/-- names: the parameters first -/
structure FnScope (N P : List Str) (sc : Scope) : Prop where
  kind : sc.kind = .function
  co : sc.isCoroutine = false
  gen : sc.isGenerator = false
  nd : N.Nodup
  pre : N.take P.length = P
  par : ∀ x ∈ P, sc.names.lookup x = some .local ∨ sc.names.lookup x = some .cell
  nofree : ∀ y ∈ sc.names, y.2 ≠ .free

theorem bindL_out {kindOf : Str → Option NameKind} {x : Str} : ∀ {binds : List (Str × Value)} {m : Str → Option Value}, (∀ v, (x, v) ∉ binds) → bindL kindOf binds m x = m x
  | [], _, _ => rfl
  | (n, v) :: r, m, h => by
    unfold bindL
    rw [bindL_out fun w hw => h w (List.mem_cons_of_mem _ hw)]
    split
    · have : x ≠ n := by rintro rfl; exact h v List.mem_cons_self
      simp [this]
    · rfl
theorem bindC_out {kindOf : Str → Option NameKind} {x : Str} : ∀ {binds : List (Str × Value)} {m : Str → Option Value}, (∀ v, (x, v) ∉ binds) → bindC kindOf binds m x = m x
  | [], _, _ => rfl
  | (n, v) :: r, m, h => by
    unfold bindC
    rw [bindC_out fun w hw => h w (List.mem_cons_of_mem _ hw)]
    split
    · rfl
    · have : x ≠ n := by rintro rfl; exact h v List.mem_cons_self
      simp [this]
theorem bindL_get {kindOf : Str → Option NameKind} {x : Str} {v : Value} : ∀ {P : List Str} {vs : List Value} {i : Nat} {m : Str → Option Value}, P.Nodup → P[i]? = some x → vs[i]? = some v → kindOf x = some .local →
    bindL kindOf (P.zip vs) m x = some v
  | [], _, _, _, _, h, _, _ => by simp at h
  | _ :: _, [], _, _, _, _, h, _ => by simp at h
  | p :: P, w :: vs, 0, m, nd, h1, h2, hk => by
    simp at h1 h2; subst h1; subst h2
    show bindL kindOf ((p, w) :: P.zip vs) m p = _
    unfold bindL
    rw [bindL_out fun v hv => (List.nodup_cons.mp nd).1 (List.of_mem_zip hv).1, if_pos hk]
    simp
  | p :: P, w :: vs, i + 1, m, nd, h1, h2, hk => by
    show bindL kindOf ((p, w) :: P.zip vs) m x = _
    unfold bindL
    exact bindL_get (i := i) (List.nodup_cons.mp nd).2 (by simpa using h1) (by simpa using h2) hk
theorem bindC_get {kindOf : Str → Option NameKind} {x : Str} {v : Value} : ∀ {P : List Str} {vs : List Value} {i : Nat} {m : Str → Option Value}, P.Nodup → P[i]? = some x → vs[i]? = some v → kindOf x ≠ some .local →
    bindC kindOf (P.zip vs) m x = some v
  | [], _, _, _, _, h, _, _ => by simp at h
  | _ :: _, [], _, _, _, _, h, _ => by simp at h
  | p :: P, w :: vs, 0, m, nd, h1, h2, hk => by
    simp at h1 h2; subst h1; subst h2
    show bindC kindOf ((p, w) :: P.zip vs) m p = _
    unfold bindC
    rw [bindC_out fun v hv => (List.nodup_cons.mp nd).1 (List.of_mem_zip hv).1, if_neg hk]
    simp
  | p :: P, w :: vs, i + 1, m, nd, h1, h2, hk => by
    show bindC kindOf ((p, w) :: P.zip vs) m x = _
    unfold bindC
    exact bindC_get (i := i) (List.nodup_cons.mp nd).2 (by simpa using h1) (by simpa using h2) hk

/-- the names' values at the entry -/
def start (N : List Str) (vs : List V) : St := vs.map some ++ List.replicate (N.length - vs.length) none

/-- the context of a def's body, at its entry; an exception leaves the frame, then lies as CX says -/
def cxOf (CX : CXT) (P : Program) (w : World) (K : PySem.W.Frag) (mg : Str → Option Value) (base : Heap) (N : List Str) (qual : Str) (scope : Scope) (f : Addr) (cd : Value) (A : Around) (outer : List Env) (s : Shared) (H : Hp) (E : XK) : Cx where
  prog := P
  w := w
  K := K
  mg := mg
  base := base
  A := A.deeper (envOfC qual scope s.heap.objs.size f cd)
  N := N
  s_0 := s
  H_0 := H
  env := envOfC qual scope s.heap.objs.size f cd
  outer := outer
  stack := envOfC qual scope s.heap.objs.size f cd :: outer
  ex := []
  calm := true
  fn := fun _ => true
  pn := []
  xe := fun e s' => wpAny (model P w) (A.deeper (envOfC qual scope s.heap.objs.size f cd)) (leaving (envOfC qual scope s.heap.objs.size f cd) e) (fun _ s'' => CX outer H s E e s'') (fun e' s'' => CX outer H s E e' s'') s'

theorem cell_has {sc : Scope} {n : Nat} {x : Str} (h : sc.names.lookup x = some .cell) : ∃ c, (cellsFrom n sc.names []).lookup x = some c := by
  have q := PySem.W.cellsFrom_some sc.names n [] (.inl h)
  exact Option.isSome_iff_exists.mp q

theorem inv_start {CX : CXT} {P : Program} {w : World} {K : PySem.W.Frag} {mg : Str → Option Value} {base : Heap} {N ps : List Str} {qual : Str} {scope : Scope} {f : Addr} {cd : Value} {A : Around} {outer : List Env} {s s1 : Shared} {H : Hp} {E : XK} {us : List Value} {vs : List V}
    (S : FnScope N ps scope) (hd : A.handled = none) (e0 : Env0 P w K mg base A outer s H) (hl : vs.length = ps.length) (r : Vals vs us)
    (x : InCallC s s.heap.objs.size (bindL (envOfC qual scope s.heap.objs.size f cd).kindOf (ps.zip us) fun _ => none) (cellsFrom (s.heap.objs.size + 1) scope.names []) (bindC (envOfC qual scope s.heap.objs.size f cd).kindOf (ps.zip us) fun _ => none) s1) :
    Inv (cxOf CX P w K mg base N qual scope f cd A outer s H E) [] (start N vs) H s1 := by
  have hpl : ps.length ≤ N.length := by have := congrArg List.length S.pre; rw [List.length_take] at this; omega
  obtain ⟨h1, tk, rfl, hk⟩ := x.done
  have noA : ∀ b : Addr, b ∉ (cxOf CX P w K mg base N qual scope f cd A outer s H E).ex := fun b z => absurd (show b ∈ ([] : List Addr) from z) (by simp)
  refine ⟨⟨e0.mod, S.kind, rfl, rfl, Nat.le_refl _, fun y z c h1 h2 => ?_, fun y hy => ?_, fun y c _ h => ?_, fun _ => hd, Around.frames_deeper e0.frames, .inr ⟨rfl, rfl⟩, fun b z => absurd z (noA b), e0.bs, e0.bsz, fun b _ _ => noA b, fun b z => absurd z (noA b), e0.funs, e0.frf⟩,
    rfl, e0.bare, Un.kept hk, ⟨_, x.toInCall.ns, fun i y v h1 h2 h3 => ?_⟩, fun y c h => ⟨_, x.cell y c h⟩, e0.hok.fresh (Nat.le_refl _), fun y c h => ?_, fun p hp => absurd (show p ∈ ([] : List (Addr × Obj)) from hp) (by simp), e0.hok.kept hk, ?_⟩
  · exact name_of_addr x.apart (PySem.mem_of_lookup h1) (PySem.mem_of_lookup h2)
  · have hy : scope.names.lookup y = some .cell ∨ scope.names.lookup y = some .free := hy
    rcases hy with hy | hy
    · exact cell_has hy
    · exact absurd rfl (S.nofree _ (PySem.mem_of_lookup hy))
  · exact Nat.le_of_lt (x.above y c (PySem.mem_of_lookup h))
  · have hi : i < vs.length := by
      unfold start at h2
      by_cases hi : i < vs.length
      · exact hi
      · rw [List.getElem?_append_right (by simpa using hi)] at h2
        rw [List.getElem?_replicate] at h2
        split at h2 <;> cases h2
    have ha : vs[i]? = some v := by
      unfold start at h2
      rw [List.getElem?_append_left (by simpa using hi), List.getElem?_map] at h2
      cases e : vs[i]? with
      | none => rw [e] at h2; cases h2
      | some a => rw [e] at h2; cases h2; rfl
    obtain ⟨u, hu, rv⟩ := r.get ha
    have hp : ps[i]? = some y := by
      rw [← S.pre, List.getElem?_take_of_lt (by omega)]; exact h1
    have ndP : ps.Nodup := by rw [← S.pre]; exact S.nd.sublist (List.take_sublist _ _)
    refine ⟨u, rv, ?_⟩
    rcases S.par y (List.mem_of_getElem? hp) with k | k
    · exact .inl ⟨k, bindL_get ndP hp hu k⟩
    · obtain ⟨c, e⟩ := cell_has (n := s.heap.objs.size + 1) k
      refine .inr ⟨.inl k, c, e, ?_⟩
      have q := x.cell y c e
      rw [bindC_get ndP hp hu (by show scope.names.lookup y ≠ _; rw [k]; decide)] at q
      exact q
  · exact e0.hok.fresh (Nat.le_of_lt (x.above y c (PySem.mem_of_lookup h)))
  · unfold start
    show _ = N.length
    rw [List.length_append, List.length_map, List.length_replicate]
    omega

/-- THE RULE: a def (or a method) of the text, by its body. The body's reading t is chosen for each entry; it is run at the parameters' values -/
theorem fn_of {CX : CXT} {P : Program} {w : World} {K : PySem.W.Frag} {mg : Str → Option Value} {base : Heap} {k : Nat} {f : Addr} {name qual : Str} {params : Arguments} {body : List Stmt} {scope : Scope} {dV kV doc pm cdv ct oc : Value} {an od : Option Addr}
    {osl : Array (Option Value)} {N ps : List Str} {sp : Sp} (lk : K.lookup f = some ⟨oc, od, .func (PySem.W.fnOf name qual params body scope dV kV doc pm an cdv ct), osl⟩) (hcd : PySem.W.codeIn K cdv qual = true) (S : FnScope N ps scope)
    (len : ∀ vs H Q E, sp vs H Q E → vs.length = ps.length)
    (hbody : ∀ (A : Around) (outer : List Env) (s : Shared) (H : Hp) (vs : List V) (Q : VK) (E : XK), Room k (A.deeper (envOfC qual scope s.heap.objs.size f cdv)) → sp vs H Q E →
      ∃ t, PSs (cxOf CX P w K mg base N qual scope f cdv A outer s H E) body t ∧ t { nx := fun _ H' => Q .non H', rt := Q } (start N vs) H) :
    FnOk P w K mg base CX (k + 1) f (PySem.W.fnOf name qual params body scope dV kV doc pm an cdv ct) ps sp := by
  refine ⟨len, fun A outer s H args us vs Q E hr e0 hb r hsp => ?_⟩
  have hl := len _ _ _ _ hsp
  have KX : K.In s.heap := e0.mod.kin.keeps fun b o e => (e0.bs b o e).1
  have lim : s.heap.NoLimit := e0.mod.nolimit.keeps fun b o e => (e0.bs b o e).1
  have hkind : ∀ y ∈ ps.zip us, scope.names.lookup y.1 = some .local ∨ (scope.names.lookup y.1 = some .cell ∧ ((cellsFrom (s.heap.objs.size + 1) scope.names []).lookup y.1).isSome = true) := fun ⟨n, v⟩ hy => by
    rcases S.par n (List.of_mem_zip hy).1 with q | q
    · exact .inl q
    · exact .inr ⟨q, PySem.W.cellsFrom_some _ _ _ (.inl q)⟩
  refine codeAny_call_function hr.depth (KX _ _ lk) rfl S.co S.gen rfl (PySem.W.codeRec_of KX hcd) (hb _ _ _ _ ?_)
  refine wpAny_newFunctionEnv_cells S.kind hkind fun env he s1 x => ?_
  subst he
  refine ⟨lim.keeps x.toInCall.keep, codeAny_func ?_⟩
  obtain ⟨t, ht, hq⟩ := hbody A outer s H vs Q E (hr.deeper _) hsp
  have I : Inv (cxOf CX P w K mg base N qual scope f cdv A outer s H E) [] (start N vs) H s1 := inv_start S hr.hd e0 hl r x
  refine wpAny_mono (ht [] s1 (start N vs) H _ I hq) (fun fl s' hs => ?_) fun e s' hs => hs
  have fin : ∀ {σ' : St} {H' : Hp} {v : V} {u : Value}, Inv (cxOf CX P w K mg base N qual scope f cdv A outer s H E) [] σ' H' s' → RelV v u → Q v H' → CE outer P w H s Q u s' :=
    fun {σ' H' v u} J rv q => ⟨v, H', J.os, J.bare, J.base, J.hok, rv, q⟩
  cases fl with
  | ret u =>
    obtain ⟨v, σ', H', J, rv, q⟩ := hs
    exact fin J rv q
  | next =>
    obtain ⟨σ', H', J, q⟩ := hs
    exact fin (v := V.non) (u := Value.none) J rfl q
  | brk =>
    obtain ⟨_, _, _, q⟩ := hs
    exact False.elim q
  | cont =>
    obtain ⟨_, _, _, q⟩ := hs
    exact False.elim q
end L2

namespace L2
open PySem PySem.Spec PyProof.Rows
section
variable {X : Cx} {x : Str} {p pos : Pos} {e : Expr} {es : List Expr} {t : TA} {id T : String} {r : List V → Hp → VK → Prop}

def tCB (r : List V → Hp → VK → Prop) (t : TA) : TE := fun σ H Q => t σ H fun vs H1 => r vs H1 Q
/-- f(e, ..), f a built-in function -/
theorem pe_callB (hc : CallR X (.builtin id) r) (hg : Gl X x) (hm : X.mg x = none) (hv : bootBuiltins x = some (.builtin id)) (ha : PA X (e :: es) t) (hn : x ≠ "__name__" := by decide) (hdb : (x == ("__debug__" : Str)) = false := by decide)
    (he : starEach (e :: es) X.env = (false, eval e X.env) :: starEach es X.env := by rfl) (hpl : (backTo pos (starEach es X.env)).any (·.1) = false := by rfl) : PE X (.Call (.Name x p) (e :: es) [] pos) (tCB r t) := by
  intro pins s σ H Q I h
  refine wpAny_Call_Name_kw (ld_blt I hg hm hv ?_ hn hdb)
  exact PyProof.Rows.callWith_builtin1 (thn (ha pos pins s σ H _ I h) fun us s1 ⟨vs, H1, I1, r1, q1⟩ => hc pins s1 σ H1 vs us Q I1 r1 q1) he hpl
end
end L2

namespace HT
open PySem PyProof.Rows

section
open PySem.SeqAt
open PySem.AutoSeq1 (wpAny_loadPart')
open PySem.MeetsSeq PySem.MeetsSeq2 PySem.MeetsSeq3

end

section
variable {prog : Program} {w : World} {A : Around} {E : Value → Shared → Prop} {s : Shared}

/-- a slice's bound as a place among n (d where it is left out) -/
def sIx (n d : Nat) : Option Int → Nat
  | none => d
  | some v => if v < 0 then (v + (n : Int)).toNat else min v.toNat n
theorem sIx_none (n d : Nat) : sIx n d none = d := rfl
theorem sIx_nat (n d k : Nat) : sIx n d (some (k : Int)) = min k n := by
  show (if (k : Int) < 0 then ((k : Int) + (n : Int)).toNat else min (k : Int).toNat n) = min k n
  rw [if_neg (by omega), Int.toNat_natCast]
end
end HT

namespace L2
open PySem PySem.Spec PyProof.Rows

abbrev TO := St → Hp → (Option Int → Hp → Prop) → Prop
/-- a slice's part (left out, or an int) -/
def PO (X : Cx) (e : Option Expr) (t : TO) : Prop :=
  ∀ (pins : List (Addr × Obj)) (s : Shared) (σ : St) (H : Hp) (Q : Option Int → Hp → Prop), Inv X pins σ H s → t σ H Q →
    wpAny (model X.prog X.w) X.A (evalPart e X.env) (fun u s' => ∃ o H', Inv X pins σ H' s' ∧ IsPart u o ∧ Q o H') X.xe s
def tNoPart : TO := fun _ H Q => Q none H
def tPart (t : TE) : TO := fun σ H Q => t σ H fun x H1 => ∃ i, x = .int i ∧ Q (some i) H1

section
variable {X : Cx} {e : Expr} {te : TE} {lo hi : Option Expr} {tl th : TO} {pos p2 : Pos}

theorem po_none : PO X none tNoPart := by
  intro pins s σ H Q I h
  rw [evalPart_none]
  exact wpAny_pure ⟨none, H, I, .none, h⟩
theorem po_some (h : PE X e te) : PO X (some e) (tPart te) := by
  intro pins s σ H Q I hw
  rw [evalPart_some]
  refine thn (h pins s σ H _ I hw) fun u s1 ⟨x, H1, I1, r1, q1⟩ => ?_
  obtain ⟨i, rfl, q⟩ := q1
  obtain ⟨t, rfl⟩ := r1
  exact ⟨some i, H1, I1, .int i t, q⟩

/-- what a slice of a value is, by values: the slice object stands at sl -/
def SlR (X : Cx) (r : V → Option Int → Option Int → Hp → VK → Prop) : Prop :=
  ∀ (pins : List (Addr × Obj)) (s : Shared) (σ : St) (H : Hp) (x : V) (v vl vu : Value) (lo hi : Option Int) (sl : Addr) (Q : VK), Inv X pins σ H s → RelV x v → s.heap.IsSliceOf sl vl vu .none → IsPart vl lo → IsPart vu hi → r x lo hi H Q →
    ∃ T id, typeLookup (.type T) "__getitem__" = pure (some (.builtin id)) ∧ s.TypeIs v T ∧ wpAny (model X.prog X.w) X.A (getItem v (.ref sl)) (EP X pins σ Q) X.xe s
theorem SlR.or {r r' : V → Option Int → Option Int → Hp → VK → Prop} (h : SlR X r) (h' : SlR X r') : SlR X (fun x lo hi H Q => r x lo hi H Q ∨ r' x lo hi H Q) := by
  intro pins s σ H x v vl vu lo hi sl Q I rx hs pl pu q
  rcases q with q | q
  · exact h pins s σ H x v vl vu lo hi sl Q I rx hs pl pu q
  · exact h' pins s σ H x v vl vu lo hi sl Q I rx hs pl pu q
def tSl (r : V → Option Int → Option Int → Hp → VK → Prop) (te : TE) (tl th : TO) : TE := fun σ H Q => te σ H fun x H1 => tl σ H1 fun l H2 => th σ H2 fun u H3 => r x l u H3 Q
/-- a[lo:hi], any a -/
theorem pe_slice {r : V → Option Int → Option Int → Hp → VK → Prop} (hr : SlR X r) (he : PE X e te) (hl : PO X lo tl) (hu : PO X hi th) : PE X (.Subscript e (.Slice lo hi none p2) pos) (tSl r te tl th) := by
  intro pins s σ H Q I h
  refine Subscript_ (thn (he pins s σ H _ I h) fun v s1 ⟨x, H1, I1, r1, q1⟩ => ?_)
  refine wpAny_Slice (thn (hl pins s1 σ H1 _ I1 q1) fun vl s2 ⟨l, H2, I2, pl, q2⟩ => thn (hu pins s2 σ H2 _ I2 q2) fun vu s3 ⟨u, H3, I3, pu, q3⟩ => ?_)
  rw [evalPart_none]
  refine wpAny_pure ?_
  have I4 : Inv X pins σ H3 { s3 with heap := s3.heap.push { cls := .type "slice", data := .fields #[vl, vu, .none] } } := I3.kept (t' := s3.toks) fun b ob q => Heap.get?_push_of_some _ q
  obtain ⟨T, id, hT, ht, hg⟩ := hr pins { s3 with heap := s3.heap.push { cls := .type "slice", data := .fields #[vl, vu, .none] } } σ H3 x v vl vu l u s3.heap.objs.size Q I4 r1 (Heap.IsSliceOf.new ..) pl pu q3
  show wpAny (model X.prog X.w) X.A (subscriptTail e (.Slice lo hi none p2) v (.ref s3.heap.objs.size)) (EP X pins σ Q) X.xe { s3 with heap := s3.heap.push { cls := .type "slice", data := .fields #[vl, vu, .none] } }
  exact tail_any (ops := [.ref s3.heap.objs.size, v]) ht hT hg (by with_unfolding_all rfl)

/-- the items of xs[lo:hi] -/
def cutV (xs : List V) (lo hi : Option Int) : List V := (xs.drop (HT.sIx xs.length 0 lo)).take (HT.sIx xs.length xs.length hi - HT.sIx xs.length 0 lo)
theorem cutV_length (xs : List V) (lo hi : Option Int) : (cutV xs lo hi).length ≤ xs.length := by
  unfold cutV
  rw [List.length_take, List.length_drop]
  omega
end
end L2

namespace L2
open PySem PySem.Spec PyProof.Rows

/-- the place that an index of any sign means -/
def ixN (n : Nat) (i : Int) : Option Nat := if 0 ≤ i then (if i < n then some i.toNat else none) else if -(n : Int) ≤ i then some (i + n).toNat else none
def atI {α : Type} (xs : List α) (i : Int) : Option α := (ixN xs.length i).bind fun j => xs[j]?
theorem ixN_seq {n : Nat} {i : Int} {j : Nat} (h : ixN n i = some j) : seqIndex? i n = some j ∧ j < n ∧ -(n : Int) ≤ i ∧ i < n := by
  unfold ixN at h
  by_cases h0 : 0 ≤ i
  · rw [if_pos h0] at h
    by_cases h1 : i < n
    · rw [if_pos h1] at h
      have e : i.toNat = j := Option.some.inj h
      exact ⟨by rw [seqIndex_of h0 h1, e], by omega, by omega, h1⟩
    · rw [if_neg h1] at h; cases h
  · rw [if_neg h0] at h
    by_cases h1 : -(n : Int) ≤ i
    · rw [if_pos h1] at h
      have e : (i + n).toNat = j := Option.some.inj h
      exact ⟨by rw [seqIndex_neg (by omega) h1, e], by omega, h1, by omega⟩
    · rw [if_neg h1] at h; cases h
theorem atI_get {α : Type} {xs : List α} {i : Int} {v : α} (h : atI xs i = some v) : ∃ j, seqIndex? i xs.length = some j ∧ xs[j]? = some v ∧ j < xs.length ∧ -(xs.length : Int) ≤ i ∧ i < xs.length := by
  unfold atI at h
  cases e : ixN xs.length i with
  | none => rw [e] at h; cases h
  | some j =>
    rw [e] at h
    obtain ⟨h1, h2, h3, h4⟩ := ixN_seq e
    exact ⟨j, h1, h, h2, h3, h4⟩
theorem atI_nat {α : Type} {xs : List α} {j : Nat} {v : α} (h : xs[j]? = some v) : atI xs (j : Int) = some v := by
  have hj : j < xs.length := (List.getElem?_eq_some_iff.mp h).1
  have e : ixN xs.length (j : Int) = some j := by
    unfold ixN
    rw [if_pos (by omega), if_pos (by omega)]; simp
  unfold atI; rw [e]; exact h
/-- what stands as an index of a plain subscript -/
def PlainIx (b : Expr) : Prop := ∀ o i, subscripted b false o i = operate [o, i] (getItem o i)
/-- a subscript by values -/
def IxR (X : Cx) (r : R2) : Prop :=
  ∀ (value slice : Expr) (pins : List (Addr × Obj)) (s : Shared) (σ : St) (H : Hp) (x y : V) (v u : Value) (Q : VK), Inv X pins σ H s → RelV x v → RelV y u → r x y H Q →
    subscripted slice false v u = operate [v, u] (getItem v u) → wpAny (model X.prog X.w) X.A (subscriptTail value slice v u) (EP X pins σ Q) X.xe s
/-- a call of a builtin's method by values: the receiver, the arguments -/
def MtR (X : Cx) (id : String) (r : V → List V → Hp → VK → Prop) : Prop :=
  ∀ (pins : List (Addr × Obj)) (s : Shared) (σ : St) (H : Hp) (x : V) (xs : List V) (v : Value) (us : List Value) (Q : VK), Inv X pins σ H s → RelV x v → Vals xs us → r x xs H Q →
    wpAny (model X.prog X.w) X.A (call (.builtin id) (v :: us)) (EP X pins σ Q) X.xe s
section
variable {X : Cx} {a b : Expr} {ta tb : TE} {pos : Pos}
theorem IxR.or {r r' : R2} (h : IxR X r) (h' : IxR X r') : IxR X (fun x y H Q => r x y H Q ∨ r' x y H Q) := by
  intro value slice pins s σ H x y v u Q I rx ry q hs
  rcases q with q | q
  · exact h value slice pins s σ H x y v u Q I rx ry q hs
  · exact h' value slice pins s σ H x y v u Q I rx ry q hs
theorem MtR.or {id : String} {r r' : V → List V → Hp → VK → Prop} (h : MtR X id r) (h' : MtR X id r') : MtR X id (fun x xs H Q => r x xs H Q ∨ r' x xs H Q) := by
  intro pins s σ H x xs v us Q I rx rs q
  rcases q with q | q
  · exact h pins s σ H x xs v us Q I rx rs q
  · exact h' pins s σ H x xs v us Q I rx rs q
/-- a[b] -/
theorem pe_ix {r : R2} (hr : IxR X r) (ha : PE X a ta) (hb : PE X b tb) (hs : PlainIx b) : PE X (.Subscript a b pos) (tOp r ta tb) := by
  intro pins s σ H Q I h
  exact Subscript_ (binT ha hb I h fun v u s2 x y H2 I2 rx ry q => hr a b pins s2 σ H2 x y v u Q I2 rx ry q (hs _ _))

def rIxL (K : PySem.W.Frag) : R2 := fun x y H Q => ∃ p xs i v, x = .ref p ∧ y = .int i ∧ SqL K H p xs ∧ atI xs i = some v ∧ Q v H
theorem ix_list : IxR X (rIxL X.K) := by
  intro value slice pins s σ H x y v u Q I rx ry h hs
  obtain ⟨p, xs, i, z, rfl, rfl, hq, he, q⟩ := h
  cases rx
  obtain ⟨t, rfl⟩ := ry
  obtain ⟨its, r, pl, hz⟩ := I.list hq
  obtain ⟨j, h1, h2, h3, h4, h5⟩ := atI_get he
  obtain ⟨w, ew, rw'⟩ := r.get h2
  have hl := r.length
  have hn := line63
  have fin : EP X pins σ Q w s := ⟨z, H, I, rw', q⟩
  by_cases h0 : 0 ≤ i
  · have hj : i.toNat = j := by
      rw [seqIndex_of h0 h5] at h1
      exact Option.some.inj h1
    exact item_listR pl.isList h0 (by omega) (by rw [hj]; simpa using ew) fin hs
  · have hj : (i + (its.toArray.size : Int)).toNat = j := by
      rw [seqIndex_neg (by omega) h4] at h1
      rw [List.size_toArray, ← hl]
      exact Option.some.inj h1
    exact subscriptTail_builtinR (x := w) pl.isList.typeIs slot_list_getitem.lookup
      (wpAny_getItem_list_neg (Q := fun r s' => r = w ∧ EP X pins σ Q r s') pl.isList (by omega) (by rw [List.size_toArray] <;> omega) (by omega) (by rw [hj]; simpa using ew) ⟨rfl, fin⟩) hs
theorem Inv.lst {pins : List (Addr × Obj)} {σ : St} {H : Hp} {s : Shared} {p : Addr} {xs : List V} (I : Inv X pins σ H s) (h : H p = some (.lst xs)) :
    ∃ (its : List Value) (n : Nat), Vals xs its ∧ s.heap.get? p = some { cls := .type "list", data := .seq its.toArray n } ∧ xs.length ≤ sizeLine := by
  obtain ⟨z, its, n, r, e⟩ := I.hok p _ h
  exact ⟨its, n, r, e, z⟩
theorem slice_bounds (lo hi : Option Int) (n : Nat) : (sliceBounds lo hi none n).1 = ((HT.sIx n 0 lo : Nat) : Int) ∧ (sliceBounds lo hi none n).2.1 = ((HT.sIx n n hi : Nat) : Int) ∧ (sliceBounds lo hi none n).2.2 = 1 := by
  refine ⟨?_, ?_, rfl⟩
  · cases lo with
    | none => simp [sliceBounds, HT.sIx]
    | some i =>
      simp only [sliceBounds, HT.sIx, Option.getD_none, show (1 : Int) > 0 by decide, if_true]
      by_cases h : i < 0
      · simp only [h, if_true] <;> omega
      · simp only [h, if_false] <;> omega
  · cases hi with
    | none => simp [sliceBounds, HT.sIx]
    | some i =>
      simp only [sliceBounds, HT.sIx, Option.getD_none, show (1 : Int) > 0 by decide, if_true]
      by_cases h : i < 0
      · simp only [h, if_true] <;> omega
      · simp only [h, if_false] <;> omega
theorem slicePick_cut (its : List Value) (lo hi : Option Int) : slicePick its.toArray lo hi none = ((its.drop (HT.sIx its.length 0 lo)).take (HT.sIx its.length its.length hi - HT.sIx its.length 0 lo)).toArray := by
  obtain ⟨h1, h2, h3⟩ := slice_bounds lo hi its.toArray.size
  unfold slicePick
  rw [h1, h2, h3]
  simp only [sliceRange_one, pick_run, List.size_toArray] <;> rfl
/-- xs[lo:hi] of a list: a new list -/
def rSlL (K : PySem.W.Frag) : V → Option Int → Option Int → Hp → VK → Prop := fun x lo hi H Q => ∃ a xs, x = .ref a ∧ SqL K H a xs ∧ ∀ p, H p = none → Q (.ref p) (upd H p (.lst (cutV xs lo hi)))
theorem sl_list : SlR X (rSlL X.K) := by
  intro pins s σ H x v vl vu lo hi sl Q I rx hs pl pu h
  obtain ⟨a, xs, rfl, hx, q⟩ := h
  cases rx
  obtain ⟨its, r, ht, hz⟩ := I.list hx
  have hlen := r.length
  refine ⟨"list", _, slot_list_getitem.lookup, ht.isList.typeIs, ?_⟩
  refine wpAny_getItem_list_slice ht.isList hs pl pu .none (by simp) ?_ (by rw [List.size_toArray] <;> omega)
  rw [slicePick_cut, ← hlen]
  refine ⟨.ref s.heap.objs.size, _, I.laid (t' := s.toks) (o := .lst (cutV xs lo hi)) (fun b ob q => Heap.get?_push_of_some _ q) (Nat.le_refl _) ?_, rfl, q _ (I.hok.fresh (Nat.le_refl _))⟩
  exact ⟨Nat.le_trans (cutV_length xs lo hi) hz, _, 0, (r.drop (HT.sIx xs.length 0 lo)).take (HT.sIx xs.length xs.length hi - HT.sIx xs.length 0 lo), Heap.get?_push_size _ rfl⟩

theorem call_len_seq : CallR X (.builtin "len") (fun xs H Q => ∃ p ys, xs = [.ref p] ∧ (SqL X.K H p ys ∨ SqT X.K H p ys) ∧ Q (.int ys.length) H) := by
  intro pins s σ H xs us Q I r h
  obtain ⟨p, ys, rfl, hq, q⟩ := h
  obtain ⟨u, rfl, rx⟩ := vals1 r
  cases rx
  have hn := line63
  rcases hq with hq | hq
  · obtain ⟨its, r', pl, hz⟩ := I.list hq
    have hlen := r'.length
    exact Calls.call_len_list pl.isList (by simp only [List.size_toArray] <;> omega) ⟨.int ys.length, H, I.tok _, ⟨s.toks + 1, by rw [List.size_toArray, hlen]⟩, q⟩
  · obtain ⟨its, r', pl, hz⟩ := I.tuple hq
    have hlen := r'.length
    exact len_tuple pl (by simp only [List.size_toArray] <;> omega) ⟨.int ys.length, H, I.tok _, ⟨s.toks + 1, by rw [List.size_toArray, hlen]⟩, q⟩
theorem CallR.or {f : Value} {r r' : List V → Hp → VK → Prop} (h : CallR X f r) (h' : CallR X f r') : CallR X f (fun xs H Q => r xs H Q ∨ r' xs H Q) := by
  intro pins s σ H xs us Q I rs q
  rcases q with q | q
  · exact h pins s σ H xs us Q I rs q
  · exact h' pins s σ H xs us Q I rs q
/-- the value is of that builtin type -/
def tyV (K : PySem.W.Frag) (T : String) (x : V) (H : Hp) : Prop := match x with
  | .str _ => T = "str"
  | .int _ => T = "int"
  | .ref p => (T = "list" ∧ ∃ xs, SqL K H p xs) ∨ (T = "tuple" ∧ ∃ o, K.lookup p = some o ∧ o.cls = .type "tuple" ∧ o.dict = none) ∨
      (T = "dict" ∧ ((∃ kvs, H p = some (.dK kvs)) ∨ ∃ kvs, H p = some (.dT kvs))) ∨ (T = "set" ∧ ∃ S n, H p = some (.set S n))
  | _ => False
theorem tyV_is {pins : List (Addr × Obj)} {σ : St} {H : Hp} {s : Shared} {T : String} {x : V} {v : Value} (I : Inv X pins σ H s) (r : RelV x v) (ty : tyV X.K T x H) :
    s.TypeIs v T ∧ ∀ a, v = .ref a → ∃ ob, s.heap.get? a = some ob ∧ ob.dict = none := by
  cases x with
  | str z =>
    obtain ⟨t, rfl⟩ := r
    cases (show T = "str" from ty)
    exact ⟨typeIs_str s z t, fun _ e => nomatch e⟩
  | int i =>
    obtain ⟨t, rfl⟩ := r
    cases (show T = "int" from ty)
    exact ⟨typeIs_int s i t, fun _ e => nomatch e⟩
  | ref p =>
    cases r
    rcases ty with ⟨rfl, xs, hq⟩ | ⟨rfl, o, hk, hc, hd⟩ | ⟨rfl, hk⟩ | ⟨rfl, S, n, hk⟩
    · obtain ⟨its, _, pl, _⟩ := I.list hq
      refine ⟨pl.isList.typeIs, fun a e => ?_⟩
      cases e
      obtain ⟨o, n, e, c, hd, _⟩ := pl
      exact ⟨o, e, hd⟩
    · refine ⟨⟨o, I.kIn p o hk, hc⟩, fun a e => ?_⟩
      cases e
      exact ⟨o, I.kIn _ o hk, hd⟩
    · have z : ∃ o, s.heap.get? p = some o ∧ o.ExactDict := by
        rcases hk with ⟨kvs, hk⟩ | ⟨kvs, hk⟩
        · obtain ⟨_, _, _, _, o, _, _, e, ex, _⟩ := I.hok p _ hk
          exact ⟨o, e, ex⟩
        · obtain ⟨_, _, _, _, o, _, _, e, ex, _⟩ := I.hok p _ hk
          exact ⟨o, e, ex⟩
      obtain ⟨o, e, ex⟩ := z
      refine ⟨⟨o, e, ex.1⟩, fun a e2 => ?_⟩
      cases e2
      exact ⟨o, e, ex.2.1⟩
    · obtain ⟨o, _, _, _, e, ex, _⟩ := I.hok p _ hk
      refine ⟨⟨o, e, ex.1⟩, fun a e2 => ?_⟩
      cases e2
      exact ⟨o, e, ex.2.1⟩
  | _ => exact False.elim ty
def tBM0 (K : PySem.W.Frag) (T : String) (r : V → List V → Hp → VK → Prop) (to : TE) : TE := fun σ H Q => to σ H fun x H1 => tyV K T x H1 ∧ r x [] H1 Q
def tBM (K : PySem.W.Frag) (T : String) (r : V → List V → Hp → VK → Prop) (to : TE) (t : TA) : TE := fun σ H Q => to σ H fun x H1 => tyV K T x H1 ∧ t σ H1 fun xs H2 => r x xs H2 Q
variable {o e : Expr} {es : List Expr} {to : TE} {t : TA} {name : Str} {apos cpos : Pos} {T id : String} {r : V → List V → Hp → VK → Prop}
theorem pe_bm0 (pa : PlainAttrs T) (slot : Slot T name id) (hty : typeOf (.builtin id) = pure (.type "method_descriptor")) (hm : MtR X id r) (ho : PE X o to)
    (hbase : attributeBase o name X.env (eval o X.env) = eval o X.env := by rfl) (hline : (apos.endLine == cpos.line) = true := by rfl) : PE X (.Call (.Attribute o name apos) [] [] cpos) (tBM0 X.K T r to) := by
  intro pins s σ H Q I h
  refine wpAny_Call_method0_late hbase hline (thn (ho pins s σ H _ I h) fun v s1 ⟨x, H1, I1, r1, ty, q1⟩ => ?_)
  obtain ⟨h1, h2⟩ := tyV_is I1 r1 ty
  exact ⟨T, id, pa, slot, hty, h1, h2, Calls.callWith_builtin rfl (PySem.evalArgs_none (hm pins s1 σ H1 x [] v [] Q I1 r1 .nil q1))⟩
theorem pe_bm (pa : PlainAttrs T) (slot : Slot T name id) (hty : typeOf (.builtin id) = pure (.type "method_descriptor")) (hm : MtR X id r) (ho : PE X o to) (ha : PA X (e :: es) t)
    (hbase : attributeBase o name X.env (eval o X.env) = eval o X.env := by rfl)
    (hfew : ((backTo cpos (starEach (e :: es) X.env)).all (fun x => !x.1) && (backToKw cpos (keywordEach [] X.env)).all (fun x => x.1.isSome)
      && decide ((e :: es).length + ([] : List Keyword).length + (if ([] : List Keyword).isEmpty then 0 else 1) < 30)) = true := by rfl)
    (hline : (apos.endLine == cpos.line) = true := by rfl) (hs : starEach (e :: es) X.env = (false, eval e X.env) :: starEach es X.env := by rfl) (hplain : (backTo cpos (starEach es X.env)).any (·.1) = false := by rfl) :
    PE X (.Call (.Attribute o name apos) (e :: es) [] cpos) (tBM X.K T r to t) := by
  intro pins s σ H Q I h
  refine wpAny_Call_method_late hbase hfew hline rfl (thn (ho pins s σ H _ I h) fun v s1 ⟨x, H1, I1, r1, ty, q1⟩ => ?_)
  obtain ⟨h1, h2⟩ := tyV_is I1 r1 ty
  refine ⟨T, id, pa, slot, hty, h1, h2, ?_⟩
  have hA := ha cpos pins s1 σ H1 _ I1 q1
  rw [hs] at hA ⊢
  refine Calls.callWith_builtin (by show (false || (backTo cpos (starEach es X.env)).any (·.1)) = false; rw [hplain] <;> rfl) (Calls.evalArgs_plain ?_)
  exact thn hA fun us s2 ⟨vs, H2, I2, r2, q2⟩ => hm pins s2 σ H2 x vs v us Q I2 r1 r2 q2
end
end L2

namespace L2
open PySem PySem.Spec PyProof.Rows

def MtM (X : Cx) (id : String) (r : V → List V → Hp → VK → Prop) : Prop :=
  ∀ (pins : List (Addr × Obj)) (s : Shared) (σ : St) (H : Hp) (x : V) (xs : List V) (v : Value) (us : List Value) (Q : VK), Inv X pins σ H s → RelV x v → Vals xs us → r x xs H Q →
    wpAny (model X.prog X.w) X.A (call (.builtin id) (v :: us)) (EP X pins σ Q) X.xe s

theorem Vals.one : ∀ {x : V} {us : List Value}, Vals [x] us → ∃ u, us = [u] ∧ RelV x u
  | _, _, .cons r .nil => ⟨_, rfl, r⟩
theorem Vals.two : ∀ {x y : V} {us : List Value}, Vals [x, y] us → ∃ u v, us = [u, v] ∧ RelV x u ∧ RelV y v
  | _, _, _, .cons r (.cons q .nil) => ⟨_, _, rfl, r, q⟩
theorem Vals.zero : ∀ {us : List Value}, Vals [] us → us = []
  | _, .nil => rfl
theorem Vals.dropLast {xs : List V} {us : List Value} (h : Vals xs us) : Vals xs.dropLast us.dropLast := by
  induction h with
  | nil => exact .nil
  | cons r t ih =>
    cases t with
    | nil => exact .nil
    | cons q t' => exact .cons r ih
theorem Vals.eraseIdx : ∀ {xs : List V} {us : List Value} (i : Nat), Vals xs us → Vals (xs.eraseIdx i) (us.eraseIdx i)
  | _, _, _, .nil => .nil
  | _, _, 0, .cons _ t => t
  | _, _, i + 1, .cons r t => .cons r (Vals.eraseIdx i t)
theorem Vals.reverse {xs : List V} {us : List Value} (h : Vals xs us) : Vals xs.reverse us.reverse := by
  induction h with
  | nil => exact .nil
  | cons r t ih => rw [List.reverse_cons, List.reverse_cons]; exact Vals.append ih (.cons r .nil)
theorem erase_last {α : Type} (l : List α) : l.eraseIdx (l.length - 1) = l.dropLast := by
  induction l with
  | nil => rfl
  | cons a r ih =>
    cases r with
    | nil => rfl
    | cons b r =>
      have e : (a :: b :: r).length - 1 = ((b :: r).length - 1) + 1 := by
        have h1 : (a :: b :: r).length = r.length + 2 := rfl
        have h2 : (b :: r).length = r.length + 1 := rfl
        omega
      rw [e, List.eraseIdx_cons_succ, ih]
      all_goals rfl
section
variable {X : Cx} {pins : List (Addr × Obj)} {σ : St} {H : Hp} {s : Shared} {l b : Addr} {xs ys zs : List V}

theorem Inv.lset {its its' : List Value} {n : Nat} {f : Array Value → Array Value} {t' : Nat} (I : Inv X pins σ H s) (hH : H l = some (.lst xs))
    (e : s.heap.get? l = some { cls := .type "list", data := .seq its.toArray n }) (hf : f its.toArray = its'.toArray) (hv : Vals ys its') (hz : ys.length ≤ sizeLine) :
    Inv X pins σ (upd H l (.lst ys)) { s with heap := s.heap.update l (Obj.mapSeq f), toks := t' } := by
  have q := PySem.IsL.update e f
  rw [hf] at q
  refine I.write (x := l) (e := l) (by rw [hH]; exact trivial) (.inl rfl) (fun b' u hb hu => (Heap.get?_update_other s.heap (Obj.mapSeq f) (Ne.symm hb)).trans hu) ⟨_, q⟩ ?_
  exact ⟨hz, its', _, hv, q⟩
theorem Inv.lnew {its : List Value} {t' : Nat} (I : Inv X pins σ H s) (hv : Vals ys its) (hz : ys.length ≤ sizeLine) :
    Inv X pins σ (upd H s.heap.objs.size (.lst ys)) { s with heap := s.heap.push { cls := .type "list", data := .seq its.toArray }, toks := t' } :=
  I.laid (fun _ _ q => Heap.get?_push_of_some _ q) (Nat.le_refl _) ⟨hz, its, 0, hv, Heap.get?_push_size _ rfl⟩
theorem Inv.fresh (I : Inv X pins σ H s) : H s.heap.objs.size = none := I.hok.fresh (Nat.le_refl _)
theorem Inv.lstM (I : Inv X pins σ H s) (hH : H l = some (.lst xs)) : xs.length ≤ sizeLine ∧ ∃ (its : List Value) (n : Nat), Vals xs its ∧ xs.length = its.length ∧ s.heap.get? l = some { cls := .type "list", data := .seq its.toArray n } := by
  obtain ⟨z, its, n, r, e⟩ := I.hok l _ hH
  exact ⟨z, its, n, r, r.length, e⟩

theorem notLongL {n : Nat} (h : n ≤ sizeLine) : Builtin.List.listTooLong n = false := by
  unfold Builtin.List.listTooLong
  exact decide_eq_false (by omega)
end

section
variable {X : Cx}

def rAppend : V → List V → Hp → VK → Prop := fun x vs H Q => ∃ l xs y, x = .ref l ∧ vs = [y] ∧ H l = some (.lst xs) ∧ xs.length < sizeLine ∧ Q .non (upd H l (.lst (xs ++ [y])))
theorem mt_append : MtM X "list.append" rAppend := by
  intro pins s σ H x vs v us Q I rx rv h
  obtain ⟨l, xs, y, rfl, rfl, hH, hz, q⟩ := h
  cases rx
  obtain ⟨u, rfl, ru⟩ := rv.one
  obtain ⟨z, its, n, r, hl, e⟩ := I.lstM hH
  refine call_meets F.slot_list_append ⟨_, e, rfl⟩ F.entry_list_append (F.args_list_append_2 _ _) (PySem.list_append l its.toArray n u (by rw [List.size_toArray]; omega)) ⟨e, ?_⟩
  refine ⟨.non, _, I.lset (its' := its ++ [u]) hH e (by simp) (r.append (.cons ru .nil)) ?_, rfl, q⟩
  rw [List.length_append, List.length_singleton]
  omega

def rExtend : V → List V → Hp → VK → Prop := fun x vs H Q => ∃ l b xs zs, x = .ref l ∧ vs = [.ref b] ∧ H l = some (.lst xs) ∧ H b = some (.lst zs) ∧ xs.length + zs.length ≤ sizeLine ∧ Q .non (upd H l (.lst (xs ++ zs)))
theorem mt_extend : MtM X "list.extend" rExtend := by
  intro pins s σ H x vs v us Q I rx rv h
  obtain ⟨l, b, xs, zs, rfl, rfl, hH, hB, hz, q⟩ := h
  cases rx
  obtain ⟨u, rfl, ru⟩ := rv.one
  cases ru
  obtain ⟨z, its, n, r, hl, e⟩ := I.lstM hH
  obtain ⟨z2, its2, n2, r2, hl2, e2⟩ := I.lstM hB
  have hsz : its.toArray.size + its2.toArray.size ≤ sizeLine := by rw [List.size_toArray, List.size_toArray]; omega
  have hlong : ¬ (!its.toArray.isEmpty && Builtin.List.listTooLong (its.toArray.size + its2.toArray.size)) = true := by
    rw [notLongL hsz, Bool.and_false]
    exact Bool.false_ne_true
  refine call_meets F.slot_list_extend ⟨_, e, rfl⟩ F.entry_list_extend (F.args_list_extend_2 _ _)
    (AutoSeq1.list_extend_list_list_0 l its.toArray n b its2.toArray n2 hlong (by rw [List.size_toArray]; omega) (by omega)) ⟨e, e2, ?_⟩
  refine ⟨.non, _, I.lset (its' := its ++ its2) hH e (by simp) (r.append r2) ?_, rfl, q⟩
  rw [List.length_append]
  omega

def rPop : V → List V → Hp → VK → Prop := fun x vs H Q => ∃ l xs y, x = .ref l ∧ vs = [] ∧ H l = some (.lst xs) ∧ xs[xs.length - 1]? = some y ∧ Q y (upd H l (.lst xs.dropLast))
theorem mt_pop : MtM X "list.pop" rPop := by
  intro pins s σ H x vs v us Q I rx rv h
  obtain ⟨l, xs, y, rfl, rfl, hH, hy, q⟩ := h
  cases rx
  have hus := rv.zero
  subst hus
  obtain ⟨z, its, n, r, hl, e⟩ := I.lstM hH
  obtain ⟨u, hu, ru⟩ := r.get hy
  have hy' : its.toArray[its.toArray.size - 1]? = some u := by
    show its.toArray[its.length - 1]? = some u
    rw [← Array.getElem?_toList, ← hl]
    exact hu
  refine call_meets F.slot_list_pop ⟨_, e, rfl⟩ F.entry_list_pop (F.args_list_pop_1 _) (MeetsSeq.list_pop_last l its.toArray n u hy' (by rw [List.size_toArray]; omega)) ⟨e, ?_⟩
  refine ⟨y, _, I.lset (its' := its.dropLast) hH e ?_ r.dropLast ?_, ru, q⟩
  · show its.toArray.eraseIdxIfInBounds (its.toArray.size - 1) = its.dropLast.toArray
    rw [List.size_toArray, List.eraseIdxIfInBounds_toArray, erase_last]
  · rw [List.length_dropLast]
    omega

def rCat : R2 := fun x y H Q => ∃ l b xs zs, x = .ref l ∧ y = .ref b ∧ H l = some (.lst xs) ∧ H b = some (.lst zs) ∧ xs.length + zs.length ≤ sizeLine ∧ ∀ p, H p = none → Q (.ref p) (upd H p (.lst (xs ++ zs)))
theorem op_cat : OpR X (binaryOp .Add) rCat := by
  intro pins s σ H x y v u Q I rx ry h
  obtain ⟨l, b, xs, zs, rfl, rfl, hH, hB, hz, q⟩ := h
  cases rx
  cases ry
  obtain ⟨z, its, n, r, hl, e⟩ := I.lstM hH
  obtain ⟨z2, its2, n2, r2, hl2, e2⟩ := I.lstM hB
  refine PySem.P.add_list e e2 ?_ (by rw [List.size_toArray, List.size_toArray]; omega)
  have ea : its.toArray ++ its2.toArray = (its ++ its2).toArray := by simp
  rw [ea]
  exact ⟨.ref _, _, I.lnew (t' := s.toks) (r.append r2) (by rw [List.length_append]; omega), rfl, q _ I.fresh⟩
end

section
variable {prog : Program} {w : World} {A : Around} {E : Value → Shared → Prop} {s : Shared}
end

section
variable {X : Cx}
end
end L2

namespace L2
open PySem PySem.Spec PyProof.Rows

theorem Vals.ints : ∀ {ns : List Int} {us : List Value}, Vals (ns.map V.int) us → IntsAre us ns
  | [], us, h => by
    rw [List.map_nil] at h
    cases h
    exact IntsAre.nil
  | n :: ns, us, h => by
    rw [List.map_cons] at h
    cases h with
    | cons r t =>
      obtain ⟨k, rfl⟩ := r
      exact IntsAre.cons n k (Vals.ints t)
theorem Vals.strs : ∀ {xs : List Str} {us : List Value}, Vals (xs.map V.str) us → StrsAre us xs
  | [], us, h => by
    rw [List.map_nil] at h
    cases h
    exact StrsAre.nil
  | x :: xs, us, h => by
    rw [List.map_cons] at h
    cases h with
    | cons r t =>
      obtain ⟨k, rfl⟩ := r
      exact StrsAre.cons x k (Vals.strs t)
theorem Vals.bls : ∀ {bs : List Bool} {us : List Value}, Vals (bs.map V.bl) us → us = bs.map Value.bool
  | [], us, h => by
    rw [List.map_nil] at h
    cases h
    rfl
  | b :: bs, us, h => by
    rw [List.map_cons] at h
    cases h with
    | cons r t =>
      cases r
      rw [Vals.bls t, List.map_cons]
theorem Vals.ref1 {a : Addr} {us : List Value} (r : Vals [V.ref a] us) : us = [Value.ref a] := by
  cases r with
  | cons r t =>
    cases t
    cases r
    rfl
section
variable {prog : Program} {w : World} {A : Around} {E : Value → Shared → Prop} {s : Shared} {l : Addr} {its : List Value} {ns : List Int} {Q : Value → Shared → Prop}
end

section
variable {X : Cx}
end

section
variable {X : Cx}
end

section
variable {X : Cx}
end

theorem iter_any {prog : Program} {w : World} {A : Around} {E : Value → Shared → Prop} {s : Shared} {l : Addr} {items : Array Value} {Q : Value → Shared → Prop} (hl : s.heap.IsList l items)
    (h : ∀ s₂ : Shared, s₂ = { s with heap := s.heap.push { cls := .type "list_iterator", data := .fields #[.ref l, .int 0 0] } } →
      (s₂.heap.IsListIter s.heap.objs.size l 0 ∧ s₂.heap.IsList l items) → l ≠ s.heap.objs.size → Q (.ref s.heap.objs.size) s₂) : wpAny (model prog w) A (pyIter (.ref l)) Q E s := by
  have hlt : l < s.heap.objs.size := by obtain ⟨_, e, _⟩ := hl; exact Heap.lt_size e
  exact wpAny_pyIter_list hl (h _ rfl ⟨⟨_, Heap.get?_push_size _ rfl, rfl, rfl⟩, hl.push _⟩ (Nat.ne_of_lt hlt))
theorem truth_bools {prog : Program} {w : World} {A : Around} {bs : List Bool} {its : List Value} (e : its = bs.map Value.bool) :
    TruthOf prog w A (fun i v => its.toArray[i]? = some v) (fun i => bs.getD i false) := fun i v s Q E hv hq => by
  have hv' : its[i]? = some v := by simpa using hv
  rw [e, List.getElem?_map] at hv'
  obtain ⟨b, hb, rfl⟩ := Option.map_eq_some_iff.mp hv'
  have hg : bs.getD i false = b := by rw [List.getD_eq_getElem?_getD, hb] <;> rfl
  have hq' : Q (bs.getD i false) s := hq
  rw [hg] at hq'
  exact wpAny_truthy_bool hq'
theorem all_range : ∀ bs : List Bool, (List.range bs.length).all (fun i => bs.getD i false) = bs.all id
  | [] => rfl
  | b :: bs => by
    rw [List.length_cons, List.range_succ_eq_map, List.all_cons, List.all_map, List.all_cons, ← all_range bs]
    all_goals rfl
section
variable {X : Cx}
def rAll (K : PySem.W.Frag) : List V → Hp → VK → Prop := fun vs H Q => ∃ (a : Addr) (bs : List Bool), vs = [V.ref a] ∧ SqL K H a (bs.map V.bl) ∧ Q (.bl (bs.all id)) H
theorem cr_all (hc : X.calm = true) : CallR X (.builtin "all") (rAll X.K) := by
  intro pins s σ H vs us Q I r h
  obtain ⟨a, bs, rfl, hs, q⟩ := h
  obtain ⟨its, rv, hl, _⟩ := I.list hs
  rw [Vals.ref1 r]
  have hb := rv.bls
  refine call_all_walk (iter_any hl.isList fun s₂ e2 st hne => ?_)
  subst e2
  refine ⟨_, _, _, _, _, _, _, rfl, Walks.list (A := X.A.in1) (I.ok.hd hc) _ a hne its.toArray, st, truth_bools hb, fun h' tk hk => ?_⟩
  refine ⟨.bl _, H, I.kept fun b o eo => hk b o (fun hmem => ?_) (Heap.get?_push_of_some _ eo), ?_, q⟩
  · rcases List.mem_cons.mp hmem with e1 | hmem
    · exact absurd (e1 ▸ Heap.lt_size eo) (Nat.lt_irrefl _)
    · cases hmem
  · show Value.bool _ = Value.bool _
    rw [← all_range, hb, List.size_toArray, List.length_map]
end

mutual
inductive Dp (K : PySem.W.Frag) (H : Hp) : V → PyData → Prop
  | non : Dp K H .non .none
  | bl (b : Bool) : Dp K H (.bl b) (.bool b)
  | int (i : Int) : Dp K H (.int i) (.int i)
  | str (x : Str) : Dp K H (.str x) (.str x)
  | lst {a : Addr} {xs : List V} {ds : List PyData} : SqL K H a xs → DpAll K H xs ds → Dp K H (.ref a) (.list ds)
  | tup {a : Addr} {xs : List V} {ds : List PyData} : SqT K H a xs → DpAll K H xs ds → Dp K H (.ref a) (.tuple ds)
inductive DpAll (K : PySem.W.Frag) (H : Hp) : List V → List PyData → Prop
  | nil : DpAll K H [] []
  | cons {v : V} {vs : List V} {d : PyData} {ds : List PyData} : Dp K H v d → DpAll K H vs ds → DpAll K H (v :: vs) (d :: ds)
end
section
variable {X : Cx} {pins : List (Addr × Obj)} {σ : St} {H : Hp} {s : Shared}
mutual
theorem Dp.reads (I : Inv X pins σ H s) : ∀ (d : PyData) (v : V) (u : Value), Dp X.K H v d → RelV v u → ∃ as, Reads s.heap u d as
  | .none, _, _, h, r => by
    cases h
    cases r
    exact ⟨_, Reads.none⟩
  | .bool b, _, _, h, r => by
    cases h
    cases r
    exact ⟨_, Reads.bool b⟩
  | .int i, _, _, h, r => by
    cases h
    obtain ⟨t, rfl⟩ := r
    exact ⟨_, Reads.int i t⟩
  | .str x, _, _, h, r => by
    cases h
    obtain ⟨t, rfl⟩ := r
    exact ⟨_, Reads.str x t⟩
  | .list ds, _, _, h, r => by
    cases h with
    | lst hs ha =>
      cases r
      obtain ⟨its, rv, ⟨o, n, ho, hc, _, hd⟩, _⟩ := I.list hs
      obtain ⟨as, hr⟩ := Dp.readsAll I ds _ its ha rv
      exact ⟨_, Reads.list ho hc hd hr⟩
  | .tuple ds, _, _, h, r => by
    cases h with
    | tup hs ha =>
      cases r
      obtain ⟨its, rv, ⟨o, ho, hc, n, hd⟩, _⟩ := I.tuple hs
      obtain ⟨as, hr⟩ := Dp.readsAll I ds _ its ha rv
      exact ⟨_, Reads.tuple ho hc hd hr⟩
  | .dict _, _, _, h, _ => by cases h
theorem Dp.readsAll (I : Inv X pins σ H s) : ∀ (ds : List PyData) (vs : List V) (us : List Value), DpAll X.K H vs ds → Vals vs us → ∃ as, ReadsAll s.heap us ds as
  | [], _, _, h, r => by
    cases h
    cases r
    exact ⟨_, ReadsAll.nil⟩
  | d :: ds, _, _, h, r => by
    cases h with
    | cons h1 h2 =>
      cases r with
      | cons r1 r2 =>
        obtain ⟨as, q1⟩ := Dp.reads I d _ _ h1 r1
        obtain ⟨bs, q2⟩ := Dp.readsAll I ds _ _ h2 r2
        exact ⟨_, ReadsAll.cons q1 q2⟩
end
end
section
variable {X : Cx}
end
end L2

namespace L2
open PySem PySem.Spec PyProof.Rows
abbrev CellAt (h : Heap) (c : Addr) (v : Option Value) : Prop := h.IsCell c v
def relS (scope sc : Scope) : Scope :=
  { scope with names := scope.names.map fun (n, k) => if (k == .free && sc.kind == .function && sc.names.lookup n == some .cell) then (n, .cell) else (n, k) }

def cloFrom (cells : List (Str × Addr)) : List (Str × NameKind) → List (Str × Addr) → List (Str × Addr)
  | [], acc => acc
  | (n, k) :: r, acc => if k == .free then cloFrom cells r ((n, (cells.lookup n).getD 0) :: acc) else cloFrom cells r acc

theorem closure_loop (env : Env) (f : Str × NameKind → List (Str × Addr) → Sem (ForInStep (List (Str × Addr))))
    (hf : ∀ n k c, f (n, k) c = if k == .free then (do let a ← cellOf env n; pure (.yield ((n, a) :: c))) else pure (.yield c)) :
    ∀ (names : List (Str × NameKind)) (acc : List (Str × Addr)), (∀ y ∈ names, y.2 = .free → ∃ c, env.cells.lookup y.1 = some c) → forIn names acc f = pure (cloFrom env.cells names acc)
  | [], acc, _ => by rw [List.forIn_nil]; rfl
  | (n, k) :: r, acc, h => by
    rw [List.forIn_cons, hf]
    have ih := fun acc => closure_loop env f hf r acc fun y hy => h y (List.mem_cons_of_mem _ hy)
    unfold cloFrom
    by_cases hk : (k == NameKind.free) = true
    · rw [if_pos hk, if_pos hk]
      obtain ⟨c, hc⟩ := h (n, k) List.mem_cons_self (by simpa using hk)
      have e : cellOf env n = pure c := by unfold cellOf; rw [hc]
      rw [e]
      have e2 : (env.cells.lookup n).getD 0 = c := by rw [hc]; rfl
      rw [e2]
      exact ih _
    · rw [if_neg hk, if_neg hk]
      exact ih _
theorem closure_ok {scope : Scope} {env : Env} (h : ∀ y ∈ scope.names, y.2 = .free → ∃ c, env.cells.lookup y.1 = some c) : closureFor scope env = pure (cloFrom env.cells scope.names []) := by
  simp only [closureFor]
  rw [closure_loop env _ (fun n k c => rfl) scope.names [] h]
  rfl

theorem mem_lookup {α : Type} : ∀ {l : List (Str × α)} {n : Str} {c : α}, (n, c) ∈ l → ∃ c', l.lookup n = some c'
  | (k, v) :: r, n, c, h => by
    rw [List.lookup_cons]
    cases hb : n == k with
    | true => exact ⟨_, rfl⟩
    | false =>
      rcases List.mem_cons.mp h with e | h
      · cases e; simp at hb
      · exact mem_lookup h

theorem cloFrom_mem {cells : List (Str × Addr)} : ∀ {names : List (Str × NameKind)} {acc : List (Str × Addr)} {n : Str} {c : Addr}, (n, c) ∈ cloFrom cells names acc → (n, c) ∈ acc ∨ ((n, .free) ∈ names ∧ c = (cells.lookup n).getD 0)
  | [], _, _, _, h => .inl h
  | (m, k) :: r, acc, n, c, h => by
    unfold cloFrom at h
    split at h
    · rename_i hk
      have hk : k = .free := by simpa using hk
      rcases cloFrom_mem h with h | ⟨h1, h2⟩
      · rcases List.mem_cons.mp h with e | h
        · cases e; exact .inr ⟨hk ▸ List.mem_cons_self, rfl⟩
        · exact .inl h
      · exact .inr ⟨List.mem_cons_of_mem _ h1, h2⟩
    · rcases cloFrom_mem h with h | ⟨h1, h2⟩
      · exact .inl h
      · exact .inr ⟨List.mem_cons_of_mem _ h1, h2⟩
theorem cloFrom_acc {cells : List (Str × Addr)} : ∀ {names : List (Str × NameKind)} {acc : List (Str × Addr)} {p : Str × Addr}, p ∈ acc → p ∈ cloFrom cells names acc
  | [], _, _, h => h
  | (m, k) :: r, acc, p, h => by
    unfold cloFrom
    split
    · exact cloFrom_acc (List.mem_cons_of_mem _ h)
    · exact cloFrom_acc h
theorem cloFrom_has {cells : List (Str × Addr)} : ∀ {names : List (Str × NameKind)} {acc : List (Str × Addr)} {n : Str}, (n, .free) ∈ names → (n, (cells.lookup n).getD 0) ∈ cloFrom cells names acc
  | (m, k) :: r, acc, n, h => by
    unfold cloFrom
    rcases List.mem_cons.mp h with e | h
    · cases e
      exact cloFrom_acc List.mem_cons_self
    · split
      · exact cloFrom_has h
      · exact cloFrom_has h

theorem cells_mem : ∀ {names : List (Str × NameKind)} {h : Heap} {acc : List (Str × Addr)} {x : Str} {c : Addr}, (x, c) ∈ cellsFrom h.objs.size names acc →
    (x, c) ∈ acc ∨ ((x, .cell) ∈ names ∧ h.objs.size ≤ c ∧ CellAt (pushCells h names) c none)
  | [], _, _, _, _, h => .inl h
  | (n, k) :: r, h, acc, x, c, hm => by
    unfold cellsFrom at hm
    unfold pushCells
    split at hm
    · rename_i hk
      rw [if_pos hk]
      have hk : k = .cell := by simpa using hk
      rw [← Heap.size_push h { cls := .type "cell", data := .cell none }] at hm
      rcases cells_mem hm with hm | ⟨h1, h2, h3⟩
      · rcases List.mem_cons.mp hm with e | hm
        · cases e
          exact .inr ⟨hk ▸ List.mem_cons_self, Nat.le_refl _, _, pushCells_keeps r _ _ _ (Heap.get?_push_size _ rfl), rfl⟩
        · exact .inl hm
      · rw [Heap.size_push] at h2
        exact .inr ⟨List.mem_cons_of_mem _ h1, Nat.le_of_succ_le h2, h3⟩
    · rename_i hk
      rw [if_neg hk]
      rcases cells_mem hm with hm | ⟨h1, h2, h3⟩
      · exact .inl hm
      · exact .inr ⟨List.mem_cons_of_mem _ h1, h2, h3⟩
theorem cells_acc : ∀ {names : List (Str × NameKind)} {n : Nat} {acc : List (Str × Addr)} {p : Str × Addr}, p ∈ acc → p ∈ cellsFrom n names acc
  | [], _, _, _, h => h
  | (m, k) :: r, n, acc, p, h => by
    unfold cellsFrom
    split
    · exact cells_acc (List.mem_cons_of_mem _ h)
    · exact cells_acc h
theorem cells_has : ∀ {names : List (Str × NameKind)} {n : Nat} {acc : List (Str × Addr)} {x : Str}, (x, .cell) ∈ names → ∃ c, (x, c) ∈ cellsFrom n names acc
  | (m, k) :: r, n, acc, x, h => by
    unfold cellsFrom
    rcases List.mem_cons.mp h with e | h
    · cases e
      exact ⟨n, cells_acc List.mem_cons_self⟩
    · split
      · exact cells_has h
      · exact cells_has h
theorem cells_inj : ∀ {names : List (Str × NameKind)} {h : Heap} {acc : List (Str × Addr)} {x y : Str} {c : Addr}, (∀ p ∈ acc, p.2 < h.objs.size) → (∀ x y c, (x, c) ∈ acc → (y, c) ∈ acc → x = y) →
    (x, c) ∈ cellsFrom h.objs.size names acc → (y, c) ∈ cellsFrom h.objs.size names acc → x = y
  | [], _, _, _, _, _, _, hi, h1, h2 => hi _ _ _ h1 h2
  | (n, k) :: r, h, acc, x, y, c, hl, hi, h1, h2 => by
    unfold cellsFrom at h1 h2
    split at h1
    · rename_i hk
      rw [if_pos hk] at h2
      rw [← Heap.size_push h { cls := .type "cell", data := .cell none }] at h1 h2
      refine cells_inj (h := h.push _) (fun p hp => ?_) (fun x y c a b => ?_) h1 h2
      · rw [Heap.size_push]
        rcases List.mem_cons.mp hp with rfl | hp
        · exact Nat.lt_succ_self _
        · exact Nat.lt_succ_of_lt (hl p hp)
      · rcases List.mem_cons.mp a with e | a <;> rcases List.mem_cons.mp b with e' | b
        · cases e; cases e'; rfl
        · cases e; exact absurd (hl _ b) (Nat.lt_irrefl _)
        · cases e'; exact absurd (hl _ a) (Nat.lt_irrefl _)
        · exact hi _ _ _ a b
    · rename_i hk
      rw [if_neg hk] at h2
      exact cells_inj hl hi h1 h2

theorem newEnv_comp {M : Model} {A : Around} {E : Value → Shared → Prop} {s : Shared} {scope : Scope} {globals : Addr} {closure : List (Str × Addr)} {qual : Str} {func : Option Addr} {code : Value} {around : Env} {builtins : Addr} {Q : Env → Shared → Prop}
    (h : Q (newEnv scope s.heap.objs.size globals (cellsFrom (s.heap.objs.size + 1) scope.names closure) qual func code (some around) builtins)
      { s with heap := pushCells (s.heap.push { cls := .type "dict", data := .dict #[] }) scope.names }) :
    wpAny M A (newFunctionEnv scope globals closure [] qual func code (some around) builtins) Q E s := by
  simp only [newFunctionEnv, Option.isSome_some, if_true]
  refine wpAny_bind (wpAny_alloc ?_)
  refine wpAny_bind (wpAny_layCells _ (fun n k c => rfl) scope.names closure _ _ ?_)
  rw [show ({ s with heap := s.heap.push { cls := .type "dict", data := .dict #[] } } : Shared).heap.objs.size = s.heap.objs.size + 1 from Heap.size_push ..]
  rw [List.forIn_nil]
  exact wpAny_bind (wpAny_pure (wpAny_pure h))

/-- every name of the written scope, in the scope that runs -/
theorem lookup_relS {sc : Scope} : ∀ {names : List (Str × NameKind)} {x : Str} {k : NameKind},
    (names.map fun (n, k) => if (k == NameKind.free && sc.kind == .function && sc.names.lookup n == some .cell) then (n, NameKind.cell) else (n, k)).lookup x = some k →
    ∃ k', names.lookup x = some k' ∧ (k = k' ∨ (k' = .free ∧ k = .cell))
  | [], _, _, h => by simp at h
  | (n, k₀) :: r, x, k, h => by
    have ih := @lookup_relS sc r x k
    have h' : List.lookup x ((if (k₀ == NameKind.free && sc.kind == .function && sc.names.lookup n == some .cell) = true then (n, NameKind.cell) else (n, k₀)) :: (r.map _)) = some k := h
    cases hx : x == n with
    | true =>
      simp only [List.lookup_cons, hx]
      by_cases hc : (k₀ == NameKind.free && sc.kind == .function && sc.names.lookup n == some .cell) = true
      · rw [if_pos hc] at h'
        simp only [List.lookup_cons, hx] at h'
        cases h'
        simp only [Bool.and_eq_true, beq_iff_eq] at hc
        exact ⟨k₀, rfl, .inr ⟨hc.1.1, rfl⟩⟩
      · rw [if_neg hc] at h'
        simp only [List.lookup_cons, hx] at h'
        cases h'
        exact ⟨_, rfl, .inl rfl⟩
    | false =>
      simp only [List.lookup_cons, hx]
      by_cases hc : (k₀ == NameKind.free && sc.kind == .function && sc.names.lookup n == some .cell) = true
      · rw [if_pos hc] at h'
        simp only [List.lookup_cons, hx] at h'
        exact ih h'
      · rw [if_neg hc] at h'
        simp only [List.lookup_cons, hx] at h'
        exact ih h'
/-- the names of a comprehension's block: its own (with their places in N), or captured -/
structure BlkOk (N : List Str) (sc scope : Scope) (own : List (Str × Nat)) : Prop where
  kind : scope.kind = .function
  uniq : ∀ y ∈ scope.names, scope.names.lookup y.1 = some y.2
  ix : ∀ p ∈ own, N[p.2]? = some p.1
  free : ∀ y ∈ scope.names, y.2 = .free → sc.names.lookup y.1 = some .cell ∨ sc.names.lookup y.1 = some .free
  own : ∀ y ∈ scope.names, y.2 = .local ∨ y.2 = .cell → y.1 ∈ own.map (·.1) ∨ y.1 ∉ N
/-- the slots of the block's own names forgotten -/
def wipe (σ : St) : List Nat → St
  | [] => σ
  | v :: vs => (wipe σ vs).set v none
theorem wipe_length (σ : St) : ∀ vs : List Nat, (wipe σ vs).length = σ.length
  | [] => rfl
  | v :: vs => by unfold wipe; rw [List.length_set, wipe_length σ vs]
theorem wipe_some {σ : St} {i : Nat} {x : V} : ∀ {vs : List Nat}, (wipe σ vs)[i]? = some (some x) → σ[i]? = some (some x) ∧ i ∉ vs
  | [], h => ⟨h, by simp⟩
  | v :: vs, h => by
    unfold wipe at h
    by_cases hi : v = i
    · subst hi
      by_cases hv : v < (wipe σ vs).length
      · rw [List.getElem?_set_self hv] at h; cases h
      · rw [List.getElem?_eq_none (by simpa using hv)] at h; cases h
    · rw [List.getElem?_set_ne hi] at h
      obtain ⟨h1, h2⟩ := wipe_some h
      exact ⟨h1, by simp only [List.mem_cons, not_or]; exact ⟨fun e => hi e.symm, h2⟩⟩

/-- the context of a block that starts at s, its iterator's objects at fp -/
abbrev Cx.blk (X : Cx) (s : Shared) (H : Hp) (scope : Scope) (cenv : Env) (fp : List Addr) : Cx := { X with s_0 := s, H_0 := H, env := cenv, outer := X.stack, ex := fp, fn := fun x => scope.names.lookup x == some .cell, pn := [], xe := fun _ _ => False }
section
variable {X : Cx} {pins : List (Addr × Obj)} {σ : St} {H : Hp} {s : Shared}
theorem block_start {scope : Scope} {own : List (Str × Nat)} {fp : List Addr} (I : Inv X pins σ H s) (ok : BlkOk X.N X.env.scope scope own) (hN : X.N.Nodup) (hfp : ∀ b ∈ fp, FpOk X pins H b ∧ b < s.heap.objs.size) :
    Inv (X.blk s H scope (compEnvC scope (cellsFrom (s.heap.objs.size + 1) scope.names (cloFrom X.env.cells scope.names [])) s.heap.objs.size X.env) fp) [] (wipe σ (own.map (·.2))) H { s with heap := pushCells (s.heap.push { cls := .type "dict", data := .dict #[] }) scope.names } := by
  have hfree : ∀ y ∈ scope.names, y.2 = .free → ∃ c, X.env.cells.lookup y.1 = some c := fun y hy e => by
    rcases ok.free y hy e with k | k
    · exact I.ok.has _ (.inl k)
    · exact I.ok.has _ (.inr k)
  generalize hcenv : compEnvC scope (cellsFrom (s.heap.objs.size + 1) scope.names (cloFrom X.env.cells scope.names [])) s.heap.objs.size X.env = cenv
  have kp : ∀ b o, s.heap.get? b = some o → (pushCells (s.heap.push { cls := .type "dict", data := .dict #[] }) scope.names).get? b = some o := fun b o e => pushCells_keeps _ _ _ _ (Heap.get?_push_of_some _ e)
  have hL : cenv.locals = s.heap.objs.size := by rw [← hcenv]; rfl
  have hcl : cenv.cells = cellsFrom (s.heap.objs.size + 1) scope.names (cloFrom X.env.cells scope.names []) := by rw [← hcenv]; rfl
  have hsc : cenv.scope = relS scope X.env.scope := by rw [← hcenv]; rfl
  rw [← Heap.size_push s.heap { cls := .type "dict", data := .dict #[] }] at hcl
  have cm : ∀ {y c}, (y, c) ∈ cloFrom X.env.cells scope.names [] → X.env.cells.lookup y = some c ∧ c < s.heap.objs.size := fun {y c} hm => by
    rcases cloFrom_mem hm with hm | ⟨h1, rfl⟩
    · cases hm
    · obtain ⟨c, hc⟩ := hfree _ h1 rfl
      rw [hc]
      obtain ⟨w, z⟩ := I.cell _ _ hc
      exact ⟨rfl, z.lt⟩
  have mem : ∀ {y c}, cenv.cells.lookup y = some c → (X.env.cells.lookup y = some c ∧ c < s.heap.objs.size) ∨ (s.heap.objs.size + 1 ≤ c ∧ CellAt (pushCells (s.heap.push { cls := .type "dict", data := .dict #[] }) scope.names) c none) := fun {y c} e => by
    rw [hcl] at e
    rcases cells_mem (PySem.mem_of_lookup e) with hm | ⟨_, h2, h3⟩
    · exact .inl (cm hm)
    · rw [Heap.size_push] at h2; exact .inr ⟨h2, h3⟩
  have look : ∀ {y}, scope.names.lookup y = some .free → ∃ c, cenv.cells.lookup y = some c ∧ X.env.cells.lookup y = some c := fun {y} hl => by
    have hy : (y, NameKind.free) ∈ scope.names := PySem.mem_of_lookup hl
    obtain ⟨c', e'⟩ := mem_lookup (cells_acc (names := scope.names) (n := (s.heap.push { cls := .type "dict", data := .dict #[] }).objs.size) (cloFrom_has (cells := X.env.cells) (acc := []) hy))
    rw [← hcl] at e'
    refine ⟨c', e', ?_⟩
    rw [hcl] at e'
    rcases cells_mem (PySem.mem_of_lookup e') with hm | ⟨h1, _, _⟩
    · exact (cm hm).1
    · have := ok.uniq _ h1
      rw [hl] at this; cases this
  have okB : (X.blk s H scope cenv fp).Ok := by
    refine ⟨I.ok.mod, by show cenv.scope.kind = _; rw [hsc]; exact ok.kind, by show cenv.globals = _; rw [← hcenv]; exact I.ok.glob, by show cenv.builtins = _; rw [← hcenv]; exact I.ok.blt, by show s.heap.objs.size ≤ cenv.locals; rw [hL]; exact Nat.le_refl _,
      fun y z c e1 e2 => ?_, fun y hy => ?_, fun y c z e => ?_, I.ok.hd, I.ok.frames, .inl rfl, fun b hb => ⟨?_, fun y c e z => ?_⟩, I.bs, Nat.le_trans I.ok.bsz I.sz, fun b o e hb => ?_, fun b hb z => ?_, I.stack, I.stkFree⟩
    · have e1 : cenv.cells.lookup y = some c := e1
      have e2 : cenv.cells.lookup z = some c := e2
      rw [hcl] at e1 e2
      refine cells_inj (fun p hp => ?_) (fun y z c a b => I.ok.inj y z c (cm a).1 (cm b).1) (PySem.mem_of_lookup e1) (PySem.mem_of_lookup e2)
      rw [Heap.size_push]
      exact Nat.lt_succ_of_lt (cm (y := p.1) (c := p.2) hp).2
    · show ∃ c, cenv.cells.lookup y = some c
      have key : ∀ k, cenv.kindOf y = some k → (k = .cell ∨ k = .free) → ∃ c, cenv.cells.lookup y = some c := fun k hk hk' => by
        unfold Env.kindOf at hk
        rw [hsc] at hk
        obtain ⟨k', e, r⟩ := lookup_relS hk
        have : k' = .cell ∨ k' = .free := by
          rcases r with rfl | ⟨rfl, _⟩
          · exact hk'
          · exact .inr rfl
        rcases this with rfl | rfl
        · obtain ⟨c, hm⟩ := cells_has (n := (s.heap.push { cls := .type "dict", data := .dict #[] }).objs.size) (acc := cloFrom X.env.cells scope.names []) (PySem.mem_of_lookup e)
          obtain ⟨c', e'⟩ := mem_lookup hm
          exact ⟨c', by rw [hcl]; exact e'⟩
        · obtain ⟨c, h1, _⟩ := look e
          exact ⟨c, h1⟩
      rcases hy with hy | hy
      · exact key _ hy (.inl rfl)
      · exact key _ hy (.inr rfl)
    · have z : (scope.names.lookup y == some NameKind.cell) = true := z
      have z : scope.names.lookup y = some .cell := by simpa using z
      have e : cenv.cells.lookup y = some c := e
      rw [hcl] at e
      rcases cells_mem (PySem.mem_of_lookup e) with hm | ⟨_, h2, _⟩
      · rcases cloFrom_mem hm with hm | ⟨h1, _⟩
        · cases hm
        · have q := ok.uniq _ h1
          rw [z] at q; cases q
      · rw [Heap.size_push] at h2
        exact Nat.le_of_succ_le h2
    · show b ≠ cenv.locals
      rw [hL]; exact Nat.ne_of_lt (hfp b hb).2
    · have e : cenv.cells.lookup y = some c := e
      rcases mem e with ⟨h1, _⟩ | ⟨h1, _⟩
      · exact (hfp b hb).1.2.2.2.2.1 y c h1 z
      · have h2 : s.heap.objs.size + 1 ≤ b := by rw [← z]; exact h1
        exact absurd (Nat.lt_of_lt_of_le (hfp b hb).2 (Nat.le_of_succ_le h2)) (Nat.lt_irrefl _)
    · rcases (hfp b hb).1.2.2.2.1 with z | z
      · exact I.ok.noex b o e z
      · exact absurd (Nat.lt_of_lt_of_le (Heap.lt_size e) (Nat.le_trans I.ok.bsz z)) (Nat.lt_irrefl _)
    · rcases List.mem_cons.mp (I.stkSub b z) with z | z
      · exact (hfp b hb).1.2.1 z
      · exact (hfp b hb).1.2.2.1 z
  refine ⟨okB, rfl, I.bare, Un.kept kp, ⟨fun _ => none, ?_, fun i y av e1 e2 e3 => ?_⟩, fun y c e => ?_, ?_, fun y c e => ?_, fun p hp => ?_, I.hok.kept kp, by rw [wipe_length]; exact I.len⟩
  · show Heap.Ns _ cenv.locals _
    rw [hL]
    exact Heap.Ns.keeps (Heap.Ns.new ..) fun b o e => pushCells_keeps _ _ _ _ e
  · obtain ⟨e2, hne⟩ := wipe_some e2
    have hfr : scope.names.lookup y = some .free ∧ (cenv.kindOf y = some .cell ∨ cenv.kindOf y = some .free) := by
      have key : ∀ k, cenv.scope.names.lookup y = some k → k = .local ∨ k = .cell ∨ k = .free → scope.names.lookup y = some .free ∧ (cenv.kindOf y = some .cell ∨ cenv.kindOf y = some .free) := fun k hk hk' => by
        have hk0 := hk
        rw [hsc] at hk
        obtain ⟨k', e, r⟩ := lookup_relS hk
        have no : ¬ (k' = .local ∨ k' = .cell) := fun hh => by
          rcases ok.own _ (PySem.mem_of_lookup e) hh with e' | e'
          · obtain ⟨p, hp, hpy⟩ := List.mem_map.mp e'
            have e3 := ok.ix p hp
            have : p.1 = y := hpy
            rw [this] at e3
            exact hne (List.mem_map.mpr ⟨p, hp, nodup_ix hN e3 e1⟩)
          · exact e' (List.mem_of_getElem? e1)
        rcases r with rfl | ⟨rfl, rfl⟩
        · rcases hk' with rfl | rfl | rfl
          · exact absurd (.inl rfl) no
          · exact absurd (.inr rfl) no
          · exact ⟨e, .inr hk0⟩
        · exact ⟨e, .inl hk0⟩
      have e3 : Vis cenv.scope y := e3
      rcases e3 with e3 | e3 | e3
      · exact key _ e3 (.inl rfl)
      · exact key _ e3 (.inr (.inl rfl))
      · exact key _ e3 (.inr (.inr rfl))
    obtain ⟨m, hn, hl⟩ := I.loc
    have hvis : Vis X.env.scope y := (ok.free _ (PySem.mem_of_lookup hfr.1) rfl).elim (fun k => .inr (.inl k)) (fun k => .inr (.inr k))
    obtain ⟨w, r, q⟩ := hl i y av e1 e2 hvis
    refine ⟨w, r, .inr ⟨hfr.2, ?_⟩⟩
    obtain ⟨c, h1, h2⟩ := look hfr.1
    rcases q with ⟨k, _⟩ | ⟨_, c', e', z⟩
    · have k : X.env.scope.names.lookup y = some .local := k
      rcases ok.free _ (PySem.mem_of_lookup hfr.1) rfl with k' | k' <;> rw [show X.env.scope.names.lookup y = _ from k'] at k <;> cases k
    · rw [h2] at e'; cases e'
      exact ⟨c, h1, z.keeps kp⟩
  · have e : cenv.cells.lookup y = some c := e
    rcases mem e with ⟨h1, _⟩ | ⟨_, z⟩
    · obtain ⟨w, z⟩ := I.cell y c h1
      exact ⟨w, z.keeps kp⟩
    · exact ⟨_, z⟩
  · show H cenv.locals = none
    rw [hL]; exact I.hok.fresh (Nat.le_refl _)
  · have e : cenv.cells.lookup y = some c := e
    rcases mem e with ⟨h1, _⟩ | ⟨h1, _⟩
    · exact I.freeC y c h1
    · exact I.hok.fresh (Nat.le_of_succ_le h1)
  · exact absurd (show p ∈ ([] : List (Addr × Obj)) ++ [] from hp) (by simp)

/-- an item appended to a tracked list -/
theorem app_ok {E : Value → Shared → Prop} {D : Addr} {xs : List V} {y : V} {v : Value} {Q : Value → Shared → Prop} (I : Inv X pins σ H s) (hD : H D = some (.lst xs)) (hz : xs.length < sizeLine) (r : RelV y v)
    (h : ∀ s', Inv X pins σ (upd H D (.lst (xs ++ [y]))) s' → Q .none s') : wpAny (model X.prog X.w) X.A (call (.builtin "list.append") [.ref D, v]) Q E s := by
  obtain ⟨hz', its, n, ri, e⟩ := I.hok D _ hD
  have hl := ri.length
  refine append_at (hsz := by rw [List.size_toArray]; omega) e fun h' sb ho' => ?_
  refine h { s with heap := h' } (I.write (t' := s.toks) (by rw [hD]; trivial) (.inl rfl) (fun b u hb q => (sb.2 b hb).trans q) ⟨_, ho'⟩ ⟨by rw [List.length_append]; exact hz, its ++ [v], n + 1, ri.append (.cons r .nil), ?_⟩)
  rw [ho']
  simp

/-- a clause's tests -/
def PTs (X : Cx) (ifs : List Expr) (t : TT) : Prop :=
  ∀ (pins : List (Addr × Obj)) (s : Shared) (σ : St) (H : Hp) (Q : Bool → Hp → Prop), Inv X pins σ H s → t σ H Q →
    wpAny (model X.prog X.w) X.A (forIn ifs true fun c r => if r = true then do let ok ← isTrue c X.env (eval c X.env); pure (ForInStep.yield ok) else pure (ForInStep.yield r)) (TP X pins σ Q) X.xe s
def tYes : TT := fun _ H Q => Q true H
theorem pts_nil : PTs X [] tYes := fun _ _ _ H _ I h => wpAny_tests_nil ⟨H, I, h⟩
theorem pts_one {c : Expr} {t : TT} (h : PT X c t) : PTs X [c] t := fun pins s σ H Q I hw => wpAny_tests_one (h pins s σ H Q I hw)
end

theorem thnF {α : Type} {t : Sem α} {Q Q' : α → Shared → Prop} {M : Model} {A : Around} {E : Value → Shared → Prop} {s : Shared} (h : wpAny M A t Q (fun _ _ => False) s) (hQ : ∀ a s, Q a s → Q' a s) : wpAny M A t Q' E s := wpAny_mono h hQ fun _ _ z => False.elim z

/-- the loop of a list comprehension's block, the target of any form (codeAny_compLoop_tests asks a target that no tuple goes to; statement and proof follow it, PyProof/CompMap.lean:41-61, with the step letOwnedTupleGo kept) -/
theorem compLoop_any {prog : Program} {w : World} {A : Around} {R : Result → Shared → Prop} {s : Shared} {elt target iter : Expr} {ifs : List Expr} {scope : Scope} {pos : Pos} {it acc : Value} {env : Env} (I : Nat → Shared → Prop)
    (turn : ∀ n s, I n s → wpAny (model prog w) A (pyNext it) (fun r s₁ => match r with
      | none => R (.ok .next) s₁
      | some v => wpAny (model prog w) A (letOwnedTupleGo target it v) (fun _ s₁' => wpAny (model prog w) A (assign target env v) (fun _ s₂ =>
          wpAny (model prog w) A (forIn ifs true fun c r => if r = true then do let ok ← isTrue c env (eval c env); pure (ForInStep.yield ok) else pure (ForInStep.yield r)) (fun ok s₃ =>
            if ok = true then wpAny (model prog w) A (eval elt env) (fun x s₄ =>
              wpAny (model prog w) A (call (.builtin "list.append") [acc, x]) (fun _ s₅ => ∃ m, m < n ∧ I m s₅) (notedBy (model prog w) A env fun e s' => R (.error e) s') s₄) (notedBy (model prog w) A env fun e s' => R (.error e) s') s₃
            else ∃ m, m < n ∧ I m s₃) (notedBy (model prog w) A env fun e s' => R (.error e) s') s₂) (notedBy (model prog w) A env fun e s' => R (.error e) s') s₁') (notedBy (model prog w) A env fun e s' => R (.error e) s') s₁) (notedBy (model prog w) A env fun e s' => R (.error e) s') s)
    (n : Nat) (h : I n s) :
    codeAny (model prog w) A (.compLoop (.ListComp elt [⟨target, iter, ifs, 0⟩] scope pos) 0 it acc env) R s := by
  refine codeAny_loop rfl I (fun n s hI => ?_) n h
  show wpAny _ A ((compTurn (.ListComp elt [⟨target, iter, ifs, 0⟩] scope pos) 0 it acc env).onRaise (fun x => do noteFrame x env; theTreesLotGoes x)) _ _ s
  refine wpAny_noted ?_
  rw [compTurn_list]
  refine wpAny_bind (wpAny_standAt (wpAny_bind (wpAny_mono (turn n s hI) (fun r s₁ h₁ => ?_) fun _ _ h' => h')))
  cases r with
  | none => exact wpAny_pure h₁
  | some v =>
    refine wpAny_bind (wpAny_mono h₁ (fun _ s₁' h₁' => ?_) fun _ _ h' => h')
    refine wpAny_bind (wpAny_mono h₁' (fun _ s₂ h₂ => wpAny_bind (wpAny_mono h₂ (fun ok s₃ h₃ => ?_) fun _ _ h' => h')) fun _ _ h' => h')
    cases ok with
    | false => exact wpAny_pure ⟨rfl, h₃⟩
    | true =>
      exact wpAny_bind (wpAny_bind (wpAny_mono h₃ (fun x s₄ h₄ => wpAny_bind (wpAny_mono h₄ (fun _ s₅ h₅ => wpAny_pure (wpAny_pure ⟨rfl, h₅⟩)) fun _ _ h' => h')) fun _ _ h' => h'))

section
variable {X : Cx}
/-- [elt for target in iter if ..]: D the new list; W by the turn and a measure, Nx what a turn is to reach -/
def tLc (wi : TI) (g : TG) (tt : TT) (te : TE) (vs : List Nat) : TE := fun σ H Q => wi σ H fun J H1 => ∀ D, H1 D = none → ∃ W : Nat → Nat → Hp → Prop, (∃ m, W 0 m (upd H1 D (.lst []))) ∧ ∀ i m H, W i m H →
  (J.stop i H ∧ Q (.ref D) H) ∨ (J.go i H ∧ ∃ Nx : Hp → Prop, (∀ H', Nx H' → ∃ m', m' < m ∧ W (i + 1) m' H') ∧ ∀ x H', J.yld i H x H' → g x (wipe σ vs) H' fun σ2 H2 => wipe σ2 vs = wipe σ vs ∧ tt σ2 H2 fun b H3 =>
    if b = true then te σ2 H3 fun y H4 => ∃ acc, H4 D = some (.lst acc) ∧ acc.length < sizeLine ∧ Nx (upd H4 D (.lst (acc ++ [y]))) else Nx H3)
theorem lc_core {pins : List (Addr × Obj)} {s : Shared} {σ : St} {H : Hp} {Q : VK} {elt tg iter : Expr} {ifs : List Expr} {scope : Scope} {own : List (Str × Nat)} {pos pos' : Pos} {wi : TI} {g : TG} {tt : TT} {te : TE} {use : Option (Value → Sem Unit)} {Qf : Value → Shared → Prop}
    (hc : X.calm = true) (hN : X.N.Nodup) (I : Inv X pins σ H s) (hi : PI X tg iter wi) (ok : BlkOk X.N X.env.scope scope own)
    (hg : ∀ (s : Shared) (H : Hp) (C : Addr) (cl : List (Str × Addr)) (fp : List Addr), PG (X.blk s H scope (compEnvC scope cl C X.env) fp) tg g) (ht : ∀ (s : Shared) (H : Hp) (C : Addr) (cl : List (Str × Addr)) (fp : List Addr), PTs (X.blk s H scope (compEnvC scope cl C X.env) fp) ifs tt)
    (he : ∀ (s : Shared) (H : Hp) (C : Addr) (cl : List (Str × Addr)) (fp : List Addr), PE (X.blk s H scope (compEnvC scope cl C X.env) fp) elt te) (hs : ∀ x, foldedSetIterable iter X.env x = pure x)
    (h : tLc wi g tt te (own.map (·.2)) σ H Q)
    (hRR : ∀ D C s' m H', Inv X pins σ H' s' → Q (.ref D) H' → s'.heap.Ns C m → FpOk X pins H' C → compPost (model X.prog X.w) X.A X.xe use Qf (.ref D) C (.ok .next) s') :
    wpAny (model X.prog X.w) X.A (comprehension (.ListComp elt [⟨tg, iter, ifs, 0⟩] scope pos) scope X.env pos' (newList []) false (eval iter X.env) use) Qf X.xe s := by
  have hfree : ∀ y ∈ scope.names, y.2 = .free → ∃ c, X.env.cells.lookup y.1 = some c := fun y hy e => by
    rcases ok.free y hy e with k | k
    · exact I.ok.has _ (.inl k)
    · exact I.ok.has _ (.inr k)
  refine wpAny_comprehension_free (use := use) rfl hs (closure_ok hfree) ok.kind (fun y hy e => by rw [ok.uniq y hy, e])
    (thn (hi pins s σ H _ I h) fun xv s1 hx => thn hx fun itv s2 h2 => ?_)
  obtain ⟨it, fp, tn, J, H2, e, I2, T, st2, f2, q⟩ := h2
  subst e
  refine wpAny_newObj_type (newEnv_comp ?_) (by show 0 ≤ sizeLine; decide)
  generalize hD : s2.heap.objs.size = D
  have hDn : H2 D = none := I2.hok.fresh (Nat.le_of_eq hD)
  obtain ⟨W, ⟨m0, w0⟩, turn⟩ := q D hDn
  -- the new list
  generalize hs3 : ({ s2 with heap := s2.heap.push { cls := .type "list", data := .seq ([] : List Value).toArray } } : Shared) = s3
  have I3 : Inv X pins σ (upd H2 D (.lst [])) s3 := by
    rw [← hs3]
    refine I2.laid (t' := s2.toks) (fun b o e => Heap.get?_push_of_some _ e) (Nat.le_of_eq hD) ⟨Nat.zero_le _, [], 0, .nil, ?_⟩
    rw [← hD]
    exact Heap.get?_push_size _ rfl
  have h3 : s3.heap = s2.heap.push { cls := .type "list", data := .seq ([] : List Value).toArray } := by rw [← hs3]
  have sz : ∀ b ∈ fp, b < s2.heap.objs.size := fun b hb => by
    obtain ⟨o, e, _⟩ := T.obj _ _ st2 b hb
    exact Heap.lt_size e
  have f3 : ∀ b ∈ fp, FpOk X pins (upd H2 D (.lst [])) b ∧ b < s3.heap.objs.size := fun b hb => by
    have hlt := sz b hb
    refine ⟨⟨?_, (f2 b hb).2⟩, by rw [h3, Heap.size_push]; exact Nat.lt_succ_of_lt hlt⟩
    rw [upd_ne (by rw [← hD]; exact Nat.ne_of_lt hlt)]
    exact (f2 b hb).1
  have st3 : tn 0 s3.heap := T.keep _ _ _ st2 fun b _ o e => by rw [h3]; exact Heap.get?_push_of_some _ e
  have I4 := block_start I3 ok hN f3
  have pg := hg s3 (upd H2 D (.lst [])) s3.heap.objs.size (cellsFrom (s3.heap.objs.size + 1) scope.names (cloFrom X.env.cells scope.names [])) fp
  have pt := ht s3 (upd H2 D (.lst [])) s3.heap.objs.size (cellsFrom (s3.heap.objs.size + 1) scope.names (cloFrom X.env.cells scope.names [])) fp
  have pe := he s3 (upd H2 D (.lst [])) s3.heap.objs.size (cellsFrom (s3.heap.objs.size + 1) scope.names (cloFrom X.env.cells scope.names [])) fp
  show codeAny _ _ (.compStart (.ListComp elt [⟨tg, iter, ifs, 0⟩] scope pos) 0 (.ref it) (.ref D) (compEnvC scope (cellsFrom (s3.heap.objs.size + 1) scope.names (cloFrom X.env.cells scope.names [])) s3.heap.objs.size X.env)) (compPost (model X.prog X.w) X.A X.xe use Qf (.ref D) s3.heap.objs.size) { s3 with heap := pushCells (s3.heap.push { cls := .type "dict", data := .dict #[] }) scope.names }
  have nfp : ∀ b ∈ fp, (upd H2 D (.lst [])) b = none := fun b hb => (f3 b hb).1.1
  generalize hce : compEnvC scope (cellsFrom (s3.heap.objs.size + 1) scope.names (cloFrom X.env.cells scope.names [])) s3.heap.objs.size X.env = ce at I4 pg pt pe ⊢
  have cL : ce.locals = s3.heap.objs.size := by subst hce; rfl
  generalize hH3 : upd H2 D (.lst []) = H3 at I3 I4 pg pt pe w0 nfp f3
  generalize hs4 : ({ s3 with heap := pushCells (s3.heap.push { cls := .type "dict", data := .dict #[] }) scope.names } : Shared) = s4 at I4 ⊢
  have st4 : tn 0 s4.heap := T.keep _ _ _ st3 fun b _ o e => by rw [← hs4]; exact pushCells_keeps _ _ _ _ (Heap.get?_push_of_some _ e)
  have stat : ∀ {σ' : St} {H' : Hp} {s' : Shared}, Inv (X.blk s3 H3 scope ce fp) [] σ' H' s' → (∀ b ∈ fp, H' b = none) → ∀ b ∈ fp, FpOk (X.blk s3 H3 scope ce fp) [] H' b := fun {σ' H' s'} I' hn b hb =>
    ⟨hn b hb, (I'.ok.exf b hb).1, I'.ok.exfs b hb, .inl hb, fun x c e => (I'.ok.exf b hb).2 x c e, fun p hp => absurd (show p ∈ ([] : List (Addr × Obj)) ++ [] from hp) (by simp)⟩
  have loop : codeAny (model X.prog X.w) X.A (.compLoop (.ListComp elt [⟨tg, iter, ifs, 0⟩] scope pos) 0 (.ref it) (.ref D) ce) (compPost (model X.prog X.w) X.A X.xe use Qf (.ref D) s3.heap.objs.size) s4 := by
    refine compLoop_any (fun n s' => ∃ i H', Inv (X.blk s3 H3 scope ce fp) [] (wipe σ (own.map (·.2))) H' s' ∧ tn i s'.heap ∧ (∀ b ∈ fp, H' b = none) ∧ W i n H') ?_ m0 ⟨0, H3, I4, st4, nfp, w0⟩
    rintro n s5 ⟨i, H5, I5, st5, n5, w5⟩
    rcases turn i n H5 w5 with ⟨stop, qq⟩ | ⟨go, Nx, hNx, step⟩
    · have td := T.done (X.blk s3 H3 scope ce fp) rfl rfl rfl hc i [] s5 _ H5 (fun _ _ => False) I5 (stat I5 n5) st5 stop
      refine thnF td fun r s6 ⟨hr, I6⟩ => ?_
      subst hr
      -- back in the def's context
      have I7 : Inv X pins σ H5 s6 := I3.call' (ch := fp) I6.os I6.base I6.hok I6.bare fun b hb => ⟨(f3 b hb).1.2.2.2.1, (f3 b hb).1.2.1, (f3 b hb).1.2.2.2.2.1, (f3 b hb).1.2.2.2.2.2⟩
      have nC : H5 s3.heap.objs.size = none := by
        have z : H5 ce.locals = none := I6.free
        rw [cL] at z
        exact z
      obtain ⟨m, hn, _⟩ := I6.loc
      have hn : s6.heap.Ns ce.locals m := hn
      rw [cL] at hn
      exact hRR D s3.heap.objs.size s6 m H5 I7 qq hn (I3.fpOk (Nat.le_refl _) nC)
    · have ti := T.item (X.blk s3 H3 scope ce fp) rfl rfl rfl hc i [] s5 _ H5 (fun _ _ => False) I5 (stat I5 n5) st5 go
      refine thnF ti fun r s6 ⟨u, hr, h6⟩ => ?_
      subst hr
      refine thnF h6 fun _ s7 ⟨x, H7, I7, r7, y7, st7, n7⟩ => ?_
      have I7' := I7.pinned (stat I7 n7) (T.obj _ _ st7)
      refine thnF (pg _ s7 _ H7 x u _ I7' r7 (step x H7 y7)) fun _ s8 ⟨σ8, H8, I8, hw8, q8⟩ => ?_
      refine thnF (pt _ s8 σ8 H8 _ I8 q8) fun b s9 ⟨H9, I9, q9⟩ => ?_
      -- the turn's end
      have fin : ∀ {s' : Shared} {H' : Hp}, Inv (X.blk s3 H3 scope ce fp) ([] ++ pinsAt fp s7.heap) σ8 H' s' → Nx H' → ∃ m, m < n ∧ ∃ i H', Inv (X.blk s3 H3 scope ce fp) [] (wipe σ (own.map (·.2))) H' s' ∧ tn i s'.heap ∧ (∀ b ∈ fp, H' b = none) ∧ W i m H' := fun {s' H'} I' nx => by
        obtain ⟨m', hm, w'⟩ := hNx H' nx
        have pin' : ∀ b ∈ fp, ∀ o, s7.heap.get? b = some o → s'.heap.get? b = some o ∧ H' b = none := fun b hb o e =>
          let z := I'.pin (b, o) (List.mem_append_right _ (List.mem_append_right _ (mem_pinsAt hb e)))
          ⟨z.1, z.2.1⟩
        have hl : (wipe σ (own.map (·.2))).length = σ8.length := by rw [← hw8, wipe_length]
        refine ⟨m', hm, i + 1, H', (I'.unpinned (pins := [])).weak hl (fun j v e => ?_), T.keep _ _ _ st7 fun b hb o e => (pin' b hb o e).1, fun b hb => ?_, w'⟩
        · rw [← hw8] at e
          exact (wipe_some e).1
        · obtain ⟨o, e, _⟩ := T.obj _ _ st7 b hb
          exact (pin' b hb o e).2
      cases b with
      | false =>
        simp only [Bool.false_eq_true, if_false] at q9 ⊢
        exact fin I9 q9
      | true =>
        simp only [if_true] at q9 ⊢
        refine thnF (pe _ s9 σ8 H9 _ I9 q9) fun z s10 ⟨yv, H10, I10, r10, acc, hD10, hz10, nx⟩ => ?_
        exact app_ok (X := X.blk s3 H3 scope ce fp) I10 hD10 hz10 r10 fun s11 I11 => fin I11 nx
  exact codeAny_compStart_list loop (T.self X.A 0 _ _ _ st4 loop)
/-- as a value -/
theorem pe_lc {elt tg iter : Expr} {ifs : List Expr} {scope : Scope} {own : List (Str × Nat)} {pos : Pos} {wi : TI} {g : TG} {tt : TT} {te : TE} (hc : X.calm = true) (hN : X.N.Nodup) (hi : PI X tg iter wi) (ok : BlkOk X.N X.env.scope scope own)
    (hg : ∀ (s : Shared) (H : Hp) (C : Addr) (cl : List (Str × Addr)) (fp : List Addr), PG (X.blk s H scope (compEnvC scope cl C X.env) fp) tg g) (ht : ∀ (s : Shared) (H : Hp) (C : Addr) (cl : List (Str × Addr)) (fp : List Addr), PTs (X.blk s H scope (compEnvC scope cl C X.env) fp) ifs tt)
    (he : ∀ (s : Shared) (H : Hp) (C : Addr) (cl : List (Str × Addr)) (fp : List Addr), PE (X.blk s H scope (compEnvC scope cl C X.env) fp) elt te) (hs : ∀ x, foldedSetIterable iter X.env x = pure x := by intro _; rfl) :
    PE X (.ListComp elt [⟨tg, iter, ifs, 0⟩] scope pos) (tLc wi g tt te (own.map (·.2))) := by
  intro pins s σ H Q I h
  rw [eval_ListComp]
  refine lc_core hc hN I hi ok hg ht he hs h fun D C s' m H' I' q hn f => ⟨m, hn, fun h'' sb => ?_⟩
  obtain ⟨f0, f1, f2, f3, f4, f5⟩ := f
  exact ⟨.ref D, H', I'.turned (t' := s'.toks) (fun b o hb e => (sb.2 b hb).trans e) f0 f1 f3 f4 f5, rfl, q⟩
end

/-- over a range: Pv by the turn and the heap (the new list at D within) -/
theorem lc_range {lo : Int} {n : Nat} {g : TG} {tt : TT} {te : TE} {vs : List Nat} {σ : St} {H1 : Hp} {D : Addr} {Qd : Hp → Prop} (Pv : Nat → Hp → Prop) (h0 : Pv 0 (upd H1 D (.lst [])))
    (hs : ∀ i H, i < n → Pv i H → g (.int (lo + i)) (wipe σ vs) H fun σ2 H2 => wipe σ2 vs = wipe σ vs ∧ tt σ2 H2 fun b H3 =>
      if b = true then te σ2 H3 fun y H4 => ∃ acc, H4 D = some (.lst acc) ∧ acc.length < sizeLine ∧ Pv (i + 1) (upd H4 D (.lst (acc ++ [y]))) else Pv (i + 1) H3) (hd : ∀ H, Pv n H → Qd H) :
    ∃ W : Nat → Nat → Hp → Prop, (∃ m, W 0 m (upd H1 D (.lst []))) ∧ ∀ i m H, W i m H →
      ((Itr lo n).stop i H ∧ Qd H) ∨ ((Itr lo n).go i H ∧ ∃ Nx : Hp → Prop, (∀ H', Nx H' → ∃ m', m' < m ∧ W (i + 1) m' H') ∧ ∀ x H', (Itr lo n).yld i H x H' → g x (wipe σ vs) H' fun σ2 H2 => wipe σ2 vs = wipe σ vs ∧ tt σ2 H2 fun b H3 =>
        if b = true then te σ2 H3 fun y H4 => ∃ acc, H4 D = some (.lst acc) ∧ acc.length < sizeLine ∧ Nx (upd H4 D (.lst (acc ++ [y]))) else Nx H3) := by
  refine ⟨fun i m H => m = n - i ∧ i ≤ n ∧ Pv i H, ⟨n, by simp, Nat.zero_le _, h0⟩, ?_⟩
  rintro i m H ⟨rfl, hi, p⟩
  by_cases hlt : i < n
  · refine .inr ⟨hlt, Pv (i + 1), fun H' p' => ⟨n - (i + 1), by omega, rfl, hlt, p'⟩, fun x H' y => ?_⟩
    obtain ⟨e, y⟩ := y
    subst e y
    exact hs i _ hlt p
  · have e : i = n := by omega
    subst e
    exact .inl ⟨Nat.le_refl _, hd H p⟩
/-- over a list that the block leaves as it is -/
theorem lc_list {K : PySem.W.Frag} {a : Addr} {xs : List V} {g : TG} {tt : TT} {te : TE} {vs : List Nat} {σ : St} {H1 : Hp} {D : Addr} {Qd : Hp → Prop} (Pv : Nat → Hp → Prop) (h0 : Pv 0 (upd H1 D (.lst []))) (hl : ∀ i H, i ≤ xs.length → Pv i H → SqL K H a xs)
    (hs : ∀ i x H, xs[i]? = some x → Pv i H → g x (wipe σ vs) H fun σ2 H2 => wipe σ2 vs = wipe σ vs ∧ tt σ2 H2 fun b H3 =>
      if b = true then te σ2 H3 fun y H4 => ∃ acc, H4 D = some (.lst acc) ∧ acc.length < sizeLine ∧ Pv (i + 1) (upd H4 D (.lst (acc ++ [y]))) else Pv (i + 1) H3) (hd : ∀ H, Pv xs.length H → Qd H) :
    ∃ W : Nat → Nat → Hp → Prop, (∃ m, W 0 m (upd H1 D (.lst []))) ∧ ∀ i m H, W i m H →
      ((Itl K a).stop i H ∧ Qd H) ∨ ((Itl K a).go i H ∧ ∃ Nx : Hp → Prop, (∀ H', Nx H' → ∃ m', m' < m ∧ W (i + 1) m' H') ∧ ∀ x H', (Itl K a).yld i H x H' → g x (wipe σ vs) H' fun σ2 H2 => wipe σ2 vs = wipe σ vs ∧ tt σ2 H2 fun b H3 =>
        if b = true then te σ2 H3 fun y H4 => ∃ acc, H4 D = some (.lst acc) ∧ acc.length < sizeLine ∧ Nx (upd H4 D (.lst (acc ++ [y]))) else Nx H3) := by
  refine ⟨fun i m H => m = xs.length - i ∧ i ≤ xs.length ∧ Pv i H, ⟨xs.length, by simp, Nat.zero_le _, h0⟩, ?_⟩
  rintro i m H ⟨rfl, hi, p⟩
  have q := hl i H hi p
  by_cases hlt : i < xs.length
  · refine .inr ⟨⟨xs, xs[i], q, by simp [hlt]⟩, Pv (i + 1), fun H' p' => ⟨xs.length - (i + 1), by omega, rfl, hlt, p'⟩, fun x H' y => ?_⟩
    obtain ⟨e, y⟩ := y
    subst e
    exact hs i x _ (y xs q) p
  · have e : i = xs.length := by omega
    subst e
    exact .inl ⟨⟨xs, q, Nat.le_refl _⟩, hd H p⟩
def blkC (N : List Str) (sc scope : Scope) (own : List (Str × Nat)) : Bool :=
  (match scope.kind with | .function => true | _ => false) && (scope.names.all fun y => decide (scope.names.lookup y.1 = some y.2)) && (own.all fun p => decide (N[p.2]? = some p.1)) &&
    (scope.names.all fun y => match y.2 with
      | .free => (match sc.names.lookup y.1 with | some .cell => true | some .free => true | _ => false)
      | .local => decide (y.1 ∈ own.map (·.1)) || decide (y.1 ∉ N)
      | .cell => decide (y.1 ∈ own.map (·.1)) || decide (y.1 ∉ N)
      | _ => true)
theorem blkOk_by {N : List Str} {sc scope : Scope} {own : List (Str × Nat)} (h : blkC N sc scope own = true) : BlkOk N sc scope own := by
  unfold blkC at h
  simp only [Bool.and_eq_true, List.all_eq_true, decide_eq_true_eq] at h
  obtain ⟨⟨⟨h1, h2⟩, h3⟩, h4⟩ := h
  refine ⟨?_, h2, h3, fun y hy e => ?_, fun y hy e => ?_⟩
  · split at h1
    · assumption
    · cases h1
  · have q := h4 y hy
    simp only [e] at q
    split at q <;> first | exact .inl (by assumption) | exact .inr (by assumption) | cases q
  · have q := h4 y hy
    rcases e with e | e <;> (simp only [e, Bool.or_eq_true, decide_eq_true_eq] at q; exact q)
end L2

namespace L2
open PySem PySem.Spec PyProof.Rows

section
variable {prog : Program} {w : World} {A : Around} {R : Result → Shared → Prop} {s : Shared} {elt t0 i0 t1 i1 : Expr} {ifs0 ifs1 : List Expr} {scope : Scope} {pos : Pos} {it acc : Value} {env : Env}
end

section
variable {X : Cx}
end
end L2

namespace L2
open PySem PySem.Spec PyProof.Rows

section
variable {κ : Type} [DecidableEq κ]
def valV (kvs : List (κ × V)) (k : κ) : Option V := (kvs.find? fun kv => decide (kv.1 = k)).map (·.2)
/-- in its place, or at the end -/
def putK (kvs : List (κ × V)) (k : κ) (v : V) : List (κ × V) :=
  if (kvs.any fun kv => decide (kv.1 = k)) = true then kvs.map (fun kv => if kv.1 = k then (kv.1, v) else kv) else kvs ++ [(k, v)]
def dropK (kvs : List (κ × V)) (k : κ) : List (κ × V) := kvs.filter fun kv => decide (kv.1 ≠ k)

theorem valV_pos {p : κ × V} {r : List (κ × V)} {k : κ} (e : p.1 = k) : valV (p :: r) k = some p.2 := by simp [valV, List.find?_cons, e]
theorem valV_neg {p : κ × V} {r : List (κ × V)} {k : κ} (e : ¬ p.1 = k) : valV (p :: r) k = valV r k := by simp [valV, List.find?_cons, e]
theorem valV_any (k : κ) : ∀ kvs : List (κ × V), (kvs.any fun kv => decide (kv.1 = k)) = (valV kvs k).isSome
  | [] => rfl
  | p :: r => by
    rw [List.any_cons]
    by_cases e : p.1 = k
    · simp only [valV_pos e, decide_eq_true e, Bool.true_or, Option.isSome_some]
    · rw [valV_neg e, decide_eq_false e, Bool.false_or]; exact valV_any k r
theorem length_putK (kvs : List (κ × V)) (k : κ) (v : V) : (putK kvs k v).length ≤ kvs.length + 1 := by
  unfold putK
  split
  · rw [List.length_map]; omega
  · rw [List.length_append, List.length_cons, List.length_nil]; omega
theorem RelO.isSome_eq {o : Option V} {u : Option Value} (r : RelO o u) : o.isSome = u.isSome := by
  cases o with
  | none => cases u with
    | none => rfl
    | some _ => exact (show False from r).elim
  | some _ => cases u with
    | none => exact (show False from r).elim
    | some _ => rfl
theorem RelO.getD {o : Option V} {u : Option Value} {d : V} {d' : Value} (r : RelO o u) (rd : RelV d d') : RelV (o.getD d) (u.getD d') := by
  cases o with
  | none => cases u with
    | none => exact rd
    | some _ => exact (show False from r).elim
  | some _ => cases u with
    | none => exact (show False from r).elim
    | some _ => exact r

/-- raw tables of the same keys -/
theorem KV.val {kvs : List (κ × V)} {vs : List (κ × Value)} (r : KV kvs vs) (k : κ) : RelO (valV kvs k) (valueAt vs k) := by
  unfold KV at r
  induction r with
  | nil => exact True.intro
  | @cons p q ps qs h t ih =>
    obtain ⟨h1, h2⟩ := h
    by_cases e : p.1 = k
    · have e' : q.1 = k := h1.symm.trans e
      have b : valueAt (q :: qs) k = some q.2 := by simp [valueAt, List.find?_cons, e']
      rw [valV_pos e, b]; exact h2
    · have e' : ¬ q.1 = k := fun z => e (h1.trans z)
      have b : valueAt (q :: qs) k = valueAt qs k := by simp [valueAt, List.find?_cons, e']
      rw [valV_neg e, b]; exact ih
theorem KV.any {kvs : List (κ × V)} {vs : List (κ × Value)} (r : KV kvs vs) (k : κ) : (kvs.any fun kv => decide (kv.1 = k)) = vs.any fun kv => decide (kv.1 = k) := by
  unfold KV at r
  induction r with
  | nil => rfl
  | cons h t ih => rw [List.any_cons, List.any_cons, ih, h.1]
theorem KV.repl {kvs : List (κ × V)} {vs : List (κ × Value)} (r : KV kvs vs) (k : κ) {y : V} {u : Value} (ry : RelV y u) :
    KV (kvs.map fun kv => if kv.1 = k then (kv.1, y) else kv) (vs.map fun kv => if kv.1 = k then (kv.1, u) else kv) := by
  unfold KV at r ⊢
  induction r with
  | nil => exact .nil
  | @cons p q ps qs h t ih =>
    rw [List.map_cons, List.map_cons]
    refine .cons ?_ ih
    obtain ⟨h1, h2⟩ := h
    by_cases e : p.1 = k
    · rw [if_pos e, if_pos (h1.symm.trans e)]; exact ⟨h1, ry⟩
    · rw [if_neg e, if_neg (fun z => e (h1.trans z))]; exact ⟨h1, h2⟩
theorem KV.put {kvs : List (κ × V)} {vs : List (κ × Value)} (r : KV kvs vs) (k : κ) {y : V} {u : Value} (ry : RelV y u) : KV (putK kvs k y) (stored vs k u) := by
  unfold putK stored
  rw [r.any k]
  by_cases e : (vs.any fun kv => decide (kv.1 = k)) = true
  · rw [if_pos e, if_pos e]; exact r.repl k ry
  · rw [if_neg e, if_neg e]; exact Paired.snoc r ⟨rfl, ry⟩
theorem KV.drop {kvs : List (κ × V)} {vs : List (κ × Value)} (r : KV kvs vs) (k : κ) : KV (dropK kvs k) (without vs k) := by
  unfold KV at r ⊢
  unfold dropK without
  induction r with
  | nil => exact .nil
  | @cons p q ps qs h t ih =>
    obtain ⟨h1, h2⟩ := h
    rw [List.filter_cons, List.filter_cons]
    by_cases e : p.1 = k
    · have a : ¬ decide (p.1 ≠ k) = true := by simp [e]
      have b : ¬ decide (q.1 ≠ k) = true := by simp [h1.symm.trans e]
      rw [if_neg a, if_neg b]; exact ih
    · have e' : ¬ q.1 = k := fun z => e (h1.trans z)
      have a : decide (p.1 ≠ k) = true := by simp [e]
      have b : decide (q.1 ≠ k) = true := by simp [e']
      rw [if_pos a, if_pos b]; exact .cons ⟨h1, h2⟩ ih
theorem KV.keys {kvs : List (κ × V)} {vs : List (κ × Value)} (r : KV kvs vs) : kvs.map (·.1) = vs.map (·.1) := by
  unfold KV at r
  induction r with
  | nil => rfl
  | cons h t ih => rw [List.map_cons, List.map_cons, ih, h.1]
theorem KV.length {kvs : List (κ × V)} {vs : List (κ × Value)} (r : KV kvs vs) : kvs.length = vs.length := Paired.length r
end


theorem kV_is {P : Program} {w : World} {k : Key} {u : Value} (r : RelV (kV k) u) : (mixKind P w).is k u = true := by
  cases k with
  | inl i => obtain ⟨t, e⟩ := (show ∃ t, u = Value.int i t from r); subst e; exact mixKind_int P w i t
  | inr x => obtain ⟨t, e⟩ := (show ∃ t, u = Value.str x t from r); subst e; exact mixKind_str P w x t
theorem items_are {P : Program} {w : World} : ∀ {ks : List Key} {us : List Value}, Vals (ks.map kV) us → ItemsAre (mixKind P w) ks us
  | [], _, r => by rw [List.map_nil] at r; cases r; exact .nil
  | k :: ks, _, r => by
    rw [List.map_cons] at r
    cases r with
    | cons h t => exact .cons (kV_is h) (items_are t)

/-- raw entries of a dict with tuple keys -/
abbrev KT (H : Hp) : List (List Key × V) → List (List Key × Addr × Value) → Prop := Paired fun p q => p.1 = q.1 ∧ H q.2.1 = some (.tup (p.1.map kV)) ∧ RelV p.2 q.2.2
theorem KT.val {H : Hp} {kvs : List (List Key × V)} {xs : List (List Key × Addr × Value)} (r : KT H kvs xs) (k : List Key) : RelO (valV kvs k) ((atKey xs k).map (·.2)) := by
  induction r with
  | nil => exact True.intro
  | @cons p q ps qs h t ih =>
    obtain ⟨h1, _, h2⟩ := h
    by_cases e : p.1 = k
    · have e' : q.1 = k := h1.symm.trans e
      have b : atKey (q :: qs) k = some q.2 := by simp [atKey, List.find?_cons, e']
      rw [valV_pos e, b]; exact h2
    · have e' : ¬ q.1 = k := fun z => e (h1.trans z)
      have b : atKey (q :: qs) k = atKey qs k := by simp [atKey, List.find?_cons, e']
      rw [valV_neg e, b]; exact ih
theorem KT.repl {H : Hp} {kvs : List (List Key × V)} {xs : List (List Key × Addr × Value)} (r : KT H kvs xs) (k : List Key) {y : V} {u : Value} (ry : RelV y u) :
    KT H (kvs.map fun kv => if kv.1 = k then (kv.1, y) else kv) (xs.map (putAt k u)) := by
  induction r with
  | nil => exact .nil
  | @cons p q ps qs h t ih =>
    rw [List.map_cons, List.map_cons]
    refine .cons ?_ ih
    obtain ⟨h1, h2, h3⟩ := h
    unfold putAt
    by_cases e : p.1 = k
    · rw [if_pos e, if_pos (h1.symm.trans e)]; exact ⟨h1, h2, ry⟩
    · rw [if_neg e, if_neg (fun z => e (h1.trans z))]; exact ⟨h1, h2, h3⟩
theorem KT.put {H : Hp} {kvs : List (List Key × V)} {xs : List (List Key × Addr × Value)} (r : KT H kvs xs) (k : List Key) {b : Addr} {y : V} {u : Value} (hb : H b = some (.tup (k.map kV))) (ry : RelV y u) :
    KT H (putK kvs k y) (storedH xs k b u) := by
  have e : (kvs.any fun kv => decide (kv.1 = k)) = (atKey xs k).isSome := by
    rw [valV_any, (r.val k).isSome_eq, Option.isSome_map]
  unfold putK storedH
  rw [e]
  by_cases q : (atKey xs k).isSome = true
  · rw [if_pos q, if_pos q]; exact r.repl k ry
  · rw [if_neg q, if_neg q]; exact Paired.snoc r ⟨rfl, hb, ry⟩
theorem KT.keeps {H H' : Hp} {kvs : List (List Key × V)} {xs : List (List Key × Addr × Value)} (r : KT H kvs xs) (ht : ∀ b ys, H b = some (.tup ys) → H' b = some (.tup ys)) : KT H' kvs xs :=
  Paired.mapP r fun _ _ z => ⟨z.1, ht _ _ z.2.1, z.2.2⟩

section
variable {P : Program} {w : World} {H : Hp} {h : Heap} {a : Addr}
theorem rd_of {u : HO} (ok : HOk P w H h) (e : Rd H a u) : ObjOk P w H h a u := e.ok ok
theorem dk_rd {kvs : List (Key × V)} (ok : HOk P w H h) (e : Rd H a (.dK kvs)) : kvs.length ≤ sizeLine ∧ (a == sysModules) = false ∧ ∃ vs, KV kvs vs ∧ h.DictOf (mixKind P w) a vs :=
  show ObjOk P w H h a (.dK kvs) from rd_of ok e
theorem dk_of {kvs : List (Key × V)} (ok : HOk P w H h) (e : H a = some (.dK kvs)) : kvs.length ≤ sizeLine ∧ (a == sysModules) = false ∧ ∃ vs, KV kvs vs ∧ h.DictOf (mixKind P w) a vs := dk_rd ok (.inl e)
/-- a tracked tuple of ints and texts is a key -/
theorem key_of {ks : List Key} (ok : HOk P w H h) (e : H a = some (.tup (ks.map kV))) : (tupleKind (mixKind P w)).is h ks a := by
  obtain ⟨_, its, r, o, h1, h2, n, h3⟩ := (show ObjOk P w H h a (.tup (ks.map kV)) from ok a _ e)
  exact ⟨o, its.toArray, n, h1, h2, h3, by simpa using items_are r⟩
theorem dt_rd {kvs : List (List Key × V)} (ok : HOk P w H h) (e : Rd H a (.dT kvs)) : kvs.length ≤ sizeLine ∧ (a == sysModules) = false ∧
    ∃ xs, KT H kvs xs ∧ h.DictOfH (tupleKind (mixKind P w)) a xs := by
  obtain ⟨z, y, xs, r, o, es, ep, h1, h2, h3, h4, h5⟩ := (show ObjOk P w H h a (.dT kvs) from rd_of ok e)
  refine ⟨z, y, xs, r, o, es, ep, h1, h2, h3, h4, fun x hx => ?_, h5⟩
  have all : ∀ {l : List (List Key × V)} {m : List (List Key × Addr × Value)}, KT H l m → ∀ x ∈ m, (tupleKind (mixKind P w)).is h x.1 x.2.1 := by
    intro l m q
    induction q with
    | nil => intro x hx; exact nomatch hx
    | @cons p q ps qs hq t ih =>
      intro x hx
      rcases List.mem_cons.mp hx with e | hx
      · subst e
        exact key_of ok (by rw [← hq.1]; exact hq.2.1)
      · exact ih x hx
  exact all r x hx
end

/-- what the dict at a holds at the key y -/
def DGet (H : Hp) (a : Addr) (y : V) (r : Option V) : Prop :=
  (∃ kvs k, Rd H a (.dK kvs) ∧ y = kV k ∧ r = valV kvs k) ∨ ∃ kvs k b, Rd H a (.dT kvs) ∧ y = .ref b ∧ H b = some (.tup (k.map kV)) ∧ r = valV kvs k
/-- the heap behind a[y] = v -/
def DPut (H : Hp) (a : Addr) (y v : V) (H' : Hp) : Prop :=
  (∃ kvs k, H a = some (.dK kvs) ∧ y = kV k ∧ kvs.length < sizeLine ∧ H' = upd H a (.dK (putK kvs k v))) ∨
  ∃ kvs k b, H a = some (.dT kvs) ∧ y = .ref b ∧ H b = some (.tup (k.map kV)) ∧ kvs.length < sizeLine ∧ H' = upd H a (.dT (putK kvs k v))
theorem DGet.k {H : Hp} {a : Addr} {kvs : List (Key × V)} {k : Key} (e : H a = some (.dK kvs)) : DGet H a (kV k) (valV kvs k) := .inl ⟨kvs, k, .inl e, rfl, rfl⟩
theorem DGet.t {H : Hp} {a b : Addr} {kvs : List (List Key × V)} {k : List Key} (e : H a = some (.dT kvs)) (eb : H b = some (.tup (k.map kV))) : DGet H a (.ref b) (valV kvs k) := .inr ⟨kvs, k, b, .inl e, rfl, eb, rfl⟩
theorem DPut.k {H : Hp} {a : Addr} {kvs : List (Key × V)} {k : Key} {v : V} (e : H a = some (.dK kvs)) (hl : kvs.length < sizeLine) : DPut H a (kV k) v (upd H a (.dK (putK kvs k v))) := .inl ⟨kvs, k, e, rfl, hl, rfl⟩
theorem DPut.t {H : Hp} {a b : Addr} {kvs : List (List Key × V)} {k : List Key} {v : V} (e : H a = some (.dT kvs)) (eb : H b = some (.tup (k.map kV))) (hl : kvs.length < sizeLine) :
    DPut H a (.ref b) v (upd H a (.dT (putK kvs k v))) := .inr ⟨kvs, k, b, e, rfl, eb, hl, rfl⟩


section
variable {X : Cx} {pins : List (Addr × Obj)} {σ : St} {H : Hp} {s : Shared} {a : Addr} {y v : V} {u r : Value} {o : Option V} {A : Around} {E : Value → Shared → Prop}

theorem Inv.big (I : Inv X pins σ H s) : sysModules < s.heap.objs.size := by
  have h : mainGlobals < s.heap.objs.size := (I.mod.glob.keeps I.bk).lt
  exact Nat.lt_trans (by decide) h

/-- y in d -/
theorem d_in {Q : Value → Shared → Prop} (hu : A.units + 1 < cLine) (I : Inv X pins σ H s) (g : DGet H a y o) (ry : RelV y u) (h : ∀ s', Inv X pins σ H s' → Q (.bool o.isSome) s') :
    wpAny (model X.prog X.w) A (compareOp .In u (.ref a)) Q E s := by
  rcases g with ⟨kvs, k, e, ey, l⟩ | ⟨kvs, k, b, e, ey, eb, l⟩
  · subst ey
    obtain ⟨z, hd, vs, rel, dd⟩ := dk_rd I.hok e
    refine wpAny_in_of (kV_is ry) hd dd.mapOf ?_
    rw [← (rel.val k).isSome_eq, ← l]
    exact h _ (I.tok _)
  · subst ey
    cases (show u = Value.ref b from ry)
    obtain ⟨z, hd, xs, rel, dd⟩ := dt_rd I.hok e
    refine wpAny_in_heap (tupleKind_room_in1 hu) (key_of I.hok eb) hd dd ?_
    have q := (rel.val k).isSome_eq
    rw [Option.isSome_map] at q
    rw [← q, ← l]
    exact h _ (I.tok _)
/-- a dict's object is replaced -/
theorem d_write {h' : Heap} {t' : Nat} {ob : HO} (I : Inv X pins σ H s) (mu : Mut (H a)) (hs : Heap.SameBut a s.heap h') (he : ∃ q, h'.get? a = some q) (new : ObjOk X.prog X.w (upd H a ob) h' a ob) :
    Inv X pins σ (upd H a ob) { s with heap := h', toks := t' } :=
  I.write (x := a) (e := a) mu (.inl rfl) (fun b q hb z => (hs.2 b hb).trans z) he new
theorem dk_new {P : Program} {w : World} {H' : Hp} {h' : Heap} {kvs : List (Key × V)} {vs : List (Key × Value)} (z : kvs.length ≤ sizeLine) (hd : (a == sysModules) = false) (rel : KV kvs vs) (dd : h'.DictOf (mixKind P w) a vs) :
    ObjOk P w H' h' a (.dK kvs) := ⟨z, hd, vs, rel, dd⟩
end

section
variable {X : Cx} {pins : List (Addr × Obj)} {σ : St} {H : Hp} {s : Shared} {a : Addr} {kvs : List (Key × V)} {k : Key} {u : Value} {A : Around} {E : Value → Shared → Prop}
end


/-- the element of a subscription, not a slice -/
def NoSl (i : Expr) : Prop := ∀ ov iv, subscripted i false ov iv = operate [ov, iv] (getItem ov iv)
theorem subD_of {prog : Program} {w : World} {A : Around} {E : Value → Shared → Prop} {s : Shared} {env : Env} {value slice : Expr} {pos : Pos} {T id : String} {Q : Value → Shared → Prop}
    (hl : typeLookup (.type T) "__getitem__" = pure (some (.builtin id))) (hs : NoSl slice)
    (h : wpAny (model prog w) A (eval value env) (fun o s₁ => wpAny (model prog w) A (eval slice env) (fun i s₂ => s₂.TypeIs o T ∧ wpAny (model prog w) A (getItem o i) Q E s₂) E s₁) E s) :
    wpAny (model prog w) A (eval (.Subscript value slice pos) env) Q E s := by
  refine Subscript_ (wpAny_mono h (fun o s₁ h₁ => wpAny_mono h₁ (fun i s₂ h₂ => ?_) fun _ _ x => x) fun _ _ x => x)
  obtain ⟨hT, h₂⟩ := h₂
  unfold subscriptTail
  refine wpAny_bind ?_
  rw [getitemInPython_of_ne hT.not_modules]
  refine wpAny_bind (wpAny_specialOf hT hl ?_)
  have fin : wpAny (model prog w) A (subscripted slice false o i) (fun r s₃ => wpAny (model prog w) A (letTemporaryGo value o r >>= fun _ => pure r) Q E s₃) E s₂ := by
    rw [hs o i]
    exact wpAny_operating (wpAny_mono h₂ (fun r s₃ h₃ => wpAny_bind (wpAny_letTemporaryGo (wpAny_pure h₃))) fun _ _ x => x)
  first
    | exact wpAny_pure (wpAny_bind fin)
    | exact wpAny_bind (wpAny_pure (wpAny_bind fin))
    | exact wpAny_bind fin

/-- y in d, y not in d -/
def tDIn (ty td : TE) : TE := fun σ H Q => ty σ H fun y H1 => td σ H1 fun x H2 => ∃ a o, x = .ref a ∧ DGet H2 a y o ∧ Q (.bl o.isSome) H2
section
variable {X : Cx} {o i e value : Expr} {pos pos' tpos : Pos} {td ty tv : TE}
theorem pc_din (hu : X.A.units + 1 < cLine) (hi : PE X i ty) (ho : PE X o td) : PC X .In i o (tDIn ty td) := by
  intro pins s σ H Q I h
  refine thn (hi pins s σ H _ I h) fun iv s1 ⟨y, H1, I1, ry, q1⟩ => thn (ho pins s1 σ H1 _ I1 q1) fun u s2 ⟨x, H2, I2, rx, a, ov, ex, g, q2⟩ => ?_
  subst ex
  obtain rfl : u = Value.ref a := rx
  exact d_in hu I2 g ry fun s3 I3 => ⟨.bl ov.isSome, H2, I3, rfl, q2⟩
end


theorem dk_empty {P : Program} {w : World} {H : Hp} (h : Heap) (hb : sysModules < h.objs.size) : ObjOk P w H (h.push { cls := .type "dict", data := .dict #[] }) h.objs.size (.dK []) :=
  ⟨Nat.zero_le _, beq_eq_false_iff_ne.mpr (Ne.symm (Nat.ne_of_lt hb)), [], .nil, Heap.DictOf.new h⟩
section
variable {X : Cx} {pos : Pos}
end

/-- the pairs of a display, from the left -/
def tPairs : List (TE × TE) → St → Hp → (List (V × V) → Hp → Prop) → Prop
  | [], _, H, Q => Q [] H
  | (tk, tv) :: r, σ, H, Q => tk σ H fun x H1 => tv σ H1 fun y H2 => tPairs r σ H2 fun ps H3 => Q ((x, y) :: ps) H3
abbrev VV : List (V × V) → List (Value × Value) → Prop := Paired fun p q => RelV p.1 q.1 ∧ RelV p.2 q.2
def PPs (X : Cx) (pos : Pos) (keys : List (Option Expr)) (values : List Expr) (trs : List (TE × TE)) : Prop :=
  ∀ (pins : List (Addr × Obj)) (s : Shared) (σ : St) (H : Hp) (Q : List (V × V) → Hp → Prop), Inv X pins σ H s → tPairs trs σ H Q →
    wpAny (model X.prog X.w) X.A (evalPairs (pairTrees keys values X.env pos)) (fun vs s' => ∃ ps H', Inv X pins σ H' s' ∧ VV ps vs ∧ Q ps H') X.xe s
theorem pps_nil {X : Cx} {pos : Pos} : PPs X pos [] [] [] := fun pins s σ H Q I h => pairTrees_nil_walk ⟨[], H, I, .nil, h⟩
theorem pps_cons {X : Cx} {pos : Pos} {k v : Expr} {ks : List (Option Expr)} {vs : List Expr} {tk tv : TE} {trs : List (TE × TE)} (hk : PE X k tk) (hv : PE X v tv) (hr : PPs X pos ks vs trs) :
    PPs X pos (some k :: ks) (v :: vs) ((tk, tv) :: trs) := fun pins s σ H Q I h =>
  pairTrees_cons_walk (thn (hk pins s σ H _ I h) fun u s1 ⟨x, H1, I1, rx, q1⟩ => thn (hv pins s1 σ H1 _ I1 q1) fun w2 s2 ⟨y, H2, I2, ry, q2⟩ =>
    thn (hr pins s2 σ H2 _ I2 q2) fun ws s3 ⟨ps, H3, I3, rel, q3⟩ => ⟨(x, y) :: ps, H3, I3, .cons ⟨rx, ry⟩ rel, q3⟩)

def mergeK (kvs more : List (Key × V)) : List (Key × V) := more.foldl (fun acc kv => putK acc kv.1 kv.2) kvs
theorem KV.merge : ∀ {more : List (Key × V)} {rs : List (Key × Value)} {kvs : List (Key × V)} {vs : List (Key × Value)}, KV more rs → KV kvs vs → KV (mergeK kvs more) (merged vs rs) := by
  intro more rs kvs vs r
  unfold KV at r
  induction r generalizing kvs vs with
  | nil => intro q; exact q
  | @cons p q ps qs h t ih =>
    intro r0
    have e : KV (putK kvs p.1 p.2) (stored vs q.1 q.2) := by
      have := r0.put p.1 h.2
      rw [← h.1]; exact this
    exact ih e
theorem length_mergeK : ∀ (more kvs : List (Key × V)), (mergeK kvs more).length ≤ kvs.length + more.length
  | [], kvs => by show kvs.length ≤ kvs.length + 0; omega
  | p :: r, kvs => by
    have h1 := length_mergeK r (putK kvs p.1 p.2)
    have h2 := length_putK kvs p.1 p.2
    show (mergeK (putK kvs p.1 p.2) r).length ≤ _
    rw [List.length_cons]; omega
theorem carries_of {P : Program} {w : World} : ∀ {kvs : List (Key × V)} {ws : List (Value × Value)}, VV (kvs.map fun kv => (kV kv.1, kv.2)) ws → ∃ rs, Carries (mixKind P w) ws rs ∧ KV kvs rs
  | [], _, r => by rw [List.map_nil] at r; cases r; exact ⟨[], True.intro, .nil⟩
  | p :: kvs, _, r => by
    rw [List.map_cons] at r
    cases r with
    | @cons a b as bs h t =>
      obtain ⟨rs, c, q⟩ := carries_of (P := P) (w := w) t
      obtain ⟨b1, b2⟩ := b
      exact ⟨(p.1, b2) :: rs, ⟨kV_is h.1, rfl, c⟩, .cons ⟨rfl, h.2⟩ q⟩
/-- {k: v, ..} with keys ints and texts; the new dict stands empty while the pairs are made -/
def tDisp (trs : List (TE × TE)) : TE := fun σ H Q => ∀ p, H p = none → tPairs trs σ (upd H p (.dK [])) fun ps H2 => H2 p = some (.dK []) ∧ ∃ kvs : List (Key × V), ps = kvs.map (fun kv => (kV kv.1, kv.2)) ∧ kvs.length ≤ 15 ∧ Q (.ref p) (upd H2 p (.dK (mergeK [] kvs)))
theorem pe_disp {X : Cx} {pos : Pos} {keys : List (Option Expr)} {values : List Expr} {trs : List (TE × TE)} (h : PPs X pos keys values trs) (hall : keys.all (·.isSome) = true) (hl : keys.length = values.length) (h0 : keys ≠ [])
    (h15 : keys.length ≤ 15) : PE X (.Dict keys values pos) (tDisp trs) := by
  intro pins s σ H Q I q
  have hn := I.hok.fresh (Nat.le_refl s.heap.objs.size)
  have I1 := I.laid (a := s.heap.objs.size) (o := .dK []) (h' := s.heap.push { cls := .type "dict", data := .dict #[] }) (t' := s.toks) (fun _ _ q => Heap.get?_push_of_some _ q) (Nat.le_refl _) (dk_empty s.heap I.big)
  refine wpAny_Dict_walk (knd := mixKind X.prog X.w) hall hl h0 h15 (thn (h pins _ σ _ _ I1 (q _ hn)) fun ws s2 ⟨ps, H2, I2, rel, e, kvs, ep, lk, q2⟩ => ?_)
  subst ep
  obtain ⟨rs, c, rk⟩ := carries_of (P := X.prog) (w := X.w) rel
  obtain ⟨z, hd, vs0, r0, dd⟩ := dk_of I2.hok e
  cases r0
  refine ⟨rs, c, dd, fun h' dd' hs => ⟨.ref s.heap.objs.size, _, ?_, rfl, q2⟩⟩
  have hz : (mergeK [] kvs).length ≤ sizeLine := by
    have h1 := length_mergeK kvs []
    rw [List.length_nil] at h1
    rw [sizeLine_eq]; omega
  have he : ∃ q, h'.get? s.heap.objs.size = some q := let ⟨q, _, _, hq, _⟩ := dd'; ⟨q, hq⟩
  exact d_write I2 (by rw [e]; exact True.intro) hs he (dk_new hz hd (rk.merge .nil) dd')


/-- a method call o.m(e) of a built-in, with one argument: what must be seen of the text -/
structure M1 (X : Cx) (o : Expr) (m : Str) (apos : Pos) (e : Expr) (cpos : Pos) : Prop where
  base : attributeBase o m X.env (eval o X.env) = eval o X.env
  few : ((backTo cpos (starEach [e] X.env)).all (fun x => !x.1) && (backToKw cpos (keywordEach [] X.env)).all (fun x => x.1.isSome)
    && decide (([e] : List Expr).length + ([] : List Keyword).length + (if ([] : List Keyword).isEmpty then 0 else 1) < 30)) = true
  line : (apos.endLine == cpos.line) = true
  trees : backTo cpos (starEach [e] X.env) = [(false, eval e X.env)]
structure M2 (X : Cx) (o : Expr) (m : Str) (apos : Pos) (e f : Expr) (cpos : Pos) : Prop where
  base : attributeBase o m X.env (eval o X.env) = eval o X.env
  few : ((backTo cpos (starEach [e, f] X.env)).all (fun x => !x.1) && (backToKw cpos (keywordEach [] X.env)).all (fun x => x.1.isSome)
    && decide (([e, f] : List Expr).length + ([] : List Keyword).length + (if ([] : List Keyword).isEmpty then 0 else 1) < 30)) = true
  line : (apos.endLine == cpos.line) = true
  trees : backTo cpos (starEach [e, f] X.env) = [(false, eval e X.env), (false, eval f X.env)]

section
variable {X : Cx} {pins : List (Addr × Obj)} {σ : St} {H : Hp} {s : Shared} {a : Addr} {y d : V} {u r : Value} {o : Option V} {A : Around} {E : Value → Shared → Prop}
end

section
variable {X : Cx} {o e f : Expr} {apos cpos : Pos} {td ty tx : TE}
end

section
variable {X : Cx} {pins : List (Addr × Obj)} {σ : St} {H : Hp} {s : Shared} {a : Addr} {kvs : List (Key × V)} {A : Around} {E : Value → Shared → Prop}
end


section
variable {X : Cx} {pins : List (Addr × Obj)} {σ : St} {H : Hp} {s : Shared} {a : Addr} {y : V} {u : Value} {A : Around} {E : Value → Shared → Prop}
end
end L2

namespace L2
open PySem PySem.Spec PyProof.Rows

section
variable {prog : Program} {w : World} {A : Around} {E : Value → Shared → Prop}
end

section
variable {X : Cx}
end
end L2

namespace L2
open PySem PySem.Spec PyProof.Rows

section
variable {X : Cx} {pins : List (Addr × Obj)} {σ : St} {H : Hp} {s : Shared} {h' : Heap}
end
section
variable {X : Cx}
end

/-- range(i, j, c): small bounds, n items -/
def RgC (i j c : Int) (n : Nat) : Prop := c ≠ 0 ∧ c.natAbs < 1073741824 ∧ Builtin.Range.small i j c = true ∧ Builtin.Range.rangeSize i j c = n
theorem RgC.neg {i j : Int} (ha : -(2 ^ 62) ≤ i) (ha' : i < 2 ^ 62) (hb : -(2 ^ 62) ≤ j) (hb' : j < 2 ^ 62) : RgC i j (-1) (i - j).toNat :=
  ⟨by decide, by decide, PySem.W.small_down ha ha' hb hb', PySem.W.rangeSize_downNat i j⟩
section
variable {X : Cx} {tg : Expr}
end
section
variable {X : Cx} {tg : Expr}
end

section
variable {prog : Program} {w : World} {A : Around} {E : Value → Shared → Prop} {s : Shared}
end

section
variable {X : Cx} {pins : List (Addr × Obj)} {σ : St} {H : Hp} {s : Shared} {d : Addr} {o : Obj}
end

section
variable {P : Program} {w : World} {K : PySem.W.Frag} {tg : Expr} {d : Addr} {o : Obj} {es : Array DictEntry} {ep : Nat}
end

section
variable {X : Cx} {tg e : Expr} {td : TE} {apos cpos : Pos}
end

end L2

section 
namespace Bits
open PySem PyProof.Rows

end Bits
end 

section 
namespace TL
open PySem PySem.Builtin PySem.Builtin.Str PySem.StrLaws

abbrev tl (x : Str) : List Nat := x.cps.toList
/-- S stands at the head of l -/
def pre (S l : List Nat) : Bool := l.take S.length == S
/-- what stands before the first S, and behind it -/
def par (S : List Nat) : List Nat → List Nat → Option (List Nat × List Nat)
  | _, [] => none
  | acc, c :: r => if pre S (c :: r) = true then some (acc, (c :: r).drop S.length) else par S (acc ++ [c]) r

end TL
end 

namespace L2
open PySem PySem.Spec PyProof.Rows

section
variable {X : Cx} {pins : List (Addr × Obj)} {σ : St} {H : Hp} {s : Shared} {Q : VK}
end

section
variable {X : Cx}

end

section
variable {X : Cx} {o e : Expr} {to te : TE}
end
end L2

namespace L2
open PySem PySem.Spec PyProof.Rows

section
variable {X : Cx}
end

theorem IsPart.raw {v : Value} {o : Option Int} (p : IsPart v o) : ∃ l : Option (Int × Tok), v = partValue l ∧ l.map (·.1) = o := by
  cases p with
  | none => exact ⟨none, rfl, rfl⟩
  | int i t => exact ⟨some (i, t), rfl, rfl⟩

end L2

namespace Att
open PySem PySem.W PySem.Calls PyProof.Rows

section
variable {prog : Program} {w : World} {A : Around} {E : Value → Shared → Prop} {s : Shared} {K : Frag}

end
end Att

namespace L2
open PySem PySem.Spec PyProof.Rows

end L2

namespace L2
open PySem PySem.Spec PyProof.Rows

abbrev KOf {K : PySem.W.Frag} {h : Heap} (_ : K.In h) : PySem.W.Frag := K

end L2

namespace L2
open PySem PySem.Spec PyProof.Rows

/-- the j-th statement of a class's body -/
def inClass (s : Stmt) (j : Nat) : Stmt := match s with
  | .ClassDef _ _ _ body _ _ _ _ _ _ _ => body.getD j (.Pass ⟨0, 0, 0, 0⟩)
  | _ => .Pass ⟨0, 0, 0, 0⟩
def defArgs (s : Stmt) : Arguments := match s with
  | .FunctionDef _ a _ _ _ _ _ _ _ _ => a
  | _ => { posonlyargs := [], args := [], vararg := none, kwonlyargs := [], kw_defaults := [], kwarg := none, defaults := [] }
def defBody (s : Stmt) : List Stmt := match s with
  | .FunctionDef _ _ b _ _ _ _ _ _ _ => b
  | _ => []
def defScope (s : Stmt) : Scope := match s with
  | .FunctionDef _ _ _ _ _ _ sc _ _ _ => sc
  | _ => { kind := .function, names := [], isGenerator := false, isCoroutine := false }

abbrev CX0 : CXT := fun _ _ _ _ _ _ => False
abbrev E0 : XK := fun _ _ _ => False
theorem pass0 {X : Cx} : Passes CX0 X E0 := fun _ _ _ _ _ _ _ h => h.elim

structure Fun (K : PySem.W.Frag) (x qual : Str) (st : Stmt) (f : Addr) (fd : FuncData) : Prop where
  ex : ∃ (oc : Value) (od : Option Addr) (kV doc pm : Value) (an : Option Addr) (cdv ct : Value) (osl : Array (Option Value)),
    fd = PySem.W.fnOf x qual (defArgs st) (defBody st) (defScope st) .none kV doc pm an cdv ct ∧ K.lookup f = some ⟨oc, od, .func fd, osl⟩ ∧ PySem.W.codeIn K cdv qual = true
  kp : PySem.W.keepIn K (.ref f) = true
section
variable {P : Program} {w : World} {K : PySem.W.Frag} {mg : Str → Option Value} {base : Heap}
/-- THE RULE for a def: its body as a term of rules, and the reading of that term -/
theorem Fun.ok {x qual : Str} {st : Stmt} {f : Addr} {fd : FuncData} {N ps : List Str} {k : Nat} {sp : Sp} (F : Fun K x qual st f fd) (S : FnScope N ps (defScope st)) (len : ∀ vs H Q E, sp vs H Q E → vs.length = ps.length)
    (hbody : ∀ (cdv : Value) (A : Around) (outer : List Env) (s : Shared) (H : Hp) (vs : List V) (Q : VK) (E : XK), Room k (A.deeper (envOfC qual (defScope st) s.heap.objs.size f cdv)) → sp vs H Q E →
      ∃ t, PSs (cxOf CX0 P w K mg base N qual (defScope st) f cdv A outer s H E).nox (defBody st) t ∧ t { nx := fun _ H' => Q .non H', rt := Q } (start N vs) H) : FnOk P w K mg base CX0 (k + 1) f fd ps sp := by
  obtain ⟨oc, od, kV, doc, pm, an, cdv, ct, osl, rfl, lk, hcd⟩ := F.ex
  refine fn_of lk hcd S len fun A outer s H vs Q E hr hsp => ?_
  obtain ⟨t, h, q⟩ := hbody cdv A outer s H vs Q E hr hsp
  exact ⟨t, h.nox, q⟩
/-- how its arguments bind (no defaults): h is «fun _ _ _ _ _ _ us hl => match us, hl with | [_, _], _ => rfl», one _ a parameter -/
theorem Fun.binds {x qual : Str} {st : Stmt} {f : Addr} {fd : FuncData} {ps : List Str} (F : Fun K x qual st f fd)
    (h : ∀ (kV doc pm : Value) (an : Option Addr) (cdv ct : Value) (us : List Value), us.length = ps.length → bindArgs (PySem.W.fnOf x qual (defArgs st) (defBody st) (defScope st) .none kV doc pm an cdv ct) ⟨us, []⟩ = pure (ps.zip us)) : Binds K fd ps [] := by
  obtain ⟨oc, od, kV, doc, pm, an, cdv, ct, osl, rfl, lk, hcd⟩ := F.ex
  exact .all (h kV doc pm an cdv ct)
theorem fun_mk {x qual : Str} {st : Stmt} {f : Addr} {oc : Value} {od an : Option Addr} {osl : Array (Option Value)} {kV doc pm cdv ct : Value} (l : K.lookup f = some ⟨oc, od, .func (PySem.W.fnOf x qual (defArgs st) (defBody st) (defScope st) .none kV doc pm an cdv ct), osl⟩)
    (c : PySem.W.codeIn K cdv qual = true) (k : PySem.W.keepIn K (.ref f) = true) : Fun K x qual st f (PySem.W.fnOf x qual (defArgs st) (defBody st) (defScope st) .none kV doc pm an cdv ct) := ⟨⟨oc, od, kV, doc, pm, an, cdv, ct, osl, rfl, l, c⟩, k⟩
end
theorem hu_of {A : Around} {k : Nat} (hr : Room k A) : A.units + 1 < cLine := Nat.lt_of_le_of_lt (Nat.add_le_add_left (by decide : 1 ≤ 64) _) hr.units
theorem small1000 {n : Nat} (h : n ≤ 1000) : n < sizeLine := Nat.lt_of_le_of_lt h (by decide)

section
variable {X : Cx}
theorem pv (i : Nat) {x : Str} {pos : Pos} (hN : X.N[i]? = some x := by rfl) (hv : Vis X.env.scope x := by first | exact Or.inl rfl | exact Or.inr (Or.inl rfl) | exact Or.inr (Or.inr rfl)) (hd : (x == ("__debug__" : Str)) = false := by decide)
    (hcd : (x == ("__classdict__" : Str)) = false := by decide) : PE X (.Name x pos) (tVar i) := pe_var hN hv hd hcd
end

theorem iteF {A B : Prop} (h : B) : if false = true then A else B := by
  rw [if_neg Bool.false_ne_true]
  exact h
theorem iteT {A B : Prop} (h : A) : if true = true then A else B := by
  rw [if_pos rfl]
  exact h
theorem ite2 {c A B : Prop} [Decidable c] (h1 : c → A) (h2 : ¬ c → B) : if c then A else B := by
  by_cases h : c
  · rw [if_pos h]
    exact h1 h
  · rw [if_neg h]
    exact h2 h
/-- all that was tracked is as it was -/
def Same (H H' : Hp) : Prop := ∀ b o, H b = some o → H' b = some o
theorem Same.refl (H : Hp) : Same H H := fun _ _ h => h
theorem Same.trans {H H1 H2 : Hp} (a : Same H H1) (b : Same H1 H2) : Same H H2 := fun c o h => b c o (a c o h)
theorem Same.free {H H' : Hp} (e : Same H H') {l : Addr} (h : H' l = Option.none) : H l = Option.none := by
  cases q : H l with
  | none => rfl
  | some o =>
    rw [e l o q] at h
    cases h
theorem Same.seq {K : PySem.W.Frag} {H H' : Hp} {a : Addr} {xs : List V} (e : Same H H') (h : SqL K H a xs) : SqL K H' a xs := by
  rcases h with (h | ⟨o, h⟩) | h
  · exact .inl (.inl (e _ _ h))
  · exact .inl (.inr ⟨o, e _ _ h⟩)
  · exact .inr h

section
variable {κ : Type} [DecidableEq κ]
theorem valV_not {kvs : List (κ × V)} {k : κ} (h : valV kvs k = none) : ¬ k ∈ kvs.map (·.1) := by
  intro m
  obtain ⟨p, hp, e⟩ := List.mem_map.mp m
  have q : (kvs.any fun kv => decide (kv.1 = k)) = true := List.any_eq_true.mpr ⟨p, hp, decide_eq_true e⟩
  rw [valV_any, h] at q
  exact absurd q (by simp)
theorem valV_in {kvs : List (κ × V)} {k : κ} {v : V} (h : valV kvs k = some v) : k ∈ kvs.map (·.1) := by
  have q : (kvs.any fun kv => decide (kv.1 = k)) = true := by
    rw [valV_any, h]
    all_goals rfl
  obtain ⟨p, hp, e⟩ := List.any_eq_true.mp q
  exact List.mem_map.mpr ⟨p, hp, of_decide_eq_true e⟩
theorem nd_snoc : ∀ {l : List κ} {k : κ}, l.Nodup → ¬ k ∈ l → (l ++ [k]).Nodup
  | [], k, _, _ => by simp
  | a :: r, k, h, hk => by
    obtain ⟨h1, h2⟩ := List.nodup_cons.mp h
    show (a :: (r ++ [k])).Nodup
    refine List.nodup_cons.mpr ⟨fun m => ?_, nd_snoc h2 fun m => hk (List.mem_cons.mpr (Or.inr m))⟩
    rcases List.mem_append.mp m with q | q
    · exact h1 q
    · exact hk (List.mem_cons.mpr (Or.inl (List.mem_singleton.mp q).symm))
end
/-- a new instance and its __init__ leave all that was tracked as it was -/
theorem Same.made {H H1 : Hp} {x dx C : Addr} (nx : H x = Option.none) (nd : H dx = Option.none) (k : ∀ b o, (upd (upd H dx (.own x)) x (.ins C dx [])) b = some o → b ≠ x → H1 b = some o) : Same H H1 := fun b o e =>
  k b o (by rw [upd_ne (ne_of_none e nx), upd_ne (ne_of_none e nd)]; exact e) (ne_of_none e nx)
end L2
section
set_option Elab.async false
set_option linter.all false
set_option maxRecDepth 100000
set_option maxHeartbeats 2000000
namespace L2
open PySem PySem.Spec PyProof.Rows
open PySem.W (WData Codec OpenSpec Well WellAll ReadsW ReadsAllW)
/-! ### an answer as data -/
mutual
/-- x stands for the datum d, lists and tuples all the way -/
inductive Dw (K : PySem.W.Frag) (H : Hp) : V → WData → Prop
  | non : Dw K H .non .none
  | bl (b : Bool) : Dw K H (.bl b) (.bool b)
  | int (i : Int) : Dw K H (.int i) (.int i)
  | str (x : Str) : Dw K H (.str x) (.str x)
  | byt (b : Array UInt8) : Dw K H (.byt b) (.bytes b.toList)
  | lst {a : Addr} {xs : List V} {ds : List WData} : SqL K H a xs → DwAll K H xs ds → Dw K H (.ref a) (.list ds)
  | tup {a : Addr} {xs : List V} {ds : List WData} : SqT K H a xs → DwAll K H xs ds → Dw K H (.ref a) (.tuple ds)
inductive DwAll (K : PySem.W.Frag) (H : Hp) : List V → List WData → Prop
  | nil : DwAll K H [] []
  | cons {v : V} {vs : List V} {d : WData} {ds : List WData} : Dw K H v d → DwAll K H vs ds → DwAll K H (v :: vs) (d :: ds)
end
theorem dw_ints {K : PySem.W.Frag} {H : Hp} : ∀ ns : List Int, DwAll K H (ns.map V.int) (ns.map WData.int)
  | [] => .nil
  | n :: r => .cons (.int n) (dw_ints r)
theorem ints_dw {K : PySem.W.Frag} {H : Hp} : ∀ (ns : List Int) (xs : List V), DwAll K H xs (ns.map WData.int) → xs = ns.map V.int
  | [], xs, h => by
    cases h
    rfl
  | n :: r, xs, h => by
    cases h with
    | cons h1 h2 =>
      cases h1
      rw [ints_dw r _ h2] <;> rfl
section
variable {P : Program} {w : World} {K : PySem.W.Frag} {H : Hp} {h : Heap} {R : PySem.W.WRecords} {cl : Str → Option Addr}
theorem sqL_at {a : Addr} {xs : List V} (hok : HOk P w H h) (KX : K.In h) (q : SqL K H a xs) : ∃ (its : List Value) (o : Obj) (n : Nat), Vals xs its ∧ h.get? a = some o ∧ o.cls = .type "list" ∧ o.data = .seq its.toArray n := by
  rcases q with q | ⟨o, its, n, e, hc, _, hd, _, hv⟩
  · obtain ⟨_, its, n, hv, e⟩ := (show ObjOk P w H h a (.lst xs) from q.ok hok)
    exact ⟨its, _, n, hv, e, rfl, rfl⟩
  · exact ⟨its.toList, o, n, hv, KX _ _ e, hc, by simp [hd]⟩
theorem sqT_at {a : Addr} {xs : List V} (hok : HOk P w H h) (KX : K.In h) (q : SqT K H a xs) : ∃ (its : List Value) (o : Obj) (n : Nat), Vals xs its ∧ h.get? a = some o ∧ o.cls = .type "tuple" ∧ o.data = .seq its.toArray n := by
  rcases q with q | ⟨o, its, n, e, hc, hd, _, hv⟩
  · obtain ⟨_, its, hv, o, e, hc, n, hd⟩ := (show ObjOk P w H h a (.tup xs) from q.ok hok)
    exact ⟨its, o, n, hv, e, hc, hd⟩
  · exact ⟨its.toList, o, n, hv, KX _ _ e, hc, by simp [hd]⟩
mutual
theorem Dw.reads (hok : HOk P w H h) (KX : K.In h) : ∀ (d : WData) (v : V) (u : Value), Dw K H v d → RelV v u → ∃ as, ReadsW R cl h u d as
  | .none, _, _, x, r => by
    cases x
    cases r
    exact ⟨_, ReadsW.none⟩
  | .bool b, _, _, x, r => by
    cases x
    cases r
    exact ⟨_, ReadsW.bool b⟩
  | .int i, _, _, x, r => by
    cases x
    obtain ⟨t, rfl⟩ := r
    exact ⟨_, ReadsW.int i t⟩
  | .str s, _, _, x, r => by
    cases x
    obtain ⟨t, rfl⟩ := r
    exact ⟨_, ReadsW.str s t⟩
  | .bytes b, _, _, x, r => by
    cases x
    obtain ⟨t, rfl⟩ := r
    exact ⟨_, ReadsW.bytes _ t⟩
  | .list ds, _, _, x, r => by
    cases x with
    | lst hs ha =>
      cases r
      obtain ⟨its, o, n, rv, ho, hc, hd⟩ := sqL_at hok KX hs
      obtain ⟨as, hr⟩ := Dw.readsAll hok KX ds _ its ha rv
      exact ⟨_, ReadsW.list ho hc hd hr⟩
  | .tuple ds, _, _, x, r => by
    cases x with
    | tup hs ha =>
      cases r
      obtain ⟨its, o, n, rv, ho, hc, hd⟩ := sqT_at hok KX hs
      obtain ⟨as, hr⟩ := Dw.readsAll hok KX ds _ its ha rv
      exact ⟨_, ReadsW.tuple ho hc hd hr⟩
  | .float _, _, _, x, _ => by cases x
  | .dict _, _, _, x, _ => by cases x
  | .bytearray _, _, _, x, _ => by cases x
  | .set _, _, _, x, _ => by cases x
  | .frozenset _, _, _, x, _ => by cases x
  | .obj _ _, _, _, x, _ => by cases x
theorem Dw.readsAll (hok : HOk P w H h) (KX : K.In h) : ∀ (ds : List WData) (vs : List V) (us : List Value), DwAll K H vs ds → Vals vs us → ∃ as, ReadsAllW R cl h us ds as
  | [], _, _, x, r => by
    cases x
    cases r
    exact ⟨_, ReadsAllW.nil⟩
  | d :: ds, _, _, x, r => by
    cases x with
    | cons h1 h2 =>
      cases r with
      | cons r1 r2 =>
        obtain ⟨as, q1⟩ := Dw.reads hok KX d _ _ h1 r1
        obtain ⟨bs, q2⟩ := Dw.readsAll hok KX ds _ _ h2 r2
        exact ⟨_, ReadsAllW.cons q1 q2⟩
end
end
/-! ### the arguments -/
mutual
/-- data that a codec tells -/
def plW : WData → Bool
  | .none => true
  | .bool _ => true
  | .int _ => true
  | .str _ => true
  | .bytes _ => true
  | .list xs => plWs xs
  | .tuple xs => plWs xs
  | _ => false
def plWs : List WData → Bool
  | [] => true
  | x :: r => plW x && plWs r
end
theorem plWs_map {α : Type} {f : α → WData} (h : ∀ a, plW (f a) = true) : ∀ l : List α, plWs (l.map f) = true
  | [] => rfl
  | x :: r => by
    show (plW (f x) && plWs (r.map f)) = true
    rw [h x, plWs_map h r] <;> rfl
theorem pl_enc : ∀ (c : Codec) (a : c.denote), plW (c.enc a) = true
  | .unit, _ => rfl
  | .bool, _ => rfl
  | .int _ _, _ => rfl
  | .nat _ _, _ => rfl
  | .u8, _ => rfl
  | .bytes _ _, _ => rfl
  | .text _ _ _ _, _ => rfl
  | .list _ _ c, a => plWs_map (fun x => pl_enc c x) a
  | .pair c d, a => by
    show (plW (c.enc a.1) && (plW (d.enc a.2) && true)) = true
    rw [pl_enc c a.1, pl_enc d a.2] <;> rfl
  | .triple c d e, a => by
    show (plW (c.enc a.1) && (plW (d.enc a.2.1) && (plW (e.enc a.2.2) && true))) = true
    rw [pl_enc c a.1, pl_enc d a.2.1, pl_enc e a.2.2] <;> rfl
  | .option c, none => rfl
  | .option c, some x => pl_enc c x
theorem pl_encAll : ∀ (cs : List Codec) (a : Codec.denoteAll cs), plWs (Codec.encAll cs a) = true
  | [], _ => rfl
  | c :: cs, a => by
    show (plW (c.enc a.1) && plWs (Codec.encAll cs a.2)) = true
    rw [pl_enc c a.1, pl_encAll cs a.2] <;> rfl
theorem weight_mem : ∀ {xs : List WData} {d : WData}, d ∈ xs → d.weight ≤ WData.weightAll xs
  | [], d, h => absurd h (by simp)
  | x :: r, d, h => by
    show d.weight ≤ x.weight + 1 + WData.weightAll r
    rcases List.mem_cons.mp h with e | m
    · rw [e]
      omega
    · have z := weight_mem m
      omega
def toV : Value → V
  | .none => .non
  | .bool b => .bl b
  | .int i _ => .int i
  | .str x _ => .str x
  | .bytes b _ => .byt b
  | .ref a => .ref a
  | _ => .non
/-- a value of the arguments, its objects among A -/
def OkU (A : List Addr) : Value → Prop
  | .none => True
  | .bool _ => True
  | .int _ _ => True
  | .str _ _ => True
  | .bytes _ _ => True
  | .ref a => a ∈ A
  | _ => False
theorem OkU.mono {A B : List Addr} (h : ∀ a ∈ A, a ∈ B) : ∀ {u : Value}, OkU A u → OkU B u := fun {u} x => by
  cases u with
  | ref a => exact h a x
  | none => trivial
  | bool b => trivial
  | int i t => trivial
  | str s t => trivial
  | bytes b t => trivial
  | _ => exact False.elim x
theorem relV_toV {A : List Addr} {u : Value} (x : OkU A u) : RelV (toV u) u := by
  cases u with
  | ref a => rfl
  | none => rfl
  | bool b => rfl
  | int i t => exact ⟨t, rfl⟩
  | str s t => exact ⟨t, rfl⟩
  | bytes b t => exact ⟨t, rfl⟩
  | _ => exact False.elim x
theorem vals_toV {A : List Addr} : ∀ {vs : List Value}, (∀ u ∈ vs, OkU A u) → Vals (vs.map toV) vs
  | [], _ => .nil
  | u :: r, h => .cons (relV_toV (h u (List.mem_cons_self ..))) (vals_toV fun x hx => h x (List.mem_cons_of_mem _ hx))
/-- an object of the arguments -/
def ArgOb (h : Heap) (A : List Addr) (a : Addr) : Prop := ∃ vs : List Value, vs.length ≤ sizeLine ∧ (∀ u ∈ vs, OkU A u) ∧
  (h.get? a = some { cls := .type "list", data := .seq vs.toArray } ∨ h.get? a = some { cls := .type "tuple", data := .seq vs.toArray })
theorem ArgOb.mono {h : Heap} {A B : List Addr} {a : Addr} (k : ∀ a ∈ A, a ∈ B) (x : ArgOb h A a) : ArgOb h B a := by
  obtain ⟨vs, h1, h2, h3⟩ := x
  exact ⟨vs, h1, fun u hu => (h2 u hu).mono k, h3⟩
theorem wellAll_len {P : Params} {h : Heap} : ∀ {vs : List Value} {ds : List WData}, WellAll P h vs ds → vs.length = ds.length
  | _, _, .nil => rfl
  | _, _, .cons _ b => by
    show _ + 1 = _ + 1
    rw [wellAll_len b]
theorem well_list {P : Params} {h : Heap} {v : Value} {ds : List WData} (x : Well P h v (.list ds)) : ∃ (a : Addr) (vs : List Value), v = .ref a ∧ h.get? a = some { cls := .type "list", data := .seq vs.toArray } ∧ WellAll P h vs ds := by
  cases x with
  | list ho hall => exact ⟨_, _, rfl, ho, hall⟩
theorem well_tuple {P : Params} {h : Heap} {v : Value} {ds : List WData} (x : Well P h v (.tuple ds)) : ∃ (a : Addr) (vs : List Value), v = .ref a ∧ h.get? a = some { cls := .type "tuple", data := .seq vs.toArray } ∧ WellAll P h vs ds := by
  cases x with
  | tuple ho hall => exact ⟨_, _, rfl, ho, hall⟩
theorem well_cons {P : Params} {h : Heap} {us : List Value} {d : WData} {ds : List WData} (x : WellAll P h us (d :: ds)) : ∃ (v : Value) (vs : List Value), us = v :: vs ∧ Well P h v d ∧ WellAll P h vs ds := by
  cases x with
  | cons a b => exact ⟨_, _, rfl, a, b⟩
theorem line_of {n : Nat} (h : n ≤ 1048576) : n ≤ sizeLine := Nat.le_trans h (by decide)
section
variable {P : Params} {h : Heap}
mutual
theorem area_one : ∀ (d : WData) (v : Value), Well P h v d → plW d = true → d.weight ≤ 1048576 → ∃ A : List Addr, OkU A v ∧ ∀ a ∈ A, ArgOb h A a
  | .none, _, x, _, _ => by
    cases x
    exact ⟨[], trivial, fun a m => absurd m (by simp)⟩
  | .bool b, _, x, _, _ => by
    cases x
    exact ⟨[], trivial, fun a m => absurd m (by simp)⟩
  | .int i, _, x, _, _ => by
    cases x
    exact ⟨[], trivial, fun a m => absurd m (by simp)⟩
  | .str s, _, x, _, _ => by
    cases x
    exact ⟨[], trivial, fun a m => absurd m (by simp)⟩
  | .bytes b, _, x, _, _ => by
    cases x
    exact ⟨[], trivial, fun a m => absurd m (by simp)⟩
  | .list ds, _, x, p, z => by
    obtain ⟨a, vs, rfl, ho, hall⟩ := well_list x
    have z2 : WData.weightAll ds ≤ 1048576 := z
    obtain ⟨A, h1, h2⟩ := area_all ds _ hall p fun d hd => Nat.le_trans (weight_mem hd) z2
    have k : ∀ b ∈ A, b ∈ a :: A := fun b hb => List.mem_cons_of_mem _ hb
    refine ⟨a :: A, List.mem_cons_self .., fun b hb => ?_⟩
    rcases List.mem_cons.mp hb with e | m
    · rw [e]
      exact ⟨vs, line_of (by rw [wellAll_len hall]; exact Nat.le_trans (PySem.W.length_le_weightAllW ds) z2), fun u hu => (h1 u hu).mono k, .inl ho⟩
    · exact (h2 b m).mono k
  | .tuple ds, _, x, p, z => by
    obtain ⟨a, vs, rfl, ho, hall⟩ := well_tuple x
    have z2 : WData.weightAll ds ≤ 1048576 := z
    obtain ⟨A, h1, h2⟩ := area_all ds _ hall p fun d hd => Nat.le_trans (weight_mem hd) z2
    have k : ∀ b ∈ A, b ∈ a :: A := fun b hb => List.mem_cons_of_mem _ hb
    refine ⟨a :: A, List.mem_cons_self .., fun b hb => ?_⟩
    rcases List.mem_cons.mp hb with e | m
    · rw [e]
      exact ⟨vs, line_of (by rw [wellAll_len hall]; exact Nat.le_trans (PySem.W.length_le_weightAllW ds) z2), fun u hu => (h1 u hu).mono k, .inr ho⟩
    · exact (h2 b m).mono k
  | .float _, _, _, p, _ => Bool.noConfusion (show false = true from p)
  | .dict _, _, _, p, _ => Bool.noConfusion (show false = true from p)
  | .bytearray _, _, _, p, _ => Bool.noConfusion (show false = true from p)
  | .set _, _, _, p, _ => Bool.noConfusion (show false = true from p)
  | .frozenset _, _, _, p, _ => Bool.noConfusion (show false = true from p)
  | .obj _ _, _, _, p, _ => Bool.noConfusion (show false = true from p)
theorem area_all : ∀ (ds : List WData) (vs : List Value), WellAll P h vs ds → plWs ds = true → (∀ d ∈ ds, d.weight ≤ 1048576) → ∃ A : List Addr, (∀ u ∈ vs, OkU A u) ∧ ∀ a ∈ A, ArgOb h A a
  | [], _, x, _, _ => by
    cases x
    exact ⟨[], fun u m => absurd m (by simp), fun a m => absurd m (by simp)⟩
  | d :: ds, _, x, p, z => by
    obtain ⟨v, vs, rfl, x1, x2⟩ := well_cons x
    have q : plW d = true ∧ plWs ds = true := Bool.and_eq_true_iff.mp p
    obtain ⟨A, a1, a2⟩ := area_one d v x1 q.1 (z d (List.mem_cons_self ..))
    obtain ⟨B, b1, b2⟩ := area_all ds vs x2 q.2 fun e he => z e (List.mem_cons_of_mem _ he)
    have kA : ∀ b ∈ A, b ∈ A ++ B := fun b hb => List.mem_append.mpr (.inl hb)
    have kB : ∀ b ∈ B, b ∈ A ++ B := fun b hb => List.mem_append.mpr (.inr hb)
    refine ⟨A ++ B, fun u hu => ?_, fun b hb => ?_⟩
    · rcases List.mem_cons.mp hu with e | m
      · rw [e]
        exact a1.mono kA
      · exact (b1 u m).mono kB
    · rcases List.mem_append.mp hb with m | m
      · exact (a2 b m).mono kA
      · exact (b2 b m).mono kB
end
end
/-- what is tracked of an argument's object -/
def hoOf (o : Obj) : Option HO := match o.data with
  | .seq vs _ => if (o.cls == Value.type "list") = true then some (.frz o (.lst (vs.toList.map toV))) else some (.frz o (.tup (vs.toList.map toV)))
  | _ => none
def argH (K : PySem.W.Frag) (h : Heap) (A : List Addr) : Hp := fun b => if b ∈ A then (if (K.lookup b).isNone = true then (h.get? b).bind hoOf else none) else none
/-- nothing is tracked but what is known to the object -/
def OnlyF (H : Hp) : Prop := ∀ b, H b = none ∨ ∃ o u, H b = some (.frz o u)
theorem hoOf_lst (vs : List Value) : hoOf { cls := .type "list", data := .seq vs.toArray } = some (.frz { cls := .type "list", data := .seq vs.toArray } (.lst (vs.map toV))) := by
  show (if (Value.type "list" == Value.type "list") = true then some (HO.frz { cls := .type "list", data := .seq vs.toArray } (.lst (vs.toArray.toList.map toV))) else some (HO.frz { cls := .type "list", data := .seq vs.toArray } (.tup (vs.toArray.toList.map toV)))) = _
  rw [if_pos (beq_self_eq_true _)]
theorem hoOf_tup (vs : List Value) : hoOf { cls := .type "tuple", data := .seq vs.toArray } = some (.frz { cls := .type "tuple", data := .seq vs.toArray } (.tup (vs.map toV))) := by
  show (if (Value.type "tuple" == Value.type "list") = true then some (HO.frz { cls := .type "tuple", data := .seq vs.toArray } (.lst (vs.toArray.toList.map toV))) else some (HO.frz { cls := .type "tuple", data := .seq vs.toArray } (.tup (vs.toArray.toList.map toV)))) = _
  rw [if_neg (by decide)]
section
variable {P : Program} {w : World} {K : PySem.W.Frag} {h : Heap} {A : List Addr}
theorem argH_at {b : Addr} {o : Obj} (hb : b ∈ A) (hk : K.lookup b = none) (e : h.get? b = some o) : argH K h A b = hoOf o := by
  unfold argH
  rw [if_pos hb, hk, if_pos (show (none : Option Obj).isNone = true from rfl), e] <;> rfl
theorem of_argH {b : Addr} {u : HO} (q : argH K h A b = some u) : b ∈ A ∧ K.lookup b = none := by
  unfold argH at q
  by_cases hb : b ∈ A
  · rw [if_pos hb] at q
    cases hk : K.lookup b with
    | none => exact ⟨hb, rfl⟩
    | some o =>
      rw [hk, if_neg (by simp)] at q
      cases q
  · rw [if_neg hb] at q
    cases q
/-- what stands tracked -/
theorem argH_is (ar : ∀ a ∈ A, ArgOb h A a) {b : Addr} {u : HO} (q : argH K h A b = some u) : K.lookup b = none ∧ ∃ vs : List Value, vs.length ≤ sizeLine ∧ (∀ u ∈ vs, OkU A u) ∧
    ((h.get? b = some { cls := .type "list", data := .seq vs.toArray } ∧ u = .frz { cls := .type "list", data := .seq vs.toArray } (.lst (vs.map toV))) ∨
     (h.get? b = some { cls := .type "tuple", data := .seq vs.toArray } ∧ u = .frz { cls := .type "tuple", data := .seq vs.toArray } (.tup (vs.map toV)))) := by
  obtain ⟨hb, hk⟩ := of_argH q
  obtain ⟨vs, h1, h2, h3⟩ := ar b hb
  refine ⟨hk, vs, h1, h2, ?_⟩
  rcases h3 with e | e
  · rw [argH_at hb hk e, hoOf_lst] at q
    exact .inl ⟨e, (Option.some.inj q).symm⟩
  · rw [argH_at hb hk e, hoOf_tup] at q
    exact .inr ⟨e, (Option.some.inj q).symm⟩
theorem argH_only (ar : ∀ a ∈ A, ArgOb h A a) : OnlyF (argH K h A) := fun b => by
  cases q : argH K h A b with
  | none => exact .inl rfl
  | some u =>
    obtain ⟨_, vs, _, _, ⟨_, e⟩ | ⟨_, e⟩⟩ := argH_is ar q
    · exact .inr ⟨_, _, by rw [e]⟩
    · exact .inr ⟨_, _, by rw [e]⟩
theorem argH_ok (ar : ∀ a ∈ A, ArgOb h A a) : HOk P w (argH K h A) h := fun b u q => by
  obtain ⟨_, vs, h1, h2, ⟨e, rfl⟩ | ⟨e, rfl⟩⟩ := argH_is ar q
  · exact ⟨e, by rw [List.length_map]; exact h1, vs, _, vals_toV h2, e⟩
  · exact ⟨e, by rw [List.length_map]; exact h1, vs, vals_toV h2, _, e, rfl, _, rfl⟩
theorem seq_inj {c c' : Value} {vs us : List Value} (e : (some { cls := c, data := .seq vs.toArray } : Option Obj) = some { cls := c', data := .seq us.toArray }) : c = c' ∧ vs = us := by
  have e1 := Option.some.inj e
  have e2 : c = c' := congrArg Obj.cls e1
  have e3 : Data.seq vs.toArray = Data.seq us.toArray := congrArg Obj.data e1
  injection e3 with e4
  refine ⟨e2, ?_⟩
  have e5 := congrArg Array.toList e4
  simpa using e5
/-- a list argument -/
theorem argL (KX : K.In h) (ar : ∀ a ∈ A, ArgOb h A a) {a : Addr} {vs : List Value} (ha : a ∈ A) (e : h.get? a = some { cls := .type "list", data := .seq vs.toArray }) : (∀ u ∈ vs, OkU A u) ∧ SqL K (argH K h A) a (vs.map toV) := by
  obtain ⟨us, h1, h2, h3⟩ := ar a ha
  have hu : us = vs := by
    rcases h3 with q | q
    · rw [e] at q
      exact (seq_inj q).2.symm
    · rw [e] at q
      exact absurd (Value.type.inj (seq_inj q).1) (by decide)
  subst hu
  refine ⟨h2, ?_⟩
  cases hk : K.lookup a with
  | none => exact .inl (.inr ⟨_, by rw [argH_at ha hk e, hoOf_lst]⟩)
  | some o =>
    have e2 := KX a o hk
    rw [e] at e2
    obtain rfl := Option.some.inj e2
    exact .inr ⟨_, us.toArray, _, hk, rfl, rfl, rfl, by rw [List.size_toArray]; exact h1, by simpa using vals_toV h2⟩
theorem argT (KX : K.In h) (ar : ∀ a ∈ A, ArgOb h A a) {a : Addr} {vs : List Value} (ha : a ∈ A) (e : h.get? a = some { cls := .type "tuple", data := .seq vs.toArray }) : (∀ u ∈ vs, OkU A u) ∧ SqT K (argH K h A) a (vs.map toV) := by
  obtain ⟨us, h1, h2, h3⟩ := ar a ha
  have hu : us = vs := by
    rcases h3 with q | q
    · rw [e] at q
      exact absurd (Value.type.inj (seq_inj q).1) (by decide)
    · rw [e] at q
      exact (seq_inj q).2.symm
  subst hu
  refine ⟨h2, ?_⟩
  cases hk : K.lookup a with
  | none => exact .inl (.inr ⟨_, by rw [argH_at ha hk e, hoOf_tup]⟩)
  | some o =>
    have e2 := KX a o hk
    rw [e] at e2
    obtain rfl := Option.some.inj e2
    exact .inr ⟨_, us.toArray, _, hk, rfl, rfl, by rw [List.size_toArray]; exact h1, by simpa using vals_toV h2⟩
mutual
theorem dw_one {Pm : Params} (KX : K.In h) (ar : ∀ a ∈ A, ArgOb h A a) : ∀ (d : WData) (v : Value), Well Pm h v d → plW d = true → OkU A v → Dw K (argH K h A) (toV v) d
  | .none, _, x, _, _ => by
    cases x
    exact .non
  | .bool b, _, x, _, _ => by
    cases x
    exact .bl b
  | .int i, _, x, _, _ => by
    cases x
    exact .int i
  | .str s, _, x, _, _ => by
    cases x
    exact .str s
  | .bytes b, _, x, _, _ => by
    cases x
    have z := Dw.byt (K := K) (H := argH K h A) b.toArray
    exact z
  | .list ds, _, x, p, hu => by
    obtain ⟨a, vs, rfl, ho, hall⟩ := well_list x
    obtain ⟨h2, hs⟩ := argL KX ar hu ho
    exact .lst hs (dw_all KX ar ds _ hall p h2)
  | .tuple ds, _, x, p, hu => by
    obtain ⟨a, vs, rfl, ho, hall⟩ := well_tuple x
    obtain ⟨h2, hs⟩ := argT KX ar hu ho
    exact .tup hs (dw_all KX ar ds _ hall p h2)
  | .float _, _, _, p, _ => Bool.noConfusion (show false = true from p)
  | .dict _, _, _, p, _ => Bool.noConfusion (show false = true from p)
  | .bytearray _, _, _, p, _ => Bool.noConfusion (show false = true from p)
  | .set _, _, _, p, _ => Bool.noConfusion (show false = true from p)
  | .frozenset _, _, _, p, _ => Bool.noConfusion (show false = true from p)
  | .obj _ _, _, _, p, _ => Bool.noConfusion (show false = true from p)
theorem dw_all {Pm : Params} (KX : K.In h) (ar : ∀ a ∈ A, ArgOb h A a) : ∀ (ds : List WData) (vs : List Value), WellAll Pm h vs ds → plWs ds = true → (∀ u ∈ vs, OkU A u) → DwAll K (argH K h A) (vs.map toV) ds
  | [], _, x, _, _ => by
    cases x
    exact .nil
  | d :: ds, _, x, p, hu => by
    obtain ⟨v, vs, rfl, x1, x2⟩ := well_cons x
    have q : plW d = true ∧ plWs ds = true := Bool.and_eq_true_iff.mp p
    exact .cons (dw_one KX ar d v x1 q.1 (hu _ (List.mem_cons_self ..))) (dw_all KX ar ds vs x2 q.2 fun u m => hu u (List.mem_cons_of_mem _ m))
end
end
/-! ### the call -/
theorem spec_call {P : Program} {w : World} {K : PySem.W.Frag} {mg mb : Str → Option Value} {CX : CXT} {k : Nat} {fa : Addr} {fd : FuncData} {ps : List Str} {sp : Sp} {s₁ : Shared} {vals : List Value} {ds : List WData} {R : PySem.W.WRecords} {cl : Str → Option Addr} {d0 : WData}
    (KX : K.In s₁.heap) (hns : s₁.heap.Ns mainGlobals mg) (hb : s₁.heap.Ns builtinsNs mb) (hbb : ∀ x : Str, x ≠ "__name__" → mb x = bootBuiltins x) (hlim : s₁.heap.NoLimit) (hg : s₁.gens = #[])
    (hwl : WellAll w.params s₁.heap vals ds) (hpl : plWs ds = true) (hwt : ∀ d ∈ ds, d.weight ≤ 1048576) (hr : Room k callerA)
    (F : ∀ base : Heap, K.In base → base.Ns mainGlobals mg → FnOk P w K mg base CX k fa fd ps sp) (hbind : ∀ (s : Shared) (us : List Value), us.length = ps.length → BindsTo s fd ⟨us, []⟩ (ps.zip us)) (hlen : ds.length = ps.length)
    (hsp : ∀ (H : Hp) (xs : List V), OnlyF H → DwAll K H xs ds → sp xs H (fun v H' => Dw K H' v d0) fun _ _ _ => False)
    (hCX : ∀ H e s', CX [] H s₁ (fun _ _ _ => False) e s' → False) :
    codeAny (model P w) callerA (.call (.ref fa) ⟨vals, []⟩) (fun r s' => ∃ u as, r = .ok (.ret u) ∧ ReadsW R cl s'.heap u d0 as ∧ OldK s₁.heap s'.heap ∧ s'.os = s₁.os ∧ AllBare s'.gens) s₁ := by
  obtain ⟨A, ho, ar⟩ := area_all ds vals hwl hpl hwt
  have hO : OnlyF (argH K s₁.heap A) := argH_only ar
  have hok : HOk P w (argH K s₁.heap A) s₁.heap := argH_ok ar
  have hS := dw_all KX ar ds vals hwl hpl ho
  have hV := vals_toV ho
  have hK : ∀ b u, argH K s₁.heap A b = some u → K.lookup b = none := fun b u q => (argH_is ar q).1
  have noA : ∀ {b : Addr} {o : Obj} {es : Array DictEntry} {ep : Nat}, s₁.heap.get? b = some o → o.data = .dict es ep → argH K s₁.heap A b = none := fun {b o es ep} e d => by
    cases q : argH K s₁.heap A b with
    | none => rfl
    | some u =>
      obtain ⟨_, vs, _, _, ⟨e2, _⟩ | ⟨e2, _⟩⟩ := argH_is ar q
      · rw [e2] at e
        cases e
        have d' : Data.seq vs.toArray _ = Data.dict es ep := d
        cases d'
      · rw [e2] at e
        cases e
        have d' : Data.seq vs.toArray _ = Data.dict es ep := d
        cases d'
  generalize argH K s₁.heap A = H at hO hok hS hK noA
  have base_of : ∀ {b : Addr} {o : Obj}, s₁.heap.get? b = some o → H b = none → (hidT s₁.heap H).get? b = some o := fun e n => hidT_get e n
  have nsK : ∀ {b : Addr} {m : Str → Option Value}, s₁.heap.Ns b m → (hidT s₁.heap H).Ns b m := fun {b m} ⟨o, es, ep, e, d, r⟩ => ⟨o, es, ep, base_of e (noA e d), d, r⟩
  have nK : ∀ b o, K.lookup b = some o → H b = none := fun b o e => by
    cases q : H b with
    | none => rfl
    | some u =>
      rw [hK b u q] at e
      cases e
  have hKb : K.In (hidT s₁.heap H) := fun b o e => base_of (KX b o e) (nK b o e)
  have hM : Mod K mg (hidT s₁.heap H) := ⟨hKb, nsK hns, ⟨mb, nsK hb, hbb⟩, let ⟨mc, h1, h2⟩ := hlim; ⟨mc, nsK h1, h2⟩⟩
  have e0 : Env0 P w K mg (hidT s₁.heap H) callerA [] s₁ H := ⟨rfl, hM, fun b o e => of_hidT e, Nat.le_of_eq (hidT_size _ _), trivial, fun b hb => absurd (show b ∈ ([] : List Addr) from hb) (by simp), hok, .of_eq hg⟩
  have hl : vals.length = ps.length := by rw [wellAll_len hwl]; exact hlen
  refine codeAny_mono ((F _ hKb (nsK hns)).run callerA [] s₁ H ⟨vals, []⟩ vals (vals.map toV) _ _ hr e0 (hbind s₁ vals hl) hV (hsp H _ hO hS)) fun r s' x => ?_
  cases r with
  | error e => exact (hCX H e s' x).elim
  | ok fl =>
    cases fl with
    | next => exact False.elim x
    | brk => exact False.elim x
    | cont => exact False.elim x
    | ret u =>
      obtain ⟨v, H', os, bare, un, hok', r', q⟩ := x
      have kept : ∀ b o, s₁.heap.get? b = some o → s'.heap.get? b = some o := fun b o e => by
        cases q2 : H b with
        | none => exact un.keep b o e q2 (by intro z; exact absurd (show b ∈ ([] : List Addr) from z) (by simp)) (by simp)
        | some u2 =>
          rcases hO b with z | ⟨ob, u3, z⟩
          · rw [q2] at z
            cases z
          · have z2 := un.frzs b ob _ z
            obtain ⟨e1, _⟩ := hok b _ z
            obtain ⟨e2, _⟩ := hok' b _ z2
            rw [e] at e1
            cases e1
            exact e2
      have KX' : K.In s'.heap := fun b o e => kept b o (KX b o e)
      obtain ⟨as, hrd⟩ := Dw.reads (R := R) (cl := cl) hok' KX' d0 v u q r'
      exact ⟨u, as, rfl, hrd, OldK.of_keep kept, os, bare⟩
/-! ### the row -/
theorem layable_weight {ds : List WData} (h : WData.layableAll ds = true) : ∀ d ∈ ds, d.weight ≤ 1048576 := fun d hd =>
  (PySem.W.layableW_iff.mp (List.all_eq_true.mp h d hd)).2.2
theorem encAll_len : ∀ (cs : List Codec) (a : Codec.denoteAll cs), (Codec.encAll cs a).length = cs.length
  | [], _ => rfl
  | c :: cs, a => by
    show (Codec.encAll cs a.2).length + 1 = cs.length + 1
    rw [encAll_len cs a.2]
/-- the goal that k_headS leaves (case hc), from the promise of the row's def: whatever the arguments that the codecs let and the row asks for, the def gives what stands for enc (f ..) -/
theorem walk_spec {r : OpenSpec} {k : Nat} {q : Program} {loose : List Str} {XP : (Str → Option Value) → Heap → Prop} {YP : World → Heap → Prop} {d : DefRec} {K : Params → PySem.W.Frag} {CX : World → CXT} {ps : List Str} {sp : World → Sp}
    (hwell : r.wellSaid = true) (hdf : d.params.defaults = []) (hlen : r.args.length = ps.length) (hr : Room k callerA)
    (hY : ∀ (w : World) (h : Heap), YP w h → (K w.params).In h)
    (F : ∀ (w : World) (mg : Str → Option Value) (fa : Addr) (h : Heap), YP w h → (K w.params).In h → h.Ns mainGlobals mg → mg d.name = some (.ref fa) →
      ∃ fd : FuncData, (∀ (s : Shared) (us : List Value), us.length = ps.length → BindsTo s fd ⟨us, []⟩ (ps.zip us)) ∧
        ∀ base : Heap, (K w.params).In base → base.Ns mainGlobals mg → FnOk r.prog w (K w.params) mg base (CX w) k fa fd ps (sp w))
    (hsp : ∀ (w : World) (H : Hp) (xs : List V) (a : Codec.denoteAll r.args), OnlyF H → Codec.withinAll r.args a = true → Codec.app r.args r.asked a = true → DwAll (K w.params) H xs (Codec.encAll r.args a) →
      sp w xs H (fun v H' => Dw (K w.params) H' v (r.ret.enc (Codec.app r.args r.f a))) fun _ _ _ => False)
    (hCX : ∀ (w : World) (H : Hp) (s : Shared) (e : Value) (s' : Shared), CX w [] H s (fun _ _ _ => False) e s' → False) :
    PySem.W.WalkOS q loose XP YP r d [] (fun f vs => PySem.call f vs) := by
  intro w s_0 s₁ mg mb G Y fa o pm cd doc dV kV ho hd hcd hD hmg hg args vals as hpre hlay hrd hwl hlo
  obtain ⟨a, e1, e2⟩ := PySem.W.os_pre_some hpre
  obtain ⟨e3, hwi⟩ := Codec.encAll_of_decAll r.args args a e1
  subst e3
  have KX := hY w _ Y
  obtain ⟨fd, hb, hF⟩ := F w mg fa _ Y KX G.T.g hmg
  refine PySem.W.enter_call (codeAny_mono (spec_call (R := []) (cl := classAt s_0.heap) (d0 := r.ret.enc (Codec.app r.args r.f a)) KX G.T.g G.T.b G.T.builtins G.T.nolimit hg hwl (pl_encAll _ _) (layable_weight hlay) hr hF hb (by rw [encAll_len]; exact hlen)
    (fun H xs hO hS => hsp w H xs a hO hwi e2 hS) fun H e s' => hCX w H s₁ e s') fun r' s' hq => ?_)
  obtain ⟨u, as', rfl, h1, h2, h3, h4⟩ := hq
  exact ⟨.inl ⟨u, _, as', rfl, fun _ => rfl, h1, (OpenSpec.post_iff hwell hwi _ _).mpr rfl, fun z => Bool.noConfusion (show false = true from z)⟩, h2, h3, h4⟩
/-- the same where the promise hangs on the written part alone -/
theorem walk_specK {r : OpenSpec} {k : Nat} {q : Program} {loose : List Str} {XP : (Str → Option Value) → Heap → Prop} {YP : World → Heap → Prop} {d : DefRec} {K : Params → PySem.W.Frag} {CX : CXT} {ps : List Str} {sp : PySem.W.Frag → Sp}
    (hwell : r.wellSaid = true) (hdf : d.params.defaults = []) (hlen : r.args.length = ps.length) (hr : Room k callerA)
    (hY : ∀ (w : World) (h : Heap), YP w h → (K w.params).In h)
    (F : ∀ (w : World) (mg : Str → Option Value) (fa : Addr) (h : Heap), YP w h → (K w.params).In h → h.Ns mainGlobals mg → mg d.name = some (.ref fa) →
      ∃ fd : FuncData, (∀ (s : Shared) (us : List Value), us.length = ps.length → BindsTo s fd ⟨us, []⟩ (ps.zip us)) ∧
        ∀ base : Heap, (K w.params).In base → base.Ns mainGlobals mg → FnOk r.prog w (K w.params) mg base CX k fa fd ps (sp (K w.params)))
    (hsp : ∀ (K : PySem.W.Frag) (H : Hp) (xs : List V) (a : Codec.denoteAll r.args), OnlyF H → Codec.withinAll r.args a = true → Codec.app r.args r.asked a = true → DwAll K H xs (Codec.encAll r.args a) →
      sp K xs H (fun v H' => Dw K H' v (r.ret.enc (Codec.app r.args r.f a))) fun _ _ _ => False)
    (hCX : ∀ (H : Hp) (s : Shared) (e : Value) (s' : Shared), CX [] H s (fun _ _ _ => False) e s' → False) :
    PySem.W.WalkOS q loose XP YP r d [] (fun f vs => PySem.call f vs) :=
  walk_spec (K := K) (CX := fun _ => CX) (sp := fun w => sp (K w.params)) hwell hdf hlen hr hY F (fun w H xs a h1 h2 h3 h4 => hsp (K w.params) H xs a h1 h2 h3 h4) fun _ H s e s' => hCX H s e s'
end L2
-- rests on (row put in by the clerk, for the bench that shows a file only what it spells): KE.SpHead KE.OsShapes
end
set_option linter.all false
namespace FM
open Fb

/-! ### 1. The flat list: calls, one behind another -/
def encN (l : List Nat) : List Int := l.map fun (n : Nat) => (n : Int)
def enc : Fb.Call → List Int
  | .add ps => 0 :: (ps.length : Int) :: encN ps
  | .count => [1]
  | .before a b => [2, (a : Int), (b : Int)]
  | .start c => [3, (c : Int)]
  | .mark c k => [4, (c : Int), (k : Int)]
  | .undo => [5]
  | .left => [6]
  | .list => [7]
  | .next => [8]
  | .split c => [9, (c : Int)]
  | .rest => [10]
def encs : List Fb.Call → List Int
  | [] => []
  | q :: r => enc q ++ encs r
def outs : Fb.State → List Fb.Call → List Int
  | _, [] => []
  | s, q :: r => (((FbNeutral.shown (Fb.step s q).2).length : Nat) : Int) :: (FbNeutral.shown (Fb.step s q).2 ++ outs (Fb.step s q).1 r)

theorem whole_id (c : List (List Int)) : PyWqasak.whole c = c := by
  unfold PyWqasak.whole
  split <;> rfl
theorem whole_map : ∀ cs : List (List (List Int)), cs.map PyWqasak.whole = cs
  | [] => rfl
  | c :: cs => by rw [List.map_cons, whole_id, whole_map cs]
theorem nats_enc : ∀ (r : List Int), (r.all fun (z : Int) => decide (0 ≤ z)) = true → encN (FbNeutral.nats r) = r
  | [], _ => rfl
  | z :: r, h => by
    rw [List.all_cons, Bool.and_eq_true] at h
    have h1 : 0 ≤ z := of_decide_eq_true h.1
    have ih := nats_enc r h.2
    show ((z.toNat : Nat) : Int) :: encN (FbNeutral.nats r) = z :: r
    rw [ih, Int.toNat_of_nonneg h1]
/-- a call that may be asked is one of the document's, and written so -/
theorem call_of {c : List (List Int)} (h : FbNeutral.asked1 c = true) : ∃ q, FbNeutral.specCall c = some q ∧ PyFlat.put1 c = enc q := by
  unfold FbNeutral.asked1 at h
  split at h
  · rename_i r0
    refine ⟨.add (FbNeutral.nats r0), rfl, ?_⟩
    show (0 : Int) :: (((r0.length : Nat) : Int) :: r0 ++ []) = (0 : Int) :: ((((FbNeutral.nats r0).length : Nat) : Int) :: encN (FbNeutral.nats r0))
    rw [nats_enc r0 h, List.append_nil]
    unfold FbNeutral.nats
    rw [List.length_map]
  · exact ⟨.count, rfl, rfl⟩
  · rename_i a b
    rw [Bool.and_eq_true] at h
    have h1 : 0 ≤ a := of_decide_eq_true h.1
    have h2 : 0 ≤ b := of_decide_eq_true h.2
    refine ⟨.before a.toNat b.toNat, rfl, ?_⟩
    show ([2, a, b] : List Int) = [2, ((a.toNat : Nat) : Int), ((b.toNat : Nat) : Int)]
    rw [Int.toNat_of_nonneg h1, Int.toNat_of_nonneg h2]
  · rename_i a
    have h1 : 0 ≤ a := of_decide_eq_true h
    refine ⟨.start a.toNat, rfl, ?_⟩
    show ([3, a] : List Int) = [3, ((a.toNat : Nat) : Int)]
    rw [Int.toNat_of_nonneg h1]
  · rename_i a b
    rw [Bool.and_eq_true] at h
    have h1 : 0 ≤ a := of_decide_eq_true h.1
    have h2 : 0 ≤ b := of_decide_eq_true h.2
    refine ⟨.mark a.toNat b.toNat, rfl, ?_⟩
    show ([4, a, b] : List Int) = [4, ((a.toNat : Nat) : Int), ((b.toNat : Nat) : Int)]
    rw [Int.toNat_of_nonneg h1, Int.toNat_of_nonneg h2]
  · exact ⟨.undo, rfl, rfl⟩
  · exact ⟨.left, rfl, rfl⟩
  · exact ⟨.list, rfl, rfl⟩
  · exact ⟨.next, rfl, rfl⟩
  · rename_i a
    have h1 : 0 ≤ a := of_decide_eq_true h
    refine ⟨.split a.toNat, rfl, ?_⟩
    show ([9, a] : List Int) = [9, ((a.toNat : Nat) : Int)]
    rw [Int.toNat_of_nonneg h1]
  · exact ⟨.rest, rfl, rfl⟩
  · cases h
theorem calls_of : ∀ (cs : List (List (List Int))), (cs.all FbNeutral.asked1) = true → ∃ qs : List Fb.Call, qs.length = cs.length ∧ PyFlat.put cs = encs qs ∧
    ∀ s, PyFlat.told (PyFlat.played FbNeutral.step s cs) = outs s qs
  | [], _ => ⟨[], rfl, rfl, fun _ => rfl⟩
  | c :: cs, h => by
    rw [List.all_cons, Bool.and_eq_true] at h
    obtain ⟨q, e1, e2⟩ := call_of h.1
    obtain ⟨qs, l1, l2, l3⟩ := calls_of cs h.2
    refine ⟨q :: qs, by rw [List.length_cons, List.length_cons, l1], ?_, fun s => ?_⟩
    · show PyFlat.put1 c ++ PyFlat.put cs = enc q ++ encs qs
      rw [e2, l2]
    · have e3 : FbNeutral.step s c = ((Fb.step s q).1, FbNeutral.shown (Fb.step s q).2) := by
        unfold FbNeutral.step
        rw [e1]
      show (((FbNeutral.step s c).2.length : Nat) : Int) :: (FbNeutral.step s c).2 ++ PyFlat.told (PyFlat.played FbNeutral.step (FbNeutral.step s c).1 cs) = outs s (q :: qs)
      rw [e3, l3]
      rfl
/-- what may be handed in is the flat list of at most 60 calls, and what is due is their answers -/
theorem asked_of {l : List Int} (h : PyWqasak.answers_asked l = true) : ∃ qs : List Fb.Call, qs.length ≤ 60 ∧ l = encs qs ∧ PyWqasak.answers l = outs Fb.start qs := by
  unfold PyWqasak.answers_asked PyWqasak.calls at h
  cases e : PyFlat.calls PyWqasak.shape l.length l with
  | none =>
    rw [e] at h
    cases h
  | some cs =>
    rw [e] at h
    have h' : (PyFlat.atMost 60 (cs.map PyWqasak.whole) && FbNeutral.asked (cs.map PyWqasak.whole)) = true := h
    rw [whole_map] at h'
    rw [Bool.and_eq_true] at h'
    obtain ⟨h1, h2⟩ := h'
    have h3 : cs.length ≤ 60 := of_decide_eq_true h1
    unfold FbNeutral.asked at h2
    rw [Bool.and_eq_true, Bool.and_eq_true, Bool.and_eq_true] at h2
    obtain ⟨qs, l1, l2, l3⟩ := calls_of cs h2.1.1.1
    obtain ⟨p1, _⟩ := PyFlat.put_calls _ _ _ e
    refine ⟨qs, by omega, p1.trans l2, ?_⟩
    unfold PyWqasak.answers PyWqasak.calls
    rw [e]
    show PyFlat.told (PyFlat.played FbNeutral.step FbNeutral.start (cs.map PyWqasak.whole)) = outs Fb.start qs
    rw [whole_map]
    exact l3 _
end FM
set_option linter.all false
namespace FM
open Fb

/-! ### 2. Histories: a new change's row -/
def newRow (r : List (List Nat)) (ps : List Nat) : List Nat := ((List.range r.length).filter fun (x : Nat) => ps.any fun (p : Nat) => (r.getD p []).contains x) ++ [r.length]
theorem rows_snoc (h : Hist) (ps : List Nat) : rowsOf (h ++ [ps]) = rowsOf h ++ [newRow (rowsOf h) ps] := by
  unfold rowsOf
  rw [List.foldl_append]
  rfl
theorem rows_nil : rowsOf [] = [] := rfl
theorem snoc_ind {α : Type} {P : List α → Prop} (h0 : P []) (h1 : ∀ l x, P l → P (l ++ [x])) (l : List α) : P l := by
  have h : ∀ (m : List α), P m.reverse := by
    intro m
    induction m with
    | nil => exact h0
    | cons a m ih => rw [List.reverse_cons]; exact h1 _ _ ih
  have e := h l.reverse
  rwa [List.reverse_reverse] at e
theorem rows_length (h : Hist) : (rowsOf h).length = h.length := by
  induction h using snoc_ind with
  | h0 => rfl
  | h1 l x ih => rw [rows_snoc, List.length_append, List.length_append, ih]; rfl
theorem bf_old {h : Hist} {ps : List Nat} {a b : Nat} (hb : b < h.length) : isBefore (rowsOf (h ++ [ps])) a b = isBefore (rowsOf h) a b := by
  unfold isBefore
  have e : (rowsOf (h ++ [ps])).getD b [] = (rowsOf h).getD b [] := by
    rw [rows_snoc, List.getD_eq_getElem?_getD, List.getD_eq_getElem?_getD, List.getElem?_append_left (by rw [rows_length]; exact hb)]
  rw [e]
theorem mem_newRow {r : List (List Nat)} {ps : List Nat} {x : Nat} : x ∈ newRow r ps ↔ x = r.length ∨ (x < r.length ∧ ∃ p ∈ ps, isBefore r x p = true) := by
  unfold newRow
  rw [List.mem_append, List.mem_filter, List.mem_range, List.any_eq_true, List.mem_singleton]
  exact Or.comm
theorem bf_new_iff {h : Hist} {ps : List Nat} {a : Nat} : isBefore (rowsOf (h ++ [ps])) a h.length = true ↔ a = h.length ∨ (a < h.length ∧ ∃ p ∈ ps, isBefore (rowsOf h) a p = true) := by
  have e : (rowsOf (h ++ [ps])).getD h.length [] = newRow (rowsOf h) ps := by
    rw [rows_snoc, List.getD_eq_getElem?_getD, List.getElem?_append_right (by rw [rows_length]; exact Nat.le_refl _), rows_length, Nat.sub_self]
    rfl
  unfold isBefore
  rw [e, List.contains_iff_mem, mem_newRow, rows_length]
  rfl
theorem bf_le (h : Hist) : ∀ {a b : Nat}, isBefore (rowsOf h) a b = true → a ≤ b ∧ b < h.length := by
  induction h using snoc_ind with
  | h0 =>
    intro a b e
    simp [isBefore, rows_nil] at e
  | h1 l ps ih =>
    intro a b e
    rw [List.length_append]
    by_cases hb : b < l.length
    · rw [bf_old hb] at e
      have := ih e
      exact ⟨this.1, by omega⟩
    · by_cases hb2 : b = l.length
      · subst hb2
        rw [bf_new_iff] at e
        refine ⟨?_, by simp⟩
        rcases e with e | e
        · omega
        · omega
      · exfalso
        unfold isBefore at e
        rw [List.getD_eq_getElem?_getD, List.getElem?_eq_none (by rw [rows_length, List.length_append]; simp; omega)] at e
        cases e
theorem bf_self {h : Hist} {a : Nat} (ha : a < h.length) : isBefore (rowsOf h) a a = true := by
  induction h using snoc_ind with
  | h0 => simp at ha
  | h1 l ps ih =>
    by_cases hb : a < l.length
    · rw [bf_old hb]
      exact ih hb
    · have : a = l.length := by rw [List.length_append] at ha; simp at ha; omega
      subst this
      exact bf_new_iff.mpr (.inl rfl)

/-! ### 3. Who is left -/
theorem left_mem {h : Hist} {s : Search} {x : Nat} : x ∈ left h s ↔ isBefore (rowsOf h) x s.start = true ∧ s.marks.all (agrees (rowsOf h) x) = true := by
  unfold left
  rw [List.mem_filter, List.mem_range, Bool.and_eq_true]
  constructor
  · exact fun h => h.2
  · exact fun k => ⟨by have := bf_le _ k.1; omega, k⟩

/-! ### 4. The next try and the rest -/
def best (r : List (List Nat)) (skip : Nat → Bool) (l : List Nat) (n : Nat) : Option (Nat × Nat) :=
  (List.range n).foldl (fun (b : Option (Nat × Nat)) (c : Nat) => let n := share r l c
    if skip c = true ∨ n = 0 then b else match b with
      | none => some (c, n)
      | some x => if x.2 < n then some (c, n) else some x) none
theorem next_best (r : List (List Nat)) (skip : Nat → Bool) (l : List Nat) : nextTry r skip l = (best r skip l r.length).map fun x => x.1 := rfl
theorem best_zero {r : List (List Nat)} {skip : Nat → Bool} {l : List Nat} : best r skip l 0 = none := rfl
theorem best_succ {r : List (List Nat)} {skip : Nat → Bool} {l : List Nat} {n : Nat} : best r skip l (n + 1) =
    if skip n = true ∨ share r l n = 0 then best r skip l n else match best r skip l n with
      | none => some (n, share r l n)
      | some x => if x.2 < share r l n then some (n, share r l n) else some x := by
  unfold best
  rw [List.range_succ, List.foldl_append]
  rfl
/-- what stands in best: a change of that share, above 0, not skipped -/
theorem best_some {r : List (List Nat)} {skip : Nat → Bool} {l : List Nat} : ∀ {n : Nat} {x : Nat × Nat}, best r skip l n = some x → x.1 < n ∧ skip x.1 = false ∧ x.2 = share r l x.1 ∧ 0 < x.2
  | 0, x, h => by rw [best_zero] at h; cases h
  | n + 1, x, h => by
    rw [best_succ] at h
    split at h
    · have := best_some h
      exact ⟨by omega, this.2⟩
    · rename_i hc
      have h1 : skip n = false := by
        cases e : skip n with
        | true => exact absurd (.inl e) hc
        | false => rfl
      have h2 : 0 < share r l n := by
        cases e : share r l n with
        | zero => exact absurd (.inr e) hc
        | succ k => omega
      split at h
      · cases h
        exact ⟨by simp, h1, rfl, h2⟩
      · rename_i y hy
        split at h
        · cases h
          exact ⟨by simp, h1, rfl, h2⟩
        · cases h
          have := best_some hy
          exact ⟨by omega, this.2⟩
theorem next_some {r : List (List Nat)} {skip : Nat → Bool} {l : List Nat} {c : Nat} (h : nextTry r skip l = some c) : c < r.length ∧ skip c = false ∧ 0 < share r l c := by
  rw [next_best] at h
  cases e : best r skip l r.length with
  | none => rw [e] at h; cases h
  | some x =>
    rw [e] at h
    cases h
    have := best_some e
    exact ⟨this.1, this.2.1, by rw [← this.2.2.1]; exact this.2.2.2⟩
theorem parts (r : List (List Nat)) (l : List Nat) (c : Nat) : (inside r l c).length + (outside r l c).length = l.length := by
  unfold inside outside
  induction l with
  | nil => rfl
  | cons x l ih =>
    rw [List.filter_cons, List.filter_cons]
    cases isBefore r x c <;> simp <;> omega
theorem outside_len (r : List (List Nat)) (l : List Nat) (c : Nat) : l.length - (inside r l c).length = (outside r l c).length := by
  have := parts r l c
  omega
theorem share_pos {r : List (List Nat)} {l : List Nat} {c : Nat} (h : 0 < share r l c) : (inside r l c).length < l.length ∧ (outside r l c).length < l.length := by
  unfold share at h
  have e := parts r l c
  have e2 : 0 < min (inside r l c).length (l.length - (inside r l c).length) := h
  omega
theorem rest_fuel {r : List (List Nat)} {skip : Nat → Bool} : ∀ (n : Nat) (l : List Nat) (f g : Nat), l.length ≤ n → l.length ≤ f → l.length ≤ g → rest r skip f l = rest r skip g l := by
  intro n
  induction n with
  | zero =>
    intro l f g h1 h2 h3
    have hl : l = [] := List.length_eq_zero_iff.mp (by omega)
    subst hl
    have hn : nextTry r skip [] = none := by
      cases e : nextTry r skip [] with
      | none => rfl
      | some c => have := share_pos (next_some e).2.2; simp at this
    have hz : ∀ f, rest r skip f [] = 0 := by
      intro f
      cases f with
      | zero => rfl
      | succ f =>
        show (match nextTry r skip [] with
          | some c => 1 + max (rest r skip f (inside r [] c)) (rest r skip f (outside r [] c))
          | none => 0) = 0
        rw [hn]
    rw [hz, hz]
  | succ n ih =>
    intro l f g h1 h2 h3
    cases hn : nextTry r skip l with
    | none =>
      have hz : ∀ f, rest r skip f l = 0 := by
        intro f
        cases f with
        | zero => rfl
        | succ f =>
          show (match nextTry r skip l with
            | some c => 1 + max (rest r skip f (inside r l c)) (rest r skip f (outside r l c))
            | none => 0) = 0
          rw [hn]
      rw [hz, hz]
    | some c =>
      have hs := share_pos (next_some hn).2.2
      cases f with
      | zero => omega
      | succ f =>
        cases g with
        | zero => omega
        | succ g =>
          show (match nextTry r skip l with
            | some c => 1 + max (rest r skip f (inside r l c)) (rest r skip f (outside r l c))
            | none => 0) = (match nextTry r skip l with
            | some c => 1 + max (rest r skip g (inside r l c)) (rest r skip g (outside r l c))
            | none => 0)
          rw [hn]
          show 1 + max (rest r skip f (inside r l c)) (rest r skip f (outside r l c)) = 1 + max (rest r skip g (inside r l c)) (rest r skip g (outside r l c))
          rw [ih (inside r l c) f g (by omega) (by omega) (by omega), ih (outside r l c) f g (by omega) (by omega) (by omega)]
/-- the rest, whatever the lid -/
def rst (r : List (List Nat)) (skip : Nat → Bool) (l : List Nat) : Nat := rest r skip l.length l
theorem rst_none {r : List (List Nat)} {skip : Nat → Bool} {l : List Nat} (h : nextTry r skip l = none) : rst r skip l = 0 := by
  unfold rst
  cases l.length with
  | zero => rfl
  | succ f =>
    show (match nextTry r skip l with
      | some c => 1 + max (rest r skip f (inside r l c)) (rest r skip f (outside r l c))
      | none => 0) = 0
    rw [h]
theorem rst_some {r : List (List Nat)} {skip : Nat → Bool} {l : List Nat} {c : Nat} (h : nextTry r skip l = some c) : rst r skip l = 1 + max (rst r skip (inside r l c)) (rst r skip (outside r l c)) := by
  have hs := share_pos (next_some h).2.2
  unfold rst
  cases e : l.length with
  | zero => omega
  | succ f =>
    show (match nextTry r skip l with
      | some c => 1 + max (rest r skip f (inside r l c)) (rest r skip f (outside r l c))
      | none => 0) = _
    rw [h]
    show 1 + max (rest r skip f (inside r l c)) (rest r skip f (outside r l c)) = _
    rw [rest_fuel l.length (inside r l c) f (inside r l c).length (by omega) (by omega) (by omega), rest_fuel l.length (outside r l c) f (outside r l c).length (by omega) (by omega) (by omega)]
theorem rst_le {r : List (List Nat)} {skip : Nat → Bool} : ∀ (n : Nat) (l : List Nat), l.length ≤ n → rst r skip l ≤ l.length - 1 := by
  intro n
  induction n with
  | zero =>
    intro l h
    have : l = [] := List.length_eq_zero_iff.mp (by omega)
    subst this
    exact Nat.le_refl _
  | succ n ih =>
    intro l h
    cases e : nextTry r skip l with
    | none => rw [rst_none e]; omega
    | some c =>
      have hs := share_pos (next_some e).2.2
      have hp := parts r l c
      rw [rst_some e]
      have a := ih (inside r l c) (by omega)
      have b := ih (outside r l c) (by omega)
      omega
end FM
set_option linter.all false
namespace FM
open Fb
/-! ### 5. Marks in the order they were made: (change, kind) -/
def mk (m : Nat × Nat) : Mark := markOf m.1 m.2
def srch (s : Nat) (ms : List (Nat × Nat)) : Search := ⟨s, (ms.map mk).reverse⟩
def agr (r : List (List Nat)) (x : Nat) (m : Nat × Nat) : Bool := agrees r x (mk m)
theorem all_rev {α : Type} (p : α → Bool) (l : List α) : l.reverse.all p = l.all p := by
  rw [Bool.eq_iff_iff, List.all_eq_true, List.all_eq_true]
  exact ⟨fun h x hx => h x (List.mem_reverse.mpr hx), fun h x hx => h x (List.mem_reverse.mp hx)⟩
theorem left_srch (h : Hist) (s : Nat) (ms : List (Nat × Nat)) : left h (srch s ms) = (List.range h.length).filter fun x => ((s, 1) :: ms).all (agr (rowsOf h) x) := by
  unfold left
  refine congrArg (fun p => List.filter p (List.range h.length)) (funext fun x => ?_)
  show (isBefore (rowsOf h) x s && (ms.map mk).reverse.all (agrees (rowsOf h) x)) = _
  rw [all_rev, List.all_map, List.all_cons]
  rfl
theorem srch_snoc (s : Nat) (ms : List (Nat × Nat)) (m : Nat × Nat) : srch s (ms ++ [m]) = ⟨s, mk m :: (srch s ms).marks⟩ := by
  unfold srch
  rw [List.map_append, List.map_cons, List.map_nil, List.reverse_append]
  rfl
theorem srch_len (s : Nat) (ms : List (Nat × Nat)) : (srch s ms).marks.length = ms.length := by
  unfold srch
  rw [List.length_reverse, List.length_map]
theorem agr_good {r : List (List Nat)} {x c : Nat} : agr r x (c, 0) = !isBefore r x c := rfl
theorem agr_bad {r : List (List Nat)} {x c : Nat} : agr r x (c, 1) = isBefore r x c := rfl
theorem agr_skip {r : List (List Nat)} {x c k : Nat} (h0 : k ≠ 0) (h1 : k ≠ 1) : agr r x (c, k) = true := by
  unfold agr mk markOf
  rw [if_neg h0, if_neg h1]
  rfl
theorem filter_take_snoc {n : Nat} (p : Nat → Bool) (i : Nat) (h : i < n) : (List.range (i + 1)).filter p = (List.range i).filter p ++ (if p i = true then [i] else []) := by
  rw [List.range_succ, List.filter_append]
  cases e : p i <;> simp [e]
end FM
set_option linter.all false
namespace FM
open Fb
/-! ### 6. The state as the program keeps it, and what each call does to it -/
structure PS where
  h : Hist
  bad : Option Nat
  ms : List (Nat × Nat)
def PS.st (g : PS) : State := ⟨g.h, g.bad.map fun s => srch s g.ms⟩
def PS.zero : PS := ⟨[], none, []⟩
theorem st_zero : PS.zero.st = Fb.start := rfl
def Ans (g : PS) (q : Fb.Call) (g' : PS) (zs : List Int) : Prop := (Fb.step g.st q).1 = g'.st ∧ FbNeutral.shown (Fb.step g.st q).2 = zs
theorem outs_cons {g g' : PS} {q : Fb.Call} {zs : List Int} (h : Ans g q g' zs) (r : List Fb.Call) : outs g.st (q :: r) = (((zs.length : Nat) : Int) :: zs) ++ outs g'.st r := by
  obtain ⟨h1, h2⟩ := h
  show (((FbNeutral.shown (Fb.step g.st q).2).length : Nat) : Int) :: (FbNeutral.shown (Fb.step g.st q).2 ++ outs (Fb.step g.st q).1 r) = _
  rw [h1, h2]
  rfl
theorem Ans.of {g g' : PS} {q : Fb.Call} {a : Answer} {zs : List Int} (h : Fb.step g.st q = (g'.st, a)) (e : FbNeutral.shown a = zs) : Ans g q g' zs := by
  unfold Ans
  rw [h]
  exact ⟨rfl, e⟩
-- add
theorem add_1 {g : PS} {l : List Nat} (h : 4 < l.length ∨ ¬ ∀ p ∈ l, p < g.h.length) : Ans g (.add l) g [-1] := by
  refine .of (a := no 1) ?_ rfl
  show (if 4 < l.length ∨ (l.all fun (p : Nat) => decide (p < g.h.length)) = false then (g.st, no 1) else _) = _
  rw [if_pos]
  rcases h with h | h
  · exact .inl h
  · refine .inr ?_
    cases e : l.all fun (p : Nat) => decide (p < g.h.length) with
    | false => rfl
    | true => exact absurd (fun p hp => of_decide_eq_true (List.all_eq_true.mp e p hp)) h
theorem add_ok_cond {g : PS} {l : List Nat} (h4 : l.length ≤ 4) (h : ∀ p ∈ l, p < g.h.length) : ¬ (4 < l.length ∨ (l.all fun (p : Nat) => decide (p < g.h.length)) = false) := by
  rintro (a | a)
  · omega
  · rw [List.all_eq_true.mpr fun p hp => decide_eq_true (h p hp)] at a
    cases a
theorem add_2 {g : PS} {l : List Nat} (h4 : l.length ≤ 4) (h : ∀ p ∈ l, p < g.h.length) (hc : 512 ≤ g.h.length) : Ans g (.add l) g [-2] := by
  refine .of (a := no 2) ?_ rfl
  show (if 4 < l.length ∨ (l.all fun (p : Nat) => decide (p < g.h.length)) = false then (g.st, no 1) else if CHANGES ≤ g.h.length then (g.st, no 2) else _) = _
  rw [if_neg (add_ok_cond h4 h), if_pos (show CHANGES ≤ g.h.length from hc)]
theorem add_ok {g : PS} {l : List Nat} (h4 : l.length ≤ 4) (h : ∀ p ∈ l, p < g.h.length) (hc : g.h.length < 512) : Ans g (.add l) ⟨g.h ++ [l], g.bad, g.ms⟩ [(g.h.length : Int)] := by
  refine .of (a := one g.h.length) ?_ rfl
  show (if 4 < l.length ∨ (l.all fun (p : Nat) => decide (p < g.h.length)) = false then (g.st, no 1) else if CHANGES ≤ g.h.length then (g.st, no 2) else (⟨g.h ++ [l], g.st.search⟩, one g.h.length)) = _
  rw [if_neg (add_ok_cond h4 h), if_neg (show ¬ CHANGES ≤ g.h.length from Nat.not_le_of_lt hc)]
  rfl
-- count
theorem count_ok {g : PS} : Ans g .count g [(g.h.length : Int)] := ⟨rfl, rfl⟩
-- before
theorem before_1 {g : PS} {a b : Nat} (h : ¬ (a < g.h.length ∧ b < g.h.length)) : Ans g (.before a b) g [-1] := by
  refine .of (a := no 1) ?_ rfl
  show (if a < g.h.length ∧ b < g.h.length then _ else (g.st, no 1)) = _
  rw [if_neg h]
theorem before_ok {g : PS} {a b : Nat} (h : a < g.h.length ∧ b < g.h.length) : Ans g (.before a b) g [if isBefore (rowsOf g.h) a b = true then 1 else 0] := by
  refine .of (a := one (bit (Fb.before g.h a b))) ?_ ?_
  · show (if a < g.h.length ∧ b < g.h.length then (g.st, one (bit (Fb.before g.h a b))) else (g.st, no 1)) = _
    rw [if_pos h]
  · show [((bit (isBefore (rowsOf g.h) a b) : Nat) : Int)] = _
    cases isBefore (rowsOf g.h) a b <;> rfl
-- start
theorem start_1 {g : PS} {c : Nat} (h : ¬ c < g.h.length) : Ans g (.start c) g [-1] := by
  refine .of (a := no 1) ?_ rfl
  show (if c < g.h.length then _ else (g.st, no 1)) = _
  rw [if_neg h]
theorem start_ok {g : PS} {c : Nat} (h : c < g.h.length) : Ans g (.start c) ⟨g.h, some c, []⟩ [((left g.h (srch c [])).length : Int)] := by
  refine .of (a := one (left g.h (srch c [])).length) ?_ rfl
  show (if c < g.h.length then (⟨g.h, some ⟨c, []⟩⟩, one (Fb.left g.h ⟨c, []⟩).length) else (g.st, no 1)) = _
  rw [if_pos h]
  rfl
-- a call without a search
theorem none_on {g : PS} (h : g.bad = none) (f : Search → State × Answer) : searching g.st f = (g.st, no 3) := by
  unfold searching PS.st
  rw [h]
  rfl
theorem some_on {g : PS} {s : Nat} (h : g.bad = some s) (f : Search → State × Answer) : searching g.st f = f (srch s g.ms) := by
  unfold searching PS.st
  rw [h]
  rfl
-- mark
theorem mark_1 {g : PS} {c k : Nat} (h : g.h.length ≤ c ∨ 2 < k) : Ans g (.mark c k) g [-1] := by
  refine .of (a := no 1) ?_ rfl
  show (if g.h.length ≤ c ∨ 2 < k then (g.st, no 1) else _) = _
  rw [if_pos h]
theorem mark_on {g : PS} {c k : Nat} (h : ¬ (g.h.length ≤ c ∨ 2 < k)) : Fb.step g.st (.mark c k) = searching g.st fun s => if MARKS ≤ s.marks.length then (g.st, no 2) else
      if (Fb.left g.h ⟨s.start, markOf c k :: s.marks⟩).isEmpty = true then (g.st, no 4) else (⟨g.h, some ⟨s.start, markOf c k :: s.marks⟩⟩, one (Fb.left g.h ⟨s.start, markOf c k :: s.marks⟩).length) := by
  show (if g.h.length ≤ c ∨ 2 < k then (g.st, no 1) else _) = _
  rw [if_neg h]
  rfl
theorem mark_3 {g : PS} {c k : Nat} (h : ¬ (g.h.length ≤ c ∨ 2 < k)) (hb : g.bad = none) : Ans g (.mark c k) g [-3] :=
  .of (a := no 3) (by rw [mark_on h, none_on hb]) rfl
theorem mark_2 {g : PS} {c k s : Nat} (h : ¬ (g.h.length ≤ c ∨ 2 < k)) (hb : g.bad = some s) (hm : 1024 ≤ g.ms.length) : Ans g (.mark c k) g [-2] :=
  .of (a := no 2) (by rw [mark_on h, some_on hb, if_pos (show MARKS ≤ (srch s g.ms).marks.length by rw [srch_len]; exact hm)]) rfl
theorem mark_4 {g : PS} {c k s : Nat} (h : ¬ (g.h.length ≤ c ∨ 2 < k)) (hb : g.bad = some s) (hm : g.ms.length < 1024) (hl : left g.h (srch s (g.ms ++ [(c, k)])) = []) : Ans g (.mark c k) g [-4] := by
  refine .of (a := no 4) ?_ rfl
  rw [mark_on h, some_on hb, if_neg (show ¬ MARKS ≤ (srch s g.ms).marks.length by rw [srch_len]; exact Nat.not_le_of_lt hm)]
  rw [srch_snoc] at hl
  have e : (Fb.left g.h ⟨(srch s g.ms).start, markOf c k :: (srch s g.ms).marks⟩) = [] := hl
  rw [e]
  rfl
theorem mark_ok {g : PS} {c k s : Nat} (h : ¬ (g.h.length ≤ c ∨ 2 < k)) (hb : g.bad = some s) (hm : g.ms.length < 1024) (hl : left g.h (srch s (g.ms ++ [(c, k)])) ≠ []) :
    Ans g (.mark c k) ⟨g.h, some s, g.ms ++ [(c, k)]⟩ [((left g.h (srch s (g.ms ++ [(c, k)]))).length : Int)] := by
  refine .of (a := one (left g.h (srch s (g.ms ++ [(c, k)]))).length) ?_ rfl
  rw [mark_on h, some_on hb, if_neg (show ¬ MARKS ≤ (srch s g.ms).marks.length by rw [srch_len]; exact Nat.not_le_of_lt hm)]
  have e : (⟨(srch s g.ms).start, markOf c k :: (srch s g.ms).marks⟩ : Search) = srch s (g.ms ++ [(c, k)]) := (srch_snoc s g.ms (c, k)).symm
  rw [e, if_neg ?_]
  · rfl
  · rw [List.isEmpty_iff]
    exact hl
-- undo
theorem undo_3 {g : PS} (hb : g.bad = none) : Ans g .undo g [-3] := .of (a := no 3) (none_on hb _) rfl
theorem undo_0 {g : PS} {s : Nat} (hb : g.bad = some s) (hm : g.ms = []) : Ans g .undo g [0] := by
  refine .of (a := one 0) ((some_on hb _).trans ?_) rfl
  rw [hm]
  rfl
theorem undo_1 {g : PS} {s : Nat} (hb : g.bad = some s) (hm : g.ms ≠ []) : Ans g .undo ⟨g.h, some s, g.ms.dropLast⟩ [1] := by
  refine .of (a := one 1) ((some_on hb _).trans ?_) rfl
  have e : g.ms = g.ms.dropLast ++ [g.ms.getLast hm] := (List.dropLast_concat_getLast hm).symm
  have e2 : srch s g.ms = ⟨s, mk (g.ms.getLast hm) :: (srch s g.ms.dropLast).marks⟩ := (congrArg (srch s) e).trans (srch_snoc s _ _)
  rw [e2]
  rfl
-- the calls that only look
theorem left_3 {g : PS} (hb : g.bad = none) : Ans g .left g [-3] := .of (a := no 3) (none_on hb _) rfl
theorem left_ok {g : PS} {s : Nat} (hb : g.bad = some s) : Ans g .left g [((left g.h (srch s g.ms)).length : Int)] := .of (a := one (left g.h (srch s g.ms)).length) (some_on hb _) rfl
theorem list_3 {g : PS} (hb : g.bad = none) : Ans g .list g [-3] := .of (a := no 3) (none_on hb _) rfl
theorem list_ok {g : PS} {s : Nat} (hb : g.bad = some s) : Ans g .list g (encN (left g.h (srch s g.ms))) := .of (a := .nums (left g.h (srch s g.ms))) (some_on hb _) rfl
theorem next_3 {g : PS} (hb : g.bad = none) : Ans g .next g [-3] := .of (a := no 3) (none_on hb _) rfl
theorem next_ok {g : PS} {s c : Nat} (hb : g.bad = some s) (hn : nextTry (rowsOf g.h) (skipped (srch s g.ms)) (left g.h (srch s g.ms)) = some c) : Ans g .next g [(c : Int)] := by
  refine .of (a := one c) ((some_on hb _).trans ?_) rfl
  have e : nextOf g.h (srch s g.ms) = some c := hn
  show (match nextOf g.h (srch s g.ms) with
    | some c => (g.st, one c)
    | none => if (Fb.left g.h (srch s g.ms)).length = 1 then (g.st, no 6) else (g.st, no 7)) = _
  rw [e]
theorem next_6 {g : PS} {s : Nat} (hb : g.bad = some s) (hn : nextTry (rowsOf g.h) (skipped (srch s g.ms)) (left g.h (srch s g.ms)) = none) (hl : (left g.h (srch s g.ms)).length = 1) : Ans g .next g [-6] := by
  refine .of (a := no 6) ((some_on hb _).trans ?_) rfl
  have e : nextOf g.h (srch s g.ms) = none := hn
  show (match nextOf g.h (srch s g.ms) with
    | some c => (g.st, one c)
    | none => if (Fb.left g.h (srch s g.ms)).length = 1 then (g.st, no 6) else (g.st, no 7)) = _
  rw [e]
  show (if (Fb.left g.h (srch s g.ms)).length = 1 then (g.st, no 6) else (g.st, no 7)) = _
  rw [if_pos hl]
theorem next_7 {g : PS} {s : Nat} (hb : g.bad = some s) (hn : nextTry (rowsOf g.h) (skipped (srch s g.ms)) (left g.h (srch s g.ms)) = none) (hl : (left g.h (srch s g.ms)).length ≠ 1) : Ans g .next g [-7] := by
  refine .of (a := no 7) ((some_on hb _).trans ?_) rfl
  have e : nextOf g.h (srch s g.ms) = none := hn
  show (match nextOf g.h (srch s g.ms) with
    | some c => (g.st, one c)
    | none => if (Fb.left g.h (srch s g.ms)).length = 1 then (g.st, no 6) else (g.st, no 7)) = _
  rw [e]
  show (if (Fb.left g.h (srch s g.ms)).length = 1 then (g.st, no 6) else (g.st, no 7)) = _
  rw [if_neg hl]
theorem split_1 {g : PS} {c : Nat} (h : ¬ c < g.h.length) : Ans g (.split c) g [-1] := by
  refine .of (a := no 1) ?_ rfl
  show (if c < g.h.length then _ else (g.st, no 1)) = _
  rw [if_neg h]
theorem split_3 {g : PS} {c : Nat} (h : c < g.h.length) (hb : g.bad = none) : Ans g (.split c) g [-3] := by
  refine .of (a := no 3) ?_ rfl
  show (if c < g.h.length then searching g.st _ else (g.st, no 1)) = _
  rw [if_pos h, none_on hb]
theorem split_ok {g : PS} {c s : Nat} (h : c < g.h.length) (hb : g.bad = some s) : Ans g (.split c) g [((inside (rowsOf g.h) (left g.h (srch s g.ms)) c).length : Int)] := by
  refine .of (a := one (inside (rowsOf g.h) (left g.h (srch s g.ms)) c).length) ?_ rfl
  show (if c < g.h.length then searching g.st _ else (g.st, no 1)) = _
  rw [if_pos h, some_on hb]
  rfl
theorem rest_3 {g : PS} (hb : g.bad = none) : Ans g .rest g [-3] := .of (a := no 3) (none_on hb _) rfl
theorem rest_ok {g : PS} {s : Nat} (hb : g.bad = some s) : Ans g .rest g [((rst (rowsOf g.h) (skipped (srch s g.ms)) (left g.h (srch s g.ms)) : Nat) : Int)] :=
  .of (a := one (rst (rowsOf g.h) (skipped (srch s g.ms)) (left g.h (srch s g.ms)))) (some_on hb _) rfl
/-- who is skipped -/
theorem skipped_iff {s : Nat} {ms : List (Nat × Nat)} {c : Nat} (h : ∀ m ∈ ms, m.2 ≤ 2) : skipped (srch s ms) c = true ↔ (c, 2) ∈ ms := by
  unfold skipped srch
  show ((ms.map mk).reverse.any (Mark.skips c)) = true ↔ _
  rw [List.any_eq_true]
  constructor
  · rintro ⟨x, hx, e⟩
    obtain ⟨⟨d, k⟩, hm, rfl⟩ := List.mem_map.mp (List.mem_reverse.mp hx)
    have h2 := h _ hm
    have h2' : k ≤ 2 := h2
    match k, h2', hm, e with
    | 0, _, _, e => cases e
    | 1, _, _, e => cases e
    | 2, _, hm, e =>
      have : (c == d) = true := e
      rw [eq_of_beq this]
      exact hm
  · intro hm
    exact ⟨.skip c, List.mem_reverse.mpr (List.mem_map.mpr ⟨(c, 2), hm, rfl⟩), beq_self_eq_true c⟩
end FM
set_option linter.all false
namespace FM
open Fb

/-! ### 7. The next try as a walk over those that may be tried -/
def gr : Option (Nat × Nat) → Nat
  | none => 0
  | some x => x.2
def stp (r : List (List Nat)) (l : List Nat) (b : Option (Nat × Nat)) (c : Nat) : Option (Nat × Nat) := if gr b < share r l c then some (c, share r l c) else b
def toTry (skip : Nat → Bool) (n : Nat) : List Nat := (List.range n).filter fun c => !skip c
theorem best_toTry {r : List (List Nat)} {skip : Nat → Bool} {l : List Nat} : ∀ n : Nat, best r skip l n = (toTry skip n).foldl (stp r l) none
  | 0 => rfl
  | n + 1 => by
    have ih := best_toTry (r := r) (skip := skip) (l := l) n
    have hs : (toTry skip (n + 1)).foldl (stp r l) none = if skip n = true then best r skip l n else stp r l (best r skip l n) n := by
      unfold toTry
      rw [List.range_succ, List.filter_append, List.foldl_append]
      rw [ih]
      unfold toTry
      cases e : skip n with
      | true => simp [e]
      | false => simp [e]
    rw [hs, best_succ]
    cases e : skip n with
    | true => simp
    | false =>
      unfold stp
      cases eb : best r skip l n with
      | none =>
        by_cases h0 : share r l n = 0
        · simp [h0, gr]
        · have : 0 < share r l n := Nat.pos_of_ne_zero h0
          simp [h0, gr, this]
      | some x =>
        by_cases h0 : share r l n = 0
        · simp [h0, gr]
        · by_cases h1 : x.2 < share r l n
          · simp [h0, gr, h1]
          · simp [h0, gr, h1]
theorem next_toTry (r : List (List Nat)) (skip : Nat → Bool) (l : List Nat) : nextTry r skip l = ((toTry skip r.length).foldl (stp r l) none).map fun x => x.1 := by
  rw [next_best, best_toTry]
theorem toTry_lt {skip : Nat → Bool} {n c : Nat} (h : c ∈ toTry skip n) : c < n := List.mem_range.mp (List.mem_filter.mp h).1
theorem toTry_len {skip : Nat → Bool} {n : Nat} : (toTry skip n).length ≤ n := by
  unfold toTry
  refine Nat.le_trans (List.length_filter_le _ _) ?_
  rw [List.length_range]
  exact Nat.le_refl _
theorem toTry_marks {s : Nat} {ms : List (Nat × Nat)} {n : Nat} (h : ∀ m ∈ ms, m.2 ≤ 2) : toTry (skipped (srch s ms)) n = (List.range n).filter fun c => !decide ((c, 2) ∈ ms) := by
  unfold toTry
  refine List.filter_congr fun c _ => ?_
  have e : skipped (srch s ms) c = decide ((c, 2) ∈ ms) := by
    rw [Bool.eq_iff_iff, skipped_iff h, decide_eq_true_iff]
  rw [e]
theorem share_min (r : List (List Nat)) (l : List Nat) (c : Nat) : ((share r l c : Nat) : Int) = if ((l.length : Int) - ((inside r l c).length : Int)) < ((inside r l c).length : Int) then ((l.length : Int) - ((inside r l c).length : Int)) else ((inside r l c).length : Int) := by
  have h := parts r l c
  have e : share r l c = min (inside r l c).length (l.length - (inside r l c).length) := rfl
  split <;> omega

/-! ### 8. The rest, all answers at once -/
def parts1 (r : List (List Nat)) (skip : Nat → Bool) (g : List Nat) : List (List Nat) := match nextTry r skip g with
  | some c => [inside r g c, outside r g c]
  | none => []
def partsAll (r : List (List Nat)) (skip : Nat → Bool) : List (List Nat) → List (List Nat)
  | [] => []
  | g :: gs => parts1 r skip g ++ partsAll r skip gs
def deep (r : List (List Nat)) (skip : Nat → Bool) : List (List Nat) → Nat
  | [] => 0
  | g :: gs => max (rst r skip g) (deep r skip gs)
def tot : List (List Nat) → Nat
  | [] => 0
  | g :: gs => g.length + tot gs
section
variable {r : List (List Nat)} {skip : Nat → Bool}
theorem parts1_none {g : List Nat} (h : nextTry r skip g = none) : parts1 r skip g = [] := by unfold parts1; rw [h]
theorem parts1_some {g : List Nat} {c : Nat} (h : nextTry r skip g = some c) : parts1 r skip g = [inside r g c, outside r g c] := by unfold parts1; rw [h]
theorem partsAll_append : ∀ a b : List (List Nat), partsAll r skip (a ++ b) = partsAll r skip a ++ partsAll r skip b
  | [], b => rfl
  | g :: a, b => by
    show parts1 r skip g ++ partsAll r skip (a ++ b) = parts1 r skip g ++ partsAll r skip a ++ partsAll r skip b
    rw [partsAll_append a b, List.append_assoc]
theorem partsAll_one (g : List Nat) : partsAll r skip [g] = parts1 r skip g := List.append_nil _
theorem deep_eq : ∀ gs : List (List Nat), deep r skip gs = if partsAll r skip gs = [] then 0 else 1 + deep r skip (partsAll r skip gs)
  | [] => rfl
  | g :: gs => by
    have ih := deep_eq gs
    show max (rst r skip g) (deep r skip gs) = if parts1 r skip g ++ partsAll r skip gs = [] then 0 else 1 + deep r skip (parts1 r skip g ++ partsAll r skip gs)
    cases e : nextTry r skip g with
    | none =>
      rw [parts1_none e, rst_none e, List.nil_append, ← ih]
      omega
    | some c =>
      rw [parts1_some e, rst_some e, if_neg (by simp)]
      show max (1 + max (rst r skip (inside r g c)) (rst r skip (outside r g c))) (deep r skip gs) = 1 + max (rst r skip (inside r g c)) (max (rst r skip (outside r g c)) (deep r skip (partsAll r skip gs)))
      by_cases h : partsAll r skip gs = []
      · rw [if_pos h] at ih
        rw [ih, h]
        show _ = 1 + max (rst r skip (inside r g c)) (max (rst r skip (outside r g c)) 0)
        omega
      · rw [if_neg h] at ih
        omega
theorem deep_end {gs : List (List Nat)} (h : partsAll r skip gs = []) : deep r skip gs = 0 := by rw [deep_eq, if_pos h]
theorem deep_on {gs : List (List Nat)} (h : partsAll r skip gs ≠ []) : deep r skip gs = 1 + deep r skip (partsAll r skip gs) := by
  have e := deep_eq (r := r) (skip := skip) gs
  rw [if_neg h] at e
  exact e
theorem deep_one (g : List Nat) : deep r skip [g] = rst r skip g := Nat.max_zero _
theorem tot_append : ∀ a b : List (List Nat), tot (a ++ b) = tot a + tot b
  | [], b => (Nat.zero_add _).symm
  | g :: a, b => by
    show g.length + tot (a ++ b) = g.length + tot a + tot b
    rw [tot_append a b]
    omega
theorem parts_tot : ∀ gs : List (List Nat), tot (partsAll r skip gs) ≤ tot gs
  | [] => Nat.le_refl _
  | g :: gs => by
    have ih := parts_tot gs
    show tot (parts1 r skip g ++ partsAll r skip gs) ≤ g.length + tot gs
    rw [tot_append]
    cases e : nextTry r skip g with
    | none =>
      rw [parts1_none e]
      show 0 + _ ≤ _
      omega
    | some c =>
      rw [parts1_some e]
      have := parts r g c
      show (inside r g c).length + ((outside r g c).length + 0) + _ ≤ _
      omega
theorem parts_len : ∀ gs : List (List Nat), (partsAll r skip gs).length ≤ tot gs
  | [] => Nat.le_refl _
  | g :: gs => by
    have ih := parts_len gs
    show (parts1 r skip g ++ partsAll r skip gs).length ≤ g.length + tot gs
    rw [List.length_append]
    cases e : nextTry r skip g with
    | none =>
      rw [parts1_none e]
      show 0 + _ ≤ _
      omega
    | some c =>
      rw [parts1_some e]
      have h := share_pos (next_some e).2.2
      have := parts r g c
      show 2 + _ ≤ _
      omega
theorem tot_mem : ∀ {gs : List (List Nat)} {g : List Nat}, g ∈ gs → g.length ≤ tot gs
  | [], g, h => absurd h (by simp)
  | x :: gs, g, h => by
    show g.length ≤ x.length + tot gs
    rcases List.mem_cons.mp h with e | h
    · rw [e]; omega
    · have := tot_mem h
      omega
theorem parts_take : ∀ (gs : List (List Nat)) (i : Nat), (partsAll r skip (gs.take i)).length ≤ tot gs
  | gs, i => by
    refine Nat.le_trans (parts_len _) ?_
    have e : tot gs = tot (gs.take i) + tot (gs.drop i) := by rw [← tot_append, List.take_append_drop]
    omega
end
end FM
set_option Elab.async false
set_option linter.all false
set_option maxRecDepth 100000
set_option maxHeartbeats 2000000
namespace FX
open PySem PySem.Spec PyProof.Rows L2

/-! ### 1. d.update(e), both dicts of ints and texts -/
section
variable {X : Cx}
def rUpdate : V → List V → Hp → VK → Prop := fun x vs H Q => ∃ a b kvs more, x = .ref a ∧ vs = [.ref b] ∧ H a = some (.dK kvs) ∧ H b = some (.dK more) ∧ a ≠ b ∧ kvs.length + more.length ≤ sizeLine ∧ Q .non (upd H a (.dK (mergeK kvs more)))
theorem mt_update : MtM X "dict.update" rUpdate := by
  intro pins s σ H x vs v us Q I rx rv h
  obtain ⟨a, b, kvs, more, rfl, rfl, ha, hb, hne, hz, q⟩ := h
  cases rx
  obtain ⟨u, rfl, ru⟩ := rv.one
  cases ru
  obtain ⟨z1, hd1, vs1, rel1, dd1⟩ := dk_of I.hok ha
  obtain ⟨z2, hd2, vs2, rel2, dd2⟩ := dk_of I.hok hb
  refine call_meetsIn PySem.F.slot_dict_update dd1.typeIs PySem.F.entry_dict_update (PySem.F.args_dict_update_2 _ _) (meets_dict_update (mixKind X.prog X.w) a b hne hd2)
    ⟨vs1, vs2, dd1, dd2, by rw [← rel1.length, ← rel2.length]; exact hz, fun h' dd' _ hs => ?_⟩
  have he : ∃ q, h'.get? a = some q := let ⟨q, _, _, hq, _⟩ := dd'; ⟨q, hq⟩
  exact ⟨.non, _, d_write (t' := s.toks) I (by rw [ha]; exact True.intro) hs he (dk_new (by have := length_mergeK more kvs; omega) hd1 (KV.merge rel2 rel1) dd'), rfl, q⟩
end

/-! ### 2. The keys of a dict as a set of numbers -/
def Keys (kvs : List (Key × V)) (P : Nat → Prop) : Prop := (kvs.map (·.1)).Nodup ∧ ∀ k : Key, k ∈ kvs.map (·.1) ↔ ∃ a : Nat, k = Sum.inl (a : Int) ∧ P a
theorem keys_repl (k : Key) (v : V) : ∀ kvs : List (Key × V), (kvs.map (fun kv => if kv.1 = k then (kv.1, v) else kv)).map (·.1) = kvs.map (·.1)
  | [] => rfl
  | p :: r => by
    rw [List.map_cons, List.map_cons, List.map_cons, keys_repl k v r]
    by_cases e : p.1 = k
    · rw [if_pos e]
    · rw [if_neg e]
theorem putK_has {kvs : List (Key × V)} {k : Key} (v : V) (h : k ∈ kvs.map (·.1)) : (putK kvs k v).map (·.1) = kvs.map (·.1) := by
  unfold putK
  rw [if_pos ?_, keys_repl]
  rw [List.any_eq_true]
  obtain ⟨p, hp, e⟩ := List.mem_map.mp h
  exact ⟨p, hp, decide_eq_true e⟩
theorem putK_not {kvs : List (Key × V)} {k : Key} (v : V) (h : ¬ k ∈ kvs.map (·.1)) : (putK kvs k v).map (·.1) = kvs.map (·.1) ++ [k] := by
  unfold putK
  rw [if_neg ?_, List.map_append]
  · rfl
  · rw [List.any_eq_true]
    rintro ⟨p, hp, e⟩
    exact h (List.mem_map.mpr ⟨p, hp, of_decide_eq_true e⟩)
theorem putK_nd {kvs : List (Key × V)} {k : Key} (v : V) (h : (kvs.map (·.1)).Nodup) : ((putK kvs k v).map (·.1)).Nodup := by
  by_cases e : k ∈ kvs.map (·.1)
  · rw [putK_has v e]; exact h
  · rw [putK_not v e]; exact nd_snoc h e
theorem putK_mem {kvs : List (Key × V)} {k j : Key} (v : V) : j ∈ (putK kvs k v).map (·.1) ↔ j = k ∨ j ∈ kvs.map (·.1) := by
  by_cases e : k ∈ kvs.map (·.1)
  · rw [putK_has v e]
    exact ⟨.inr, fun h => h.elim (fun q => by rw [q]; exact e) id⟩
  · rw [putK_not v e, List.mem_append, List.mem_singleton]
    exact Or.comm
theorem mergeK_nd : ∀ (more kvs : List (Key × V)), (kvs.map (·.1)).Nodup → ((mergeK kvs more).map (·.1)).Nodup
  | [], kvs, h => h
  | p :: r, kvs, h => mergeK_nd r (putK kvs p.1 p.2) (putK_nd p.2 h)
theorem mergeK_mem {j : Key} : ∀ (more kvs : List (Key × V)), j ∈ (mergeK kvs more).map (·.1) ↔ j ∈ kvs.map (·.1) ∨ j ∈ more.map (·.1)
  | [], kvs => by
    show j ∈ kvs.map (·.1) ↔ _
    simp
  | p :: r, kvs => by
    show j ∈ (mergeK (putK kvs p.1 p.2) r).map (·.1) ↔ _
    rw [mergeK_mem r, putK_mem, List.map_cons, List.mem_cons]
    constructor
    · rintro ((h | h) | h)
      · exact .inr (.inl h)
      · exact .inl h
      · exact .inr (.inr h)
    · rintro (h | (h | h))
      · exact .inl (.inr h)
      · exact .inl (.inl h)
      · exact .inr h
theorem Keys.nil {P : Nat → Prop} (h : ∀ a, ¬ P a) : Keys [] P := ⟨List.nodup_nil, fun k => ⟨fun e => absurd e (by simp), fun ⟨a, _, p⟩ => absurd p (h a)⟩⟩
theorem Keys.one (n : Nat) (v : V) : Keys (mergeK [] [(Sum.inl (n : Int), v)]) (fun a => a = n) := by
  refine ⟨mergeK_nd _ _ List.nodup_nil, fun k => ?_⟩
  rw [mergeK_mem]
  simp only [List.map_nil, List.map_cons, List.not_mem_nil, List.mem_singleton, false_or]
  exact ⟨fun e => ⟨n, e, rfl⟩, fun ⟨a, e, h⟩ => by rw [e, h]⟩
theorem Keys.merge {kvs more : List (Key × V)} {P R : Nat → Prop} (h : Keys kvs P) (g : Keys more R) : Keys (mergeK kvs more) (fun a => P a ∨ R a) := by
  refine ⟨mergeK_nd _ _ h.1, fun k => ?_⟩
  rw [mergeK_mem, h.2, g.2]
  constructor
  · rintro (⟨a, e, p⟩ | ⟨a, e, p⟩)
    · exact ⟨a, e, .inl p⟩
    · exact ⟨a, e, .inr p⟩
  · rintro ⟨a, e, (p | p)⟩
    · exact .inl ⟨a, e, p⟩
    · exact .inr ⟨a, e, p⟩
theorem Keys.iff {kvs : List (Key × V)} {P R : Nat → Prop} (h : Keys kvs P) (e : ∀ a, P a ↔ R a) : Keys kvs R :=
  ⟨h.1, fun k => (h.2 k).trans ⟨fun ⟨a, q, p⟩ => ⟨a, q, (e a).mp p⟩, fun ⟨a, q, p⟩ => ⟨a, q, (e a).mpr p⟩⟩⟩
theorem nd_nat : ∀ (n : Nat) (l : List Nat), l.Nodup → (∀ x ∈ l, x < n) → l.length ≤ n
  | 0, [], _, _ => Nat.le_refl _
  | 0, k :: l, _, h => absurd (h k List.mem_cons_self) (Nat.not_lt_zero _)
  | n + 1, l, hn, h => by
    have h1 : (l.erase n).length ≤ n := by
      refine nd_nat n _ (hn.erase _) fun x hx => ?_
      have h1 := h x (List.mem_of_mem_erase hx)
      have h2 : x ≠ n := ((hn.mem_erase_iff).mp hx).1
      omega
    have h2 := List.length_erase (a := n) (l := l)
    rw [h2] at h1
    split at h1 <;> omega
def keyN : Key → Nat
  | .inl z => z.toNat
  | .inr _ => 0
theorem nd_keyN : ∀ (l : List Key), l.Nodup → (∀ k ∈ l, ∃ a : Nat, k = Sum.inl (a : Int)) → (l.map keyN).Nodup
  | [], _, _ => List.nodup_nil
  | k :: l, hn, h => by
    rw [List.nodup_cons] at hn
    rw [List.map_cons, List.nodup_cons]
    refine ⟨fun q => ?_, nd_keyN l hn.2 fun j hj => h j (List.mem_cons_of_mem _ hj)⟩
    obtain ⟨j, hj, e⟩ := List.mem_map.mp q
    obtain ⟨a, rfl⟩ := h k List.mem_cons_self
    obtain ⟨b, rfl⟩ := h j (List.mem_cons_of_mem _ hj)
    have e' : ((b : Int)).toNat = ((a : Int)).toNat := e
    rw [Int.toNat_natCast, Int.toNat_natCast] at e'
    rw [e'] at hj
    exact hn.1 hj
theorem nd_len (n : Nat) (l : List Key) (hn : l.Nodup) (h : ∀ k ∈ l, ∃ a : Nat, k = Sum.inl (a : Int) ∧ a < n) : l.length ≤ n := by
  have e := nd_nat n (l.map keyN) (nd_keyN l hn fun k hk => let ⟨a, q, _⟩ := h k hk; ⟨a, q⟩) fun x hx => by
    obtain ⟨k, hk, rfl⟩ := List.mem_map.mp hx
    obtain ⟨a, rfl, ha⟩ := h k hk
    show ((a : Int)).toNat < n
    rw [Int.toNat_natCast]
    exact ha
  rwa [List.length_map] at e
theorem Keys.len {kvs : List (Key × V)} {P : Nat → Prop} {n : Nat} (h : Keys kvs P) (b : ∀ a, P a → a < n) : kvs.length ≤ n := by
  have e := nd_len n (kvs.map (·.1)) h.1 fun k hk => by
    obtain ⟨a, e, p⟩ := (h.2 k).mp hk
    exact ⟨a, e, b a p⟩
  rwa [List.length_map] at e
theorem Keys.val {kvs : List (Key × V)} {P : Nat → Prop} (h : Keys kvs P) (a : Nat) : (valV kvs (Sum.inl (a : Int))).isSome = true ↔ P a := by
  cases e : valV kvs (Sum.inl (a : Int)) with
  | none =>
    have q := valV_not e
    rw [h.2] at q
    exact ⟨fun z => (by cases z), fun p => absurd ⟨a, rfl, p⟩ q⟩
  | some v =>
    have q := valV_in e
    rw [h.2] at q
    obtain ⟨b, eb, p⟩ := q
    have : (a : Int) = (b : Int) := Sum.inl.inj eb
    have : a = b := by omega
    rw [this]
    exact ⟨fun _ => p, fun _ => rfl⟩
/-! ### 3. Small words -/
theorem SqL.keep {K : PySem.W.Frag} {H H' : Hp} {a : Addr} {xs : List V} (h : SqL K H a xs) (k : ∀ o, H a = some o → H' a = some o) : SqL K H' a xs := by
  rcases h with (h | ⟨o, h⟩) | h
  · exact .inl (.inl (k _ h))
  · exact .inl (.inr ⟨o, k _ h⟩)
  · exact .inr h
theorem same_new {H : Hp} {p : Addr} {o : HO} (h : H p = none) : Same H (upd H p o) := fun b u e => by
  rw [upd_ne (ne_of_none e h)]
  exact e
theorem take_snoc {α : Type} : ∀ {l : List α} {i : Nat} {x : α}, l[i]? = some x → l.take (i + 1) = l.take i ++ [x]
  | [], i, x, h => by simp at h
  | a :: l, 0, x, h => by
    have e : a = x := Option.some.inj h
    subst e
    rfl
  | a :: l, i + 1, x, h => by
    have ih := take_snoc (l := l) (i := i) (x := x) h
    show a :: l.take (i + 1) = a :: l.take i ++ [x]
    rw [ih]
    rfl
theorem map_at {α β : Type} {f : α → β} {l : List α} {i : Nat} {y : β} (h : (l.map f)[i]? = some y) : ∃ x, l[i]? = some x ∧ y = f x := by
  rw [List.getElem?_map] at h
  cases e : l[i]? with
  | none =>
    rw [e] at h
    cases h
  | some x =>
    rw [e] at h
    exact ⟨x, rfl, (Option.some.inj h).symm⟩
end FX
set_option Elab.async false
set_option linter.all false
set_option maxRecDepth 100000
set_option maxHeartbeats 2000000
namespace FX
open PySem PySem.Spec PyProof.Rows L2

/-! ### 4. A dict of ints at the file's top, only read -/
def entI (e : DictEntry) : Option (Int × Int) := match e.key, e.val with
  | .int k _, .int v _ => if e.hash = hashInt k then some (k, v) else none
  | _, _ => none
def entsI : List DictEntry → Option (List (Int × Int))
  | [] => some []
  | e :: r => match entI e, entsI r with
    | some p, some ps => some (p :: ps)
    | _, _ => none
def kvI (ps : List (Int × Int)) : List (Key × V) := ps.map fun p => (Sum.inl p.1, V.int p.2)
/-- the dict at a, of the file's top, holds ps -/
structure KDict (K : PySem.W.Frag) (a : Addr) (ps : List (Int × Int)) : Prop where
  ex : ∃ (o : Obj) (es : Array DictEntry) (ep : Nat), K.lookup a = some o ∧ o.cls = .type "dict" ∧ o.dict = none ∧ o.slots = #[] ∧ o.data = .dict es ep ∧ entsI es.toList = some ps
  nd : (ps.map (·.1)).Nodup
theorem entI_of {e : DictEntry} {p : Int × Int} (h : entI e = some p) : ∃ t u, e.key = .int p.1 t ∧ e.val = .int p.2 u ∧ e.hash = hashInt p.1 := by
  unfold entI at h
  split at h
  · rename_i k t v u e1 e2
    split at h
    · rename_i e3
      cases h
      exact ⟨t, u, e1, e2, e3⟩
    · cases h
  · cases h
theorem entsI_of {P : Program} {w : World} : ∀ {es : List DictEntry} {ps : List (Int × Int)}, entsI es = some ps →
    (∀ e ∈ es, ∃ k, (mixKind P w).is k e.key = true ∧ e.hash = (mixKind P w).hash k) ∧ ∃ vs : List (Key × Value), Pairs (mixKind P w) es vs ∧ KV (kvI ps) vs ∧ vs.map (·.1) = ps.map fun p => (Sum.inl p.1 : Key)
  | [], ps, h => by
    cases h
    exact ⟨fun e he => (by cases he), [], .nil, .nil, rfl⟩
  | e :: es, ps, h => by
    unfold entsI at h
    split at h
    · rename_i p r e1 e2
      cases h
      obtain ⟨t, u, q1, q2, q3⟩ := entI_of e1
      obtain ⟨h1, vs, h2, h3, h4⟩ := entsI_of (P := P) (w := w) e2
      have hk : (mixKind P w).is (Sum.inl p.1) e.key = true := by rw [q1]; exact mixKind_int P w p.1 t
      refine ⟨fun x hx => ?_, (Sum.inl p.1, e.val) :: vs, .cons hk rfl h2, .cons ⟨rfl, ⟨u, q2⟩⟩ h3, by rw [List.map_cons, List.map_cons, h4]⟩
      rcases List.mem_cons.mp hx with rfl | hx
      · exact ⟨_, hk, q3⟩
      · exact h1 x hx
    · cases h
theorem nd_inl : ∀ {l : List Int}, l.Nodup → (l.map fun z => (Sum.inl z : Key)).Nodup
  | [], _ => List.nodup_nil
  | z :: l, h => by
    rw [List.nodup_cons] at h
    rw [List.map_cons, List.nodup_cons]
    refine ⟨fun q => ?_, nd_inl h.2⟩
    obtain ⟨y, hy, e⟩ := List.mem_map.mp q
    cases e
    exact h.1 hy
theorem KDict.at {K : PySem.W.Frag} {a : Addr} {ps : List (Int × Int)} {P : Program} {w : World} {h : Heap} (D : KDict K a ps) (X : K.In h) : ∃ vs, KV (kvI ps) vs ∧ h.DictOf (mixKind P w) a vs := by
  obtain ⟨⟨o, es, ep, e1, c1, c2, c3, c4, e2⟩, nd⟩ := D
  obtain ⟨h1, vs, h2, h3, h4⟩ := entsI_of (P := P) (w := w) e2
  refine ⟨vs, h3, o, es, ep, X _ _ e1, ⟨c1, c2, c3⟩, c4, fun e he => h1 e (Array.mem_toList_iff.mpr he), h2, ?_⟩
  rw [h4]
  have := nd_inl nd
  rwa [List.map_map] at this
def tDGetK (K : PySem.W.Frag) (td ty : TE) : TE := fun σ H Q => td σ H fun x H1 => ty σ H1 fun y H2 => ∃ a ps k v, x = .ref a ∧ y = .int k ∧ KDict K a ps ∧ ps.lookup k = some v ∧ Q (.int v) H2
theorem kvI_look : ∀ {ps : List (Int × Int)} {k v : Int}, ps.lookup k = some v → valV (kvI ps) (Sum.inl k) = some (.int v)
  | [], k, v, h => by cases h
  | (a, b) :: r, k, v, h => by
    by_cases e : k = a
    · subst e
      rw [List.lookup_cons, beq_self_eq_true] at h
      cases h
      exact valV_pos rfl
    · rw [List.lookup_cons, beq_eq_false_iff_ne.mpr e] at h
      rw [show kvI ((a, b) :: r) = (Sum.inl a, V.int b) :: kvI r from rfl, valV_neg (fun q => e (Sum.inl.inj q).symm)]
      exact kvI_look h
theorem pe_dgetK {X : Cx} {o i : Expr} {pos : Pos} {td ty : TE} (ho : PE X o td) (hi : PE X i ty) (hs : NoSl i) : PE X (.Subscript o i pos) (tDGetK X.K td ty) := by
  intro pins s σ H Q I h
  refine subD_of PySem.F.slot_dict_getitem.lookup hs (thn (ho pins s σ H _ I h) fun u s1 ⟨x, H1, I1, rx, q1⟩ => thn (hi pins s1 σ H1 _ I1 q1) fun iv s2 ⟨y, H2, I2, ry, a, ps, k, v, ex, ey, D, l, q2⟩ => ?_)
  subst ex ey
  obtain rfl : u = Value.ref a := rx
  obtain ⟨vs, rel, dd⟩ := D.at (P := X.prog) (w := X.w) I2.kIn
  obtain ⟨w', hw, rw'⟩ := RelO.some_of (v := V.int v) (o := valueAt vs (Sum.inl k)) (by rw [← kvI_look l]; exact rel.val _)
  exact ⟨dd.typeIs, wpAny_getItem_of (kV_is (k := Sum.inl k) ry) dd.mapOf hw ⟨.int v, H2, I2.tok _, rw', q2⟩⟩
end FX
set_option Elab.async false
set_option linter.all false
set_option maxRecDepth 100000
namespace FX
open PySem PySem.Spec PyProof.Rows L2
open FM (enc encs encN)
/-! ### 5. A piece of the flat list -/
theorem cut_mid (A B C : List V) : cutV (A ++ (B ++ C)) (some (A.length : Int)) (some ((A.length + B.length : Nat) : Int)) = B := by
  unfold cutV
  rw [HT.sIx_nat, HT.sIx_nat]
  have e1 : min A.length (A ++ (B ++ C)).length = A.length := by rw [List.length_append]; omega
  have e2 : min (A.length + B.length) (A ++ (B ++ C)).length = A.length + B.length := by rw [List.length_append, List.length_append]; omega
  rw [e1, e2, List.drop_left, Nat.add_sub_cancel_left, List.take_left]
theorem cut_from (A B : List V) : cutV (A ++ B) (some (A.length : Int)) none = B := by
  unfold cutV
  rw [HT.sIx_nat, HT.sIx_none]
  have e1 : min A.length (A ++ B).length = A.length := by rw [List.length_append]; omega
  rw [e1, List.drop_left, List.length_append, Nat.add_sub_cancel_left, List.take_length]
theorem at_mid {A : List Int} {x : Int} {C : List Int} : atI ((A ++ x :: C).map V.int) (A.length : Int) = some (V.int x) := by
  refine atI_nat ?_
  rw [List.getElem?_map, List.getElem?_append_right (Nat.le_refl _), Nat.sub_self]
  rfl
theorem at_mid1 {A : List Int} {x y : Int} {C : List Int} : atI ((A ++ x :: y :: C).map V.int) ((A.length : Int) + 1) = some (V.int y) := by
  have e : ((A.length : Int) + 1) = ((A.length + 1 : Nat) : Int) := by omega
  rw [e]
  refine atI_nat ?_
  rw [List.getElem?_map, List.getElem?_append_right (Nat.le_add_right _ 1), Nat.add_sub_cancel_left]
  rfl
end FX
namespace FM
open Fb
theorem encs_append : ∀ (a b : List Fb.Call), encs (a ++ b) = encs a ++ encs b
  | [], b => rfl
  | q :: a, b => by
    show enc q ++ encs (a ++ b) = (enc q ++ encs a) ++ encs b
    rw [encs_append a b, List.append_assoc]
theorem enc_pos (q : Fb.Call) : 0 < (enc q).length := by cases q <;> exact Nat.succ_pos _
theorem ans_st {g g' : PS} {q : Fb.Call} {zs : List Int} (h : Ans g q g' zs) : (Fb.step g.st q).1 = g'.st := h.1
end FM
set_option Elab.async false
set_option linter.all false
set_option maxRecDepth 100000
set_option maxHeartbeats 4000000
namespace FP
open PySem PySem.Spec PyProof.Rows L2 FX
open Fb (Hist rowsOf isBefore)

/-! ### 1. The text by places -/
def top (i : Nat) : Stmt := PySem.Challenge.pw_firstbad_s01_answers.main.body.getD i (.Pass ⟨0, 0, 0, 0⟩)
abbrev sHInit : Stmt := inClass (top 1) 0
abbrev sHCount : Stmt := inClass (top 1) 1
abbrev sHHas : Stmt := inClass (top 1) 2
abbrev sHAll : Stmt := inClass (top 1) 3
abbrev sHAdd : Stmt := inClass (top 1) 4
abbrev sHBef : Stmt := inClass (top 1) 5

/-! ### 2. A history in the heap -/
def hf (pb : Addr) : List (Str × V) := putF "befores" (.ref pb) []
theorem hf_at (pb : Addr) : (hf pb).lookup ("befores" : Str) = some (.ref pb) := by
  unfold hf
  rw [lookup_putF, if_pos rfl]
theorem hf_no (pb : Addr) {m : Str} (h : ¬ m = "befores") : (hf pb).lookup m = none := by
  unfold hf
  rw [lookup_putF, if_neg h]
  all_goals rfl
/-- the dict at d holds who is before b -/
def RowAt (H : Hp) (d : Addr) (h : Hist) (b : Nat) : Prop := ∃ kvs : List (Key × V), H d = some (.dK kvs) ∧ Keys kvs (fun a => isBefore (rowsOf h) a b = true)
structure HistAt (C : Addr) (H : Hp) (ph pb : Addr) (h : Hist) : Prop where
  ob : ∃ dh, H ph = some (.ins C dh (hf pb))
  ls : ∃ ds : List Addr, H pb = some (.lst (ds.map V.ref)) ∧ ds.length = h.length ∧ ∀ b d, ds[b]? = some d → RowAt H d h b
  few : h.length ≤ 512
theorem HistAt.keep {C ph pb : Addr} {H H' : Hp} {h : Hist} (A : HistAt C H ph pb h) (k : ∀ b o, H b = some o → b = ph ∨ b = pb ∨ (∃ kvs, o = .dK kvs) → H' b = some o) : HistAt C H' ph pb h := by
  obtain ⟨⟨dh, e1⟩, ⟨ds, e2, e3, e4⟩, e5⟩ := A
  refine ⟨⟨dh, k _ _ e1 (.inl rfl)⟩, ⟨ds, k _ _ e2 (.inr (.inl rfl)), e3, fun b d hd => ?_⟩, e5⟩
  obtain ⟨kvs, q1, q2⟩ := e4 b d hd
  exact ⟨kvs, k _ _ q1 (.inr (.inr ⟨kvs, rfl⟩)), q2⟩
theorem HistAt.same {C ph pb : Addr} {H H' : Hp} {h : Hist} (A : HistAt C H ph pb h) (s : Same H H') : HistAt C H' ph pb h := A.keep fun b o e _ => s b o e

/-! ### 3. The promises -/
def spHInit (C : Addr) : Sp := fun vs H Q _ => ∃ (p dx : Addr), vs = [.ref p] ∧ H p = some (.ins C dx []) ∧ ∀ (H' : Hp) (pb : Addr), H pb = none → HistAt C H' p pb [] → (∀ b o, H b = some o → b ≠ p → H' b = some o) → Q .non H'
def spHCount (C : Addr) : Sp := fun vs H Q _ => ∃ (ph pb : Addr) (h : Hist), vs = [.ref ph] ∧ HistAt C H ph pb h ∧ Q (.int h.length) H
def spHHas (C : Addr) : Sp := fun vs H Q _ => ∃ (ph pb : Addr) (h : Hist) (c : Int), vs = [.ref ph, .int c] ∧ HistAt C H ph pb h ∧ Q (.bl (decide (c < (h.length : Int)))) H
def spHAll (K : PySem.W.Frag) (C : Addr) : Sp := fun vs H Q _ => ∃ (ph pb pl : Addr) (h : Hist) (ns : List Int), vs = [.ref ph, .ref pl] ∧ HistAt C H ph pb h ∧ SqL K H pl (ns.map V.int) ∧ ns.length ≤ 1000 ∧
  ∀ H' : Hp, Same H H' → Q (.bl (ns.all fun c => decide (c < (h.length : Int)))) H'
def spHAdd (K : PySem.W.Frag) (C : Addr) : Sp := fun vs H Q _ => ∃ (ph pb pl : Addr) (h : Hist) (ps : List Nat), vs = [.ref ph, .ref pl] ∧ HistAt C H ph pb h ∧ SqL K H pl ((FM.encN ps).map V.int) ∧ pl ≠ pb ∧ (∀ p ∈ ps, p < h.length) ∧ h.length < 512 ∧
  ∀ H' : Hp, HistAt C H' ph pb (h ++ [ps]) → (∀ b o, H b = some o → b ≠ pb → H' b = some o) → Q (.int h.length) H'
def spHBef (C : Addr) : Sp := fun vs H Q _ => ∃ (ph pb : Addr) (h : Hist) (a b : Nat), vs = [.ref ph, .int a, .int b] ∧ HistAt C H ph pb h ∧ b < h.length ∧ Q (.bl (isBefore (rowsOf h) a b)) H
structure TxH (K : PySem.W.Frag) (mg : Str → Option Value) (C : Addr) : Prop where
  cl : Cls K C
  nB : NoAttr K C "befores"
  len : mg "len" = none
  all : mg "all" = none
  range : mg "range" = none

section
variable {P : Program} {w : World} {K : PySem.W.Frag} {mg : Str → Option Value} {base : Heap}
/-! ### 4. One theorem a def -/
theorem scHI : FnScope ["self"] ["self"] (defScope sHInit) := ⟨rfl, rfl, rfl, by decide +kernel, rfl, by decide +kernel, by decide +kernel⟩
theorem ok_hinit {f C : Addr} {fd : FuncData} (F : Fun K "__init__" "History.__init__" sHInit f fd) (T : TxH K mg C) : FnOk P w K mg base CX0 1 f fd ["self"] (spHInit C) := by
  refine F.ok scHI (fun vs H Q E h => ?_) (fun cdv A outer s H vs Q E hr h => ?_)
  · obtain ⟨p, dx, rfl, _⟩ := h
    rfl
  · obtain ⟨p, dx, rfl, hp, k⟩ := h
    refine ⟨_, pss_one (ps_fld (pv 0) (pe_lst pa_nil) rfl), ?_⟩
    refine ⟨Nat.zero_le _, fun l hl => ?_⟩
    have nlp : p ≠ l := ne_of_none hp hl
    refine ⟨_, rfl, p, C, dx, [], rfl, (by rw [upd_ne nlp]; exact hp), T.cl, T.nB, (by show 0 < 1000; decide), ?_⟩
    refine k _ l hl ⟨⟨dx, upd_same⟩, ⟨[], ?_, rfl, fun b d e => by simp at e⟩, Nat.zero_le _⟩ fun b o e hb => ?_
    · rw [upd_ne (Ne.symm nlp), upd_same]
      rfl
    · rw [upd_ne hb, upd_ne (ne_of_none e hl)]
      exact e
theorem scHC : FnScope ["self"] ["self"] (defScope sHCount) := ⟨rfl, rfl, rfl, by decide +kernel, rfl, by decide +kernel, by decide +kernel⟩
theorem ok_hcount {f C : Addr} {fd : FuncData} (F : Fun K "count" "History.count" sHCount f fd) (T : TxH K mg C) : FnOk P w K mg base CX0 1 f fd ["self"] (spHCount C) := by
  refine F.ok scHC (fun vs H Q E h => ?_) (fun cdv A outer s H vs Q E hr h => ?_)
  · obtain ⟨p, _, _, rfl, _⟩ := h
    rfl
  · obtain ⟨ph, pb, h, rfl, ⟨⟨dh, e1⟩, ⟨ds, e2, e3, e4⟩, e5⟩, q⟩ := h
    refine ⟨_, pss_one (ps_ret (pe_callB call_len_seq (by rfl) T.len PySem.boot_len (pa_cons (pe_fld (pv 0) rfl) pa_nil))), ?_⟩
    refine ⟨_, rfl, ph, C, dh, _, _, rfl, e1, T.cl, T.nB, hf_at _, pb, _, rfl, .inl (SqL.of e2), ?_⟩
    rw [List.length_map, e3]
    exact q
theorem scHH : FnScope ["self", "change"] ["self", "change"] (defScope sHHas) := ⟨rfl, rfl, rfl, by decide +kernel, rfl, by decide +kernel, by decide +kernel⟩
theorem ok_hhas {f C : Addr} {fd : FuncData} (F : Fun K "has" "History.has" sHHas f fd) (T : TxH K mg C) : FnOk P w K mg base CX0 1 f fd ["self", "change"] (spHHas C) := by
  refine F.ok scHH (fun vs H Q E h => ?_) (fun cdv A outer s H vs Q E hr h => ?_)
  · obtain ⟨p, _, _, _, rfl, _⟩ := h
    rfl
  · obtain ⟨ph, pb, h, c, rfl, ⟨⟨dh, e1⟩, ⟨ds, e2, e3, e4⟩, e5⟩, q⟩ := h
    refine ⟨_, pss_one (ps_ret (pe_cmpR op_lt (pv 1) (pe_callB call_len_seq (by rfl) T.len PySem.boot_len (pa_cons (pe_fld (pv 0) rfl) pa_nil)) (nomark _))), ?_⟩
    refine ⟨_, rfl, _, rfl, ph, C, dh, _, _, rfl, e1, T.cl, T.nB, hf_at _, pb, _, rfl, .inl (SqL.of e2), _, _, rfl, rfl, ?_⟩
    rw [List.length_map, e3]
    exact q
theorem scHL : FnScope ["self", "changes", "change"] ["self", "changes"] (defScope sHAll) := ⟨rfl, rfl, rfl, by decide +kernel, rfl, by decide +kernel, by decide +kernel⟩
theorem ok_hall {f fH C : Addr} {fd fdH : FuncData} (F : Fun K "has_all" "History.has_all" sHAll f fd) (T : TxH K mg C) (FH : Fun K "has" "History.has" sHHas fH fdH) (bH : Binds K fdH ["self", "change"] []) (mH : Meth K C "has" fH) :
    FnOk P w K mg base CX0 2 f fd ["self", "changes"] (spHAll K C) := by
  have GH : FnOk P w K mg base CX0 1 fH fdH ["self", "change"] (spHHas C) := ok_hhas FH T
  refine F.ok scHL (fun vs H Q E h => ?_) (fun cdv A outer s H vs Q E hr h => ?_)
  · obtain ⟨_, _, _, _, _, rfl, _⟩ := h
    rfl
  · obtain ⟨ph, pb, pl, h, ns, rfl, hA, hS, hz, k⟩ := h
    refine ⟨_, pss_one (ps_ret (pe_callB (cr_all rfl) (by rfl) T.all boot_all (pa_cons (pe_lc (own := [("change", 2)]) rfl scHL.nd (pi_list (pv 1)) (blkOk_by (show blkC ["self", "changes", "change"] (defScope sHAll) _ _ = true by decide +kernel))
      (fun _ _ _ _ _ => pg_name (i := 2) scHL.nd rfl (Or.inl rfl)) (fun _ _ _ _ _ => pts_nil)
      (fun _ _ _ _ _ => pe_meth (pv 0) T.cl mH GH hr bH .nil pass0 (pa_cons (pv 2) pa_nil))) pa_nil))), ?_⟩
    refine ⟨_, rfl, pl, rfl, ⟨_, hS⟩, fun D hD => ?_⟩
    have s0 : Same H (upd H D (.lst [])) := same_new hD
    refine lc_list (K := K) (a := pl) (xs := ns.map V.int) (fun i H' => Same H H' ∧ H' D = some (.lst (((ns.take i).map fun c => decide (c < (h.length : Int))).map V.bl)))
      ⟨s0, upd_same⟩ (fun i H' _ ⟨s1, _⟩ => s1.seq hS) ?_ ?_
    · rintro i x H' hi ⟨s1, hD'⟩
      obtain ⟨c, hc, rfl⟩ := map_at hi
      have hA1 := hA.same s1
      obtain ⟨⟨dh, e1⟩, _, _⟩ := id hA1
      refine ⟨rfl, iteT (B := True) ?_⟩
      refine ⟨_, rfl, ph, dh, _, rfl, e1, hf_no _ (by decide +kernel), _, rfl, ph, pb, h, c, rfl, hA1, _, hD', ?_, ?_, ?_⟩
      · rw [List.length_map, List.length_map, List.length_take]
        exact small1000 (Nat.le_trans (Nat.min_le_right _ _) hz)
      · exact fun b o e => by rw [upd_ne (ne_of_none e hD)]; exact s1 b o e
      · rw [upd_same, take_snoc hc, List.map_append, List.map_append]
        rfl
    · rintro H' ⟨s1, hD'⟩
      rw [List.length_map, List.take_length] at hD'
      refine ⟨D, _, rfl, SqL.of hD', ?_⟩
      rw [List.all_map]
      exact k H' s1
end
end FP
set_option Elab.async false
set_option linter.all false
set_option maxRecDepth 100000
set_option maxHeartbeats 4000000
namespace FP
open PySem PySem.Spec PyProof.Rows L2 FX
open Fb (Hist rowsOf isBefore)
section
variable {P : Program} {w : World} {K : PySem.W.Frag} {mg : Str → Option Value} {base : Heap}
theorem scHB : FnScope ["self", "a", "b"] ["self", "a", "b"] (defScope sHBef) := ⟨rfl, rfl, rfl, by decide +kernel, rfl, by decide +kernel, by decide +kernel⟩
theorem ok_hbef {f C : Addr} {fd : FuncData} (F : Fun K "before" "History.before" sHBef f fd) (T : TxH K mg C) : FnOk P w K mg base CX0 1 f fd ["self", "a", "b"] (spHBef C) := by
  refine F.ok scHB (fun vs H Q E h => ?_) (fun cdv A outer s H vs Q E hr h => ?_)
  · obtain ⟨_, _, _, _, _, rfl, _⟩ := h
    rfl
  · obtain ⟨ph, pb, h, a, b, rfl, ⟨⟨dh, e1⟩, ⟨ds, e2, e3, e4⟩, e5⟩, hb, q⟩ := h
    have hu := hu_of hr
    refine ⟨_, pss_one (ps_ret (pe_cmp (pc_din hu (pv 1) (pe_ix ix_list (pe_fld (pv 0) rfl) (pv 2) (fun _ _ => rfl))))), ?_⟩
    obtain ⟨d, hd⟩ : ∃ d, ds[b]? = some d := ⟨_, List.getElem?_eq_getElem (by omega)⟩
    obtain ⟨kvs, q1, q2⟩ := e4 b d hd
    refine ⟨_, rfl, _, rfl, ph, C, dh, _, _, rfl, e1, T.cl, T.nB, hf_at _, _, rfl, pb, _, _, V.ref d, rfl, rfl, SqL.of e2, atI_nat (by rw [List.getElem?_map, hd]; rfl), d, _, rfl, DGet.k (k := Sum.inl (a : Int)) q1, ?_⟩
    have e : (valV kvs (Sum.inl (a : Int))).isSome = isBefore (rowsOf h) a b := by
      rw [Bool.eq_iff_iff]
      exact q2.val a
    rw [e]
    exact q
/-- the row of a new change while it is made: itself, and who is before one of the first i parents -/
def Part (h : Hist) (ps : List Nat) (i a : Nat) : Prop := a = h.length ∨ ∃ p ∈ ps.take i, isBefore (rowsOf h) a p = true
theorem part_lt {h : Hist} {ps : List Nat} {i a : Nat} (x : Part h ps i a) : a < h.length + 1 := by
  rcases x with x | ⟨p, _, x⟩
  · omega
  · have := FM.bf_le h x
    omega
theorem part_end {h : Hist} {ps : List Nat} {a : Nat} : Part h ps ps.length a ↔ isBefore (rowsOf (h ++ [ps])) a h.length = true := by
  rw [FM.bf_new_iff]
  unfold Part
  rw [List.take_length]
  constructor
  · rintro (x | ⟨p, hp, x⟩)
    · exact .inl x
    · have := FM.bf_le h x
      exact .inr ⟨by omega, p, hp, x⟩
  · rintro (x | ⟨_, p, hp, x⟩)
    · exact .inl x
    · exact .inr ⟨p, hp, x⟩
theorem part_succ {h : Hist} {ps : List Nat} {i p a : Nat} (hp : ps[i]? = some p) : Part h ps (i + 1) a ↔ Part h ps i a ∨ isBefore (rowsOf h) a p = true := by
  unfold Part
  rw [take_snoc hp]
  constructor
  · rintro (x | ⟨c, hc, x⟩)
    · exact .inl (.inl x)
    · rcases List.mem_append.mp hc with hc | hc
      · exact .inl (.inr ⟨c, hc, x⟩)
      · rw [List.mem_singleton.mp hc] at x
        exact .inr x
  · rintro ((x | ⟨c, hc, x⟩) | x)
    · exact .inl x
    · exact .inr ⟨c, List.mem_append_left _ hc, x⟩
    · exact .inr ⟨p, List.mem_append_right _ (List.mem_singleton.mpr rfl), x⟩
theorem scHA : FnScope ["self", "parents", "number", "earlier", "parent"] ["self", "parents"] (defScope sHAdd) := ⟨rfl, rfl, rfl, by decide +kernel, rfl, by decide +kernel, by decide +kernel⟩
theorem ok_hadd {f C : Addr} {fd : FuncData} (F : Fun K "add" "History.add" sHAdd f fd) (T : TxH K mg C) : FnOk P w K mg base CX0 1 f fd ["self", "parents"] (spHAdd K C) := by
  refine F.ok scHA (fun vs H Q E h => ?_) (fun cdv A outer s H vs Q E hr h => ?_)
  · obtain ⟨_, _, _, _, _, rfl, _⟩ := h
    rfl
  · obtain ⟨ph, pb, pl, h, ps, rfl, hA, hS, hne, hps, h512, k⟩ := h
    have hu := hu_of hr
    obtain ⟨⟨dh, e1⟩, ⟨ds, e2, e3, e4⟩, e5⟩ := id hA
    refine ⟨_, pss_cons (ps_set (i := 2) scHA.nd rfl (Or.inl rfl) (pe_callB call_len_seq (by rfl) T.len PySem.boot_len (pa_cons (pe_fld (pv 0) rfl) pa_nil)))
      (pss_cons (ps_set (i := 3) scHA.nd rfl (Or.inl rfl) (pe_disp (pps_cons (pv 2) pe_bl pps_nil) rfl rfl (by intro e; cases e) (by decide)))
      (pss_cons (ps_for PassesOwn.never rfl (pi_list (pv 1)) (pg_name (i := 4) scHA.nd rfl (Or.inl rfl))
        (pss_one (ps_expr (pe_bm PySem.F.plainAttrs_dict PySem.F.slot_dict_update PySem.F.type_dict_update mt_update (pv 3) (pa_cons (pe_ix ix_list (pe_fld (pv 0) rfl) (pv 4) (fun _ _ => rfl)) pa_nil)))))
      (pss_cons (ps_expr (pe_bm PySem.F.plainAttrs_list PySem.F.slot_list_append PySem.F.type_list_append mt_append (pe_fld (pv 0) rfl) (pa_cons (pv 3) pa_nil)))
      (pss_one (ps_ret (pv 2)))))), ?_⟩
    -- number = len(self.befores)
    refine ⟨_, rfl, ph, C, dh, _, _, rfl, e1, T.cl, T.nB, hf_at _, pb, _, rfl, .inl (SqL.of e2), ?_⟩
    rw [List.length_map, e3]
    -- earlier = {number: True}
    refine fun e he => ⟨_, rfl, ?_⟩
    refine ⟨upd_same, [(Sum.inl (h.length : Int), V.bl true)], rfl, by show 1 ≤ 15; decide, ?_⟩
    rw [upd_upd]
    have k1 := Keys.one h.length (V.bl true)
    have s1 : Same H (upd H e (.dK (mergeK [] [(Sum.inl (h.length : Int), V.bl true)]))) := same_new he
    -- for parent in parents
    refine ⟨_, rfl, pl, rfl, ⟨_, s1.seq hS⟩, for_list (K := K) (a := pl) (xs := (FM.encN ps).map V.int)
      (fun i σ H' => ∃ (v : Option V) (kvs : List (Key × V)), σ = [some (.ref ph), some (.ref pl), some (.int h.length), some (.ref e), v] ∧ H' e = some (.dK kvs) ∧ Keys kvs (Part h ps i) ∧ Same H H')
      ⟨none, _, rfl, upd_same, k1.iff fun a => ⟨fun q => .inl q, fun q => q.elim id fun ⟨p, hp, _⟩ => by simp at hp⟩, s1⟩ (fun i σ H' _ ⟨_, _, _, _, _, s2⟩ => s2.seq hS) ?_ ?_⟩
    · rintro i y σ H' hi ⟨v, kvs, rfl, he', hk, s2⟩
      obtain ⟨z, hz, rfl⟩ := map_at hi
      obtain ⟨p, hp, rfl⟩ := map_at (f := fun (n : Nat) => (n : Int)) hz
      have hpl : p < h.length := hps p (List.mem_of_getElem? hp)
      obtain ⟨d, hd⟩ : ∃ d, ds[p]? = some d := ⟨_, List.getElem?_eq_getElem (by omega)⟩
      obtain ⟨more, q1, q2⟩ := e4 p d hd
      have hde : e ≠ d := (ne_of_none q1 he).symm
      have l1 : kvs.length ≤ h.length + 1 := hk.len fun a x => part_lt x
      have l2 : more.length ≤ h.length := q2.len fun a x => by have := FM.bf_le h x; omega
      refine ⟨_, rfl, .inr (.inr (.inl ⟨rfl, .inl ⟨_, he'⟩⟩)), _, rfl, ph, C, dh, _, _, rfl, s2 _ _ e1, T.cl, T.nB, hf_at _, _, rfl, pb, _, _, V.ref d, rfl, rfl, SqL.of (s2 _ _ e2), atI_nat (by rw [List.getElem?_map, hd]; rfl),
        e, d, _, _, rfl, rfl, he', s2 _ _ q1, hde, (by rw [sizeLine_eq]; omega), ?_⟩
      refine ⟨_, _, rfl, upd_same, (hk.merge q2).iff fun a => (part_succ hp).symm, fun b o eb => ?_⟩
      rw [upd_ne (ne_of_none eb he)]
      exact s2 b o eb
    · rintro σ H' ⟨v, kvs, rfl, he', hk, s2⟩
      rw [List.length_map] at hk
      have hl : (FM.encN ps).length = ps.length := List.length_map _
      rw [hl] at hk
      -- self.befores.append(earlier)
      refine ⟨_, rfl, ph, C, dh, _, _, rfl, s2 _ _ e1, T.cl, T.nB, hf_at _, .inl ⟨rfl, _, SqL.of (s2 _ _ e2)⟩, _, rfl, pb, _, _, rfl, rfl, s2 _ _ e2, (by rw [List.length_map]; exact small1000 (by omega)), ?_⟩
      -- return number
      refine ⟨_, rfl, ?_⟩
      have npe : e ≠ pb := (ne_of_none e2 he).symm
      have nhb : ph ≠ pb := ne_of e1 e2 (by intro z; cases z)
      refine k _ ⟨⟨dh, by rw [upd_ne nhb]; exact s2 _ _ e1⟩, ⟨ds ++ [e], by rw [upd_same, List.map_append]; rfl, by rw [List.length_append, List.length_append, e3]; rfl, fun b d hd => ?_⟩, by rw [List.length_append]; exact h512⟩ fun b o eb hb => by rw [upd_ne hb]; exact s2 b o eb
      by_cases hb : b < ds.length
      · rw [List.getElem?_append_left hb] at hd
        obtain ⟨more, q1, q2⟩ := e4 b d hd
        refine ⟨more, by rw [upd_ne (ne_of q1 e2 (by intro z; cases z))]; exact s2 _ _ q1, q2.iff fun a => ?_⟩
        rw [FM.bf_old (by omega)]
      · have hb2 : b = ds.length := by
          have := (List.getElem?_eq_some_iff.mp hd).1
          rw [List.length_append] at this
          simp at this
          omega
        subst hb2
        have ed : e = d := by
          rw [List.getElem?_append_right (Nat.le_refl _), Nat.sub_self] at hd
          exact Option.some.inj hd
        subst ed
        refine ⟨kvs, by rw [upd_ne npe]; exact he', hk.iff fun a => ?_⟩
        rw [e3]
        exact part_end
end
end FP
set_option Elab.async false
set_option linter.all false
set_option maxRecDepth 100000
set_option maxHeartbeats 4000000
namespace FP
open PySem PySem.Spec PyProof.Rows L2 FX
open Fb (Hist rowsOf isBefore)
abbrev sAgr : Stmt := top 6
abbrev sAll : Stmt := top 7
abbrev sLeft : Stmt := top 8
/-- the tuples at ts are the marks ms -/
def MarksAt (H : Hp) (ts : List Addr) (ms : List (Nat × Nat)) : Prop := ts.length = ms.length ∧ ∀ (i : Nat) (t : Addr), ts[i]? = some t → ∃ m : Nat × Nat, ms[i]? = some m ∧ H t = some (.tup [.int m.1, .int m.2])
def MarksOk (h : Hist) (ms : List (Nat × Nat)) : Prop := ∀ m ∈ ms, m.1 < h.length ∧ m.2 ≤ 2
theorem MarksAt.keep {H H' : Hp} {ts : List Addr} {ms : List (Nat × Nat)} (A : MarksAt H ts ms) (k : ∀ b xs, H b = some (.tup xs) → H' b = some (.tup xs)) : MarksAt H' ts ms :=
  ⟨A.1, fun i t e => let ⟨m, e1, e2⟩ := A.2 i t e; ⟨m, e1, k _ _ e2⟩⟩
theorem MarksAt.same {H H' : Hp} {ts : List Addr} {ms : List (Nat × Nat)} (A : MarksAt H ts ms) (s : Same H H') : MarksAt H' ts ms := A.keep fun b _ e => s b _ e
theorem MarksAt.nil {H : Hp} : MarksAt H [] [] := ⟨rfl, fun i t e => by simp at e⟩
theorem MarksAt.cons {H : Hp} {t : Addr} {ts : List Addr} {m : Nat × Nat} {ms : List (Nat × Nat)} (e : H t = some (.tup [.int m.1, .int m.2])) (A : MarksAt H ts ms) : MarksAt H (t :: ts) (m :: ms) :=
  ⟨by rw [List.length_cons, List.length_cons, A.1], fun i u eu => match i, eu with
    | 0, eu => ⟨m, rfl, by rw [← Option.some.inj (show some t = some u from eu)]; exact e⟩
    | i + 1, eu => A.2 i u eu⟩
theorem MarksAt.snoc {H : Hp} {t : Addr} {ts : List Addr} {m : Nat × Nat} {ms : List (Nat × Nat)} (A : MarksAt H ts ms) (e : H t = some (.tup [.int m.1, .int m.2])) : MarksAt H (ts ++ [t]) (ms ++ [m]) := by
  refine ⟨by rw [List.length_append, List.length_append, A.1]; rfl, fun i u eu => ?_⟩
  by_cases hi : i < ts.length
  · rw [List.getElem?_append_left hi] at eu
    obtain ⟨m', e1, e2⟩ := A.2 i u eu
    exact ⟨m', by rw [List.getElem?_append_left (by rw [← A.1]; exact hi)]; exact e1, e2⟩
  · have hi2 : i = ts.length := by
      have := (List.getElem?_eq_some_iff.mp eu).1
      rw [List.length_append] at this
      simp at this
      omega
    subst hi2
    rw [List.getElem?_append_right (Nat.le_refl _), Nat.sub_self] at eu
    have : t = u := Option.some.inj eu
    subst this
    exact ⟨m, by rw [A.1, List.getElem?_append_right (Nat.le_refl _), Nat.sub_self]; rfl, e⟩

structure TxL (K : PySem.W.Frag) (mg : Str → Option Value) (C fA fW : Addr) : Prop where
  th : TxH K mg C
  good : ∃ t, mg "GOOD" = some (.int 0 t)
  bad : ∃ t, mg "BAD" = some (.int 1 t)
  agr : mg "agrees" = some (.ref fA)
  all : mg "agrees_with_all" = some (.ref fW)
def spAgr (C : Addr) : Sp := fun vs H Q _ => ∃ (ph pb : Addr) (h : Hist) (x : Nat) (m : Nat × Nat), vs = [.ref ph, .int x, .int m.1, .int m.2] ∧ HistAt C H ph pb h ∧ m.1 < h.length ∧ Q (.bl (FM.agr (rowsOf h) x m)) H
def spAll (K : PySem.W.Frag) (C : Addr) : Sp := fun vs H Q _ => ∃ (ph pb pm : Addr) (h : Hist) (x : Nat) (ts : List Addr) (ms : List (Nat × Nat)), vs = [.ref ph, .int x, .ref pm] ∧ HistAt C H ph pb h ∧ SqL K H pm (ts.map V.ref) ∧ MarksAt H ts ms ∧ MarksOk h ms ∧
  Q (.bl (ms.all (FM.agr (rowsOf h) x))) H
def spLeft (C : Addr) : Sp := fun vs H Q _ => ∃ (ph pb pm : Addr) (h : Hist) (s : Nat) (ts : List Addr) (ms : List (Nat × Nat)), vs = [.ref ph, .int s, .ref pm] ∧ HistAt C H ph pb h ∧ s < h.length ∧ H pm = some (.lst (ts.map V.ref)) ∧ MarksAt H ts ms ∧ MarksOk h ms ∧ ms.length ≤ 1100 ∧
  ∀ (H' : Hp) (D : Addr), H D = none → Same H H' → H' D = some (.lst ((FM.encN (Fb.left h (FM.srch s ms))).map V.int)) → Q (.ref D) H'

section
variable {P : Program} {w : World} {K : PySem.W.Frag} {mg : Str → Option Value} {base : Heap}
theorem scG : FnScope ["history", "change", "marked", "kind"] ["history", "change", "marked", "kind"] (defScope sAgr) := ⟨rfl, rfl, rfl, by decide +kernel, rfl, by decide +kernel, by decide +kernel⟩
theorem ok_agr {f fA fW fB C : Addr} {fd fdB : FuncData} (F : Fun K "agrees" "agrees" sAgr f fd) (T : TxL K mg C fA fW) (FB : Fun K "before" "History.before" sHBef fB fdB) (bB : Binds K fdB ["self", "a", "b"] []) (mB : Meth K C "before" fB) :
    FnOk P w K mg base CX0 2 f fd ["history", "change", "marked", "kind"] (spAgr C) := by
  have GB : FnOk P w K mg base CX0 1 fB fdB ["self", "a", "b"] (spHBef C) := ok_hbef FB T.th
  refine F.ok scG (fun vs H Q E h => ?_) (fun cdv A outer s H vs Q E hr h => ?_)
  · obtain ⟨_, _, _, _, _, rfl, _⟩ := h
    rfl
  · obtain ⟨ph, pb, h, x, ⟨c, kd⟩, rfl, hA, hm, q⟩ := h
    obtain ⟨t0, g0⟩ := T.good
    obtain ⟨t1, g1⟩ := T.bad
    obtain ⟨⟨dh, e1⟩, _, _⟩ := id hA
    refine ⟨_, pss_cons (ps_if (pt_cmpR op_eq (pv 3) (pe_glob (v := .int 0) rfl g0 ⟨t0, rfl⟩) (nomark _)) (pss_one (ps_ret (pe_not (pe_meth (pv 0) T.th.cl mB GB hr bB .nil pass0 (pa_cons (pv 1) (pa_cons (pv 2) pa_nil)))))) pss_nil)
      (pss_cons (ps_if (pt_cmpR op_eq (pv 3) (pe_glob (v := .int 1) rfl g1 ⟨t1, rfl⟩) (nomark _)) (pss_one (ps_ret (pe_meth (pv 0) T.th.cl mB GB hr bB .nil pass0 (pa_cons (pv 1) (pa_cons (pv 2) pa_nil))))) pss_nil)
      (pss_one (ps_ret pe_bl))), ?_⟩
    refine ⟨_, rfl, rfl, _, rfl, ite2 (fun e => ?_) (fun e => ?_)⟩
    · have hk : kd = 0 := by
        have := of_decide_eq_true e
        injection this with this
        omega
      subst hk
      refine ⟨_, rfl, ph, dh, _, rfl, e1, hf_no _ (by decide +kernel), _, rfl, _, rfl, ph, pb, h, x, c, rfl, hA, hm, _, rfl, ?_⟩
      exact q
    · have h0 : kd ≠ 0 := fun z => e (decide_eq_true (by rw [z]; rfl))
      refine ⟨_, rfl, rfl, _, rfl, ite2 (fun e' => ?_) (fun e' => ?_)⟩
      · have hk : kd = 1 := by
          have := of_decide_eq_true e'
          injection this with this
          omega
        subst hk
        refine ⟨_, rfl, ph, dh, _, rfl, e1, hf_no _ (by decide +kernel), _, rfl, _, rfl, ph, pb, h, x, c, rfl, hA, hm, ?_⟩
        exact q
      · have h1 : kd ≠ 1 := fun z => e' (decide_eq_true (by rw [z]; rfl))
        rw [FM.agr_skip h0 h1] at q
        exact q
theorem scW : FnScope ["history", "change", "marks", "marked", "kind"] ["history", "change", "marks"] (defScope sAll) := ⟨rfl, rfl, rfl, by decide +kernel, rfl, by decide +kernel, by decide +kernel⟩
theorem ok_all {f fA fW C : Addr} {fd fdA : FuncData} (F : Fun K "agrees_with_all" "agrees_with_all" sAll f fd) (T : TxL K mg C fA fW) (FA : Fun K "agrees" "agrees" sAgr fA fdA) (bA : Binds K fdA ["history", "change", "marked", "kind"] [])
    (GA : FnOk P w K mg base CX0 2 fA fdA ["history", "change", "marked", "kind"] (spAgr C)) : FnOk P w K mg base CX0 3 f fd ["history", "change", "marks"] (spAll K C) := by
  refine F.ok scW (fun vs H Q E h => ?_) (fun cdv A outer s H vs Q E hr h => ?_)
  · obtain ⟨_, _, _, _, _, _, _, rfl, _⟩ := h
    rfl
  · obtain ⟨ph, pb, pm, h, x, ts, ms, rfl, hA, hS, hM, hO, q⟩ := h
    refine ⟨_, pss_cons (ps_for PassesOwn.never rfl (pi_list (pv 2)) (pg_tup rfl (pgs_cons (pg_name (i := 3) scW.nd rfl (Or.inl rfl)) (pgs_cons (pg_name (i := 4) scW.nd rfl (Or.inl rfl)) pgs_nil)))
        (pss_one (ps_if (pt_not (pt_val (pe_call GA hr rfl T.agr FA.kp bA .nil pass0 (pa_cons (pv 0) (pa_cons (pv 1) (pa_cons (pv 3) (pa_cons (pv 4) pa_nil)))))))
          (pss_one (ps_ret pe_bl)) pss_nil)))
      (pss_one (ps_ret pe_bl)), ?_⟩
    refine ⟨_, rfl, pm, rfl, ⟨_, hS⟩, for_list (K := K) (a := pm) (xs := ts.map V.ref) (fun i σ H' => ∃ (v3 v4 : Option V), σ = [some (.ref ph), some (.int x), some (.ref pm), v3, v4] ∧ H' = H ∧ (ms.take i).all (FM.agr (rowsOf h) x) = true)
      ⟨none, none, rfl, rfl, rfl⟩ (fun i σ H' _ ⟨_, _, _, e, _⟩ => by rw [e]; exact hS) ?_ ?_⟩
    · rintro i y σ H' hi ⟨v3, v4, rfl, rfl, hall⟩
      obtain ⟨t, ht, rfl⟩ := map_at hi
      obtain ⟨m, hm, et⟩ := hM.2 i t ht
      refine ⟨t, _, rfl, SqT.of et, rfl, _, _, rfl, _, _, rfl, rfl, ?_⟩
      refine ⟨_, rfl, _, rfl, _, rfl, _, rfl, ph, pb, h, x, m, rfl, hA, (hO m (List.mem_of_getElem? hm)).1, _, rfl, ?_⟩
      cases em : FM.agr (rowsOf h) x m with
      | true =>
        refine iteF ⟨_, _, rfl, rfl, ?_⟩
        rw [take_snoc hm, List.all_append, hall]
        simp [em]
      | false =>
        refine iteT ?_
        have : ms.all (FM.agr (rowsOf h) x) = false := by
          rw [List.all_eq_false]
          exact ⟨m, List.mem_of_getElem? hm, by rw [em]; decide⟩
        rw [this] at q
        exact q
    · rintro σ H' ⟨v3, v4, rfl, rfl, hall⟩
      rw [List.length_map, hM.1, List.take_length] at hall
      rw [hall] at q
      exact q
theorem scF : FnScope ["history", "bad", "marks", "known", "change"] ["history", "bad", "marks"] (defScope sLeft) := ⟨rfl, rfl, rfl, by decide +kernel, rfl, by decide +kernel, by decide +kernel⟩
theorem ok_left {f fA fW fC C : Addr} {fd fdW fdC : FuncData} (F : Fun K "those_left" "those_left" sLeft f fd) (T : TxL K mg C fA fW) (FW : Fun K "agrees_with_all" "agrees_with_all" sAll fW fdW) (bW : Binds K fdW ["history", "change", "marks"] [])
    (GW : FnOk P w K mg base CX0 3 fW fdW ["history", "change", "marks"] (spAll K C)) (FC : Fun K "count" "History.count" sHCount fC fdC) (bC : Binds K fdC ["self"] []) (mC : Meth K C "count" fC) :
    FnOk P w K mg base CX0 4 f fd ["history", "bad", "marks"] (spLeft C) := by
  have GC : FnOk P w K mg base CX0 3 fC fdC ["self"] (spHCount C) := (ok_hcount FC T.th).mono (by decide)
  refine F.ok scF (fun vs H Q E h => ?_) (fun cdv A outer s H vs Q E hr h => ?_)
  · obtain ⟨_, _, _, _, _, _, _, rfl, _⟩ := h
    rfl
  · obtain ⟨ph, pb, pm, h, sb, ts, ms, rfl, hA, hs, hP, hM, hO, hz, k⟩ := h
    obtain ⟨t1, g1⟩ := T.bad
    refine ⟨_, pss_cons (ps_set (i := 3) scF.nd rfl (Or.inr rfl) (pe_op op_cat (pe_lst (pa_cons (pe_tup (pa_cons (pv 1) (pa_cons (pe_glob (v := .int 1) rfl g1 ⟨t1, rfl⟩) pa_nil))) pa_nil)) (pv 2)))
      (pss_one (ps_ret (pe_lc (own := [("change", 4)]) rfl scF.nd (pi_range1 rfl T.th.range (pa_cons (pe_meth0 (pv 0) T.th.cl mC GC hr bC .nil pass0) pa_nil)) (blkOk_by (show blkC ["history", "bad", "marks", "known", "change"] (defScope sLeft) _ _ = true by decide +kernel))
        (fun _ _ _ _ _ => pg_name (i := 4) scF.nd rfl (Or.inl rfl)) (fun _ _ _ _ _ => pts_one (pt_val (pe_call GW hr rfl T.all FW.kp bW .nil pass0 (pa_cons (pv 0) (pa_cons (pv 4) (pa_cons (pv 3) pa_nil))))))
        (fun _ _ _ _ _ => pv 4)))), ?_⟩
    -- known = [(bad, BAD)] + marks
    refine ⟨_, rfl, (by show 2 ≤ sizeLine; decide), fun t ht => ⟨(by show 1 ≤ sizeLine; decide), fun l hl => ?_⟩⟩
    have htl : t ≠ l := ne_of_none upd_same hl
    have s1 : Same H (upd H t (.tup [.int sb, .int 1])) := same_new ht
    have s2 : Same (upd H t (.tup [.int sb, .int 1])) (upd (upd H t (.tup [.int sb, .int 1])) l (.lst [.ref t])) := same_new hl
    have s12 := s1.trans s2
    refine ⟨_, rfl, l, pm, _, _, rfl, rfl, upd_same, s12 _ _ hP, (by rw [List.length_map, hM.1]; have := small1000 (n := 1000) (Nat.le_refl _); show 1 + ms.length ≤ sizeLine; rw [sizeLine_eq]; omega), fun n hn => ?_⟩
    have s3 := same_new (o := .lst ([V.ref t] ++ ts.map V.ref)) hn
    have s := s12.trans s3
    have hn1 : upd (upd (upd H t (.tup [.int sb, .int 1])) l (.lst [.ref t])) n (.lst ([V.ref t] ++ ts.map V.ref)) n = some (.lst ((t :: ts).map V.ref)) := upd_same
    have hM1 := MarksAt.cons (m := (sb, 1)) (s3 _ _ (s2 _ _ upd_same)) (hM.same s)
    generalize upd (upd (upd H t (.tup [.int sb, .int 1])) l (.lst [.ref t])) n (.lst ([V.ref t] ++ ts.map V.ref)) = H1 at s hn1 hM1 ⊢
    have hA1 := hA.same s
    obtain ⟨⟨dh, e1⟩, _, _⟩ := id hA1
    have hO1 : MarksOk h ((sb, 1) :: ms) := fun m hm => by
      rcases List.mem_cons.mp hm with rfl | hm
      · exact ⟨hs, (by show 1 ≤ 2; decide)⟩
      · exact hO m hm
    have h5 := hA.few
    -- range(history.count())
    refine ⟨_, rfl, ph, dh, _, rfl, e1, hf_no _ (by decide +kernel), ph, pb, h, rfl, hA1, (h.length : Int), rfl, by omega, by omega, fun D hD => ?_⟩
    rw [Int.toNat_natCast]
    refine lc_range (lo := 0) (n := h.length) (fun i H' => Same H1 H' ∧ H' D = some (.lst ((FM.encN ((List.range i).filter fun x => ((sb, 1) :: ms).all (FM.agr (rowsOf h) x))).map V.int))) ⟨same_new hD, upd_same⟩ ?_ ?_
    · rintro i H' hi ⟨s4, hD'⟩
      refine ⟨rfl, ?_⟩
      refine ⟨_, rfl, _, rfl, _, rfl, ph, pb, n, h, i, t :: ts, (sb, 1) :: ms, ?_, hA1.same s4, SqL.of (s4 _ _ hn1), hM1.same s4, hO1, _, rfl, ?_⟩
      · show [V.ref ph, V.int (0 + (i : Int)), V.ref n] = [V.ref ph, V.int (i : Int), V.ref n]
        rw [Int.zero_add]
      · have ef := FM.filter_take_snoc (fun x => ((sb, 1) :: ms).all (FM.agr (rowsOf h) x)) i hi
        cases em : ((sb, 1) :: ms).all (FM.agr (rowsOf h) i) with
        | true =>
          rw [if_pos em] at ef
          refine iteT ⟨_, rfl, _, hD', ?_, fun b o e => by rw [upd_ne (ne_of_none e hD)]; exact s4 b o e, ?_⟩
          · unfold FM.encN
            rw [List.length_map, List.length_map]
            refine Nat.lt_of_le_of_lt (List.length_filter_le _ _) ?_
            rw [List.length_range]
            exact small1000 (by omega)
          · rw [upd_same, ef]
            unfold FM.encN
            rw [List.map_append, List.map_append, Int.zero_add]
            rfl
        | false =>
          rw [if_neg (by rw [em]; decide), List.append_nil] at ef
          refine iteF ⟨s4, ?_⟩
          rw [ef]
          exact hD'
    · rintro H' ⟨s4, hD'⟩
      refine k H' D (s.free hD) (s.trans s4) ?_
      rw [FM.left_srch]
      exact hD'
end
end FP
set_option Elab.async false
set_option linter.all false
set_option maxRecDepth 100000
set_option maxHeartbeats 4000000
namespace FX
open PySem PySem.Spec PyProof.Rows L2
/-! ### 5. not in a list of pairs -/
section
variable {X : Cx}
def rNotInD (K : PySem.W.Frag) : R2 := fun x y H Q => ∃ (d : PyData) (ds : List PyData), Dp K H x d ∧ Dp K H y (.list ds) ∧ d.canLay0 = true ∧ PyData.canLayAll0 ds = true ∧ d.depth ≤ 8 ∧ Q (.bl (!ds.any fun z => PyData.eqv z d)) H
theorem op_notInD {K : PySem.W.Frag} (hK : X.K = K) (hu : X.A.units + 64 < cLine) : OpR X (compareOp .NotIn) (rNotInD K) := by
  subst hK
  intro pins s σ H x y v u Q I rx ry h
  obtain ⟨d, ds, hd, he, sd, se, dp, q⟩ := h
  obtain ⟨as, r1⟩ := Dp.reads I d x v hd rx
  obtain ⟨bs, r2⟩ := Dp.reads I (.list ds) y u he ry
  exact SeqAt.notIn_list_reads r2 r1 se sd (by have := Nat.min_le_right (PyData.depthAll ds) d.depth; omega) ⟨.bl _, H, I, rfl, q⟩
end
def mkD (m : Nat × Nat) : PyData := .tuple [.int m.1, .int m.2]
theorem pair_eqv (m n : Nat × Nat) : PyData.eqv (mkD m) (mkD n) = true ↔ m = n := by
  obtain ⟨a, b⟩ := m
  obtain ⟨c, d⟩ := n
  simp [mkD, PyData.eqv, PyData.eqvAll]
  omega
theorem pair_lay (m : Nat × Nat) : (mkD m).canLay0 = true := by simp [mkD, PyData.canLay0, PyData.canLayAll0]
theorem pairs_lay : ∀ ms : List (Nat × Nat), PyData.canLayAll0 (ms.map mkD) = true
  | [] => by simp [PyData.canLayAll0]
  | m :: ms => by
    rw [List.map_cons]
    simp only [PyData.canLayAll0, pair_lay, pairs_lay ms, Bool.and_self]
theorem pair_depth (m : Nat × Nat) : (mkD m).depth ≤ 8 := by simp [mkD, PyData.depth, PyData.depthAll]
theorem pair_any (ms : List (Nat × Nat)) (n : Nat × Nat) : (ms.map mkD).any (fun z => PyData.eqv z (mkD n)) = decide (n ∈ ms) := by
  rw [Bool.eq_iff_iff, List.any_map, List.any_eq_true, decide_eq_true_iff]
  constructor
  · rintro ⟨m, hm, e⟩
    rw [← (pair_eqv m n).mp e]
    exact hm
  · intro h
    exact ⟨n, h, (pair_eqv n n).mpr rfl⟩
theorem filt_snoc {α : Type} {l : List α} {i : Nat} {y : α} (p : α → Bool) (h : l[i]? = some y) : (l.take (i + 1)).filter p = (l.take i).filter p ++ (if p y = true then [y] else []) := by
  rw [take_snoc h, List.filter_append]
  cases e : p y <;> simp [e]
end FX
namespace FP
open PySem PySem.Spec PyProof.Rows L2 FX
open Fb (Hist rowsOf isBefore)
open FM (encN srch stp gr toTry parts1 partsAll deep tot rst)
abbrev sToTry : Stmt := top 9
abbrev sIns : Stmt := top 11
abbrev sOut : Stmt := top 12
abbrev sShare : Stmt := top 13
abbrev sBest : Stmt := top 14
abbrev sGrp : Stmt := top 15
abbrev sWorst : Stmt := top 16
def badV : Option Nat → V
  | none => .non
  | some s => .int s
theorem len_enc (l : List Nat) : ((encN l).map V.int).length = l.length := by unfold FM.encN; rw [List.length_map, List.length_map]
theorem enc_snoc (l : List Nat) (y : Nat) : (encN (l ++ [y])).map V.int = (encN l).map V.int ++ [V.int (y : Int)] := by unfold FM.encN; rw [List.map_append, List.map_append]; rfl
theorem enc_at {l : List Nat} {i : Nat} {x : V} (h : ((encN l).map V.int)[i]? = some x) : ∃ y : Nat, l[i]? = some y ∧ x = .int (y : Int) := by
  obtain ⟨z, hz, rfl⟩ := map_at h
  obtain ⟨y, hy, rfl⟩ := map_at (f := fun (n : Nat) => (n : Int)) hz
  exact ⟨y, hy, rfl⟩
theorem marks_dp {K : PySem.W.Frag} {H : Hp} : ∀ (ts : List Addr) (ms : List (Nat × Nat)), MarksAt H ts ms → DpAll K H (ts.map V.ref) (ms.map mkD)
  | [], [], _ => .nil
  | [], m :: ms, A => absurd A.1 (by simp)
  | t :: ts, [], A => absurd A.1 (by simp)
  | t :: ts, m :: ms, A => by
    obtain ⟨m', e1, e2⟩ := A.2 0 t rfl
    have e : m = m' := Option.some.inj e1
    subst e
    refine .cons (.tup (SqT.of e2) (.cons (.int _) (.cons (.int _) .nil))) (marks_dp ts ms ⟨?_, fun i u eu => A.2 (i + 1) u eu⟩)
    have q := A.1
    rw [List.length_cons, List.length_cons] at q
    omega
/-- the lists at ds are the groups gs -/
def GroupsAt (H : Hp) (ds : List Addr) (gs : List (List Nat)) : Prop := ds.length = gs.length ∧ ∀ (i : Nat) (d : Addr), ds[i]? = some d → ∃ g : List Nat, gs[i]? = some g ∧ H d = some (.lst ((encN g).map V.int))
theorem GroupsAt.keep {H H' : Hp} {ds : List Addr} {gs : List (List Nat)} (A : GroupsAt H ds gs) (k : ∀ d ∈ ds, ∀ o, H d = some o → H' d = some o) : GroupsAt H' ds gs :=
  ⟨A.1, fun i d e => let ⟨g, e1, e2⟩ := A.2 i d e; ⟨g, e1, k _ (List.mem_of_getElem? e) _ e2⟩⟩
theorem GroupsAt.same {H H' : Hp} {ds : List Addr} {gs : List (List Nat)} (A : GroupsAt H ds gs) (s : Same H H') : GroupsAt H' ds gs := A.keep fun d _ o e => s d o e
theorem GroupsAt.nil {H : Hp} : GroupsAt H [] [] := ⟨rfl, fun i t e => by simp at e⟩
theorem GroupsAt.snoc {H : Hp} {t : Addr} {ts : List Addr} {m : List Nat} {ms : List (List Nat)} (A : GroupsAt H ts ms) (e : H t = some (.lst ((encN m).map V.int))) : GroupsAt H (ts ++ [t]) (ms ++ [m]) := by
  refine ⟨by rw [List.length_append, List.length_append, A.1]; rfl, fun i u eu => ?_⟩
  by_cases hi : i < ts.length
  · rw [List.getElem?_append_left hi] at eu
    obtain ⟨m', e1, e2⟩ := A.2 i u eu
    exact ⟨m', by rw [List.getElem?_append_left (by rw [← A.1]; exact hi)]; exact e1, e2⟩
  · have hi2 : i = ts.length := by
      have := (List.getElem?_eq_some_iff.mp eu).1
      rw [List.length_append] at this
      simp at this
      omega
    subst hi2
    rw [List.getElem?_append_right (Nat.le_refl _), Nat.sub_self] at eu
    have : t = u := Option.some.inj eu
    subst this
    exact ⟨m, by rw [A.1, List.getElem?_append_right (Nat.le_refl _), Nat.sub_self]; rfl, e⟩

structure TxR (K : PySem.W.Frag) (mg : Str → Option Value) (C fI fO fS fT fG : Addr) : Prop where
  th : TxH K mg C
  min : mg "min" = none
  ins : mg "those_before" = some (.ref fI)
  out : mg "those_not_before" = some (.ref fO)
  shr : mg "share" = some (.ref fS)
  bst : mg "best_try" = some (.ref fT)
  grp : mg "groups_after_a_try" = some (.ref fG)
def spToTry (C : Addr) : Sp := fun vs H Q _ => ∃ (ph pb pm : Addr) (h : Hist) (ts : List Addr) (ms : List (Nat × Nat)), vs = [.ref ph, .ref pm] ∧ HistAt C H ph pb h ∧ H pm = some (.lst (ts.map V.ref)) ∧ MarksAt H ts ms ∧
  ∀ (H' : Hp) (D : Addr), H D = none → Same H H' → H' D = some (.lst ((encN ((List.range h.length).filter fun c => !decide ((c, 2) ∈ ms))).map V.int)) → Q (.ref D) H'
def spPart (C : Addr) (f : List (List Nat) → List Nat → Nat → List Nat) : Sp := fun vs H Q _ => ∃ (ph pb pr : Addr) (h : Hist) (l : List Nat) (c : Nat), vs = [.ref ph, .ref pr, .int c] ∧ HistAt C H ph pb h ∧ H pr = some (.lst ((encN l).map V.int)) ∧ c < h.length ∧ l.length ≤ 1000 ∧
  ∀ (H' : Hp) (D : Addr), H D = none → Same H H' → H' D = some (.lst ((encN (f (rowsOf h) l c)).map V.int)) → Q (.ref D) H'
def spShare (C : Addr) : Sp := fun vs H Q _ => ∃ (ph pb pr : Addr) (h : Hist) (l : List Nat) (c : Nat), vs = [.ref ph, .ref pr, .int c] ∧ HistAt C H ph pb h ∧ H pr = some (.lst ((encN l).map V.int)) ∧ c < h.length ∧ l.length ≤ 1000 ∧
  ∀ H' : Hp, Same H H' → Q (.int ((Fb.share (rowsOf h) l c : Nat) : Int)) H'
def spBest (C : Addr) : Sp := fun vs H Q _ => ∃ (ph pb pr pc : Addr) (h : Hist) (l cs : List Nat), vs = [.ref ph, .ref pr, .ref pc] ∧ HistAt C H ph pb h ∧ H pr = some (.lst ((encN l).map V.int)) ∧ H pc = some (.lst ((encN cs).map V.int)) ∧ (∀ c ∈ cs, c < h.length) ∧ l.length ≤ 1000 ∧
  ∀ H' : Hp, Same H H' → Q (badV ((cs.foldl (stp (rowsOf h) l) none).map fun x => x.1)) H'
def spGrp (C : Addr) : Sp := fun vs H Q _ => ∃ (ph pb pg pc : Addr) (h : Hist) (skip : Nat → Bool) (ds : List Addr) (gs : List (List Nat)), vs = [.ref ph, .ref pg, .ref pc] ∧ HistAt C H ph pb h ∧ H pg = some (.lst (ds.map V.ref)) ∧ GroupsAt H ds gs ∧
  H pc = some (.lst ((encN (toTry skip h.length)).map V.int)) ∧ tot gs ≤ 1000 ∧ ∀ (H' : Hp) (D : Addr) (es : List Addr), H D = none → Same H H' → H' D = some (.lst (es.map V.ref)) → GroupsAt H' es (partsAll (rowsOf h) skip gs) → Q (.ref D) H'
def spWorst (C : Addr) : Sp := fun vs H Q _ => ∃ (ph pb pr pc : Addr) (h : Hist) (skip : Nat → Bool) (l : List Nat), vs = [.ref ph, .ref pr, .ref pc] ∧ HistAt C H ph pb h ∧ H pr = some (.lst ((encN l).map V.int)) ∧ H pc = some (.lst ((encN (toTry skip h.length)).map V.int)) ∧ l.length ≤ 1000 ∧
  ∀ H' : Hp, Same H H' → Q (.int ((rst (rowsOf h) skip l : Nat) : Int)) H'

section
variable {P : Program} {w : World} {K : PySem.W.Frag} {mg : Str → Option Value} {base : Heap}
theorem scTT : FnScope ["history", "marks", "change"] ["history", "marks"] (defScope sToTry) := ⟨rfl, rfl, rfl, by decide +kernel, rfl, by decide +kernel, by decide +kernel⟩
theorem ok_totry {f fC C : Addr} {fd fdC : FuncData} (F : Fun K "those_to_try" "those_to_try" sToTry f fd) (T : TxH K mg C) (sk : ∃ t, mg "SKIPPED" = some (.int 2 t)) (bC : Binds K fdC ["self"] []) (mC : Meth K C "count" fC) (GC : FnOk P w K mg base CX0 1 fC fdC ["self"] (spHCount C)) :
    FnOk P w K mg base CX0 2 f fd ["history", "marks"] (spToTry C) := by
  refine F.ok scTT (fun vs H Q E h => ?_) (fun cdv A outer s H vs Q E hr h => ?_)
  · obtain ⟨_, _, _, _, _, _, rfl, _⟩ := h
    rfl
  · obtain ⟨ph, pb, pm, h, ts, ms, rfl, hA, hP, hM, k⟩ := h
    obtain ⟨t2, g2⟩ := sk
    refine ⟨_, pss_one (ps_ret (pe_lc (own := [("change", 2)]) rfl scTT.nd (pi_range1 rfl T.range (pa_cons (pe_meth0 (pv 0) T.cl mC GC hr bC .nil pass0) pa_nil)) (blkOk_by (show blkC ["history", "marks", "change"] (defScope sToTry) _ _ = true by decide +kernel))
        (fun _ _ _ _ _ => pg_name (i := 2) scTT.nd rfl (Or.inl rfl)) (fun _ _ _ _ _ => pts_one (pt_cmpR (op_notInD (K := K) rfl hr.units) (pe_tup (pa_cons (pv 2) (pa_cons (pe_glob (v := .int 2) rfl g2 ⟨t2, rfl⟩) pa_nil))) (pv 1) (by with_unfolding_all rfl)))
        (fun _ _ _ _ _ => pv 2))), ?_⟩
    obtain ⟨⟨dh, e1⟩, _, h5⟩ := id hA
    refine ⟨_, rfl, ph, dh, _, rfl, e1, hf_no _ (by decide +kernel), ph, pb, h, rfl, hA, (h.length : Int), rfl, by omega, by omega, fun D hD => ?_⟩
    rw [Int.toNat_natCast]
    refine lc_range (lo := 0) (n := h.length) (fun i H' => Same H H' ∧ H' D = some (.lst ((encN ((List.range i).filter fun c => !decide ((c, 2) ∈ ms))).map V.int))) ⟨same_new hD, upd_same⟩ ?_ ?_
    · rintro i H' hi ⟨s4, hD'⟩
      refine ⟨rfl, ?_⟩
      refine ⟨_, rfl, (by show 2 ≤ sizeLine; decide), fun t ht => ?_⟩
      have s5 := same_new (o := .tup [V.int (0 + (i : Int)), V.int 2]) ht
      have ht1 : upd H' t (.tup [V.int (0 + (i : Int)), V.int 2]) t = some (.tup [V.int (((i, 2) : Nat × Nat).1 : Int), V.int (((i, 2) : Nat × Nat).2 : Int)]) := by
        rw [upd_same, Int.zero_add]
        rfl
      have s45 := s4.trans s5
      have hd1 : Dp K (upd H' t (.tup [V.int (0 + (i : Int)), V.int 2])) (.ref t) (mkD (i, 2)) := .tup (SqT.of ht1) (.cons (.int _) (.cons (.int _) .nil))
      have hd2 : Dp K (upd H' t (.tup [V.int (0 + (i : Int)), V.int 2])) (.ref pm) (.list (ms.map mkD)) := .lst (SqL.of (s45 _ _ hP)) (marks_dp ts ms (hM.same s45))
      refine ⟨_, rfl, mkD (i, 2), ms.map mkD, hd1, hd2, pair_lay _, pairs_lay _, pair_depth _, _, rfl, ?_⟩
      rw [pair_any]
      have ef := FM.filter_take_snoc (fun c => !decide ((c, 2) ∈ ms)) i hi
      have hD5 := s5 _ _ hD'
      cases em : decide ((i, 2) ∈ ms) with
      | false =>
        rw [if_pos (by rw [em]; rfl)] at ef
        refine iteT ⟨_, rfl, _, hD5, ?_, fun b o e => by rw [upd_ne (ne_of_none e hD)]; exact s45 b o e, ?_⟩
        · rw [len_enc]
          refine Nat.lt_of_le_of_lt (List.length_filter_le _ _) ?_
          rw [List.length_range]
          exact small1000 (by omega)
        · rw [upd_same, ef, enc_snoc, Int.zero_add]
      | true =>
        rw [if_neg (by rw [em]; decide), List.append_nil] at ef
        refine iteF ⟨s45, ?_⟩
        rw [ef]
        exact hD5
    · rintro H' ⟨s4, hD'⟩
      exact k H' D hD s4 hD'
theorem scIn : FnScope ["history", "remaining", "change", "one"] ["history", "remaining", "change"] (defScope sIns) := ⟨rfl, rfl, rfl, by decide +kernel, rfl, by decide +kernel, by decide +kernel⟩
theorem ok_ins {f fB C : Addr} {fd fdB : FuncData} (F : Fun K "those_before" "those_before" sIns f fd) (T : TxH K mg C) (bB : Binds K fdB ["self", "a", "b"] []) (mB : Meth K C "before" fB) (GB : FnOk P w K mg base CX0 1 fB fdB ["self", "a", "b"] (spHBef C)) :
    FnOk P w K mg base CX0 2 f fd ["history", "remaining", "change"] (spPart C Fb.inside) := by
  refine F.ok scIn (fun vs H Q E h => ?_) (fun cdv A outer s H vs Q E hr h => ?_)
  · obtain ⟨_, _, _, _, _, _, rfl, _⟩ := h
    rfl
  · obtain ⟨ph, pb, pr, h, l, c, rfl, hA, hR, hc, hz, k⟩ := h
    refine ⟨_, pss_one (ps_ret (pe_lc (own := [("one", 3)]) rfl scIn.nd (pi_list (pv 1)) (blkOk_by (show blkC ["history", "remaining", "change", "one"] (defScope sIns) _ _ = true by decide +kernel))
        (fun _ _ _ _ _ => pg_name (i := 3) scIn.nd rfl (Or.inl rfl)) (fun _ _ _ _ _ => pts_one (pt_val (pe_meth (pv 0) T.cl mB GB hr bB .nil pass0 (pa_cons (pv 3) (pa_cons (pv 2) pa_nil)))))
        (fun _ _ _ _ _ => pv 3))), ?_⟩
    refine ⟨_, rfl, pr, rfl, ⟨_, SqL.of hR⟩, fun D hD => ?_⟩
    refine lc_list (K := K) (a := pr) (xs := (encN l).map V.int) (fun i H' => Same H H' ∧ H' D = some (.lst ((encN (Fb.inside (rowsOf h) (l.take i) c)).map V.int))) ⟨same_new hD, upd_same⟩ (fun i H' _ ⟨s1, _⟩ => SqL.of (s1 _ _ hR)) ?_ ?_
    · rintro i x H' hi ⟨s1, hD'⟩
      obtain ⟨y, hy, rfl⟩ := enc_at hi
      have hA1 := hA.same s1
      obtain ⟨⟨dh, e1⟩, _, _⟩ := id hA1
      refine ⟨rfl, ?_⟩
      refine ⟨_, rfl, ph, dh, _, rfl, e1, hf_no _ (by decide +kernel), _, rfl, _, rfl, ph, pb, h, y, c, rfl, hA1, hc, _, rfl, ?_⟩
      have ef := filt_snoc (fun x => isBefore (rowsOf h) x c) hy
      cases em : isBefore (rowsOf h) y c with
      | true =>
        rw [if_pos em] at ef
        refine iteT ⟨_, rfl, _, hD', ?_, fun b o e => by rw [upd_ne (ne_of_none e hD)]; exact s1 b o e, ?_⟩
        · rw [len_enc]
          unfold Fb.inside
          refine Nat.lt_of_le_of_lt (List.length_filter_le _ _) ?_
          rw [List.length_take]
          exact small1000 (Nat.le_trans (Nat.min_le_right _ _) hz)
        · rw [upd_same]
          unfold Fb.inside
          rw [ef, enc_snoc]
      | false =>
        rw [if_neg (by rw [em]; decide), List.append_nil] at ef
        refine iteF ⟨s1, ?_⟩
        unfold Fb.inside at hD' ⊢
        rw [ef]
        exact hD'
    · rintro H' ⟨s1, hD'⟩
      rw [len_enc, List.take_length] at hD'
      exact k H' D hD s1 hD'
theorem scOu : FnScope ["history", "remaining", "change", "one"] ["history", "remaining", "change"] (defScope sOut) := ⟨rfl, rfl, rfl, by decide +kernel, rfl, by decide +kernel, by decide +kernel⟩
theorem ok_out {f fB C : Addr} {fd fdB : FuncData} (F : Fun K "those_not_before" "those_not_before" sOut f fd) (T : TxH K mg C) (bB : Binds K fdB ["self", "a", "b"] []) (mB : Meth K C "before" fB) (GB : FnOk P w K mg base CX0 1 fB fdB ["self", "a", "b"] (spHBef C)) :
    FnOk P w K mg base CX0 2 f fd ["history", "remaining", "change"] (spPart C Fb.outside) := by
  refine F.ok scOu (fun vs H Q E h => ?_) (fun cdv A outer s H vs Q E hr h => ?_)
  · obtain ⟨_, _, _, _, _, _, rfl, _⟩ := h
    rfl
  · obtain ⟨ph, pb, pr, h, l, c, rfl, hA, hR, hc, hz, k⟩ := h
    refine ⟨_, pss_one (ps_ret (pe_lc (own := [("one", 3)]) rfl scOu.nd (pi_list (pv 1)) (blkOk_by (show blkC ["history", "remaining", "change", "one"] (defScope sOut) _ _ = true by decide +kernel))
        (fun _ _ _ _ _ => pg_name (i := 3) scOu.nd rfl (Or.inl rfl)) (fun _ _ _ _ _ => pts_one (pt_not (pt_val (pe_meth (pv 0) T.cl mB GB hr bB .nil pass0 (pa_cons (pv 3) (pa_cons (pv 2) pa_nil))))))
        (fun _ _ _ _ _ => pv 3))), ?_⟩
    refine ⟨_, rfl, pr, rfl, ⟨_, SqL.of hR⟩, fun D hD => ?_⟩
    refine lc_list (K := K) (a := pr) (xs := (encN l).map V.int) (fun i H' => Same H H' ∧ H' D = some (.lst ((encN (Fb.outside (rowsOf h) (l.take i) c)).map V.int))) ⟨same_new hD, upd_same⟩ (fun i H' _ ⟨s1, _⟩ => SqL.of (s1 _ _ hR)) ?_ ?_
    · rintro i x H' hi ⟨s1, hD'⟩
      obtain ⟨y, hy, rfl⟩ := enc_at hi
      have hA1 := hA.same s1
      obtain ⟨⟨dh, e1⟩, _, _⟩ := id hA1
      refine ⟨rfl, ?_⟩
      refine ⟨_, rfl, ph, dh, _, rfl, e1, hf_no _ (by decide +kernel), _, rfl, _, rfl, ph, pb, h, y, c, rfl, hA1, hc, _, rfl, ?_⟩
      have ef := filt_snoc (fun x => !isBefore (rowsOf h) x c) hy
      cases em : isBefore (rowsOf h) y c with
      | false =>
        rw [if_pos (by rw [em]; rfl)] at ef
        refine iteT ⟨_, rfl, _, hD', ?_, fun b o e => by rw [upd_ne (ne_of_none e hD)]; exact s1 b o e, ?_⟩
        · rw [len_enc]
          unfold Fb.outside
          refine Nat.lt_of_le_of_lt (List.length_filter_le _ _) ?_
          rw [List.length_take]
          exact small1000 (Nat.le_trans (Nat.min_le_right _ _) hz)
        · rw [upd_same]
          unfold Fb.outside
          rw [ef, enc_snoc]
      | true =>
        rw [if_neg (by rw [em]; decide), List.append_nil] at ef
        refine iteF ⟨s1, ?_⟩
        unfold Fb.outside at hD' ⊢
        rw [ef]
        exact hD'
    · rintro H' ⟨s1, hD'⟩
      rw [len_enc, List.take_length] at hD'
      exact k H' D hD s1 hD'
theorem scSh : FnScope ["history", "remaining", "change", "staying"] ["history", "remaining", "change"] (defScope sShare) := ⟨rfl, rfl, rfl, by decide +kernel, rfl, by decide +kernel, by decide +kernel⟩
theorem ok_share {f fI fO fS fT fG C : Addr} {fd fdI : FuncData} (F : Fun K "share" "share" sShare f fd) (T : TxR K mg C fI fO fS fT fG) (kI : PySem.W.keepIn K (.ref fI) = true) (bI : Binds K fdI ["history", "remaining", "change"] []) (GI : FnOk P w K mg base CX0 2 fI fdI ["history", "remaining", "change"] (spPart C Fb.inside)) :
    FnOk P w K mg base CX0 3 f fd ["history", "remaining", "change"] (spShare C) := by
  refine F.ok scSh (fun vs H Q E h => ?_) (fun cdv A outer s H vs Q E hr h => ?_)
  · obtain ⟨_, _, _, _, _, _, rfl, _⟩ := h
    rfl
  · obtain ⟨ph, pb, pr, h, l, c, rfl, hA, hR, hc, hz, k⟩ := h
    refine ⟨_, pss_cons (ps_set (i := 3) scSh.nd rfl (Or.inl rfl) (pe_callB call_len_seq (by rfl) T.th.len PySem.boot_len (pa_cons (pe_call GI hr rfl T.ins kI bI .nil pass0 (pa_cons (pv 0) (pa_cons (pv 1) (pa_cons (pv 2) pa_nil)))) pa_nil)))
      (pss_one (ps_ret (pe_callB (call_min2 rfl) (by rfl) T.min boot_min (pa_cons (pv 3) (pa_cons (pe_op op_sub (pe_callB call_len_seq (by rfl) T.th.len PySem.boot_len (pa_cons (pv 1) pa_nil)) (pv 3)) pa_nil))))), ?_⟩
    refine ⟨_, rfl, _, rfl, _, rfl, ph, pb, pr, h, l, c, rfl, hA, hR, hc, hz, fun H1 D hD s1 hD1 => ?_⟩
    refine ⟨D, _, rfl, .inl (SqL.of hD1), ?_⟩
    rw [len_enc]
    refine ⟨_, rfl, _, rfl, pr, _, rfl, .inl (SqL.of (s1 _ _ hR)), _, rfl, _, _, rfl, rfl, _, _, rfl, ?_⟩
    have q := k H1 s1
    rw [FM.share_min] at q
    rw [len_enc]
    exact q
theorem scBe : FnScope ["history", "remaining", "choices", "best", "greatest", "change", "parted"] ["history", "remaining", "choices"] (defScope sBest) := ⟨rfl, rfl, rfl, by decide +kernel, rfl, by decide +kernel, by decide +kernel⟩
theorem ok_best {f fI fO fS fT fG C : Addr} {fd fdS : FuncData} (F : Fun K "best_try" "best_try" sBest f fd) (T : TxR K mg C fI fO fS fT fG) (kS : PySem.W.keepIn K (.ref fS) = true) (bS : Binds K fdS ["history", "remaining", "change"] []) (GS : FnOk P w K mg base CX0 3 fS fdS ["history", "remaining", "change"] (spShare C)) :
    FnOk P w K mg base CX0 4 f fd ["history", "remaining", "choices"] (spBest C) := by
  refine F.ok scBe (fun vs H Q E h => ?_) (fun cdv A outer s H vs Q E hr h => ?_)
  · obtain ⟨_, _, _, _, _, _, _, rfl, _⟩ := h
    rfl
  · obtain ⟨ph, pb, pr, pc, h, l, cs, rfl, hA, hR, hC, hlt, hz, k⟩ := h
    refine ⟨_, pss_cons (ps_set (i := 3) scBe.nd rfl (Or.inl rfl) pe_non) (pss_cons (ps_set (i := 4) scBe.nd rfl (Or.inl rfl) pe_int)
      (pss_cons (ps_for PassesOwn.never rfl (pi_list (pv 2)) (pg_name (i := 5) scBe.nd rfl (Or.inl rfl))
        (pss_cons (ps_set (i := 6) scBe.nd rfl (Or.inl rfl) (pe_call GS hr rfl T.shr kS bS .nil pass0 (pa_cons (pv 0) (pa_cons (pv 1) (pa_cons (pv 5) pa_nil)))))
        (pss_one (ps_if (pt_cmpR op_gt (pv 6) (pv 4) (nomark _)) (pss_cons (ps_set (i := 3) scBe.nd rfl (Or.inl rfl) (pv 5)) (pss_one (ps_set (i := 4) scBe.nd rfl (Or.inl rfl) (pv 6)))) pss_nil))))
      (pss_one (ps_ret (pv 3))))), ?_⟩
    refine ⟨_, rfl, pc, rfl, ⟨_, SqL.of hC⟩, for_list (K := K) (a := pc) (xs := (encN cs).map V.int)
      (fun i σ H' => ∃ (v5 v6 : Option V) (b : Option (Nat × Nat)), b = (cs.take i).foldl (stp (rowsOf h) l) none ∧ σ = [some (.ref ph), some (.ref pr), some (.ref pc), some (badV (b.map fun x => x.1)), some (.int ((gr b : Nat) : Int)), v5, v6] ∧ Same H H')
      ⟨none, none, none, rfl, rfl, Same.refl _⟩ (fun i σ H' _ ⟨_, _, _, _, _, s1⟩ => SqL.of (s1 _ _ hC)) ?_ ?_⟩
    · rintro i x σ H' hi ⟨v5, v6, b, hb, rfl, s1⟩
      obtain ⟨y, hy, rfl⟩ := enc_at hi
      have hyl : y < h.length := hlt y (List.mem_of_getElem? hy)
      have eb : (cs.take (i + 1)).foldl (stp (rowsOf h) l) none = stp (rowsOf h) l b y := by
        rw [take_snoc hy, List.foldl_append, ← hb]
        rfl
      refine ⟨_, rfl, _, rfl, _, rfl, ph, pb, pr, h, l, y, rfl, hA.same s1, s1 _ _ hR, hyl, hz, fun H2 s2 => ?_⟩
      refine ⟨_, rfl, _, rfl, _, _, rfl, rfl, _, rfl, ite2 (fun e => ?_) (fun e => ?_)⟩
      · have hlt : gr b < Fb.share (rowsOf h) l y := by have := of_decide_eq_true e; omega
        refine ⟨_, rfl, _, rfl, _, _, some (y, Fb.share (rowsOf h) l y), ?_, rfl, s1.trans s2⟩
        rw [eb]
        unfold FM.stp
        rw [if_pos hlt]
      · have hlt : ¬ gr b < Fb.share (rowsOf h) l y := fun q => e (decide_eq_true (by omega))
        refine ⟨_, _, b, ?_, rfl, s1.trans s2⟩
        rw [eb]
        unfold FM.stp
        rw [if_neg hlt]
    · rintro σ H' ⟨v5, v6, b, hb, rfl, s1⟩
      rw [len_enc, List.take_length] at hb
      subst hb
      exact ⟨_, rfl, k H' s1⟩
theorem scGr : FnScope ["history", "groups", "choices", "parts", "group", "change"] ["history", "groups", "choices"] (defScope sGrp) := ⟨rfl, rfl, rfl, by decide +kernel, rfl, by decide +kernel, by decide +kernel⟩
theorem not_non {o : Option Nat} : ((!decide (badV o = V.non)) = true) ↔ o ≠ none := by
  cases o with
  | none => simp [badV]
  | some s => simp [badV]
theorem ok_grp {f fI fO fS fT fG C : Addr} {fd fdI fdO fdT : FuncData} (F : Fun K "groups_after_a_try" "groups_after_a_try" sGrp f fd) (T : TxR K mg C fI fO fS fT fG)
    (kI : PySem.W.keepIn K (.ref fI) = true) (bI : Binds K fdI ["history", "remaining", "change"] []) (GI : FnOk P w K mg base CX0 2 fI fdI ["history", "remaining", "change"] (spPart C Fb.inside))
    (kO : PySem.W.keepIn K (.ref fO) = true) (bO : Binds K fdO ["history", "remaining", "change"] []) (GO : FnOk P w K mg base CX0 2 fO fdO ["history", "remaining", "change"] (spPart C Fb.outside))
    (kT : PySem.W.keepIn K (.ref fT) = true) (bT : Binds K fdT ["history", "remaining", "choices"] []) (GT : FnOk P w K mg base CX0 4 fT fdT ["history", "remaining", "choices"] (spBest C)) :
    FnOk P w K mg base CX0 5 f fd ["history", "groups", "choices"] (spGrp C) := by
  refine F.ok scGr (fun vs H Q E h => ?_) (fun cdv A outer s H vs Q E hr h => ?_)
  · obtain ⟨_, _, _, _, _, _, _, _, rfl, _⟩ := h
    rfl
  · obtain ⟨ph, pb, pg, pc, h, skip, ds, gs, rfl, hA, hG, hgs, hC, hz, k⟩ := h
    have r2 : Room 2 _ := hr.mono (by decide)
    refine ⟨_, pss_cons (ps_set (i := 3) scGr.nd rfl (Or.inl rfl) (pe_lst pa_nil))
      (pss_cons (ps_for PassesOwn.never rfl (pi_list (pv 1)) (pg_name (i := 4) scGr.nd rfl (Or.inl rfl))
        (pss_cons (ps_set (i := 5) scGr.nd rfl (Or.inl rfl) (pe_call GT hr rfl T.bst kT bT .nil pass0 (pa_cons (pv 0) (pa_cons (pv 4) (pa_cons (pv 2) pa_nil)))))
        (pss_one (ps_if (pt_cmp (pc_notN (pv 5)))
          (pss_cons (ps_expr (pe_bm PySem.F.plainAttrs_list PySem.F.slot_list_append PySem.F.type_list_append mt_append (pv 3) (pa_cons (pe_call GI r2 rfl T.ins kI bI .nil pass0 (pa_cons (pv 0) (pa_cons (pv 4) (pa_cons (pv 5) pa_nil)))) pa_nil)))
          (pss_one (ps_expr (pe_bm PySem.F.plainAttrs_list PySem.F.slot_list_append PySem.F.type_list_append mt_append (pv 3) (pa_cons (pe_call GO r2 rfl T.out kO bO .nil pass0 (pa_cons (pv 0) (pa_cons (pv 4) (pa_cons (pv 5) pa_nil)))) pa_nil))))) pss_nil))))
      (pss_one (ps_ret (pv 3)))), ?_⟩
    -- parts = []
    refine ⟨Nat.zero_le _, fun D hD => ?_⟩
    have s0 : Same H (upd H D (.lst [])) := same_new hD
    have rl := FM.rows_length h
    refine ⟨_, rfl, pg, rfl, ⟨_, SqL.of (s0 _ _ hG)⟩, for_list (K := K) (a := pg) (xs := ds.map V.ref)
      (fun i σ H' => ∃ (v4 v5 : Option V) (es : List Addr), σ = [some (.ref ph), some (.ref pg), some (.ref pc), some (.ref D), v4, v5] ∧ Same H H' ∧ H' D = some (.lst (es.map V.ref)) ∧ GroupsAt H' es (partsAll (rowsOf h) skip (gs.take i)) ∧ ∀ d ∈ es, d ≠ D)
      ⟨none, none, [], rfl, s0, upd_same, GroupsAt.nil, fun d hd => absurd hd (by simp)⟩ (fun i σ H' _ ⟨_, _, _, _, s1, _⟩ => SqL.of (s1 _ _ hG)) ?_ ?_⟩
    · rintro i x σ H' hi ⟨v4, v5, es, rfl, s1, hD', hE, hne⟩
      obtain ⟨d, hd, rfl⟩ := map_at hi
      obtain ⟨g, hg, hgd⟩ := hgs.2 i d hd
      have hgl : g.length ≤ 1000 := Nat.le_trans (FM.tot_mem (List.mem_of_getElem? hg)) hz
      have hel : es.length ≤ 1000 := by
        rw [hE.1]
        exact Nat.le_trans (FM.parts_take gs i) hz
      have hgA : partsAll (rowsOf h) skip (gs.take (i + 1)) = partsAll (rowsOf h) skip (gs.take i) ++ parts1 (rowsOf h) skip g := by
        rw [take_snoc hg, FM.partsAll_append, FM.partsAll_one]
      refine ⟨_, rfl, _, rfl, _, rfl, ph, pb, d, pc, h, g, toTry skip h.length, rfl, hA.same s1, s1 _ _ hgd, s1 _ _ hC, fun c hc => FM.toTry_lt hc, hgl, fun H2 s2 => ?_⟩
      have en : ((toTry skip h.length).foldl (stp (rowsOf h) g) none).map (fun x => x.1) = Fb.nextTry (rowsOf h) skip g := by rw [FM.next_toTry, rl]
      rw [en]
      refine ⟨_, rfl, _, rfl, ite2 (fun e => ?_) (fun e => ?_)⟩
      · have e' := not_non.mp e
        cases ec : Fb.nextTry (rowsOf h) skip g with
        | none => exact absurd ec e'
        | some c =>
          have hc : c < h.length := by have := (FM.next_some ec).1; omega
          rw [FM.parts1_some ec] at hgA
          have s12 := s1.trans s2
          refine ⟨_, rfl, .inl ⟨rfl, _, SqL.of (s2 _ _ hD')⟩, _, rfl, _, rfl, _, rfl, ph, pb, d, h, g, c, rfl, hA.same s12, s12 _ _ hgd, hc, hgl, fun H3 D1 hD1 s3 hD3 => ?_⟩
          have nD1 : D1 ≠ D := (ne_of_none (s2 _ _ hD') hD1).symm
          refine ⟨D, _, _, rfl, rfl, s3 _ _ (s2 _ _ hD'), (by rw [List.length_map]; exact small1000 hel), ?_⟩
          have s13 := s12.trans s3
          have e4 : es.map V.ref ++ [V.ref D1] = (es ++ [D1]).map V.ref := by rw [List.map_append]; rfl
          rw [e4]
          have s4 : Same H (upd H3 D (.lst ((es ++ [D1]).map V.ref))) := fun b o eb => by rw [upd_ne (ne_of_none eb hD)]; exact s13 b o eb
          have hE4 : GroupsAt (upd H3 D (.lst ((es ++ [D1]).map V.ref))) (es ++ [D1]) (partsAll (rowsOf h) skip (gs.take i) ++ [Fb.inside (rowsOf h) g c]) :=
            (hE.keep fun d hd o eo => by rw [upd_ne (hne d hd)]; exact s3 _ _ (s2 _ _ eo)).snoc (by rw [upd_ne nD1]; exact hD3)
          have hD4 : upd H3 D (.lst ((es ++ [D1]).map V.ref)) D = some (.lst ((es ++ [D1]).map V.ref)) := upd_same
          have hne4 : ∀ d ∈ es ++ [D1], d ≠ D := fun d hd => by
            rcases List.mem_append.mp hd with hd | hd
            · exact hne d hd
            · rw [List.mem_singleton.mp hd]; exact nD1
          generalize upd H3 D (.lst ((es ++ [D1]).map V.ref)) = H4 at s4 hE4 hD4 ⊢
          refine ⟨_, rfl, .inl ⟨rfl, _, SqL.of hD4⟩, _, rfl, _, rfl, _, rfl, ph, pb, d, h, g, c, rfl, hA.same s4, s4 _ _ hgd, hc, hgl, fun H5 D2 hD2 s5 hD5 => ?_⟩
          have nD2 : D2 ≠ D := (ne_of_none hD4 hD2).symm
          refine ⟨D, _, _, rfl, rfl, s5 _ _ hD4, (by rw [List.length_map, List.length_append]; exact Nat.lt_of_le_of_lt (show es.length + 1 ≤ 1001 by omega) (by rw [sizeLine_eq]; omega)), ?_⟩
          have e6 : (es ++ [D1]).map V.ref ++ [V.ref D2] = ((es ++ [D1]) ++ [D2]).map V.ref := by rw [List.map_append (l₁ := es ++ [D1])]; rfl
          rw [e6]
          refine ⟨_, _, (es ++ [D1]) ++ [D2], rfl, fun b o eb => by rw [upd_ne (ne_of_none eb hD)]; exact s5 _ _ (s4 b o eb), upd_same, ?_, fun d hd => ?_⟩
          · have q := (hE4.keep (H' := upd H5 D (.lst (((es ++ [D1]) ++ [D2]).map V.ref))) fun d hd o eo => by rw [upd_ne (hne4 d hd)]; exact s5 _ _ eo).snoc (t := D2) (m := Fb.outside (rowsOf h) g c) (by rw [upd_ne nD2]; exact hD5)
            rw [List.append_assoc (partsAll (rowsOf h) skip (gs.take i))] at q
            rw [hgA]
            exact q
          · rcases List.mem_append.mp hd with hd | hd
            · exact hne4 d hd
            · rw [List.mem_singleton.mp hd]; exact nD2
      · have e' : Fb.nextTry (rowsOf h) skip g = none := by
          cases ec : Fb.nextTry (rowsOf h) skip g with
          | none => rfl
          | some c => exact absurd (not_non.mpr (by rw [ec]; intro z; cases z)) e
        rw [FM.parts1_none e', List.append_nil] at hgA
        refine ⟨_, _, es, rfl, s1.trans s2, s2 _ _ hD', ?_, hne⟩
        rw [hgA]
        exact hE.same s2
    · rintro σ H' ⟨v4, v5, es, rfl, s1, hD', hE, hne⟩
      rw [List.length_map, hgs.1, List.take_length] at hE
      exact ⟨_, rfl, k H' D es hD s1 hD' hE⟩
theorem scWo : FnScope ["history", "remaining", "choices", "tries", "groups"] ["history", "remaining", "choices"] (defScope sWorst) := ⟨rfl, rfl, rfl, by decide +kernel, rfl, by decide +kernel, by decide +kernel⟩
theorem ok_worst {f fI fO fS fT fG C : Addr} {fd fdG : FuncData} (F : Fun K "tries_at_worst" "tries_at_worst" sWorst f fd) (T : TxR K mg C fI fO fS fT fG)
    (kG : PySem.W.keepIn K (.ref fG) = true) (bG : Binds K fdG ["history", "groups", "choices"] []) (GG : FnOk P w K mg base CX0 5 fG fdG ["history", "groups", "choices"] (spGrp C)) :
    FnOk P w K mg base CX0 6 f fd ["history", "remaining", "choices"] (spWorst C) := by
  refine F.ok scWo (fun vs H Q E h => ?_) (fun cdv A outer s H vs Q E hr h => ?_)
  · obtain ⟨_, _, _, _, _, _, _, rfl, _⟩ := h
    rfl
  · obtain ⟨ph, pb, pr, pc, h, skip, l, rfl, hA, hR, hC, hz, k⟩ := h
    refine ⟨_, pss_cons (ps_set (i := 3) scWo.nd rfl (Or.inl rfl) pe_int)
      (pss_cons (ps_set (i := 4) scWo.nd rfl (Or.inl rfl) (pe_call GG hr rfl T.grp kG bG .nil pass0 (pa_cons (pv 0) (pa_cons (pe_lst (pa_cons (pv 1) pa_nil)) (pa_cons (pv 2) pa_nil)))))
      (pss_cons (ps_while PassesOwn.never (pt_cmpR op_gt (pe_callB call_len_seq (by rfl) T.th.len PySem.boot_len (pa_cons (pv 4) pa_nil)) pe_int (nomark _))
        (pss_cons (ps_aug (i := 3) scWo.nd rfl (Or.inl rfl) pe_int ip_add)
        (pss_one (ps_set (i := 4) scWo.nd rfl (Or.inl rfl) (pe_call GG hr rfl T.grp kG bG .nil pass0 (pa_cons (pv 0) (pa_cons (pv 4) (pa_cons (pv 2) pa_nil))))))))
      (pss_one (ps_ret (pv 3))))), ?_⟩
    -- groups = groups_after_a_try(history, [remaining], choices)
    refine ⟨_, rfl, _, rfl, (by show 1 ≤ sizeLine; decide), fun q hq => ⟨_, rfl, ?_⟩⟩
    have s1 := same_new (o := .lst [V.ref pr]) hq
    have hg1 : GroupsAt (upd H q (.lst [V.ref pr])) [pr] [l] := GroupsAt.nil.snoc (t := pr) (m := l) (s1 _ _ hR)
    refine ⟨ph, pb, q, pc, h, skip, [pr], [l], rfl, hA.same s1, upd_same, hg1, s1 _ _ hC, hz, fun H2 D es hD s2 hD2 hE => ?_⟩
    have s12 := s1.trans s2
    -- while len(groups) > 0
    refine ⟨fun m σ H' => ∃ (prev : List (List Nat)) (pg : Addr) (ds : List Addr) (n : Nat), σ = [some (.ref ph), some (.ref pr), some (.ref pc), some (.int (n : Int)), some (.ref pg)] ∧ Same H H' ∧ H' pg = some (.lst (ds.map V.ref)) ∧
      GroupsAt H' ds (partsAll (rowsOf h) skip prev) ∧ tot prev ≤ 1000 ∧ n + deep (rowsOf h) skip prev = rst (rowsOf h) skip l ∧ m = deep (rowsOf h) skip prev,
      ⟨_, [l], D, es, 0, rfl, s12, hD2, hE, hz, by rw [FM.deep_one, Nat.zero_add], rfl⟩, ?_⟩
    rintro m σ H' ⟨prev, pg, ds, n, rfl, s3, hpg, hG, ht, hn, rfl⟩
    refine ⟨_, rfl, pg, _, rfl, .inl (SqL.of hpg), _, _, rfl, rfl, _, rfl, ?_⟩
    rw [List.length_map, hG.1]
    refine ite2 (fun e => ?_) (fun e => ?_)
    · have hne : partsAll (rowsOf h) skip prev ≠ [] := by
        intro q
        have := of_decide_eq_true e
        rw [q] at this
        exact absurd this (by decide)
      have hdp := FM.deep_on hne
      refine ⟨fun σ' H4 => ∃ (pg' : Addr) (ds' : List Addr), σ' = [some (.ref ph), some (.ref pr), some (.ref pc), some (.int ((n + 1 : Nat) : Int)), some (.ref pg')] ∧ Same H H4 ∧ H4 pg' = some (.lst (ds'.map V.ref)) ∧
        GroupsAt H4 ds' (partsAll (rowsOf h) skip (partsAll (rowsOf h) skip prev)), ?_, ?_⟩
      · rintro σ' H4 ⟨pg', ds', rfl, s4, hpg', hG'⟩
        exact ⟨deep (rowsOf h) skip (partsAll (rowsOf h) skip prev), by omega, partsAll (rowsOf h) skip prev, pg', ds', n + 1, rfl, s4, hpg', hG', Nat.le_trans (FM.parts_tot _) ht, by omega, rfl⟩
      · refine ⟨_, rfl, _, _, rfl, rfl, ?_⟩
        refine ⟨_, rfl, _, rfl, _, rfl, ph, pb, pg, pc, h, skip, ds, partsAll (rowsOf h) skip prev, rfl, hA.same s3, hpg, hG, s3 _ _ hC, Nat.le_trans (FM.parts_tot _) ht, fun H4 D' es' hD' s4 hD4 hE4 => ?_⟩
        exact ⟨D', es', rfl, s3.trans s4, hD4, hE4⟩
    · have he : partsAll (rowsOf h) skip prev = [] := by
        cases ep : partsAll (rowsOf h) skip prev with
        | nil => rfl
        | cons a b =>
          refine absurd (decide_eq_true ?_) e
          rw [ep, List.length_cons]
          omega
      rw [FM.deep_end he] at hn
      have q := k H' s3
      rw [← hn] at q
      exact ⟨_, rfl, q⟩
end
end FP
set_option Elab.async false
set_option linter.all false
set_option maxRecDepth 100000
set_option maxHeartbeats 4000000
namespace FP
open PySem PySem.Spec PyProof.Rows L2 FX
open Fb (Hist rowsOf isBefore)
open FM (PS Ans encN srch)
abbrev sSInit : Stmt := inClass (top 27) 0
abbrev sSAdd : Stmt := inClass (top 27) 1
abbrev sSCount : Stmt := inClass (top 27) 2
abbrev sSBef : Stmt := inClass (top 27) 3
abbrev sSStart : Stmt := inClass (top 27) 4
abbrev sSMark : Stmt := inClass (top 27) 5
abbrev sSUndo : Stmt := inClass (top 27) 6
abbrev sSAll : Stmt := inClass (top 27) 7
abbrev sSLeft : Stmt := inClass (top 27) 8
abbrev sSList : Stmt := inClass (top 27) 9
abbrev sSNext : Stmt := inClass (top 27) 10
abbrev sSSplit : Stmt := inClass (top 27) 11
abbrev sSRest : Stmt := inClass (top 27) 12
/-! ### 1. A session in the heap -/
theorem look_here (f : Str) (v : V) (r : List (Str × V)) : ((f, v) :: r).lookup f = some v := by simp [List.lookup]
theorem look_next {f g : Str} (v : V) (r : List (Str × V)) (h : ¬ f = g) : ((g, v) :: r).lookup f = r.lookup f := by
  have e : (f == g) = false := beq_eq_false_iff_ne.mpr h
  simp [List.lookup, e]
def sf (ph : Addr) (bad : V) (pm : Addr) : List (Str × V) := [("history", .ref ph), ("bad", bad), ("marks", .ref pm)]
theorem sf_h (ph : Addr) (b : V) (pm : Addr) : (sf ph b pm).lookup ("history" : Str) = some (.ref ph) := look_here _ _ _
theorem sf_b (ph : Addr) (b : V) (pm : Addr) : (sf ph b pm).lookup ("bad" : Str) = some b := (look_next _ _ (by decide +kernel)).trans (look_here _ _ _)
theorem sf_m (ph : Addr) (b : V) (pm : Addr) : (sf ph b pm).lookup ("marks" : Str) = some (.ref pm) := (look_next _ _ (by decide +kernel)).trans ((look_next _ _ (by decide +kernel)).trans (look_here _ _ _))
theorem sf_no (ph : Addr) (b : V) (pm : Addr) {m : Str} (h1 : ¬ m = "history") (h2 : ¬ m = "bad") (h3 : ¬ m = "marks") : (sf ph b pm).lookup m = none :=
  (look_next _ _ h1).trans ((look_next _ _ h2).trans (look_next _ _ h3))
theorem put_here (f : Str) (v x : V) (r : List (Str × V)) : putF f v ((f, x) :: r) = (f, v) :: r := by
  show (if f = f then (f, v) :: r else (f, x) :: putF f v r) = _
  rw [if_pos rfl]
theorem put_next {f g : Str} (v x : V) (r : List (Str × V)) (h : ¬ g = f) : putF f v ((g, x) :: r) = (g, x) :: putF f v r := by
  show (if g = f then (g, v) :: r else (g, x) :: putF f v r) = _
  rw [if_neg h]
theorem put_b (ph : Addr) (b v : V) (pm : Addr) : putF "bad" v (sf ph b pm) = sf ph v pm := (put_next _ _ _ (by decide +kernel)).trans (congrArg _ (put_here _ _ _ _))
theorem put_m (ph : Addr) (b : V) (pm q : Addr) : putF "marks" (.ref q) (sf ph b pm) = sf ph b q :=
  (put_next _ _ _ (by decide +kernel)).trans (congrArg _ ((put_next _ _ _ (by decide +kernel)).trans (congrArg _ (put_here _ _ _ _))))
theorem put_3 (ph : Addr) (b : V) (pm : Addr) : putF "marks" (.ref pm) (putF "bad" b (putF "history" (.ref ph) [])) = sf ph b pm := by
  have e1 : putF "bad" b (putF "history" (.ref ph) []) = [(("history" : Str), V.ref ph), (("bad" : Str), b)] := put_next _ _ _ (by decide +kernel)
  rw [e1]
  exact (put_next _ _ _ (by decide +kernel)).trans (congrArg _ (put_next _ _ _ (by decide +kernel)))
structure SessAt (CS CH : Addr) (H : Hp) (p ph pb pm : Addr) (g : PS) : Prop where
  ob : ∃ dp, H p = some (.ins CS dp (sf ph (badV g.bad) pm))
  hi : HistAt CH H ph pb g.h
  mrk : ∃ ts : List Addr, H pm = some (.lst (ts.map V.ref)) ∧ MarksAt H ts g.ms
  ok : MarksOk g.h g.ms
  few : g.ms.length ≤ 1024
  bd : ∀ s, g.bad = some s → s < g.h.length
  ne : pm ≠ pb
theorem SessAt.same {CS CH : Addr} {H H' : Hp} {p ph pb pm : Addr} {g : PS} (A : SessAt CS CH H p ph pb pm g) (s : Same H H') : SessAt CS CH H' p ph pb pm g := by
  obtain ⟨⟨dp, e1⟩, e2, ⟨ts, e3, e4⟩, e5, e6, e7, e8⟩ := A
  exact ⟨⟨dp, s _ _ e1⟩, e2.same s, ⟨ts, s _ _ e3, e4.same s⟩, e5, e6, e7, e8⟩
/-- what a call may touch: the session, the list of dicts, the list of marks -/
def Fr3 (H H' : Hp) (p pb pm : Addr) : Prop := ∀ b o, H b = some o → b ≠ p → b ≠ pb → b ≠ pm → H' b = some o
theorem Fr3.of {H H' : Hp} {p pb pm : Addr} (s : Same H H') : Fr3 H H' p pb pm := fun b o e _ _ _ => s b o e
/-- behind a call: the answer is the document's, and so is the state -/
def After (CS CH : Addr) (p ph pb pm : Addr) (g : PS) (q : Fb.Call) (H : Hp) (Q : VK) : Prop :=
  ∀ (H' : Hp) (pm' : Addr) (g' : PS) (z : Int), Ans g q g' [z] → SessAt CS CH H' p ph pb pm' g' → (pm' = pm ∨ H pm' = none) → Fr3 H H' p pb pm → Q (.int z) H'
theorem After.stay {CS CH p ph pb pm : Addr} {g : PS} {q : Fb.Call} {H H' : Hp} {Q : VK} {z : Int} (k : After CS CH p ph pb pm g q H Q) (S : SessAt CS CH H p ph pb pm g) (s : Same H H') (a : Ans g q g [z]) : Q (.int z) H' :=
  k H' pm g z a (S.same s) (.inl rfl) (.of s)
def spSInit (CS CH : Addr) : Sp := fun vs H Q _ => ∃ (p dx : Addr), vs = [.ref p] ∧ H p = some (.ins CS dx []) ∧
  ∀ (H' : Hp) (ph pb pm : Addr), H pb = none → H pm = none → SessAt CS CH H' p ph pb pm PS.zero → (∀ b o, H b = some o → b ≠ p → H' b = some o) → Q .non H'
def spSAdd (K : PySem.W.Frag) (CS CH : Addr) : Sp := fun vs H Q _ => ∃ (p ph pb pm pl : Addr) (g : PS) (ps : List Nat), vs = [.ref p, .ref pl] ∧ SessAt CS CH H p ph pb pm g ∧ SqL K H pl ((encN ps).map V.int) ∧ pl ≠ pb ∧ ps.length ≤ 1000 ∧ After CS CH p ph pb pm g (.add ps) H Q
def spS0 (CS CH : Addr) (q : Fb.Call) : Sp := fun vs H Q _ => ∃ (p ph pb pm : Addr) (g : PS), vs = [.ref p] ∧ SessAt CS CH H p ph pb pm g ∧ After CS CH p ph pb pm g q H Q
def spS1 (CS CH : Addr) (q : Nat → Fb.Call) : Sp := fun vs H Q _ => ∃ (p ph pb pm : Addr) (g : PS) (a : Nat), vs = [.ref p, .int a] ∧ SessAt CS CH H p ph pb pm g ∧ After CS CH p ph pb pm g (q a) H Q
def spS2 (CS CH : Addr) (q : Nat → Nat → Fb.Call) : Sp := fun vs H Q _ => ∃ (p ph pb pm : Addr) (g : PS) (a b : Nat), vs = [.ref p, .int a, .int b] ∧ SessAt CS CH H p ph pb pm g ∧ After CS CH p ph pb pm g (q a b) H Q
structure TxS (K : PySem.W.Frag) (mg : Str → Option Value) (CS CH fL : Addr) : Prop where
  cl : Cls K CS
  nH : NoAttr K CS "history"
  nB : NoAttr K CS "bad"
  nM : NoAttr K CS "marks"
  ch : Cls K CH
  len : mg "len" = none
  mgH : mg "History" = some (.ref CH)
  left : mg "those_left" = some (.ref fL)
  skip : ∃ t, mg "SKIPPED" = some (.int 2 t)
  mp : ∃ t, mg "MOST_PARENTS" = some (.int 4 t)
  mc : ∃ t, mg "MOST_CHANGES" = some (.int 512 t)
  mm : ∃ t, mg "MOST_MARKS" = some (.int 1024 t)
  unk : ∃ t, mg "UNKNOWN" = some (.int (-1) t)
  full : ∃ t, mg "FULL" = some (.int (-2) t)
  nos : ∃ t, mg "NO_SEARCH" = some (.int (-3) t)
  nob : ∃ t, mg "NOBODY_LEFT" = some (.int (-4) t)

section
variable {P : Program} {w : World} {K : PySem.W.Frag} {mg : Str → Option Value} {base : Heap}
theorem scSI : FnScope ["self"] ["self"] (defScope sSInit) := ⟨rfl, rfl, rfl, by decide +kernel, rfl, by decide +kernel, by decide +kernel⟩
theorem ok_sinit {f fI fL CS CH : Addr} {fd fdI : FuncData} (F : Fun K "__init__" "Session.__init__" sSInit f fd) (T : TxS K mg CS CH fL) (M : Mk K CH fI) (bI : Binds K fdI ["self"] []) (GI : FnOk P w K mg base CX0 1 fI fdI ["self"] (spHInit CH)) :
    FnOk P w K mg base CX0 3 f fd ["self"] (spSInit CS CH) := by
  refine F.ok scSI (fun vs H Q E h => ?_) (fun cdv A outer s H vs Q E hr h => ?_)
  · obtain ⟨_, _, rfl, _⟩ := h
    rfl
  · obtain ⟨p, dx, rfl, hp, k⟩ := h
    refine ⟨_, pss_cons (ps_fld (pv 0) (pe_make0 M GI hr rfl T.mgH bI .nil pass0) rfl) (pss_cons (ps_fld (pv 0) pe_non rfl) (pss_one (ps_fld (pv 0) (pe_lst pa_nil) rfl))), ?_⟩
    intro x d nx nd nxd
    refine ⟨x, d, rfl, upd_same, fun H1 pb hpb hA k1 => ⟨rfl, ?_⟩⟩
    have s1 : Same H H1 := Same.made nx nd k1
    have hpb0 : H pb = none := by
      cases e : H pb with
      | none => rfl
      | some o =>
        rw [upd_ne (ne_of_none e nx), upd_ne (ne_of_none e nd), e] at hpb
        cases hpb
    refine ⟨_, rfl, p, CS, dx, [], rfl, s1 _ _ hp, T.cl, T.nH, (by show 0 < 1000; decide), ?_⟩
    refine ⟨_, rfl, p, CS, dx, _, rfl, upd_same, T.cl, T.nB, (by show 1 < 1000; decide), ?_⟩
    rw [upd_upd]
    refine ⟨Nat.zero_le _, fun pm hpm => ?_⟩
    have npm : p ≠ pm := ne_of_none upd_same hpm
    refine ⟨_, rfl, p, CS, dx, _, rfl, (by rw [upd_ne npm]; exact upd_same), T.cl, T.nM, Nat.lt_of_le_of_lt (length_putF _ _ _) (by show 1 + 1 < 1000; decide), ?_⟩
    have hpm1 : H1 pm = none := by rw [upd_ne (Ne.symm npm)] at hpm; exact hpm
    obtain ⟨⟨dh, e1⟩, ⟨ds, e2, e3, e4⟩, e5⟩ := id hA
    have npb : pm ≠ pb := (ne_of_none e2 hpm1).symm
    have s2 : ∀ b o, H1 b = some o → b ≠ p → upd (upd (upd H1 p (.ins CS dx (putF "bad" .non (putF "history" (.ref x) [])))) pm (.lst [])) p (.ins CS dx (putF "marks" (.ref pm) (putF "bad" .non (putF "history" (.ref x) [])))) b = some o := fun b o e hb => by
      rw [upd_ne hb, upd_ne (ne_of_none e hpm1), upd_ne hb]
      exact e
    refine k _ x pb pm hpb0 (s1.free hpm1) ⟨⟨dx, ?_⟩, hA.keep fun b o e hb => s2 b o e ?_, ⟨[], ?_, MarksAt.nil⟩, fun m hm => (by cases hm), Nat.zero_le _, fun s e => (by cases e), npb⟩ fun b o e hb => s2 b o (s1 b o e) hb
    · rw [upd_same, put_3]
      rfl
    · intro q
      subst q
      have := s1 _ _ hp
      rcases hb with hb | hb | ⟨kvs, hb⟩
      · exact absurd hb.symm (ne_of_none hp nx).symm
      · rw [hb] at this
        rw [this] at e2
        cases e2
      · rw [this] at e
        rw [hb] at e
        cases e
    · rw [upd_ne (Ne.symm npm), upd_same]
      rfl
theorem scSC : FnScope ["self"] ["self"] (defScope sSCount) := ⟨rfl, rfl, rfl, by decide +kernel, rfl, by decide +kernel, by decide +kernel⟩
theorem ok_scount {f fC fL CS CH : Addr} {fd fdC : FuncData} (F : Fun K "count" "Session.count" sSCount f fd) (T : TxS K mg CS CH fL) (bC : Binds K fdC ["self"] []) (mC : Meth K CH "count" fC) (GC : FnOk P w K mg base CX0 1 fC fdC ["self"] (spHCount CH)) :
    FnOk P w K mg base CX0 2 f fd ["self"] (spS0 CS CH .count) := by
  refine F.ok scSC (fun vs H Q E h => ?_) (fun cdv A outer s H vs Q E hr h => ?_)
  · obtain ⟨_, _, _, _, _, rfl, _⟩ := h
    rfl
  · obtain ⟨p, ph, pb, pm, g, rfl, S, k⟩ := h
    obtain ⟨⟨dp, e1⟩, hA, _⟩ := id S
    obtain ⟨⟨dh, e2⟩, _, _⟩ := id hA
    refine ⟨_, pss_one (ps_ret (pe_meth0 (pe_fld (pv 0) rfl) T.ch mC GC hr bC .nil pass0)), ?_⟩
    refine ⟨_, rfl, p, CS, dp, _, _, rfl, e1, T.cl, T.nH, sf_h _ _ _, ph, dh, _, rfl, e2, hf_no _ (by decide +kernel), ph, pb, g.h, rfl, hA, ?_⟩
    exact k.stay S (Same.refl _) FM.count_ok
theorem scSB : FnScope ["self", "a", "b"] ["self", "a", "b"] (defScope sSBef) := ⟨rfl, rfl, rfl, by decide +kernel, rfl, by decide +kernel, by decide +kernel⟩
theorem ok_sbef {f fA fB fL CS CH : Addr} {fd fdA fdB : FuncData} (F : Fun K "before" "Session.before" sSBef f fd) (T : TxS K mg CS CH fL) (bA : Binds K fdA ["self", "changes"] []) (mA : Meth K CH "has_all" fA) (GA : FnOk P w K mg base CX0 2 fA fdA ["self", "changes"] (spHAll K CH))
    (bB : Binds K fdB ["self", "a", "b"] []) (mB : Meth K CH "before" fB) (GB : FnOk P w K mg base CX0 1 fB fdB ["self", "a", "b"] (spHBef CH)) :
    FnOk P w K mg base CX0 3 f fd ["self", "a", "b"] (spS2 CS CH .before) := by
  refine F.ok scSB (fun vs H Q E h => ?_) (fun cdv A outer s H vs Q E hr h => ?_)
  · obtain ⟨_, _, _, _, _, _, _, rfl, _⟩ := h
    rfl
  · obtain ⟨p, ph, pb, pm, g, a, b, rfl, S, k⟩ := h
    obtain ⟨⟨dp, e1⟩, hA, _⟩ := id S
    obtain ⟨⟨dh, e2⟩, _, _⟩ := id hA
    obtain ⟨t1, g1⟩ := T.unk
    have hr1 : Room 1 _ := hr.mono (by decide)
    refine ⟨_, pss_cons (ps_if (pt_not (pt_val (pe_meth (pe_fld (pv 0) rfl) T.ch mA GA hr bA .nil pass0 (pa_cons (pe_lst (pa_cons (pv 1) (pa_cons (pv 2) pa_nil))) pa_nil)))) (pss_one (ps_ret (pe_glob (v := .int (-1)) rfl g1 ⟨t1, rfl⟩))) pss_nil)
      (pss_one (ps_ret (pe_ifExp (pt_val (pe_meth (pe_fld (pv 0) rfl) T.ch mB GB hr1 bB .nil pass0 (pa_cons (pv 1) (pa_cons (pv 2) pa_nil)))) pe_int pe_int))), ?_⟩
    refine ⟨_, rfl, p, CS, dp, _, _, rfl, e1, T.cl, T.nH, sf_h _ _ _, ph, dh, _, rfl, e2, hf_no _ (by decide +kernel), _, rfl, _, rfl, (by show 2 ≤ sizeLine; decide), fun l hl => ?_⟩
    have s1 := same_new (o := .lst [V.int a, V.int b]) hl
    refine ⟨ph, pb, l, g.h, [(a : Int), (b : Int)], rfl, hA.same s1, SqL.of upd_same, by show 2 ≤ 1000; decide, fun H' s2 => ⟨_, rfl, ?_⟩⟩
    have s := s1.trans s2
    by_cases hab : a < g.h.length ∧ b < g.h.length
    · have e : ([(a : Int), (b : Int)].all fun c => decide (c < (g.h.length : Int))) = true := by
        simp
        omega
      rw [e]
      refine iteF ?_
      refine ⟨_, rfl, p, CS, dp, _, _, rfl, s _ _ e1, T.cl, T.nH, sf_h _ _ _, ph, dh, _, rfl, s _ _ e2, hf_no _ (by decide +kernel), _, rfl, _, rfl, ph, pb, g.h, a, b, rfl, hA.same s, hab.2, _, rfl, ?_⟩
      have an := FM.before_ok hab
      refine ite2 (fun e => ?_) (fun e => ?_)
      · rw [if_pos e] at an
        exact k.stay S s an
      · rw [if_neg e] at an
        exact k.stay S s an
    · have e : ([(a : Int), (b : Int)].all fun c => decide (c < (g.h.length : Int))) = false := by
        rw [Bool.eq_false_iff]
        intro q
        simp at q
        omega
      rw [e]
      exact iteT (k.stay S s (FM.before_1 hab))
end
end FP
set_option Elab.async false
set_option linter.all false
set_option maxRecDepth 100000
set_option maxHeartbeats 4000000
namespace FP
open PySem PySem.Spec PyProof.Rows L2 FX
open Fb (Hist rowsOf isBefore)
open FM (PS Ans encN srch)
section
variable {P : Program} {w : World} {K : PySem.W.Frag} {mg : Str → Option Value} {base : Heap}
theorem SessAt.noP {CS CH : Addr} {H : Hp} {p ph pb pm : Addr} {g : PS} (S : SessAt CS CH H p ph pb pm g) : p ≠ ph ∧ p ≠ pb ∧ p ≠ pm ∧ pb ≠ ph ∧ pm ≠ ph ∧ pm ≠ pb := by
  obtain ⟨⟨dp, e1⟩, ⟨⟨dh, h1⟩, ⟨ds, h2, _⟩, _⟩, ⟨ts, e3, _⟩, _, _, _, ne⟩ := S
  refine ⟨ne_of e1 h1 ?_, ne_of e1 h2 (by intro z; cases z), ne_of e1 e3 (by intro z; cases z), ne_of h2 h1 (by intro z; cases z), ne_of e3 h1 (by intro z; cases z), ne⟩
  intro z
  injection z with _ _ z
  exact absurd (congrArg List.length z) (by show ¬ 3 = 1; decide)
theorem all_lt {ps : List Nat} {n : Nat} : ((encN ps).all fun c => decide (c < (n : Int))) = true ↔ ∀ p ∈ ps, p < n := by
  unfold encN
  rw [List.all_map, List.all_eq_true]
  constructor
  · intro h p hp
    have e : (p : Int) < (n : Int) := of_decide_eq_true (h p hp)
    omega
  · intro h p hp
    have e := h p hp
    exact decide_eq_true (show (p : Int) < (n : Int) by omega)
theorem scSA : FnScope ["self", "parents"] ["self", "parents"] (defScope sSAdd) := ⟨rfl, rfl, rfl, by decide +kernel, rfl, by decide +kernel, by decide +kernel⟩
theorem ok_sadd {f fA fC fD fL CS CH : Addr} {fd fdA fdC fdD : FuncData} (F : Fun K "add" "Session.add" sSAdd f fd) (T : TxS K mg CS CH fL) (bA : Binds K fdA ["self", "changes"] []) (mA : Meth K CH "has_all" fA) (GA : FnOk P w K mg base CX0 2 fA fdA ["self", "changes"] (spHAll K CH))
    (bC : Binds K fdC ["self"] []) (mC : Meth K CH "count" fC) (GC : FnOk P w K mg base CX0 1 fC fdC ["self"] (spHCount CH))
    (bD : Binds K fdD ["self", "parents"] []) (mD : Meth K CH "add" fD) (GD : FnOk P w K mg base CX0 1 fD fdD ["self", "parents"] (spHAdd K CH)) :
    FnOk P w K mg base CX0 3 f fd ["self", "parents"] (spSAdd K CS CH) := by
  refine F.ok scSA (fun vs H Q E h => ?_) (fun cdv A outer s H vs Q E hr h => ?_)
  · obtain ⟨_, _, _, _, _, _, _, rfl, _⟩ := h
    rfl
  · obtain ⟨p, ph, pb, pm, pl, g, ps, rfl, S, hS, hne, hz, k⟩ := h
    obtain ⟨⟨dp, e1⟩, hA, _⟩ := id S
    obtain ⟨⟨dh, e2⟩, _, hfew⟩ := id hA
    obtain ⟨t1, g1⟩ := T.unk
    obtain ⟨t2, g2⟩ := T.full
    obtain ⟨t3, g3⟩ := T.mp
    obtain ⟨t4, g4⟩ := T.mc
    have hr1 : Room 1 _ := hr.mono (by decide)
    refine ⟨_, pss_cons (ps_if (PW.pt (pw_or (pt_cmpR op_gt (pe_callB call_len_seq (by rfl) T.len PySem.boot_len (pa_cons (pv 1) pa_nil)) (pe_glob (v := .int 4) rfl g3 ⟨t3, rfl⟩) (nomark _))
        (pw_or1 (pt_not (pt_val (pe_meth (pe_fld (pv 0) rfl) T.ch mA GA hr bA .nil pass0 (pa_cons (pv 1) pa_nil))))))) (pss_one (ps_ret (pe_glob (v := .int (-1)) rfl g1 ⟨t1, rfl⟩))) pss_nil)
      (pss_cons (ps_if (pt_cmpR op_ge (pe_meth0 (pe_fld (pv 0) rfl) T.ch mC GC hr1 bC .nil pass0) (pe_glob (v := .int 512) rfl g4 ⟨t4, rfl⟩) (nomark _)) (pss_one (ps_ret (pe_glob (v := .int (-2)) rfl g2 ⟨t2, rfl⟩))) pss_nil)
      (pss_one (ps_ret (pe_meth (pe_fld (pv 0) rfl) T.ch mD GD hr1 bD .nil pass0 (pa_cons (pv 1) pa_nil))))), ?_⟩
    have hl : ((encN ps).map V.int).length = ps.length := by unfold encN; rw [List.length_map, List.length_map]
    refine ⟨_, rfl, pl, _, rfl, .inl hS, _, _, rfl, rfl, _, rfl, ?_⟩
    rw [hl]
    refine ite2 (fun e => ?_) (fun e => ?_)
    · have h4 : 4 < ps.length := by have := of_decide_eq_true e; omega
      exact iteT (k.stay S (Same.refl _) (FM.add_1 (.inl h4)))
    · have h4 : ps.length ≤ 4 := by
        have : ¬ (4 : Int) < (ps.length : Int) := fun q => e (decide_eq_true q)
        omega
      refine ⟨_, rfl, p, CS, dp, _, _, rfl, e1, T.cl, T.nH, sf_h _ _ _, ph, dh, _, rfl, e2, hf_no _ (by decide +kernel), _, rfl, ph, pb, pl, g.h, encN ps, rfl, hA, hS, (by unfold encN; rw [List.length_map]; exact hz), fun H' s1 => ⟨_, rfl, ?_⟩⟩
      cases ea : ((encN ps).all fun c => decide (c < (g.h.length : Int))) with
      | false =>
        refine iteT (k.stay S s1 (FM.add_1 (.inr fun q => ?_)))
        rw [all_lt.mpr q] at ea
        cases ea
      | true =>
        have hlt := all_lt.mp ea
        refine iteF ?_
        refine ⟨_, rfl, p, CS, dp, _, _, rfl, s1 _ _ e1, T.cl, T.nH, sf_h _ _ _, ph, dh, _, rfl, s1 _ _ e2, hf_no _ (by decide +kernel), ph, pb, g.h, rfl, hA.same s1, _, _, rfl, rfl, _, rfl, ite2 (fun e => ?_) (fun e => ?_)⟩
        · have h5 : 512 ≤ g.h.length := by have := of_decide_eq_true e; omega
          exact k.stay S s1 (FM.add_2 h4 hlt h5)
        · have h5 : g.h.length < 512 := by
            have : ¬ (512 : Int) ≤ (g.h.length : Int) := fun q => e (decide_eq_true q)
            omega
          refine ⟨_, rfl, p, CS, dp, _, _, rfl, s1 _ _ e1, T.cl, T.nH, sf_h _ _ _, ph, dh, _, rfl, s1 _ _ e2, hf_no _ (by decide +kernel), _, rfl, ph, pb, pl, g.h, ps, rfl, hA.same s1, s1.seq hS, hne, hlt, h5, fun H2 hA2 k2 => ?_⟩
          obtain ⟨n1, n2, n3, n4, n5, n6⟩ := S.noP
          obtain ⟨_, _, ⟨ts, m1, m2⟩, ok, few, bd, ne⟩ := id S
          refine k H2 pm ⟨g.h ++ [ps], g.bad, g.ms⟩ _ (FM.add_ok h4 hlt h5) ⟨⟨dp, k2 _ _ (s1 _ _ e1) n2⟩, hA2, ⟨ts, k2 _ _ (s1 _ _ m1) n6, (m2.same s1).keep fun b xs e => k2 _ _ e (ne_of e (s1 _ _ (id hA).ls.choose_spec.1) (by intro z; cases z))⟩, ?_, few, ?_, ne⟩ (.inl rfl) fun b o e b1 b2 b3 => k2 _ _ (s1 _ _ e) b2
          · intro m hm
            have := ok m hm
            rw [List.length_append]
            exact ⟨by omega, this.2⟩
          · intro s' e'
            have := bd s' e'
            show s' < (g.h ++ [ps]).length
            rw [List.length_append]
            omega
theorem scSU : FnScope ["self"] ["self"] (defScope sSUndo) := ⟨rfl, rfl, rfl, by decide +kernel, rfl, by decide +kernel, by decide +kernel⟩
theorem bad_non {o : Option Nat} : (decide (badV o = V.non) = true) ↔ o = none := by
  cases o with
  | none => simp [badV]
  | some s => simp [badV]
theorem ok_sundo {f fL CS CH : Addr} {fd : FuncData} (F : Fun K "undo" "Session.undo" sSUndo f fd) (T : TxS K mg CS CH fL) : FnOk P w K mg base CX0 1 f fd ["self"] (spS0 CS CH .undo) := by
  refine F.ok scSU (fun vs H Q E h => ?_) (fun cdv A outer s H vs Q E hr h => ?_)
  · obtain ⟨_, _, _, _, _, rfl, _⟩ := h
    rfl
  · obtain ⟨p, ph, pb, pm, g, rfl, S, k⟩ := h
    obtain ⟨⟨dp, e1⟩, hA, ⟨ts, m1, m2⟩, ok, few, bd, ne⟩ := id S
    obtain ⟨n1, n2, n3, n4, n5, n6⟩ := S.noP
    obtain ⟨t1, g1⟩ := T.nos
    refine ⟨_, pss_cons (ps_if (pt_cmp (pc_isN (pe_fld (pv 0) rfl))) (pss_one (ps_ret (pe_glob (v := .int (-3)) rfl g1 ⟨t1, rfl⟩))) pss_nil)
      (pss_cons (ps_if (pt_cmpR op_eq (pe_callB call_len_seq (by rfl) T.len PySem.boot_len (pa_cons (pe_fld (pv 0) rfl) pa_nil)) pe_int (nomark _)) (pss_one (ps_ret pe_int)) pss_nil)
      (pss_cons (ps_expr (pe_bm0 PySem.F.plainAttrs_list PySem.F.slot_list_pop PySem.F.type_list_pop mt_pop (pe_fld (pv 0) rfl)))
      (pss_one (ps_ret pe_int)))), ?_⟩
    refine ⟨_, rfl, p, CS, dp, _, _, rfl, e1, T.cl, T.nB, sf_b _ _ _, _, rfl, ite2 (fun e => ?_) (fun e => ?_)⟩
    · exact k.stay S (Same.refl _) (FM.undo_3 (bad_non.mp e))
    · obtain ⟨sb, hb⟩ : ∃ sb, g.bad = some sb := by
        cases eb : g.bad with
        | none => exact absurd (bad_non.mpr eb) e
        | some sb => exact ⟨sb, rfl⟩
      refine ⟨_, rfl, p, CS, dp, _, _, rfl, e1, T.cl, T.nM, sf_m _ _ _, pm, _, rfl, .inl (SqL.of m1), rfl, _, rfl, ?_⟩
      rw [List.length_map, m2.1]
      refine ite2 (fun e2 => ?_) (fun e2 => ?_)
      · have hz : g.ms = [] := by
          have := of_decide_eq_true e2
          injection this with this
          exact List.length_eq_zero_iff.mp (by omega)
        exact k.stay S (Same.refl _) (FM.undo_0 hb hz)
      · have hz : g.ms ≠ [] := fun q => e2 (decide_eq_true (by rw [q]; rfl))
        have hpos : 0 < g.ms.length := List.length_pos_iff.mpr hz
        obtain ⟨t, ht⟩ : ∃ t, ts[ts.length - 1]? = some t := ⟨_, List.getElem?_eq_getElem (by have := m2.1; omega)⟩
        refine ⟨_, rfl, p, CS, dp, _, _, rfl, e1, T.cl, T.nM, sf_m _ _ _, .inl ⟨rfl, _, SqL.of m1⟩, pm, _, V.ref t, rfl, rfl, m1, (by rw [List.length_map, List.getElem?_map, ht]; rfl), ?_⟩
        rw [← List.map_dropLast]
        refine k _ pm ⟨g.h, some sb, g.ms.dropLast⟩ _ (FM.undo_1 hb hz) ⟨⟨dp, by rw [upd_ne n3, e1, hb]⟩, hA.keep fun b o e hb' => ?_, ⟨ts.dropLast, upd_same, ?_⟩, fun m hm => ok m (List.dropLast_subset _ hm), Nat.le_trans (by rw [List.length_dropLast]; omega) few, fun s e => bd s (by rw [hb]; exact e), ne⟩ (.inl rfl) fun b o e _ _ b3 => by rw [upd_ne b3]; exact e
        · rw [upd_ne]
          · exact e
          · rintro rfl
            rcases hb' with hb' | hb' | ⟨kvs, hb'⟩
            · exact n5 hb'
            · exact n6 hb'
            · rw [m1, hb'] at e
              cases e
        · refine ⟨by rw [List.length_dropLast, List.length_dropLast, m2.1], fun i t' e => ?_⟩
          have hi : i < ts.length - 1 := by
            have := (List.getElem?_eq_some_iff.mp e).1
            rw [List.length_dropLast] at this
            exact this
          rw [List.getElem?_dropLast, if_pos hi] at e
          obtain ⟨m, em, et⟩ := m2.2 i t' e
          refine ⟨m, by rw [List.getElem?_dropLast, if_pos (by rw [← m2.1]; exact hi)]; exact em, ?_⟩
          rw [upd_ne (ne_of et m1 (by intro z; cases z))]
          exact et
end
end FP
set_option Elab.async false
set_option linter.all false
set_option maxRecDepth 100000
set_option maxHeartbeats 4000000
namespace FP
open PySem PySem.Spec PyProof.Rows L2 FX
open Fb (Hist rowsOf isBefore)
open FM (PS Ans encN srch)
section
variable {P : Program} {w : World} {K : PySem.W.Frag} {mg : Str → Option Value} {base : Heap}
theorem scSM : FnScope ["self", "change", "kind", "marks", "remaining"] ["self", "change", "kind"] (defScope sSMark) := ⟨rfl, rfl, rfl, by decide +kernel, rfl, by decide +kernel, by decide +kernel⟩
theorem ok_smark {f fH fL CS CH : Addr} {fd fdH fdL : FuncData} (F : Fun K "mark" "Session.mark" sSMark f fd) (T : TxS K mg CS CH fL) (bH : Binds K fdH ["self", "change"] []) (mH : Meth K CH "has" fH) (GH : FnOk P w K mg base CX0 1 fH fdH ["self", "change"] (spHHas CH))
    (kL : PySem.W.keepIn K (.ref fL) = true) (bL : Binds K fdL ["history", "bad", "marks"] []) (GL : FnOk P w K mg base CX0 4 fL fdL ["history", "bad", "marks"] (spLeft CH)) : FnOk P w K mg base CX0 5 f fd ["self", "change", "kind"] (spS2 CS CH .mark) := by
  refine F.ok scSM (fun vs H Q E h => ?_) (fun cdv A outer s H vs Q E hr h => ?_)
  · obtain ⟨_, _, _, _, _, _, _, rfl, _⟩ := h
    rfl
  · obtain ⟨p, ph, pb, pm, g, c, kd, rfl, S, k⟩ := h
    obtain ⟨⟨dp, e1⟩, hA, ⟨ts, m1, m2⟩, ok, few, bd, ne⟩ := id S
    obtain ⟨⟨dh, e2⟩, _, hfew⟩ := id hA
    obtain ⟨n1, n2, n3, n4, n5, n6⟩ := S.noP
    obtain ⟨t1, g1⟩ := T.unk
    obtain ⟨t2, g2⟩ := T.full
    obtain ⟨t3, g3⟩ := T.nos
    obtain ⟨t4, g4⟩ := T.nob
    obtain ⟨t5, g5⟩ := T.skip
    obtain ⟨t6, g6⟩ := T.mm
    have hr1 : Room 1 _ := hr.mono (by decide)
    refine ⟨_, pss_cons (ps_if (PW.pt (pw_or (pt_not (pt_val (pe_meth (pe_fld (pv 0) rfl) T.ch mH GH hr1 bH .nil pass0 (pa_cons (pv 1) pa_nil)))) (pw_or1 (pt_cmpR op_gt (pv 2) (pe_glob (v := .int 2) rfl g5 ⟨t5, rfl⟩) (nomark _)))))
        (pss_one (ps_ret (pe_glob (v := .int (-1)) rfl g1 ⟨t1, rfl⟩))) pss_nil)
      (pss_cons (ps_if (pt_cmp (pc_isN (pe_fld (pv 0) rfl))) (pss_one (ps_ret (pe_glob (v := .int (-3)) rfl g3 ⟨t3, rfl⟩))) pss_nil)
      (pss_cons (ps_if (pt_cmpR op_ge (pe_callB call_len_seq (by rfl) T.len PySem.boot_len (pa_cons (pe_fld (pv 0) rfl) pa_nil)) (pe_glob (v := .int 1024) rfl g6 ⟨t6, rfl⟩) (nomark _)) (pss_one (ps_ret (pe_glob (v := .int (-2)) rfl g2 ⟨t2, rfl⟩))) pss_nil)
      (pss_cons (ps_set (i := 3) scSM.nd rfl (Or.inl rfl) (pe_op op_cat (pe_fld (pv 0) rfl) (pe_lst (pa_cons (pe_tup (pa_cons (pv 1) (pa_cons (pv 2) pa_nil))) pa_nil))))
      (pss_cons (ps_set (i := 4) scSM.nd rfl (Or.inl rfl) (pe_call GL hr rfl T.left kL bL .nil pass0 (pa_cons (pe_fld (pv 0) rfl) (pa_cons (pe_fld (pv 0) rfl) (pa_cons (pv 3) pa_nil)))))
      (pss_cons (ps_if (pt_cmpR op_eq (pe_callB call_len_seq (by rfl) T.len PySem.boot_len (pa_cons (pv 4) pa_nil)) pe_int (nomark _)) (pss_one (ps_ret (pe_glob (v := .int (-4)) rfl g4 ⟨t4, rfl⟩))) pss_nil)
      (pss_cons (ps_fld (pv 0) (pv 3) rfl)
      (pss_one (ps_ret (pe_callB call_len_seq (by rfl) T.len PySem.boot_len (pa_cons (pv 4) pa_nil)))))))))), ?_⟩
    refine ⟨_, rfl, p, CS, dp, _, _, rfl, e1, T.cl, T.nH, sf_h _ _ _, ph, dh, _, rfl, e2, hf_no _ (by decide +kernel), _, rfl, ph, pb, g.h, _, rfl, hA, _, rfl, ?_⟩
    by_cases hc : c < g.h.length
    case neg =>
      rw [decide_eq_false (show ¬ (c : Int) < (g.h.length : Int) by omega)]
      exact iteT (iteT (k.stay S (Same.refl _) (FM.mark_1 (.inl (by omega)))))
    case pos =>
      rw [decide_eq_true (show (c : Int) < (g.h.length : Int) by omega)]
      refine iteF ⟨_, rfl, _, _, rfl, rfl, _, rfl, ite2 (fun e => ?_) (fun e => ?_)⟩
      · exact k.stay S (Same.refl _) (FM.mark_1 (.inr (by have := of_decide_eq_true e; omega)))
      · have hkd : kd ≤ 2 := by
          have : ¬ (2 : Int) < (kd : Int) := fun q => e (decide_eq_true q)
          omega
        have hok : ¬ (g.h.length ≤ c ∨ 2 < kd) := by omega
        -- self.bad is None
        refine ⟨_, rfl, p, CS, dp, _, _, rfl, e1, T.cl, T.nB, sf_b _ _ _, _, rfl, ite2 (fun e => ?_) (fun e => ?_)⟩
        · exact k.stay S (Same.refl _) (FM.mark_3 hok (bad_non.mp e))
        · obtain ⟨sb, hb⟩ : ∃ sb, g.bad = some sb := by
            cases eb : g.bad with
            | none => exact absurd (bad_non.mpr eb) e
            | some sb => exact ⟨sb, rfl⟩
          -- len(self.marks) >= MOST_MARKS
          refine ⟨_, rfl, p, CS, dp, _, _, rfl, e1, T.cl, T.nM, sf_m _ _ _, pm, _, rfl, .inl (SqL.of m1), _, _, rfl, rfl, _, rfl, ?_⟩
          rw [List.length_map, m2.1]
          refine ite2 (fun e => ?_) (fun e => ?_)
          · exact k.stay S (Same.refl _) (FM.mark_2 hok hb (by have := of_decide_eq_true e; omega))
          · have hm : g.ms.length < 1024 := by
              have : ¬ (1024 : Int) ≤ (g.ms.length : Int) := fun q => e (decide_eq_true q)
              omega
            -- marks = self.marks + [(change, kind)]
            refine ⟨_, rfl, p, CS, dp, _, _, rfl, e1, T.cl, T.nM, sf_m _ _ _, _, rfl, _, rfl, (by show 2 ≤ sizeLine; decide), fun t ht => ⟨(by show 1 ≤ sizeLine; decide), fun l hl => ?_⟩⟩
            have s1 := same_new (o := .tup [V.int c, V.int kd]) ht
            have s2 := same_new (o := .lst [V.ref t]) hl
            have s12 := s1.trans s2
            refine ⟨pm, l, _, _, rfl, rfl, s12 _ _ m1, upd_same, (by rw [List.length_map, m2.1]; show g.ms.length + 1 ≤ sizeLine; rw [sizeLine_eq]; omega), fun n hn => ?_⟩
            have s3 := same_new (o := .lst (ts.map V.ref ++ [V.ref t])) hn
            have s0 := s12.trans s3
            have hn0 : H n = none := s12.free hn
            have hM1 := (m2.same s0).snoc (t := t) (m := (c, kd)) (s3 _ _ (s2 _ _ upd_same))
            have hn1 : upd (upd (upd H t (.tup [V.int c, V.int kd])) l (.lst [V.ref t])) n (.lst (ts.map V.ref ++ [V.ref t])) n = some (.lst ((ts ++ [t]).map V.ref)) := by rw [upd_same, List.map_append]; rfl
            generalize upd (upd (upd H t (.tup [V.int c, V.int kd])) l (.lst [V.ref t])) n (.lst (ts.map V.ref ++ [V.ref t])) = H1 at s0 hM1 hn1 ⊢
            have ok1 : MarksOk g.h (g.ms ++ [(c, kd)]) := fun m hm' => by
              rcases List.mem_append.mp hm' with hm' | hm'
              · exact ok m hm'
              · rw [List.mem_singleton.mp hm']
                exact ⟨hc, hkd⟩
            -- remaining = those_left(self.history, self.bad, marks)
            have e1' := s0 _ _ e1
            rw [hb] at e1'
            refine ⟨_, rfl, p, CS, dp, _, _, rfl, e1', T.cl, T.nH, sf_h _ _ _, _, rfl, p, CS, dp, _, _, rfl, e1', T.cl, T.nB, sf_b _ _ _, _, rfl, ph, pb, n, g.h, sb, _, _, rfl, hA.same s0, bd sb hb, hn1, hM1, ok1, (by rw [List.length_append]; show g.ms.length + 1 ≤ 1100; omega), fun H2 D hD s4 hD2 => ?_⟩
            have s5 := s0.trans s4
            have hl2 : ((encN (Fb.left g.h (srch sb (g.ms ++ [(c, kd)])))).map V.int).length = (Fb.left g.h (srch sb (g.ms ++ [(c, kd)]))).length := by unfold encN; rw [List.length_map, List.length_map]
            -- len(remaining) == 0
            refine ⟨_, rfl, D, _, rfl, .inl (SqL.of hD2), rfl, _, rfl, ?_⟩
            rw [hl2]
            refine ite2 (fun e => ?_) (fun e => ?_)
            · have hz : Fb.left g.h (srch sb (g.ms ++ [(c, kd)])) = [] := by
                have := of_decide_eq_true e
                injection this with this
                exact List.length_eq_zero_iff.mp (by omega)
              exact k.stay S s5 (FM.mark_4 hok hb hm hz)
            · have hz : Fb.left g.h (srch sb (g.ms ++ [(c, kd)])) ≠ [] := fun q => e (decide_eq_true (by rw [q]; rfl))
              -- self.marks = marks
              refine ⟨_, rfl, _, rfl, p, CS, dp, _, rfl, s4 _ _ e1', T.cl, T.nM, (by show 3 < 1000; decide), ?_⟩
              rw [put_m]
              have npD : D ≠ p := (ne_of_none e1' hD).symm
              have npn : n ≠ p := (ne_of_none e1 hn0).symm
              refine ⟨_, rfl, D, _, rfl, .inl (SqL.of (by rw [upd_ne npD]; exact hD2)), ?_⟩
              rw [hl2]
              have nnb : n ≠ pb := (ne_of_none hA.ls.choose_spec.1 hn0).symm
              refine k _ n ⟨g.h, some sb, g.ms ++ [(c, kd)]⟩ _ (FM.mark_ok hok hb hm hz) ⟨⟨dp, upd_same⟩, (hA.same s5).keep fun b o e hb' => ?_, ⟨ts ++ [t], by rw [upd_ne npn]; exact s4 _ _ hn1, (hM1.same s4).keep fun b xs e => by rw [upd_ne (ne_of e (s4 _ _ e1') (by intro z; cases z))]; exact e⟩,
                ok1, by rw [List.length_append]; exact hm, fun s e => (by cases e; exact bd sb hb), nnb⟩ (.inr hn0) fun b o e b1 _ _ => by rw [upd_ne b1]; exact s5 _ _ e
              rw [upd_ne]
              · exact e
              · rintro rfl
                rcases hb' with hb' | hb' | ⟨kvs, hb'⟩
                · exact n1 hb'
                · exact n2 hb'
                · rw [s4 _ _ e1', hb'] at e
                  cases e
end
end FP
set_option Elab.async false
set_option linter.all false
set_option maxRecDepth 100000
set_option maxHeartbeats 4000000
namespace FP
open PySem PySem.Spec PyProof.Rows L2 FX
open Fb (Hist rowsOf isBefore)
open FM (PS Ans encN srch toTry)
/-- behind a call that only looks -/
def Look (g : PS) (q : Fb.Call) (H : Hp) (Q : VK) : Prop := ∀ (H' : Hp) (z : Int), Ans g q g [z] → Same H H' → Q (.int z) H'
theorem After.look {CS CH p ph pb pm : Addr} {g : PS} {q : Fb.Call} {H : Hp} {Q : VK} (k : After CS CH p ph pb pm g q H Q) (S : SessAt CS CH H p ph pb pm g) : Look g q H Q := fun H' z a s => k.stay S s a
def spSAll (CS CH : Addr) : Sp := fun vs H Q _ => ∃ (p ph pb pm : Addr) (g : PS) (s : Nat), vs = [.ref p] ∧ SessAt CS CH H p ph pb pm g ∧ g.bad = some s ∧
  ∀ (H' : Hp) (D : Addr), H D = none → Same H H' → H' D = some (.lst ((encN (Fb.left g.h (srch s g.ms))).map V.int)) → Q (.ref D) H'
def spL0 (CS CH : Addr) (q : Fb.Call) : Sp := fun vs H Q _ => ∃ (p ph pb pm : Addr) (g : PS), vs = [.ref p] ∧ SessAt CS CH H p ph pb pm g ∧ Look g q H Q
def spL1 (CS CH : Addr) (q : Nat → Fb.Call) : Sp := fun vs H Q _ => ∃ (p ph pb pm : Addr) (g : PS) (a : Nat), vs = [.ref p, .int a] ∧ SessAt CS CH H p ph pb pm g ∧ Look g (q a) H Q
def spList (CS CH : Addr) : Sp := fun vs H Q _ => ∃ (p ph pb pm : Addr) (g : PS), vs = [.ref p] ∧ SessAt CS CH H p ph pb pm g ∧
  ∀ (H' : Hp) (D : Addr) (zs : List Int), Ans g .list g zs → zs.length ≤ 1000 → H D = none → Same H H' → H' D = some (.lst (zs.map V.int)) → Q (.ref D) H'
structure TxT (K : PySem.W.Frag) (mg : Str → Option Value) (CS CH fL fY fT fI fW : Addr) : Prop where
  ts : TxS K mg CS CH fL
  tot : mg "those_to_try" = some (.ref fY)
  bst : mg "best_try" = some (.ref fT)
  ins : mg "those_before" = some (.ref fI)
  wst : mg "tries_at_worst" = some (.ref fW)
  fnd : ∃ t, mg "FOUND" = some (.int (-6) t)
  ntp : ∃ t, mg "NOT_PARTED" = some (.int (-7) t)
theorem left_few (h : Hist) (s : Fb.Search) : (Fb.left h s).length ≤ h.length := by
  unfold Fb.left
  refine Nat.le_trans (List.length_filter_le _ _) ?_
  rw [List.length_range]
  exact Nat.le_refl _

section
variable {P : Program} {w : World} {K : PySem.W.Frag} {mg : Str → Option Value} {base : Heap}
theorem scLA : FnScope ["self"] ["self"] (defScope sSAll) := ⟨rfl, rfl, rfl, by decide +kernel, rfl, by decide +kernel, by decide +kernel⟩
theorem ok_sall {f fL CS CH : Addr} {fd fdL : FuncData} (F : Fun K "all_left" "Session.all_left" sSAll f fd) (T : TxS K mg CS CH fL)
    (kL : PySem.W.keepIn K (.ref fL) = true) (bL : Binds K fdL ["history", "bad", "marks"] []) (GL : FnOk P w K mg base CX0 4 fL fdL ["history", "bad", "marks"] (spLeft CH)) : FnOk P w K mg base CX0 5 f fd ["self"] (spSAll CS CH) := by
  refine F.ok scLA (fun vs H Q E h => ?_) (fun cdv A outer s H vs Q E hr h => ?_)
  · obtain ⟨_, _, _, _, _, _, rfl, _⟩ := h
    rfl
  · obtain ⟨p, ph, pb, pm, g, sb, rfl, S, hb, k⟩ := h
    obtain ⟨⟨dp, e1⟩, hA, ⟨ts, m1, m2⟩, ok, few, bd, ne⟩ := id S
    rw [hb] at e1
    refine ⟨_, pss_one (ps_ret (pe_call GL hr rfl T.left kL bL .nil pass0 (pa_cons (pe_fld (pv 0) rfl) (pa_cons (pe_fld (pv 0) rfl) (pa_cons (pe_fld (pv 0) rfl) pa_nil))))), ?_⟩
    exact ⟨_, rfl, p, CS, dp, _, _, rfl, e1, T.cl, T.nH, sf_h _ _ _, _, rfl, p, CS, dp, _, _, rfl, e1, T.cl, T.nB, sf_b _ _ _, _, rfl, p, CS, dp, _, _, rfl, e1, T.cl, T.nM, sf_m _ _ _,
      ph, pb, pm, g.h, sb, ts, g.ms, rfl, hA, bd sb hb, m1, m2, ok, Nat.le_trans few (by decide), fun H' D hD s1 hD1 => k H' D hD s1 hD1⟩
theorem bad_some {o : Option Nat} (h : ¬ decide (badV o = V.non) = true) : ∃ s, o = some s := by
  cases o with
  | none => exact absurd (bad_non.mpr rfl) h
  | some s => exact ⟨s, rfl⟩
theorem scLL : FnScope ["self"] ["self"] (defScope sSLeft) := ⟨rfl, rfl, rfl, by decide +kernel, rfl, by decide +kernel, by decide +kernel⟩
theorem ok_sleft {f fA fL CS CH : Addr} {fd fdA : FuncData} (F : Fun K "left" "Session.left" sSLeft f fd) (T : TxS K mg CS CH fL) (bA : Binds K fdA ["self"] []) (mA : Meth K CS "all_left" fA) (GA : FnOk P w K mg base CX0 5 fA fdA ["self"] (spSAll CS CH)) :
    FnOk P w K mg base CX0 6 f fd ["self"] (spL0 CS CH .left) := by
  refine F.ok scLL (fun vs H Q E h => ?_) (fun cdv A outer s H vs Q E hr h => ?_)
  · obtain ⟨_, _, _, _, _, rfl, _⟩ := h
    rfl
  · obtain ⟨p, ph, pb, pm, g, rfl, S, k⟩ := h
    obtain ⟨dp, e1⟩ := S.ob
    obtain ⟨t3, g3⟩ := T.nos
    refine ⟨_, pss_cons (ps_if (pt_cmp (pc_isN (pe_fld (pv 0) rfl))) (pss_one (ps_ret (pe_glob (v := .int (-3)) rfl g3 ⟨t3, rfl⟩))) pss_nil)
      (pss_one (ps_ret (pe_callB call_len_seq (by rfl) T.len PySem.boot_len (pa_cons (pe_meth0 (pv 0) T.cl mA GA hr bA .nil pass0) pa_nil)))), ?_⟩
    refine ⟨_, rfl, p, CS, dp, _, _, rfl, e1, T.cl, T.nB, sf_b _ _ _, _, rfl, ite2 (fun e => ?_) (fun e => ?_)⟩
    · exact k _ _ (FM.left_3 (bad_non.mp e)) (Same.refl _)
    · obtain ⟨sb, hb⟩ := bad_some e
      refine ⟨_, rfl, p, dp, _, rfl, e1, sf_no _ _ _ (by decide +kernel) (by decide +kernel) (by decide +kernel), p, ph, pb, pm, g, sb, rfl, S, hb, fun H' D hD s1 hD1 => ?_⟩
      refine ⟨D, _, rfl, .inl (SqL.of hD1), ?_⟩
      rw [len_enc]
      exact k _ _ (FM.left_ok hb) s1
theorem scLT : FnScope ["self"] ["self"] (defScope sSList) := ⟨rfl, rfl, rfl, by decide +kernel, rfl, by decide +kernel, by decide +kernel⟩
theorem ok_slist {f fA fL CS CH : Addr} {fd fdA : FuncData} (F : Fun K "listed" "Session.listed" sSList f fd) (T : TxS K mg CS CH fL) (bA : Binds K fdA ["self"] []) (mA : Meth K CS "all_left" fA) (GA : FnOk P w K mg base CX0 5 fA fdA ["self"] (spSAll CS CH)) :
    FnOk P w K mg base CX0 6 f fd ["self"] (spList CS CH) := by
  refine F.ok scLT (fun vs H Q E h => ?_) (fun cdv A outer s H vs Q E hr h => ?_)
  · obtain ⟨_, _, _, _, _, rfl, _⟩ := h
    rfl
  · obtain ⟨p, ph, pb, pm, g, rfl, S, k⟩ := h
    obtain ⟨dp, e1⟩ := S.ob
    obtain ⟨t3, g3⟩ := T.nos
    refine ⟨_, pss_cons (ps_if (pt_cmp (pc_isN (pe_fld (pv 0) rfl))) (pss_one (ps_ret (pe_lst (pa_cons (pe_glob (v := .int (-3)) rfl g3 ⟨t3, rfl⟩) pa_nil)))) pss_nil)
      (pss_one (ps_ret (pe_meth0 (pv 0) T.cl mA GA hr bA .nil pass0))), ?_⟩
    refine ⟨_, rfl, p, CS, dp, _, _, rfl, e1, T.cl, T.nB, sf_b _ _ _, _, rfl, ite2 (fun e => ?_) (fun e => ?_)⟩
    · exact ⟨(by show 1 ≤ sizeLine; decide), fun D hD => k _ D [-3] (FM.list_3 (bad_non.mp e)) (by show 1 ≤ 1000; decide) hD (same_new hD) upd_same⟩
    · obtain ⟨sb, hb⟩ := bad_some e
      refine ⟨_, rfl, p, dp, _, rfl, e1, sf_no _ _ _ (by decide +kernel) (by decide +kernel) (by decide +kernel), p, ph, pb, pm, g, sb, rfl, S, hb, fun H' D hD s1 hD1 => ?_⟩
      refine k _ D _ (FM.list_ok hb) ?_ hD s1 hD1
      have q1 := left_few g.h (srch sb g.ms)
      have q2 := S.hi.few
      unfold FM.encN
      rw [List.length_map]
      omega
theorem scNX : FnScope ["self", "remaining", "change"] ["self"] (defScope sSNext) := ⟨rfl, rfl, rfl, by decide +kernel, rfl, by decide +kernel, by decide +kernel⟩
theorem ok_snext {f fA fL fY fT fI fW CS CH : Addr} {fd fdA fdY fdT : FuncData} (F : Fun K "next_try" "Session.next_try" sSNext f fd) (T : TxT K mg CS CH fL fY fT fI fW) (bA : Binds K fdA ["self"] []) (mA : Meth K CS "all_left" fA) (GA : FnOk P w K mg base CX0 5 fA fdA ["self"] (spSAll CS CH))
    (kY : PySem.W.keepIn K (.ref fY) = true) (bY : Binds K fdY ["history", "marks"] []) (GY : FnOk P w K mg base CX0 2 fY fdY ["history", "marks"] (spToTry CH))
    (kT : PySem.W.keepIn K (.ref fT) = true) (bT : Binds K fdT ["history", "remaining", "choices"] []) (GT : FnOk P w K mg base CX0 4 fT fdT ["history", "remaining", "choices"] (spBest CH)) :
    FnOk P w K mg base CX0 6 f fd ["self"] (spL0 CS CH .next) := by
  refine F.ok scNX (fun vs H Q E h => ?_) (fun cdv A outer s H vs Q E hr h => ?_)
  · obtain ⟨_, _, _, _, _, rfl, _⟩ := h
    rfl
  · obtain ⟨p, ph, pb, pm, g, rfl, S, k⟩ := h
    obtain ⟨⟨dp, e1⟩, hA, ⟨ts, m1, m2⟩, ok, few, bd, ne⟩ := id S
    obtain ⟨t3, g3⟩ := T.ts.nos
    obtain ⟨t6, g6⟩ := T.fnd
    obtain ⟨t7, g7⟩ := T.ntp
    have r4 : Room 4 _ := hr.mono (by decide)
    have r2 : Room 2 _ := hr.mono (by decide)
    refine ⟨_, pss_cons (ps_if (pt_cmp (pc_isN (pe_fld (pv 0) rfl))) (pss_one (ps_ret (pe_glob (v := .int (-3)) rfl g3 ⟨t3, rfl⟩))) pss_nil)
      (pss_cons (ps_set (i := 1) scNX.nd rfl (Or.inl rfl) (pe_meth0 (pv 0) T.ts.cl mA GA hr bA .nil pass0))
      (pss_cons (ps_set (i := 2) scNX.nd rfl (Or.inl rfl) (pe_call GT r4 rfl T.bst kT bT .nil pass0 (pa_cons (pe_fld (pv 0) rfl) (pa_cons (pv 1) (pa_cons (pe_call GY r2 rfl T.tot kY bY .nil pass0 (pa_cons (pe_fld (pv 0) rfl) (pa_cons (pe_fld (pv 0) rfl) pa_nil))) pa_nil)))))
      (pss_cons (ps_if (pt_cmp (pc_notN (pv 2))) (pss_one (ps_ret (pv 2))) pss_nil)
      (pss_one (ps_ret (pe_ifExp (pt_cmpR op_eq (pe_callB call_len_seq (by rfl) T.ts.len PySem.boot_len (pa_cons (pv 1) pa_nil)) pe_int (nomark _)) (pe_glob (v := .int (-6)) rfl g6 ⟨t6, rfl⟩) (pe_glob (v := .int (-7)) rfl g7 ⟨t7, rfl⟩))))))), ?_⟩
    refine ⟨_, rfl, p, CS, dp, _, _, rfl, e1, T.ts.cl, T.ts.nB, sf_b _ _ _, _, rfl, ite2 (fun e => ?_) (fun e => ?_)⟩
    · exact k _ _ (FM.next_3 (bad_non.mp e)) (Same.refl _)
    · obtain ⟨sb, hb⟩ := bad_some e
      -- remaining = self.all_left()
      refine ⟨_, rfl, p, dp, _, rfl, e1, sf_no _ _ _ (by decide +kernel) (by decide +kernel) (by decide +kernel), p, ph, pb, pm, g, sb, rfl, S, hb, fun H1 D hD s1 hD1 => ?_⟩
      have e1' := s1 _ _ e1
      -- change = best_try(self.history, remaining, those_to_try(self.history, self.marks))
      refine ⟨_, rfl, p, CS, dp, _, _, rfl, e1', T.ts.cl, T.ts.nH, sf_h _ _ _, _, rfl, _, rfl, p, CS, dp, _, _, rfl, e1', T.ts.cl, T.ts.nH, sf_h _ _ _, _, rfl, p, CS, dp, _, _, rfl, e1', T.ts.cl, T.ts.nM, sf_m _ _ _,
        ph, pb, pm, g.h, ts, g.ms, rfl, hA.same s1, s1 _ _ m1, m2.same s1, fun H2 D2 hD2 s2 hD3 => ?_⟩
      have s12 := s1.trans s2
      have et : toTry (Fb.skipped (srch sb g.ms)) g.h.length = (List.range g.h.length).filter fun c => !decide ((c, 2) ∈ g.ms) := FM.toTry_marks fun m hm => (ok m hm).2
      rw [← et] at hD3
      have q1 := left_few g.h (srch sb g.ms)
      have q2 := hA.few
      refine ⟨ph, pb, D, D2, g.h, _, _, rfl, hA.same s12, s2 _ _ hD1, hD3, fun c hc => FM.toTry_lt hc, by omega, fun H3 s3 => ?_⟩
      have s13 := s12.trans s3
      have en : ((toTry (Fb.skipped (srch sb g.ms)) g.h.length).foldl (FM.stp (rowsOf g.h) (Fb.left g.h (srch sb g.ms))) none).map (fun x => x.1) = Fb.nextTry (rowsOf g.h) (Fb.skipped (srch sb g.ms)) (Fb.left g.h (srch sb g.ms)) := by rw [FM.next_toTry, FM.rows_length]
      rw [en]
      refine ⟨_, rfl, _, rfl, ite2 (fun e => ?_) (fun e => ?_)⟩
      · have e' := not_non.mp e
        cases ec : Fb.nextTry (rowsOf g.h) (Fb.skipped (srch sb g.ms)) (Fb.left g.h (srch sb g.ms)) with
        | none => exact absurd ec e'
        | some c => exact ⟨_, rfl, k _ _ (FM.next_ok hb ec) s13⟩
      · have ec : Fb.nextTry (rowsOf g.h) (Fb.skipped (srch sb g.ms)) (Fb.left g.h (srch sb g.ms)) = none := by
          cases ec : Fb.nextTry (rowsOf g.h) (Fb.skipped (srch sb g.ms)) (Fb.left g.h (srch sb g.ms)) with
          | none => rfl
          | some c => exact absurd (not_non.mpr (by rw [ec]; intro z; cases z)) e
        refine ⟨_, rfl, D, _, rfl, .inl (SqL.of (s3 _ _ (s2 _ _ hD1))), rfl, _, rfl, ?_⟩
        rw [len_enc]
        refine ite2 (fun e2 => ?_) (fun e2 => ?_)
        · have hl : (Fb.left g.h (srch sb g.ms)).length = 1 := by
            have := of_decide_eq_true e2
            injection this with this
            omega
          exact k _ _ (FM.next_6 hb ec hl) s13
        · have hl : (Fb.left g.h (srch sb g.ms)).length ≠ 1 := fun q => e2 (decide_eq_true (by rw [q]; rfl))
          exact k _ _ (FM.next_7 hb ec hl) s13
theorem scSP : FnScope ["self", "change"] ["self", "change"] (defScope sSSplit) := ⟨rfl, rfl, rfl, by decide +kernel, rfl, by decide +kernel, by decide +kernel⟩
theorem ok_ssplit {f fA fH fL fY fT fI fW CS CH : Addr} {fd fdA fdH fdI : FuncData} (F : Fun K "split" "Session.split" sSSplit f fd) (T : TxT K mg CS CH fL fY fT fI fW) (bA : Binds K fdA ["self"] []) (mA : Meth K CS "all_left" fA) (GA : FnOk P w K mg base CX0 5 fA fdA ["self"] (spSAll CS CH))
    (bH : Binds K fdH ["self", "change"] []) (mH : Meth K CH "has" fH) (GH : FnOk P w K mg base CX0 1 fH fdH ["self", "change"] (spHHas CH))
    (kI : PySem.W.keepIn K (.ref fI) = true) (bI : Binds K fdI ["history", "remaining", "change"] []) (GI : FnOk P w K mg base CX0 2 fI fdI ["history", "remaining", "change"] (spPart CH Fb.inside)) :
    FnOk P w K mg base CX0 6 f fd ["self", "change"] (spL1 CS CH .split) := by
  refine F.ok scSP (fun vs H Q E h => ?_) (fun cdv A outer s H vs Q E hr h => ?_)
  · obtain ⟨_, _, _, _, _, _, rfl, _⟩ := h
    rfl
  · obtain ⟨p, ph, pb, pm, g, c, rfl, S, k⟩ := h
    obtain ⟨⟨dp, e1⟩, hA, ⟨ts, m1, m2⟩, ok, few, bd, ne⟩ := id S
    obtain ⟨⟨dh, e2⟩, _, hfew⟩ := id hA
    obtain ⟨t1, g1⟩ := T.ts.unk
    obtain ⟨t3, g3⟩ := T.ts.nos
    have r1 : Room 1 _ := hr.mono (by decide)
    have r2 : Room 2 _ := hr.mono (by decide)
    refine ⟨_, pss_cons (ps_if (pt_not (pt_val (pe_meth (pe_fld (pv 0) rfl) T.ts.ch mH GH r1 bH .nil pass0 (pa_cons (pv 1) pa_nil)))) (pss_one (ps_ret (pe_glob (v := .int (-1)) rfl g1 ⟨t1, rfl⟩))) pss_nil)
      (pss_cons (ps_if (pt_cmp (pc_isN (pe_fld (pv 0) rfl))) (pss_one (ps_ret (pe_glob (v := .int (-3)) rfl g3 ⟨t3, rfl⟩))) pss_nil)
      (pss_one (ps_ret (pe_callB call_len_seq (by rfl) T.ts.len PySem.boot_len (pa_cons (pe_call GI r2 rfl T.ins kI bI .nil pass0 (pa_cons (pe_fld (pv 0) rfl) (pa_cons (pe_meth0 (pv 0) T.ts.cl mA GA hr bA .nil pass0) (pa_cons (pv 1) pa_nil)))) pa_nil))))), ?_⟩
    refine ⟨_, rfl, p, CS, dp, _, _, rfl, e1, T.ts.cl, T.ts.nH, sf_h _ _ _, ph, dh, _, rfl, e2, hf_no _ (by decide +kernel), _, rfl, ph, pb, g.h, _, rfl, hA, _, rfl, ?_⟩
    by_cases hc : c < g.h.length
    case neg =>
      rw [decide_eq_false (show ¬ (c : Int) < (g.h.length : Int) by omega)]
      exact iteT (k _ _ (FM.split_1 hc) (Same.refl _))
    case pos =>
      rw [decide_eq_true (show (c : Int) < (g.h.length : Int) by omega)]
      refine iteF ⟨_, rfl, p, CS, dp, _, _, rfl, e1, T.ts.cl, T.ts.nB, sf_b _ _ _, _, rfl, ite2 (fun e => ?_) (fun e => ?_)⟩
      · exact k _ _ (FM.split_3 hc (bad_non.mp e)) (Same.refl _)
      · obtain ⟨sb, hb⟩ := bad_some e
        refine ⟨_, rfl, p, CS, dp, _, _, rfl, e1, T.ts.cl, T.ts.nH, sf_h _ _ _, _, rfl, p, dp, _, rfl, e1, sf_no _ _ _ (by decide +kernel) (by decide +kernel) (by decide +kernel), p, ph, pb, pm, g, sb, rfl, S, hb, fun H1 D hD s1 hD1 => ?_⟩
        have q1 := left_few g.h (srch sb g.ms)
        refine ⟨_, rfl, ph, pb, D, g.h, _, c, rfl, hA.same s1, hD1, hc, by omega, fun H2 D2 hD2 s2 hD3 => ?_⟩
        refine ⟨D2, _, rfl, .inl (SqL.of hD3), ?_⟩
        rw [len_enc]
        exact k _ _ (FM.split_ok hc hb) (s1.trans s2)
theorem scRE : FnScope ["self"] ["self"] (defScope sSRest) := ⟨rfl, rfl, rfl, by decide +kernel, rfl, by decide +kernel, by decide +kernel⟩
theorem ok_srest {f fA fL fY fT fI fW CS CH : Addr} {fd fdA fdY fdW : FuncData} (F : Fun K "rest" "Session.rest" sSRest f fd) (T : TxT K mg CS CH fL fY fT fI fW) (bA : Binds K fdA ["self"] []) (mA : Meth K CS "all_left" fA) (GA : FnOk P w K mg base CX0 5 fA fdA ["self"] (spSAll CS CH))
    (kY : PySem.W.keepIn K (.ref fY) = true) (bY : Binds K fdY ["history", "marks"] []) (GY : FnOk P w K mg base CX0 2 fY fdY ["history", "marks"] (spToTry CH))
    (kW : PySem.W.keepIn K (.ref fW) = true) (bW : Binds K fdW ["history", "remaining", "choices"] []) (GW : FnOk P w K mg base CX0 6 fW fdW ["history", "remaining", "choices"] (spWorst CH)) :
    FnOk P w K mg base CX0 7 f fd ["self"] (spL0 CS CH .rest) := by
  refine F.ok scRE (fun vs H Q E h => ?_) (fun cdv A outer s H vs Q E hr h => ?_)
  · obtain ⟨_, _, _, _, _, rfl, _⟩ := h
    rfl
  · obtain ⟨p, ph, pb, pm, g, rfl, S, k⟩ := h
    obtain ⟨⟨dp, e1⟩, hA, ⟨ts, m1, m2⟩, ok, few, bd, ne⟩ := id S
    obtain ⟨t3, g3⟩ := T.ts.nos
    have r5 : Room 5 _ := hr.mono (by decide)
    have r2 : Room 2 _ := hr.mono (by decide)
    refine ⟨_, pss_cons (ps_if (pt_cmp (pc_isN (pe_fld (pv 0) rfl))) (pss_one (ps_ret (pe_glob (v := .int (-3)) rfl g3 ⟨t3, rfl⟩))) pss_nil)
      (pss_one (ps_ret (pe_call GW hr rfl T.wst kW bW .nil pass0 (pa_cons (pe_fld (pv 0) rfl) (pa_cons (pe_meth0 (pv 0) T.ts.cl mA GA r5 bA .nil pass0) (pa_cons (pe_call GY r2 rfl T.tot kY bY .nil pass0 (pa_cons (pe_fld (pv 0) rfl) (pa_cons (pe_fld (pv 0) rfl) pa_nil))) pa_nil)))))), ?_⟩
    refine ⟨_, rfl, p, CS, dp, _, _, rfl, e1, T.ts.cl, T.ts.nB, sf_b _ _ _, _, rfl, ite2 (fun e => ?_) (fun e => ?_)⟩
    · exact k _ _ (FM.rest_3 (bad_non.mp e)) (Same.refl _)
    · obtain ⟨sb, hb⟩ := bad_some e
      refine ⟨_, rfl, p, CS, dp, _, _, rfl, e1, T.ts.cl, T.ts.nH, sf_h _ _ _, _, rfl, p, dp, _, rfl, e1, sf_no _ _ _ (by decide +kernel) (by decide +kernel) (by decide +kernel), p, ph, pb, pm, g, sb, rfl, S, hb, fun H1 D hD s1 hD1 => ?_⟩
      have e1' := s1 _ _ e1
      refine ⟨_, rfl, p, CS, dp, _, _, rfl, e1', T.ts.cl, T.ts.nH, sf_h _ _ _, _, rfl, p, CS, dp, _, _, rfl, e1', T.ts.cl, T.ts.nM, sf_m _ _ _, ph, pb, pm, g.h, ts, g.ms, rfl, hA.same s1, s1 _ _ m1, m2.same s1, fun H2 D2 hD2 s2 hD3 => ?_⟩
      have s12 := s1.trans s2
      have et : toTry (Fb.skipped (srch sb g.ms)) g.h.length = (List.range g.h.length).filter fun c => !decide ((c, 2) ∈ g.ms) := FM.toTry_marks fun m hm => (ok m hm).2
      rw [← et] at hD3
      have q1 := left_few g.h (srch sb g.ms)
      have q2 := hA.few
      exact ⟨ph, pb, D, D2, g.h, _, _, rfl, hA.same s12, s2 _ _ hD1, hD3, by omega, fun H3 s3 => k _ _ (FM.rest_ok hb) (s12.trans s3)⟩
theorem scST : FnScope ["self", "bad"] ["self", "bad"] (defScope sSStart) := ⟨rfl, rfl, rfl, by decide +kernel, rfl, by decide +kernel, by decide +kernel⟩
theorem ok_sstart {f fH fE fL CS CH : Addr} {fd fdH fdE : FuncData} (F : Fun K "start" "Session.start" sSStart f fd) (T : TxS K mg CS CH fL) (bH : Binds K fdH ["self", "change"] []) (mH : Meth K CH "has" fH) (GH : FnOk P w K mg base CX0 1 fH fdH ["self", "change"] (spHHas CH))
    (bE : Binds K fdE ["self"] []) (mE : Meth K CS "left" fE) (GE : FnOk P w K mg base CX0 6 fE fdE ["self"] (spL0 CS CH .left)) : FnOk P w K mg base CX0 7 f fd ["self", "bad"] (spS1 CS CH .start) := by
  refine F.ok scST (fun vs H Q E h => ?_) (fun cdv A outer s H vs Q E hr h => ?_)
  · obtain ⟨_, _, _, _, _, _, rfl, _⟩ := h
    rfl
  · obtain ⟨p, ph, pb, pm, g, c, rfl, S, k⟩ := h
    obtain ⟨⟨dp, e1⟩, hA, ⟨ts, m1, m2⟩, ok, few, bd, ne⟩ := id S
    obtain ⟨⟨dh, e2⟩, _, hfew⟩ := id hA
    obtain ⟨n1, n2, n3, n4, n5, n6⟩ := S.noP
    obtain ⟨t1, g1⟩ := T.unk
    have hr1 : Room 1 _ := hr.mono (by decide)
    refine ⟨_, pss_cons (ps_if (pt_not (pt_val (pe_meth (pe_fld (pv 0) rfl) T.ch mH GH hr1 bH .nil pass0 (pa_cons (pv 1) pa_nil)))) (pss_one (ps_ret (pe_glob (v := .int (-1)) rfl g1 ⟨t1, rfl⟩))) pss_nil)
      (pss_cons (ps_fld (pv 0) (pv 1) rfl) (pss_cons (ps_fld (pv 0) (pe_lst pa_nil) rfl)
      (pss_one (ps_ret (pe_meth0 (pv 0) T.cl mE GE hr bE .nil pass0))))), ?_⟩
    refine ⟨_, rfl, p, CS, dp, _, _, rfl, e1, T.cl, T.nH, sf_h _ _ _, ph, dh, _, rfl, e2, hf_no _ (by decide +kernel), _, rfl, ph, pb, g.h, _, rfl, hA, _, rfl, ?_⟩
    by_cases hc : c < g.h.length
    · rw [decide_eq_true (show (c : Int) < (g.h.length : Int) by omega)]
      refine iteF ?_
      -- self.bad = bad
      refine ⟨_, rfl, _, rfl, p, CS, dp, _, rfl, e1, T.cl, T.nB, (by show 3 < 1000; decide), ?_⟩
      rw [put_b]
      -- self.marks = []
      refine ⟨Nat.zero_le _, fun q hq => ?_⟩
      have npq : p ≠ q := ne_of_none upd_same hq
      have hq0 : H q = none := by rw [upd_ne (Ne.symm npq)] at hq; exact hq
      refine ⟨_, rfl, p, CS, dp, _, rfl, (by rw [upd_ne npq]; exact upd_same), T.cl, T.nM, (by show 3 < 1000; decide), ?_⟩
      rw [put_m]
      have hk : ∀ b o, H b = some o → b ≠ p → upd (upd (upd H p (.ins CS dp (sf ph (.int c) pm))) q (.lst [])) p (.ins CS dp (sf ph (.int c) q)) b = some o := fun b o e hb => by
        rw [upd_ne hb, upd_ne (ne_of_none e hq0), upd_ne hb]
        exact e
      have hp1 : upd (upd (upd H p (.ins CS dp (sf ph (.int c) pm))) q (.lst [])) p (.ins CS dp (sf ph (.int c) q)) p = some (.ins CS dp (sf ph (.int c) q)) := upd_same
      have hq1 : upd (upd (upd H p (.ins CS dp (sf ph (.int c) pm))) q (.lst [])) p (.ins CS dp (sf ph (.int c) q)) q = some (.lst []) := by rw [upd_ne (Ne.symm npq), upd_same]
      generalize upd (upd (upd H p (.ins CS dp (sf ph (.int c) pm))) q (.lst [])) p (.ins CS dp (sf ph (.int c) q)) = H1 at hk hp1 hq1 ⊢
      have hA1 : HistAt CH H1 ph pb g.h := hA.keep fun b o e hb => hk b o e (by
        rintro rfl
        rcases hb with hb | hb | ⟨kvs, hb⟩
        · exact n1 hb
        · exact n2 hb
        · rw [e1, hb] at e
          cases e)
      have nqb : q ≠ pb := (ne_of_none hA.ls.choose_spec.1 hq0).symm
      have S1 : SessAt CS CH H1 p ph pb q ⟨g.h, some c, []⟩ := ⟨⟨dp, hp1⟩, hA1, ⟨[], hq1, MarksAt.nil⟩, fun m hm => (by cases hm), Nat.zero_le _, fun s e => (by cases e; exact hc), nqb⟩
      -- return self.left()
      refine ⟨_, rfl, p, dp, _, rfl, hp1, sf_no _ _ _ (by decide +kernel) (by decide +kernel) (by decide +kernel), p, ph, pb, q, ⟨g.h, some c, []⟩, rfl, S1, fun H3 z a s => ?_⟩
      have an := FM.start_ok (g := g) hc
      have al := FM.left_ok (g := ⟨g.h, some c, []⟩) (s := c) rfl
      have ez : [z] = [((Fb.left g.h (srch c [])).length : Int)] := a.2.symm.trans al.2
      rw [← ez] at an
      exact k H3 q _ _ an (S1.same s) (.inr hq0) fun b o e b1 _ _ => s _ _ (hk b o e b1)
    · rw [decide_eq_false (show ¬ (c : Int) < (g.h.length : Int) by omega)]
      exact iteT (k.stay S (Same.refl _) (FM.start_1 hc))
end
end FP
set_option Elab.async false
set_option linter.all false
set_option maxRecDepth 100000
set_option maxHeartbeats 4000000
namespace FP
open PySem PySem.Spec PyProof.Rows L2 FX
open Fb (Hist rowsOf isBefore)
open FM (PS Ans enc encs encN srch outs)
abbrev sLen : Stmt := top 40
abbrev sOne : Stmt := top 41
abbrev sAns : Stmt := top 42
abbrev sTop : Stmt := top 43
def lens : List (Int × Int) := [(1, 1), (2, 3), (3, 2), (4, 3), (5, 1), (6, 1), (7, 1), (8, 1), (9, 2), (10, 1)]
structure TxA (K : PySem.W.Frag) (mg : Str → Option Value) (CS CH fL fN fO fA aL : Addr) : Prop where
  ts : TxS K mg CS CH fL
  add : ∃ t, mg "ADD" = some (.int 0 t)
  count : ∃ t, mg "COUNT" = some (.int 1 t)
  before : ∃ t, mg "BEFORE" = some (.int 2 t)
  start : ∃ t, mg "START" = some (.int 3 t)
  mark : ∃ t, mg "MARK" = some (.int 4 t)
  undo : ∃ t, mg "UNDO" = some (.int 5 t)
  left : ∃ t, mg "LEFT" = some (.int 6 t)
  list : ∃ t, mg "LIST" = some (.int 7 t)
  next : ∃ t, mg "NEXT" = some (.int 8 t)
  split : ∃ t, mg "SPLIT" = some (.int 9 t)
  mgL : mg "LENGTHS" = some (.ref aL)
  dl : KDict K aL lens
  len : mg "call_length" = some (.ref fN)
  one : mg "one_number" = some (.ref fO)
  ans : mg "answer" = some (.ref fA)
  sess : mg "Session" = some (.ref CS)
def spLen (K : PySem.W.Frag) : Sp := fun vs H Q _ => ∃ (a : Addr) (A C : List Int) (q : Fb.Call), vs = [.ref a, .int (A.length : Int)] ∧ SqL K H a ((A ++ (enc q ++ C)).map V.int) ∧ Q (.int ((enc q).length : Int)) H
def notList : Fb.Call → Bool
  | .list => false
  | _ => true
def spOne (CS CH : Addr) : Sp := fun vs H Q _ => ∃ (p ph pb pm pc : Addr) (g : PS) (q : Fb.Call), vs = [.ref p, .ref pc] ∧ SessAt CS CH H p ph pb pm g ∧ H pc = some (.lst ((enc q).map V.int)) ∧ notList q = true ∧ (enc q).length ≤ 700 ∧ After CS CH p ph pb pm g q H Q
/-- behind a call whose answer is a list of numbers -/
def AfterL (CS CH : Addr) (p ph pb pm : Addr) (g : PS) (q : Fb.Call) (H : Hp) (Q : VK) : Prop :=
  ∀ (H' : Hp) (pm' : Addr) (g' : PS) (zs : List Int) (D : Addr), Ans g q g' zs → zs.length ≤ 1000 → SessAt CS CH H' p ph pb pm' g' → (pm' = pm ∨ H pm' = none) → Fr3 H H' p pb pm →
    (∀ b o, H b = some o → b ≠ p → b ≠ pb → b ≠ pm → b ≠ D) → H' D = some (.lst (zs.map V.int)) → Q (.ref D) H'
def spAns (CS CH : Addr) : Sp := fun vs H Q _ => ∃ (p ph pb pm pc : Addr) (g : PS) (q : Fb.Call), vs = [.ref p, .ref pc] ∧ SessAt CS CH H p ph pb pm g ∧ H pc = some (.lst ((enc q).map V.int)) ∧ (enc q).length ≤ 700 ∧ AfterL CS CH p ph pb pm g q H Q
section
variable {P : Program} {w : World} {K : PySem.W.Frag} {mg : Str → Option Value} {base : Heap}
theorem scN : FnScope ["calls", "at"] ["calls", "at"] (defScope sLen) := ⟨rfl, rfl, rfl, by decide +kernel, rfl, by decide +kernel, by decide +kernel⟩
theorem ok_len {f CS CH fL fN fO fA aL : Addr} {fd : FuncData} (F : Fun K "call_length" "call_length" sLen f fd) (T : TxA K mg CS CH fL fN fO fA aL) : FnOk P w K mg base CX0 1 f fd ["calls", "at"] (spLen K) := by
  refine F.ok scN (fun vs H Q E h => ?_) (fun cdv A outer s H vs Q E hr h => ?_)
  · obtain ⟨_, _, _, _, rfl, _⟩ := h
    rfl
  · obtain ⟨a, A, C, q, rfl, hS, k⟩ := h
    obtain ⟨t0, g0⟩ := T.add
    refine ⟨_, pss_cons (ps_if (pt_cmpR op_eq (pe_ix ix_list (pv 0) (pv 1) (fun _ _ => rfl)) (pe_glob (v := .int 0) rfl g0 ⟨t0, rfl⟩) (nomark _))
        (pss_one (ps_ret (pe_op op_add pe_int (pe_ix ix_list (pv 0) (pe_op op_add (pv 1) pe_int) (fun _ _ => rfl))))) pss_nil)
      (pss_one (ps_ret (pe_dgetK (pe_glob (v := .ref aL) rfl T.mgL rfl) (pe_ix ix_list (pv 0) (pv 1) (fun _ _ => rfl)) (fun _ _ => rfl)))), ?_⟩
    cases q with
    | add ps =>
      have e1 : A ++ (enc (.add ps) ++ C) = A ++ (0 : Int) :: (ps.length : Int) :: (encN ps ++ C) := rfl
      rw [e1] at hS
      refine ⟨_, rfl, _, rfl, a, _, _, _, rfl, rfl, hS, at_mid, rfl, _, rfl, iteT ?_⟩
      refine ⟨_, rfl, _, rfl, _, _, rfl, rfl, a, _, _, _, rfl, rfl, hS, at_mid1, _, _, rfl, rfl, ?_⟩
      have e2 : (((enc (.add ps)).length : Nat) : Int) = 2 + (ps.length : Int) := by
        show (((encN ps).length + 1 + 1 : Nat) : Int) = _
        unfold encN
        rw [List.length_map]
        omega
      rw [e2] at k
      exact k
    | count => exact ⟨_, rfl, _, rfl, a, _, _, _, rfl, rfl, hS, at_mid, rfl, _, rfl, iteF ⟨_, rfl, _, rfl, a, _, _, _, rfl, rfl, hS, at_mid, aL, _, _, _, rfl, rfl, T.dl, rfl, k⟩⟩
    | before x y => exact ⟨_, rfl, _, rfl, a, _, _, _, rfl, rfl, hS, at_mid, rfl, _, rfl, iteF ⟨_, rfl, _, rfl, a, _, _, _, rfl, rfl, hS, at_mid, aL, _, _, _, rfl, rfl, T.dl, rfl, k⟩⟩
    | start x => exact ⟨_, rfl, _, rfl, a, _, _, _, rfl, rfl, hS, at_mid, rfl, _, rfl, iteF ⟨_, rfl, _, rfl, a, _, _, _, rfl, rfl, hS, at_mid, aL, _, _, _, rfl, rfl, T.dl, rfl, k⟩⟩
    | mark x y => exact ⟨_, rfl, _, rfl, a, _, _, _, rfl, rfl, hS, at_mid, rfl, _, rfl, iteF ⟨_, rfl, _, rfl, a, _, _, _, rfl, rfl, hS, at_mid, aL, _, _, _, rfl, rfl, T.dl, rfl, k⟩⟩
    | undo => exact ⟨_, rfl, _, rfl, a, _, _, _, rfl, rfl, hS, at_mid, rfl, _, rfl, iteF ⟨_, rfl, _, rfl, a, _, _, _, rfl, rfl, hS, at_mid, aL, _, _, _, rfl, rfl, T.dl, rfl, k⟩⟩
    | left => exact ⟨_, rfl, _, rfl, a, _, _, _, rfl, rfl, hS, at_mid, rfl, _, rfl, iteF ⟨_, rfl, _, rfl, a, _, _, _, rfl, rfl, hS, at_mid, aL, _, _, _, rfl, rfl, T.dl, rfl, k⟩⟩
    | list => exact ⟨_, rfl, _, rfl, a, _, _, _, rfl, rfl, hS, at_mid, rfl, _, rfl, iteF ⟨_, rfl, _, rfl, a, _, _, _, rfl, rfl, hS, at_mid, aL, _, _, _, rfl, rfl, T.dl, rfl, k⟩⟩
    | next => exact ⟨_, rfl, _, rfl, a, _, _, _, rfl, rfl, hS, at_mid, rfl, _, rfl, iteF ⟨_, rfl, _, rfl, a, _, _, _, rfl, rfl, hS, at_mid, aL, _, _, _, rfl, rfl, T.dl, rfl, k⟩⟩
    | split x => exact ⟨_, rfl, _, rfl, a, _, _, _, rfl, rfl, hS, at_mid, rfl, _, rfl, iteF ⟨_, rfl, _, rfl, a, _, _, _, rfl, rfl, hS, at_mid, aL, _, _, _, rfl, rfl, T.dl, rfl, k⟩⟩
    | rest => exact ⟨_, rfl, _, rfl, a, _, _, _, rfl, rfl, hS, at_mid, rfl, _, rfl, iteF ⟨_, rfl, _, rfl, a, _, _, _, rfl, rfl, hS, at_mid, aL, _, _, _, rfl, rfl, T.dl, rfl, k⟩⟩
theorem SessAt.of_pc {CS CH : Addr} {H : Hp} {p ph pb pm pc : Addr} {g : PS} {xs : List V} (S : SessAt CS CH H p ph pb pm g) (h : H pc = some (.lst xs)) : pc ≠ p := by
  obtain ⟨dp, e⟩ := S.ob
  exact ne_of h e (by intro z; cases z)
theorem After.new {CS CH p ph pb pm n : Addr} {g : PS} {q : Fb.Call} {H : Hp} {Q : VK} {o : HO} (k : After CS CH p ph pb pm g q H Q) (hn : H n = none) : After CS CH p ph pb pm g q (upd H n o) Q := fun H' pm' g' z a S c f =>
  k H' pm' g' z a S (c.imp id fun e => (same_new hn).free e) fun b u e b1 b2 b3 => f b u (same_new hn b u e) b1 b2 b3
theorem scQ : FnScope ["session", "call", "number"] ["session", "call"] (defScope sOne) := ⟨rfl, rfl, rfl, by decide +kernel, rfl, by decide +kernel, by decide +kernel⟩
theorem ok_one {f CS CH fL fN fO fA aL f0 f1 f2 f3 f4 f5 f6 f8 f9 fX : Addr} {fd fd0 fd1 fd2 fd3 fd4 fd5 fd6 fd8 fd9 fdX : FuncData} (F : Fun K "one_number" "one_number" sOne f fd) (T : TxA K mg CS CH fL fN fO fA aL)
    (b0 : Binds K fd0 ["self", "parents"] []) (m0 : Meth K CS "add" f0) (G0 : FnOk P w K mg base CX0 3 f0 fd0 ["self", "parents"] (spSAdd K CS CH))
    (b1 : Binds K fd1 ["self"] []) (m1 : Meth K CS "count" f1) (G1 : FnOk P w K mg base CX0 2 f1 fd1 ["self"] (spS0 CS CH .count))
    (b2 : Binds K fd2 ["self", "a", "b"] []) (m2 : Meth K CS "before" f2) (G2 : FnOk P w K mg base CX0 3 f2 fd2 ["self", "a", "b"] (spS2 CS CH .before))
    (b3 : Binds K fd3 ["self", "bad"] []) (m3 : Meth K CS "start" f3) (G3 : FnOk P w K mg base CX0 7 f3 fd3 ["self", "bad"] (spS1 CS CH .start))
    (b4 : Binds K fd4 ["self", "change", "kind"] []) (m4 : Meth K CS "mark" f4) (G4 : FnOk P w K mg base CX0 5 f4 fd4 ["self", "change", "kind"] (spS2 CS CH .mark))
    (b5 : Binds K fd5 ["self"] []) (m5 : Meth K CS "undo" f5) (G5 : FnOk P w K mg base CX0 1 f5 fd5 ["self"] (spS0 CS CH .undo))
    (b6 : Binds K fd6 ["self"] []) (m6 : Meth K CS "left" f6) (G6 : FnOk P w K mg base CX0 6 f6 fd6 ["self"] (spL0 CS CH .left))
    (b8 : Binds K fd8 ["self"] []) (m8 : Meth K CS "next_try" f8) (G8 : FnOk P w K mg base CX0 6 f8 fd8 ["self"] (spL0 CS CH .next))
    (b9 : Binds K fd9 ["self", "change"] []) (m9 : Meth K CS "split" f9) (G9 : FnOk P w K mg base CX0 6 f9 fd9 ["self", "change"] (spL1 CS CH .split))
    (bX : Binds K fdX ["self"] []) (mX : Meth K CS "rest" fX) (GX : FnOk P w K mg base CX0 7 fX fdX ["self"] (spL0 CS CH .rest)) :
    FnOk P w K mg base CX0 8 f fd ["session", "call"] (spOne CS CH) := by
  refine F.ok scQ (fun vs H Q E h => ?_) (fun cdv A outer s H vs Q E hr h => ?_)
  · obtain ⟨_, _, _, _, _, _, _, rfl, _⟩ := h
    rfl
  · obtain ⟨p, ph, pb, pm, pc, g, q, rfl, S, hc, hq, hz, k⟩ := h
    obtain ⟨t0, g0⟩ := T.add
    obtain ⟨t1, g1⟩ := T.count
    obtain ⟨t2, g2⟩ := T.before
    obtain ⟨t3, g3⟩ := T.start
    obtain ⟨t4, g4⟩ := T.mark
    obtain ⟨t5, g5⟩ := T.undo
    obtain ⟨t6, g6⟩ := T.left
    obtain ⟨t8, g8⟩ := T.next
    obtain ⟨t9, g9⟩ := T.split
    have r6 : Room 6 _ := hr.mono (by decide)
    have r5 : Room 5 _ := hr.mono (by decide)
    have r3 : Room 3 _ := hr.mono (by decide)
    have r2 : Room 2 _ := hr.mono (by decide)
    have r1 : Room 1 _ := hr.mono (by decide)
    obtain ⟨dp, e1⟩ := S.ob
    have kk := k.look S
    refine ⟨_, pss_cons (ps_set (i := 2) scQ.nd rfl (Or.inl rfl) (pe_ix ix_list (pv 1) pe_int (fun _ _ => rfl)))
      (pss_cons (ps_if (pt_cmpR op_eq (pv 2) (pe_glob (v := .int 0) rfl g0 ⟨t0, rfl⟩) (nomark _)) (pss_one (ps_ret (pe_meth (pv 0) T.ts.cl m0 G0 r3 b0 .nil pass0 (pa_cons (pe_slice sl_list (pv 1) (po_some pe_int) po_none) pa_nil)))) pss_nil)
      (pss_cons (ps_if (pt_cmpR op_eq (pv 2) (pe_glob (v := .int 1) rfl g1 ⟨t1, rfl⟩) (nomark _)) (pss_one (ps_ret (pe_meth0 (pv 0) T.ts.cl m1 G1 r2 b1 .nil pass0))) pss_nil)
      (pss_cons (ps_if (pt_cmpR op_eq (pv 2) (pe_glob (v := .int 2) rfl g2 ⟨t2, rfl⟩) (nomark _)) (pss_one (ps_ret (pe_meth (pv 0) T.ts.cl m2 G2 r3 b2 .nil pass0 (pa_cons (pe_ix ix_list (pv 1) pe_int (fun _ _ => rfl)) (pa_cons (pe_ix ix_list (pv 1) pe_int (fun _ _ => rfl)) pa_nil))))) pss_nil)
      (pss_cons (ps_if (pt_cmpR op_eq (pv 2) (pe_glob (v := .int 3) rfl g3 ⟨t3, rfl⟩) (nomark _)) (pss_one (ps_ret (pe_meth (pv 0) T.ts.cl m3 G3 hr b3 .nil pass0 (pa_cons (pe_ix ix_list (pv 1) pe_int (fun _ _ => rfl)) pa_nil)))) pss_nil)
      (pss_cons (ps_if (pt_cmpR op_eq (pv 2) (pe_glob (v := .int 4) rfl g4 ⟨t4, rfl⟩) (nomark _)) (pss_one (ps_ret (pe_meth (pv 0) T.ts.cl m4 G4 r5 b4 .nil pass0 (pa_cons (pe_ix ix_list (pv 1) pe_int (fun _ _ => rfl)) (pa_cons (pe_ix ix_list (pv 1) pe_int (fun _ _ => rfl)) pa_nil))))) pss_nil)
      (pss_cons (ps_if (pt_cmpR op_eq (pv 2) (pe_glob (v := .int 5) rfl g5 ⟨t5, rfl⟩) (nomark _)) (pss_one (ps_ret (pe_meth0 (pv 0) T.ts.cl m5 G5 r1 b5 .nil pass0))) pss_nil)
      (pss_cons (ps_if (pt_cmpR op_eq (pv 2) (pe_glob (v := .int 6) rfl g6 ⟨t6, rfl⟩) (nomark _)) (pss_one (ps_ret (pe_meth0 (pv 0) T.ts.cl m6 G6 r6 b6 .nil pass0))) pss_nil)
      (pss_cons (ps_if (pt_cmpR op_eq (pv 2) (pe_glob (v := .int 8) rfl g8 ⟨t8, rfl⟩) (nomark _)) (pss_one (ps_ret (pe_meth0 (pv 0) T.ts.cl m8 G8 r6 b8 .nil pass0))) pss_nil)
      (pss_cons (ps_if (pt_cmpR op_eq (pv 2) (pe_glob (v := .int 9) rfl g9 ⟨t9, rfl⟩) (nomark _)) (pss_one (ps_ret (pe_meth (pv 0) T.ts.cl m9 G9 r6 b9 .nil pass0 (pa_cons (pe_ix ix_list (pv 1) pe_int (fun _ _ => rfl)) pa_nil)))) pss_nil)
      (pss_one (ps_ret (pe_meth0 (pv 0) T.ts.cl mX GX hr bX .nil pass0)))))))))))), ?_⟩
    have no : ∀ {m : Str}, ¬ m = "history" → ¬ m = "bad" → ¬ m = "marks" → (sf ph (badV g.bad) pm).lookup m = none := fun a b c => sf_no _ _ _ a b c
    cases q with
    | add ps =>
      refine ⟨_, rfl, pc, _, _, V.int 0, rfl, rfl, SqL.of hc, atI_nat (j := 0) rfl, ?_⟩
      refine ⟨_, rfl, rfl, _, rfl, iteT ?_⟩
      refine ⟨_, rfl, p, dp, _, rfl, e1, no (by decide +kernel) (by decide +kernel) (by decide +kernel), _, rfl, _, rfl, pc, _, rfl, SqL.of hc, fun n hn => ?_⟩
      have ec : cutV ((enc (.add ps)).map V.int) (some 2) none = (encN ps).map V.int := cut_from [V.int 0, V.int (ps.length : Int)] ((encN ps).map V.int)
      rw [ec]
      have hl : (enc (.add ps)).length = ps.length + 2 := by
        show (encN ps).length + 1 + 1 = _
        unfold encN
        rw [List.length_map]
      have nb : n ≠ pb := (ne_of_none S.hi.ls.choose_spec.1 hn).symm
      exact ⟨p, ph, pb, pm, n, g, ps, rfl, S.same (same_new hn), SqL.of upd_same, nb, by omega, k.new hn⟩
    | count =>
      refine ⟨_, rfl, pc, _, _, V.int 1, rfl, rfl, SqL.of hc, atI_nat (j := 0) rfl, ?_⟩
      exact ⟨_, rfl, rfl, _, rfl, iteF (⟨_, rfl, rfl, _, rfl, iteT (⟨_, rfl, p, dp, _, rfl, e1, no (by decide +kernel) (by decide +kernel) (by decide +kernel), p, ph, pb, pm, g, rfl, S, k⟩)⟩)⟩
    | before x y =>
      refine ⟨_, rfl, pc, _, _, V.int 2, rfl, rfl, SqL.of hc, atI_nat (j := 0) rfl, ?_⟩
      exact ⟨_, rfl, rfl, _, rfl, iteF (⟨_, rfl, rfl, _, rfl, iteF (⟨_, rfl, rfl, _, rfl, iteT (⟨_, rfl, p, dp, _, rfl, e1, no (by decide +kernel) (by decide +kernel) (by decide +kernel), _, rfl, pc, _, _, V.int x, rfl, rfl, SqL.of hc, atI_nat (j := 1) rfl, _, rfl, pc, _, _, V.int y, rfl, rfl, SqL.of hc, atI_nat (j := 2) rfl, p, ph, pb, pm, g, x, y, rfl, S, k⟩)⟩)⟩)⟩
    | start x =>
      refine ⟨_, rfl, pc, _, _, V.int 3, rfl, rfl, SqL.of hc, atI_nat (j := 0) rfl, ?_⟩
      exact ⟨_, rfl, rfl, _, rfl, iteF (⟨_, rfl, rfl, _, rfl, iteF (⟨_, rfl, rfl, _, rfl, iteF (⟨_, rfl, rfl, _, rfl, iteT (⟨_, rfl, p, dp, _, rfl, e1, no (by decide +kernel) (by decide +kernel) (by decide +kernel), _, rfl, pc, _, _, V.int x, rfl, rfl, SqL.of hc, atI_nat (j := 1) rfl, p, ph, pb, pm, g, x, rfl, S, k⟩)⟩)⟩)⟩)⟩
    | mark x y =>
      refine ⟨_, rfl, pc, _, _, V.int 4, rfl, rfl, SqL.of hc, atI_nat (j := 0) rfl, ?_⟩
      exact ⟨_, rfl, rfl, _, rfl, iteF (⟨_, rfl, rfl, _, rfl, iteF (⟨_, rfl, rfl, _, rfl, iteF (⟨_, rfl, rfl, _, rfl, iteF (⟨_, rfl, rfl, _, rfl, iteT (⟨_, rfl, p, dp, _, rfl, e1, no (by decide +kernel) (by decide +kernel) (by decide +kernel), _, rfl, pc, _, _, V.int x, rfl, rfl, SqL.of hc, atI_nat (j := 1) rfl, _, rfl, pc, _, _, V.int y, rfl, rfl, SqL.of hc, atI_nat (j := 2) rfl, p, ph, pb, pm, g, x, y, rfl, S, k⟩)⟩)⟩)⟩)⟩)⟩
    | undo =>
      refine ⟨_, rfl, pc, _, _, V.int 5, rfl, rfl, SqL.of hc, atI_nat (j := 0) rfl, ?_⟩
      exact ⟨_, rfl, rfl, _, rfl, iteF (⟨_, rfl, rfl, _, rfl, iteF (⟨_, rfl, rfl, _, rfl, iteF (⟨_, rfl, rfl, _, rfl, iteF (⟨_, rfl, rfl, _, rfl, iteF (⟨_, rfl, rfl, _, rfl, iteT (⟨_, rfl, p, dp, _, rfl, e1, no (by decide +kernel) (by decide +kernel) (by decide +kernel), p, ph, pb, pm, g, rfl, S, k⟩)⟩)⟩)⟩)⟩)⟩)⟩
    | left =>
      refine ⟨_, rfl, pc, _, _, V.int 6, rfl, rfl, SqL.of hc, atI_nat (j := 0) rfl, ?_⟩
      exact ⟨_, rfl, rfl, _, rfl, iteF (⟨_, rfl, rfl, _, rfl, iteF (⟨_, rfl, rfl, _, rfl, iteF (⟨_, rfl, rfl, _, rfl, iteF (⟨_, rfl, rfl, _, rfl, iteF (⟨_, rfl, rfl, _, rfl, iteF (⟨_, rfl, rfl, _, rfl, iteT (⟨_, rfl, p, dp, _, rfl, e1, no (by decide +kernel) (by decide +kernel) (by decide +kernel), p, ph, pb, pm, g, rfl, S, kk⟩)⟩)⟩)⟩)⟩)⟩)⟩)⟩
    | list => cases hq
    | next =>
      refine ⟨_, rfl, pc, _, _, V.int 8, rfl, rfl, SqL.of hc, atI_nat (j := 0) rfl, ?_⟩
      exact ⟨_, rfl, rfl, _, rfl, iteF (⟨_, rfl, rfl, _, rfl, iteF (⟨_, rfl, rfl, _, rfl, iteF (⟨_, rfl, rfl, _, rfl, iteF (⟨_, rfl, rfl, _, rfl, iteF (⟨_, rfl, rfl, _, rfl, iteF (⟨_, rfl, rfl, _, rfl, iteF (⟨_, rfl, rfl, _, rfl, iteT (⟨_, rfl, p, dp, _, rfl, e1, no (by decide +kernel) (by decide +kernel) (by decide +kernel), p, ph, pb, pm, g, rfl, S, kk⟩)⟩)⟩)⟩)⟩)⟩)⟩)⟩)⟩
    | split x =>
      refine ⟨_, rfl, pc, _, _, V.int 9, rfl, rfl, SqL.of hc, atI_nat (j := 0) rfl, ?_⟩
      exact ⟨_, rfl, rfl, _, rfl, iteF (⟨_, rfl, rfl, _, rfl, iteF (⟨_, rfl, rfl, _, rfl, iteF (⟨_, rfl, rfl, _, rfl, iteF (⟨_, rfl, rfl, _, rfl, iteF (⟨_, rfl, rfl, _, rfl, iteF (⟨_, rfl, rfl, _, rfl, iteF (⟨_, rfl, rfl, _, rfl, iteF (⟨_, rfl, rfl, _, rfl, iteT (⟨_, rfl, p, dp, _, rfl, e1, no (by decide +kernel) (by decide +kernel) (by decide +kernel), _, rfl, pc, _, _, V.int x, rfl, rfl, SqL.of hc, atI_nat (j := 1) rfl, p, ph, pb, pm, g, x, rfl, S, kk⟩)⟩)⟩)⟩)⟩)⟩)⟩)⟩)⟩)⟩
    | rest =>
      refine ⟨_, rfl, pc, _, _, V.int 10, rfl, rfl, SqL.of hc, atI_nat (j := 0) rfl, ?_⟩
      exact ⟨_, rfl, rfl, _, rfl, iteF (⟨_, rfl, rfl, _, rfl, iteF (⟨_, rfl, rfl, _, rfl, iteF (⟨_, rfl, rfl, _, rfl, iteF (⟨_, rfl, rfl, _, rfl, iteF (⟨_, rfl, rfl, _, rfl, iteF (⟨_, rfl, rfl, _, rfl, iteF (⟨_, rfl, rfl, _, rfl, iteF (⟨_, rfl, rfl, _, rfl, iteF (⟨_, rfl, p, dp, _, rfl, e1, no (by decide +kernel) (by decide +kernel) (by decide +kernel), p, ph, pb, pm, g, rfl, S, kk⟩)⟩)⟩)⟩)⟩)⟩)⟩)⟩)⟩)⟩
theorem scZ : FnScope ["session", "call"] ["session", "call"] (defScope sAns) := ⟨rfl, rfl, rfl, by decide +kernel, rfl, by decide +kernel, by decide +kernel⟩
theorem ok_ans {f CS CH fL fN fO fA aL fT : Addr} {fd fdO fdT : FuncData} (F : Fun K "answer" "answer" sAns f fd) (T : TxA K mg CS CH fL fN fO fA aL)
    (bT : Binds K fdT ["self"] []) (mT : Meth K CS "listed" fT) (GT : FnOk P w K mg base CX0 6 fT fdT ["self"] (spList CS CH))
    (kO : PySem.W.keepIn K (.ref fO) = true) (bO : Binds K fdO ["session", "call"] []) (GO : FnOk P w K mg base CX0 8 fO fdO ["session", "call"] (spOne CS CH)) :
    FnOk P w K mg base CX0 9 f fd ["session", "call"] (spAns CS CH) := by
  refine F.ok scZ (fun vs H Q E h => ?_) (fun cdv A outer s H vs Q E hr h => ?_)
  · obtain ⟨_, _, _, _, _, _, _, rfl, _⟩ := h
    rfl
  · obtain ⟨p, ph, pb, pm, pc, g, q, rfl, S, hc, hz, k⟩ := h
    obtain ⟨t7, g7⟩ := T.list
    have r6 : Room 6 _ := hr.mono (by decide)
    obtain ⟨dp, e1⟩ := S.ob
    refine ⟨_, pss_cons (ps_if (pt_cmpR op_eq (pe_ix ix_list (pv 1) pe_int (fun _ _ => rfl)) (pe_glob (v := .int 7) rfl g7 ⟨t7, rfl⟩) (nomark _)) (pss_one (ps_ret (pe_meth0 (pv 0) T.ts.cl mT GT r6 bT .nil pass0))) pss_nil)
      (pss_one (ps_ret (pe_lst (pa_cons (pe_call GO hr rfl T.one kO bO .nil pass0 (pa_cons (pv 0) (pa_cons (pv 1) pa_nil))) pa_nil)))), ?_⟩
    have no : ∀ {m : Str}, ¬ m = "history" → ¬ m = "bad" → ¬ m = "marks" → (sf ph (badV g.bad) pm).lookup m = none := fun a b c => sf_no _ _ _ a b c
    have k1 : After CS CH p ph pb pm g q H fun v H' => 1 ≤ sizeLine ∧ ∀ D, H' D = none → Q (.ref D) (upd H' D (.lst [v])) := fun H' pm' g' z an S' c fr =>
      ⟨by decide, fun D hD => k _ pm' g' [z] D an (by show 1 ≤ 1000; decide) (S'.same (same_new hD)) c (fun b o e n1 n2 n3 => same_new hD b o (fr b o e n1 n2 n3)) (fun b o e n1 n2 n3 => ne_of_none (fr b o e n1 n2 n3) hD) upd_same⟩
    cases q with
    | add ps => exact ⟨_, rfl, pc, _, _, V.int 0, rfl, rfl, SqL.of hc, atI_nat (j := 0) rfl, rfl, _, rfl, iteF ⟨_, rfl, _, rfl, p, ph, pb, pm, pc, g, _, rfl, S, hc, rfl, hz, k1⟩⟩
    | count => exact ⟨_, rfl, pc, _, _, V.int 1, rfl, rfl, SqL.of hc, atI_nat (j := 0) rfl, rfl, _, rfl, iteF ⟨_, rfl, _, rfl, p, ph, pb, pm, pc, g, _, rfl, S, hc, rfl, hz, k1⟩⟩
    | before x y => exact ⟨_, rfl, pc, _, _, V.int 2, rfl, rfl, SqL.of hc, atI_nat (j := 0) rfl, rfl, _, rfl, iteF ⟨_, rfl, _, rfl, p, ph, pb, pm, pc, g, _, rfl, S, hc, rfl, hz, k1⟩⟩
    | start x => exact ⟨_, rfl, pc, _, _, V.int 3, rfl, rfl, SqL.of hc, atI_nat (j := 0) rfl, rfl, _, rfl, iteF ⟨_, rfl, _, rfl, p, ph, pb, pm, pc, g, _, rfl, S, hc, rfl, hz, k1⟩⟩
    | mark x y => exact ⟨_, rfl, pc, _, _, V.int 4, rfl, rfl, SqL.of hc, atI_nat (j := 0) rfl, rfl, _, rfl, iteF ⟨_, rfl, _, rfl, p, ph, pb, pm, pc, g, _, rfl, S, hc, rfl, hz, k1⟩⟩
    | undo => exact ⟨_, rfl, pc, _, _, V.int 5, rfl, rfl, SqL.of hc, atI_nat (j := 0) rfl, rfl, _, rfl, iteF ⟨_, rfl, _, rfl, p, ph, pb, pm, pc, g, _, rfl, S, hc, rfl, hz, k1⟩⟩
    | left => exact ⟨_, rfl, pc, _, _, V.int 6, rfl, rfl, SqL.of hc, atI_nat (j := 0) rfl, rfl, _, rfl, iteF ⟨_, rfl, _, rfl, p, ph, pb, pm, pc, g, _, rfl, S, hc, rfl, hz, k1⟩⟩
    | list =>
      refine ⟨_, rfl, pc, _, _, V.int 7, rfl, rfl, SqL.of hc, atI_nat (j := 0) rfl, rfl, _, rfl, iteT ?_⟩
      exact ⟨_, rfl, p, dp, _, rfl, e1, no (by decide +kernel) (by decide +kernel) (by decide +kernel), p, ph, pb, pm, g, rfl, S, fun H' D zs an hl hD s1 hD1 => k H' pm g zs D an hl (S.same s1) (.inl rfl) (.of s1) (fun b o e _ _ _ => ne_of_none e hD) hD1⟩
    | next => exact ⟨_, rfl, pc, _, _, V.int 8, rfl, rfl, SqL.of hc, atI_nat (j := 0) rfl, rfl, _, rfl, iteF ⟨_, rfl, _, rfl, p, ph, pb, pm, pc, g, _, rfl, S, hc, rfl, hz, k1⟩⟩
    | split x => exact ⟨_, rfl, pc, _, _, V.int 9, rfl, rfl, SqL.of hc, atI_nat (j := 0) rfl, rfl, _, rfl, iteF ⟨_, rfl, _, rfl, p, ph, pb, pm, pc, g, _, rfl, S, hc, rfl, hz, k1⟩⟩
    | rest => exact ⟨_, rfl, pc, _, _, V.int 10, rfl, rfl, SqL.of hc, atI_nat (j := 0) rfl, rfl, _, rfl, iteF ⟨_, rfl, _, rfl, p, ph, pb, pm, pc, g, _, rfl, S, hc, rfl, hz, k1⟩⟩
end
end FP
set_option Elab.async false
set_option linter.all false
set_option maxRecDepth 100000
set_option maxHeartbeats 4000000
namespace FP
open PySem PySem.Spec PyProof.Rows L2 FX
open Fb (Hist rowsOf isBefore)
open FM (PS Ans enc encs encN srch outs)
def spTop1 (K : PySem.W.Frag) : Sp := fun vs H Q _ => ∃ (a : Addr) (qs : List Fb.Call), vs = [.ref a] ∧ SqL K H a ((encs qs).map V.int) ∧ qs.length ≤ 60 ∧ (encs qs).length ≤ 700 ∧
  ∀ (H' : Hp) (p : Addr), H' p = some (.lst ((outs Fb.start qs).map V.int)) → Q (.ref p) H'
/-- what stood at the beginning stands, apart from the session -/
def Keeps (H H' : Hp) (p pb pm : Addr) : Prop := ∀ b o, H b = some o → H' b = some o ∧ b ≠ p ∧ b ≠ pb ∧ b ≠ pm
section
variable {P : Program} {w : World} {K : PySem.W.Frag} {mg : Str → Option Value} {base : Heap}
theorem Keeps.call {H H1 H2 : Hp} {p pb pm pm' : Addr} (k : Keeps H H1 p pb pm) (c : pm' = pm ∨ H1 pm' = none) (f : Fr3 H1 H2 p pb pm) : Keeps H H2 p pb pm' := fun b o e => by
  obtain ⟨e1, n1, n2, n3⟩ := k b o e
  refine ⟨f b o e1 n1 n2 n3, n1, n2, ?_⟩
  rcases c with c | c
  · rw [c]; exact n3
  · exact ne_of_none e1 c
theorem Keeps.same {H H1 H2 : Hp} {p pb pm : Addr} (k : Keeps H H1 p pb pm) (s : Same H1 H2) : Keeps H H2 p pb pm := fun b o e => let ⟨e1, n⟩ := k b o e; ⟨s b o e1, n⟩
theorem SessAt.upd {CS CH : Addr} {H : Hp} {p ph pb pm l : Addr} {g : PS} {xs ys : List V} (S : SessAt CS CH H p ph pb pm g) (h : H l = some (.lst xs)) (n1 : l ≠ pb) (n2 : l ≠ pm) : SessAt CS CH (upd H l (.lst ys)) p ph pb pm g := by
  obtain ⟨⟨dp, e1⟩, e2, ⟨ts, e3, e4⟩, e5, e6, e7, e8⟩ := S
  obtain ⟨dh, eh⟩ := e2.ob
  refine ⟨⟨dp, by rw [upd_ne (ne_of e1 h (by intro z; cases z))]; exact e1⟩, e2.keep fun b o e hb => ?_, ⟨ts, by rw [upd_ne (Ne.symm n2)]; exact e3, e4.keep fun b zs e => by rw [upd_ne (ne_of e h (by intro z; cases z))]; exact e⟩, e5, e6, e7, e8⟩
  rw [upd_ne]
  · exact e
  · rintro rfl
    rcases hb with hb | hb | ⟨kvs, hb⟩
    · rw [hb, eh] at h
      cases h
    · exact n1 hb
    · rw [h, hb] at e
      cases e
theorem scT : FnScope ["calls", "session", "given", "at", "length", "row"] ["calls"] (defScope sTop) := ⟨rfl, rfl, rfl, by decide +kernel, rfl, by decide +kernel, by decide +kernel⟩
theorem ok_top {f CS CH fL fN fO fA aL fI : Addr} {fd fdI fdN fdA : FuncData} (F : Fun K "answers" "answers" sTop f fd) (T : TxA K mg CS CH fL fN fO fA aL) (M : Mk K CS fI) (bI : Binds K fdI ["self"] []) (GI : FnOk P w K mg base CX0 3 fI fdI ["self"] (spSInit CS CH))
    (kN : PySem.W.keepIn K (.ref fN) = true) (bN : Binds K fdN ["calls", "at"] []) (GN : FnOk P w K mg base CX0 1 fN fdN ["calls", "at"] (spLen K))
    (kA : PySem.W.keepIn K (.ref fA) = true) (bA : Binds K fdA ["session", "call"] []) (GA : FnOk P w K mg base CX0 9 fA fdA ["session", "call"] (spAns CS CH)) :
    FnOk P w K mg base CX0 10 f fd ["calls"] (spTop1 K) := by
  refine F.ok scT (fun vs H Q E h => ?_) (fun cdv A outer s H vs Q E hr h => ?_)
  · obtain ⟨_, _, rfl, _⟩ := h
    rfl
  · obtain ⟨a, qs, rfl, hS, h60, hz, k⟩ := h
    have r4 : Room 4 _ := hr.mono (by decide)
    have r1 : Room 1 _ := hr.mono (by decide)
    refine ⟨_, pss_cons (ps_set (i := 1) scT.nd rfl (Or.inl rfl) (pe_make0 M GI r4 rfl T.sess bI .nil pass0))
      (pss_cons (ps_set (i := 2) scT.nd rfl (Or.inl rfl) (pe_lst pa_nil))
      (pss_cons (ps_set (i := 3) scT.nd rfl (Or.inl rfl) pe_int)
      (pss_cons (ps_while PassesOwn.never (pt_cmpR op_lt (pv 3) (pe_callB call_len_seq (by rfl) T.ts.len PySem.boot_len (pa_cons (pv 0) pa_nil)) (nomark _))
        (pss_cons (ps_set (i := 4) scT.nd rfl (Or.inl rfl) (pe_call GN r1 rfl T.len kN bN .nil pass0 (pa_cons (pv 0) (pa_cons (pv 3) pa_nil))))
        (pss_cons (ps_set (i := 5) scT.nd rfl (Or.inl rfl) (pe_call GA hr rfl T.ans kA bA .nil pass0 (pa_cons (pv 1) (pa_cons (pe_slice sl_list (pv 0) (po_some (pv 3)) (po_some (pe_op op_add (pv 3) (pv 4)))) pa_nil))))
        (pss_cons (ps_expr (pe_bm PySem.F.plainAttrs_list PySem.F.slot_list_append PySem.F.type_list_append mt_append (pv 2) (pa_cons (pe_callB call_len_seq (by rfl) T.ts.len PySem.boot_len (pa_cons (pv 5) pa_nil)) pa_nil)))
        (pss_cons (ps_expr (pe_bm PySem.F.plainAttrs_list PySem.F.slot_list_extend PySem.F.type_list_extend mt_extend (pv 2) (pa_cons (pv 5) pa_nil)))
        (pss_one (ps_aug (i := 3) scT.nd rfl (Or.inl rfl) (pv 4) ip_add)))))))
      (pss_one (ps_ret (pv 2)))))), ?_⟩
    -- session = Session()
    intro p d np nd npd
    refine ⟨p, d, rfl, upd_same, fun H1 ph pb pm hpb hpm S1 k1 => ⟨rfl, ?_⟩⟩
    have s1 : Same H H1 := Same.made np nd k1
    have old : ∀ {b o}, H b = some o → upd (upd H d (.own p)) p (.ins CS d []) b = some o := fun {b o} e => by rw [upd_ne (ne_of_none e np), upd_ne (ne_of_none e nd)]; exact e
    have K1 : Keeps H H1 p pb pm := fun b o e => ⟨s1 b o e, ne_of_none e np, ne_of_none (old e) hpb, ne_of_none (old e) hpm⟩
    -- given = []; at = 0
    refine ⟨Nat.zero_le _, fun l hl => ?_⟩
    have s2 : Same H1 (upd H1 l (.lst [])) := same_new hl
    have nlb : l ≠ pb := (ne_of_none S1.hi.ls.choose_spec.1 hl).symm
    have nlm : l ≠ pm := (ne_of_none S1.mrk.choose_spec.1 hl).symm
    -- while at < len(calls)
    refine ⟨fun m σ H' => ∃ (done rest : List Fb.Call) (g : PS) (pm : Addr) (v4 v5 : Option V) (zs : List Int), qs = done ++ rest ∧ m = rest.length ∧ σ = [some (.ref a), some (.ref p), some (.ref l), some (.int ((encs done).length : Int)), v4, v5] ∧
      SessAt CS CH H' p ph pb pm g ∧ Keeps H H' p pb pm ∧ H' l = some (.lst (zs.map V.int)) ∧ l ≠ pb ∧ l ≠ pm ∧ outs Fb.start qs = zs ++ outs g.st rest ∧ zs.length ≤ 1100 * done.length,
      ⟨qs.length, [], qs, PS.zero, pm, none, none, [], rfl, rfl, rfl, S1.same s2, K1.same s2, upd_same, nlb, nlm, rfl, Nat.le_refl _⟩, ?_⟩
    rintro m σ H' ⟨done, rest, g, pm, v4, v5, zs, eq, rfl, rfl, S, kp, hl', n1, n2, eo, hzs⟩
    have hS' : SqL K H' a ((encs qs).map V.int) := FX.SqL.keep hS fun o e => (kp a o e).1
    have ee : encs qs = encs done ++ encs rest := by rw [eq, FM.encs_append]
    refine ⟨_, rfl, _, rfl, a, _, rfl, .inl hS', _, _, rfl, rfl, _, rfl, ?_⟩
    rw [List.length_map]
    cases rest with
    | nil =>
      have e0 : ¬ ((encs done).length : Int) < ((encs qs).length : Int) := by
        rw [ee]
        show ¬ ((encs done).length : Int) < (((encs done ++ []).length : Nat) : Int)
        rw [List.append_nil]
        omega
      rw [decide_eq_false e0]
      refine iteF ⟨_, rfl, k H' l ?_⟩
      rw [eo]
      show H' l = some (.lst ((zs ++ []).map V.int))
      rw [List.append_nil]
      exact hl'
    | cons q rest =>
      have e2 : encs qs = encs done ++ (enc q ++ encs rest) := ee
      have hlen : (encs qs).length = (encs done).length + ((enc q).length + (encs rest).length) := by rw [e2, List.length_append, List.length_append]
      have hpos := FM.enc_pos q
      have hdl : done.length < 60 := by
        have : qs.length = done.length + (rest.length + 1) := by rw [eq, List.length_append]; rfl
        omega
      rw [decide_eq_true (show ((encs done).length : Int) < ((encs qs).length : Int) by omega)]
      refine iteT ⟨fun σ' H2 => ∃ (g' : PS) (pm' : Addr) (v4 v5 : Option V) (ws : List Int), σ' = [some (.ref a), some (.ref p), some (.ref l), some (.int ((encs (done ++ [q])).length : Int)), v4, v5] ∧
        SessAt CS CH H2 p ph pb pm' g' ∧ Keeps H H2 p pb pm' ∧ H2 l = some (.lst ((zs ++ ((ws.length : Nat) : Int) :: ws).map V.int)) ∧ l ≠ pb ∧ l ≠ pm' ∧ Ans g q g' ws ∧ ws.length ≤ 1000, ?_, ?_⟩
      · rintro σ' H2 ⟨g', pm', v4', v5', ws, rfl, S2, kp2, hl2, nb, nm, an, hws⟩
        refine ⟨rest.length, Nat.lt_succ_self _, done ++ [q], rest, g', pm', v4', v5', zs ++ ((ws.length : Nat) : Int) :: ws, by rw [eq, List.append_assoc]; rfl, rfl, rfl, S2, kp2, hl2, nb, nm, ?_, ?_⟩
        · rw [eo, FM.outs_cons an, List.append_assoc]
        · rw [List.length_append, List.length_append]
          show zs.length + (ws.length + 1) ≤ 1100 * (done.length + 1)
          omega
      · -- length = call_length(calls, at)
        rw [e2] at hS'
        refine ⟨_, rfl, _, rfl, a, encs done, encs rest, q, rfl, hS', ?_⟩
        -- row = answer(session, calls[at:at + length])
        refine ⟨_, rfl, _, rfl, _, rfl, _, rfl, _, rfl, _, rfl, _, _, rfl, rfl, _, rfl, a, _, rfl, hS', fun n hn => ?_⟩
        have ec : cutV ((encs done ++ (enc q ++ encs rest)).map V.int) (some ((encs done).length : Int)) (some (((encs done).length : Int) + ((enc q).length : Int))) = (enc q).map V.int := by
          have e := cut_mid ((encs done).map V.int) ((enc q).map V.int) ((encs rest).map V.int)
          rw [List.length_map, List.length_map, ← List.map_append, ← List.map_append, Int.natCast_add] at e
          exact e
        rw [ec]
        have s3 := same_new (o := .lst ((enc q).map V.int)) hn
        refine ⟨p, ph, pb, pm, n, g, q, rfl, S.same s3, upd_same, by omega, fun H2 pm' g' ws D an hws S2 c f nD hD => ?_⟩
        have nlp := S.of_pc hl'
        have l2 : H2 l = some (.lst (zs.map V.int)) := f _ _ (s3 _ _ hl') nlp n1 n2
        have nlD : l ≠ D := nD _ _ (s3 _ _ hl') nlp n1 n2
        have nlm' : l ≠ pm' := by
          rcases c with c | c
          · rw [c]; exact n2
          · exact ne_of_none (s3 _ _ hl') c
        have kp2 := (kp.same s3).call c f
        -- given.append(len(row))
        refine ⟨_, rfl, .inl ⟨rfl, _, SqL.of l2⟩, _, rfl, D, _, rfl, .inl (SqL.of hD), l, _, _, rfl, rfl, l2, (by rw [List.length_map, sizeLine_eq]; omega), ?_⟩
        -- given.extend(row)
        refine ⟨_, rfl, .inl ⟨rfl, _, SqL.of upd_same⟩, _, rfl, l, D, _, _, rfl, rfl, upd_same, (by rw [upd_ne (Ne.symm nlD)]; exact hD), (by rw [List.length_append, List.length_map, List.length_map]; show zs.length + 1 + ws.length ≤ sizeLine; rw [sizeLine_eq]; omega), ?_⟩
        -- at += length
        refine ⟨_, rfl, _, rfl, _, _, rfl, rfl, ?_⟩
        refine ⟨g', pm', some (.int ((enc q).length : Int)), some (.ref D), ws, ?_, (S2.upd l2 n1 nlm').upd upd_same n1 nlm', fun b o e => ?_, ?_, n1, nlm', an, hws⟩
        · rw [FM.encs_append, List.length_append, Int.natCast_add]
          show _ = [some (V.ref a), some (V.ref p), some (V.ref l), some (V.int (((encs done).length : Int) + ((enc q ++ []).length : Nat))), _, _]
          rw [List.append_nil]
          rfl
        · obtain ⟨q1, q2⟩ := kp2 b o e
          refine ⟨?_, q2⟩
          have nbl : b ≠ l := by
            rintro rfl
            exact absurd (s1 _ _ e) (by rw [hl]; intro z; cases z)
          rw [upd_ne nbl, upd_ne nbl]
          exact q1
        · rw [upd_same, List.map_append, List.map_cons, List.length_map, List.append_assoc]
          rfl
end
end FP
set_option Elab.async false
set_option linter.all false
set_option maxRecDepth 100000
set_option maxHeartbeats 8000000
namespace FP
open PySem PySem.Spec PyProof.Rows L2 FX
open PySem.W (Codec)
theorem all_mk {P : Program} {w : World} {K : PySem.W.Frag} {h : Heap} {mg : Str → Option Value} {fa CH CS fHI fHC fHH fHL fHA fHB fAG fAW fTL fTT fIN fOU fSH fBE fGR fWO fSI fSA fSC fSB fST fSM fSU fSL fSE fSX fSN fSP fSR fLN fON fAN fTP a_LENGTHS : Addr}
    {ocHI kVHI dcHI pmHI cdHI ctHI ocHC kVHC dcHC pmHC cdHC ctHC ocHH kVHH dcHH pmHH cdHH ctHH ocHL kVHL dcHL pmHL cdHL ctHL ocHA kVHA dcHA pmHA cdHA ctHA ocHB kVHB dcHB pmHB cdHB ctHB ocAG kVAG dcAG pmAG cdAG ctAG ocAW kVAW dcAW pmAW cdAW ctAW ocTL kVTL dcTL pmTL cdTL ctTL ocTT kVTT dcTT pmTT cdTT ctTT ocIN kVIN dcIN pmIN cdIN ctIN ocOU kVOU dcOU pmOU cdOU ctOU ocSH kVSH dcSH pmSH cdSH ctSH ocBE kVBE dcBE pmBE cdBE ctBE ocGR kVGR dcGR pmGR cdGR ctGR ocWO kVWO dcWO pmWO cdWO ctWO ocSI kVSI dcSI pmSI cdSI ctSI ocSA kVSA dcSA pmSA cdSA ctSA ocSC kVSC dcSC pmSC cdSC ctSC ocSB kVSB dcSB pmSB cdSB ctSB ocST kVST dcST pmST cdST ctST ocSM kVSM dcSM pmSM cdSM ctSM ocSU kVSU dcSU pmSU cdSU ctSU ocSL kVSL dcSL pmSL cdSL ctSL ocSE kVSE dcSE pmSE cdSE ctSE ocSX kVSX dcSX pmSX cdSX ctSX ocSN kVSN dcSN pmSN cdSN ctSN ocSP kVSP dcSP pmSP cdSP ctSP ocSR kVSR dcSR pmSR cdSR ctSR ocLN kVLN dcLN pmLN cdLN ctLN ocON kVON dcON pmON cdON ctON ocAN kVAN dcAN pmAN cdAN ctAN ocTP kVTP dcTP pmTP cdTP ctTP : Value} {odHI anHI odHC anHC odHH anHH odHL anHL odHA anHA odHB anHB odAG anAG odAW anAW odTL anTL odTT anTT odIN anIN odOU anOU odSH anSH odBE anBE odGR anGR odWO anWO odSI anSI odSA anSA odSC anSC odSB anSB odST anST odSM anSM odSU anSU odSL anSL odSE anSE odSX anSX odSN anSN odSP anSP odSR anSR odLN anLN odON anON odAN anAN odTP anTP : Option Addr} {slHI slHC slHH slHL slHA slHB slAG slAW slTL slTT slIN slOU slSH slBE slGR slWO slSI slSA slSC slSB slST slSM slSU slSL slSE slSX slSN slSP slSR slLN slON slAN slTP : Array (Option Value)} {tGOOD tBAD tSKIPPED tMOST_PARENTS tMOST_CHANGES tMOST_MARKS tUNKNOWN tFULL tNO_SEARCH tNOBODY_LEFT tFOUND tNOT_PARTED tADD tCOUNT tBEFORE tSTART tMARK tUNDO tLEFT tLIST tNEXT tSPLIT : Tok} {oLENGTHS : Obj} {esLENGTHS : Array DictEntry} {epLENGTHS : Nat}
    (X : K.In h) (G : h.Ns mainGlobals mg) (hfa : mg "answers" = some (.ref fa))
    (aCH : PySem.W.nsIn K mainGlobals "History" = some (some (.ref CH)))
    (pgCH : PySem.W.plainGet K CH Str.empty = true)
    (hdCH : PySem.W.hasDictIn K CH = true)
    (poCH : PySem.W.plainOver K CH = true)
    (saCH : PySem.W.findIn K (.ref CH) "__setattr__" = some (some (.builtin "object.__setattr__")))
    (mkCH : PySem.W.makesIn K CH = true)
    (kcCH : PySem.W.keepIn K (.ref CH) = true)
    (nCHbefores : PySem.W.findIn K (.ref CH) "befores" = some none)
    (aCS : PySem.W.nsIn K mainGlobals "Session" = some (some (.ref CS)))
    (pgCS : PySem.W.plainGet K CS Str.empty = true)
    (hdCS : PySem.W.hasDictIn K CS = true)
    (poCS : PySem.W.plainOver K CS = true)
    (saCS : PySem.W.findIn K (.ref CS) "__setattr__" = some (some (.builtin "object.__setattr__")))
    (mkCS : PySem.W.makesIn K CS = true)
    (kcCS : PySem.W.keepIn K (.ref CS) = true)
    (nCShistory : PySem.W.findIn K (.ref CS) "history" = some none)
    (nCSbad : PySem.W.findIn K (.ref CS) "bad" = some none)
    (nCSmarks : PySem.W.findIn K (.ref CS) "marks" = some none)
    (aHI : PySem.W.findIn K (.ref CH) "__init__" = some (some (.ref fHI)))
    (iHI : PySem.W.isFn K (.ref fHI) = true)
    (lHI : K.lookup fHI = some ⟨ocHI, odHI, .func (PySem.W.fnOf "__init__" "History.__init__" (defArgs sHInit) (defBody sHInit) (defScope sHInit) .none kVHI dcHI pmHI anHI cdHI ctHI), slHI⟩)
    (cHI : PySem.W.codeIn K cdHI "History.__init__" = true)
    (kHI : PySem.W.keepIn K (.ref fHI) = true)
    (aHC : PySem.W.findIn K (.ref CH) "count" = some (some (.ref fHC)))
    (iHC : PySem.W.isFn K (.ref fHC) = true)
    (lHC : K.lookup fHC = some ⟨ocHC, odHC, .func (PySem.W.fnOf "count" "History.count" (defArgs sHCount) (defBody sHCount) (defScope sHCount) .none kVHC dcHC pmHC anHC cdHC ctHC), slHC⟩)
    (cHC : PySem.W.codeIn K cdHC "History.count" = true)
    (kHC : PySem.W.keepIn K (.ref fHC) = true)
    (aHH : PySem.W.findIn K (.ref CH) "has" = some (some (.ref fHH)))
    (iHH : PySem.W.isFn K (.ref fHH) = true)
    (lHH : K.lookup fHH = some ⟨ocHH, odHH, .func (PySem.W.fnOf "has" "History.has" (defArgs sHHas) (defBody sHHas) (defScope sHHas) .none kVHH dcHH pmHH anHH cdHH ctHH), slHH⟩)
    (cHH : PySem.W.codeIn K cdHH "History.has" = true)
    (kHH : PySem.W.keepIn K (.ref fHH) = true)
    (aHL : PySem.W.findIn K (.ref CH) "has_all" = some (some (.ref fHL)))
    (iHL : PySem.W.isFn K (.ref fHL) = true)
    (lHL : K.lookup fHL = some ⟨ocHL, odHL, .func (PySem.W.fnOf "has_all" "History.has_all" (defArgs sHAll) (defBody sHAll) (defScope sHAll) .none kVHL dcHL pmHL anHL cdHL ctHL), slHL⟩)
    (cHL : PySem.W.codeIn K cdHL "History.has_all" = true)
    (kHL : PySem.W.keepIn K (.ref fHL) = true)
    (aHA : PySem.W.findIn K (.ref CH) "add" = some (some (.ref fHA)))
    (iHA : PySem.W.isFn K (.ref fHA) = true)
    (lHA : K.lookup fHA = some ⟨ocHA, odHA, .func (PySem.W.fnOf "add" "History.add" (defArgs sHAdd) (defBody sHAdd) (defScope sHAdd) .none kVHA dcHA pmHA anHA cdHA ctHA), slHA⟩)
    (cHA : PySem.W.codeIn K cdHA "History.add" = true)
    (kHA : PySem.W.keepIn K (.ref fHA) = true)
    (aHB : PySem.W.findIn K (.ref CH) "before" = some (some (.ref fHB)))
    (iHB : PySem.W.isFn K (.ref fHB) = true)
    (lHB : K.lookup fHB = some ⟨ocHB, odHB, .func (PySem.W.fnOf "before" "History.before" (defArgs sHBef) (defBody sHBef) (defScope sHBef) .none kVHB dcHB pmHB anHB cdHB ctHB), slHB⟩)
    (cHB : PySem.W.codeIn K cdHB "History.before" = true)
    (kHB : PySem.W.keepIn K (.ref fHB) = true)
    (aAG : PySem.W.nsIn K mainGlobals "agrees" = some (some (.ref fAG)))
    (lAG : K.lookup fAG = some ⟨ocAG, odAG, .func (PySem.W.fnOf "agrees" "agrees" (defArgs sAgr) (defBody sAgr) (defScope sAgr) .none kVAG dcAG pmAG anAG cdAG ctAG), slAG⟩)
    (cAG : PySem.W.codeIn K cdAG "agrees" = true)
    (kAG : PySem.W.keepIn K (.ref fAG) = true)
    (aAW : PySem.W.nsIn K mainGlobals "agrees_with_all" = some (some (.ref fAW)))
    (lAW : K.lookup fAW = some ⟨ocAW, odAW, .func (PySem.W.fnOf "agrees_with_all" "agrees_with_all" (defArgs sAll) (defBody sAll) (defScope sAll) .none kVAW dcAW pmAW anAW cdAW ctAW), slAW⟩)
    (cAW : PySem.W.codeIn K cdAW "agrees_with_all" = true)
    (kAW : PySem.W.keepIn K (.ref fAW) = true)
    (aTL : PySem.W.nsIn K mainGlobals "those_left" = some (some (.ref fTL)))
    (lTL : K.lookup fTL = some ⟨ocTL, odTL, .func (PySem.W.fnOf "those_left" "those_left" (defArgs sLeft) (defBody sLeft) (defScope sLeft) .none kVTL dcTL pmTL anTL cdTL ctTL), slTL⟩)
    (cTL : PySem.W.codeIn K cdTL "those_left" = true)
    (kTL : PySem.W.keepIn K (.ref fTL) = true)
    (aTT : PySem.W.nsIn K mainGlobals "those_to_try" = some (some (.ref fTT)))
    (lTT : K.lookup fTT = some ⟨ocTT, odTT, .func (PySem.W.fnOf "those_to_try" "those_to_try" (defArgs sToTry) (defBody sToTry) (defScope sToTry) .none kVTT dcTT pmTT anTT cdTT ctTT), slTT⟩)
    (cTT : PySem.W.codeIn K cdTT "those_to_try" = true)
    (kTT : PySem.W.keepIn K (.ref fTT) = true)
    (aIN : PySem.W.nsIn K mainGlobals "those_before" = some (some (.ref fIN)))
    (lIN : K.lookup fIN = some ⟨ocIN, odIN, .func (PySem.W.fnOf "those_before" "those_before" (defArgs sIns) (defBody sIns) (defScope sIns) .none kVIN dcIN pmIN anIN cdIN ctIN), slIN⟩)
    (cIN : PySem.W.codeIn K cdIN "those_before" = true)
    (kIN : PySem.W.keepIn K (.ref fIN) = true)
    (aOU : PySem.W.nsIn K mainGlobals "those_not_before" = some (some (.ref fOU)))
    (lOU : K.lookup fOU = some ⟨ocOU, odOU, .func (PySem.W.fnOf "those_not_before" "those_not_before" (defArgs sOut) (defBody sOut) (defScope sOut) .none kVOU dcOU pmOU anOU cdOU ctOU), slOU⟩)
    (cOU : PySem.W.codeIn K cdOU "those_not_before" = true)
    (kOU : PySem.W.keepIn K (.ref fOU) = true)
    (aSH : PySem.W.nsIn K mainGlobals "share" = some (some (.ref fSH)))
    (lSH : K.lookup fSH = some ⟨ocSH, odSH, .func (PySem.W.fnOf "share" "share" (defArgs sShare) (defBody sShare) (defScope sShare) .none kVSH dcSH pmSH anSH cdSH ctSH), slSH⟩)
    (cSH : PySem.W.codeIn K cdSH "share" = true)
    (kSH : PySem.W.keepIn K (.ref fSH) = true)
    (aBE : PySem.W.nsIn K mainGlobals "best_try" = some (some (.ref fBE)))
    (lBE : K.lookup fBE = some ⟨ocBE, odBE, .func (PySem.W.fnOf "best_try" "best_try" (defArgs sBest) (defBody sBest) (defScope sBest) .none kVBE dcBE pmBE anBE cdBE ctBE), slBE⟩)
    (cBE : PySem.W.codeIn K cdBE "best_try" = true)
    (kBE : PySem.W.keepIn K (.ref fBE) = true)
    (aGR : PySem.W.nsIn K mainGlobals "groups_after_a_try" = some (some (.ref fGR)))
    (lGR : K.lookup fGR = some ⟨ocGR, odGR, .func (PySem.W.fnOf "groups_after_a_try" "groups_after_a_try" (defArgs sGrp) (defBody sGrp) (defScope sGrp) .none kVGR dcGR pmGR anGR cdGR ctGR), slGR⟩)
    (cGR : PySem.W.codeIn K cdGR "groups_after_a_try" = true)
    (kGR : PySem.W.keepIn K (.ref fGR) = true)
    (aWO : PySem.W.nsIn K mainGlobals "tries_at_worst" = some (some (.ref fWO)))
    (lWO : K.lookup fWO = some ⟨ocWO, odWO, .func (PySem.W.fnOf "tries_at_worst" "tries_at_worst" (defArgs sWorst) (defBody sWorst) (defScope sWorst) .none kVWO dcWO pmWO anWO cdWO ctWO), slWO⟩)
    (cWO : PySem.W.codeIn K cdWO "tries_at_worst" = true)
    (kWO : PySem.W.keepIn K (.ref fWO) = true)
    (aSI : PySem.W.findIn K (.ref CS) "__init__" = some (some (.ref fSI)))
    (iSI : PySem.W.isFn K (.ref fSI) = true)
    (lSI : K.lookup fSI = some ⟨ocSI, odSI, .func (PySem.W.fnOf "__init__" "Session.__init__" (defArgs sSInit) (defBody sSInit) (defScope sSInit) .none kVSI dcSI pmSI anSI cdSI ctSI), slSI⟩)
    (cSI : PySem.W.codeIn K cdSI "Session.__init__" = true)
    (kSI : PySem.W.keepIn K (.ref fSI) = true)
    (aSA : PySem.W.findIn K (.ref CS) "add" = some (some (.ref fSA)))
    (iSA : PySem.W.isFn K (.ref fSA) = true)
    (lSA : K.lookup fSA = some ⟨ocSA, odSA, .func (PySem.W.fnOf "add" "Session.add" (defArgs sSAdd) (defBody sSAdd) (defScope sSAdd) .none kVSA dcSA pmSA anSA cdSA ctSA), slSA⟩)
    (cSA : PySem.W.codeIn K cdSA "Session.add" = true)
    (kSA : PySem.W.keepIn K (.ref fSA) = true)
    (aSC : PySem.W.findIn K (.ref CS) "count" = some (some (.ref fSC)))
    (iSC : PySem.W.isFn K (.ref fSC) = true)
    (lSC : K.lookup fSC = some ⟨ocSC, odSC, .func (PySem.W.fnOf "count" "Session.count" (defArgs sSCount) (defBody sSCount) (defScope sSCount) .none kVSC dcSC pmSC anSC cdSC ctSC), slSC⟩)
    (cSC : PySem.W.codeIn K cdSC "Session.count" = true)
    (kSC : PySem.W.keepIn K (.ref fSC) = true)
    (aSB : PySem.W.findIn K (.ref CS) "before" = some (some (.ref fSB)))
    (iSB : PySem.W.isFn K (.ref fSB) = true)
    (lSB : K.lookup fSB = some ⟨ocSB, odSB, .func (PySem.W.fnOf "before" "Session.before" (defArgs sSBef) (defBody sSBef) (defScope sSBef) .none kVSB dcSB pmSB anSB cdSB ctSB), slSB⟩)
    (cSB : PySem.W.codeIn K cdSB "Session.before" = true)
    (kSB : PySem.W.keepIn K (.ref fSB) = true)
    (aST : PySem.W.findIn K (.ref CS) "start" = some (some (.ref fST)))
    (iST : PySem.W.isFn K (.ref fST) = true)
    (lST : K.lookup fST = some ⟨ocST, odST, .func (PySem.W.fnOf "start" "Session.start" (defArgs sSStart) (defBody sSStart) (defScope sSStart) .none kVST dcST pmST anST cdST ctST), slST⟩)
    (cST : PySem.W.codeIn K cdST "Session.start" = true)
    (kST : PySem.W.keepIn K (.ref fST) = true)
    (aSM : PySem.W.findIn K (.ref CS) "mark" = some (some (.ref fSM)))
    (iSM : PySem.W.isFn K (.ref fSM) = true)
    (lSM : K.lookup fSM = some ⟨ocSM, odSM, .func (PySem.W.fnOf "mark" "Session.mark" (defArgs sSMark) (defBody sSMark) (defScope sSMark) .none kVSM dcSM pmSM anSM cdSM ctSM), slSM⟩)
    (cSM : PySem.W.codeIn K cdSM "Session.mark" = true)
    (kSM : PySem.W.keepIn K (.ref fSM) = true)
    (aSU : PySem.W.findIn K (.ref CS) "undo" = some (some (.ref fSU)))
    (iSU : PySem.W.isFn K (.ref fSU) = true)
    (lSU : K.lookup fSU = some ⟨ocSU, odSU, .func (PySem.W.fnOf "undo" "Session.undo" (defArgs sSUndo) (defBody sSUndo) (defScope sSUndo) .none kVSU dcSU pmSU anSU cdSU ctSU), slSU⟩)
    (cSU : PySem.W.codeIn K cdSU "Session.undo" = true)
    (kSU : PySem.W.keepIn K (.ref fSU) = true)
    (aSL : PySem.W.findIn K (.ref CS) "all_left" = some (some (.ref fSL)))
    (iSL : PySem.W.isFn K (.ref fSL) = true)
    (lSL : K.lookup fSL = some ⟨ocSL, odSL, .func (PySem.W.fnOf "all_left" "Session.all_left" (defArgs sSAll) (defBody sSAll) (defScope sSAll) .none kVSL dcSL pmSL anSL cdSL ctSL), slSL⟩)
    (cSL : PySem.W.codeIn K cdSL "Session.all_left" = true)
    (kSL : PySem.W.keepIn K (.ref fSL) = true)
    (aSE : PySem.W.findIn K (.ref CS) "left" = some (some (.ref fSE)))
    (iSE : PySem.W.isFn K (.ref fSE) = true)
    (lSE : K.lookup fSE = some ⟨ocSE, odSE, .func (PySem.W.fnOf "left" "Session.left" (defArgs sSLeft) (defBody sSLeft) (defScope sSLeft) .none kVSE dcSE pmSE anSE cdSE ctSE), slSE⟩)
    (cSE : PySem.W.codeIn K cdSE "Session.left" = true)
    (kSE : PySem.W.keepIn K (.ref fSE) = true)
    (aSX : PySem.W.findIn K (.ref CS) "listed" = some (some (.ref fSX)))
    (iSX : PySem.W.isFn K (.ref fSX) = true)
    (lSX : K.lookup fSX = some ⟨ocSX, odSX, .func (PySem.W.fnOf "listed" "Session.listed" (defArgs sSList) (defBody sSList) (defScope sSList) .none kVSX dcSX pmSX anSX cdSX ctSX), slSX⟩)
    (cSX : PySem.W.codeIn K cdSX "Session.listed" = true)
    (kSX : PySem.W.keepIn K (.ref fSX) = true)
    (aSN : PySem.W.findIn K (.ref CS) "next_try" = some (some (.ref fSN)))
    (iSN : PySem.W.isFn K (.ref fSN) = true)
    (lSN : K.lookup fSN = some ⟨ocSN, odSN, .func (PySem.W.fnOf "next_try" "Session.next_try" (defArgs sSNext) (defBody sSNext) (defScope sSNext) .none kVSN dcSN pmSN anSN cdSN ctSN), slSN⟩)
    (cSN : PySem.W.codeIn K cdSN "Session.next_try" = true)
    (kSN : PySem.W.keepIn K (.ref fSN) = true)
    (aSP : PySem.W.findIn K (.ref CS) "split" = some (some (.ref fSP)))
    (iSP : PySem.W.isFn K (.ref fSP) = true)
    (lSP : K.lookup fSP = some ⟨ocSP, odSP, .func (PySem.W.fnOf "split" "Session.split" (defArgs sSSplit) (defBody sSSplit) (defScope sSSplit) .none kVSP dcSP pmSP anSP cdSP ctSP), slSP⟩)
    (cSP : PySem.W.codeIn K cdSP "Session.split" = true)
    (kSP : PySem.W.keepIn K (.ref fSP) = true)
    (aSR : PySem.W.findIn K (.ref CS) "rest" = some (some (.ref fSR)))
    (iSR : PySem.W.isFn K (.ref fSR) = true)
    (lSR : K.lookup fSR = some ⟨ocSR, odSR, .func (PySem.W.fnOf "rest" "Session.rest" (defArgs sSRest) (defBody sSRest) (defScope sSRest) .none kVSR dcSR pmSR anSR cdSR ctSR), slSR⟩)
    (cSR : PySem.W.codeIn K cdSR "Session.rest" = true)
    (kSR : PySem.W.keepIn K (.ref fSR) = true)
    (aLN : PySem.W.nsIn K mainGlobals "call_length" = some (some (.ref fLN)))
    (lLN : K.lookup fLN = some ⟨ocLN, odLN, .func (PySem.W.fnOf "call_length" "call_length" (defArgs sLen) (defBody sLen) (defScope sLen) .none kVLN dcLN pmLN anLN cdLN ctLN), slLN⟩)
    (cLN : PySem.W.codeIn K cdLN "call_length" = true)
    (kLN : PySem.W.keepIn K (.ref fLN) = true)
    (aON : PySem.W.nsIn K mainGlobals "one_number" = some (some (.ref fON)))
    (lON : K.lookup fON = some ⟨ocON, odON, .func (PySem.W.fnOf "one_number" "one_number" (defArgs sOne) (defBody sOne) (defScope sOne) .none kVON dcON pmON anON cdON ctON), slON⟩)
    (cON : PySem.W.codeIn K cdON "one_number" = true)
    (kON : PySem.W.keepIn K (.ref fON) = true)
    (aAN : PySem.W.nsIn K mainGlobals "answer" = some (some (.ref fAN)))
    (lAN : K.lookup fAN = some ⟨ocAN, odAN, .func (PySem.W.fnOf "answer" "answer" (defArgs sAns) (defBody sAns) (defScope sAns) .none kVAN dcAN pmAN anAN cdAN ctAN), slAN⟩)
    (cAN : PySem.W.codeIn K cdAN "answer" = true)
    (kAN : PySem.W.keepIn K (.ref fAN) = true)
    (aTP : PySem.W.nsIn K mainGlobals "answers" = some (some (.ref fTP)))
    (lTP : K.lookup fTP = some ⟨ocTP, odTP, .func (PySem.W.fnOf "answers" "answers" (defArgs sTop) (defBody sTop) (defScope sTop) .none kVTP dcTP pmTP anTP cdTP ctTP), slTP⟩)
    (cTP : PySem.W.codeIn K cdTP "answers" = true)
    (kTP : PySem.W.keepIn K (.ref fTP) = true)
    (aGOOD : PySem.W.nsIn K mainGlobals "GOOD" = some (some (.int 0 tGOOD)))
    (aBAD : PySem.W.nsIn K mainGlobals "BAD" = some (some (.int 1 tBAD)))
    (aSKIPPED : PySem.W.nsIn K mainGlobals "SKIPPED" = some (some (.int 2 tSKIPPED)))
    (aMOST_PARENTS : PySem.W.nsIn K mainGlobals "MOST_PARENTS" = some (some (.int 4 tMOST_PARENTS)))
    (aMOST_CHANGES : PySem.W.nsIn K mainGlobals "MOST_CHANGES" = some (some (.int 512 tMOST_CHANGES)))
    (aMOST_MARKS : PySem.W.nsIn K mainGlobals "MOST_MARKS" = some (some (.int 1024 tMOST_MARKS)))
    (aUNKNOWN : PySem.W.nsIn K mainGlobals "UNKNOWN" = some (some (.int (-1) tUNKNOWN)))
    (aFULL : PySem.W.nsIn K mainGlobals "FULL" = some (some (.int (-2) tFULL)))
    (aNO_SEARCH : PySem.W.nsIn K mainGlobals "NO_SEARCH" = some (some (.int (-3) tNO_SEARCH)))
    (aNOBODY_LEFT : PySem.W.nsIn K mainGlobals "NOBODY_LEFT" = some (some (.int (-4) tNOBODY_LEFT)))
    (aFOUND : PySem.W.nsIn K mainGlobals "FOUND" = some (some (.int (-6) tFOUND)))
    (aNOT_PARTED : PySem.W.nsIn K mainGlobals "NOT_PARTED" = some (some (.int (-7) tNOT_PARTED)))
    (aADD : PySem.W.nsIn K mainGlobals "ADD" = some (some (.int 0 tADD)))
    (aCOUNT : PySem.W.nsIn K mainGlobals "COUNT" = some (some (.int 1 tCOUNT)))
    (aBEFORE : PySem.W.nsIn K mainGlobals "BEFORE" = some (some (.int 2 tBEFORE)))
    (aSTART : PySem.W.nsIn K mainGlobals "START" = some (some (.int 3 tSTART)))
    (aMARK : PySem.W.nsIn K mainGlobals "MARK" = some (some (.int 4 tMARK)))
    (aUNDO : PySem.W.nsIn K mainGlobals "UNDO" = some (some (.int 5 tUNDO)))
    (aLEFT : PySem.W.nsIn K mainGlobals "LEFT" = some (some (.int 6 tLEFT)))
    (aLIST : PySem.W.nsIn K mainGlobals "LIST" = some (some (.int 7 tLIST)))
    (aNEXT : PySem.W.nsIn K mainGlobals "NEXT" = some (some (.int 8 tNEXT)))
    (aSPLIT : PySem.W.nsIn K mainGlobals "SPLIT" = some (some (.int 9 tSPLIT)))
    (alen : PySem.W.nsIn K mainGlobals "len" = some none)
    (aall : PySem.W.nsIn K mainGlobals "all" = some none)
    (arange : PySem.W.nsIn K mainGlobals "range" = some none)
    (amin : PySem.W.nsIn K mainGlobals "min" = some none)
    (aLENGTHS : PySem.W.nsIn K mainGlobals "LENGTHS" = some (some (.ref a_LENGTHS)))
    (bLENGTHS : K.lookup a_LENGTHS = some oLENGTHS)
    (d0LENGTHS : oLENGTHS.cls = .type "dict")
    (d1LENGTHS : oLENGTHS.dict = none)
    (d2LENGTHS : oLENGTHS.slots = #[])
    (d3LENGTHS : oLENGTHS.data = .dict esLENGTHS epLENGTHS)
    (d4LENGTHS : entsI esLENGTHS.toList = some lens)
    : ∃ fd : FuncData, (∀ (s : Shared) (us : List Value), us.length = (["calls"] : List Str).length → BindsTo s fd ⟨us, []⟩ ((["calls"] : List Str).zip us)) ∧ ∀ base : Heap, K.In base → base.Ns mainGlobals mg → FnOk P w K mg base CX0 10 fa fd (["calls"] : List Str) (spTop1 K) := by
  have e := hfa.symm.trans (PySem.W.mg_of X G aTP)
  cases e
  have FHI := fun_mk (st := sHInit) lHI cHI kHI
  have BHI := FHI.binds (ps := ["self"]) fun _ _ _ _ _ _ us hl => match us, hl with | [_], _ => rfl
  have MCH : Mk K CH fHI := ⟨mkCH, aHI, iHI, kcCH⟩
  have FHC := fun_mk (st := sHCount) lHC cHC kHC
  have BHC := FHC.binds (ps := ["self"]) fun _ _ _ _ _ _ us hl => match us, hl with | [_], _ => rfl
  have MHC : Meth K CH "count" fHC := ⟨aHC, iHC, kHC⟩
  have FHH := fun_mk (st := sHHas) lHH cHH kHH
  have BHH := FHH.binds (ps := ["self", "change"]) fun _ _ _ _ _ _ us hl => match us, hl with | [_, _], _ => rfl
  have MHH : Meth K CH "has" fHH := ⟨aHH, iHH, kHH⟩
  have FHL := fun_mk (st := sHAll) lHL cHL kHL
  have BHL := FHL.binds (ps := ["self", "changes"]) fun _ _ _ _ _ _ us hl => match us, hl with | [_, _], _ => rfl
  have MHL : Meth K CH "has_all" fHL := ⟨aHL, iHL, kHL⟩
  have FHA := fun_mk (st := sHAdd) lHA cHA kHA
  have BHA := FHA.binds (ps := ["self", "parents"]) fun _ _ _ _ _ _ us hl => match us, hl with | [_, _], _ => rfl
  have MHA : Meth K CH "add" fHA := ⟨aHA, iHA, kHA⟩
  have FHB := fun_mk (st := sHBef) lHB cHB kHB
  have BHB := FHB.binds (ps := ["self", "a", "b"]) fun _ _ _ _ _ _ us hl => match us, hl with | [_, _, _], _ => rfl
  have MHB : Meth K CH "before" fHB := ⟨aHB, iHB, kHB⟩
  have FAG := fun_mk (st := sAgr) lAG cAG kAG
  have BAG := FAG.binds (ps := ["history", "change", "marked", "kind"]) fun _ _ _ _ _ _ us hl => match us, hl with | [_, _, _, _], _ => rfl
  have FAW := fun_mk (st := sAll) lAW cAW kAW
  have BAW := FAW.binds (ps := ["history", "change", "marks"]) fun _ _ _ _ _ _ us hl => match us, hl with | [_, _, _], _ => rfl
  have FTL := fun_mk (st := sLeft) lTL cTL kTL
  have BTL := FTL.binds (ps := ["history", "bad", "marks"]) fun _ _ _ _ _ _ us hl => match us, hl with | [_, _, _], _ => rfl
  have FTT := fun_mk (st := sToTry) lTT cTT kTT
  have BTT := FTT.binds (ps := ["history", "marks"]) fun _ _ _ _ _ _ us hl => match us, hl with | [_, _], _ => rfl
  have FIN := fun_mk (st := sIns) lIN cIN kIN
  have BIN := FIN.binds (ps := ["history", "remaining", "change"]) fun _ _ _ _ _ _ us hl => match us, hl with | [_, _, _], _ => rfl
  have FOU := fun_mk (st := sOut) lOU cOU kOU
  have BOU := FOU.binds (ps := ["history", "remaining", "change"]) fun _ _ _ _ _ _ us hl => match us, hl with | [_, _, _], _ => rfl
  have FSH := fun_mk (st := sShare) lSH cSH kSH
  have BSH := FSH.binds (ps := ["history", "remaining", "change"]) fun _ _ _ _ _ _ us hl => match us, hl with | [_, _, _], _ => rfl
  have FBE := fun_mk (st := sBest) lBE cBE kBE
  have BBE := FBE.binds (ps := ["history", "remaining", "choices"]) fun _ _ _ _ _ _ us hl => match us, hl with | [_, _, _], _ => rfl
  have FGR := fun_mk (st := sGrp) lGR cGR kGR
  have BGR := FGR.binds (ps := ["history", "groups", "choices"]) fun _ _ _ _ _ _ us hl => match us, hl with | [_, _, _], _ => rfl
  have FWO := fun_mk (st := sWorst) lWO cWO kWO
  have BWO := FWO.binds (ps := ["history", "remaining", "choices"]) fun _ _ _ _ _ _ us hl => match us, hl with | [_, _, _], _ => rfl
  have FSI := fun_mk (st := sSInit) lSI cSI kSI
  have BSI := FSI.binds (ps := ["self"]) fun _ _ _ _ _ _ us hl => match us, hl with | [_], _ => rfl
  have MCS : Mk K CS fSI := ⟨mkCS, aSI, iSI, kcCS⟩
  have FSA := fun_mk (st := sSAdd) lSA cSA kSA
  have BSA := FSA.binds (ps := ["self", "parents"]) fun _ _ _ _ _ _ us hl => match us, hl with | [_, _], _ => rfl
  have MSA : Meth K CS "add" fSA := ⟨aSA, iSA, kSA⟩
  have FSC := fun_mk (st := sSCount) lSC cSC kSC
  have BSC := FSC.binds (ps := ["self"]) fun _ _ _ _ _ _ us hl => match us, hl with | [_], _ => rfl
  have MSC : Meth K CS "count" fSC := ⟨aSC, iSC, kSC⟩
  have FSB := fun_mk (st := sSBef) lSB cSB kSB
  have BSB := FSB.binds (ps := ["self", "a", "b"]) fun _ _ _ _ _ _ us hl => match us, hl with | [_, _, _], _ => rfl
  have MSB : Meth K CS "before" fSB := ⟨aSB, iSB, kSB⟩
  have FST := fun_mk (st := sSStart) lST cST kST
  have BST := FST.binds (ps := ["self", "bad"]) fun _ _ _ _ _ _ us hl => match us, hl with | [_, _], _ => rfl
  have MST : Meth K CS "start" fST := ⟨aST, iST, kST⟩
  have FSM := fun_mk (st := sSMark) lSM cSM kSM
  have BSM := FSM.binds (ps := ["self", "change", "kind"]) fun _ _ _ _ _ _ us hl => match us, hl with | [_, _, _], _ => rfl
  have MSM : Meth K CS "mark" fSM := ⟨aSM, iSM, kSM⟩
  have FSU := fun_mk (st := sSUndo) lSU cSU kSU
  have BSU := FSU.binds (ps := ["self"]) fun _ _ _ _ _ _ us hl => match us, hl with | [_], _ => rfl
  have MSU : Meth K CS "undo" fSU := ⟨aSU, iSU, kSU⟩
  have FSL := fun_mk (st := sSAll) lSL cSL kSL
  have BSL := FSL.binds (ps := ["self"]) fun _ _ _ _ _ _ us hl => match us, hl with | [_], _ => rfl
  have MSL : Meth K CS "all_left" fSL := ⟨aSL, iSL, kSL⟩
  have FSE := fun_mk (st := sSLeft) lSE cSE kSE
  have BSE := FSE.binds (ps := ["self"]) fun _ _ _ _ _ _ us hl => match us, hl with | [_], _ => rfl
  have MSE : Meth K CS "left" fSE := ⟨aSE, iSE, kSE⟩
  have FSX := fun_mk (st := sSList) lSX cSX kSX
  have BSX := FSX.binds (ps := ["self"]) fun _ _ _ _ _ _ us hl => match us, hl with | [_], _ => rfl
  have MSX : Meth K CS "listed" fSX := ⟨aSX, iSX, kSX⟩
  have FSN := fun_mk (st := sSNext) lSN cSN kSN
  have BSN := FSN.binds (ps := ["self"]) fun _ _ _ _ _ _ us hl => match us, hl with | [_], _ => rfl
  have MSN : Meth K CS "next_try" fSN := ⟨aSN, iSN, kSN⟩
  have FSP := fun_mk (st := sSSplit) lSP cSP kSP
  have BSP := FSP.binds (ps := ["self", "change"]) fun _ _ _ _ _ _ us hl => match us, hl with | [_, _], _ => rfl
  have MSP : Meth K CS "split" fSP := ⟨aSP, iSP, kSP⟩
  have FSR := fun_mk (st := sSRest) lSR cSR kSR
  have BSR := FSR.binds (ps := ["self"]) fun _ _ _ _ _ _ us hl => match us, hl with | [_], _ => rfl
  have MSR : Meth K CS "rest" fSR := ⟨aSR, iSR, kSR⟩
  have FLN := fun_mk (st := sLen) lLN cLN kLN
  have BLN := FLN.binds (ps := ["calls", "at"]) fun _ _ _ _ _ _ us hl => match us, hl with | [_, _], _ => rfl
  have FON := fun_mk (st := sOne) lON cON kON
  have BON := FON.binds (ps := ["session", "call"]) fun _ _ _ _ _ _ us hl => match us, hl with | [_, _], _ => rfl
  have FAN := fun_mk (st := sAns) lAN cAN kAN
  have BAN := FAN.binds (ps := ["session", "call"]) fun _ _ _ _ _ _ us hl => match us, hl with | [_, _], _ => rfl
  have FTP := fun_mk (st := sTop) lTP cTP kTP
  have GGOOD : ∃ t, mg "GOOD" = some (.int 0 t) := ⟨_, PySem.W.mg_of X G aGOOD⟩
  have GBAD : ∃ t, mg "BAD" = some (.int 1 t) := ⟨_, PySem.W.mg_of X G aBAD⟩
  have GSKIPPED : ∃ t, mg "SKIPPED" = some (.int 2 t) := ⟨_, PySem.W.mg_of X G aSKIPPED⟩
  have GMOST_PARENTS : ∃ t, mg "MOST_PARENTS" = some (.int 4 t) := ⟨_, PySem.W.mg_of X G aMOST_PARENTS⟩
  have GMOST_CHANGES : ∃ t, mg "MOST_CHANGES" = some (.int 512 t) := ⟨_, PySem.W.mg_of X G aMOST_CHANGES⟩
  have GMOST_MARKS : ∃ t, mg "MOST_MARKS" = some (.int 1024 t) := ⟨_, PySem.W.mg_of X G aMOST_MARKS⟩
  have GUNKNOWN : ∃ t, mg "UNKNOWN" = some (.int (-1) t) := ⟨_, PySem.W.mg_of X G aUNKNOWN⟩
  have GFULL : ∃ t, mg "FULL" = some (.int (-2) t) := ⟨_, PySem.W.mg_of X G aFULL⟩
  have GNO_SEARCH : ∃ t, mg "NO_SEARCH" = some (.int (-3) t) := ⟨_, PySem.W.mg_of X G aNO_SEARCH⟩
  have GNOBODY_LEFT : ∃ t, mg "NOBODY_LEFT" = some (.int (-4) t) := ⟨_, PySem.W.mg_of X G aNOBODY_LEFT⟩
  have GFOUND : ∃ t, mg "FOUND" = some (.int (-6) t) := ⟨_, PySem.W.mg_of X G aFOUND⟩
  have GNOT_PARTED : ∃ t, mg "NOT_PARTED" = some (.int (-7) t) := ⟨_, PySem.W.mg_of X G aNOT_PARTED⟩
  have GADD : ∃ t, mg "ADD" = some (.int 0 t) := ⟨_, PySem.W.mg_of X G aADD⟩
  have GCOUNT : ∃ t, mg "COUNT" = some (.int 1 t) := ⟨_, PySem.W.mg_of X G aCOUNT⟩
  have GBEFORE : ∃ t, mg "BEFORE" = some (.int 2 t) := ⟨_, PySem.W.mg_of X G aBEFORE⟩
  have GSTART : ∃ t, mg "START" = some (.int 3 t) := ⟨_, PySem.W.mg_of X G aSTART⟩
  have GMARK : ∃ t, mg "MARK" = some (.int 4 t) := ⟨_, PySem.W.mg_of X G aMARK⟩
  have GUNDO : ∃ t, mg "UNDO" = some (.int 5 t) := ⟨_, PySem.W.mg_of X G aUNDO⟩
  have GLEFT : ∃ t, mg "LEFT" = some (.int 6 t) := ⟨_, PySem.W.mg_of X G aLEFT⟩
  have GLIST : ∃ t, mg "LIST" = some (.int 7 t) := ⟨_, PySem.W.mg_of X G aLIST⟩
  have GNEXT : ∃ t, mg "NEXT" = some (.int 8 t) := ⟨_, PySem.W.mg_of X G aNEXT⟩
  have GSPLIT : ∃ t, mg "SPLIT" = some (.int 9 t) := ⟨_, PySem.W.mg_of X G aSPLIT⟩
  have Nlen : mg "len" = none := PySem.W.mg_none_of X G alen
  have Nall : mg "all" = none := PySem.W.mg_none_of X G aall
  have Nrange : mg "range" = none := PySem.W.mg_none_of X G arange
  have Nmin : mg "min" = none := PySem.W.mg_none_of X G amin
  have CCH : Cls K CH := ⟨pgCH, hdCH, poCH, saCH⟩
  have GCH := PySem.W.mg_of X G aCH
  have CCS : Cls K CS := ⟨pgCS, hdCS, poCS, saCS⟩
  have GCS := PySem.W.mg_of X G aCS
  have GAG := PySem.W.mg_of X G aAG
  have GAW := PySem.W.mg_of X G aAW
  have GTL := PySem.W.mg_of X G aTL
  have GTT := PySem.W.mg_of X G aTT
  have GIN := PySem.W.mg_of X G aIN
  have GOU := PySem.W.mg_of X G aOU
  have GSH := PySem.W.mg_of X G aSH
  have GBE := PySem.W.mg_of X G aBE
  have GGR := PySem.W.mg_of X G aGR
  have GWO := PySem.W.mg_of X G aWO
  have GLN := PySem.W.mg_of X G aLN
  have GON := PySem.W.mg_of X G aON
  have GAN := PySem.W.mg_of X G aAN
  have GLENGTHS := PySem.W.mg_of X G aLENGTHS
  have DLENGTHS : KDict K a_LENGTHS lens := ⟨⟨oLENGTHS, esLENGTHS, epLENGTHS, bLENGTHS, d0LENGTHS, d1LENGTHS, d2LENGTHS, d3LENGTHS, d4LENGTHS⟩, by decide⟩
  have TH : TxH K mg CH := ⟨CCH, nCHbefores, Nlen, Nall, Nrange⟩
  have TL : TxL K mg CH fAG fAW := ⟨TH, GGOOD, GBAD, GAG, GAW⟩
  have TR : TxR K mg CH fIN fOU fSH fBE fGR := ⟨TH, Nmin, GIN, GOU, GSH, GBE, GGR⟩
  have TS : TxS K mg CS CH fTL := ⟨CCS, nCShistory, nCSbad, nCSmarks, CCH, Nlen, GCH, GTL, GSKIPPED, GMOST_PARENTS, GMOST_CHANGES, GMOST_MARKS, GUNKNOWN, GFULL, GNO_SEARCH, GNOBODY_LEFT⟩
  have TQ : TxT K mg CS CH fTL fTT fBE fIN fWO := ⟨TS, GTT, GBE, GIN, GWO, GFOUND, GNOT_PARTED⟩
  have TA : TxA K mg CS CH fTL fLN fON fAN a_LENGTHS := ⟨TS, GADD, GCOUNT, GBEFORE, GSTART, GMARK, GUNDO, GLEFT, GLIST, GNEXT, GSPLIT, GLENGTHS, DLENGTHS, GLN, GON, GAN, GCS⟩
  refine ⟨PySem.W.fnOf "answers" "answers" (defArgs sTop) (defBody sTop) (defScope sTop) .none kVTP dcTP pmTP anTP cdTP ctTP, fun s us hu => match us, hu with | [_], _ => .of_eq rfl, fun base _ _ => ?_⟩
  have OHI : FnOk P w K mg base CX0 1 _ _ _ _ := ok_hinit FHI TH
  have OHC : FnOk P w K mg base CX0 1 _ _ _ _ := ok_hcount FHC TH
  have OHH : FnOk P w K mg base CX0 1 _ _ _ _ := ok_hhas FHH TH
  have OHL : FnOk P w K mg base CX0 2 _ _ _ _ := ok_hall FHL TH FHH BHH MHH
  have OHA : FnOk P w K mg base CX0 1 _ _ _ _ := ok_hadd FHA TH
  have OHB : FnOk P w K mg base CX0 1 _ _ _ _ := ok_hbef FHB TH
  have OAG : FnOk P w K mg base CX0 2 _ _ _ _ := ok_agr FAG TL FHB BHB MHB
  have OAW : FnOk P w K mg base CX0 3 _ _ _ _ := ok_all FAW TL FAG BAG OAG
  have OTL : FnOk P w K mg base CX0 4 _ _ _ _ := ok_left FTL TL FAW BAW OAW FHC BHC MHC
  have OSI : FnOk P w K mg base CX0 3 _ _ _ _ := ok_sinit FSI TS MCH BHI OHI
  have OSA : FnOk P w K mg base CX0 3 _ _ _ _ := ok_sadd FSA TS BHL MHL OHL BHC MHC OHC BHA MHA OHA
  have OSC : FnOk P w K mg base CX0 2 _ _ _ _ := ok_scount FSC TS BHC MHC OHC
  have OSB : FnOk P w K mg base CX0 3 _ _ _ _ := ok_sbef FSB TS BHL MHL OHL BHB MHB OHB
  have OSM : FnOk P w K mg base CX0 5 _ _ _ _ := ok_smark FSM TS BHH MHH OHH kTL BTL OTL
  have OSU : FnOk P w K mg base CX0 1 _ _ _ _ := ok_sundo FSU TS
  have OTT : FnOk P w K mg base CX0 2 _ _ _ _ := ok_totry FTT TH GSKIPPED BHC MHC OHC
  have OIN : FnOk P w K mg base CX0 2 _ _ _ _ := ok_ins FIN TH BHB MHB OHB
  have OOU : FnOk P w K mg base CX0 2 _ _ _ _ := ok_out FOU TH BHB MHB OHB
  have OSH : FnOk P w K mg base CX0 3 _ _ _ _ := ok_share FSH TR kIN BIN OIN
  have OBE : FnOk P w K mg base CX0 4 _ _ _ _ := ok_best FBE TR kSH BSH OSH
  have OGR : FnOk P w K mg base CX0 5 _ _ _ _ := ok_grp FGR TR kIN BIN OIN kOU BOU OOU kBE BBE OBE
  have OWO : FnOk P w K mg base CX0 6 _ _ _ _ := ok_worst FWO TR kGR BGR OGR
  have OSL : FnOk P w K mg base CX0 5 _ _ _ _ := ok_sall FSL TS kTL BTL OTL
  have OSE : FnOk P w K mg base CX0 6 _ _ _ _ := ok_sleft FSE TS BSL MSL OSL
  have OSX : FnOk P w K mg base CX0 6 _ _ _ _ := ok_slist FSX TS BSL MSL OSL
  have OSN : FnOk P w K mg base CX0 6 _ _ _ _ := ok_snext FSN TQ BSL MSL OSL kTT BTT OTT kBE BBE OBE
  have OSP : FnOk P w K mg base CX0 6 _ _ _ _ := ok_ssplit FSP TQ BSL MSL OSL BHH MHH OHH kIN BIN OIN
  have OSR : FnOk P w K mg base CX0 7 _ _ _ _ := ok_srest FSR TQ BSL MSL OSL kTT BTT OTT kWO BWO OWO
  have OST : FnOk P w K mg base CX0 7 _ _ _ _ := ok_sstart FST TS BHH MHH OHH BSE MSE OSE
  have OLN : FnOk P w K mg base CX0 1 _ _ _ _ := ok_len FLN TA
  have OON : FnOk P w K mg base CX0 8 _ _ _ _ := ok_one FON TA BSA MSA OSA BSC MSC OSC BSB MSB OSB BST MST OST BSM MSM OSM BSU MSU OSU BSE MSE OSE BSN MSN OSN BSP MSP OSP BSR MSR OSR
  have OAN : FnOk P w K mg base CX0 9 _ _ _ _ := ok_ans FAN TA BSX MSX OSX kON BON OON
  exact ok_top FTP TA MCS BSI OSI kLN BLN OLN kAN BAN OAN
end FP
open PySem PySem.W PyProof.Rows
set_option maxRecDepth 100000 in
set_option maxHeartbeats 0 in
theorem PySem.Challenge.cw_firstbad_s01_answers_holds : PySem.Challenge.rw_firstbad_s01_answers.Holds := by
  w_on; k_headS; (case hw => exact ⟨[.list [.int 1]], by decide +kernel, by decide +kernel⟩)
  k_fillS
  refine L2.walk_specK (r := PySem.Challenge.rw_firstbad_s01_answers) (k := 10) (CX := L2.CX0) (ps := ["calls"]) (sp := FP.spTop1) (by decide +kernel) rfl rfl ⟨rfl, by decide, by decide⟩ (fun w h Y => PySem.W.kIn_of Y) ?F ?S (fun _ _ _ _ z => z)
  case F =>
    intro w mg fa h Y KX G hmg
    refine' FP.all_mk KX G hmg ?aCH ?pgCH ?hdCH ?poCH ?saCH ?mkCH ?kcCH ?nCHbefores ?aCS ?pgCS ?hdCS ?poCS ?saCS ?mkCS ?kcCS ?nCShistory ?nCSbad ?nCSmarks ?aHI ?iHI ?lHI ?cHI ?kHI ?aHC ?iHC ?lHC ?cHC ?kHC ?aHH ?iHH ?lHH ?cHH ?kHH ?aHL ?iHL ?lHL ?cHL ?kHL ?aHA ?iHA ?lHA ?cHA ?kHA ?aHB ?iHB ?lHB ?cHB ?kHB ?aAG ?lAG ?cAG ?kAG ?aAW ?lAW ?cAW ?kAW ?aTL ?lTL ?cTL ?kTL ?aTT ?lTT ?cTT ?kTT ?aIN ?lIN ?cIN ?kIN ?aOU ?lOU ?cOU ?kOU ?aSH ?lSH ?cSH ?kSH ?aBE ?lBE ?cBE ?kBE ?aGR ?lGR ?cGR ?kGR ?aWO ?lWO ?cWO ?kWO ?aSI ?iSI ?lSI ?cSI ?kSI ?aSA ?iSA ?lSA ?cSA ?kSA ?aSC ?iSC ?lSC ?cSC ?kSC ?aSB ?iSB ?lSB ?cSB ?kSB ?aST ?iST ?lST ?cST ?kST ?aSM ?iSM ?lSM ?cSM ?kSM ?aSU ?iSU ?lSU ?cSU ?kSU ?aSL ?iSL ?lSL ?cSL ?kSL ?aSE ?iSE ?lSE ?cSE ?kSE ?aSX ?iSX ?lSX ?cSX ?kSX ?aSN ?iSN ?lSN ?cSN ?kSN ?aSP ?iSP ?lSP ?cSP ?kSP ?aSR ?iSR ?lSR ?cSR ?kSR ?aLN ?lLN ?cLN ?kLN ?aON ?lON ?cON ?kON ?aAN ?lAN ?cAN ?kAN ?aTP ?lTP ?cTP ?kTP ?aGOOD ?aBAD ?aSKIPPED ?aMOST_PARENTS ?aMOST_CHANGES ?aMOST_MARKS ?aUNKNOWN ?aFULL ?aNO_SEARCH ?aNOBODY_LEFT ?aFOUND ?aNOT_PARTED ?aADD ?aCOUNT ?aBEFORE ?aSTART ?aMARK ?aUNDO ?aLEFT ?aLIST ?aNEXT ?aSPLIT ?alen ?aall ?arange ?amin ?aLENGTHS ?bLENGTHS ?d0LENGTHS ?d1LENGTHS ?d2LENGTHS ?d3LENGTHS ?d4LENGTHS
    (case aCH => k_is); (case pgCH => k_is); (case hdCH => k_is); (case poCH => k_is); (case saCH => k_is); (case mkCH => k_is)
    (case kcCH => k_is); (case nCHbefores => k_is); (case aCS => k_is); (case pgCS => k_is); (case hdCS => k_is); (case poCS => k_is)
    (case saCS => k_is); (case mkCS => k_is); (case kcCS => k_is); (case nCShistory => k_is); (case nCSbad => k_is); (case nCSmarks => k_is)
    (case aHI => k_is); (case iHI => k_is); (case lHI => k_is); (case cHI => k_is); (case kHI => k_is); (case aHC => k_is)
    (case iHC => k_is); (case lHC => k_is); (case cHC => k_is); (case kHC => k_is); (case aHH => k_is); (case iHH => k_is)
    (case lHH => k_is); (case cHH => k_is); (case kHH => k_is); (case aHL => k_is); (case iHL => k_is); (case lHL => k_is)
    (case cHL => k_is); (case kHL => k_is); (case aHA => k_is); (case iHA => k_is); (case lHA => k_is); (case cHA => k_is)
    (case kHA => k_is); (case aHB => k_is); (case iHB => k_is); (case lHB => k_is); (case cHB => k_is); (case kHB => k_is)
    (case aAG => k_is); (case lAG => k_is); (case cAG => k_is); (case kAG => k_is); (case aAW => k_is); (case lAW => k_is)
    (case cAW => k_is); (case kAW => k_is); (case aTL => k_is); (case lTL => k_is); (case cTL => k_is); (case kTL => k_is)
    (case aTT => k_is); (case lTT => k_is); (case cTT => k_is); (case kTT => k_is); (case aIN => k_is); (case lIN => k_is)
    (case cIN => k_is); (case kIN => k_is); (case aOU => k_is); (case lOU => k_is); (case cOU => k_is); (case kOU => k_is)
    (case aSH => k_is); (case lSH => k_is); (case cSH => k_is); (case kSH => k_is); (case aBE => k_is); (case lBE => k_is)
    (case cBE => k_is); (case kBE => k_is); (case aGR => k_is); (case lGR => k_is); (case cGR => k_is); (case kGR => k_is)
    (case aWO => k_is); (case lWO => k_is); (case cWO => k_is); (case kWO => k_is); (case aSI => k_is); (case iSI => k_is)
    (case lSI => k_is); (case cSI => k_is); (case kSI => k_is); (case aSA => k_is); (case iSA => k_is); (case lSA => k_is)
    (case cSA => k_is); (case kSA => k_is); (case aSC => k_is); (case iSC => k_is); (case lSC => k_is); (case cSC => k_is)
    (case kSC => k_is); (case aSB => k_is); (case iSB => k_is); (case lSB => k_is); (case cSB => k_is); (case kSB => k_is)
    (case aST => k_is); (case iST => k_is); (case lST => k_is); (case cST => k_is); (case kST => k_is); (case aSM => k_is)
    (case iSM => k_is); (case lSM => k_is); (case cSM => k_is); (case kSM => k_is); (case aSU => k_is); (case iSU => k_is)
    (case lSU => k_is); (case cSU => k_is); (case kSU => k_is); (case aSL => k_is); (case iSL => k_is); (case lSL => k_is)
    (case cSL => k_is); (case kSL => k_is); (case aSE => k_is); (case iSE => k_is); (case lSE => k_is); (case cSE => k_is)
    (case kSE => k_is); (case aSX => k_is); (case iSX => k_is); (case lSX => k_is); (case cSX => k_is); (case kSX => k_is)
    (case aSN => k_is); (case iSN => k_is); (case lSN => k_is); (case cSN => k_is); (case kSN => k_is); (case aSP => k_is)
    (case iSP => k_is); (case lSP => k_is); (case cSP => k_is); (case kSP => k_is); (case aSR => k_is); (case iSR => k_is)
    (case lSR => k_is); (case cSR => k_is); (case kSR => k_is); (case aLN => k_is); (case lLN => k_is); (case cLN => k_is)
    (case kLN => k_is); (case aON => k_is); (case lON => k_is); (case cON => k_is); (case kON => k_is); (case aAN => k_is)
    (case lAN => k_is); (case cAN => k_is); (case kAN => k_is); (case aTP => k_is); (case lTP => k_is); (case cTP => k_is)
    (case kTP => k_is); (case aGOOD => k_is); (case aBAD => k_is); (case aSKIPPED => k_is); (case aMOST_PARENTS => k_is); (case aMOST_CHANGES => k_is)
    (case aMOST_MARKS => k_is); (case aUNKNOWN => k_is); (case aFULL => k_is); (case aNO_SEARCH => k_is); (case aNOBODY_LEFT => k_is); (case aFOUND => k_is)
    (case aNOT_PARTED => k_is); (case aADD => k_is); (case aCOUNT => k_is); (case aBEFORE => k_is); (case aSTART => k_is); (case aMARK => k_is)
    (case aUNDO => k_is); (case aLEFT => k_is); (case aLIST => k_is); (case aNEXT => k_is); (case aSPLIT => k_is); (case alen => k_is)
    (case aall => k_is); (case arange => k_is); (case amin => k_is); (case aLENGTHS => k_is); (case bLENGTHS => k_is); (case d0LENGTHS => rfl)
    (case d1LENGTHS => rfl); (case d2LENGTHS => rfl); (case d3LENGTHS => rfl); (case d4LENGTHS => rfl)
  case S =>
    intro K H xs a hO hwi hask hx
    cases hx with
    | cons h1 h2 =>
      cases h2
      cases h1 with
      | lst hs ha =>
        have e := L2.ints_dw a.1 _ ha
        subst e
        have q : ((Codec.inLen 0 660 a.1 && a.1.all (Codec.inInt 0 18446744073709551615)) && true) = true := hwi
        rw [Bool.and_eq_true, Bool.and_eq_true] at q
        have hl := (Codec.inNat_iff.mp q.1.1).2
        obtain ⟨qs, h60, e1, e2⟩ := FM.asked_of (l := a.1) hask
        refine ⟨_, qs, rfl, by rw [← e1]; exact hs, h60, by rw [← e1]; omega, fun H' p hp => ?_⟩
        rw [← e2] at hp
        exact .lst (L2.SqL.of hp) (L2.dw_ints _)
#print axioms PySem.Challenge.cw_firstbad_s01_answers_holds
