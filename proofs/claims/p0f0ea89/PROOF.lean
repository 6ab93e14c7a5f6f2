import PyProof.Rows.All
import Wide.All
import OpenK.AllK
import Wide.FinOn
import PyProof.EqAt
import PyProof.EqKinds
import PyProof.TupleCall
import KE.BitLaws
import Open.SpecLaws
import KE.OsHead
import KE.OsGo
import KE.IntBitsLaws
import KE.KDictList
import PyProof.Rows.SortShellAny
import PyProof.Rows.TupAdd
import PyProof.Rows.SetFrom
import PyProof.SetRoads
import PyProof.FactsAll.set
import PyProof.FactsAll.dict_keyiterator
import PyProof.CollectWalk
import KE.KDictSum
import PyProof.DictItems
import PyProof.DictDisplay
import PySem.Challenge.RW_wipeboard_s01_answers
section
set_option Elab.async false
set_option linter.all false
set_option maxRecDepth 100000
namespace L2
open PySem PySem.Spec PyProof.Rows
/-- a key: an int or a str -/
abbrev Key := Sum Int Str
def keyIs : Key → Value → Bool
  | .inl k, v => Value.isInt k v
  | .inr x, v => Value.isStrOf x v
def keyH (w : World) : Key → Int
  | .inl k => hashInt k
  | .inr x => hashStr w x
theorem keyIs_shape : ∀ {k : Key} {v : Value}, keyIs k v = true → (∃ i t, k = Sum.inl i ∧ v = Value.int i t) ∨ (∃ x t, k = Sum.inr x ∧ v = Value.str x t)
  | .inl i, v, h => by
    obtain ⟨t, e⟩ := Value.isInt_shape (k := i) (v := v) h
    exact .inl ⟨i, t, rfl, e⟩
  | .inr x, v, h => by
    obtain ⟨t, e⟩ := Value.isStrOf_shape (x := x) (v := v) h
    exact .inr ⟨x, t, rfl, e⟩
theorem keyIs_int (i : Int) (t : Tok) : keyIs (.inl i) (.int i t) = true := by simp [keyIs, Value.isInt]
theorem keyIs_str (x : Str) (t : Tok) : keyIs (.inr x) (.str x t) = true := by simp [keyIs, Value.isStrOf]
theorem key_ll (a b : Int) : decide ((Sum.inl a : Key) = Sum.inl b) = (a == b) := by
  by_cases e : a = b
  · subst e; simp
  · have h : ¬ (Sum.inl a : Key) = Sum.inl b := fun q => e (Sum.inl.inj q)
    rw [decide_eq_false h]
    exact (beq_eq_false_iff_ne.mpr e).symm
theorem key_rr (a b : Str) : decide ((Sum.inr a : Key) = Sum.inr b) = decide (a = b) := by
  by_cases e : a = b
  · subst e; simp
  · have h : ¬ (Sum.inr a : Key) = Sum.inr b := fun q => e (Sum.inr.inj q)
    rw [decide_eq_false h, decide_eq_false e]
theorem key_lr (a : Int) (b : Str) : decide ((Sum.inl a : Key) = Sum.inr b) = false := decide_eq_false (fun q => nomatch q)
theorem key_rl (a : Str) (b : Int) : decide ((Sum.inr a : Key) = Sum.inl b) = false := decide_eq_false (fun q => nomatch q)

def mixKind (prog : Program) (w : World) : PySem.KeyKind prog w Key where
  is := keyIs
  hash := keyH w
  inj := fun v a b ha hb => by
    rcases keyIs_shape ha with ⟨i, t, rfl, rfl⟩ | ⟨x, t, rfl, rfl⟩
    · rcases keyIs_shape hb with ⟨j, u, rfl, e⟩ | ⟨y, u, rfl, e⟩
      · injection e with e1 _; rw [e1]
      · exact nomatch e
    · rcases keyIs_shape hb with ⟨j, u, rfl, e⟩ | ⟨y, u, rfl, e⟩
      · exact nomatch e
      · injection e with e1 _; rw [e1]
  byValue := fun k v h => by
    rcases keyIs_shape h with ⟨i, t, rfl, rfl⟩ | ⟨x, t, rfl, rfl⟩ <;> rfl
  pyHash := fun hv h => by
    rcases keyIs_shape hv with ⟨i, t, rfl, rfl⟩ | ⟨x, t, rfl, rfl⟩
    · exact wpAny_pyHash_int h
    · exact wpAny_pyHash_str h
  eqBool := fun hu hv h => by
    rcases keyIs_shape hu with ⟨i, t, rfl, rfl⟩ | ⟨x, t, rfl, rfl⟩
    · rcases keyIs_shape hv with ⟨j, u, rfl, rfl⟩ | ⟨y, u, rfl, rfl⟩
      · rw [key_ll] at h; exact wpAny_eqBool_int h
      · rw [key_lr] at h; exact SeqAt.EqAt.int_str i t y u _ _ _ _ h
    · rcases keyIs_shape hv with ⟨j, u, rfl, rfl⟩ | ⟨y, u, rfl, rfl⟩
      · rw [key_rl] at h; exact SeqAt.EqAt.str_int x t j u _ _ _ _ h
      · rw [key_rr] at h; exact wpAny_eqBool_str h
  «strs» := fun k x t v h => by
    rcases keyIs_shape h with ⟨i, u, rfl, e⟩ | ⟨y, u, rfl, e⟩
    · exact nomatch e
    · injection e with e1 _
      subst e1
      cases v <;> rfl

theorem mixKind_int (prog : Program) (w : World) (i : Int) (t : Tok) : (mixKind prog w).is (.inl i) (.int i t) = true := keyIs_int i t
theorem mixKind_str (prog : Program) (w : World) (x : Str) (t : Tok) : (mixKind prog w).is (.inr x) (.str x t) = true := keyIs_str x t
end L2
namespace L2
open PySem PySem.Spec PyProof.Rows
/-- a value, without the heap -/
inductive V where
  | non | bl (b : Bool) | int (i : Int) | str (x : Str) | byt (b : Array UInt8) | flt (b : UInt64) | ref (a : Addr) | ty (n : String)
  deriving DecidableEq

def RelV : V → Value → Prop
  | .non, u => u = Value.none
  | .bl b, u => u = Value.bool b
  | .int i, u => ∃ t, u = Value.int i t
  | .str x, u => ∃ t, u = Value.str x t
  | .byt b, u => ∃ t, u = Value.bytes b t
  | .flt b, u => ∃ t, u = Value.float b t
  | .ref a, u => u = Value.ref a
  | .ty n, u => u = Value.type n

abbrev Vals : List V → List Value → Prop := Paired RelV
theorem Vals.length {xs : List V} {us : List Value} (r : Vals xs us) : xs.length = us.length := Paired.length r
theorem Vals.get : ∀ {xs : List V} {us : List Value} {i : Nat} {x : V}, Vals xs us → xs[i]? = some x → ∃ u, us[i]? = some u ∧ RelV x u
  | _, _, _, _, .nil, e => by simp at e
  | _, _, 0, _, .cons r _, e => by simp at e; subst e; exact ⟨_, rfl, r⟩
  | _, _, i + 1, x, .cons _ t, e => by
    obtain ⟨u, h1, h2⟩ := Vals.get (i := i) (x := x) t (by simpa using e)
    exact ⟨u, by simpa using h1, h2⟩
theorem Vals.set {x : V} {u : Value} (r : RelV x u) : ∀ {xs : List V} {us : List Value} (i : Nat), Vals xs us → Vals (xs.set i x) (us.set i u)
  | _, _, _, .nil => .nil
  | _, _, 0, .cons _ t => .cons r t
  | _, _, i + 1, .cons q t => .cons q (Vals.set r i t)
theorem Vals.append : ∀ {xs ys : List V} {us ws : List Value}, Vals xs us → Vals ys ws → Vals (xs ++ ys) (us ++ ws)
  | _, _, _, _, .nil, s => s
  | _, _, _, _, .cons r t, s => .cons r (Vals.append t s)
theorem Vals.take : ∀ {xs : List V} {us : List Value} (n : Nat), Vals xs us → Vals (xs.take n) (us.take n)
  | _, _, 0, _ => .nil
  | _, _, _ + 1, .nil => .nil
  | _, _, n + 1, .cons r t => .cons r (Vals.take n t)
theorem Vals.drop : ∀ {xs : List V} {us : List Value} (n : Nat), Vals xs us → Vals (xs.drop n) (us.drop n)
  | _, _, 0, r => r
  | _, _, _ + 1, .nil => .nil
  | _, _, n + 1, .cons _ t => Vals.drop n t
theorem Vals.none_of : ∀ {xs : List V} {us : List Value} {i : Nat}, Vals xs us → xs[i]? = none → us[i]? = none := fun {xs us i} r e => by
  have h1 := r.length
  have h2 : xs.length ≤ i := List.getElem?_eq_none_iff.mp e
  exact List.getElem?_eq_none_iff.mpr (by omega)

def RelO : Option V → Option Value → Prop
  | some v, some u => RelV v u
  | none, none => True
  | _, _ => False
def KV {κ : Type} : List (κ × V) → List (κ × Value) → Prop := Paired fun (p : κ × V) (q : κ × Value) => p.1 = q.1 ∧ RelV p.2 q.2

/-- a key of a dict (00_mix): an int or a text -/
def kV : Key → V
  | .inl i => .int i
  | .inr x => .str x

/-- what stands at a tracked address -/
inductive HO where
  /-- a list -/
  | lst (xs : List V)
  /-- a tuple (never changes) -/
  | tup (xs : List V)
  /-- a dict whose keys are ints and texts; one whose keys are tuples of ints and texts (the empty one is both) -/
  | dK (kvs : List (Key × V)) | dT (kvs : List (List Key × V))
  /-- a set of ints: its members, its size -/
  | set (S : Int → Bool) (n : Nat)
  /-- an instance of the class at C, its dict at dx, its attributes -/
  | ins (C dx : Addr) (fs : List (Str × V))
  /-- the dict of the instance at x -/
  | own (x : Addr)
  /-- the dict of an exception -/
  | xd (fs : List (Str × V))
  /-- a bound method, f of x -/
  | met (f x : Addr)
  /-- a range object lo, lo + 1, .. below hi -/
  | rng (lo hi : Int)
  /-- a thing that is known to the object (the script; a dict while a loop walks it): read, never written while it is so -/
  | frz (o : Obj) (u : HO)
  /-- a code object's table -/
  | tbl (ps : Array Value)
  /-- any other thing, by what is true of its one object (a def of one's own: SetO a S n := HO.ext fun h => ..) -/
  | ext (φ : Heap → Prop)

abbrev Hp := Addr → Option HO
def upd (H : Hp) (a : Addr) (o : HO) : Hp := fun b => if b = a then some o else H b
theorem upd_same {H : Hp} {a : Addr} {o : HO} : upd H a o a = some o := by unfold upd; rw [if_pos rfl]
theorem upd_ne {H : Hp} {a b : Addr} {o : HO} (h : b ≠ a) : upd H a o b = H b := by unfold upd; rw [if_neg h]
/-- two objects of different content stand apart -/
theorem ne_of {H : Hp} {a b : Addr} {o u : HO} (h : H a = some o) (h' : H b = some u) (d : o ≠ u) : a ≠ b := by
  intro e; subst e; rw [h] at h'; exact d (Option.some.inj h')
theorem ne_of_none {H : Hp} {a b : Addr} {o : HO} (h : H a = some o) (h' : H b = none) : a ≠ b := by
  intro e; subst e; rw [h] at h'; cases h'

section
variable (P : Program) (w : World)
def ObjOk (H : Hp) (h : Heap) (a : Addr) : HO → Prop
  | .lst xs => xs.length ≤ sizeLine ∧ ∃ (its : List Value) (n : Nat), Vals xs its ∧ h.get? a = some { cls := .type "list", data := .seq its.toArray n }
  | .tup xs => xs.length ≤ sizeLine ∧ ∃ its : List Value, Vals xs its ∧ IsTup h a its.toArray
  | .dK kvs => kvs.length ≤ sizeLine ∧ (a == sysModules) = false ∧ ∃ vs, KV kvs vs ∧ h.DictOf (mixKind P w) a vs
  | .dT kvs => kvs.length ≤ sizeLine ∧ (a == sysModules) = false ∧ ∃ xs : List (List Key × Addr × Value),
      Paired (fun (p : List Key × V) (q : List Key × Addr × Value) => p.1 = q.1 ∧ H q.2.1 = some (.tup (p.1.map kV)) ∧ RelV p.2 q.2.2) kvs xs ∧
      ∃ o es ep, h.get? a = some o ∧ o.ExactDict ∧ o.data = .dict es ep ∧ es.toList = xs.map (entryOfKey (tupleKind (mixKind P w))) ∧ (xs.map (·.1)).Nodup
  | .set S n => h.SetOf (intKind P w) a S n
  | .ins C dx fs => H dx = some (.own a) ∧ fs.length ≤ 1000 ∧ dx ≠ a ∧ h.get? a = some (PySem.W.instObj C dx) ∧
      ∃ mA, h.Ns1 dx mA ∧ (∀ f, RelO (fs.lookup f) (mA f)) ∧ PySem.Within mA (fs.map (·.1))
  | .own _ => ∃ o, h.get? a = some o
  | .xd fs => ∃ mA, h.Ns1 a mA ∧ ∀ f, RelO (fs.lookup f) (mA f)
  | .rng lo hi => ∃ t u v, h.get? a = some { cls := .type "range", data := .fields #[.int lo t, .int hi u, .int 1 v] }
  | .frz o u => h.get? a = some o ∧ ObjOk H h a u
  | .tbl ps => h.get? a = some { cls := .none, data := .fields ps }
  | .met f x => h.get? a = some (PySem.W.methodObj (.ref f) (.ref x))
  | .ext φ => φ h ∧ (∃ o, h.get? a = some o) ∧ ∀ h1 h2 : Heap, φ h1 → (∀ o, h1.get? a = some o → h2.get? a = some o) → φ h2
/-- the abstract heap is held -/
def HOk (H : Hp) (h : Heap) : Prop := ∀ a o, H a = some o → ObjOk P w H h a o
end
section
variable {P : Program} {w : World} {H H' : Hp} {h h' : Heap} {a : Addr} {o : HO}
theorem ObjOk.lt (x : ObjOk P w H h a o) : a < h.objs.size := by
  cases o with
  | lst xs => obtain ⟨_, _, _, _, e⟩ := x; exact Heap.lt_size e
  | tup xs => obtain ⟨_, _, _, p⟩ := x; exact p.lt
  | dK kvs => obtain ⟨_, _, _, _, o, _, _, e, _⟩ := x; exact Heap.lt_size e
  | dT kvs => obtain ⟨_, _, _, _, o, _, _, e, _⟩ := x; exact Heap.lt_size e
  | set S n => obtain ⟨o, _, _, _, e, _⟩ := x; exact Heap.lt_size e
  | ins C dx fs => obtain ⟨_, _, _, e, _⟩ := x; exact Heap.lt_size e
  | own y => obtain ⟨_, e⟩ := x; exact Heap.lt_size e
  | xd fs => obtain ⟨_, ⟨_, _, _, e, _⟩, _⟩ := x; exact Heap.lt_size e
  | rng lo hi => obtain ⟨_, _, _, e⟩ := x; exact Heap.lt_size e
  | frz ob u => obtain ⟨e, _⟩ := x; exact Heap.lt_size e
  | tbl ps => exact Heap.lt_size (show h.get? a = some _ from x)
  | met f y => exact Heap.lt_size (show h.get? a = some _ from x)
  | ext φ => obtain ⟨_, ⟨_, e⟩, _⟩ := x; exact Heap.lt_size e
theorem Paired.mapP {α β : Type} {F G : α → β → Prop} : ∀ {l₁ : List α} {l₂ : List β}, Paired F l₁ l₂ → (∀ a b, F a b → G a b) → Paired G l₁ l₂
  | _, _, .nil, _ => .nil
  | _, _, .cons r t, f => .cons (f _ _ r) (Paired.mapP t f)
/-- what an object's description leans on: its own object, its own dict, the tuples -/
theorem ObjOk.stay (x : ObjOk P w H h a o) (k : ∀ b u, (b = a ∨ H b = some (.own a)) → h.get? b = some u → h'.get? b = some u)
    (ho : ∀ b, H b = some (.own a) → H' b = some (.own a)) (ht : ∀ b xs, H b = some (.tup xs) → H' b = some (.tup xs)) : ObjOk P w H' h' a o := by
  induction o with
  | lst xs => obtain ⟨z, its, n, r, e⟩ := x; exact ⟨z, its, n, r, k _ _ (.inl rfl) e⟩
  | tup xs => obtain ⟨z, its, r, ob, e, c⟩ := x; exact ⟨z, its, r, ob, k _ _ (.inl rfl) e, c⟩
  | dK kvs => obtain ⟨z, y, vs, r, ob, es, ep, e, c⟩ := x; exact ⟨z, y, vs, r, ob, es, ep, k _ _ (.inl rfl) e, c⟩
  | dT kvs =>
    obtain ⟨z, y, xs, r, ob, es, ep, e, c⟩ := x
    exact ⟨z, y, xs, Paired.mapP r fun p q z => ⟨z.1, ht _ _ z.2.1, z.2.2⟩, ob, es, ep, k _ _ (.inl rfl) e, c⟩
  | set S n => obtain ⟨ob, es, ep, t, e, c⟩ := x; exact ⟨ob, es, ep, t, k _ _ (.inl rfl) e, c⟩
  | ins C dx fs =>
    obtain ⟨d, z, ne, e, mA, ⟨od, es, ep, e2, c⟩, r⟩ := x
    exact ⟨ho _ d, z, ne, k _ _ (.inl rfl) e, mA, ⟨od, es, ep, k _ _ (.inr d) e2, c⟩, r⟩
  | own y => obtain ⟨ob, e⟩ := x; exact ⟨ob, k _ _ (.inl rfl) e⟩
  | xd fs => obtain ⟨mA, ⟨od, es, ep, e, c⟩, r⟩ := x; exact ⟨mA, ⟨od, es, ep, k _ _ (.inl rfl) e, c⟩, r⟩
  | rng lo hi => obtain ⟨t, u, v, e⟩ := x; exact ⟨t, u, v, k _ _ (.inl rfl) e⟩
  | frz ob u ih => obtain ⟨e, q⟩ := x; exact ⟨k _ _ (.inl rfl) e, ih q⟩
  | tbl ps =>
    have e : h.get? a = some { cls := .none, data := .fields ps } := x
    show h'.get? a = some { cls := .none, data := .fields ps }
    exact k a _ (.inl rfl) e
  | met f y =>
    have e : h.get? a = some (PySem.W.methodObj (.ref f) (.ref y)) := x
    show h'.get? a = some (PySem.W.methodObj (.ref f) (.ref y))
    exact k a _ (.inl rfl) e
  | ext φ => obtain ⟨p, ⟨o, e⟩, st⟩ := x; exact ⟨st _ _ p fun o q => k _ _ (.inl rfl) q, ⟨o, k _ _ (.inl rfl) e⟩, st⟩
theorem HOk.lt (x : HOk P w H h) (e : H a = some o) : a < h.objs.size := (x a o e).lt
theorem HOk.fresh (x : HOk P w H h) (e : h.objs.size ≤ a) : H a = none := by
  cases q : H a with
  | none => rfl
  | some u => exact absurd (Nat.lt_of_lt_of_le (x.lt q) e) (Nat.lt_irrefl _)
/-- every object of the heap is kept -/
theorem HOk.kept (x : HOk P w H h) (k : ∀ b u, h.get? b = some u → h'.get? b = some u) : HOk P w H h' := fun a o e =>
  (x a o e).stay (fun b u _ q => k b u q) (fun _ q => q) fun _ _ q => q
/-- a new object is laid and tracked -/
theorem HOk.laid (x : HOk P w H h) (k : ∀ b u, h.get? b = some u → h'.get? b = some u) (hp : h.objs.size ≤ a) (new : ObjOk P w (upd H a o) h' a o) : HOk P w (upd H a o) h' := fun b u e => by
  have hn := x.fresh hp
  by_cases hb : b = a
  · subst hb; rw [upd_same] at e; cases e; exact new
  · rw [upd_ne hb] at e
    exact (x b u e).stay (fun c v _ q => k c v q) (fun c q => by rw [upd_ne (ne_of_none q hn)]; exact q) fun c xs q => by rw [upd_ne (ne_of_none q hn)]; exact q
end
/-- what may be read as u: it is u, or a known u -/
def Rd (H : Hp) (a : Addr) (u : HO) : Prop := H a = some u ∨ ∃ o, H a = some (.frz o u)
theorem Rd.of {H : Hp} {a : Addr} {u : HO} (h : H a = some u) : Rd H a u := .inl h
theorem Rd.ok {P : Program} {w : World} {H : Hp} {h : Heap} {a : Addr} {u : HO} (r : Rd H a u) (x : HOk P w H h) : ObjOk P w H h a u := by
  rcases r with r | ⟨o, r⟩
  · exact x a u r
  · obtain ⟨_, q⟩ := x a _ r
    exact q
/-- what may be written -/
def Mut : Option HO → Prop
  | some (.lst _) => True
  | some (.dK _) => True
  | some (.dT _) => True
  | some (.set _ _) => True
  | some (.ins _ _ _) => True
  | some (.ext _) => True
  | _ => False
section
variable {P : Program} {w : World} {H : Hp} {h h' : Heap} {x e : Addr} {o' : HO}
/-- the object at e is changed: x itself, or the dict of the instance x -/
theorem HOk.write (ok : HOk P w H h) (mu : Mut (H x)) (he : e = x ∨ H e = some (.own x)) (k : ∀ b u, b ≠ e → h.get? b = some u → h'.get? b = some u) (heo : ∃ u, h'.get? e = some u)
    (new : ObjOk P w (upd H x o') h' x o') : HOk P w (upd H x o') h' := fun b u q => by
  have nown : ∀ c y, H c = some (.own y) → c ≠ x := fun c y r z => by subst z; rw [r] at mu; exact mu
  have ntup : ∀ c xs, H c = some (.tup xs) → c ≠ x := fun c xs r z => by subst z; rw [r] at mu; exact mu
  by_cases hb : b = x
  · subst hb; rw [upd_same] at q; cases q; exact new
  · rw [upd_ne hb] at q
    by_cases hbe : b = e
    · have q' : H b = some (.own x) := by
        rcases he with z | z
        · exact absurd (hbe.trans z) hb
        · rw [hbe]; exact z
      rw [q] at q'; cases q'
      obtain ⟨v, hv⟩ := heo
      exact ⟨v, by rw [hbe]; exact hv⟩
    · refine (ok b u q).stay (fun c v hc r => k c v ?_ r) (fun c r => by rw [upd_ne (nown c b r)]; exact r) fun c xs r => by rw [upd_ne (ntup c xs r)]; exact r
      rcases hc with rfl | hc
      · exact hbe
      · rintro rfl
        rcases he with z | z
        · exact nown c b hc z
        · rw [hc] at z; cases z; exact hb rfl
end
structure Un (fs ex : List Addr) (H H' : Hp) (h h' : Heap) : Prop where
  keep : ∀ b o, h.get? b = some o → H b = none → b ∉ fs → b ∉ ex → h'.get? b = some o
  slot : ∀ b o, h.get? b = some o → H b = none → b ∈ fs → b ∉ ex → ∃ sl, h'.get? b = some { o with slots := sl }
  free : ∀ b o, h.get? b = some o → H b = none → b ∉ ex → H' b = none
  there : ∀ b o, h.get? b = some o → b ∉ ex → ∃ o', h'.get? b = some o'
  tups : ∀ b xs, H b = some (.tup xs) → H' b = some (.tup xs)
  frzs : ∀ b o u, H b = some (.frz o u) → H' b = some (.frz o u)
  tbls : ∀ b ps, H b = some (.tbl ps) → ∃ more, H' b = some (.tbl (ps ++ more))
section
variable {fs fs' ex ex' : List Addr} {H H1 H2 : Hp} {h h1 h2 h' : Heap} {a x e : Addr} {o : HO}
theorem Un.any (u : Un fs ex H H1 h h1) {b : Addr} {ob : Obj} (q : h.get? b = some ob) (n : H b = none) (hx : b ∉ ex) : ∃ sl, h1.get? b = some { ob with slots := sl } := by
  by_cases hb : b ∈ fs
  · exact u.slot b ob q n hb hx
  · exact ⟨ob.slots, u.keep b ob q n hb hx⟩
theorem Un.trans (a : Un fs ex H H1 h h1) (b : Un fs ex H1 H2 h1 h2) : Un fs ex H H2 h h2 where
  keep := fun c ob q n hc hx => b.keep c ob (a.keep c ob q n hc hx) (a.free c ob q n hx) hc hx
  slot := fun c ob q n hc hx => by
    obtain ⟨sl, e1⟩ := a.slot c ob q n hc hx
    obtain ⟨sl', e2⟩ := b.slot c _ e1 (a.free c ob q n hx) hc hx
    exact ⟨sl', e2⟩
  free := fun c ob q n hx => by
    obtain ⟨o', e1⟩ := a.there c ob q hx
    exact b.free c o' e1 (a.free c ob q n hx) hx
  there := fun c ob q hx => by
    obtain ⟨o', e1⟩ := a.there c ob q hx
    exact b.there c o' e1 hx
  tups := fun c xs q => b.tups c xs (a.tups c xs q)
  frzs := fun c ob xs q => b.frzs c ob xs (a.frzs c ob xs q)
  tbls := fun c ps q => by
    obtain ⟨m1, e1⟩ := a.tbls c ps q
    obtain ⟨m2, e2⟩ := b.tbls c _ e1
    exact ⟨m1 ++ m2, by rw [e2, Array.append_assoc]⟩
theorem Un.kept (k : ∀ b u, h.get? b = some u → h'.get? b = some u) : Un fs ex H H h h' :=
  ⟨fun b ob q _ _ _ => k b ob q, fun b ob q _ _ _ => ⟨ob.slots, k b ob q⟩, fun _ _ _ n _ => n, fun b ob q _ => ⟨ob, k b ob q⟩, fun _ _ q => q, fun _ _ _ q => q, fun _ ps q => ⟨#[], by rw [q]; simp⟩⟩
theorem Un.refl : Un fs ex H H h h := Un.kept fun _ _ q => q
theorem Un.laid (k : ∀ b u, h.get? b = some u → h'.get? b = some u) (hp : h.objs.size ≤ a) (hn : H a = none) : Un fs ex H (upd H a o) h h' where
  keep := fun b u q _ _ _ => k b u q
  slot := fun b u q _ _ _ => ⟨u.slots, k b u q⟩
  free := fun b u q n _ => by rw [upd_ne (Nat.ne_of_lt (Nat.lt_of_lt_of_le (Heap.lt_size q) hp))]; exact n
  there := fun b u q _ => ⟨u, k b u q⟩
  tups := fun b xs q => by rw [upd_ne (ne_of_none q hn)]; exact q
  frzs := fun b u xs q => by rw [upd_ne (ne_of_none q hn)]; exact q
  tbls := fun b ps q => ⟨#[], by rw [upd_ne (ne_of_none q hn), q]; simp⟩
theorem Un.write (mu : Mut (H x)) (he : e = x ∨ H e = some (.own x)) (k : ∀ b u, b ≠ e → h.get? b = some u → h'.get? b = some u) (heo : ∃ u, h'.get? e = some u) : Un fs ex H (upd H x o) h h' := by
  have hx : ∀ b, H b = none → b ≠ x := fun b n z => by subst z; rw [n] at mu; exact mu
  have hb : ∀ b, H b = none → b ≠ e := fun b n z => by
    subst z
    rcases he with r | r
    · exact hx b n r
    · rw [n] at r; cases r
  have hm : ∀ b u, H b = some u → ¬ Mut (some u) → b ≠ x := fun b u q nm z => by subst z; rw [q] at mu; exact nm mu
  refine ⟨fun b u q n _ _ => k b u (hb b n) q, fun b u q n _ _ => ⟨u.slots, k b u (hb b n) q⟩, fun b u q n _ => by rw [upd_ne (hx b n)]; exact n, fun b u q _ => ?_,
    fun b xs q => by rw [upd_ne (hm b _ q fun z => z)]; exact q, fun b u xs q => by rw [upd_ne (hm b _ q fun z => z)]; exact q, fun b ps q => ⟨#[], by rw [upd_ne (hm b _ q fun z => z), q]; simp⟩⟩
  by_cases hbe : b = e
  · subst hbe; exact heo
  · exact ⟨u, k b u hbe q⟩
theorem Un.mono (u : Un fs ex H H1 h h1) (hs : ∀ b ∈ fs, b ∈ fs') (hx : ∀ b ∈ ex, b ∈ ex') : Un fs' ex' H H1 h h1 :=
  ⟨fun b ob q n hb he => u.keep b ob q n (fun z => hb (hs b z)) fun z => he (hx b z), fun _ _ q n _ he => u.any q n fun z => he (hx _ z), fun b ob q n he => u.free b ob q n fun z => he (hx b z), fun b ob q he => u.there b ob q fun z => he (hx b z), u.tups, u.frzs, u.tbls⟩
end
def trk (h : Heap) (H : Hp) : List Addr := (List.range h.objs.size).filter fun a => (H a).isSome
def hidT (h : Heap) (H : Hp) : Heap := PySem.W.hideAll h (trk h H)
theorem hidT_size (h : Heap) (H : Hp) : (hidT h H).objs.size = h.objs.size := PySem.W.hideAll_size _ _
theorem hidT_get {h : Heap} {H : Hp} {b : Addr} {o : Obj} (e : h.get? b = some o) (n : H b = none) : (hidT h H).get? b = some o :=
  PySem.W.hideAll_get _ e fun hm => by
    have q : (H b).isSome = true := (List.mem_filter.mp hm).2
    rw [n] at q; simp at q
theorem of_hidT {h : Heap} {H : Hp} {b : Addr} {o : Obj} (e : (hidT h H).get? b = some o) : h.get? b = some o ∧ H b = none := by
  have e' : h.get? b = some o := PySem.W.of_hideAll (trk h H) e
  refine ⟨e', ?_⟩
  cases q : H b with
  | none => rfl
  | some x =>
    have hm : b ∈ trk h H := List.mem_filter.mpr ⟨List.mem_range.mpr (Heap.lt_size e'), by simp [q]⟩
    have z : (hidT h H).get? b = none := PySem.W.hideAll_none (trk h H) hm
    rw [z] at e; cases e

def allNews (g h : Heap) (L : Addr) : List (Addr × Obj) := (List.range h.objs.size).filterMap fun a => if a = L ∨ (g.get? a).isSome = true then none else (h.get? a).map fun o => (a, o)
def rest (g h : Heap) (L d : Addr) : List (Addr × Obj) := (allNews g h L).filter fun p => decide (p.1 ≠ d)
end L2
namespace L2
open PySem PySem.Spec PyProof.Rows
/-- the module's facts, over the base: the heap at the law's entry without what is tracked there -/
structure Mod (K : PySem.W.Frag) (mg : Str → Option Value) (base : Heap) : Prop where
  kin : K.In base
  glob : base.Ns mainGlobals mg
  blt : ∃ mb, base.Ns builtinsNs mb ∧ ∀ x : Str, x ≠ "__name__" → mb x = bootBuiltins x
  nolimit : base.NoLimit

/-- the context: a def's body (or a comprehension's block) running. base: fixed through the whole law; s₀, H₀: the entry; outer: the frames whose slots others may change (a def's callers); stack: all frames that run;
   ex: iterators that were made ahead of the entry and are walked here (a comprehension's); fn: the names whose cells were made at the entry (a def: all; a comprehension's block: its own); calm: not within an except suite; pn: pins that every state bears; xe: what is wanted of an exception that leaves the code -/
structure Cx where
  prog : Program
  w : World
  K : PySem.W.Frag
  mg : Str → Option Value
  base : Heap
  A : Around
  N : List Str
  s_0 : Shared
  H_0 : Hp
  env : Env
  outer : List Env
  stack : List Env
  ex : List Addr
  fn : Str → Bool
  calm : Bool
  pn : List (Addr × Obj)
  xe : Value → Shared → Prop
/-- the callers' frames -/
def frs (l : List Env) : List Addr := l.filterMap (·.frame)
abbrev Cx.fs (X : Cx) : List Addr := frs X.outer

def Vis (sc : Scope) (x : Str) : Prop := sc.names.lookup x = some .local ∨ sc.names.lookup x = some .cell ∨ sc.names.lookup x = some .free
def Loc (sc : Scope) (x : Str) : Prop := sc.names.lookup x = some .local ∨ sc.names.lookup x = some .cell
def Look (env : Env) (h : Heap) (m : Str → Option Value) (x : Str) (u : Value) : Prop :=
  (env.kindOf x = some .local ∧ m x = some u) ∨ ((env.kindOf x = some .cell ∨ env.kindOf x = some .free) ∧ ∃ c, env.cells.lookup x = some c ∧ h.IsCell c (some u))

structure Cx.Ok (X : Cx) : Prop where
  mod : Mod X.K X.mg X.base
  kind : X.env.scope.kind = .function
  glob : X.env.globals = mainGlobals
  blt : X.env.builtins = builtinsNs
  above : X.s_0.heap.objs.size ≤ X.env.locals
  inj : ∀ x y c, X.env.cells.lookup x = some c → X.env.cells.lookup y = some c → x = y
  has : ∀ x, (X.env.kindOf x = some .cell ∨ X.env.kindOf x = some .free) → ∃ c, X.env.cells.lookup x = some c
  cab : ∀ x c, X.fn x = true → X.env.cells.lookup x = some c → X.s_0.heap.objs.size ≤ c
  hd : X.calm = true → X.A.handled = none
  frames : X.A.frames = some X.stack
  stk : X.stack = X.outer ∨ (X.stack = X.env :: X.outer ∧ X.env.frame = some X.env.locals)
  exf : ∀ b ∈ X.ex, b ≠ X.env.locals ∧ ∀ x c, X.env.cells.lookup x = some c → c ≠ b
  bs : ∀ b o, X.base.get? b = some o → X.s_0.heap.get? b = some o ∧ X.H_0 b = none
  bsz : X.base.objs.size ≤ X.s_0.heap.objs.size
  noex : ∀ b o, X.base.get? b = some o → b ∉ X.ex
  exfs : ∀ b ∈ X.ex, b ∉ X.fs
  funs : X.s_0.heap.FunFrames X.base X.outer
  frf : ∀ b ∈ X.fs, X.H_0 b = none

structure Inv (X : Cx) (pins : List (Addr × Obj)) (σ : List (Option V)) (H : Hp) (s : Shared) : Prop where
  ok : X.Ok
  os : s.os = X.s_0.os
  bare : AllBare s.gens
  base : Un X.fs X.ex X.H_0 H X.s_0.heap s.heap
  loc : ∃ m, s.heap.Ns X.env.locals m ∧ ∀ (i : Nat) (x : Str) (v : V), X.N[i]? = some x → σ[i]? = some (some v) → Vis X.env.scope x → ∃ u, RelV v u ∧ Look X.env s.heap m x u
  cell : ∀ x c, X.env.cells.lookup x = some c → ∃ v, s.heap.IsCell c v
  free : H X.env.locals = none
  freeC : ∀ x c, X.env.cells.lookup x = some c → H c = none
  pin : ∀ p ∈ X.pn ++ pins, s.heap.get? p.1 = some p.2 ∧ H p.1 = none ∧ p.1 ≠ X.env.locals ∧ p.1 ∉ X.fs ∧ ∀ v, p.2.data ≠ .cell v
  hok : HOk X.prog X.w H s.heap
  len : σ.length = X.N.length

section
variable {X : Cx} {pins : List (Addr × Obj)} {σ : List (Option V)} {H H' : Hp} {s : Shared} {h' : Heap}
theorem Cx.Ok.nofr (ok : X.Ok) {b : Addr} {o : Obj} (e : X.base.get? b = some o) : b ∉ X.fs := fun hb => by
  have := (ok.funs.mem hb).1
  rw [e] at this; cases this
theorem Inv.bs (I : Inv X pins σ H s) : ∀ b o, X.base.get? b = some o → s.heap.get? b = some o ∧ H b = none := fun b o e =>
  ⟨I.base.keep b o (I.ok.bs b o e).1 (I.ok.bs b o e).2 (I.ok.nofr e) (I.ok.noex b o e), I.base.free b o (I.ok.bs b o e).1 (I.ok.bs b o e).2 (I.ok.noex b o e)⟩
theorem Inv.bk (I : Inv X pins σ H s) : ∀ b o, X.base.get? b = some o → s.heap.get? b = some o := fun b o e => (I.bs b o e).1
theorem Inv.mod (I : Inv X pins σ H s) : Mod X.K X.mg X.base := I.ok.mod
theorem Inv.kIn (I : Inv X pins σ H s) : X.K.In s.heap := I.ok.mod.kin.keeps I.bk
theorem Inv.nolimit (I : Inv X pins σ H s) : s.heap.NoLimit := I.ok.mod.nolimit.keeps I.bk
/-- the frame over the base: for OpenK's rules (K.In X.base is I.mod.kin) -/
theorem Inv.fr (I : Inv X pins σ H s) : ∃ m, Fr X.base X.env.locals s.heap m :=
  let ⟨m, hn, _⟩ := I.loc
  ⟨m, hn, I.bk, Nat.le_trans I.ok.bsz I.ok.above⟩
theorem Inv.lt (I : Inv X pins σ H s) : X.env.locals < s.heap.objs.size := let ⟨_, hn, _⟩ := I.loc; hn.lt
theorem Inv.sz (I : Inv X pins σ H s) : X.s_0.heap.objs.size ≤ s.heap.objs.size := Nat.le_trans I.ok.above (Nat.le_of_lt I.lt)
theorem Inv.nofs (I : Inv X pins σ H s) {a : Addr} (h : s.heap.objs.size ≤ a) : a ∉ X.fs := fun hb => by
  obtain ⟨_, o, ho, _⟩ := I.ok.funs.mem hb
  exact absurd (Nat.lt_of_lt_of_le (Heap.lt_size ho) (Nat.le_trans I.sz h)) (Nat.lt_irrefl _)
theorem Inv.cne (I : Inv X pins σ H s) : ∀ x c, X.env.cells.lookup x = some c → c ≠ X.env.locals := fun x c e z => by
  obtain ⟨v, o, ho, hd⟩ := I.cell x c e
  obtain ⟨m, ⟨o', es, ep, ho', hd', _⟩, _⟩ := I.loc
  rw [z, ho'] at ho; cases ho; rw [hd'] at hd; cases hd
theorem Inv.funs (I : Inv X pins σ H s) : s.heap.FunFrames X.base X.outer := by
  have all : ∀ (l : List Env), (∀ b ∈ frs l, b ∈ X.fs) → X.s_0.heap.FunFrames X.base l → s.heap.FunFrames X.base l := by
    intro l
    induction l with
    | nil => intro _ _; trivial
    | cons env r ih =>
      intro hs hl
      obtain ⟨hk, ⟨L, o, hf, hn, ho, hd⟩, hr⟩ := hl
      have hL : L ∈ X.fs := hs L (by unfold frs; rw [List.filterMap_cons, hf]; exact List.mem_cons_self)
      obtain ⟨sl, e⟩ := I.base.slot L o ho (I.ok.frf L hL) hL fun z => I.ok.exfs L z hL
      exact ⟨hk, ⟨L, _, hf, hn, e, hd⟩, ih (fun b hb => hs b (by unfold frs; rw [List.filterMap_cons, hf]; exact List.mem_cons_of_mem _ hb)) hr⟩
  exact all X.outer (fun _ hb => hb) I.ok.funs

/-- the frames that run, for a call -/
theorem Inv.stack (I : Inv X pins σ H s) : s.heap.FunFrames X.base X.stack := by
  rcases I.ok.stk with e | ⟨e, hf⟩
  · rw [e]; exact I.funs
  · rw [e]
    obtain ⟨m, hn, _⟩ := I.loc
    refine .cons (by rw [I.ok.kind]; decide) hf hn ?_ I.funs
    exact Heap.get?_none_of_le (Nat.le_trans I.ok.bsz I.ok.above)
theorem Inv.stkSub (I : Inv X pins σ H s) : ∀ b ∈ frs X.stack, b ∈ X.env.locals :: X.fs := fun b hb => by
  rcases I.ok.stk with e | ⟨e, hf⟩
  · rw [e] at hb; exact List.mem_cons_of_mem _ hb
  · rw [e] at hb
    unfold frs at hb
    rw [List.filterMap_cons, hf] at hb
    exact hb
theorem Inv.stkFree (I : Inv X pins σ H s) : ∀ b ∈ frs X.stack, H b = none := fun b hb => by
  rcases List.mem_cons.mp (I.stkSub b hb) with e | hb
  · rw [e]; exact I.free
  · obtain ⟨_, o, ho, _⟩ := I.ok.funs.mem hb
    exact I.base.free b o ho (I.ok.frf b hb) fun z => I.ok.exfs b z hb

/-- THE STEP: the untracked objects but the frame and the records at ch are kept (the callers' frames up to slots), the frame's map is kept, the new abstract heap is held -/
theorem Inv.step {g' : Array GenState} {t' : Nat} {d' : Drawn} {ch : List Addr} (I : Inv X pins σ H s)
    (hch : ∀ b ∈ ch, (b ∈ X.ex ∨ X.s_0.heap.objs.size ≤ b) ∧ b ≠ X.env.locals ∧ (∀ x c, X.env.cells.lookup x = some c → c ≠ b) ∧ ∀ p ∈ X.pn ++ pins, p.1 ≠ b)
    (keep : ∀ b o, b ≠ X.env.locals → b ∉ X.fs → b ∉ ch → s.heap.get? b = some o → H b = none → h'.get? b = some o)
    (slot : ∀ b o, b ≠ X.env.locals → b ∈ X.fs → b ∉ ch → s.heap.get? b = some o → H b = none → ∃ sl, h'.get? b = some { o with slots := sl }) (free : ∀ b o, b ∉ ch → s.heap.get? b = some o → H b = none → H' b = none)
    (there : ∀ b o, b ∉ ch → s.heap.get? b = some o → ∃ o', h'.get? b = some o')
    (tups : ∀ b xs, H b = some (.tup xs) → H' b = some (.tup xs)) (frzs : ∀ b o u, H b = some (.frz o u) → H' b = some (.frz o u)) (tbls : ∀ b ps, H b = some (.tbl ps) → ∃ more, H' b = some (.tbl (ps ++ more)))
    (ns : ∀ m, s.heap.Ns X.env.locals m → h'.Ns X.env.locals m) (hok : HOk X.prog X.w H' h') (hg : AllBare g') :
    Inv X pins σ H' { s with heap := h', gens := g', drawn := d', toks := t' } := by
  have neL : ∀ b o, X.s_0.heap.get? b = some o → b ≠ X.env.locals := fun b o e => Nat.ne_of_lt (Nat.lt_of_lt_of_le (Heap.lt_size e) I.ok.above)
  have neC : ∀ b o, X.s_0.heap.get? b = some o → b ∉ X.ex → b ∉ ch := fun b o e hx hb => by
    rcases (hch b hb).1 with z | z
    · exact hx z
    · exact absurd (Nat.lt_of_lt_of_le (Heap.lt_size e) z) (Nat.lt_irrefl _)
  have cellK : ∀ x c, X.env.cells.lookup x = some c → ∀ v, s.heap.IsCell c v → h'.IsCell c v := fun x c e v ⟨o, ho, hd⟩ => by
    have nch : c ∉ ch := fun z => (hch c z).2.2.1 x c e rfl
    by_cases hc : c ∈ X.fs
    · obtain ⟨sl, q⟩ := slot c o (I.cne x c e) hc nch ho (I.freeC x c e)
      exact ⟨_, q, hd⟩
    · exact ⟨o, keep c o (I.cne x c e) hc nch ho (I.freeC x c e), hd⟩
  refine ⟨I.ok, I.os, hg, ⟨fun b o e n hb hx => ?_, fun b o e n hb hx => ?_, fun b o e n hx => ?_, fun b o e hx => ?_, fun b xs e => tups b xs (I.base.tups b xs e), fun b o xs e => frzs b o xs (I.base.frzs b o xs e), fun b ps e => ?_⟩, ?_, fun x c e => ?_, ?_, fun x c e => ?_, fun p hp => ?_, hok, I.len⟩
  · exact keep b o (neL b o e) hb (neC b o e hx) (I.base.keep b o e n hb hx) (I.base.free b o e n hx)
  · obtain ⟨sl, e1⟩ := I.base.slot b o e n hb hx
    obtain ⟨sl', e2⟩ := slot b _ (neL b o e) hb (neC b o e hx) e1 (I.base.free b o e n hx)
    exact ⟨sl', e2⟩
  · obtain ⟨o', e1⟩ := I.base.there b o e hx
    exact free b o' (neC b o e hx) e1 (I.base.free b o e n hx)
  · obtain ⟨o', e1⟩ := I.base.there b o e hx
    exact there b o' (neC b o e hx) e1
  · obtain ⟨m1, e1⟩ := I.base.tbls b ps e
    obtain ⟨m2, e2⟩ := tbls b _ e1
    exact ⟨m1 ++ m2, by rw [e2, Array.append_assoc]⟩
  · obtain ⟨m, hn, hl⟩ := I.loc
    refine ⟨m, ns m hn, fun i x v e1 e2 e3 => ?_⟩
    obtain ⟨u, r, l⟩ := hl i x v e1 e2 e3
    refine ⟨u, r, ?_⟩
    rcases l with l | ⟨k, c, e, z⟩
    · exact .inl l
    · exact .inr ⟨k, c, e, cellK x c e _ z⟩
  · obtain ⟨v, z⟩ := I.cell x c e
    exact ⟨v, cellK x c e v z⟩
  · obtain ⟨m, ⟨o, _, _, ho, _⟩, _⟩ := I.loc
    exact free _ o (fun z => (hch _ z).2.1 rfl) ho I.free
  · obtain ⟨v, o, ho, hd⟩ := I.cell x c e
    exact free c o (fun z => (hch c z).2.2.1 x c e rfl) ho (I.freeC x c e)
  · obtain ⟨e, n, ne, nf, d⟩ := I.pin p hp
    have nch : p.1 ∉ ch := fun z => (hch p.1 z).2.2.2 p hp rfl
    exact ⟨keep p.1 p.2 ne nf nch e n, free p.1 p.2 nch e n, ne, nf, d⟩
/-- .. where the frame's own object is kept too -/
theorem Inv.un {t' : Nat} (I : Inv X pins σ H s) (u : Un X.fs [] H H' s.heap h') (hok : HOk X.prog X.w H' h') : Inv X pins σ H' { s with heap := h', toks := t' } := by
  obtain ⟨m, ⟨o, es, ep, ho, r⟩, _⟩ := id I.loc
  obtain ⟨sl, hL⟩ := u.any ho I.free (by simp)
  exact I.step (g' := s.gens) (d' := s.drawn) (ch := []) (fun _ z => nomatch z) (fun b o _ hb _ e n => u.keep b o e n hb (by simp)) (fun b o _ hb _ e n => u.slot b o e n hb (by simp)) (fun b o _ e n => u.free b o e n (by simp)) (fun b o _ e => u.there b o e (by simp)) u.tups u.frzs u.tbls (fun m' hm => by
    obtain ⟨o', es', ep', ho', r'⟩ := hm
    rw [ho] at ho'; cases ho'
    exact ⟨_, es', ep', hL, r'⟩) hok I.bare
/-- behind a call (or a comprehension's block): the slots of this frame may have changed too, the records at ch may have turned -/
theorem Inv.call {g' : Array GenState} {t' : Nat} {d' : Drawn} {ch : List Addr} (I : Inv X pins σ H s) (u : Un (frs X.stack) ch H H' s.heap h') (hok : HOk X.prog X.w H' h') (hg : AllBare g')
    (hch : ∀ b ∈ ch, (b ∈ X.ex ∨ X.s_0.heap.objs.size ≤ b) ∧ b ≠ X.env.locals ∧ (∀ x c, X.env.cells.lookup x = some c → c ≠ b) ∧ ∀ p ∈ X.pn ++ pins, p.1 ≠ b) :
    Inv X pins σ H' { s with heap := h', gens := g', drawn := d', toks := t' } := by
  obtain ⟨m, ⟨o, es, ep, ho, r⟩, _⟩ := id I.loc
  obtain ⟨sl, hL⟩ := u.any ho I.free fun z => (hch _ z).2.1 rfl
  exact I.step (ch := ch) hch (fun b o hL hb hc e n => u.keep b o e n (fun z => (List.mem_cons.mp (I.stkSub b z)).elim hL hb) hc) (fun b o _ _ hc e n => u.any e n hc) (fun b o hc e n => u.free b o e n hc) (fun b o hc e => u.there b o e hc) u.tups u.frzs u.tbls (fun m' hm => by
    obtain ⟨o', es', ep', ho', r'⟩ := hm
    rw [ho] at ho'; cases ho'
    exact ⟨_, es', ep', hL, r'⟩) hok hg
/-- an untracked record of ours (an iterator) has turned -/
theorem Inv.turned {t' : Nat} {it : Addr} (I : Inv X pins σ H s) (k : ∀ b o, b ≠ it → s.heap.get? b = some o → h'.get? b = some o) (hn : H it = none) (hL : it ≠ X.env.locals)
    (h1 : it ∈ X.ex ∨ X.s_0.heap.objs.size ≤ it) (h2 : ∀ x c, X.env.cells.lookup x = some c → c ≠ it) (h3 : ∀ p ∈ X.pn ++ pins, p.1 ≠ it) : Inv X pins σ H { s with heap := h', toks := t' } := by
  have nit : ∀ b u, H b = some u → b ≠ it := fun b u e z => by rw [z, hn] at e; cases e
  refine I.step (g' := s.gens) (d' := s.drawn) (ch := [it]) (fun b hb => ?_) (fun b o _ _ hc e _ => k b o (fun z => hc (by simp [z])) e) (fun b o _ _ hc e _ => ⟨o.slots, k b o (fun z => hc (by simp [z])) e⟩) (fun _ _ _ _ n => n)
    (fun b o hc e => ⟨o, k b o (fun z => hc (by simp [z])) e⟩) (fun _ _ e => e) (fun _ _ _ e => e) (fun b ps e => ⟨#[], by rw [e]; simp⟩) (fun m hm => ?_) (fun b u e => ?_) I.bare
  · have e : b = it := by simpa using hb
    subst e
    exact ⟨h1, hL, h2, h3⟩
  · obtain ⟨o, es, ep, ho, r⟩ := hm
    exact ⟨o, es, ep, k _ o (Ne.symm hL) ho, r⟩
  · refine (I.hok b u e).stay (fun c v hc q => k c v ?_ q) (fun _ q => q) fun _ _ q => q
    rcases hc with z | z
    · rw [z]; exact nit b u e
    · exact nit c _ z
theorem Inv.tok (I : Inv X pins σ H s) (t : Nat) : Inv X pins σ H { s with toks := t } := I.un (h' := s.heap) (t' := t) Un.refl I.hok
/-- all objects kept -/
theorem Inv.kept {t' : Nat} (I : Inv X pins σ H s) (k : ∀ b u, s.heap.get? b = some u → h'.get? b = some u) : Inv X pins σ H { s with heap := h', toks := t' } := I.un (Un.kept k) (I.hok.kept k)
/-- a new object laid and tracked -/
theorem Inv.laid {a : Addr} {o : HO} {t' : Nat} (I : Inv X pins σ H s) (k : ∀ b u, s.heap.get? b = some u → h'.get? b = some u) (hp : s.heap.objs.size ≤ a) (new : ObjOk X.prog X.w (upd H a o) h' a o) :
    Inv X pins σ (upd H a o) { s with heap := h', toks := t' } := I.un (Un.laid k hp (I.hok.fresh hp)) (I.hok.laid k hp new)
/-- an object written -/
theorem Inv.write {x e : Addr} {o : HO} {t' : Nat} (I : Inv X pins σ H s) (mu : Mut (H x)) (he : e = x ∨ H e = some (.own x)) (k : ∀ b u, b ≠ e → s.heap.get? b = some u → h'.get? b = some u) (heo : ∃ u, h'.get? e = some u)
    (new : ObjOk X.prog X.w (upd H x o) h' x o) : Inv X pins σ (upd H x o) { s with heap := h', toks := t' } := I.un (Un.write mu he k heo) (I.hok.write mu he k heo new)
/-- forgetting slots, pins -/
theorem Inv.weak {σ' : List (Option V)} (I : Inv X pins σ H s) (hl : σ'.length = σ.length) (w : ∀ (i : Nat) v, σ'[i]? = some (some v) → σ[i]? = some (some v)) : Inv X pins σ' H s :=
  ⟨I.ok, I.os, I.bare, I.base, let ⟨m, hn, hl'⟩ := I.loc; ⟨m, hn, fun i x v e1 e2 e3 => hl' i x v e1 (w i v e2) e3⟩, I.cell, I.free, I.freeC, I.pin, I.hok, hl.trans I.len⟩
theorem Inv.pins_of {pins' : List (Addr × Obj)} (I : Inv X pins σ H s) (h : ∀ p ∈ pins', s.heap.get? p.1 = some p.2 ∧ H p.1 = none ∧ p.1 ≠ X.env.locals ∧ p.1 ∉ X.fs ∧ ∀ v, p.2.data ≠ .cell v) : Inv X pins' σ H s :=
  ⟨I.ok, I.os, I.bare, I.base, I.loc, I.cell, I.free, I.freeC, fun p hp => (List.mem_append.mp hp).elim (fun z => I.pin p (List.mem_append_left _ z)) (h p), I.hok, I.len⟩

theorem nodup_ix {N : List Str} (hN : N.Nodup) {i j : Nat} {x : Str} (a : N[i]? = some x) (b : N[j]? = some x) : i = j := by
  obtain ⟨h1, e1⟩ := List.getElem?_eq_some_iff.mp a
  obtain ⟨h2, e2⟩ := List.getElem?_eq_some_iff.mp b
  exact (List.getElem_inj hN).mp (e1.trans e2.symm)

/-- a name is stored; what changed -/
theorem store_ok2 {M : Model} {A : Around} {E : Value → Shared → Prop} {i : Nat} {x : Str} {v : V} {u : Value} {Q : Unit → Shared → Prop} (I : Inv X pins σ H s) (hN : X.N.Nodup) (hi : X.N[i]? = some x) (hx : Loc X.env.scope x) (r : RelV v u)
    (h : ∀ s', Inv X pins (σ.set i (some v)) H s' → (∃ a, Heap.SameBut a s.heap s'.heap ∧ (a = X.env.locals ∨ X.env.cells.lookup x = some a)) → Q () s') (hf : X.fn x = true ∨ X.env.scope.names.lookup x = some .local := by first | exact .inl rfl | exact .inr rfl | assumption) : wpAny M A (storeName X.env x u) Q E s := by
  obtain ⟨m, hn, hl⟩ := id I.loc
  have hcls : (X.env.scope.kind == .class || (X.env.scope.kind == .module && X.env.locals != X.env.globals)) = false := by rw [I.ok.kind]; rfl
  have hiσ : i < σ.length := by rw [I.len]; exact (List.getElem?_eq_some_iff.mp hi).1
  have cne := I.cne
  have tracked : ∀ {a : Addr} {h' : Heap}, (∃ o, s.heap.get? a = some o ∧ H a = none) → Heap.SameBut a s.heap h' → HOk X.prog X.w H h' := fun {a h'} ha hs b ob e => by
    obtain ⟨_, _, hfree⟩ := ha
    refine (I.hok b ob e).stay (fun c w' hc q => (hs.2 c ?_).trans q) (fun _ q => q) fun _ _ q => q
    rintro rfl
    rcases hc with rfl | hc
    · rw [hfree] at e; cases e
    · rw [hfree] at hc; cases hc
  rcases hx with hk | hk
  · refine wpAny_storeName_local hk hn (fun h' hn' hs => ?_) hcls
    obtain ⟨oL, _, _, hoL, _⟩ := id hn
    refine h _ ⟨I.ok, I.os, I.bare, ⟨fun b o e n hb hx => ?_, fun b o e n hb hx => ?_, I.base.free, fun b o e hx => ?_, I.base.tups, I.base.frzs, I.base.tbls⟩, ⟨_, hn', fun j y v' e1 e2 e3 => ?_⟩, fun y c e => ?_, I.free, I.freeC, fun p hp => ?_, tracked ⟨oL, hoL, I.free⟩ hs, by simpa using I.len⟩ ⟨_, hs, .inl rfl⟩
    · exact (hs.2 b (Nat.ne_of_lt (Nat.lt_of_lt_of_le (Heap.lt_size e) I.ok.above))).trans (I.base.keep b o e n hb hx)
    · obtain ⟨sl, e1⟩ := I.base.slot b o e n hb hx
      exact ⟨sl, (hs.2 b (Nat.ne_of_lt (Nat.lt_of_lt_of_le (Heap.lt_size e) I.ok.above))).trans e1⟩
    · obtain ⟨o', e1⟩ := I.base.there b o e hx
      exact ⟨o', (hs.2 b (Nat.ne_of_lt (Nat.lt_of_lt_of_le (Heap.lt_size e) I.ok.above))).trans e1⟩
    · by_cases hj : j = i
      · subst hj
        rw [hi] at e1; cases e1
        rw [List.getElem?_set_self hiσ] at e2
        cases e2
        exact ⟨u, r, .inl ⟨hk, by simp⟩⟩
      · rw [List.getElem?_set_ne (Ne.symm hj)] at e2
        obtain ⟨u', r', q⟩ := hl j y v' e1 e2 e3
        refine ⟨u', r', ?_⟩
        rcases q with ⟨k, e⟩ | ⟨k, c, e, z⟩
        · refine .inl ⟨k, ?_⟩
          have : y ≠ x := fun e => hj (nodup_ix hN e1 (e ▸ hi))
          simp [this, e]
        · exact .inr ⟨k, c, e, z.sameBut hs (cne y c e)⟩
    · obtain ⟨w', z⟩ := I.cell y c e
      exact ⟨w', z.sameBut hs (cne y c e)⟩
    · obtain ⟨e, n, ne, nf, d⟩ := I.pin p hp
      exact ⟨(hs.2 p.1 ne).trans e, n, ne, nf, d⟩
  · have hfn : X.fn x = true := by
      rcases hf with z | z
      · exact z
      · rw [z] at hk; cases hk
    obtain ⟨c, hc⟩ := I.ok.has x (.inl hk)
    obtain ⟨w', z⟩ := I.cell x c hc
    refine wpAny_storeName_cell I.ok.kind hk hc z (fun h' hc' hs => ?_)
    obtain ⟨oc, hoc, hocd⟩ := id z
    refine h { s with heap := h' } ⟨I.ok, I.os, I.bare, ⟨fun b o e n hb hx => ?_, fun b o e n hb hx => ?_, I.base.free, fun b o e hx => ?_, I.base.tups, I.base.frzs, I.base.tbls⟩, ⟨m, hn.sameBut hs (Ne.symm (cne x c hc)), fun j y v' e1 e2 e3 => ?_⟩, fun y c' e => ?_, I.free, I.freeC, fun p hp => ?_, tracked ⟨oc, hoc, I.freeC x c hc⟩ hs, by simpa using I.len⟩ ⟨c, hs, .inr hc⟩
    · exact (hs.2 b (Nat.ne_of_lt (Nat.lt_of_lt_of_le (Heap.lt_size e) (I.ok.cab x c hfn hc)))).trans (I.base.keep b o e n hb hx)
    · obtain ⟨sl, e1⟩ := I.base.slot b o e n hb hx
      exact ⟨sl, (hs.2 b (Nat.ne_of_lt (Nat.lt_of_lt_of_le (Heap.lt_size e) (I.ok.cab x c hfn hc)))).trans e1⟩
    · obtain ⟨o', e1⟩ := I.base.there b o e hx
      exact ⟨o', (hs.2 b (Nat.ne_of_lt (Nat.lt_of_lt_of_le (Heap.lt_size e) (I.ok.cab x c hfn hc)))).trans e1⟩
    · by_cases hj : j = i
      · subst hj
        rw [hi] at e1; cases e1
        rw [List.getElem?_set_self hiσ] at e2
        cases e2
        exact ⟨u, r, .inr ⟨.inl hk, c, hc, hc'⟩⟩
      · rw [List.getElem?_set_ne (Ne.symm hj)] at e2
        obtain ⟨u', r', q⟩ := hl j y v' e1 e2 e3
        refine ⟨u', r', ?_⟩
        rcases q with q | ⟨k, c', e, z'⟩
        · exact .inl q
        · refine .inr ⟨k, c', e, z'.sameBut hs ?_⟩
          rintro rfl
          exact hj (nodup_ix hN e1 (I.ok.inj _ _ _ e hc ▸ hi))
    · by_cases hcc : c' = c
      · subst hcc; exact ⟨_, hc'⟩
      · obtain ⟨w2, z2⟩ := I.cell y c' e
        exact ⟨w2, z2.sameBut hs hcc⟩
    · obtain ⟨e, n, ne, nf, d⟩ := I.pin p hp
      refine ⟨(hs.2 p.1 ?_).trans e, n, ne, nf, d⟩
      intro q
      rw [q, hoc] at e
      have q' : oc = p.2 := Option.some.inj e
      exact d w' (by rw [← q']; exact hocd)
theorem store_ok {M : Model} {A : Around} {E : Value → Shared → Prop} {i : Nat} {x : Str} {v : V} {u : Value} {Q : Unit → Shared → Prop} (I : Inv X pins σ H s) (hN : X.N.Nodup) (hi : X.N[i]? = some x) (hx : Loc X.env.scope x) (r : RelV v u)
    (h : ∀ s', Inv X pins (σ.set i (some v)) H s' → Q () s') (hf : X.fn x = true ∨ X.env.scope.names.lookup x = some .local := by first | exact .inl rfl | exact .inr rfl | assumption) : wpAny M A (storeName X.env x u) Q E s :=
  store_ok2 I hN hi hx r (fun s' I' _ => h s' I') hf
/-- behind a call or a block, the state as it is -/
theorem Inv.call' {s' : Shared} {ch : List Addr} (I : Inv X pins σ H s) (ho : s'.os = s.os) (u : Un (frs X.stack) ch H H' s.heap s'.heap) (hok : HOk X.prog X.w H' s'.heap) (hg : AllBare s'.gens)
    (hch : ∀ b ∈ ch, (b ∈ X.ex ∨ X.s_0.heap.objs.size ≤ b) ∧ b ≠ X.env.locals ∧ (∀ x c, X.env.cells.lookup x = some c → c ≠ b) ∧ ∀ p ∈ X.pn ++ pins, p.1 ≠ b) : Inv X pins σ H' s' := by
  obtain ⟨h', g', d', t', o'⟩ := s'
  have e : o' = s.os := ho
  subst e
  exact I.call (g' := g') (t' := t') (d' := d') u hok hg hch
end
/-- an exception: its class, its own dict's address (where it has one), the abstract heap behind it -/
abbrev XK := Value → Option Addr → Hp → Prop
abbrev St := List (Option V)
abbrev VK := V → Hp → Prop
/-- an expression's reading; a test's; an argument list's -/
abbrev TE := St → Hp → VK → Prop
abbrev TT := St → Hp → (Bool → Hp → Prop) → Prop
abbrev TA := St → Hp → (List V → Hp → Prop) → Prop
/-- what is wanted behind a statement -/
structure Ends where
  nx : St → Hp → Prop
  rt : VK
  bk : St → Hp → Prop := fun _ _ => False
  ct : St → Hp → Prop := fun _ _ => False
abbrev TS := Ends → St → Hp → Prop

def EP (X : Cx) (pins : List (Addr × Obj)) (σ : St) (Q : VK) (u : Value) (s' : Shared) : Prop := ∃ v H', Inv X pins σ H' s' ∧ RelV v u ∧ Q v H'
def TP (X : Cx) (pins : List (Addr × Obj)) (σ : St) (Q : Bool → Hp → Prop) (b : Bool) (s' : Shared) : Prop := ∃ H', Inv X pins σ H' s' ∧ Q b H'
def AP (X : Cx) (pins : List (Addr × Obj)) (σ : St) (Q : List V → Hp → Prop) (us : List Value) (s' : Shared) : Prop := ∃ vs H', Inv X pins σ H' s' ∧ Vals vs us ∧ Q vs H'
def SP (X : Cx) (pins : List (Addr × Obj)) (D : Ends) (f : Flow) (s' : Shared) : Prop :=
  match f with
  | .next => ∃ σ' H', Inv X pins σ' H' s' ∧ D.nx σ' H'
  | .brk => ∃ σ' H', Inv X pins σ' H' s' ∧ D.bk σ' H'
  | .cont => ∃ σ' H', Inv X pins σ' H' s' ∧ D.ct σ' H'
  | .ret u => ∃ v σ' H', Inv X pins σ' H' s' ∧ RelV v u ∧ D.rt v H'

def PE (X : Cx) (e : Expr) (t : TE) : Prop :=
  ∀ (pins : List (Addr × Obj)) (s : Shared) (σ : St) (H : Hp) (Q : VK), Inv X pins σ H s → t σ H Q → wpAny (model X.prog X.w) X.A (eval e X.env) (EP X pins σ Q) X.xe s
def PT (X : Cx) (e : Expr) (t : TT) : Prop :=
  ∀ (pins : List (Addr × Obj)) (s : Shared) (σ : St) (H : Hp) (Q : Bool → Hp → Prop), Inv X pins σ H s → t σ H Q → wpAny (model X.prog X.w) X.A (isTrue e X.env (eval e X.env)) (TP X pins σ Q) X.xe s
/-- a test whatever its 'whole' is (and, or) -/
def PW (X : Cx) (e : Expr) (t : TT) : Prop :=
  ∀ (whole : Sem Value) (pins : List (Addr × Obj)) (s : Shared) (σ : St) (H : Hp) (Q : Bool → Hp → Prop), Inv X pins σ H s → t σ H Q → wpAny (model X.prog X.w) X.A (isTrue e X.env whole) (TP X pins σ Q) X.xe s
theorem PW.pt {X : Cx} {e : Expr} {t : TT} (h : PW X e t) : PT X e t := h _
/-- an argument list (no star), from the left -/
def PA (X : Cx) (es : List Expr) (t : TA) : Prop :=
  ∀ (pos : Pos) (pins : List (Addr × Obj)) (s : Shared) (σ : St) (H : Hp) (Q : List V → Hp → Prop), Inv X pins σ H s → t σ H Q → wpAny (model X.prog X.w) X.A (spliced (backTo pos (starEach es X.env))) (AP X pins σ Q) X.xe s
def PS (X : Cx) (st : Stmt) (t : TS) : Prop :=
  ∀ (pins : List (Addr × Obj)) (s : Shared) (σ : St) (H : Hp) (D : Ends), Inv X pins σ H s → t D σ H → wpAny (model X.prog X.w) X.A (exec st X.env) (SP X pins D) X.xe s
def PSs (X : Cx) (st : List Stmt) (t : TS) : Prop :=
  ∀ (pins : List (Addr × Obj)) (s : Shared) (σ : St) (H : Hp) (D : Ends), Inv X pins σ H s → t D σ H → wpAny (model X.prog X.w) X.A (execs st X.env) (SP X pins D) X.xe s
/-- weaken the end -/
theorem thn {α : Type} {t : Sem α} {Q Q' : α → Shared → Prop} {M : Model} {A : Around} {E : Value → Shared → Prop} {s : Shared} (h : wpAny M A t Q E s) (hQ : ∀ a s, Q a s → Q' a s) : wpAny M A t Q' E s := wpAny_mono h hQ fun _ _ x => x
end L2
namespace L2
open PySem PySem.Spec PyProof.Rows
section
variable {X : Cx}
def tVar (i : Nat) : TE := fun σ H Q => ∃ v, σ[i]? = some (some v) ∧ Q v H
def tC (v : V) : TE := fun _ H Q => Q v H
theorem pe_var {i : Nat} {x : Str} {pos : Pos} (hN : X.N[i]? = some x) (hv : Vis X.env.scope x) (hd : (x == ("__debug__" : Str)) = false := by decide) (hcd : (x == ("__classdict__" : Str)) = false := by decide) : PE X (.Name x pos) (tVar i) := by
  intro pins s σ H Q I h
  obtain ⟨v, e, h⟩ := h
  obtain ⟨m, hn, hl⟩ := I.loc
  obtain ⟨u, r, l⟩ := hl i x v hN e hv
  have fin : EP X pins σ Q u s := ⟨v, H, I, r, h⟩
  rcases l with ⟨hk, hm⟩ | ⟨hk, c, hc, hcell⟩
  · exact wpAny_Name (wpAny_loadName_local I.ok.kind hk hn hm fin) hd
  · rcases hk with hk | hk
    · exact wpAny_Name (wpAny_loadName_cell I.ok.kind hk hc hcell fin) hd
    · exact wpAny_Name (wpAny_loadName_free I.ok.kind hk hc hcell fin hcd) hd
theorem pe_int {i j pos} : PE X (.Constant (.int i) j pos) (tC (.int i)) := fun _ _ _ H _ I h => wpAny_Constant_int ⟨.int i, H, I.tok _, ⟨_, rfl⟩, h⟩
theorem pe_non {j pos} : PE X (.Constant .none j pos) (tC .non) := fun _ _ _ H _ I h => Constant_none ⟨.non, H, I, rfl, h⟩
/-- a global name of the def -/
def Gl (X : Cx) (x : Str) : Prop := X.env.kindOf x = some .globalImplicit
theorem ld_glob {E : Value → Shared → Prop} {pins : List (Addr × Obj)} {s : Shared} {σ : St} {H : Hp} {x : Str} {u : Value} {pos : Pos} {Q : Value → Shared → Prop} (I : Inv X pins σ H s) (hg : Gl X x) (hm : X.mg x = some u) (h : Q u s)
    (hd : (x == ("__debug__" : Str)) = false := by decide) : wpAny (model X.prog X.w) X.A (eval (.Name x pos) X.env) Q E s :=
  Calls.Name_function_global I.ok.kind hg (Calls.loadGlobal_global (by rw [I.ok.glob]; exact I.mod.glob.keeps I.bk) hm h) hd
theorem ld_blt {E : Value → Shared → Prop} {pins : List (Addr × Obj)} {s : Shared} {σ : St} {H : Hp} {x : Str} {u : Value} {pos : Pos} {Q : Value → Shared → Prop} (I : Inv X pins σ H s) (hg : Gl X x) (hm : X.mg x = none) (hv : bootBuiltins x = some u) (h : Q u s)
    (hn : x ≠ "__name__" := by decide) (hd : (x == ("__debug__" : Str)) = false := by decide) : wpAny (model X.prog X.w) X.A (eval (.Name x pos) X.env) Q E s := by
  obtain ⟨mb, h1, h2⟩ := I.mod.blt
  exact Calls.Name_function_global I.ok.kind hg (Calls.loadGlobal_builtin (by rw [I.ok.glob]; exact I.mod.glob.keeps I.bk) hm (by rw [I.ok.blt]; exact h1.keeps I.bk) ((h2 x hn).trans hv) h) hd
/-- a module's constant, a class, a function, as a value -/
theorem pe_glob {x : Str} {v : V} {u : Value} {pos : Pos} (hg : Gl X x) (hm : X.mg x = some u) (r : RelV v u) (hd : (x == ("__debug__" : Str)) = false := by decide) : PE X (.Name x pos) (tC v) :=
  fun _ _ _ H _ I h => ld_glob I hg hm ⟨v, H, I, r, h⟩ hd
variable {a b : Expr} {ta tb : TE} {pos : Pos}
def PC (X : Cx) (op : CmpOp) (a b : Expr) (t : TE) : Prop :=
  ∀ (pins : List (Addr × Obj)) (s : Shared) (σ : St) (H : Hp) (Q : VK), Inv X pins σ H s → t σ H Q →
    wpAny (model X.prog X.w) X.A (eval a X.env) (fun v s₁ => wpAny (model X.prog X.w) X.A (eval b X.env) (fun u s₂ => wpAny (model X.prog X.w) X.A (compareOp op v u) (EP X pins σ Q) X.xe s₂) X.xe s₁) X.xe s
theorem nobehind (b : Expr) {op : CmpOp} (h : op ≠ .In) (h2 : op ≠ .NotIn) : behindInMarks op b = false := by
  have e1 : (op == CmpOp.In) = false := by cases op <;> first | rfl | exact absurd rfl h
  have e2 : (op == CmpOp.NotIn) = false := by cases op <;> first | rfl | exact absurd rfl h2
  cases b <;> simp [behindInMarks, e1, e2]
/-- a comparison as a value, as a test -/
def tB (t : TE) : TT := fun σ H Q => t σ H fun x H1 => ∃ c, x = .bl c ∧ Q c H1
theorem pt_cmp {op : CmpOp} {t : TE} (h : PC X op a b t) (h1 : behindInMarks op b = false := by first | exact nobehind _ (by decide) (by decide) | rfl) : PT X (.Compare a [op] [b] pos) (tB t) := by
  intro pins s σ H Q I hw
  refine wpAny_isTrue_Compare1 (thn (h pins s σ H _ I hw) fun v s1 h1 => thn h1 fun u s2 h2 => thn h2 fun c s3 ⟨x, H1, I1, r1, q1⟩ => ?_) h1
  obtain ⟨d, rfl, q⟩ := q1
  cases r1
  exact wpAny_truthy_bool ⟨H1, I1, q⟩
variable {tA tB' : TT} {rest : List Expr}
def tOr (t u : TT) : TT := fun σ H Q => t σ H fun c H1 => if c = true then Q true H1 else u σ H1 Q
def tNot (t : TT) : TT := fun σ H Q => t σ H fun c H1 => Q (!c) H1
theorem pw_or1 (ha : PT X a tA) : PW X (.BoolOp .Or [a] pos) tA := by
  intro wh pins s σ H Q I h
  refine isTrue_or (thn (ha pins s σ H Q I h) fun c s1 e => ?_)
  cases c with
  | false => exact isTrue_or_nil e
  | true => exact e
theorem pw_or (ha : PT X a tA) (hb : PW X (.BoolOp .Or (b :: rest) pos) tB') : PW X (.BoolOp .Or (a :: b :: rest) pos) (tOr tA tB') := by
  intro wh pins s σ H Q I h
  refine isTrue_or (thn (ha pins s σ H _ I h) fun c s1 ⟨H1, I1, q1⟩ => ?_)
  cases c with
  | true => exact ⟨H1, I1, q1⟩
  | false => exact hb wh pins s1 σ H1 Q I1 q1
theorem pt_not (ha : PT X a tA) : PT X (.UnaryOp .Not a pos) (tNot tA) := by
  intro pins s σ H Q I h
  exact isTrue_not (ha pins s σ H (fun c H1 => Q (!c) H1) I h)
end
end L2
namespace L2
open PySem PySem.Spec PyProof.Rows
def SqL (K : PySem.W.Frag) (H : Hp) (a : Addr) (xs : List V) : Prop :=
  Rd H a (.lst xs) ∨
    ∃ (o : Obj) (its : Array Value) (n : Nat), K.lookup a = some o ∧ o.cls = .type "list" ∧ o.dict = none ∧ o.data = .seq its n ∧ its.size ≤ sizeLine ∧ Vals xs its.toList
def SqT (K : PySem.W.Frag) (H : Hp) (a : Addr) (xs : List V) : Prop :=
  Rd H a (.tup xs) ∨
    ∃ (o : Obj) (its : Array Value) (n : Nat), K.lookup a = some o ∧ o.cls = .type "tuple" ∧ o.data = .seq its n ∧ its.size ≤ sizeLine ∧ Vals xs its.toList
def absV : Value → Option V
  | .none => some .non
  | .bool b => some (.bl b)
  | .int i _ => some (.int i)
  | .str x _ => some (.str x)
  | .bytes b _ => some (.byt b)
  | .float b _ => some (.flt b)
  | .ref a => some (.ref a)
  | .type n => some (.ty n)
  | _ => none
theorem RelV.abs {x : V} {u : Value} (r : RelV x u) : absV u = some x := by
  cases x with
  | non => cases r; rfl
  | bl _ => cases r; rfl
  | int _ => obtain ⟨t, rfl⟩ := r; rfl
  | str _ => obtain ⟨t, rfl⟩ := r; rfl
  | byt _ => obtain ⟨t, rfl⟩ := r; rfl
  | flt _ => obtain ⟨t, rfl⟩ := r; rfl
  | ref _ => cases r; rfl
  | ty _ => cases r; rfl
theorem RelV.inj {x y : V} {u : Value} (r : RelV x u) (q : RelV y u) : x = y := Option.some.inj (r.abs.symm.trans q.abs)
theorem Vals.inj : ∀ {xs ys : List V} {us : List Value}, Vals xs us → Vals ys us → xs = ys
  | _, _, _, .nil, .nil => rfl
  | _, _, _, .cons r t, .cons r' t' => by rw [r.inj r', Vals.inj t t']
section
variable {X : Cx} {pins : List (Addr × Obj)} {σ : St} {H : Hp} {s : Shared} {a : Addr} {xs ys : List V}
theorem SqL.of {K : PySem.W.Frag} (h : H a = some (.lst xs)) : SqL K H a xs := .inl (.inl h)
theorem SqT.of {K : PySem.W.Frag} (h : H a = some (.tup xs)) : SqT K H a xs := .inl (.inl h)
theorem Inv.list (I : Inv X pins σ H s) (h : SqL X.K H a xs) : ∃ its : List Value, Vals xs its ∧ PlainL s.heap a its.toArray ∧ xs.length ≤ sizeLine := by
  rcases h with h | ⟨o, its, n, hk, hc, hd, hs, hz, r⟩
  · obtain ⟨z, its, n, r, e⟩ := h.ok I.hok
    exact ⟨its, r, ⟨_, n, e, rfl, rfl, rfl⟩, z⟩
  · refine ⟨its.toList, r, ⟨o, n, I.kIn a o hk, hc, hd, by simpa using hs⟩, ?_⟩
    have e := r.length
    simp only [Array.length_toList] at e
    omega
theorem Inv.tuple (I : Inv X pins σ H s) (h : SqT X.K H a xs) : ∃ its : List Value, Vals xs its ∧ IsTup s.heap a its.toArray ∧ xs.length ≤ sizeLine := by
  rcases h with h | ⟨o, its, n, hk, hc, hs, hz, r⟩
  · obtain ⟨z, its, r, p⟩ := h.ok I.hok
    exact ⟨its, r, p, z⟩
  · refine ⟨its.toList, r, ⟨o, I.kIn a o hk, hc, n, by simpa using hs⟩, ?_⟩
    have e := r.length
    simp only [Array.length_toList] at e
    omega
theorem Inv.list_inj (I : Inv X pins σ H s) (h : SqL X.K H a xs) (h' : SqL X.K H a ys) : xs = ys := by
  obtain ⟨its, r, ⟨o, n, e, _, _, d⟩, _⟩ := I.list h
  obtain ⟨its', r', ⟨o', n', e', _, _, d'⟩, _⟩ := I.list h'
  rw [e] at e'; cases e'
  rw [d] at d'
  injection d' with d1 _
  have : its = its' := by simpa using congrArg Array.toList d1
  subst this
  exact r.inj r'
end
abbrev Cx.wish (X : Cx) (E : Value → Shared → Prop) : Cx := { X with xe := E }
/-- no exception leaves -/
abbrev Cx.nox (X : Cx) : Cx := X.wish fun _ _ => False
theorem Cx.Ok.wish {X : Cx} (ok : X.Ok) (E : Value → Shared → Prop) : (X.wish E).Ok :=
  ⟨ok.mod, ok.kind, ok.glob, ok.blt, ok.above, ok.inj, ok.has, ok.cab, ok.hd, ok.frames, ok.stk, ok.exf, ok.bs, ok.bsz, ok.noex, ok.exfs, ok.funs, ok.frf⟩
theorem Cx.Ok.unwish {X : Cx} {E : Value → Shared → Prop} (ok : (X.wish E).Ok) : X.Ok :=
  ⟨ok.mod, ok.kind, ok.glob, ok.blt, ok.above, ok.inj, ok.has, ok.cab, ok.hd, ok.frames, ok.stk, ok.exf, ok.bs, ok.bsz, ok.noex, ok.exfs, ok.funs, ok.frf⟩
section
variable {X : Cx} {pins : List (Addr × Obj)} {σ : St} {H : Hp} {s : Shared} {E : Value → Shared → Prop}
theorem Inv.wish (I : Inv X pins σ H s) (E : Value → Shared → Prop) : Inv (X.wish E) pins σ H s := ⟨I.ok.wish E, I.os, I.bare, I.base, I.loc, I.cell, I.free, I.freeC, I.pin, I.hok, I.len⟩
theorem Inv.unwish (I : Inv (X.wish E) pins σ H s) : Inv X pins σ H s := ⟨I.ok.unwish, I.os, I.bare, I.base, I.loc, I.cell, I.free, I.freeC, I.pin, I.hok, I.len⟩
theorem SP.unwish {D : Ends} {f : Flow} {s' : Shared} (h : SP (X.wish E) pins D f s') : SP X pins D f s' := by
  cases f with
  | next => obtain ⟨σ', H', I, q⟩ := h; exact ⟨σ', H', I.unwish, q⟩
  | brk => obtain ⟨σ', H', I, q⟩ := h; exact ⟨σ', H', I.unwish, q⟩
  | cont => obtain ⟨σ', H', I, q⟩ := h; exact ⟨σ', H', I.unwish, q⟩
  | ret u => obtain ⟨v, σ', H', I, r, q⟩ := h; exact ⟨v, σ', H', I.unwish, r, q⟩
theorem PE.nox {e : Expr} {t : TE} (h : PE X.nox e t) : PE X e t := fun pins s σ H Q I hw =>
  wpAny_mono (h pins s σ H Q (I.wish _) hw) (fun _ _ ⟨v, H', I', r, q⟩ => ⟨v, H', I'.unwish, r, q⟩) fun _ _ z => False.elim z
theorem PT.nox {e : Expr} {t : TT} (h : PT X.nox e t) : PT X e t := fun pins s σ H Q I hw =>
  wpAny_mono (h pins s σ H Q (I.wish _) hw) (fun _ _ ⟨H', I', q⟩ => ⟨H', I'.unwish, q⟩) fun _ _ z => False.elim z
theorem PSs.nox {st : List Stmt} {t : TS} (h : PSs X.nox st t) : PSs X st t := fun pins s σ H D I hw =>
  wpAny_mono (h pins s σ H D (I.wish _) hw) (fun _ _ q => q.unwish) fun _ _ z => False.elim z
end
section
variable {X : Cx} {st : Stmt} {rest : List Stmt} {t u : TS} {e : Expr} {te : TE} {pos : Pos}
def tNext : TS := fun D σ H => D.nx σ H
def tSeq (t u : TS) : TS := fun D σ H => t { D with nx := u D } σ H
theorem pss_nil : PSs X [] tNext := fun _ _ σ H _ I h => wpAny_execs_nil ⟨σ, H, I, h⟩
theorem pss_cons (h1 : PS X st t) (h2 : PSs X rest u) : PSs X (st :: rest) (tSeq t u) := by
  intro pins s σ H D I h
  refine wpAny_execs_cons (thn (h1 pins s σ H { D with nx := u D } I h) fun f s1 q => ?_)
  cases f with
  | next =>
    obtain ⟨σ', H', I', q⟩ := q
    exact h2 pins s1 σ' H' D I' q
  | ret v => exact q
  | brk => exact q
  | cont => exact q
theorem pss_one (h1 : PS X st t) : PSs X [st] t := by
  intro pins s σ H D I h
  refine wpAny_execs_cons (thn (h1 pins s σ H D I h) fun f s1 q => ?_)
  cases f with
  | next => exact wpAny_execs_nil q
  | ret v => exact q
  | brk => exact q
  | cont => exact q
/-- in a def's body nothing is shown -/
theorem Inv.quiet {pins : List (Addr × Obj)} {σ : St} {H : Hp} {s : Shared} (I : Inv X pins σ H s) : interactive X.env = false := by simp [interactive, I.ok.kind]
/-- an expression whose value is dropped -/
def tDrop (te : TE) : TS := fun D σ H => te σ H fun _ H1 => D.nx σ H1
theorem ps_expr (he : PE X e te) (hs : swapsWith e none pos.line X.env = pure false := by rfl) : PS X (.Expr e pos) (tDrop te) := by
  intro pins s σ H D I h
  exact wpAny_Expr_any (thn (he pins s σ H _ I h) fun v s1 ⟨x, H1, I1, r1, q1⟩ => ⟨σ, H1, I1, q1⟩) I.quiet hs
def tRet (te : TE) : TS := fun D σ H => te σ H D.rt
theorem ps_ret (he : PE X e te) : PS X (.Return (some e) pos) (tRet te) := by
  intro pins s σ H D I h
  exact wpAny_Return_some (thn (he pins s σ H _ I h) fun v s1 ⟨x, H1, I1, r1, q1⟩ => ⟨x, σ, H1, I1, r1, q1⟩)
def tIfS (c : TT) (t u : TS) : TS := fun D σ H => c σ H fun b H1 => if b = true then t D σ H1 else u D σ H1
theorem ps_if {c : Expr} {a b : List Stmt} {tc : TT} (hc : PT X c tc) (ha : PSs X a t) (hb : PSs X b u) : PS X (.If c a b pos) (tIfS tc t u) := by
  intro pins s σ H D I h
  refine wpAny_If (thn (hc pins s σ H _ I h) fun d s1 ⟨H1, I1, q1⟩ => ?_)
  cases d with
  | true => exact ha pins s1 σ H1 D I1 q1
  | false => exact hb pins s1 σ H1 D I1 q1
end
abbrev TG := V → St → Hp → (St → Hp → Prop) → Prop
abbrev TGs := List V → St → Hp → (St → Hp → Prop) → Prop
def PG (X : Cx) (target : Expr) (t : TG) : Prop :=
  ∀ (pins : List (Addr × Obj)) (s : Shared) (σ : St) (H : Hp) (v : V) (u : Value) (Q : St → Hp → Prop), Inv X pins σ H s → RelV v u → t v σ H Q →
    wpAny (model X.prog X.w) X.A (assign target X.env u) (fun _ s' => ∃ σ' H', Inv X pins σ' H' s' ∧ Q σ' H') X.xe s
/-- several targets, one after another -/
def PGs (X : Cx) (ts : List Expr) (t : TGs) : Prop :=
  ∀ (pins : List (Addr × Obj)) (s : Shared) (σ : St) (H : Hp) (vs : List V) (us : List Value) (Q : St → Hp → Prop), Inv X pins σ H s → Vals vs us → t vs σ H Q →
    wpAny (model X.prog X.w) X.A (assignInOrder ((assignEach ts X.env).map (·.2)) us) (fun _ s' => ∃ σ' H', Inv X pins σ' H' s' ∧ Q σ' H') X.xe s
section
variable {X : Cx} {pos : Pos}
def gName (i : Nat) : TG := fun v σ H Q => Q (σ.set i (some v)) H
theorem pg_name {i : Nat} {x : Str} (hN : X.N.Nodup) (hi : X.N[i]? = some x) (hx : Loc X.env.scope x) (hf : X.fn x = true ∨ X.env.scope.names.lookup x = some .local := by first | exact .inl rfl | exact .inr rfl | assumption) : PG X (.Name x pos) (gName i) := by
  intro pins s σ H v u Q I r h
  exact wpAny_assign_Name (store_ok I hN hi hx r (fun s' I' => ⟨_, H, I', h⟩) hf)
def gNil : TGs := fun vs σ H Q => vs = [] ∧ Q σ H
def gCons (t : TG) (u : TGs) : TGs := fun vs σ H Q => ∃ v r, vs = v :: r ∧ t v σ H fun σ' H' => u r σ' H' Q
theorem pgs_nil : PGs X [] gNil := by
  intro pins s σ H vs us Q I r h
  obtain ⟨e, h⟩ := h
  subst e
  cases r
  exact assignInOrder_nil ⟨σ, H, I, h⟩
theorem pgs_cons {e : Expr} {es : List Expr} {t : TG} {u : TGs} (h1 : PG X e t) (h2 : PGs X es u)
    (hs : (assignEach (e :: es) X.env).map (·.2) = assign e X.env :: (assignEach es X.env).map (·.2) := by rfl) : PGs X (e :: es) (gCons t u) := by
  intro pins s σ H vs us Q I r h
  obtain ⟨v, vr, e1, h⟩ := h
  subst e1
  cases r with
  | cons r rr =>
    rw [hs]
    refine assignInOrder_cons (thn (h1 pins s σ H _ _ _ I r h) fun _ s1 ⟨σ1, H1, I1, q1⟩ => ?_)
    exact h2 pins s1 σ1 H1 _ _ Q I1 rr q1
/-- (a, b, ..) = a tuple of that length -/
def gTup (K : PySem.W.Frag) (n : Nat) (t : TGs) : TG := fun v σ H Q => ∃ a xs, v = .ref a ∧ SqT K H a xs ∧ xs.length = n ∧ t xs σ H Q
theorem pg_tup {es : List Expr} {k : Nat} {t : TGs} {n : Nat} (hc : X.calm = true) (h : PGs X es t)
    (hn : (assignEach es X.env).length = n := by rfl) (hst : (assignEach es X.env).findIdx? (·.1) = none := by rfl) : PG X (.Tuple es k pos) (gTup X.K n t) := by
  intro pins s σ H v u Q I r hw
  obtain ⟨a, xs, e1, hq, hl, hw⟩ := hw
  subst e1
  cases r
  obtain ⟨its, rv, ht, hz⟩ := I.tuple hq
  refine assign_Tuple_tuple (I.ok.hd hc) ht (by simp [hn, ← hl, rv.length]) hst fun h' hx => ?_
  have I1 : Inv X pins σ H { s with heap := h' } := I.kept (t' := s.toks) fun b o e => hx b o (Nat.ne_of_lt (Heap.lt_size e)) e
  exact h pins _ σ H xs _ Q I1 (by simpa using rv) hw
/-- target = value -/
def tAsg (te : TE) (g : TG) : TS := fun D σ H => te σ H fun x H1 => g x σ H1 D.nx
/-- name = value -/
theorem ps_set {i : Nat} {x : Str} {e : Expr} {te : TE} {pos' : Pos} (hN : X.N.Nodup) (hi : X.N[i]? = some x) (hx : Loc X.env.scope x) (he : PE X e te) (hs : swapsWith e (some (.Name x pos')) pos.line X.env = pure false := by rfl) (hf : X.fn x = true ∨ X.env.scope.names.lookup x = some .local := by first | exact .inl rfl | exact .inr rfl | assumption) :
    PS X (.Assign [.Name x pos'] e pos) (tAsg te (gName i)) := by
  intro pins s σ H D I h
  refine wpAny_Assign_Name (thn (he pins s σ H _ I h) fun v s1 ⟨y, H1, I1, r1, q1⟩ => ?_) hs
  exact store_ok I1 hN hi hx r1 (fun s2 I2 => ⟨_, H1, I2, q1⟩) hf
end
section
variable {X : Cx} {pos : Pos}
/-- the invariant W with its measure -/
def tWhile (c : TT) (tb : TS) : TS := fun D σ H => ∃ W : Nat → St → Hp → Prop, (∃ m, W m σ H) ∧ ∀ m σ H, W m σ H →
  c σ H fun b H1 => if b = true then ∃ N : St → Hp → Prop, (∀ σ' H', N σ' H' → ∃ m', m' < m ∧ W m' σ' H') ∧ tb { D with nx := N, ct := N, bk := D.nx } σ H1 else D.nx σ H1
theorem ps_while {c : Expr} {body : List Stmt} {tc : TT} {tb : TS} (hp : PassesOwn (model X.prog X.w) X.A X.env X.xe) (hc : PT X c tc) (hb : PSs X body tb) : PS X (.While c body [] pos) (tWhile tc tb) := by
  intro pins s σ H D I h
  obtain ⟨W, ⟨m0, w0⟩, turn⟩ := h
  refine wpAny_While (codeAny_whileLoop (fun n s' => ∃ σ' H', Inv X pins σ' H' s' ∧ W n σ' H') ?_ m0 ⟨σ, H, I, w0⟩)
  rintro n s1 ⟨σ1, H1, I1, w1⟩
  refine wpAny_passesOwn hp (thn (hc pins s1 σ1 H1 _ I1 (turn n σ1 H1 w1)) fun b s2 ⟨H2, I2, q2⟩ => ?_)
  cases b with
  | true =>
    obtain ⟨N, hN, q2⟩ := q2
    rw [if_pos rfl]
    refine wpAny_passesOwn hp (thn (hb pins s2 σ1 H2 _ I2 q2) fun f s3 q3 => ?_)
    cases f with
    | next =>
      obtain ⟨σ3, H3, I3, n3⟩ := q3
      obtain ⟨m', hm, w3⟩ := hN σ3 H3 n3
      exact ⟨m', hm, σ3, H3, I3, w3⟩
    | cont =>
      obtain ⟨σ3, H3, I3, n3⟩ := q3
      obtain ⟨m', hm, w3⟩ := hN σ3 H3 n3
      exact ⟨m', hm, σ3, H3, I3, w3⟩
    | brk => exact q3
    | ret v => exact q3
  | false =>
    rw [if_neg Bool.false_ne_true]
    exact wpAny_execs_nil ⟨σ1, H2, I2, q2⟩
end
/-- at turn i: it yields x (the heap may grow), or it stops -/
structure It where
  go : Nat → Hp → Prop
  yld : Nat → Hp → V → Hp → Prop
  stop : Nat → Hp → Prop
/-- the iterator's own objects may turn: they are not the frame's, not pinned, younger than the entry (or a comprehension's own) -/
def FpOk (X : Cx) (pins : List (Addr × Obj)) (H : Hp) (b : Addr) : Prop :=
  H b = none ∧ b ≠ X.env.locals ∧ b ∉ X.fs ∧ (b ∈ X.ex ∨ X.s_0.heap.objs.size ≤ b) ∧ (∀ x c, X.env.cells.lookup x = some c → c ≠ b) ∧ ∀ p ∈ X.pn ++ pins, p.1 ≠ b
theorem Inv.fpOk {X : Cx} {pins : List (Addr × Obj)} {σ : St} {H H' : Hp} {s : Shared} {b : Addr} (I : Inv X pins σ H s) (hb : s.heap.objs.size ≤ b) (hn : H' b = none) : FpOk X pins H' b := by
  refine ⟨hn, Nat.ne_of_gt (Nat.lt_of_lt_of_le I.lt hb), I.nofs hb, .inr (Nat.le_trans I.sz hb), fun x c e z => ?_, fun p hp z => ?_⟩
  · obtain ⟨v, q⟩ := I.cell x c e
    exact absurd (Nat.lt_of_lt_of_le q.lt (by rw [z]; exact hb)) (Nat.lt_irrefl _)
  · exact absurd (Nat.lt_of_lt_of_le (Heap.lt_size (I.pin p hp).1) (by rw [z]; exact hb)) (Nat.lt_irrefl _)
structure Turn (P : Program) (w : World) (K : PySem.W.Frag) (tg : Expr) (J : It) (fp : List Addr) (it : Addr) (tn : Nat → Heap → Prop) : Prop where
  mem : it ∈ fp
  obj : ∀ i h, tn i h → ∀ b ∈ fp, ∃ o, h.get? b = some o ∧ ∀ v, o.data ≠ .cell v
  keep : ∀ i h h', tn i h → (∀ b ∈ fp, ∀ o, h.get? b = some o → h'.get? b = some o) → tn i h'
  item : ∀ (X : Cx), X.prog = P → X.w = w → X.K = K → X.calm = true → ∀ (i : Nat) (pins : List (Addr × Obj)) (s : Shared) (σ : St) (H : Hp) (E : Value → Shared → Prop), Inv X pins σ H s → (∀ b ∈ fp, FpOk X pins H b) → tn i s.heap → J.go i H →
    wpAny (model P w) X.A (pyNext (.ref it)) (fun r s1 => ∃ u, r = some u ∧
      wpAny (model P w) X.A (letOwnedTupleGo tg (.ref it) u) (fun _ s2 => ∃ x H', Inv X pins σ H' s2 ∧ RelV x u ∧ J.yld i H x H' ∧ tn (i + 1) s2.heap ∧ ∀ b ∈ fp, H' b = none) E s1) E s
  done : ∀ (X : Cx), X.prog = P → X.w = w → X.K = K → X.calm = true → ∀ (i : Nat) (pins : List (Addr × Obj)) (s : Shared) (σ : St) (H : Hp) (E : Value → Shared → Prop), Inv X pins σ H s → (∀ b ∈ fp, FpOk X pins H b) → tn i s.heap → J.stop i H →
    wpAny (model P w) X.A (pyNext (.ref it)) (fun r s1 => r = none ∧ Inv X pins σ H s1) E s
  self : ∀ (A : Around) (i : Nat) (s : Shared) (Q : Value → Shared → Prop) (E : Value → Shared → Prop), tn i s.heap → Q (.ref it) s → wpAny (model P w) A (pyIter (.ref it)) Q E s
abbrev TI := St → Hp → (It → Hp → Prop) → Prop
/-- an iterator has come -/
def PIE (X : Cx) (pins : List (Addr × Obj)) (σ : St) (tg : Expr) (R : It → Hp → Prop) (itv : Value) (s2 : Shared) : Prop :=
  ∃ (it : Addr) (fp : List Addr) (tn : Nat → Heap → Prop) (J : It) (H' : Hp), itv = .ref it ∧ Inv X pins σ H' s2 ∧ Turn X.prog X.w X.K tg J fp it tn ∧ tn 0 s2.heap ∧ (∀ b ∈ fp, FpOk X pins H' b) ∧ R J H'
def PI (X : Cx) (tg iter : Expr) (wi : TI) : Prop :=
  ∀ (pins : List (Addr × Obj)) (s : Shared) (σ : St) (H : Hp) (R : It → Hp → Prop), Inv X pins σ H s → wi σ H R →
    wpAny (model X.prog X.w) X.A (eval iter X.env) (fun v s1 => wpAny (model X.prog X.w) X.A (pyIter v) (PIE X pins σ tg R) X.xe s1) X.xe s

/-- the step ahead of the store is nothing for an iterator that keeps no tuple -/
theorem go_of {M : Model} {A : Around} {E : Value → Shared → Prop} {s : Shared} {tg : Expr} {it : Addr} {u : Value} {o : Obj} {n : String} {vs : Array Value} {Q : Unit → Shared → Prop} (ho : s.heap.get? it = some o) (hc : o.cls = .type n) (hd : o.data = .fields vs)
    (hn : ["enumerate", "zip", "dict_itemiterator", "dict_reverseitemiterator", "odict_iterator", "itertools.zip_longest", "itertools.pairwise"].contains n = false) (hQ : Q () s) : wpAny M A (letOwnedTupleGo tg (.ref it) u) Q E s := by
  unfold letOwnedTupleGo
  cases tg <;> first
    | exact wpAny_pure hQ
    | (cases u <;> first
        | exact wpAny_pure hQ
        | (refine wpAny_bind (wpAny_load ho ?_)
           rw [hc, hd]
           show wpAny M A (if (["enumerate", "zip", "dict_itemiterator", "dict_reverseitemiterator", "odict_iterator", "itertools.zip_longest", "itertools.pairwise"].contains n && vs[0]? == some (rawInt _)) = true then _ else _) Q E s
           rw [if_neg (by intro h; rw [hn, Bool.false_and] at h; cases h)]
           exact wpAny_pure hQ))

/-- the list at a, as it stands at each turn (a loop may append to it) -/
def Itl (K : PySem.W.Frag) (a : Addr) : It :=
  ⟨fun i H => ∃ xs x, SqL K H a xs ∧ xs[i]? = some x, fun i H x H' => H' = H ∧ ∀ xs, SqL K H a xs → xs[i]? = some x, fun i H => ∃ xs, SqL K H a xs ∧ xs.length ≤ i⟩
/-- lo, lo + 1, .. (n of them) -/
def Itr (lo : Int) (n : Nat) : It := ⟨fun i _ => i < n, fun i H x H' => H' = H ∧ x = .int (lo + i), fun i _ => n ≤ i⟩
theorem turn_list {P : Program} {w : World} {K : PySem.W.Frag} {tg : Expr} (a it : Addr) : Turn P w K tg (Itl K a) [it] it (fun i h => h.IsListIter it a i) where
  mem := by simp
  obj := fun i h st b hb => by
    have e : b = it := by simpa using hb
    subst e
    obtain ⟨o, e, c, d⟩ := st
    exact ⟨o, e, fun v z => by rw [d] at z; cases z⟩
  keep := fun i h h' st k => st.at fun o e => k it (by simp) o e
  item := by
    intro X hP hw hK hc i pins s σ H E I hf st hg
    subst hP hw hK
    obtain ⟨xs, x, hq, hx⟩ := hg
    obtain ⟨its, rv, p, hz⟩ := I.list hq
    obtain ⟨u, hu, ru⟩ := rv.get hx
    obtain ⟨f0, f1, f2, f3, f4, f5⟩ := hf it (by simp)
    refine wpAny_pyNext_list_item st p.isList (x := u) (by simpa using hu) fun h' st' sb => ?_
    have I1 : Inv X pins σ H { s with heap := h' } := I.turned (t' := s.toks) (fun b o hb e => (sb.2 b hb).trans e) f0 f1 f3 f4 f5
    obtain ⟨o, e, c, d⟩ := id st'
    exact ⟨u, rfl, go_of (s := { s with heap := h' }) e c d (by decide) ⟨x, H, I1, ru, ⟨rfl, fun ys hy => by rw [I.list_inj hy hq]; exact hx⟩, st', fun b hb => (hf b hb).1⟩⟩
  done := by
    intro X hP hw hK hc i pins s σ H E I hf st hg
    subst hP hw hK
    obtain ⟨xs, hq, hx⟩ := hg
    obtain ⟨its, rv, p, hz⟩ := I.list hq
    obtain ⟨f0, f1, f2, f3, f4, f5⟩ := hf it (by simp)
    have hl := rv.length
    exact wpAny_pyNext_list_end (I.ok.hd hc) st p.isList (by simp; omega) fun h' eb => ⟨rfl, I.turned (t' := s.toks) (fun b o hb e => eb b o hb e) f0 f1 f3 f4 f5⟩
  self := fun _ _ _ _ _ st h => wpAny_pyIter_listiter st h
theorem turn_range {P : Program} {w : World} {K : PySem.W.Frag} {tg : Expr} (it : Addr) (lo : Int) (n : Nat) : Turn P w K tg (Itr lo n) [it] it (fun i h => IsRangeIter h it (lo + (i : Nat) * 1) ((n : Int) - (i : Nat)) 1) where
  mem := by simp
  obj := fun i h st b hb => by
    have e : b = it := by simpa using hb
    subst e
    exact ⟨_, st, fun v z => by
      have z' : Data.fields _ = Data.cell v := z
      cases z'⟩
  keep := fun i h h' st k => k it (by simp) _ st
  item := by
    intro X hP hw hK hc i pins s σ H E I hf st hg
    subst hP hw hK
    obtain ⟨f0, f1, f2, f3, f4, f5⟩ := hf it (by simp)
    have W := Walks.range (prog := X.prog) (w := X.w) (I.ok.hd hc) it lo 1 n
    refine W.item i s _ _ hg st fun v h' tk hv st' kk => ?_
    obtain ⟨t, rfl⟩ := hv
    have I1 : Inv X pins σ H { s with heap := h', toks := tk } := I.turned (fun b o hb e => kk b o (by simpa using hb) e) f0 f1 f3 f4 f5
    refine ⟨_, rfl, go_of (s := { s with heap := h', toks := tk }) (n := "range_iterator") st' rfl rfl (by decide) ⟨.int (lo + i), H, I1, ⟨t, ?_⟩, ⟨rfl, rfl⟩, st', fun b hb => (hf b hb).1⟩⟩
    rw [Int.mul_one]
  done := by
    intro X hP hw hK hc i pins s σ H E I hf st hg
    subst hP hw hK
    obtain ⟨f0, f1, f2, f3, f4, f5⟩ := hf it (by simp)
    exact wpAny_pyNext_range_end (I.ok.hd hc) st (by have : n ≤ i := hg; omega) fun h' eb => ⟨rfl, I.turned (t' := s.toks) (fun b o hb e => eb b o hb e) f0 f1 f3 f4 f5⟩
  self := fun _ _ _ _ _ st h => wpAny_pyIter_rangeiter st h
end L2
namespace L2
open PySem PySem.Spec PyProof.Rows
section
variable {X : Cx} {tg : Expr}
def iList (K : PySem.W.Frag) (tl : TE) : TI := fun σ H R => tl σ H fun x H1 => ∃ a, x = .ref a ∧ (∃ xs, SqL K H1 a xs) ∧ R (Itl K a) H1
theorem pi_list {l : Expr} {tl : TE} (hl : PE X l tl) : PI X tg l (iList X.K tl) := by
  intro pins s σ H R I h
  refine thn (hl pins s σ H _ I h) fun v s1 ⟨x, H1, I1, r1, q1⟩ => ?_
  obtain ⟨a, e, ⟨xs, hq⟩, q⟩ := q1
  subst e
  cases r1
  obtain ⟨its, rv, p, hz⟩ := I1.list hq
  refine wpAny_pyIter_list p.isList ?_
  refine ⟨s1.heap.objs.size, [s1.heap.objs.size], _, _, H1, rfl, I1.kept (t' := s1.toks) fun b o e => Heap.get?_push_of_some _ e, turn_list a _, ⟨_, Heap.get?_push_size _ rfl, rfl, rfl⟩, fun b hb => ?_, q⟩
  have e : b = s1.heap.objs.size := by simpa using hb
  subst e
  exact I1.fpOk (Nat.le_refl _) (I1.hok.fresh (Nat.le_refl _))
/-- a range object just made, walked -/
theorem range_it {pins : List (Addr × Obj)} {σ : St} {H : Hp} {s : Shared} {R : It → Hp → Prop} {E : Value → Shared → Prop} {lo hi : Int} {t u v : Tok} {tk : Nat} (I : Inv X pins σ H s) (h1 : -(2 ^ 62) ≤ lo) (h2 : lo < 2 ^ 62) (h3 : -(2 ^ 62) ≤ hi) (h4 : hi < 2 ^ 62)
    (q : R (Itr lo (hi - lo).toNat) H) : wpAny (model X.prog X.w) X.A (pyIter (.ref s.heap.objs.size)) (PIE X pins σ tg R) E { s with heap := s.heap.push { cls := .type "range", data := .fields #[.int lo t, .int hi u, .int 1 v] }, toks := tk } := by
  refine wpAny_pyIter_range (IsRange.new ..) (small_one h1 h2 h3 h4) ?_
  have I1 : Inv X pins σ H { s with heap := s.heap.push { cls := .type "range", data := .fields #[.int lo t, .int hi u, .int 1 v] }, toks := tk } := I.kept fun b o e => Heap.get?_push_of_some _ e
  refine ⟨(s.heap.push { cls := .type "range", data := .fields #[.int lo t, .int hi u, .int 1 v] }).objs.size, [(s.heap.push { cls := .type "range", data := .fields #[.int lo t, .int hi u, .int 1 v] }).objs.size], _, _, H, rfl,
    I1.kept (t' := tk) fun b o e => Heap.get?_push_of_some _ e, turn_range _ lo (hi - lo).toNat, ?_, fun b hb => ?_, q⟩
  · have e1 : lo + ((0 : Nat) : Int) * 1 = lo := by simp
    have e2 : (((hi - lo).toNat : Nat) : Int) - ((0 : Nat) : Int) = Builtin.Range.rangeSize lo hi 1 := by rw [rangeSize_one]; split <;> omega
    show IsRangeIter _ _ (lo + ((0 : Nat) : Int) * 1) ((((hi - lo).toNat : Nat) : Int) - ((0 : Nat) : Int)) 1
    rw [e1, e2]
    exact Heap.get?_push_size _ rfl
  · have e : b = (s.heap.push { cls := .type "range", data := .fields #[.int lo t, .int hi u, .int 1 v] }).objs.size := by simpa using hb
    subst e
    exact I1.fpOk (Nat.le_refl _) (I1.hok.fresh (Nat.le_refl _))
def iRng1 (ta : TA) : TI := fun σ H R => ta σ H fun vs H1 => ∃ j : Int, vs = [.int j] ∧ -(2 ^ 62) ≤ j ∧ j < 2 ^ 62 ∧ R (Itr 0 j.toNat) H1
def iRng2 (ta : TA) : TI := fun σ H R => ta σ H fun vs H1 => ∃ i j : Int, vs = [.int i, .int j] ∧ (-(2 ^ 62) ≤ i ∧ i < 2 ^ 62 ∧ -(2 ^ 62) ≤ j ∧ j < 2 ^ 62) ∧ R (Itr i (j - i).toNat) H1
theorem pi_range1 {a : Expr} {ta : TA} {p pos : Pos} (hg : Gl X "range") (hm : X.mg "range" = none) (ha : PA X [a] ta) (hs : starEach [a] X.env = [(false, eval a X.env)] := by rfl) : PI X tg (.Call (.Name "range" p) [a] [] pos) (iRng1 ta) := by
  intro pins s σ H R I h
  refine Call_ (ld_blt I hg hm boot_range (PyProof.Rows.callWith_type1 (thn (ha pos pins s σ H _ I h) fun us s1 ⟨vs, H1, I1, r1, q1⟩ => ?_) hs rfl))
  obtain ⟨j, e, q1, q2, q⟩ := q1
  subst e
  cases r1 with
  | cons r rr =>
    cases rr
    obtain ⟨t, rfl⟩ := r
    exact call_range_1 (range_it I1 (by omega) (by omega) q1 q2 (by simpa using q))
theorem pi_range2 {a b : Expr} {ta : TA} {p pos : Pos} (hg : Gl X "range") (hm : X.mg "range" = none) (ha : PA X [a, b] ta) (hs : starEach [a, b] X.env = [(false, eval a X.env), (false, eval b X.env)] := by rfl) (hs2 : starEach [b] X.env = [(false, eval b X.env)] := by rfl) :
    PI X tg (.Call (.Name "range" p) [a, b] [] pos) (iRng2 ta) := by
  intro pins s σ H R I h
  refine Call_ (ld_blt I hg hm boot_range (PyProof.Rows.callWith_type1 (thn (ha pos pins s σ H _ I h) fun us s1 ⟨vs, H1, I1, r1, q1⟩ => ?_) (by rw [hs, hs2]) (by rw [hs2]; rfl)))
  obtain ⟨i, j, e, ⟨q1, q2, q3, q4⟩, q⟩ := q1
  subst e
  cases r1 with
  | cons r rr =>
    cases rr with
    | cons r' rr =>
      cases rr
      obtain ⟨t, rfl⟩ := r
      obtain ⟨t', rfl⟩ := r'
      exact call_range_2 (range_it I1 q1 q2 q3 q4 q)

/-- W: the invariant by the turn and a measure; N: what the body is to reach -/
def tFor (wi : TI) (g : TG) (tb : TS) : TS := fun D σ H => wi σ H fun J H1 => ∃ W : Nat → Nat → St → Hp → Prop, (∃ m, W 0 m σ H1) ∧ ∀ i m σ H, W i m σ H →
  (J.stop i H ∧ D.nx σ H) ∨ (J.go i H ∧ ∃ N : St → Hp → Prop, (∀ σ' H', N σ' H' → ∃ m', m' < m ∧ W (i + 1) m' σ' H') ∧ ∀ x H', J.yld i H x H' → g x σ H' fun σ2 H2 => tb { D with nx := N, ct := N, bk := D.nx } σ2 H2)
/-- the records at fp as they stand -/
def pinsAt (fp : List Addr) (h : Heap) : List (Addr × Obj) := fp.filterMap fun b => (h.get? b).map fun o => (b, o)
theorem mem_pinsAt {fp : List Addr} {h : Heap} {b : Addr} {o : Obj} (hb : b ∈ fp) (e : h.get? b = some o) : (b, o) ∈ pinsAt fp h := List.mem_filterMap.mpr ⟨b, hb, by rw [e]; rfl⟩
theorem of_pinsAt {fp : List Addr} {h : Heap} {p : Addr × Obj} (hp : p ∈ pinsAt fp h) : p.1 ∈ fp ∧ h.get? p.1 = some p.2 := by
  obtain ⟨b, hb, e⟩ := List.mem_filterMap.mp hp
  cases q : h.get? b with
  | none => rw [q] at e; cases e
  | some o =>
    rw [q] at e
    have e' : (b, o) = p := Option.some.inj e
    subst e'
    exact ⟨hb, q⟩
theorem Inv.pinned {pins : List (Addr × Obj)} {σ : St} {H : Hp} {s : Shared} {fp : List Addr} (I : Inv X pins σ H s) (hf : ∀ b ∈ fp, FpOk X pins H b) (ho : ∀ b ∈ fp, ∃ o, s.heap.get? b = some o ∧ ∀ v, o.data ≠ .cell v) : Inv X (pins ++ pinsAt fp s.heap) σ H s :=
  I.pins_of fun p hp => (List.mem_append.mp hp).elim (fun z => I.pin p (List.mem_append_right _ z)) fun z => by
    obtain ⟨hb, e⟩ := of_pinsAt z
    obtain ⟨f0, f1, f2, _⟩ := hf p.1 hb
    obtain ⟨o, e', d⟩ := ho p.1 hb
    rw [e] at e'; cases e'
    exact ⟨e, f0, f1, f2, d⟩
theorem Inv.unpinned {pins pl : List (Addr × Obj)} {σ : St} {H : Hp} {s : Shared} (I : Inv X (pins ++ pl) σ H s) : Inv X pins σ H s := I.pins_of fun p hp => I.pin p (List.mem_append_right _ (List.mem_append_left _ hp))
theorem ps_for {iter : Expr} {body : List Stmt} {wi : TI} {g : TG} {tb : TS} {pos : Pos} (hp : PassesOwn (model X.prog X.w) X.A X.env X.xe) (hc : X.calm = true) (hi : PI X tg iter wi) (hg : PG X tg g) (hb : PSs X body tb)
    (hs : ∀ x, foldedSetIterable iter X.env x = pure x := by intro _; rfl) : PS X (.For tg iter body [] pos) (tFor wi g tb) := by
  intro pins s σ H D I h
  refine wpAny_For (thn (hi pins s σ H _ I h) fun v s1 h1 => thn h1 fun itv s2 h2 => ?_) hs
  obtain ⟨it, fp, tn, J, H2, e, I2, T, st2, f2, W, ⟨m0, w0⟩, turn⟩ := h2
  subst e
  -- what stays true of the iterator's objects through the loop
  have stat : ∀ {H' : Hp}, (∀ b ∈ fp, H' b = none) → ∀ b ∈ fp, FpOk X pins H' b := fun hn b hb => ⟨hn b hb, (f2 b hb).2⟩
  refine codeAny_forLoop_any (fun n s' => ∃ i σ' H', Inv X pins σ' H' s' ∧ tn i s'.heap ∧ (∀ b ∈ fp, H' b = none) ∧ W i n σ' H') ?_ m0 ⟨0, σ, H2, I2, st2, fun b hb => (f2 b hb).1, w0⟩
  rintro n s3 ⟨i, σ3, H3, I3, st3, fr3, w3⟩
  rcases turn i n σ3 H3 w3 with ⟨stop, qn⟩ | ⟨go, N, hN, step⟩
  · refine wpAny_passesOwn hp (thn (T.done X rfl rfl rfl hc i pins s3 σ3 H3 X.xe I3 (stat fr3) st3 stop) fun r s4 ⟨hr, I4⟩ => ?_)
    subst hr
    exact wpAny_execs_nil ⟨σ3, H3, I4, qn⟩
  · refine wpAny_passesOwn hp (thn (T.item X rfl rfl rfl hc i pins s3 σ3 H3 X.xe I3 (stat fr3) st3 go) fun r s4 ⟨u, hr, h4⟩ => ?_)
    subst hr
    refine wpAny_passesOwn hp (thn h4 fun _ s5 ⟨x, H5, I5, r5, y5, st5, fr5⟩ => ?_)
    have I5' := I5.pinned (stat fr5) (T.obj _ _ st5)
    refine wpAny_passesOwn hp (thn (hg _ s5 σ3 H5 x u _ I5' r5 (step x H5 y5)) fun _ s6 ⟨σ6, H6, I6, q6⟩ => ?_)
    refine wpAny_passesOwn hp (thn (hb _ s6 σ6 H6 _ I6 q6) fun f s7 q7 => ?_)
    have again : ∀ {σ7 : St} {H7 : Hp}, Inv X (pins ++ pinsAt fp s5.heap) σ7 H7 s7 → N σ7 H7 → ∃ m, m < n ∧ ∃ i σ' H', Inv X pins σ' H' s7 ∧ tn i s7.heap ∧ (∀ b ∈ fp, H' b = none) ∧ W i m σ' H' := fun {σ7 H7} I7 n7 => by
      obtain ⟨m', hm, w7⟩ := hN σ7 H7 n7
      refine ⟨m', hm, i + 1, σ7, H7, I7.unpinned, T.keep _ _ _ st5 fun b hb o e => (I7.pin (b, o) (List.mem_append_right _ (List.mem_append_right _ (mem_pinsAt hb e)))).1, fun b hb => ?_, w7⟩
      obtain ⟨o, e, d⟩ := T.obj _ _ st5 b hb
      exact (I7.pin (b, o) (List.mem_append_right _ (List.mem_append_right _ (mem_pinsAt hb e)))).2.1
    cases f with
    | next => obtain ⟨σ7, H7, I7, n7⟩ := q7; exact again I7 n7
    | cont => obtain ⟨σ7, H7, I7, n7⟩ := q7; exact again I7 n7
    | brk => obtain ⟨σ7, H7, I7, q7⟩ := q7; exact ⟨σ7, H7, I7.unpinned, q7⟩
    | ret v => obtain ⟨x7, σ7, H7, I7, r7, q7⟩ := q7; exact ⟨x7, σ7, H7, I7.unpinned, r7, q7⟩
end
/-- over a list that the body leaves as it is -/
theorem for_list {K : PySem.W.Frag} {a : Addr} {xs : List V} {g : TG} {tb : TS} {D : Ends} {σ : St} {H : Hp} (Pv : Nat → St → Hp → Prop) (h0 : Pv 0 σ H) (hl : ∀ i σ H, i ≤ xs.length → Pv i σ H → SqL K H a xs)
    (hs : ∀ i x σ H, xs[i]? = some x → Pv i σ H → g x σ H fun σ2 H2 => tb { D with nx := Pv (i + 1), ct := Pv (i + 1), bk := D.nx } σ2 H2) (hd : ∀ σ H, Pv xs.length σ H → D.nx σ H) :
    ∃ W : Nat → Nat → St → Hp → Prop, (∃ m, W 0 m σ H) ∧ ∀ i m σ H, W i m σ H →
      ((Itl K a).stop i H ∧ D.nx σ H) ∨ ((Itl K a).go i H ∧ ∃ N : St → Hp → Prop, (∀ σ' H', N σ' H' → ∃ m', m' < m ∧ W (i + 1) m' σ' H') ∧ ∀ x H', (Itl K a).yld i H x H' → g x σ H' fun σ2 H2 => tb { D with nx := N, ct := N, bk := D.nx } σ2 H2) := by
  refine ⟨fun i m σ H => m = xs.length - i ∧ i ≤ xs.length ∧ Pv i σ H, ⟨xs.length, by simp, Nat.zero_le _, h0⟩, ?_⟩
  rintro i m σ H ⟨rfl, hi, p⟩
  have q := hl i σ H hi p
  by_cases hlt : i < xs.length
  · refine .inr ⟨⟨xs, xs[i], q, by simp [hlt]⟩, Pv (i + 1), fun σ' H' p' => ⟨xs.length - (i + 1), by omega, rfl, hlt, p'⟩, fun x H' y => ?_⟩
    obtain ⟨e, y⟩ := y
    subst e
    exact hs i x σ _ (y xs q) p
  · have e : i = xs.length := by omega
    subst e
    exact .inl ⟨⟨xs, q, Nat.le_refl _⟩, hd σ H p⟩
theorem for_range {lo : Int} {n : Nat} {g : TG} {tb : TS} {D : Ends} {σ : St} {H : Hp} (Pv : Nat → St → Hp → Prop) (h0 : Pv 0 σ H)
    (hs : ∀ i σ H, i < n → Pv i σ H → g (.int (lo + i)) σ H fun σ2 H2 => tb { D with nx := Pv (i + 1), ct := Pv (i + 1), bk := D.nx } σ2 H2) (hd : ∀ σ H, Pv n σ H → D.nx σ H) :
    ∃ W : Nat → Nat → St → Hp → Prop, (∃ m, W 0 m σ H) ∧ ∀ i m σ H, W i m σ H →
      ((Itr lo n).stop i H ∧ D.nx σ H) ∨ ((Itr lo n).go i H ∧ ∃ N : St → Hp → Prop, (∀ σ' H', N σ' H' → ∃ m', m' < m ∧ W (i + 1) m' σ' H') ∧ ∀ x H', (Itr lo n).yld i H x H' → g x σ H' fun σ2 H2 => tb { D with nx := N, ct := N, bk := D.nx } σ2 H2) := by
  refine ⟨fun i m σ H => m = n - i ∧ i ≤ n ∧ Pv i σ H, ⟨n, by simp, Nat.zero_le _, h0⟩, ?_⟩
  rintro i m σ H ⟨rfl, hi, p⟩
  by_cases hlt : i < n
  · refine .inr ⟨hlt, Pv (i + 1), fun σ' H' p' => ⟨n - (i + 1), by omega, rfl, hlt, p'⟩, fun x H' y => ?_⟩
    obtain ⟨e, y⟩ := y
    subst e y
    exact hs i σ _ hlt p
  · have e : i = n := by omega
    subst e
    exact .inl ⟨Nat.le_refl _, hd σ H p⟩
/-- while, by a word and a measure of the state -/
theorem while_by {c : TT} {tb : TS} {D : Ends} {σ : St} {H : Hp} (Pv : St → Hp → Prop) (μ : St → Hp → Nat) (h0 : Pv σ H)
    (hs : ∀ σ H, Pv σ H → c σ H fun b H1 => if b = true then tb { D with nx := fun σ' H' => Pv σ' H' ∧ μ σ' H' < μ σ H, ct := fun σ' H' => Pv σ' H' ∧ μ σ' H' < μ σ H, bk := D.nx } σ H1 else D.nx σ H1)
    (mono : ∀ σ H Q Q', (∀ b H1, Q b H1 → Q' b H1) → c σ H Q → c σ H Q') : tWhile c tb D σ H := by
  refine ⟨fun m σ H => m = μ σ H ∧ Pv σ H, ⟨_, rfl, h0⟩, ?_⟩
  rintro m σ H ⟨rfl, p⟩
  refine mono σ H _ _ (fun b H1 q => ?_) (hs σ H p)
  cases b with
  | true => exact ⟨_, fun σ' H' ⟨p', l⟩ => ⟨_, l, rfl, p'⟩, q⟩
  | false => exact q
end L2
namespace L2
open PySem PySem.Spec PyProof.Rows
abbrev R2 := V → V → Hp → VK → Prop
/-- a two-place operation on values: f is binaryOp op, inplaceOp op or compareOp op -/
def OpR (X : Cx) (f : Value → Value → Sem Value) (r : R2) : Prop :=
  ∀ (pins : List (Addr × Obj)) (s : Shared) (σ : St) (H : Hp) (x y : V) (v u : Value) (Q : VK), Inv X pins σ H s → RelV x v → RelV y u → r x y H Q →
    wpAny (model X.prog X.w) X.A (f v u) (EP X pins σ Q) X.xe s
/-- a one-place operation -/
def UnR (X : Cx) (f : Value → Sem Value) (r : V → Hp → VK → Prop) : Prop :=
  ∀ (pins : List (Addr × Obj)) (s : Shared) (σ : St) (H : Hp) (x : V) (v : Value) (Q : VK), Inv X pins σ H s → RelV x v → r x H Q →
    wpAny (model X.prog X.w) X.A (f v) (EP X pins σ Q) X.xe s
/-- a call of a value that is known (a builtin, a type) with values -/
def CallR (X : Cx) (f : Value) (r : List V → Hp → VK → Prop) : Prop :=
  ∀ (pins : List (Addr × Obj)) (s : Shared) (σ : St) (H : Hp) (xs : List V) (us : List Value) (Q : VK), Inv X pins σ H s → Vals xs us → r xs H Q →
    wpAny (model X.prog X.w) X.A (call f us) (EP X pins σ Q) X.xe s
def tOp (r : R2) (ta tb : TE) : TE := fun σ H Q => ta σ H fun x H1 => tb σ H1 fun y H2 => r x y H2 Q
def tUn (r : V → Hp → VK → Prop) (ta : TE) : TE := fun σ H Q => ta σ H fun x H1 => r x H1 Q
/-- ints in, under C, and a value out -/
def rI (C : Int → Int → Prop) (g : Int → Int → V) : R2 := fun x y H Q => ∃ i j, x = .int i ∧ y = .int j ∧ C i j ∧ Q (g i j) H
def rI0 (g : Int → Int → V) : R2 := fun x y H Q => ∃ i j, x = .int i ∧ y = .int j ∧ Q (g i j) H
def rU (g : Int → V) : V → Hp → VK → Prop := fun x H Q => ∃ i, x = .int i ∧ Q (g i) H

section
variable {X : Cx} {a b c : Expr} {ta tb tc : TE} {pos : Pos}
theorem binT (ha : PE X a ta) (hb : PE X b tb) {pins : List (Addr × Obj)} {s : Shared} {σ : St} {H : Hp} {R : V → V → Hp → Prop} (I : Inv X pins σ H s)
    (h : ta σ H fun x H1 => tb σ H1 fun y H2 => R x y H2) {Q : Value → Shared → Prop} {f : Value → Value → Sem Value}
    (hf : ∀ v u s2 x y H2, Inv X pins σ H2 s2 → RelV x v → RelV y u → R x y H2 → wpAny (model X.prog X.w) X.A (f v u) Q X.xe s2) :
    wpAny (model X.prog X.w) X.A (eval a X.env) (fun v s₁ => wpAny (model X.prog X.w) X.A (eval b X.env) (fun u s₂ => wpAny (model X.prog X.w) X.A (f v u) Q X.xe s₂) X.xe s₁) X.xe s := by
  refine thn (ha pins s σ H _ I h) fun v s1 ⟨x, H1, I1, r1, q1⟩ => ?_
  refine thn (hb pins s1 σ H1 _ I1 q1) fun u s2 ⟨y, H2, I2, r2, q2⟩ => ?_
  exact hf v u s2 x y H2 I2 r1 r2 q2

theorem pe_op {op : Operator} {r : R2} (ho : OpR X (binaryOp op) r) (ha : PE X a ta) (hb : PE X b tb) : PE X (.BinOp a op b pos) (tOp r ta tb) := by
  intro pins s σ H Q I h
  exact wpAny_BinOp (binT ha hb I h fun v u s2 x y H2 I2 rx ry q => ho pins s2 σ H2 x y v u Q I2 rx ry q)
theorem pe_un {op : UnaryOp} {r : V → Hp → VK → Prop} (ho : UnR X (unaryOp op) r) (ha : PE X a ta) : PE X (.UnaryOp op a pos) (tUn r ta) := by
  intro pins s σ H Q I h
  exact UnaryOp_ (thn (ha pins s σ H _ I h) fun v s1 ⟨x, H1, I1, r1, q1⟩ => ho pins s1 σ H1 x v Q I1 r1 q1)
theorem opI {f : Value → Value → Sem Value} {C : Int → Int → Prop} {g : Int → Int → Int}
    (rule : ∀ (i j : Int) (t u : Tok) (s : Shared) (Q : Value → Shared → Prop) (E : Value → Shared → Prop), C i j → Q (.int (g i j) s.toks) { s with toks := s.toks + 1 } → wpAny (model X.prog X.w) X.A (f (.int i t) (.int j u)) Q E s) :
    OpR X f (rI C fun i j => .int (g i j)) := by
  intro pins s σ H x y v u Q I rx ry h
  obtain ⟨i, j, rfl, rfl, hc, q⟩ := h
  obtain ⟨t, rfl⟩ := rx
  obtain ⟨t', rfl⟩ := ry
  exact rule i j t t' s _ _ hc ⟨.int (g i j), H, I.tok _, ⟨_, rfl⟩, q⟩
theorem opI0 {f : Value → Value → Sem Value} {g : Int → Int → Int}
    (rule : ∀ (i j : Int) (t u : Tok) (s : Shared) (Q : Value → Shared → Prop) (E : Value → Shared → Prop), Q (.int (g i j) s.toks) { s with toks := s.toks + 1 } → wpAny (model X.prog X.w) X.A (f (.int i t) (.int j u)) Q E s) :
    OpR X f (rI0 fun i j => .int (g i j)) := by
  intro pins s σ H x y v u Q I rx ry h
  obtain ⟨i, j, rfl, rfl, q⟩ := h
  obtain ⟨t, rfl⟩ := rx
  obtain ⟨t', rfl⟩ := ry
  exact rule i j t t' s _ _ ⟨.int (g i j), H, I.tok _, ⟨_, rfl⟩, q⟩
theorem opB0 {f : Value → Value → Sem Value} {g : Int → Int → Bool}
    (rule : ∀ (i j : Int) (t u : Tok) (s : Shared) (Q : Value → Shared → Prop) (E : Value → Shared → Prop), Q (.bool (g i j)) s → wpAny (model X.prog X.w) X.A (f (.int i t) (.int j u)) Q E s) :
    OpR X f (rI0 fun i j => .bl (g i j)) := by
  intro pins s σ H x y v u Q I rx ry h
  obtain ⟨i, j, rfl, rfl, q⟩ := h
  obtain ⟨t, rfl⟩ := rx
  obtain ⟨t', rfl⟩ := ry
  exact rule i j t t' s _ _ ⟨.bl (g i j), H, I, rfl, q⟩

def CDiv (i j : Int) : Prop := 0 < j ∧ j < 1073741824
def CMul (i j : Int) : Prop := (-(2 ^ 64) < i ∧ i < 2 ^ 64) ∨ (-(2 ^ 64) < j ∧ j < 2 ^ 64)
theorem CMul.ok {i j : Int} (h : CMul i j) : IntMulOk i j := by
  rcases h with ⟨h1, h2⟩ | ⟨h1, h2⟩
  · exact .of_left (intBits_le_64 h1 h2)
  · exact .of_right (intBits_le_64 h1 h2)
theorem op_add : OpR X (binaryOp .Add) (rI0 fun i j => .int (i + j)) := opI0 fun _ _ _ _ _ _ _ q => add_int q
theorem op_sub : OpR X (binaryOp .Sub) (rI0 fun i j => .int (i - j)) := opI0 fun _ _ _ _ _ _ _ q => sub_int q
theorem op_mul : OpR X (binaryOp .Mult) (rI CMul fun i j => .int (i * j)) := opI fun _ _ _ _ _ _ _ hc q => mul_int q hc.ok
/-- // by a positive divisor -/
theorem op_fdiv : OpR X (binaryOp .FloorDiv) (rI CDiv fun i j => .int (i / j)) := opI fun i j _ _ _ _ _ hc q => by
  have h1 : (0 : Int) < j := hc.1
  have h2 : j < 1073741824 := hc.2
  exact floordiv_int (by omega) (by rw [Int.fdiv_eq_ediv_of_nonneg i (by omega)]; exact q) (.inl (PyProof.noPylong_small (by omega)))
/-- % by a positive divisor of any size -/
theorem op_mod : OpR X (binaryOp .Mod) (rI (fun _ j => 0 < j) fun i j => .int (i % j)) := opI fun i j _ _ _ _ _ hc q => by
  have h1 : (0 : Int) < j := hc
  exact mod_int' (by omega) (by rw [Int.fmod_eq_emod_of_nonneg i (by omega)]; exact q)
theorem unI {f : Value → Sem Value} {g : Int → Int}
    (rule : ∀ (i : Int) (t : Tok) (s : Shared) (Q : Value → Shared → Prop) (E : Value → Shared → Prop), Q (.int (g i) s.toks) { s with toks := s.toks + 1 } → wpAny (model X.prog X.w) X.A (f (.int i t)) Q E s) :
    UnR X f (rU fun i => .int (g i)) := by
  intro pins s σ H x v Q I rx h
  obtain ⟨i, rfl, q⟩ := h
  obtain ⟨t, rfl⟩ := rx
  exact rule i t s _ _ ⟨.int (g i), H, I.tok _, ⟨_, rfl⟩, q⟩
theorem un_neg : UnR X (unaryOp .USub) (rU fun i => .int (-i)) := unI fun _ _ _ _ _ q => neg_int q
end
/-- the scalars that == tells apart as data does -/
def scal : V → V → Bool
  | .non, .non => true | .non, .int _ => true | .int _, .non => true | .non, .bl _ => true | .bl _, .non => true | .non, .str _ => true | .str _, .non => true
  | .int _, .int _ => true | .bl _, .bl _ => true | .str _, .str _ => true | .byt _, .byt _ => true
  | .int _, .str _ => true | .str _, .int _ => true | .bl _, .str _ => true | .str _, .bl _ => true
  | _, _ => false
def rEq : R2 := fun x y H Q => scal x y = true ∧ Q (.bl (decide (x = y))) H
theorem dec_int {i j : Int} : decide (V.int i = V.int j) = (i == j) := by
  rw [Bool.eq_iff_iff]
  simp
theorem dec_bl {i j : Bool} : decide (V.bl i = V.bl j) = (i == j) := by
  rw [Bool.eq_iff_iff]
  simp
theorem dec_str {i j : Str} : decide (V.str i = V.str j) = (i == j) := by
  rw [Bool.eq_iff_iff]
  simp
theorem dec_byt {i j : Array UInt8} : decide (V.byt i = V.byt j) = (i.toList == j.toList) := by
  rw [Bool.eq_iff_iff]
  cases i
  cases j
  simp

section
variable {X : Cx} {a b c : Expr} {ta tb tc : TE} {pos : Pos}
theorem fin_bl {pins : List (Addr × Obj)} {σ : St} {H : Hp} {s : Shared} {Q : VK} {k k' : Bool} (I : Inv X pins σ H s) (q : Q (.bl k) H) (e : k = k') : EP X pins σ Q (.bool k') s := by
  subst e
  exact ⟨.bl k, H, I, rfl, q⟩
theorem op_eq : OpR X (compareOp .Eq) rEq := by
  intro pins s σ H x y v u Q I rx ry h
  obtain ⟨hs, q⟩ := h
  cases x with
  | non =>
    cases rx
    cases y with
    | non => cases ry; exact PySem.EqNone.eq_none_none (fin_bl I q (by simp))
    | bl j => cases ry; exact PySem.EqNone.eq_none_bool (fin_bl I q (by simp))
    | int j => obtain ⟨t', rfl⟩ := ry; exact PySem.EqNone.eq_none_int (fin_bl I q (by simp))
    | str j => obtain ⟨t', rfl⟩ := ry; exact PySem.EqNone.eq_none_str (fin_bl I q (by simp))
    | _ => exact absurd (show false = true from hs) Bool.false_ne_true
  | bl i =>
    cases rx
    cases y with
    | non => cases ry; exact PySem.EqNone.eq_bool_none (fin_bl I q (by simp))
    | bl j => cases ry; exact eq_bool (fin_bl I q dec_bl)
    | str j => obtain ⟨t', rfl⟩ := ry; exact PySem.EqMixed.eq_bool_str (fin_bl I q (by simp))
    | _ => exact absurd (show false = true from hs) Bool.false_ne_true
  | int i =>
    obtain ⟨t, rfl⟩ := rx
    cases y with
    | non => cases ry; exact PySem.EqNone.eq_int_none (fin_bl I q (by simp))
    | int j => obtain ⟨t', rfl⟩ := ry; exact eq_int (fin_bl I q dec_int)
    | str j => obtain ⟨t', rfl⟩ := ry; exact PySem.EqMixed.eq_int_str (fin_bl I q (by simp))
    | _ => exact absurd (show false = true from hs) Bool.false_ne_true
  | str i =>
    obtain ⟨t, rfl⟩ := rx
    cases y with
    | non => cases ry; exact PySem.EqNone.eq_str_none (fin_bl I q (by simp))
    | bl j => cases ry; exact PySem.EqMixed.eq_str_bool (fin_bl I q (by simp))
    | int j => obtain ⟨t', rfl⟩ := ry; exact PySem.EqMixed.eq_str_int (fin_bl I q (by simp))
    | str j => obtain ⟨t', rfl⟩ := ry; exact eq_str (fin_bl I q dec_str)
    | _ => exact absurd (show false = true from hs) Bool.false_ne_true
  | byt i =>
    obtain ⟨t, rfl⟩ := rx
    cases y with
    | byt j => obtain ⟨t', rfl⟩ := ry; exact PySem.W.eq_bytes (fin_bl I q dec_byt)
    | _ => exact absurd (show false = true from hs) Bool.false_ne_true
  | _ => cases y <;> exact absurd (show false = true from hs) Bool.false_ne_true
theorem op_lt : OpR X (compareOp .Lt) (rI0 fun i j => .bl (decide (i < j))) := opB0 fun _ _ _ _ _ _ _ q => lt_int q
theorem op_le : OpR X (compareOp .LtE) (rI0 fun i j => .bl (decide (i ≤ j))) := opB0 fun _ _ _ _ _ _ _ q => le_int q
theorem op_gt : OpR X (compareOp .Gt) (rI0 fun i j => .bl (decide (j < i))) := opB0 fun _ _ _ _ _ _ _ q => gt_int q
theorem op_ge : OpR X (compareOp .GtE) (rI0 fun i j => .bl (decide (j ≤ i))) := opB0 fun _ _ _ _ _ _ _ q => ge_int q
/-- two rules for one operation: by cases -/
theorem OpR.or {f : Value → Value → Sem Value} {r r' : R2} (h : OpR X f r) (h' : OpR X f r') : OpR X f (fun x y H Q => r x y H Q ∨ r' x y H Q) := by
  intro pins s σ H x y v u Q I rx ry q
  rcases q with q | q
  · exact h pins s σ H x y v u Q I rx ry q
  · exact h' pins s σ H x y v u Q I rx ry q

theorem nomark (b : Expr) {op : CmpOp} (h : op ≠ .In := by decide) (h2 : op ≠ .NotIn := by decide) : behindInMarks op b = false := by
  have e1 : (op == CmpOp.In) = false := by cases op <;> first | rfl | exact absurd rfl h
  have e2 : (op == CmpOp.NotIn) = false := by cases op <;> first | rfl | exact absurd rfl h2
  cases b <;> simp [behindInMarks, e1, e2]
/-- a reading of a value as a test -/
def tTest (t : TE) : TT := fun σ H Q => t σ H fun x H' => ∃ k, x = .bl k ∧ Q k H'
theorem pt_cmpR {op : CmpOp} {r : R2} (ho : OpR X (compareOp op) r) (ha : PE X a ta) (hb : PE X b tb) (hm : behindInMarks op b = false) : PT X (.Compare a [op] [b] pos) (tTest (tOp r ta tb)) := by
  intro pins s σ H Q I h
  refine wpAny_isTrue_Compare1 (thn (ha pins s σ H _ I h) fun v s1 ⟨x, H1, I1, r1, q1⟩ => thn (hb pins s1 σ H1 _ I1 q1) fun u s2 ⟨y, H2, I2, r2, q2⟩ =>
    thn (ho pins s2 σ H2 x y v u _ I2 r1 r2 q2) fun c s3 ⟨z, H3, I3, r3, k, e, q3⟩ => ?_) hm
  subst e
  cases r3
  exact wpAny_truthy_bool ⟨H3, I3, q3⟩
/-- a op1 b op2 c -/
def tChain (r r' : R2) (ta tb tc : TE) : TE := fun σ H Q => ta σ H fun x H1 => tb σ H1 fun y H2 => r x y H2 fun z H3 => ∃ k, z = .bl k ∧
  (if k = true then tc σ H3 fun w' H4 => r' y w' H4 Q else Q (.bl false) H3)
theorem pt_chain {op op' : CmpOp} {r r' : R2} (ho : OpR X (compareOp op) r) (ho' : OpR X (compareOp op') r') (ha : PE X a ta) (hb : PE X b tb) (hc : PE X c tc)
    (hm : lastMarks [op, op'] [b, c] = false := by with_unfolding_all rfl) : PT X (.Compare a [op, op'] [b, c] pos) (tTest (tChain r r' ta tb tc)) := by
  intro pins s σ H Q I h
  refine isTrue_chain (thn (ha pins s σ H _ I h) fun v s1 ⟨x, H1, I1, r1, q1⟩ => test_link (thn (hb pins s1 σ H1 _ I1 q1) fun u s2 ⟨y, H2, I2, r2, q2⟩ =>
    thn (ho pins s2 σ H2 x y v u _ I2 r1 r2 q2) fun d s3 ⟨z, H3, I3, r3, k, e, q3⟩ => ?_)) hm
  subst e
  cases r3
  refine wpAny_truthy_bool ?_
  cases k with
  | false =>
    obtain ⟨k', e', q'⟩ := q3
    cases e'
    exact ite_ff ⟨H3, I3, q'⟩
  | true =>
    refine ite_tt (test_last (thn (hc pins s3 σ H3 _ I3 q3) fun w' s4 ⟨z', H4, I4, r4, q4⟩ => thn (ho' pins s4 σ H4 y z' u w' _ I4 r2 r4 q4) fun d' s5 ⟨z2, H5, I5, r5, k2, e2, q5⟩ => ?_))
    subst e2
    cases r5
    exact wpAny_truthy_bool ⟨H5, I5, q5⟩

theorem line63 : (sizeLine : Nat) < 2 ^ 63 := by rw [sizeLine_eq]; decide
theorem vals1 {x : V} {us : List Value} (r : Vals [x] us) : ∃ u, us = [u] ∧ RelV x u := by
  cases r with
  | cons r1 r2 => cases r2; exact ⟨_, rfl, r1⟩
theorem vals2 {x y : V} {us : List Value} (r : Vals [x, y] us) : ∃ u w', us = [u, w'] ∧ RelV x u ∧ RelV y w' := by
  cases r with
  | cons r1 r2 =>
    cases r2 with
    | cons r3 r4 => cases r4; exact ⟨_, _, rfl, r1, r3⟩
theorem call_max2 (hc : X.calm = true) : CallR X (.builtin "max") (fun xs H Q => ∃ i j, xs = [.int i, .int j] ∧ Q (.int (if j > i then j else i)) H) := by
  intro pins s σ H xs us Q I r h
  obtain ⟨i, j, rfl, q⟩ := h
  obtain ⟨u, w', rfl, ⟨t, rfl⟩, ⟨t', rfl⟩⟩ := vals2 r
  refine max_two_ints (I.ok.hd hc) fun h' tk k => ⟨_, H, I.kept k, ?_, q⟩
  by_cases hj : j > i
  · rw [if_pos hj, if_pos hj]; exact ⟨_, rfl⟩
  · rw [if_neg hj, if_neg hj]; exact ⟨_, rfl⟩
end
end L2
namespace L2
open PySem PySem.Spec PyProof.Rows
structure ObjM (h : Heap) (x dx C : Addr) (mA : Str → Option Value) : Prop where
  obj : h.get? x = some (PySem.W.instObj C dx)
  ns : h.Ns1 dx mA
  ne : dx ≠ x

theorem lookIn_ns {h : Heap} {dx : Addr} {mA : Str → Option Value} (n : h.Ns1 dx mA) : ∃ od, h.get? dx = some od ∧ ∀ name, PySem.W.lookIn name od = some (mA name) := by
  obtain ⟨o, es, ep, ho, hd, hk, _, hm⟩ := n
  refine ⟨o, ho, fun name => ?_⟩
  have e := hm name
  unfold nsFind findBy at e
  rw [← Array.find?_toList] at e
  unfold PySem.W.lookIn
  rw [hd]
  dsimp only
  split
  · rename_i y q
    rw [q] at e
    exact congrArg some e
  · rename_i q
    rw [q] at e
    have a : es.toList.any (·.refKey) = false := by
      rw [List.any_eq_false]
      intro y hy
      obtain ⟨z, t, hkey⟩ := hk y (Array.mem_toList_iff.mp hy)
      simp [DictEntry.refKey, hkey]
    have a' : ¬ es.toList.any (·.refKey) = true := by rw [a]; exact Bool.false_ne_true
    rw [if_neg a']
    exact congrArg some e

theorem ObjM.look {h : Heap} {x dx C : Addr} {mA : Str → Option Value} (I : ObjM h x dx C mA) : ∃ od, PySem.W.InstAt h x (PySem.W.instObj C dx) C (some od) ∧ ∀ name, PySem.W.lookIn name od = some (mA name) :=
  let ⟨od, ho, hl⟩ := lookIn_ns I.ns
  ⟨od, ⟨I.obj, rfl, rfl, ho⟩, hl⟩

section
variable {prog : Program} {w : World} {A : Around} {E : Value → Shared → Prop} {s : Shared} {K : PySem.W.Frag} {x dx C f : Addr} {mA : Str → Option Value} {name : Str} {v : Value}
theorem get_map {expr : Bool} {Q : Value → Shared → Prop} (X : K.In s.heap) (I : ObjM s.heap x dx C mA) (hg : PySem.W.plainGet K C name = true) (hh : PySem.W.hasDictIn K C = true)
    (ha : PySem.W.findIn K (.ref C) name = some none) (hv : mA name = some v) (hv' : PySem.W.handedIn v = true) (h : Q v { s with toks := s.toks + 1 }) :
    wpAny (model prog w) A (getAttr (.ref x) name expr) Q E s := by
  obtain ⟨od, J, hl⟩ := I.look
  exact PySem.W.get_value X J (PySem.W.plainGet_of hg).1 (PySem.W.findObj_own hh ha rfl (by rw [hl, hv])) hv' h

theorem get_meth {pl : Sem Bool} {Q : Value × List Value → Shared → Prop} (X : K.In s.heap) (I : ObjM s.heap x dx C mA) (hg : PySem.W.plainGet K C name = true)
    (hf : PySem.W.findIn K (.ref C) name = some (some (.ref f))) (ht : PySem.W.isFn K (.ref f) = true) (hv : mA name = none) (h : Q (.ref f, [.ref x]) s) :
    wpAny (model prog w) A (getMethod (.ref x) name pl) Q E s := by
  obtain ⟨od, J, hl⟩ := I.look
  exact PySem.W.method_fn X J (PySem.W.plainGet_of hg).1 (PySem.W.plainGet_of hg).2 hf (beq_iff_eq.mp ht) (by show (PySem.W.lookIn name od).map (·.isSome) = some false; rw [hl, hv]; rfl) h

theorem set_map {ns : List Str} {Q : Unit → Shared → Prop} (X : K.In s.heap) (I : ObjM s.heap x dx C mA)
    (hs : PySem.W.findIn K (.ref C) "__setattr__" = some (some (.builtin "object.__setattr__"))) (hp : PySem.W.plainOver K C = true) (ht : PySem.W.takerIn K C name = some none) (hh : PySem.W.hasDictIn K C = true)
    (hw : PySem.Within mA ns) (hsz : ns.length ≤ sizeLine)
    (h : ∀ h', ObjM h' x dx C (fun y => if y = name then some v else mA y) → Heap.SameBut dx s.heap h' → Q () { s with heap := h', toks := s.toks + 2 }) :
    wpAny (model prog w) A (setAttr (.ref x) name v) Q E s := by
  obtain ⟨od, J, hl⟩ := I.look
  refine PySem.W.set_plain X J hs (PySem.W.osa_open (s := { s with toks := s.toks + 1 }) (r := none) X J hp ht fun b => ?_)
  obtain ⟨cd, hc, hd'⟩ := PySem.W.any_some hh
  have hx : s.heap.get? x = some ⟨.ref C, some dx, .plain, #[]⟩ := I.obj
  refine wpAny_bind (wpAny_pure (wpAny_bind (wpAny_bind (wpAny_loadPart hx (wpAny_bind (PySem.W.Looks.here (s := { s with toks := s.toks + 1 }) (PySem.W.looks_clsIn X hc) ?_))))))
  rw [hd']
  refine wpAny_pure (a := some dx) (wpAny_bind (wpAny_pure (wpAny_bind ?_)))
  refine wpAny_nsSet1 (s := { s with toks := s.toks + 1 }) I.ns fun h' hn2 hs2 => ?_
  obtain ⟨oD, esD, epD, hoD, hdD, hcD⟩ := hn2.count (PySem.Within.cons name v hw)
  refine wpAny_bind (wpAny_lookBehind hoD (by rw [hdD]; exact pastItsLine_dict (Nat.le_trans hcD (by rw [List.length_cons]; omega))) ?_)
  exact wpAny_pure (h _ ⟨(hs2.2 _ (Ne.symm I.ne)).trans I.obj, hn2, I.ne⟩ hs2)

/-- C(..): the dict at the heap's end, the instance behind it; then its __init__ -/
theorem make_map {R : Result → Shared → Prop} {vs : List Value} {kw : List (Str × Value)} (X : K.In s.heap) (hm : PySem.W.makesIn K C = true)
    (hi : PySem.W.findIn K (.ref C) "__init__" = some (some (.ref f))) (hf : PySem.W.typeIn K (.ref f) = some (.type "function"))
    (h : codeAny (model prog w) (A.under (.builtin "type.__call__" ⟨.ref C :: vs, kw⟩)) (.call (.ref f) ⟨.ref (s.heap.objs.size + 1) :: vs, kw⟩) (PySem.W.InitBack (s.heap.objs.size + 1) R)
      { s with heap := (s.heap.push PySem.W.emptyDict).push (PySem.W.instObj C s.heap.objs.size) }) :
    codeAny (model prog w) A (.call (.ref C) ⟨vs, kw⟩) R s := by
  obtain ⟨hh, g, d, t, os⟩ := s
  exact PySem.W.make_core (PySem.W.makes_of X hm) (PySem.W.looks_findIn X hi) (fun self => PySem.W.bind_fn X self hf) (.inl rfl) h
end
def putF (f : Str) (v : V) : List (Str × V) → List (Str × V)
  | [] => [(f, v)]
  | (g, x) :: r => if g = f then (g, v) :: r else (g, x) :: putF f v r
theorem lookup_putF (f g : Str) (v : V) : ∀ fs : List (Str × V), (putF f v fs).lookup g = if g = f then some v else fs.lookup g
  | [] => by
    show List.lookup g [(f, v)] = _
    by_cases h : g = f
    · have hb : (g == f) = true := beq_iff_eq.mpr h
      simp only [List.lookup, hb, if_pos h]
    · have hb : (g == f) = false := beq_eq_false_iff_ne.mpr h
      simp only [List.lookup, hb, if_neg h]
  | (k, x) :: r => by
    have ih := lookup_putF f g v r
    rw [show putF f v ((k, x) :: r) = (if k = f then (k, v) :: r else (k, x) :: putF f v r) from rfl]
    by_cases hk : k = f
    · rw [if_pos hk]
      by_cases h : g = k
      · have hb : (g == k) = true := beq_iff_eq.mpr h
        simp only [List.lookup, hb, if_pos (h.trans hk)]
      · have hb : (g == k) = false := beq_eq_false_iff_ne.mpr h
        simp only [List.lookup, hb, if_neg (fun e : g = f => h (e.trans hk.symm))]
    · rw [if_neg hk]
      by_cases h : g = k
      · have hb : (g == k) = true := beq_iff_eq.mpr h
        simp only [List.lookup, hb, if_neg (fun e : g = f => hk (h.symm.trans e))]
      · have hb : (g == k) = false := beq_eq_false_iff_ne.mpr h
        simp only [List.lookup, hb]
        exact ih
theorem keys_putF (f : Str) (v : V) : ∀ fs : List (Str × V), f ∈ (putF f v fs).map (·.1) ∧ ∀ g, g ∈ fs.map (·.1) → g ∈ (putF f v fs).map (·.1)
  | [] => ⟨by simp [putF], fun g h => by simp at h⟩
  | (k, x) :: r => by
    obtain ⟨i1, i2⟩ := keys_putF f v r
    rw [show putF f v ((k, x) :: r) = (if k = f then (k, v) :: r else (k, x) :: putF f v r) from rfl]
    by_cases hk : k = f
    · rw [if_pos hk]
      subst hk
      exact ⟨by simp, fun g h => by simpa using h⟩
    · rw [if_neg hk]
      refine ⟨?_, fun g h => ?_⟩
      · rw [List.map_cons]
        exact List.mem_cons_of_mem _ i1
      · rw [List.map_cons] at h ⊢
        rcases List.mem_cons.mp h with e | e
        · exact List.mem_cons.mpr (.inl e)
        · exact List.mem_cons_of_mem _ (i2 g e)
theorem length_putF (f : Str) (v : V) : ∀ fs : List (Str × V), (putF f v fs).length ≤ fs.length + 1
  | [] => by simp [putF]
  | (k, x) :: r => by
    have ih := length_putF f v r
    rw [show putF f v ((k, x) :: r) = (if k = f then (k, v) :: r else (k, x) :: putF f v r) from rfl]
    by_cases hk : k = f
    · rw [if_pos hk, List.length_cons, List.length_cons]; omega
    · rw [if_neg hk, List.length_cons, List.length_cons]; omega

theorem RelO.some_of {v : V} {o : Option Value} (r : RelO (some v) o) : ∃ u, o = some u ∧ RelV v u := by
  cases o with
  | none => exact (show False from r).elim
  | some u => exact ⟨u, rfl, r⟩
theorem RelO.none_of {o : Option Value} (r : RelO none o) : o = none := by
  cases o with
  | none => rfl
  | some u => exact (show False from r).elim
theorem handed_of {v : V} {u : Value} (r : RelV v u) : PySem.W.handedIn u = true := by
  cases v with
  | non => cases (show u = Value.none from r); rfl
  | bl b => cases (show u = Value.bool b from r); rfl
  | int i => obtain ⟨t, e⟩ := (show ∃ t, u = Value.int i t from r); cases e; rfl
  | str x => obtain ⟨t, e⟩ := (show ∃ t, u = Value.str x t from r); cases e; rfl
  | byt b => obtain ⟨t, e⟩ := (show ∃ t, u = Value.bytes b t from r); cases e; rfl
  | flt b => obtain ⟨t, e⟩ := (show ∃ t, u = Value.float b t from r); cases e; rfl
  | ref a => cases (show u = Value.ref a from r); rfl
  | ty n => cases (show u = Value.type n from r); rfl

section
variable {P : Program} {w : World} {H H' : Hp} {h h' : Heap} {a C dx : Addr} {fs fs' : List (Str × V)}
theorem ins_get (hok : HOk P w H h) (e : H a = some (.ins C dx fs)) : ∃ mA, ObjM h a dx C mA ∧ (∀ f, RelO (fs.lookup f) (mA f)) ∧ PySem.Within mA (fs.map (·.1)) ∧ fs.length ≤ 1000 ∧ H dx = some (.own a) := by
  obtain ⟨d, z, ne, ob, mA, n, r, q⟩ := (show ObjOk P w H h a (.ins C dx fs) from hok a _ e)
  exact ⟨mA, ⟨ob, n, ne⟩, r, q, z, d⟩
end
structure Cls (K : PySem.W.Frag) (C : Addr) : Prop where
  pg : PySem.W.plainGet K C Str.empty = true
  hd : PySem.W.hasDictIn K C = true
  po : PySem.W.plainOver K C = true
  sa : PySem.W.findIn K (.ref C) "__setattr__" = some (some (.builtin "object.__setattr__"))
theorem Cls.get {K : PySem.W.Frag} {C : Addr} (c : Cls K C) (f : Str) : PySem.W.plainGet K C f = true := c.pg
/-- no class of it has the name -/
def NoAttr (K : PySem.W.Frag) (C : Addr) (f : Str) : Prop := PySem.W.findIn K (.ref C) f = some none
theorem NoAttr.taker {K : PySem.W.Frag} {C : Addr} {f : Str} (n : NoAttr K C f) : PySem.W.takerIn K C f = some none := by
  unfold PySem.W.takerIn
  rw [show PySem.W.findIn K (.ref C) f = some none from n]
  rfl
/-- a method: a plain def of the class or of one above it -/
structure Meth (K : PySem.W.Frag) (C : Addr) (m : Str) (f : Addr) : Prop where
  at_ : PySem.W.findIn K (.ref C) m = some (some (.ref f))
  fn : PySem.W.isFn K (.ref f) = true
  kp : PySem.W.keepIn K (.ref f) = true

section
variable {X : Cx} {pins : List (Addr × Obj)} {σ : St} {H : Hp} {s : Shared} {a C dx : Addr} {fs : List (Str × V)} {f : Str} {v : V} {A : Around} {E : Value → Shared → Prop}
theorem getattr_ok {b : Bool} {Q : Value → Shared → Prop} (I : Inv X pins σ H s) (e : H a = some (.ins C dx fs)) (c : Cls X.K C) (n : NoAttr X.K C f) (l : fs.lookup f = some v)
    (h : ∀ u s', Inv X pins σ H s' → RelV v u → Q u s') : wpAny (model X.prog X.w) A (getAttr (.ref a) f b) Q E s := by
  obtain ⟨mA, O, r, _, _, _⟩ := ins_get I.hok e
  obtain ⟨u, hu, ru⟩ := RelO.some_of (v := v) (o := mA f) (by rw [← l]; exact r f)
  exact get_map I.kIn O (c.get f) c.hd n hu (handed_of ru) (h u _ (I.tok _) ru)

theorem getmeth_ok {m : Str} {g : Addr} {pl : Sem Bool} {Q : Value × List Value → Shared → Prop} (I : Inv X pins σ H s) (e : H a = some (.ins C dx fs)) (c : Cls X.K C) (k : Meth X.K C m g) (l : fs.lookup m = none)
    (h : Q (.ref g, [.ref a]) s) : wpAny (model X.prog X.w) A (getMethod (.ref a) m pl) Q E s := by
  obtain ⟨mA, O, r, _, _, _⟩ := ins_get I.hok e
  have hn : mA m = none := RelO.none_of (by rw [← l]; exact r m)
  exact get_meth I.kIn O (c.get m) k.at_ k.fn hn h

theorem setattr_ok {y : V} {u : Value} {Q : Unit → Shared → Prop} (I : Inv X pins σ H s) (e : H a = some (.ins C dx fs)) (c : Cls X.K C) (n : NoAttr X.K C f) (hl : fs.length < 1000) (ry : RelV y u)
    (h : ∀ s', Inv X pins σ (upd H a (.ins C dx (putF f y fs))) s' → Q () s') : wpAny (model X.prog X.w) A (setAttr (.ref a) f u) Q E s := by
  obtain ⟨mA, O, r, wi, _, ho⟩ := ins_get I.hok e
  have hz : (fs.map (·.1)).length ≤ sizeLine := by rw [List.length_map, sizeLine_eq]; omega
  refine set_map I.kIn O c.sa c.po n.taker c.hd wi hz fun h' O' sb => h _ ?_
  have hd : ∃ o, h'.get? dx = some o := let ⟨o, _, _, e', _⟩ := O'.ns; ⟨o, e'⟩
  refine I.write (x := a) (e := dx) (by rw [e]; exact True.intro) (.inr ho) (fun b q hb z => (sb.2 b hb).trans z) hd ?_
  refine ⟨by rw [upd_ne O.ne]; exact ho, ?_, O.ne, O'.obj, _, O'.ns, fun g => ?_, fun g hg => ?_⟩
  · have := length_putF f y fs; omega
  · show RelO ((putF f y fs).lookup g) (if g = f then some u else mA g)
    rw [lookup_putF]
    by_cases q : g = f
    · rw [if_pos q, if_pos q]; exact ry
    · rw [if_neg q, if_neg q]; exact r g
  · by_cases q : g = f
    · rw [q]; exact (keys_putF f y fs).1
    · refine (keys_putF f y fs).2 g (wi g fun z => hg ?_)
      show (if g = f then some u else mA g) = none
      rw [if_neg q]; exact z

/-- a new instance, tracked, without attributes -/
theorem Inv.made (I : Inv X pins σ H s) : Inv X pins σ (upd (upd H s.heap.objs.size (.own (s.heap.objs.size + 1))) (s.heap.objs.size + 1) (.ins C s.heap.objs.size []))
    { s with heap := (s.heap.push PySem.W.emptyDict).push (PySem.W.instObj C s.heap.objs.size) } := by
  have e1 : (s.heap.push PySem.W.emptyDict).get? s.heap.objs.size = some PySem.W.emptyDict := Heap.get?_push_size s.heap rfl
  have e2 : ((s.heap.push PySem.W.emptyDict).push (PySem.W.instObj C s.heap.objs.size)).get? (s.heap.objs.size + 1) = some (PySem.W.instObj C s.heap.objs.size) := by
    have := Heap.get?_push_size (s.heap.push PySem.W.emptyDict) (o := PySem.W.instObj C s.heap.objs.size) rfl
    rwa [Heap.size_push] at this
  have e3 : (s.heap.push PySem.W.emptyDict).Ns s.heap.objs.size (fun _ => none) := ⟨PySem.W.emptyDict, #[], _, e1, rfl, (fun e he => absurd he (by simp)), fun _ => rfl⟩
  have I1 := I.laid (a := s.heap.objs.size) (o := .own (s.heap.objs.size + 1)) (h' := s.heap.push PySem.W.emptyDict) (t' := s.toks) (fun b u q => Heap.get?_push_of_some _ q) (Nat.le_refl _) ⟨_, e1⟩
  refine I1.laid (a := s.heap.objs.size + 1) (o := .ins C s.heap.objs.size []) (t' := s.toks) (fun b u q => Heap.get?_push_of_some _ q) (Nat.le_of_eq (Heap.size_push _ _)) ?_
  have ne : s.heap.objs.size ≠ s.heap.objs.size + 1 := Nat.ne_of_lt (Nat.lt_succ_self _)
  refine ⟨by rw [upd_ne ne, upd_same], Nat.zero_le _, ne, e2, fun _ => none, (Heap.Ns1.of_empty e3).at fun o q => Heap.get?_push_of_some _ q, fun _ => True.intro, fun y hy => absurd rfl hy⟩

/-- e.f where nothing but the object is asked: through attributeBase (super) and the last hold -/
theorem attr_of {prog : Program} {w : World} {env : Env} {e : Expr} {f : Str} {pos : Pos} {s : Shared} {Q : Value → Shared → Prop} (hb : attributeBase e f env (eval e env) = eval e env)
    (h : wpAny (model prog w) A (eval e env) (fun o s₁ => wpAny (model prog w) A (getAttr o f true) Q E s₁) E s) : wpAny (model prog w) A (eval (.Attribute e f pos) env) Q E s :=
  Attribute_any_ h (by rw [arm_eval_Attribute, hb])
end
/-- e.f, an attribute of the instance -/
def tFld (K : PySem.W.Frag) (ta : TE) (f : Str) : TE := fun σ H Q => ta σ H fun x H1 => ∃ a C dx fs v, x = .ref a ∧ H1 a = some (.ins C dx fs) ∧ Cls K C ∧ NoAttr K C f ∧ fs.lookup f = some v ∧ Q v H1
/-- e.f = value -/
def sFld (K : PySem.W.Frag) (ta tv : TE) (f : Str) : TS := fun D σ H => tv σ H fun y H1 => ta σ H1 fun x H2 => ∃ a C dx fs, x = .ref a ∧ H2 a = some (.ins C dx fs) ∧ Cls K C ∧ NoAttr K C f ∧ fs.length < 1000 ∧
  D.nx σ (upd H2 a (.ins C dx (putF f y fs)))
section
variable {X : Cx} {o e value : Expr} {f : Str} {pos pos' tpos : Pos} {ta tv : TE}
theorem pe_fld (he : PE X e ta) (hb : attributeBase e f X.env (eval e X.env) = eval e X.env) : PE X (.Attribute e f pos) (tFld X.K ta f) := by
  intro pins s σ H Q I h
  refine attr_of hb (thn (he pins s σ H _ I h) fun u s1 ⟨x, H1, I1, rx, a, C, dx, fs, v, ex, ea, c, n, l, q⟩ => ?_)
  subst ex
  obtain rfl : u = Value.ref a := rx
  exact getattr_ok I1 ea c n l fun u' s2 I2 ru => ⟨v, H1, I2, ru, q⟩
theorem ps_fld (ha : PE X o ta) (hv : PE X value tv) (hs : swapsWith value (some (.Attribute o f pos')) pos.line X.env = pure false) : PS X (.Assign [.Attribute o f pos'] value pos) (sFld X.K ta tv f) := by
  intro pins s σ H D I h
  refine plainObj_wpAny_Assign_Attribute (thn (hv pins s σ H _ I h) fun u s1 ⟨y, H1, I1, ry, q⟩ => thn (ha pins s1 σ H1 _ I1 q) fun ov s2 ⟨x, H2, I2, rx, a, C, dx, fs, ex, ea, c, n, l, q2⟩ => ?_) hs
  subst ex
  obtain rfl : ov = Value.ref a := rx
  exact setattr_ok I2 ea c n l ry fun s3 I3 => ⟨σ, _, I3, q2⟩
end
section
variable {X : Cx} {pins : List (Addr × Obj)} {σ : St} {H : Hp} {s : Shared} {A : Around} {E : Value → Shared → Prop} {Q : Value → Shared → Prop} {c : Value} {b : Bool}
end
end L2
namespace L2
open PySem PySem.Spec PyProof.Rows
structure Room (k : Nat) (A : Around) : Prop where
  hd : A.handled = none
  dp : A.depth + 3 * k + 5 < recursionLimit
  un : A.units + 16 * k + 200 < cLine
theorem Room.mono {j k : Nat} {A : Around} (r : Room k A) (h : j ≤ k) : Room j A := ⟨r.hd, by have := r.dp; omega, by have := r.un; omega⟩
theorem Room.deeper {k : Nat} {A : Around} (r : Room (k + 1) A) (env : Env) : Room k (A.deeper env) :=
  ⟨r.hd, by have := r.dp; show A.depth + 1 + 3 * k + 5 < _; omega, by have := r.un; show A.units + 3 + 16 * k + 200 < _; omega⟩
theorem Room.in1 {k : Nat} {A : Around} (r : Room (k + 1) A) : Room k A.in1 :=
  ⟨r.hd, by have := r.dp; show A.depth + 3 * k + 5 < _; omega, by have := r.un; show A.units + 1 + 16 * k + 200 < _; omega⟩
theorem make_depth {A : Around} {C : Addr} {us : List Value} {kw : List (Str × Value)} : (A.under (.builtin "type.__call__" ⟨.ref C :: us, kw⟩)).depth = A.depth + 1 := by
  first | rfl | simp [Around.under, Code.weight, Code.isCreation, Code.isGuard, Code.isCaller, Code.frames, Code.isFrame, guardIds]
theorem make_units {A : Around} {C : Addr} {us : List Value} {kw : List (Str × Value)} : (A.under (.builtin "type.__call__" ⟨.ref C :: us, kw⟩)).units = A.units + 1 := by
  first | rfl | simp [Around.under, Code.cUnits, Code.frames, Code.isFrame]
theorem Room.make {k : Nat} {A : Around} (r : Room (k + 1) A) (C : Addr) (us : List Value) (kw : List (Str × Value)) : Room k (A.under (.builtin "type.__call__" ⟨.ref C :: us, kw⟩)) :=
  ⟨r.hd, by have := r.dp; rw [make_depth]; omega, by have := r.un; rw [make_units]; omega⟩
theorem Room.depth {k : Nat} {A : Around} (r : Room k A) : A.depth < recursionLimit := by have := r.dp; omega
theorem Room.units {k : Nat} {A : Around} (r : Room k A) : A.units + 64 < cLine := by have := r.un; omega
def tNil : TA := fun _ H Q => Q [] H
def tCons (ta : TE) (tr : TA) : TA := fun σ H Q => ta σ H fun x H1 => tr σ H1 fun xs H2 => Q (x :: xs) H2
section
variable {X : Cx} {e : Expr} {es : List Expr} {te : TE} {t : TA} {pos : Pos}
theorem pa_nil : PA X [] tNil := fun _ _ _ _ H Q I h => Calls.spliced_nil ⟨[], H, I, .nil, h⟩
theorem pa_cons (ha : PE X e te) (hr : PA X es t) (hs : starEach (e :: es) X.env = (false, eval e X.env) :: starEach es X.env := by rfl) : PA X (e :: es) (tCons te t) := by
  intro pos pins s σ H Q I h
  rw [hs]
  show wpAny _ _ (spliced ((false, eval e X.env) :: backTo pos (starEach es X.env))) _ _ s
  refine Calls.spliced_cons (thn (ha pins s σ H _ I h) fun u s1 ⟨x, H1, I1, r1, q1⟩ => ?_)
  exact thn (hr pos pins s1 σ H1 _ I1 q1) fun us s2 ⟨xs, H2, I2, r2, q2⟩ => ⟨x :: xs, H2, I2, .cons r1 r2, q2⟩

/-- a tuple, a list of written items -/
def tTup (t : TA) : TE := fun σ H Q => t σ H fun xs H1 => xs.length ≤ sizeLine ∧ ∀ p, H1 p = none → Q (.ref p) (upd H1 p (.tup xs))
def tLst (t : TA) : TE := fun σ H Q => t σ H fun xs H1 => xs.length ≤ sizeLine ∧ ∀ p, H1 p = none → Q (.ref p) (upd H1 p (.lst xs))
theorem pe_tup {x1} (h : PA X es t) : PE X (.Tuple es x1 pos) (tTup t) := by
  intro pins s σ H Q I hq
  refine wpAny_Tuple_spliced (thn (h pos pins s σ H _ I hq) fun us s1 ⟨xs, H1, I1, r, z, q⟩ => ⟨by rw [← r.length]; exact z, ?_⟩)
  have hf : H1 s1.heap.objs.size = none := I1.hok.fresh (Nat.le_refl _)
  refine ⟨.ref s1.heap.objs.size, upd H1 s1.heap.objs.size (.tup xs), I1.laid (t' := s1.toks) (fun b u e => Heap.get?_push_of_some _ e) (Nat.le_refl _) ?_, rfl, q _ hf⟩
  exact ⟨z, us, r, ⟨_, Heap.get?_push_size _ rfl, rfl, _, rfl⟩⟩
theorem pe_lst (h : PA X es t) : PE X (.List es pos) (tLst t) := by
  intro pins s σ H Q I hq
  refine wpAny_List_spliced (thn (h pos pins s σ H _ I hq) fun us s1 ⟨xs, H1, I1, r, z, q⟩ => ⟨by rw [← r.length]; exact z, ?_⟩)
  have hf : H1 s1.heap.objs.size = none := I1.hok.fresh (Nat.le_refl _)
  refine ⟨.ref s1.heap.objs.size, upd H1 s1.heap.objs.size (.lst xs), I1.laid (t' := s1.toks) (fun b u e => Heap.get?_push_of_some _ e) (Nat.le_refl _) ?_, rfl, q _ hf⟩
  exact ⟨z, us, 0, r, Heap.get?_push_size _ rfl⟩
end
/-- a def's promise: the bound arguments in the parameters' order, the heap, the wanted end, the wanted exception -/
abbrev Sp := List V → Hp → VK → XK → Prop
/-- how an exception lies behind a call (file 08 gives it): the callers' frames, abstract heap and state ahead of the call, the wish, the exception, the state -/
abbrev CXT := List Env → Hp → Shared → XK → Value → Shared → Prop

/-- the state at a call -/
structure Env0 (P : Program) (w : World) (K : PySem.W.Frag) (mg : Str → Option Value) (base : Heap) (A : Around) (outer : List Env) (s : Shared) (H : Hp) : Prop where
  frames : A.frames = some outer
  mod : Mod K mg base
  bs : ∀ b o, base.get? b = some o → s.heap.get? b = some o ∧ H b = none
  bsz : base.objs.size ≤ s.heap.objs.size
  funs : s.heap.FunFrames base outer
  frf : ∀ b ∈ frs outer, H b = none
  hok : HOk P w H s.heap
  bare : AllBare s.gens
/-- a call's end -/
def CE (outer : List Env) (P : Program) (w : World) (H : Hp) (s : Shared) (Q : VK) (u : Value) (s' : Shared) : Prop :=
  ∃ v H', s'.os = s.os ∧ AllBare s'.gens ∧ Un (frs outer) [] H H' s.heap s'.heap ∧ HOk P w H' s'.heap ∧ RelV v u ∧ Q v H'
def CR (CX : CXT) (outer : List Env) (P : Program) (w : World) (H : Hp) (s : Shared) (Q : VK) (E : XK) (r : Result) (s' : Shared) : Prop :=
  match r with
  | .ok (.ret u) => CE outer P w H s Q u s'
  | .ok _ => False
  | .error e => CX outer H s E e s'
structure FnOk (P : Program) (w : World) (K : PySem.W.Frag) (mg : Str → Option Value) (base : Heap) (CX : CXT) (k : Nat) (f : Addr) (fd : FuncData) (ps : List Str) (sp : Sp) : Prop where
  len : ∀ vs H Q E, sp vs H Q E → vs.length = ps.length
  run : ∀ (A : Around) (outer : List Env) (s : Shared) (H : Hp) (args : Args) (us : List Value) (vs : List V) (Q : VK) (E : XK), Room k A → Env0 P w K mg base A outer s H → BindsTo s fd args (ps.zip us) → Vals vs us → sp vs H Q E →
    codeAny (model P w) A (.call (.ref f) args) (CR CX outer P w H s Q E) s
theorem FnOk.mono {P : Program} {w : World} {K : PySem.W.Frag} {mg : Str → Option Value} {base : Heap} {CX : CXT} {j k : Nat} {f : Addr} {fd : FuncData} {ps : List Str} {sp : Sp} (F : FnOk P w K mg base CX j f fd ps sp) (h : j ≤ k) :
    FnOk P w K mg base CX k f fd ps sp := ⟨F.len, fun A outer s H args us vs Q E hr => F.run A outer s H args us vs Q E (hr.mono h)⟩
/-- a weaker promise -/
theorem FnOk.imp {P : Program} {w : World} {K : PySem.W.Frag} {mg : Str → Option Value} {base : Heap} {CX : CXT} {k : Nat} {f : Addr} {fd : FuncData} {ps : List Str} {sp sp' : Sp} (F : FnOk P w K mg base CX k f fd ps sp)
    (h : ∀ vs H Q E, sp' vs H Q E → sp vs H Q E) : FnOk P w K mg base CX k f fd ps sp' :=
  ⟨fun vs H Q E q => F.len vs H Q E (h _ _ _ _ q), fun A outer s H args us vs Q E hr he hb hv hs => F.run A outer s H args us vs Q E hr he hb hv (h _ _ _ _ hs)⟩

theorem Env0.make {P : Program} {w : World} {K : PySem.W.Frag} {mg : Str → Option Value} {base : Heap} {A : Around} {outer : List Env} {s : Shared} {H : Hp} (e : Env0 P w K mg base A outer s H) (C : Addr) (us : List Value) (kw : List (Str × Value)) :
    Env0 P w K mg base (A.under (.builtin "type.__call__" ⟨.ref C :: us, kw⟩)) outer s H := ⟨by first | exact e.frames | (simpa [Around.under, Code.envs, Code.isFrame, pushEnvs] using e.frames), e.mod, e.bs, e.bsz, e.funs, e.frf, e.hok, e.bare⟩
theorem Env0.in1 {P : Program} {w : World} {K : PySem.W.Frag} {mg : Str → Option Value} {base : Heap} {A : Around} {outer : List Env} {s : Shared} {H : Hp} (e : Env0 P w K mg base A outer s H) :
    Env0 P w K mg base A.in1 outer s H := ⟨e.frames, e.mod, e.bs, e.bsz, e.funs, e.frf, e.hok, e.bare⟩

section
variable {X : Cx} {pins : List (Addr × Obj)} {σ : St} {H : Hp} {s s' : Shared}
/-- from a body: what a callee wants -/
theorem Inv.env0 (I : Inv X pins σ H s) : Env0 X.prog X.w X.K X.mg X.base X.A X.stack s H :=
  ⟨I.ok.frames, I.ok.mod, I.bs, Nat.le_trans I.ok.bsz I.sz, I.stack, I.stkFree, I.hok, I.bare⟩
/-- behind a call -/
theorem Inv.after {Q : VK} {u : Value} (I : Inv X pins σ H s) (h : CE X.stack X.prog X.w H s Q u s') : EP X pins σ Q u s' := by
  obtain ⟨v, H', os, bare, un, hok, r, q⟩ := h
  obtain ⟨hh, g, d, t, os'⟩ := s'
  obtain rfl : os' = s.os := os
  exact ⟨v, H', I.call (h' := hh) (g' := g) (d' := d) (t' := t) (ch := []) un hok bare (fun b z => absurd z (by simp)), r, q⟩
end
/-- f(..): the written arguments, then the defaults dvs; E: what is wanted of an exception -/
def tCall (sp : Sp) (dvs : List V) (E : XK) (t : TA) : TE := fun σ H Q => t σ H fun vs H1 => sp (vs ++ dvs) H1 Q E
/-- o.m(..) of an instance of the class at C -/
def tMeth (C : Addr) (m : Str) (sp : Sp) (dvs : List V) (E : XK) (ta : TE) (t : TA) : TE := fun σ H Q => ta σ H fun x H1 => ∃ a dx fs, x = .ref a ∧ H1 a = some (.ins C dx fs) ∧ fs.lookup m = none ∧
  t σ H1 fun vs H2 => sp (x :: (vs ++ dvs)) H2 Q E
/-- C(..): a new instance and its dict, then __init__ -/
def tMake (C : Addr) (sp : Sp) (dvs : List V) (E : XK) (t : TA) : TE := fun σ H Q => t σ H fun vs H1 => ∀ x dx, H1 x = none → H1 dx = none → dx ≠ x →
  sp (.ref x :: (vs ++ dvs)) (upd (upd H1 dx (.own x)) x (.ins C dx [])) (fun v H2 => v = .non ∧ Q (.ref x) H2) E

/-- how the parameters are bound: us the positional arguments, kw the keywords' values by name, ds the defaults that fill up -/
def Binds (K : PySem.W.Frag) (fd : FuncData) (ps : List Str) (ds : List Value) : Prop :=
  ∀ (s : Shared) (us : List Value), K.In s.heap → (us ++ ds).length = ps.length → BindsTo s fd ⟨us, []⟩ (ps.zip (us ++ ds))
/-- every parameter is given -/
theorem Binds.all {K : PySem.W.Frag} {fd : FuncData} {ps : List Str} (h : ∀ us : List Value, us.length = ps.length → bindArgs fd ⟨us, []⟩ = pure (ps.zip us)) : Binds K fd ps [] := fun s us _ hl => by
  rw [List.append_nil] at hl ⊢
  exact .of_eq (h us hl)

/-- an exception of a callee reaches what this body wants of exceptions -/
def Passes (CX : CXT) (X : Cx) (E : XK) : Prop := ∀ (pins : List (Addr × Obj)) (σ : St) (H : Hp) (s : Shared) (e : Value) (s' : Shared), Inv X pins σ H s → CX X.stack H s E e s' → X.xe e s'

section
variable {X : Cx} {CX : CXT} {k : Nat} {f C : Addr} {fd : FuncData} {ps : List Str} {sp : Sp} {dvs : List V} {ds : List Value} {E : XK} {x m : Str} {p pos apos : Pos} {e o : Expr} {es : List Expr} {ta : TE} {t : TA}
/-- the callee runs -/
theorem run_fn {pins : List (Addr × Obj)} {σ : St} {H : Hp} {s : Shared} {Q : VK} {us : List Value} {vs : List V} (F : FnOk X.prog X.w X.K X.mg X.base CX k f fd ps sp) (hr : Room k X.A) (hb : Binds X.K fd ps ds) (hd : Vals dvs ds) (hx : Passes CX X E)
    (I : Inv X pins σ H s) (r : Vals vs us) (h : sp (vs ++ dvs) H Q E) : wpAny (model X.prog X.w) X.A (call (.ref f) us) (EP X pins σ Q) X.xe s := by
  have r2 : Vals (vs ++ dvs) (us ++ ds) := r.append hd
  have hl : (us ++ ds).length = ps.length := by rw [← r2.length]; exact F.len _ _ _ _ h
  refine wpAny_call (codeAny_mono (F.run X.A X.stack s H ⟨us, []⟩ (us ++ ds) (vs ++ dvs) Q E hr I.env0 (hb s us I.kIn hl) r2 h) fun r s' hq => ?_)
  cases r with
  | error e => exact hx pins σ H s e s' I hq
  | ok fl =>
    cases fl with
    | ret u => exact I.after hq
    | next => exact False.elim hq
    | brk => exact False.elim hq
    | cont => exact False.elim hq

theorem pe_call (F : FnOk X.prog X.w X.K X.mg X.base CX k f fd ps sp) (hr : Room k X.A) (hg : Gl X x) (hm : X.mg x = some (.ref f)) (hk : PySem.W.keepIn X.K (.ref f) = true) (hb : Binds X.K fd ps ds) (hd : Vals dvs ds) (hx : Passes CX X E)
    (ha : PA X (e :: es) t) (hdb : (x == ("__debug__" : Str)) = false := by decide) (he : starEach (e :: es) X.env = (false, eval e X.env) :: starEach es X.env := by rfl) (hpl : (backTo pos (starEach es X.env)).any (·.1) = false := by rfl) :
    PE X (.Call (.Name x p) (e :: es) [] pos) (tCall sp dvs E t) := by
  intro pins s σ H Q I h
  refine wpAny_Call_Name_kw (ld_glob I hg hm ?_ hdb)
  refine PySem.W.callWith_K (h₀ := X.base) I.ok.mod.kin hk (thn (ha pos pins s σ H _ I h) fun us s1 ⟨vs, H1, I1, r, q⟩ => ⟨I1.kIn, ?_⟩) he hpl
  exact run_fn F hr hb hd hx I1 r q
/-- o.m(e, ..) -/
theorem pe_meth {pl : Sem Bool} (he : PE X o ta) (c : Cls X.K C) (hm : Meth X.K C m f) (F : FnOk X.prog X.w X.K X.mg X.base CX k f fd ps sp) (hr : Room k X.A) (hb : Binds X.K fd ps ds) (hd : Vals dvs ds) (hx : Passes CX X E) (ha : PA X (e :: es) t)
    (hst : starEach (e :: es) X.env = (false, eval e X.env) :: starEach es X.env := by rfl) (hpl : (backTo pos (starEach es X.env)).any (·.1) = false := by rfl)
    (ht : eval (.Call (.Attribute o m apos) (e :: es) [] pos) X.env = (do
      let ov ← eval o X.env
      standAt apos.atName
      let (f, first) ← holding [ov] (getMethod ov m pl)
      callWith pos f first (backTo pos (starEach (e :: es) X.env)) (backToKw pos (keywordEach [] X.env))) := by rfl) :
    PE X (.Call (.Attribute o m apos) (e :: es) [] pos) (tMeth C m sp dvs E ta t) := by
  intro pins s σ H Q I h
  refine PySem.W.methodCall_KW (pl := pl) (thn (he pins s σ H _ I h) fun u s1 ⟨x, H1, I1, rx, a, dx, fs, ex, ea, l, q⟩ => ?_) ht
  subst ex
  obtain rfl : u = Value.ref a := rx
  refine getmeth_ok I1 ea c hm l ?_
  refine PySem.W.callWith_K (first := [.ref a]) (h₀ := X.base) I.ok.mod.kin hm.kp (thn (ha pos pins s1 σ H1 _ I1 q) fun us s2 ⟨vs, H2, I2, r, q2⟩ => ⟨I2.kIn, ?_⟩) hst hpl
  exact run_fn (us := .ref a :: us) (vs := .ref a :: vs) F hr hb hd hx I2 (.cons rfl r) q2
/-- o.m() -/
theorem pe_meth0 {pl : Sem Bool} (he : PE X o ta) (c : Cls X.K C) (hm : Meth X.K C m f) (F : FnOk X.prog X.w X.K X.mg X.base CX k f fd ps sp) (hr : Room k X.A) (hb : Binds X.K fd ps ds) (hd : Vals dvs ds) (hx : Passes CX X E)
    (ht : eval (.Call (.Attribute o m apos) [] [] pos) X.env = (do
      let ov ← eval o X.env
      standAt apos.atName
      let (f, first) ← holding [ov] (getMethod ov m pl)
      callWith pos f first (backTo pos (starEach [] X.env)) (backToKw pos (keywordEach [] X.env))) := by rfl) :
    PE X (.Call (.Attribute o m apos) [] [] pos) (tMeth C m sp dvs E ta tNil) := by
  intro pins s σ H Q I h
  refine PySem.W.methodCall_KW (pl := pl) (thn (he pins s σ H _ I h) fun u s1 ⟨x, H1, I1, rx, a, dx, fs, ex, ea, l, q⟩ => ?_) ht
  subst ex
  obtain rfl : u = Value.ref a := rx
  refine getmeth_ok I1 ea c hm l ?_
  exact PySem.W.callWith_K0 (first := [.ref a]) I1.kIn hm.kp (run_fn (us := [.ref a]) (vs := [.ref a]) F hr hb hd hx I1 (.cons rfl .nil) q)

/-- what a class must have to be made -/
structure Mk (K : PySem.W.Frag) (C f : Addr) : Prop where
  makes : PySem.W.makesIn K C = true
  init : PySem.W.findIn K (.ref C) "__init__" = some (some (.ref f))
  fn : PySem.W.isFn K (.ref f) = true
  kp : PySem.W.keepIn K (.ref C) = true

theorem run_make {pins : List (Addr × Obj)} {σ : St} {H : Hp} {s : Shared} {Q : VK} {us : List Value} {vs : List V} (M : Mk X.K C f) (F : FnOk X.prog X.w X.K X.mg X.base CX k f fd ps sp) (hr : Room (k + 1) X.A) (hb : Binds X.K fd ps ds) (hd : Vals dvs ds)
    (hx : Passes CX X E) (I : Inv X pins σ H s) (r : Vals vs us)
    (h : ∀ x dx, H x = none → H dx = none → dx ≠ x → sp (.ref x :: (vs ++ dvs)) (upd (upd H dx (.own x)) x (.ins C dx [])) (fun v H2 => v = .non ∧ Q (.ref x) H2) E) :
    wpAny (model X.prog X.w) X.A (call (.ref C) us) (EP X pins σ Q) X.xe s := by
  have hq := h (s.heap.objs.size + 1) s.heap.objs.size (I.hok.fresh (Nat.le_succ _)) (I.hok.fresh (Nat.le_refl _)) (Nat.ne_of_lt (Nat.lt_succ_self _))
  have I2 := Inv.made (C := C) I
  have r2 : Vals (V.ref (s.heap.objs.size + 1) :: (vs ++ dvs)) (Value.ref (s.heap.objs.size + 1) :: (us ++ ds)) := .cons rfl (r.append hd)
  have hl : (Value.ref (s.heap.objs.size + 1) :: us ++ ds).length = ps.length := by
    have e := r2.length
    rw [F.len _ _ _ _ hq] at e
    exact e.symm
  refine wpAny_call (make_map (f := f) I.kIn M.makes M.init (beq_iff_eq.mp M.fn) (codeAny_mono (F.run _ X.stack _ _ ⟨Value.ref (s.heap.objs.size + 1) :: us, []⟩ (Value.ref (s.heap.objs.size + 1) :: (us ++ ds)) _ _ E (hr.make C us [])
    (I2.env0.make C us []) (hb _ (Value.ref (s.heap.objs.size + 1) :: us) I2.kIn hl) r2 hq) fun r s' hq' => ?_))
  cases r with
  | error e => exact hx pins σ _ _ e s' I2 hq'
  | ok fl =>
    cases fl with
    | ret u =>
      obtain ⟨v, H', I3, rv, ev, q3⟩ := I2.after hq'
      subst ev
      exact ⟨rv, ⟨V.ref (s.heap.objs.size + 1), H', I3, rfl, q3⟩⟩
    | next => exact False.elim hq'
    | brk => exact False.elim hq'
    | cont => exact False.elim hq'
theorem pe_make0 (M : Mk X.K C f) (F : FnOk X.prog X.w X.K X.mg X.base CX k f fd ps sp) (hr : Room (k + 1) X.A) (hg : Gl X x) (hm : X.mg x = some (.ref C)) (hb : Binds X.K fd ps ds) (hd : Vals dvs ds) (hx : Passes CX X E)
    (hdb : (x == ("__debug__" : Str)) = false := by decide) : PE X (.Call (.Name x p) [] [] pos) (tMake C sp dvs E tNil) := by
  intro pins s σ H Q I h
  refine wpAny_Call_Name_kw (ld_glob I hg hm ?_ hdb)
  exact PySem.W.callWith_K0 I.kIn M.kp (run_make (us := []) M F hr hb hd hx I .nil h)
end
section
variable {X : Cx} {CX : CXT} {k : Nat} {f C : Addr} {fd : FuncData} {ps ks : List Str} {sp : Sp} {E : XK} {x m : Str} {p pos apos kpos : Pos} {e o : Expr} {es : List Expr} {kws : List Keyword} {te ta : TE} {t tk : TA} {nm : Option Str}
variable {g : List Value → List Value → List Value} {gV : List V → List V → List V}
end
/-- names: the parameters first -/
structure FnScope (N P : List Str) (sc : Scope) : Prop where
  kind : sc.kind = .function
  co : sc.isCoroutine = false
  gen : sc.isGenerator = false
  nd : N.Nodup
  pre : N.take P.length = P
  par : ∀ x ∈ P, sc.names.lookup x = some .local ∨ sc.names.lookup x = some .cell
  nofree : ∀ y ∈ sc.names, y.2 ≠ .free

theorem bindL_out {kindOf : Str → Option NameKind} {x : Str} : ∀ {binds : List (Str × Value)} {m : Str → Option Value}, (∀ v, (x, v) ∉ binds) → bindL kindOf binds m x = m x
  | [], _, _ => rfl
  | (n, v) :: r, m, h => by
    unfold bindL
    rw [bindL_out fun w hw => h w (List.mem_cons_of_mem _ hw)]
    split
    · have : x ≠ n := by rintro rfl; exact h v List.mem_cons_self
      simp [this]
    · rfl
theorem bindC_out {kindOf : Str → Option NameKind} {x : Str} : ∀ {binds : List (Str × Value)} {m : Str → Option Value}, (∀ v, (x, v) ∉ binds) → bindC kindOf binds m x = m x
  | [], _, _ => rfl
  | (n, v) :: r, m, h => by
    unfold bindC
    rw [bindC_out fun w hw => h w (List.mem_cons_of_mem _ hw)]
    split
    · rfl
    · have : x ≠ n := by rintro rfl; exact h v List.mem_cons_self
      simp [this]
theorem bindL_get {kindOf : Str → Option NameKind} {x : Str} {v : Value} : ∀ {P : List Str} {vs : List Value} {i : Nat} {m : Str → Option Value}, P.Nodup → P[i]? = some x → vs[i]? = some v → kindOf x = some .local →
    bindL kindOf (P.zip vs) m x = some v
  | [], _, _, _, _, h, _, _ => by simp at h
  | _ :: _, [], _, _, _, _, h, _ => by simp at h
  | p :: P, w :: vs, 0, m, nd, h1, h2, hk => by
    simp at h1 h2; subst h1; subst h2
    show bindL kindOf ((p, w) :: P.zip vs) m p = _
    unfold bindL
    rw [bindL_out fun v hv => (List.nodup_cons.mp nd).1 (List.of_mem_zip hv).1, if_pos hk]
    simp
  | p :: P, w :: vs, i + 1, m, nd, h1, h2, hk => by
    show bindL kindOf ((p, w) :: P.zip vs) m x = _
    unfold bindL
    exact bindL_get (i := i) (List.nodup_cons.mp nd).2 (by simpa using h1) (by simpa using h2) hk
theorem bindC_get {kindOf : Str → Option NameKind} {x : Str} {v : Value} : ∀ {P : List Str} {vs : List Value} {i : Nat} {m : Str → Option Value}, P.Nodup → P[i]? = some x → vs[i]? = some v → kindOf x ≠ some .local →
    bindC kindOf (P.zip vs) m x = some v
  | [], _, _, _, _, h, _, _ => by simp at h
  | _ :: _, [], _, _, _, _, h, _ => by simp at h
  | p :: P, w :: vs, 0, m, nd, h1, h2, hk => by
    simp at h1 h2; subst h1; subst h2
    show bindC kindOf ((p, w) :: P.zip vs) m p = _
    unfold bindC
    rw [bindC_out fun v hv => (List.nodup_cons.mp nd).1 (List.of_mem_zip hv).1, if_neg hk]
    simp
  | p :: P, w :: vs, i + 1, m, nd, h1, h2, hk => by
    show bindC kindOf ((p, w) :: P.zip vs) m x = _
    unfold bindC
    exact bindC_get (i := i) (List.nodup_cons.mp nd).2 (by simpa using h1) (by simpa using h2) hk

/-- the names' values at the entry -/
def start (N : List Str) (vs : List V) : St := vs.map some ++ List.replicate (N.length - vs.length) none

/-- the context of a def's body, at its entry; an exception leaves the frame, then lies as CX says -/
def cxOf (CX : CXT) (P : Program) (w : World) (K : PySem.W.Frag) (mg : Str → Option Value) (base : Heap) (N : List Str) (qual : Str) (scope : Scope) (f : Addr) (cd : Value) (A : Around) (outer : List Env) (s : Shared) (H : Hp) (E : XK) : Cx where
  prog := P
  w := w
  K := K
  mg := mg
  base := base
  A := A.deeper (envOfC qual scope s.heap.objs.size f cd)
  N := N
  s_0 := s
  H_0 := H
  env := envOfC qual scope s.heap.objs.size f cd
  outer := outer
  stack := envOfC qual scope s.heap.objs.size f cd :: outer
  ex := []
  calm := true
  fn := fun _ => true
  pn := []
  xe := fun e s' => wpAny (model P w) (A.deeper (envOfC qual scope s.heap.objs.size f cd)) (leaving (envOfC qual scope s.heap.objs.size f cd) e) (fun _ s'' => CX outer H s E e s'') (fun e' s'' => CX outer H s E e' s'') s'

theorem cell_has {sc : Scope} {n : Nat} {x : Str} (h : sc.names.lookup x = some .cell) : ∃ c, (cellsFrom n sc.names []).lookup x = some c := by
  have q := PySem.W.cellsFrom_some sc.names n [] (.inl h)
  exact Option.isSome_iff_exists.mp q

theorem inv_start {CX : CXT} {P : Program} {w : World} {K : PySem.W.Frag} {mg : Str → Option Value} {base : Heap} {N ps : List Str} {qual : Str} {scope : Scope} {f : Addr} {cd : Value} {A : Around} {outer : List Env} {s s1 : Shared} {H : Hp} {E : XK} {us : List Value} {vs : List V}
    (S : FnScope N ps scope) (hd : A.handled = none) (e0 : Env0 P w K mg base A outer s H) (hl : vs.length = ps.length) (r : Vals vs us)
    (x : InCallC s s.heap.objs.size (bindL (envOfC qual scope s.heap.objs.size f cd).kindOf (ps.zip us) fun _ => none) (cellsFrom (s.heap.objs.size + 1) scope.names []) (bindC (envOfC qual scope s.heap.objs.size f cd).kindOf (ps.zip us) fun _ => none) s1) :
    Inv (cxOf CX P w K mg base N qual scope f cd A outer s H E) [] (start N vs) H s1 := by
  have hpl : ps.length ≤ N.length := by have := congrArg List.length S.pre; rw [List.length_take] at this; omega
  obtain ⟨h1, tk, rfl, hk⟩ := x.done
  have noA : ∀ b : Addr, b ∉ (cxOf CX P w K mg base N qual scope f cd A outer s H E).ex := fun b z => absurd (show b ∈ ([] : List Addr) from z) (by simp)
  refine ⟨⟨e0.mod, S.kind, rfl, rfl, Nat.le_refl _, fun y z c h1 h2 => ?_, fun y hy => ?_, fun y c _ h => ?_, fun _ => hd, Around.frames_deeper e0.frames, .inr ⟨rfl, rfl⟩, fun b z => absurd z (noA b), e0.bs, e0.bsz, fun b _ _ => noA b, fun b z => absurd z (noA b), e0.funs, e0.frf⟩,
    rfl, e0.bare, Un.kept hk, ⟨_, x.toInCall.ns, fun i y v h1 h2 h3 => ?_⟩, fun y c h => ⟨_, x.cell y c h⟩, e0.hok.fresh (Nat.le_refl _), fun y c h => ?_, fun p hp => absurd (show p ∈ ([] : List (Addr × Obj)) from hp) (by simp), e0.hok.kept hk, ?_⟩
  · exact name_of_addr x.apart (PySem.mem_of_lookup h1) (PySem.mem_of_lookup h2)
  · have hy : scope.names.lookup y = some .cell ∨ scope.names.lookup y = some .free := hy
    rcases hy with hy | hy
    · exact cell_has hy
    · exact absurd rfl (S.nofree _ (PySem.mem_of_lookup hy))
  · exact Nat.le_of_lt (x.above y c (PySem.mem_of_lookup h))
  · have hi : i < vs.length := by
      unfold start at h2
      by_cases hi : i < vs.length
      · exact hi
      · rw [List.getElem?_append_right (by simpa using hi)] at h2
        rw [List.getElem?_replicate] at h2
        split at h2 <;> cases h2
    have ha : vs[i]? = some v := by
      unfold start at h2
      rw [List.getElem?_append_left (by simpa using hi), List.getElem?_map] at h2
      cases e : vs[i]? with
      | none => rw [e] at h2; cases h2
      | some a => rw [e] at h2; cases h2; rfl
    obtain ⟨u, hu, rv⟩ := r.get ha
    have hp : ps[i]? = some y := by
      rw [← S.pre, List.getElem?_take_of_lt (by omega)]; exact h1
    have ndP : ps.Nodup := by rw [← S.pre]; exact S.nd.sublist (List.take_sublist _ _)
    refine ⟨u, rv, ?_⟩
    rcases S.par y (List.mem_of_getElem? hp) with k | k
    · exact .inl ⟨k, bindL_get ndP hp hu k⟩
    · obtain ⟨c, e⟩ := cell_has (n := s.heap.objs.size + 1) k
      refine .inr ⟨.inl k, c, e, ?_⟩
      have q := x.cell y c e
      rw [bindC_get ndP hp hu (by show scope.names.lookup y ≠ _; rw [k]; decide)] at q
      exact q
  · exact e0.hok.fresh (Nat.le_of_lt (x.above y c (PySem.mem_of_lookup h)))
  · unfold start
    show _ = N.length
    rw [List.length_append, List.length_map, List.length_replicate]
    omega

/-- THE RULE: a def (or a method) of the text, by its body. The body's reading t is chosen for each entry; it is run at the parameters' values -/
theorem fn_of {CX : CXT} {P : Program} {w : World} {K : PySem.W.Frag} {mg : Str → Option Value} {base : Heap} {k : Nat} {f : Addr} {name qual : Str} {params : Arguments} {body : List Stmt} {scope : Scope} {dV kV doc pm cdv ct oc : Value} {an od : Option Addr}
    {osl : Array (Option Value)} {N ps : List Str} {sp : Sp} (lk : K.lookup f = some ⟨oc, od, .func (PySem.W.fnOf name qual params body scope dV kV doc pm an cdv ct), osl⟩) (hcd : PySem.W.codeIn K cdv qual = true) (S : FnScope N ps scope)
    (len : ∀ vs H Q E, sp vs H Q E → vs.length = ps.length)
    (hbody : ∀ (A : Around) (outer : List Env) (s : Shared) (H : Hp) (vs : List V) (Q : VK) (E : XK), Room k (A.deeper (envOfC qual scope s.heap.objs.size f cdv)) → sp vs H Q E →
      ∃ t, PSs (cxOf CX P w K mg base N qual scope f cdv A outer s H E) body t ∧ t { nx := fun _ H' => Q .non H', rt := Q } (start N vs) H) :
    FnOk P w K mg base CX (k + 1) f (PySem.W.fnOf name qual params body scope dV kV doc pm an cdv ct) ps sp := by
  refine ⟨len, fun A outer s H args us vs Q E hr e0 hb r hsp => ?_⟩
  have hl := len _ _ _ _ hsp
  have KX : K.In s.heap := e0.mod.kin.keeps fun b o e => (e0.bs b o e).1
  have lim : s.heap.NoLimit := e0.mod.nolimit.keeps fun b o e => (e0.bs b o e).1
  have hkind : ∀ y ∈ ps.zip us, scope.names.lookup y.1 = some .local ∨ (scope.names.lookup y.1 = some .cell ∧ ((cellsFrom (s.heap.objs.size + 1) scope.names []).lookup y.1).isSome = true) := fun ⟨n, v⟩ hy => by
    rcases S.par n (List.of_mem_zip hy).1 with q | q
    · exact .inl q
    · exact .inr ⟨q, PySem.W.cellsFrom_some _ _ _ (.inl q)⟩
  refine codeAny_call_function hr.depth (KX _ _ lk) rfl S.co S.gen rfl (PySem.W.codeRec_of KX hcd) (hb _ _ _ _ ?_)
  refine wpAny_newFunctionEnv_cells S.kind hkind fun env he s1 x => ?_
  subst he
  refine ⟨lim.keeps x.toInCall.keep, codeAny_func ?_⟩
  obtain ⟨t, ht, hq⟩ := hbody A outer s H vs Q E (hr.deeper _) hsp
  have I : Inv (cxOf CX P w K mg base N qual scope f cdv A outer s H E) [] (start N vs) H s1 := inv_start S hr.hd e0 hl r x
  refine wpAny_mono (ht [] s1 (start N vs) H _ I hq) (fun fl s' hs => ?_) fun e s' hs => hs
  have fin : ∀ {σ' : St} {H' : Hp} {v : V} {u : Value}, Inv (cxOf CX P w K mg base N qual scope f cdv A outer s H E) [] σ' H' s' → RelV v u → Q v H' → CE outer P w H s Q u s' :=
    fun {σ' H' v u} J rv q => ⟨v, H', J.os, J.bare, J.base, J.hok, rv, q⟩
  cases fl with
  | ret u =>
    obtain ⟨v, σ', H', J, rv, q⟩ := hs
    exact fin J rv q
  | next =>
    obtain ⟨σ', H', J, q⟩ := hs
    exact fin (v := V.non) (u := Value.none) J rfl q
  | brk =>
    obtain ⟨_, _, _, q⟩ := hs
    exact False.elim q
  | cont =>
    obtain ⟨_, _, _, q⟩ := hs
    exact False.elim q
end L2
namespace L2
open PySem PySem.Spec PyProof.Rows
section
variable {X : Cx} {x : Str} {p pos : Pos} {e : Expr} {es : List Expr} {t : TA} {id T : String} {r : List V → Hp → VK → Prop}
def tCB (r : List V → Hp → VK → Prop) (t : TA) : TE := fun σ H Q => t σ H fun vs H1 => r vs H1 Q
/-- f(e, ..), f a built-in function -/
theorem pe_callB (hc : CallR X (.builtin id) r) (hg : Gl X x) (hm : X.mg x = none) (hv : bootBuiltins x = some (.builtin id)) (ha : PA X (e :: es) t) (hn : x ≠ "__name__" := by decide) (hdb : (x == ("__debug__" : Str)) = false := by decide)
    (he : starEach (e :: es) X.env = (false, eval e X.env) :: starEach es X.env := by rfl) (hpl : (backTo pos (starEach es X.env)).any (·.1) = false := by rfl) : PE X (.Call (.Name x p) (e :: es) [] pos) (tCB r t) := by
  intro pins s σ H Q I h
  refine wpAny_Call_Name_kw (ld_blt I hg hm hv ?_ hn hdb)
  exact PyProof.Rows.callWith_builtin1 (thn (ha pos pins s σ H _ I h) fun us s1 ⟨vs, H1, I1, r1, q1⟩ => hc pins s1 σ H1 vs us Q I1 r1 q1) he hpl
/-- T(e, ..), T a built-in type -/
theorem pe_callTy (hc : CallR X (.type T) r) (hg : Gl X x) (hm : X.mg x = none) (hv : bootBuiltins x = some (.type T)) (ha : PA X (e :: es) t) (hn : x ≠ "__name__" := by decide) (hdb : (x == ("__debug__" : Str)) = false := by decide)
    (he : starEach (e :: es) X.env = (false, eval e X.env) :: starEach es X.env := by rfl) (hpl : (backTo pos (starEach es X.env)).any (·.1) = false := by rfl) : PE X (.Call (.Name x p) (e :: es) [] pos) (tCB r t) := by
  intro pins s σ H Q I h
  refine wpAny_Call_Name_kw (ld_blt I hg hm hv ?_ hn hdb)
  exact PyProof.Rows.callWith_type1 (thn (ha pos pins s σ H _ I h) fun us s1 ⟨vs, H1, I1, r1, q1⟩ => hc pins s1 σ H1 vs us Q I1 r1 q1) he hpl
end
end L2
namespace HT
open PySem PyProof.Rows
section
open PySem.SeqAt
open PySem.AutoSeq1 (wpAny_loadPart')
open PySem.MeetsSeq PySem.MeetsSeq2 PySem.MeetsSeq3
end
section
variable {prog : Program} {w : World} {A : Around} {E : Value → Shared → Prop} {s : Shared}
/-- t + u, t not empty -/
theorem cat_tup {t b : Addr} {vs ws : List Value} {Q : Value → Shared → Prop} (ht : IsTup s.heap t vs.toArray) (hb : IsTup s.heap b ws.toArray) (hv : vs ≠ [])
    (h1 : ws = [] → Q (.ref t) s) (h2 : ws ≠ [] → Q (.ref s.heap.objs.size) { s with heap := s.heap.push { cls := .type "tuple", data := .seq (vs ++ ws).toArray } })
    (hsz : vs.length + ws.length ≤ sizeLine) : wpAny (model prog w) A (binaryOp .Add (.ref t) (.ref b)) Q E s := by
  obtain ⟨⟨cls, dd, data, sl⟩, ho, hc, n, hd⟩ := id ht
  obtain ⟨⟨cls2, dd2, data2, sl2⟩, ho2, hc2, n2, hd2⟩ := id hb
  simp only at hc hd hc2 hd2
  subst hc hd hc2 hd2
  have e : vs.toArray ++ ws.toArray = (vs ++ ws).toArray := by simp
  by_cases hw : ws = []
  · exact concat_meets ⟨_, ho, rfl⟩ ⟨_, ho2, rfl⟩ noFill_tuple_add seq_tuple_add PySem.F.slot_tuple_add PySem.F.entry_tuple_add (PySem.F.args_tuple_add_2 _ _)
      (tuple_addW1 t b vs.toArray ws.toArray n n2 dd dd2 sl sl2 (by simpa using hv) (by simp [hw])) ⟨ho, ho2, h1 hw⟩
  · refine concat_meets ⟨_, ho, rfl⟩ ⟨_, ho2, rfl⟩ noFill_tuple_add seq_tuple_add PySem.F.slot_tuple_add PySem.F.entry_tuple_add (PySem.F.args_tuple_add_2 _ _)
      (tuple_addW2 t b vs.toArray ws.toArray n n2 dd dd2 sl sl2 (by simpa using hv) (by simpa using hw) (by rw [List.size_toArray, List.size_toArray]; exact hsz)) ⟨ho, ho2, ?_⟩
    rw [e]
    exact h2 hw

/-- a slice's bound as a place among n (d where it is left out) -/
def sIx (n d : Nat) : Option Int → Nat
  | none => d
  | some v => if v < 0 then (v + (n : Int)).toNat else min v.toNat n
theorem sIx_none (n d : Nat) : sIx n d none = d := rfl
theorem sIx_nat (n d k : Nat) : sIx n d (some (k : Int)) = min k n := by
  show (if (k : Int) < 0 then ((k : Int) + (n : Int)).toNat else min (k : Int).toNat n) = min k n
  rw [if_neg (by omega), Int.toNat_natCast]
theorem sIx_le (n d : Nat) (hd : d ≤ n) (o : Option Int) : sIx n d o ≤ n := by
  cases o with
  | none => exact hd
  | some v =>
    show (if v < 0 then (v + (n : Int)).toNat else min v.toNat n) ≤ n
    by_cases hv : v < 0
    · rw [if_pos hv]; omega
    · rw [if_neg hv]; exact Nat.min_le_right _ _
theorem clip_eq (v : Int) (n d : Nat) : (if v < 0 then max (v + (n : Int)) 0 else min v (n : Int)) = ((sIx n d (some v) : Nat) : Int) := by
  show (if v < 0 then max (v + (n : Int)) 0 else min v (n : Int)) = (((if v < 0 then (v + (n : Int)).toNat else min v.toNat n) : Nat) : Int)
  by_cases hv : v < 0
  · simp only [if_pos hv]; omega
  · simp only [if_neg hv]; omega
theorem adjust_gen (lo hi : Option Int) (n : Nat) : Builtin.Slice.sliceAdjust lo hi 1 (n : Int) = (((sIx n 0 lo : Nat) : Int), ((sIx n n hi : Nat) : Int)) := by
  have h1 : ¬ ((1 : Int) < 0) := by omega
  unfold Builtin.Slice.sliceAdjust
  simp only [h1, if_false]
  refine Prod.ext ?_ ?_
  · cases lo with
    | none => rfl
    | some v => exact clip_eq v n 0
  · cases hi with
    | none => rfl
    | some v => exact clip_eq v n n
theorem places_gen (i j : Nat) : Builtin.Slice.slicePlaces (i : Int) (j : Int) 1 = j - i := by
  unfold Builtin.Slice.slicePlaces
  have h1 : (1 : Int) > 0 := by omega
  simp only [h1, if_true, Int.ediv_one]
  split <;> omega
theorem slicePart_ {v : Value} {o : Option Int} {Q : Option Int → Shared → Prop} (p : IsPart v o) (h : Q o s) : wpAny (model prog w) A (Builtin.Slice.slicePartIndex v) Q E s := by
  cases p with
  | none => exact slicePart_none h
  | int i t => exact slicePart_int h
theorem sliceApplied_gen {sl : Addr} {vl vu : Value} {lo hi : Option Int} {n : Nat} {Q : Int × Int × Nat → Shared → Prop} (hs : s.heap.IsSliceOf sl vl vu .none) (pl : IsPart vl lo) (pu : IsPart vu hi)
    (h : Q (((sIx n 0 lo : Nat) : Int), 1, sIx n n hi - sIx n 0 lo) s) : wpAny (model prog w) A (Builtin.Slice.sliceApplied (.ref sl) (pure (n : Int))) Q E s := by
  obtain ⟨os, hos, hcs, hds⟩ := id hs
  unfold Builtin.Slice.sliceApplied Builtin.Slice.sliceFields
  refine wpAny_bind (wpAny_bind (wpAny_field hos hds (x := vl) rfl (wpAny_bind (wpAny_field hos hds (x := vu) rfl (wpAny_bind (wpAny_field hos hds (x := .none) rfl (wpAny_pure ?_)))))))
  refine wpAny_bind (slicePart_none ?_)
  show wpAny _ _ (if ((1 : Int) == 0) = true then _ else _) _ _ s
  rw [if_neg (by decide)]
  refine wpAny_bind (slicePart_ pl (wpAny_bind (slicePart_ pu (wpAny_bind (wpAny_pure ?_)))))
  show wpAny _ _ (match Builtin.Slice.sliceAdjust lo hi 1 (n : Int) with | (lo, hi) => pure (lo, (1 : Int), Builtin.Slice.slicePlaces lo hi 1)) _ _ s
  rw [adjust_gen lo hi n]
  show wpAny _ _ (pure (((sIx n 0 lo : Nat) : Int), (1 : Int), Builtin.Slice.slicePlaces ((sIx n 0 lo : Nat) : Int) ((sIx n n hi : Nat) : Int) 1)) _ _ s
  rw [places_gen]
  exact wpAny_pure h
theorem pick_gen (xs : Array Value) (i k : Nat) : ((List.range k).filterMap fun (m : Nat) => xs[((i : Int) + (m : Int) * 1).toNat]?).toArray = ((xs.toList.drop i).take k).toArray := by
  have e : (fun (m : Nat) => xs[((i : Int) + (m : Int) * 1).toNat]?) = fun m => xs[i + m]? := by
    funext m
    have : ((i : Int) + (m : Int) * 1).toNat = i + m := by omega
    rw [this]
  rw [e]
  have := pick_run xs i k
  rw [List.filterMap_map] at this
  have e2 : ((fun x => xs[x]?) ∘ fun x => i + x) = fun m => xs[i + m]? := rfl
  rw [e2] at this
  rw [this]

theorem getItem_tuple_cut {t sl : Addr} {items : Array Value} {vl vu : Value} {lo hi : Option Int} {Q : Value → Shared → Prop} (ht : IsTup s.heap t items) (hs : s.heap.IsSliceOf sl vl vu .none) (pl : IsPart vl lo) (pu : IsPart vu hi)
    (hw : ¬ (sIx items.size 0 lo = 0 ∧ sIx items.size items.size hi = items.size))
    (h : Q (.ref s.heap.objs.size) { s with heap := s.heap.push { cls := .type "tuple", data := .seq ((items.toList.drop (sIx items.size 0 lo)).take (sIx items.size items.size hi - sIx items.size 0 lo)).toArray } })
    (hsz : items.size ≤ sizeLine) : wpAny (model prog w) A (getItem (.ref t) (.ref sl)) Q E s := by
  have htake : sizeOk (.seq ((items.toList.drop (sIx items.size 0 lo)).take (sIx items.size items.size hi - sIx items.size 0 lo)).toArray) := by
    show ((items.toList.drop (sIx items.size 0 lo)).take (sIx items.size items.size hi - sIx items.size 0 lo)).toArray.size ≤ sizeLine
    rw [List.size_toArray, List.length_take, List.length_drop, Array.length_toList]
    omega
  have hj : sIx items.size items.size hi ≤ items.size := sIx_le _ _ (Nat.le_refl _) hi
  obtain ⟨os, hos, hcs, hds⟩ := id hs
  have hTs : s.TypeIs (.ref sl) "slice" := ⟨os, hos, hcs⟩
  unfold getItem
  try with_reducible refine wpAny_holding ?_
  first | refine wpAny_bind (wpAny_pure ?_) | skip
  refine wpAny_bind (wpAny_sequenceKey ht.typeIs (by decide) ?_)
  refine wpAny_bind (wpAny_callSpecial?_slot (name := Str.ofString "__getitem__") ht.typeIs PyProof.Rows.slot_tuple_getitem
    (wpAny_call_entry PyProof.Rows.slot_tuple_getitem ht.typeIs entry_tuple_getitem ?_ (args_tuple_getitem _ _)))
  show wpAny _ _ (Builtin.Tuple.tupleItemsOf (.ref t) >>= _) _ _ s
  refine wpAny_bind (tupleItemsOf_ ht ?_)
  refine wpAny_bind (wpAny_typeOf hTs ?_)
  rw [if_pos (by decide)]
  refine wpAny_bind (sliceApplied_gen hs pl pu ?_)
  have hno : ¬ ((((sIx items.size 0 lo : Nat) : Int) == 0 && (1 : Int) == 1 && (sIx items.size items.size hi - sIx items.size 0 lo) == items.size) = true) := by
    intro q
    rw [Bool.and_eq_true, Bool.and_eq_true] at q
    have q1 : ((sIx items.size 0 lo : Nat) : Int) = 0 := eq_of_beq q.1.1
    have q2 : sIx items.size items.size hi - sIx items.size 0 lo = items.size := eq_of_beq q.2
    exact hw ⟨by omega, by omega⟩
  show wpAny _ _ (if (((sIx items.size 0 lo : Nat) : Int) == 0 && (1 : Int) == 1 && (sIx items.size items.size hi - sIx items.size 0 lo) == items.size) = true then _ else _) _ _ s
  rw [if_neg hno, pick_gen]
  first
    | exact wpAny_bind (m := Builtin.Tuple.tupleExact _) (wpAny_newObj_type (wpAny_pure ⟨_, rfl, wpAny_pure h⟩) htake)
    | exact wpAny_bind (m := Builtin.Tuple.tupleExact _) (wpAny_newObj_type (wpAny_bind (wpAny_pure (wpAny_pure ⟨_, rfl, wpAny_pure h⟩))) htake)
    | exact wpAny_bind (wpAny_bind (m := Builtin.Tuple.tupleExact _) (wpAny_newObj_type (wpAny_pure (wpAny_pure ⟨_, rfl, wpAny_pure h⟩)) htake))
    | exact wpAny_bind (wpAny_bind (m := Builtin.Tuple.tupleExact _) (wpAny_newObj_type (wpAny_pure ⟨_, rfl, wpAny_pure h⟩) htake))
end
end HT
namespace L2
open PySem PySem.Spec PyProof.Rows
abbrev TO := St → Hp → (Option Int → Hp → Prop) → Prop
/-- a slice's part (left out, or an int) -/
def PO (X : Cx) (e : Option Expr) (t : TO) : Prop :=
  ∀ (pins : List (Addr × Obj)) (s : Shared) (σ : St) (H : Hp) (Q : Option Int → Hp → Prop), Inv X pins σ H s → t σ H Q →
    wpAny (model X.prog X.w) X.A (evalPart e X.env) (fun u s' => ∃ o H', Inv X pins σ H' s' ∧ IsPart u o ∧ Q o H') X.xe s
def tNoPart : TO := fun _ H Q => Q none H
def tPart (t : TE) : TO := fun σ H Q => t σ H fun x H1 => ∃ i, x = .int i ∧ Q (some i) H1

section
variable {X : Cx} {e : Expr} {te : TE} {lo hi : Option Expr} {tl th : TO} {pos p2 : Pos}
theorem po_none : PO X none tNoPart := by
  intro pins s σ H Q I h
  rw [evalPart_none]
  exact wpAny_pure ⟨none, H, I, .none, h⟩
theorem po_some (h : PE X e te) : PO X (some e) (tPart te) := by
  intro pins s σ H Q I hw
  rw [evalPart_some]
  refine thn (h pins s σ H _ I hw) fun u s1 ⟨x, H1, I1, r1, q1⟩ => ?_
  obtain ⟨i, rfl, q⟩ := q1
  obtain ⟨t, rfl⟩ := r1
  exact ⟨some i, H1, I1, .int i t, q⟩

/-- what a slice of a value is, by values: the slice object stands at sl -/
def SlR (X : Cx) (r : V → Option Int → Option Int → Hp → VK → Prop) : Prop :=
  ∀ (pins : List (Addr × Obj)) (s : Shared) (σ : St) (H : Hp) (x : V) (v vl vu : Value) (lo hi : Option Int) (sl : Addr) (Q : VK), Inv X pins σ H s → RelV x v → s.heap.IsSliceOf sl vl vu .none → IsPart vl lo → IsPart vu hi → r x lo hi H Q →
    ∃ T id, typeLookup (.type T) "__getitem__" = pure (some (.builtin id)) ∧ s.TypeIs v T ∧ wpAny (model X.prog X.w) X.A (getItem v (.ref sl)) (EP X pins σ Q) X.xe s
theorem SlR.or {r r' : V → Option Int → Option Int → Hp → VK → Prop} (h : SlR X r) (h' : SlR X r') : SlR X (fun x lo hi H Q => r x lo hi H Q ∨ r' x lo hi H Q) := by
  intro pins s σ H x v vl vu lo hi sl Q I rx hs pl pu q
  rcases q with q | q
  · exact h pins s σ H x v vl vu lo hi sl Q I rx hs pl pu q
  · exact h' pins s σ H x v vl vu lo hi sl Q I rx hs pl pu q
def tSl (r : V → Option Int → Option Int → Hp → VK → Prop) (te : TE) (tl th : TO) : TE := fun σ H Q => te σ H fun x H1 => tl σ H1 fun l H2 => th σ H2 fun u H3 => r x l u H3 Q
/-- a[lo:hi], any a -/
theorem pe_slice {r : V → Option Int → Option Int → Hp → VK → Prop} (hr : SlR X r) (he : PE X e te) (hl : PO X lo tl) (hu : PO X hi th) : PE X (.Subscript e (.Slice lo hi none p2) pos) (tSl r te tl th) := by
  intro pins s σ H Q I h
  refine Subscript_ (thn (he pins s σ H _ I h) fun v s1 ⟨x, H1, I1, r1, q1⟩ => ?_)
  refine wpAny_Slice (thn (hl pins s1 σ H1 _ I1 q1) fun vl s2 ⟨l, H2, I2, pl, q2⟩ => thn (hu pins s2 σ H2 _ I2 q2) fun vu s3 ⟨u, H3, I3, pu, q3⟩ => ?_)
  rw [evalPart_none]
  refine wpAny_pure ?_
  have I4 : Inv X pins σ H3 { s3 with heap := s3.heap.push { cls := .type "slice", data := .fields #[vl, vu, .none] } } := I3.kept (t' := s3.toks) fun b ob q => Heap.get?_push_of_some _ q
  obtain ⟨T, id, hT, ht, hg⟩ := hr pins { s3 with heap := s3.heap.push { cls := .type "slice", data := .fields #[vl, vu, .none] } } σ H3 x v vl vu l u s3.heap.objs.size Q I4 r1 (Heap.IsSliceOf.new ..) pl pu q3
  show wpAny (model X.prog X.w) X.A (subscriptTail e (.Slice lo hi none p2) v (.ref s3.heap.objs.size)) (EP X pins σ Q) X.xe { s3 with heap := s3.heap.push { cls := .type "slice", data := .fields #[vl, vu, .none] } }
  exact tail_any (ops := [.ref s3.heap.objs.size, v]) ht hT hg (by with_unfolding_all rfl)

/-- the items of xs[lo:hi] -/
def cutV (xs : List V) (lo hi : Option Int) : List V := (xs.drop (HT.sIx xs.length 0 lo)).take (HT.sIx xs.length xs.length hi - HT.sIx xs.length 0 lo)
theorem cutV_length (xs : List V) (lo hi : Option Int) : (cutV xs lo hi).length ≤ xs.length := by
  unfold cutV
  rw [List.length_take, List.length_drop]
  omega
/-- t[lo:hi], not the whole of it (the whole would be t itself) -/
def rSlT (K : PySem.W.Frag) : V → Option Int → Option Int → Hp → VK → Prop := fun x lo hi H Q => ∃ a xs, x = .ref a ∧ SqT K H a xs ∧
  ¬ (HT.sIx xs.length 0 lo = 0 ∧ HT.sIx xs.length xs.length hi = xs.length) ∧ ∀ p, H p = none → Q (.ref p) (upd H p (.tup (cutV xs lo hi)))
theorem sl_tup : SlR X (rSlT X.K) := by
  intro pins s σ H x v vl vu lo hi sl Q I rx hs pl pu h
  obtain ⟨a, xs, rfl, hx, hw, q⟩ := h
  cases rx
  obtain ⟨its, r, ht, hz⟩ := I.tuple hx
  have hlen : its.toArray.size = xs.length := by rw [List.size_toArray]; exact r.length.symm
  refine ⟨"tuple", _, PyProof.Rows.slot_tuple_getitem.lookup, ht.typeIs, ?_⟩
  refine HT.getItem_tuple_cut ht hs pl pu (by rw [hlen]; exact hw) ?_ (by rw [hlen]; exact hz)
  rw [hlen]
  refine ⟨.ref s.heap.objs.size, _, I.laid (t' := s.toks) (o := .tup (cutV xs lo hi)) (fun b ob q => Heap.get?_push_of_some _ q) (Nat.le_refl _) ?_, rfl, q _ (I.hok.fresh (Nat.le_refl _))⟩
  exact ⟨Nat.le_trans (cutV_length xs lo hi) hz, _, (r.drop (HT.sIx xs.length 0 lo)).take (HT.sIx xs.length xs.length hi - HT.sIx xs.length 0 lo), IsTup.new _ _⟩

/-- t + u, t not empty: u empty gives t itself -/
def rCatT (K : PySem.W.Frag) : R2 := fun x y H Q => ∃ a b xs ys, x = .ref a ∧ y = .ref b ∧ SqT K H a xs ∧ SqT K H b ys ∧ xs ≠ [] ∧ xs.length + ys.length ≤ sizeLine ∧
  (ys = [] → Q (.ref a) H) ∧ (ys ≠ [] → ∀ p, H p = none → Q (.ref p) (upd H p (.tup (xs ++ ys))))
theorem Vals.nil_iff {xs : List V} {us : List Value} (r : Vals xs us) : us = [] ↔ xs = [] := by
  cases r with
  | nil => simp
  | cons _ _ => simp
theorem op_catT : OpR X (binaryOp .Add) (rCatT X.K) := by
  intro pins s σ H x y v u Q I rx ry h
  obtain ⟨a, b, xs, ys, rfl, rfl, ha, hb, hx, hz, q1, q2⟩ := h
  cases rx
  cases ry
  obtain ⟨its, r1, p1, _⟩ := I.tuple ha
  obtain ⟨its2, r2, p2, _⟩ := I.tuple hb
  refine HT.cat_tup p1 p2 (fun z => hx (r1.nil_iff.mp z)) (fun z => ⟨.ref a, H, I, rfl, q1 (r2.nil_iff.mp z)⟩) (fun z => ?_) (by rw [← r1.length, ← r2.length]; exact hz)
  refine ⟨.ref s.heap.objs.size, _, I.laid (t' := s.toks) (o := .tup (xs ++ ys)) (fun b ob q => Heap.get?_push_of_some _ q) (Nat.le_refl _) ?_, rfl, q2 (fun w => z (r2.nil_iff.mpr w)) _ (I.hok.fresh (Nat.le_refl _))⟩
  exact ⟨by rw [List.length_append]; exact hz, _, r1.append r2, IsTup.new _ _⟩
end
end L2
namespace L2
open PySem PySem.Spec PyProof.Rows
/-- the place that an index of any sign means -/
def ixN (n : Nat) (i : Int) : Option Nat := if 0 ≤ i then (if i < n then some i.toNat else none) else if -(n : Int) ≤ i then some (i + n).toNat else none
def atI {α : Type} (xs : List α) (i : Int) : Option α := (ixN xs.length i).bind fun j => xs[j]?
theorem ixN_seq {n : Nat} {i : Int} {j : Nat} (h : ixN n i = some j) : seqIndex? i n = some j ∧ j < n ∧ -(n : Int) ≤ i ∧ i < n := by
  unfold ixN at h
  by_cases h0 : 0 ≤ i
  · rw [if_pos h0] at h
    by_cases h1 : i < n
    · rw [if_pos h1] at h
      have e : i.toNat = j := Option.some.inj h
      exact ⟨by rw [seqIndex_of h0 h1, e], by omega, by omega, h1⟩
    · rw [if_neg h1] at h; cases h
  · rw [if_neg h0] at h
    by_cases h1 : -(n : Int) ≤ i
    · rw [if_pos h1] at h
      have e : (i + n).toNat = j := Option.some.inj h
      exact ⟨by rw [seqIndex_neg (by omega) h1, e], by omega, h1, by omega⟩
    · rw [if_neg h1] at h; cases h
theorem atI_get {α : Type} {xs : List α} {i : Int} {v : α} (h : atI xs i = some v) : ∃ j, seqIndex? i xs.length = some j ∧ xs[j]? = some v ∧ j < xs.length ∧ -(xs.length : Int) ≤ i ∧ i < xs.length := by
  unfold atI at h
  cases e : ixN xs.length i with
  | none => rw [e] at h; cases h
  | some j =>
    rw [e] at h
    obtain ⟨h1, h2, h3, h4⟩ := ixN_seq e
    exact ⟨j, h1, h, h2, h3, h4⟩
theorem atI_nat {α : Type} {xs : List α} {j : Nat} {v : α} (h : xs[j]? = some v) : atI xs (j : Int) = some v := by
  have hj : j < xs.length := (List.getElem?_eq_some_iff.mp h).1
  have e : ixN xs.length (j : Int) = some j := by
    unfold ixN
    rw [if_pos (by omega), if_pos (by omega)]; simp
  unfold atI; rw [e]; exact h
theorem atI_last {α : Type} (xs : List α) (v : α) : atI (xs ++ [v]) (-1) = some v := by
  have hl : (xs ++ [v]).length = xs.length + 1 := by simp
  have e : ixN (xs ++ [v]).length (-1) = some xs.length := by
    unfold ixN
    rw [hl, if_neg (by decide), if_pos (by omega)]
    congr 1
    omega
  unfold atI
  rw [e]
  show (xs ++ [v])[xs.length]? = some v
  simp

/-- what stands as an index of a plain subscript -/
def PlainIx (b : Expr) : Prop := ∀ o i, subscripted b false o i = operate [o, i] (getItem o i)
/-- a subscript by values -/
def IxR (X : Cx) (r : R2) : Prop :=
  ∀ (value slice : Expr) (pins : List (Addr × Obj)) (s : Shared) (σ : St) (H : Hp) (x y : V) (v u : Value) (Q : VK), Inv X pins σ H s → RelV x v → RelV y u → r x y H Q →
    subscripted slice false v u = operate [v, u] (getItem v u) → wpAny (model X.prog X.w) X.A (subscriptTail value slice v u) (EP X pins σ Q) X.xe s
/-- a call of a builtin's method by values: the receiver, the arguments -/
def MtR (X : Cx) (id : String) (r : V → List V → Hp → VK → Prop) : Prop :=
  ∀ (pins : List (Addr × Obj)) (s : Shared) (σ : St) (H : Hp) (x : V) (xs : List V) (v : Value) (us : List Value) (Q : VK), Inv X pins σ H s → RelV x v → Vals xs us → r x xs H Q →
    wpAny (model X.prog X.w) X.A (call (.builtin id) (v :: us)) (EP X pins σ Q) X.xe s
section
variable {X : Cx} {a b : Expr} {ta tb : TE} {pos : Pos}
theorem IxR.or {r r' : R2} (h : IxR X r) (h' : IxR X r') : IxR X (fun x y H Q => r x y H Q ∨ r' x y H Q) := by
  intro value slice pins s σ H x y v u Q I rx ry q hs
  rcases q with q | q
  · exact h value slice pins s σ H x y v u Q I rx ry q hs
  · exact h' value slice pins s σ H x y v u Q I rx ry q hs
theorem MtR.or {id : String} {r r' : V → List V → Hp → VK → Prop} (h : MtR X id r) (h' : MtR X id r') : MtR X id (fun x xs H Q => r x xs H Q ∨ r' x xs H Q) := by
  intro pins s σ H x xs v us Q I rx rs q
  rcases q with q | q
  · exact h pins s σ H x xs v us Q I rx rs q
  · exact h' pins s σ H x xs v us Q I rx rs q
/-- a[b] -/
theorem pe_ix {r : R2} (hr : IxR X r) (ha : PE X a ta) (hb : PE X b tb) (hs : PlainIx b) : PE X (.Subscript a b pos) (tOp r ta tb) := by
  intro pins s σ H Q I h
  exact Subscript_ (binT ha hb I h fun v u s2 x y H2 I2 rx ry q => hr a b pins s2 σ H2 x y v u Q I2 rx ry q (hs _ _))

def rIxL (K : PySem.W.Frag) : R2 := fun x y H Q => ∃ p xs i v, x = .ref p ∧ y = .int i ∧ SqL K H p xs ∧ atI xs i = some v ∧ Q v H
def rIxT (K : PySem.W.Frag) : R2 := fun x y H Q => ∃ p xs i v, x = .ref p ∧ y = .int i ∧ SqT K H p xs ∧ atI xs i = some v ∧ Q v H
theorem ix_list : IxR X (rIxL X.K) := by
  intro value slice pins s σ H x y v u Q I rx ry h hs
  obtain ⟨p, xs, i, z, rfl, rfl, hq, he, q⟩ := h
  cases rx
  obtain ⟨t, rfl⟩ := ry
  obtain ⟨its, r, pl, hz⟩ := I.list hq
  obtain ⟨j, h1, h2, h3, h4, h5⟩ := atI_get he
  obtain ⟨w, ew, rw'⟩ := r.get h2
  have hl := r.length
  have hn := line63
  have fin : EP X pins σ Q w s := ⟨z, H, I, rw', q⟩
  by_cases h0 : 0 ≤ i
  · have hj : i.toNat = j := by
      rw [seqIndex_of h0 h5] at h1
      exact Option.some.inj h1
    exact item_listR pl.isList h0 (by omega) (by rw [hj]; simpa using ew) fin hs
  · have hj : (i + (its.toArray.size : Int)).toNat = j := by
      rw [seqIndex_neg (by omega) h4] at h1
      rw [List.size_toArray, ← hl]
      exact Option.some.inj h1
    exact subscriptTail_builtinR (x := w) pl.isList.typeIs slot_list_getitem.lookup
      (wpAny_getItem_list_neg (Q := fun r s' => r = w ∧ EP X pins σ Q r s') pl.isList (by omega) (by rw [List.size_toArray] <;> omega) (by omega) (by rw [hj]; simpa using ew) ⟨rfl, fin⟩) hs
theorem ix_tup : IxR X (rIxT X.K) := by
  intro value slice pins s σ H x y v u Q I rx ry h hs
  obtain ⟨p, xs, i, z, rfl, rfl, hq, he, q⟩ := h
  cases rx
  obtain ⟨t, rfl⟩ := ry
  obtain ⟨its, r, pl, hz⟩ := I.tuple hq
  obtain ⟨j, h1, h2, h3, h4, h5⟩ := atI_get he
  obtain ⟨w, ew, rw'⟩ := r.get h2
  have hl := r.length
  have hn := line63
  have fin : EP X pins σ Q w s := ⟨z, H, I, rw', q⟩
  exact subscriptTail_builtinR (x := w) pl.typeIs slot_tuple_getitem.lookup
    (getItem_tuple (j := j) (Q := fun r s' => r = w ∧ EP X pins σ Q r s') pl (by omega) (by omega) (by rw [List.size_toArray, ← hl]; exact h1) (by simpa using ew) ⟨rfl, fin⟩) hs
theorem Inv.lst {pins : List (Addr × Obj)} {σ : St} {H : Hp} {s : Shared} {p : Addr} {xs : List V} (I : Inv X pins σ H s) (h : H p = some (.lst xs)) :
    ∃ (its : List Value) (n : Nat), Vals xs its ∧ s.heap.get? p = some { cls := .type "list", data := .seq its.toArray n } ∧ xs.length ≤ sizeLine := by
  obtain ⟨z, its, n, r, e⟩ := I.hok p _ h
  exact ⟨its, n, r, e, z⟩
theorem slice_bounds (lo hi : Option Int) (n : Nat) : (sliceBounds lo hi none n).1 = ((HT.sIx n 0 lo : Nat) : Int) ∧ (sliceBounds lo hi none n).2.1 = ((HT.sIx n n hi : Nat) : Int) ∧ (sliceBounds lo hi none n).2.2 = 1 := by
  refine ⟨?_, ?_, rfl⟩
  · cases lo with
    | none => simp [sliceBounds, HT.sIx]
    | some i =>
      simp only [sliceBounds, HT.sIx, Option.getD_none, show (1 : Int) > 0 by decide, if_true]
      by_cases h : i < 0
      · simp only [h, if_true] <;> omega
      · simp only [h, if_false] <;> omega
  · cases hi with
    | none => simp [sliceBounds, HT.sIx]
    | some i =>
      simp only [sliceBounds, HT.sIx, Option.getD_none, show (1 : Int) > 0 by decide, if_true]
      by_cases h : i < 0
      · simp only [h, if_true] <;> omega
      · simp only [h, if_false] <;> omega
theorem slicePick_cut (its : List Value) (lo hi : Option Int) : slicePick its.toArray lo hi none = ((its.drop (HT.sIx its.length 0 lo)).take (HT.sIx its.length its.length hi - HT.sIx its.length 0 lo)).toArray := by
  obtain ⟨h1, h2, h3⟩ := slice_bounds lo hi its.toArray.size
  unfold slicePick
  rw [h1, h2, h3]
  simp only [sliceRange_one, pick_run, List.size_toArray] <;> rfl
/-- xs[lo:hi] of a list: a new list -/
def rSlL (K : PySem.W.Frag) : V → Option Int → Option Int → Hp → VK → Prop := fun x lo hi H Q => ∃ a xs, x = .ref a ∧ SqL K H a xs ∧ ∀ p, H p = none → Q (.ref p) (upd H p (.lst (cutV xs lo hi)))
theorem sl_list : SlR X (rSlL X.K) := by
  intro pins s σ H x v vl vu lo hi sl Q I rx hs pl pu h
  obtain ⟨a, xs, rfl, hx, q⟩ := h
  cases rx
  obtain ⟨its, r, ht, hz⟩ := I.list hx
  have hlen := r.length
  refine ⟨"list", _, slot_list_getitem.lookup, ht.isList.typeIs, ?_⟩
  refine wpAny_getItem_list_slice ht.isList hs pl pu .none (by simp) ?_ (by rw [List.size_toArray] <;> omega)
  rw [slicePick_cut, ← hlen]
  refine ⟨.ref s.heap.objs.size, _, I.laid (t' := s.toks) (o := .lst (cutV xs lo hi)) (fun b ob q => Heap.get?_push_of_some _ q) (Nat.le_refl _) ?_, rfl, q _ (I.hok.fresh (Nat.le_refl _))⟩
  exact ⟨Nat.le_trans (cutV_length xs lo hi) hz, _, 0, (r.drop (HT.sIx xs.length 0 lo)).take (HT.sIx xs.length xs.length hi - HT.sIx xs.length 0 lo), Heap.get?_push_size _ rfl⟩

def flatV : V → Bool
  | .non => true
  | .bl _ => true
  | .int _ => true
  | .str _ => true
  | _ => false
theorem call_len_seq : CallR X (.builtin "len") (fun xs H Q => ∃ p ys, xs = [.ref p] ∧ (SqL X.K H p ys ∨ SqT X.K H p ys) ∧ Q (.int ys.length) H) := by
  intro pins s σ H xs us Q I r h
  obtain ⟨p, ys, rfl, hq, q⟩ := h
  obtain ⟨u, rfl, rx⟩ := vals1 r
  cases rx
  have hn := line63
  rcases hq with hq | hq
  · obtain ⟨its, r', pl, hz⟩ := I.list hq
    have hlen := r'.length
    exact Calls.call_len_list pl.isList (by simp only [List.size_toArray] <;> omega) ⟨.int ys.length, H, I.tok _, ⟨s.toks + 1, by rw [List.size_toArray, hlen]⟩, q⟩
  · obtain ⟨its, r', pl, hz⟩ := I.tuple hq
    have hlen := r'.length
    exact len_tuple pl (by simp only [List.size_toArray] <;> omega) ⟨.int ys.length, H, I.tok _, ⟨s.toks + 1, by rw [List.size_toArray, hlen]⟩, q⟩
theorem CallR.or {f : Value} {r r' : List V → Hp → VK → Prop} (h : CallR X f r) (h' : CallR X f r') : CallR X f (fun xs H Q => r xs H Q ∨ r' xs H Q) := by
  intro pins s σ H xs us Q I rs q
  rcases q with q | q
  · exact h pins s σ H xs us Q I rs q
  · exact h' pins s σ H xs us Q I rs q
theorem call_list_of : CallR X (.type "list") (fun xs H Q => ∃ p ys, xs = [.ref p] ∧ (SqL X.K H p ys ∨ SqT X.K H p ys) ∧ ∀ l, H l = none → Q (.ref l) (upd H l (.lst ys))) := by
  intro pins s σ H xs us Q I r h
  obtain ⟨p, ys, rfl, hq, q⟩ := h
  obtain ⟨u, rfl, rx⟩ := vals1 r
  cases rx
  have fin : ∀ (its : List Value), Vals ys its → ys.length ≤ sizeLine → ∀ (h' : Heap) (c' : Nat), (∀ b o', s.heap.get? b = some o' → h'.get? b = some o') →
      h'.get? s.heap.objs.size = some { cls := .type "list", dict := none, data := .seq its.toArray c', slots := #[] } → EP X pins σ Q (.ref s.heap.objs.size) { s with heap := h' } := fun its r' hz h' c' kp e =>
    ⟨.ref s.heap.objs.size, _, I.laid (t' := s.toks) kp (Nat.le_refl _) (show ObjOk X.prog X.w _ h' _ (.lst ys) from ⟨hz, its, c', r', e⟩), rfl, q _ (I.hok.fresh (Nat.le_refl _))⟩
  rcases hq with hq | hq
  · obtain ⟨its, r', pl, hz⟩ := I.list hq
    have hlen := r'.length
    obtain ⟨o, ho, hc, n, hd⟩ := pl.isList
    exact call_list_seq p (.inl rfl) ho hc hd (fun h' c' kp e => fin its r' hz h' c' kp e) (by simp only [List.size_toArray] <;> omega)
  · obtain ⟨its, r', pl, hz⟩ := I.tuple hq
    have hlen := r'.length
    obtain ⟨o, ho, hc, n, hd⟩ := pl
    exact call_list_seq p (.inr rfl) ho hc hd (fun h' c' kp e => fin its r' hz h' c' kp e) (by simp only [List.size_toArray] <;> omega)
theorem call_tuple_of : CallR X (.type "tuple") (fun xs H Q => ∃ p ys, xs = [.ref p] ∧ ((SqL X.K H p ys ∧ ∀ l, H l = none → Q (.ref l) (upd H l (.tup ys))) ∨ (SqT X.K H p ys ∧ Q (.ref p) H))) := by
  intro pins s σ H xs us Q I r h
  obtain ⟨p, ys, rfl, h⟩ := h
  obtain ⟨u, rfl, rx⟩ := vals1 r
  cases rx
  rcases h with ⟨hq, q⟩ | ⟨hq, q⟩
  · obtain ⟨its, r', pl, hz⟩ := I.list hq
    have hlen := r'.length
    refine call_tuple_list pl.isList (fun h' kp => ?_) (by simp only [List.size_toArray] <;> omega)
    have I1 : Inv X pins σ H { s with heap := h' } := I.kept (t' := s.toks) kp
    have I2 : Inv X pins σ (upd H h'.objs.size (.tup ys)) { s with heap := h'.push { cls := .type "tuple", data := .seq its.toArray } } :=
      I1.laid (t' := s.toks) (fun b o e => Heap.get?_push_of_some _ e) (Nat.le_refl _) (show ObjOk X.prog X.w _ _ _ (.tup ys) from ⟨hz, its, r', IsTup.new _ _⟩)
    exact ⟨.ref h'.objs.size, _, I2, rfl, q _ (I1.hok.fresh (Nat.le_refl _))⟩
  · obtain ⟨its, r', pl, hz⟩ := I.tuple hq
    exact call_tuple_same pl ⟨.ref p, H, I, rfl, q⟩

/-- the value is of that builtin type -/
def tyV (K : PySem.W.Frag) (T : String) (x : V) (H : Hp) : Prop := match x with
  | .str _ => T = "str"
  | .int _ => T = "int"
  | .ref p => (T = "list" ∧ ∃ xs, SqL K H p xs) ∨ (T = "tuple" ∧ ∃ o, K.lookup p = some o ∧ o.cls = .type "tuple" ∧ o.dict = none) ∨
      (T = "dict" ∧ ((∃ kvs, H p = some (.dK kvs)) ∨ ∃ kvs, H p = some (.dT kvs))) ∨ (T = "set" ∧ ∃ S n, H p = some (.set S n))
  | _ => False
theorem tyV_is {pins : List (Addr × Obj)} {σ : St} {H : Hp} {s : Shared} {T : String} {x : V} {v : Value} (I : Inv X pins σ H s) (r : RelV x v) (ty : tyV X.K T x H) :
    s.TypeIs v T ∧ ∀ a, v = .ref a → ∃ ob, s.heap.get? a = some ob ∧ ob.dict = none := by
  cases x with
  | str z =>
    obtain ⟨t, rfl⟩ := r
    cases (show T = "str" from ty)
    exact ⟨typeIs_str s z t, fun _ e => nomatch e⟩
  | int i =>
    obtain ⟨t, rfl⟩ := r
    cases (show T = "int" from ty)
    exact ⟨typeIs_int s i t, fun _ e => nomatch e⟩
  | ref p =>
    cases r
    rcases ty with ⟨rfl, xs, hq⟩ | ⟨rfl, o, hk, hc, hd⟩ | ⟨rfl, hk⟩ | ⟨rfl, S, n, hk⟩
    · obtain ⟨its, _, pl, _⟩ := I.list hq
      refine ⟨pl.isList.typeIs, fun a e => ?_⟩
      cases e
      obtain ⟨o, n, e, c, hd, _⟩ := pl
      exact ⟨o, e, hd⟩
    · refine ⟨⟨o, I.kIn p o hk, hc⟩, fun a e => ?_⟩
      cases e
      exact ⟨o, I.kIn _ o hk, hd⟩
    · have z : ∃ o, s.heap.get? p = some o ∧ o.ExactDict := by
        rcases hk with ⟨kvs, hk⟩ | ⟨kvs, hk⟩
        · obtain ⟨_, _, _, _, o, _, _, e, ex, _⟩ := I.hok p _ hk
          exact ⟨o, e, ex⟩
        · obtain ⟨_, _, _, _, o, _, _, e, ex, _⟩ := I.hok p _ hk
          exact ⟨o, e, ex⟩
      obtain ⟨o, e, ex⟩ := z
      refine ⟨⟨o, e, ex.1⟩, fun a e2 => ?_⟩
      cases e2
      exact ⟨o, e, ex.2.1⟩
    · obtain ⟨o, _, _, _, e, ex, _⟩ := I.hok p _ hk
      refine ⟨⟨o, e, ex.1⟩, fun a e2 => ?_⟩
      cases e2
      exact ⟨o, e, ex.2.1⟩
  | _ => exact False.elim ty
def tBM (K : PySem.W.Frag) (T : String) (r : V → List V → Hp → VK → Prop) (to : TE) (t : TA) : TE := fun σ H Q => to σ H fun x H1 => tyV K T x H1 ∧ t σ H1 fun xs H2 => r x xs H2 Q
variable {o e : Expr} {es : List Expr} {to : TE} {t : TA} {name : Str} {apos cpos : Pos} {T id : String} {r : V → List V → Hp → VK → Prop}
theorem pe_bm (pa : PlainAttrs T) (slot : Slot T name id) (hty : typeOf (.builtin id) = pure (.type "method_descriptor")) (hm : MtR X id r) (ho : PE X o to) (ha : PA X (e :: es) t)
    (hbase : attributeBase o name X.env (eval o X.env) = eval o X.env := by rfl)
    (hfew : ((backTo cpos (starEach (e :: es) X.env)).all (fun x => !x.1) && (backToKw cpos (keywordEach [] X.env)).all (fun x => x.1.isSome)
      && decide ((e :: es).length + ([] : List Keyword).length + (if ([] : List Keyword).isEmpty then 0 else 1) < 30)) = true := by rfl)
    (hline : (apos.endLine == cpos.line) = true := by rfl) (hs : starEach (e :: es) X.env = (false, eval e X.env) :: starEach es X.env := by rfl) (hplain : (backTo cpos (starEach es X.env)).any (·.1) = false := by rfl) :
    PE X (.Call (.Attribute o name apos) (e :: es) [] cpos) (tBM X.K T r to t) := by
  intro pins s σ H Q I h
  refine wpAny_Call_method_late hbase hfew hline rfl (thn (ho pins s σ H _ I h) fun v s1 ⟨x, H1, I1, r1, ty, q1⟩ => ?_)
  obtain ⟨h1, h2⟩ := tyV_is I1 r1 ty
  refine ⟨T, id, pa, slot, hty, h1, h2, ?_⟩
  have hA := ha cpos pins s1 σ H1 _ I1 q1
  rw [hs] at hA ⊢
  refine Calls.callWith_builtin (by show (false || (backTo cpos (starEach es X.env)).any (·.1)) = false; rw [hplain] <;> rfl) (Calls.evalArgs_plain ?_)
  exact thn hA fun us s2 ⟨vs, H2, I2, r2, q2⟩ => hm pins s2 σ H2 x vs v us Q I2 r1 r2 q2
end
end L2
namespace L2
open PySem PySem.Spec PyProof.Rows
def MtM (X : Cx) (id : String) (r : V → List V → Hp → VK → Prop) : Prop :=
  ∀ (pins : List (Addr × Obj)) (s : Shared) (σ : St) (H : Hp) (x : V) (xs : List V) (v : Value) (us : List Value) (Q : VK), Inv X pins σ H s → RelV x v → Vals xs us → r x xs H Q →
    wpAny (model X.prog X.w) X.A (call (.builtin id) (v :: us)) (EP X pins σ Q) X.xe s

theorem Vals.one : ∀ {x : V} {us : List Value}, Vals [x] us → ∃ u, us = [u] ∧ RelV x u
  | _, _, .cons r .nil => ⟨_, rfl, r⟩
theorem Vals.two : ∀ {x y : V} {us : List Value}, Vals [x, y] us → ∃ u v, us = [u, v] ∧ RelV x u ∧ RelV y v
  | _, _, _, .cons r (.cons q .nil) => ⟨_, _, rfl, r, q⟩
theorem Vals.zero : ∀ {us : List Value}, Vals [] us → us = []
  | _, .nil => rfl
theorem Vals.dropLast {xs : List V} {us : List Value} (h : Vals xs us) : Vals xs.dropLast us.dropLast := by
  induction h with
  | nil => exact .nil
  | cons r t ih =>
    cases t with
    | nil => exact .nil
    | cons q t' => exact .cons r ih
theorem Vals.eraseIdx : ∀ {xs : List V} {us : List Value} (i : Nat), Vals xs us → Vals (xs.eraseIdx i) (us.eraseIdx i)
  | _, _, _, .nil => .nil
  | _, _, 0, .cons _ t => t
  | _, _, i + 1, .cons r t => .cons r (Vals.eraseIdx i t)
theorem Vals.reverse {xs : List V} {us : List Value} (h : Vals xs us) : Vals xs.reverse us.reverse := by
  induction h with
  | nil => exact .nil
  | cons r t ih => rw [List.reverse_cons, List.reverse_cons]; exact Vals.append ih (.cons r .nil)
section
variable {X : Cx} {pins : List (Addr × Obj)} {σ : St} {H : Hp} {s : Shared} {l b : Addr} {xs ys zs : List V}
theorem Inv.lset {its its' : List Value} {n : Nat} {f : Array Value → Array Value} {t' : Nat} (I : Inv X pins σ H s) (hH : H l = some (.lst xs))
    (e : s.heap.get? l = some { cls := .type "list", data := .seq its.toArray n }) (hf : f its.toArray = its'.toArray) (hv : Vals ys its') (hz : ys.length ≤ sizeLine) :
    Inv X pins σ (upd H l (.lst ys)) { s with heap := s.heap.update l (Obj.mapSeq f), toks := t' } := by
  have q := PySem.IsL.update e f
  rw [hf] at q
  refine I.write (x := l) (e := l) (by rw [hH]; exact trivial) (.inl rfl) (fun b' u hb hu => (Heap.get?_update_other s.heap (Obj.mapSeq f) (Ne.symm hb)).trans hu) ⟨_, q⟩ ?_
  exact ⟨hz, its', _, hv, q⟩
theorem Inv.lnew {its : List Value} {t' : Nat} (I : Inv X pins σ H s) (hv : Vals ys its) (hz : ys.length ≤ sizeLine) :
    Inv X pins σ (upd H s.heap.objs.size (.lst ys)) { s with heap := s.heap.push { cls := .type "list", data := .seq its.toArray }, toks := t' } :=
  I.laid (fun _ _ q => Heap.get?_push_of_some _ q) (Nat.le_refl _) ⟨hz, its, 0, hv, Heap.get?_push_size _ rfl⟩
theorem Inv.fresh (I : Inv X pins σ H s) : H s.heap.objs.size = none := I.hok.fresh (Nat.le_refl _)
theorem Inv.lstM (I : Inv X pins σ H s) (hH : H l = some (.lst xs)) : xs.length ≤ sizeLine ∧ ∃ (its : List Value) (n : Nat), Vals xs its ∧ xs.length = its.length ∧ s.heap.get? l = some { cls := .type "list", data := .seq its.toArray n } := by
  obtain ⟨z, its, n, r, e⟩ := I.hok l _ hH
  exact ⟨z, its, n, r, r.length, e⟩

theorem notLongL {n : Nat} (h : n ≤ sizeLine) : Builtin.List.listTooLong n = false := by
  unfold Builtin.List.listTooLong
  exact decide_eq_false (by omega)
end
section
variable {X : Cx}
def rAppend : V → List V → Hp → VK → Prop := fun x vs H Q => ∃ l xs y, x = .ref l ∧ vs = [y] ∧ H l = some (.lst xs) ∧ xs.length < sizeLine ∧ Q .non (upd H l (.lst (xs ++ [y])))
theorem mt_append : MtM X "list.append" rAppend := by
  intro pins s σ H x vs v us Q I rx rv h
  obtain ⟨l, xs, y, rfl, rfl, hH, hz, q⟩ := h
  cases rx
  obtain ⟨u, rfl, ru⟩ := rv.one
  obtain ⟨z, its, n, r, hl, e⟩ := I.lstM hH
  refine call_meets F.slot_list_append ⟨_, e, rfl⟩ F.entry_list_append (F.args_list_append_2 _ _) (PySem.list_append l its.toArray n u (by rw [List.size_toArray]; omega)) ⟨e, ?_⟩
  refine ⟨.non, _, I.lset (its' := its ++ [u]) hH e (by simp) (r.append (.cons ru .nil)) ?_, rfl, q⟩
  rw [List.length_append, List.length_singleton]
  omega

def rExtend : V → List V → Hp → VK → Prop := fun x vs H Q => ∃ l b xs zs, x = .ref l ∧ vs = [.ref b] ∧ H l = some (.lst xs) ∧ H b = some (.lst zs) ∧ xs.length + zs.length ≤ sizeLine ∧ Q .non (upd H l (.lst (xs ++ zs)))
theorem mt_extend : MtM X "list.extend" rExtend := by
  intro pins s σ H x vs v us Q I rx rv h
  obtain ⟨l, b, xs, zs, rfl, rfl, hH, hB, hz, q⟩ := h
  cases rx
  obtain ⟨u, rfl, ru⟩ := rv.one
  cases ru
  obtain ⟨z, its, n, r, hl, e⟩ := I.lstM hH
  obtain ⟨z2, its2, n2, r2, hl2, e2⟩ := I.lstM hB
  have hsz : its.toArray.size + its2.toArray.size ≤ sizeLine := by rw [List.size_toArray, List.size_toArray]; omega
  have hlong : ¬ (!its.toArray.isEmpty && Builtin.List.listTooLong (its.toArray.size + its2.toArray.size)) = true := by
    rw [notLongL hsz, Bool.and_false]
    exact Bool.false_ne_true
  refine call_meets F.slot_list_extend ⟨_, e, rfl⟩ F.entry_list_extend (F.args_list_extend_2 _ _)
    (AutoSeq1.list_extend_list_list_0 l its.toArray n b its2.toArray n2 hlong (by rw [List.size_toArray]; omega) (by omega)) ⟨e, e2, ?_⟩
  refine ⟨.non, _, I.lset (its' := its ++ its2) hH e (by simp) (r.append r2) ?_, rfl, q⟩
  rw [List.length_append]
  omega

def rCat : R2 := fun x y H Q => ∃ l b xs zs, x = .ref l ∧ y = .ref b ∧ H l = some (.lst xs) ∧ H b = some (.lst zs) ∧ xs.length + zs.length ≤ sizeLine ∧ ∀ p, H p = none → Q (.ref p) (upd H p (.lst (xs ++ zs)))
theorem op_cat : OpR X (binaryOp .Add) rCat := by
  intro pins s σ H x y v u Q I rx ry h
  obtain ⟨l, b, xs, zs, rfl, rfl, hH, hB, hz, q⟩ := h
  cases rx
  cases ry
  obtain ⟨z, its, n, r, hl, e⟩ := I.lstM hH
  obtain ⟨z2, its2, n2, r2, hl2, e2⟩ := I.lstM hB
  refine PySem.P.add_list e e2 ?_ (by rw [List.size_toArray, List.size_toArray]; omega)
  have ea : its.toArray ++ its2.toArray = (its ++ its2).toArray := by simp
  rw [ea]
  exact ⟨.ref _, _, I.lnew (t' := s.toks) (r.append r2) (by rw [List.length_append]; omega), rfl, q _ I.fresh⟩
end
section
variable {prog : Program} {w : World} {A : Around} {E : Value → Shared → Prop} {s : Shared}
end
section
variable {X : Cx}
end
end L2
namespace L2
open PySem PySem.Spec PyProof.Rows
theorem Vals.ints : ∀ {ns : List Int} {us : List Value}, Vals (ns.map V.int) us → IntsAre us ns
  | [], us, h => by
    rw [List.map_nil] at h
    cases h
    exact IntsAre.nil
  | n :: ns, us, h => by
    rw [List.map_cons] at h
    cases h with
    | cons r t =>
      obtain ⟨k, rfl⟩ := r
      exact IntsAre.cons n k (Vals.ints t)
theorem vals_of_ints : ∀ {us : List Value} {ns : List Int}, IntsAre us ns → Vals (ns.map V.int) us
  | _, _, .nil => by rw [List.map_nil]; exact Paired.nil
  | _, _, .cons n t h => by rw [List.map_cons]; exact Paired.cons (show RelV (V.int n) (Value.int n t) from ⟨t, rfl⟩) (vals_of_ints h)
theorem Vals.ref1 {a : Addr} {us : List Value} (r : Vals [V.ref a] us) : us = [Value.ref a] := by
  cases r with
  | cons r t =>
    cases t
    cases r
    rfl
section
variable {prog : Program} {w : World} {A : Around} {E : Value → Shared → Prop} {s : Shared} {l : Addr} {its : List Value} {ns : List Int} {Q : Value → Shared → Prop}
theorem max_raw (hh : A.handled = none) (hl : s.heap.IsList l its.toArray) (hi : IntsAre its ns) (hne : 0 < ns.length)
    (h : ∀ h' tk M t', (∀ b o, s.heap.get? b = some o → h'.get? b = some o) → M ∈ ns → (∀ a, a ∈ ns → a ≤ M) → Q (.int M t') { s with heap := h', toks := tk }) : wpAny (model prog w) A (call (.builtin "max") [.ref l]) Q E s := by
  obtain ⟨xs, e⟩ := hi.allInts.items
  have hn : numsOf (intItems xs).toList = ns := by rw [← e]; exact hi.numsOf
  rw [nums_intItems] at hn
  subst hn
  rw [e] at hl
  have hsz : 0 < xs.size := by simpa using hne
  refine PySem.max_intList hh hl hsz fun v h' tk hv hk => ?_
  obtain ⟨t, rfl⟩ := intItems_at hv
  obtain ⟨h1, h2⟩ := argBest_gt (numAt xs) (xs.size - 1)
  refine h h' tk _ t hk ?_ fun a ha => ?_
  · rw [numAt_eq]; exact PySem.getD_mem (by rw [List.length_map, Array.length_toList]; omega)
  · obtain ⟨j, hj, rfl⟩ := mem_getD ha
    rw [List.length_map, Array.length_toList] at hj
    rw [← numAt_eq]; exact h2 j (by omega)
end
section
variable {X : Cx}
/-- max(xs), min(xs) of a list of ints -/
def rMax (K : PySem.W.Frag) : List V → Hp → VK → Prop := fun vs H Q => ∃ (a : Addr) (ns : List Int), vs = [V.ref a] ∧ SqL K H a (ns.map V.int) ∧ 0 < ns.length ∧ ∀ m, m ∈ ns → (∀ y, y ∈ ns → y ≤ m) → Q (.int m) H
theorem cr_max (hc : X.calm = true) : CallR X (.builtin "max") (rMax X.K) := by
  intro pins s σ H vs us Q I r h
  obtain ⟨a, ns, rfl, hs, hne, q⟩ := h
  obtain ⟨its, rv, hl, _⟩ := I.list hs
  rw [Vals.ref1 r]
  exact max_raw (I.ok.hd hc) hl.isList rv.ints hne fun h' tk m t' hk h1 h2 => ⟨.int _, H, I.kept hk, ⟨_, rfl⟩, q m h1 h2⟩
end
section
variable {X : Cx}
theorem flat_at {ys : List V} (f : ys.all flatV = true) {j : Nat} {z : V} (h : ys[j]? = some z) : flatV z = true := List.all_eq_true.mp f z (List.mem_of_getElem? h)
end
section
variable {X : Cx}
end
section
variable {X : Cx}
end
mutual
inductive Dp (K : PySem.W.Frag) (H : Hp) : V → PyData → Prop
  | non : Dp K H .non .none
  | bl (b : Bool) : Dp K H (.bl b) (.bool b)
  | int (i : Int) : Dp K H (.int i) (.int i)
  | str (x : Str) : Dp K H (.str x) (.str x)
  | lst {a : Addr} {xs : List V} {ds : List PyData} : SqL K H a xs → DpAll K H xs ds → Dp K H (.ref a) (.list ds)
  | tup {a : Addr} {xs : List V} {ds : List PyData} : SqT K H a xs → DpAll K H xs ds → Dp K H (.ref a) (.tuple ds)
inductive DpAll (K : PySem.W.Frag) (H : Hp) : List V → List PyData → Prop
  | nil : DpAll K H [] []
  | cons {v : V} {vs : List V} {d : PyData} {ds : List PyData} : Dp K H v d → DpAll K H vs ds → DpAll K H (v :: vs) (d :: ds)
end
section
variable {X : Cx} {pins : List (Addr × Obj)} {σ : St} {H : Hp} {s : Shared}
mutual
theorem Dp.reads (I : Inv X pins σ H s) : ∀ (d : PyData) (v : V) (u : Value), Dp X.K H v d → RelV v u → ∃ as, Reads s.heap u d as
  | .none, _, _, h, r => by
    cases h
    cases r
    exact ⟨_, Reads.none⟩
  | .bool b, _, _, h, r => by
    cases h
    cases r
    exact ⟨_, Reads.bool b⟩
  | .int i, _, _, h, r => by
    cases h
    obtain ⟨t, rfl⟩ := r
    exact ⟨_, Reads.int i t⟩
  | .str x, _, _, h, r => by
    cases h
    obtain ⟨t, rfl⟩ := r
    exact ⟨_, Reads.str x t⟩
  | .list ds, _, _, h, r => by
    cases h with
    | lst hs ha =>
      cases r
      obtain ⟨its, rv, ⟨o, n, ho, hc, _, hd⟩, _⟩ := I.list hs
      obtain ⟨as, hr⟩ := Dp.readsAll I ds _ its ha rv
      exact ⟨_, Reads.list ho hc hd hr⟩
  | .tuple ds, _, _, h, r => by
    cases h with
    | tup hs ha =>
      cases r
      obtain ⟨its, rv, ⟨o, ho, hc, n, hd⟩, _⟩ := I.tuple hs
      obtain ⟨as, hr⟩ := Dp.readsAll I ds _ its ha rv
      exact ⟨_, Reads.tuple ho hc hd hr⟩
  | .dict _, _, _, h, _ => by cases h
theorem Dp.readsAll (I : Inv X pins σ H s) : ∀ (ds : List PyData) (vs : List V) (us : List Value), DpAll X.K H vs ds → Vals vs us → ∃ as, ReadsAll s.heap us ds as
  | [], _, _, h, r => by
    cases h
    cases r
    exact ⟨_, ReadsAll.nil⟩
  | d :: ds, _, _, h, r => by
    cases h with
    | cons h1 h2 =>
      cases r with
      | cons r1 r2 =>
        obtain ⟨as, q1⟩ := Dp.reads I d _ _ h1 r1
        obtain ⟨bs, q2⟩ := Dp.readsAll I ds _ _ h2 r2
        exact ⟨_, ReadsAll.cons q1 q2⟩
end
end
section
variable {X : Cx}
end
end L2
namespace L2
open PySem PySem.Spec PyProof.Rows
abbrev CellAt (h : Heap) (c : Addr) (v : Option Value) : Prop := h.IsCell c v
def relS (scope sc : Scope) : Scope :=
  { scope with names := scope.names.map fun (n, k) => if (k == .free && sc.kind == .function && sc.names.lookup n == some .cell) then (n, .cell) else (n, k) }

def cloFrom (cells : List (Str × Addr)) : List (Str × NameKind) → List (Str × Addr) → List (Str × Addr)
  | [], acc => acc
  | (n, k) :: r, acc => if k == .free then cloFrom cells r ((n, (cells.lookup n).getD 0) :: acc) else cloFrom cells r acc

theorem closure_loop (env : Env) (f : Str × NameKind → List (Str × Addr) → Sem (ForInStep (List (Str × Addr))))
    (hf : ∀ n k c, f (n, k) c = if k == .free then (do let a ← cellOf env n; pure (.yield ((n, a) :: c))) else pure (.yield c)) :
    ∀ (names : List (Str × NameKind)) (acc : List (Str × Addr)), (∀ y ∈ names, y.2 = .free → ∃ c, env.cells.lookup y.1 = some c) → forIn names acc f = pure (cloFrom env.cells names acc)
  | [], acc, _ => by rw [List.forIn_nil]; rfl
  | (n, k) :: r, acc, h => by
    rw [List.forIn_cons, hf]
    have ih := fun acc => closure_loop env f hf r acc fun y hy => h y (List.mem_cons_of_mem _ hy)
    unfold cloFrom
    by_cases hk : (k == NameKind.free) = true
    · rw [if_pos hk, if_pos hk]
      obtain ⟨c, hc⟩ := h (n, k) List.mem_cons_self (by simpa using hk)
      have e : cellOf env n = pure c := by unfold cellOf; rw [hc]
      rw [e]
      have e2 : (env.cells.lookup n).getD 0 = c := by rw [hc]; rfl
      rw [e2]
      exact ih _
    · rw [if_neg hk, if_neg hk]
      exact ih _
theorem closure_ok {scope : Scope} {env : Env} (h : ∀ y ∈ scope.names, y.2 = .free → ∃ c, env.cells.lookup y.1 = some c) : closureFor scope env = pure (cloFrom env.cells scope.names []) := by
  simp only [closureFor]
  rw [closure_loop env _ (fun n k c => rfl) scope.names [] h]
  rfl

theorem mem_lookup {α : Type} : ∀ {l : List (Str × α)} {n : Str} {c : α}, (n, c) ∈ l → ∃ c', l.lookup n = some c'
  | (k, v) :: r, n, c, h => by
    rw [List.lookup_cons]
    cases hb : n == k with
    | true => exact ⟨_, rfl⟩
    | false =>
      rcases List.mem_cons.mp h with e | h
      · cases e; simp at hb
      · exact mem_lookup h

theorem cloFrom_mem {cells : List (Str × Addr)} : ∀ {names : List (Str × NameKind)} {acc : List (Str × Addr)} {n : Str} {c : Addr}, (n, c) ∈ cloFrom cells names acc → (n, c) ∈ acc ∨ ((n, .free) ∈ names ∧ c = (cells.lookup n).getD 0)
  | [], _, _, _, h => .inl h
  | (m, k) :: r, acc, n, c, h => by
    unfold cloFrom at h
    split at h
    · rename_i hk
      have hk : k = .free := by simpa using hk
      rcases cloFrom_mem h with h | ⟨h1, h2⟩
      · rcases List.mem_cons.mp h with e | h
        · cases e; exact .inr ⟨hk ▸ List.mem_cons_self, rfl⟩
        · exact .inl h
      · exact .inr ⟨List.mem_cons_of_mem _ h1, h2⟩
    · rcases cloFrom_mem h with h | ⟨h1, h2⟩
      · exact .inl h
      · exact .inr ⟨List.mem_cons_of_mem _ h1, h2⟩
theorem cloFrom_acc {cells : List (Str × Addr)} : ∀ {names : List (Str × NameKind)} {acc : List (Str × Addr)} {p : Str × Addr}, p ∈ acc → p ∈ cloFrom cells names acc
  | [], _, _, h => h
  | (m, k) :: r, acc, p, h => by
    unfold cloFrom
    split
    · exact cloFrom_acc (List.mem_cons_of_mem _ h)
    · exact cloFrom_acc h
theorem cloFrom_has {cells : List (Str × Addr)} : ∀ {names : List (Str × NameKind)} {acc : List (Str × Addr)} {n : Str}, (n, .free) ∈ names → (n, (cells.lookup n).getD 0) ∈ cloFrom cells names acc
  | (m, k) :: r, acc, n, h => by
    unfold cloFrom
    rcases List.mem_cons.mp h with e | h
    · cases e
      exact cloFrom_acc List.mem_cons_self
    · split
      · exact cloFrom_has h
      · exact cloFrom_has h

theorem cells_mem : ∀ {names : List (Str × NameKind)} {h : Heap} {acc : List (Str × Addr)} {x : Str} {c : Addr}, (x, c) ∈ cellsFrom h.objs.size names acc →
    (x, c) ∈ acc ∨ ((x, .cell) ∈ names ∧ h.objs.size ≤ c ∧ CellAt (pushCells h names) c none)
  | [], _, _, _, _, h => .inl h
  | (n, k) :: r, h, acc, x, c, hm => by
    unfold cellsFrom at hm
    unfold pushCells
    split at hm
    · rename_i hk
      rw [if_pos hk]
      have hk : k = .cell := by simpa using hk
      rw [← Heap.size_push h { cls := .type "cell", data := .cell none }] at hm
      rcases cells_mem hm with hm | ⟨h1, h2, h3⟩
      · rcases List.mem_cons.mp hm with e | hm
        · cases e
          exact .inr ⟨hk ▸ List.mem_cons_self, Nat.le_refl _, _, pushCells_keeps r _ _ _ (Heap.get?_push_size _ rfl), rfl⟩
        · exact .inl hm
      · rw [Heap.size_push] at h2
        exact .inr ⟨List.mem_cons_of_mem _ h1, Nat.le_of_succ_le h2, h3⟩
    · rename_i hk
      rw [if_neg hk]
      rcases cells_mem hm with hm | ⟨h1, h2, h3⟩
      · exact .inl hm
      · exact .inr ⟨List.mem_cons_of_mem _ h1, h2, h3⟩
theorem cells_acc : ∀ {names : List (Str × NameKind)} {n : Nat} {acc : List (Str × Addr)} {p : Str × Addr}, p ∈ acc → p ∈ cellsFrom n names acc
  | [], _, _, _, h => h
  | (m, k) :: r, n, acc, p, h => by
    unfold cellsFrom
    split
    · exact cells_acc (List.mem_cons_of_mem _ h)
    · exact cells_acc h
theorem cells_has : ∀ {names : List (Str × NameKind)} {n : Nat} {acc : List (Str × Addr)} {x : Str}, (x, .cell) ∈ names → ∃ c, (x, c) ∈ cellsFrom n names acc
  | (m, k) :: r, n, acc, x, h => by
    unfold cellsFrom
    rcases List.mem_cons.mp h with e | h
    · cases e
      exact ⟨n, cells_acc List.mem_cons_self⟩
    · split
      · exact cells_has h
      · exact cells_has h
theorem cells_inj : ∀ {names : List (Str × NameKind)} {h : Heap} {acc : List (Str × Addr)} {x y : Str} {c : Addr}, (∀ p ∈ acc, p.2 < h.objs.size) → (∀ x y c, (x, c) ∈ acc → (y, c) ∈ acc → x = y) →
    (x, c) ∈ cellsFrom h.objs.size names acc → (y, c) ∈ cellsFrom h.objs.size names acc → x = y
  | [], _, _, _, _, _, _, hi, h1, h2 => hi _ _ _ h1 h2
  | (n, k) :: r, h, acc, x, y, c, hl, hi, h1, h2 => by
    unfold cellsFrom at h1 h2
    split at h1
    · rename_i hk
      rw [if_pos hk] at h2
      rw [← Heap.size_push h { cls := .type "cell", data := .cell none }] at h1 h2
      refine cells_inj (h := h.push _) (fun p hp => ?_) (fun x y c a b => ?_) h1 h2
      · rw [Heap.size_push]
        rcases List.mem_cons.mp hp with rfl | hp
        · exact Nat.lt_succ_self _
        · exact Nat.lt_succ_of_lt (hl p hp)
      · rcases List.mem_cons.mp a with e | a <;> rcases List.mem_cons.mp b with e' | b
        · cases e; cases e'; rfl
        · cases e; exact absurd (hl _ b) (Nat.lt_irrefl _)
        · cases e'; exact absurd (hl _ a) (Nat.lt_irrefl _)
        · exact hi _ _ _ a b
    · rename_i hk
      rw [if_neg hk] at h2
      exact cells_inj hl hi h1 h2

theorem newEnv_comp {M : Model} {A : Around} {E : Value → Shared → Prop} {s : Shared} {scope : Scope} {globals : Addr} {closure : List (Str × Addr)} {qual : Str} {func : Option Addr} {code : Value} {around : Env} {builtins : Addr} {Q : Env → Shared → Prop}
    (h : Q (newEnv scope s.heap.objs.size globals (cellsFrom (s.heap.objs.size + 1) scope.names closure) qual func code (some around) builtins)
      { s with heap := pushCells (s.heap.push { cls := .type "dict", data := .dict #[] }) scope.names }) :
    wpAny M A (newFunctionEnv scope globals closure [] qual func code (some around) builtins) Q E s := by
  simp only [newFunctionEnv, Option.isSome_some, if_true]
  refine wpAny_bind (wpAny_alloc ?_)
  refine wpAny_bind (wpAny_layCells _ (fun n k c => rfl) scope.names closure _ _ ?_)
  rw [show ({ s with heap := s.heap.push { cls := .type "dict", data := .dict #[] } } : Shared).heap.objs.size = s.heap.objs.size + 1 from Heap.size_push ..]
  rw [List.forIn_nil]
  exact wpAny_bind (wpAny_pure (wpAny_pure h))

/-- every name of the written scope, in the scope that runs -/
theorem lookup_relS {sc : Scope} : ∀ {names : List (Str × NameKind)} {x : Str} {k : NameKind},
    (names.map fun (n, k) => if (k == NameKind.free && sc.kind == .function && sc.names.lookup n == some .cell) then (n, NameKind.cell) else (n, k)).lookup x = some k →
    ∃ k', names.lookup x = some k' ∧ (k = k' ∨ (k' = .free ∧ k = .cell))
  | [], _, _, h => by simp at h
  | (n, k₀) :: r, x, k, h => by
    have ih := @lookup_relS sc r x k
    have h' : List.lookup x ((if (k₀ == NameKind.free && sc.kind == .function && sc.names.lookup n == some .cell) = true then (n, NameKind.cell) else (n, k₀)) :: (r.map _)) = some k := h
    cases hx : x == n with
    | true =>
      simp only [List.lookup_cons, hx]
      by_cases hc : (k₀ == NameKind.free && sc.kind == .function && sc.names.lookup n == some .cell) = true
      · rw [if_pos hc] at h'
        simp only [List.lookup_cons, hx] at h'
        cases h'
        simp only [Bool.and_eq_true, beq_iff_eq] at hc
        exact ⟨k₀, rfl, .inr ⟨hc.1.1, rfl⟩⟩
      · rw [if_neg hc] at h'
        simp only [List.lookup_cons, hx] at h'
        cases h'
        exact ⟨_, rfl, .inl rfl⟩
    | false =>
      simp only [List.lookup_cons, hx]
      by_cases hc : (k₀ == NameKind.free && sc.kind == .function && sc.names.lookup n == some .cell) = true
      · rw [if_pos hc] at h'
        simp only [List.lookup_cons, hx] at h'
        exact ih h'
      · rw [if_neg hc] at h'
        simp only [List.lookup_cons, hx] at h'
        exact ih h'
/-- the names of a comprehension's block: its own (with their places in N), or captured -/
structure BlkOk (N : List Str) (sc scope : Scope) (own : List (Str × Nat)) : Prop where
  kind : scope.kind = .function
  uniq : ∀ y ∈ scope.names, scope.names.lookup y.1 = some y.2
  ix : ∀ p ∈ own, N[p.2]? = some p.1
  free : ∀ y ∈ scope.names, y.2 = .free → sc.names.lookup y.1 = some .cell ∨ sc.names.lookup y.1 = some .free
  own : ∀ y ∈ scope.names, y.2 = .local ∨ y.2 = .cell → y.1 ∈ own.map (·.1) ∨ y.1 ∉ N
/-- the slots of the block's own names forgotten -/
def wipe (σ : St) : List Nat → St
  | [] => σ
  | v :: vs => (wipe σ vs).set v none
theorem wipe_length (σ : St) : ∀ vs : List Nat, (wipe σ vs).length = σ.length
  | [] => rfl
  | v :: vs => by unfold wipe; rw [List.length_set, wipe_length σ vs]
theorem wipe_some {σ : St} {i : Nat} {x : V} : ∀ {vs : List Nat}, (wipe σ vs)[i]? = some (some x) → σ[i]? = some (some x) ∧ i ∉ vs
  | [], h => ⟨h, by simp⟩
  | v :: vs, h => by
    unfold wipe at h
    by_cases hi : v = i
    · subst hi
      by_cases hv : v < (wipe σ vs).length
      · rw [List.getElem?_set_self hv] at h; cases h
      · rw [List.getElem?_eq_none (by simpa using hv)] at h; cases h
    · rw [List.getElem?_set_ne hi] at h
      obtain ⟨h1, h2⟩ := wipe_some h
      exact ⟨h1, by simp only [List.mem_cons, not_or]; exact ⟨fun e => hi e.symm, h2⟩⟩

/-- the context of a block that starts at s, its iterator's objects at fp -/
abbrev Cx.blk (X : Cx) (s : Shared) (H : Hp) (scope : Scope) (cenv : Env) (fp : List Addr) : Cx := { X with s_0 := s, H_0 := H, env := cenv, outer := X.stack, ex := fp, fn := fun x => scope.names.lookup x == some .cell, pn := [], xe := fun _ _ => False }
section
variable {X : Cx} {pins : List (Addr × Obj)} {σ : St} {H : Hp} {s : Shared}
theorem block_start {scope : Scope} {own : List (Str × Nat)} {fp : List Addr} (I : Inv X pins σ H s) (ok : BlkOk X.N X.env.scope scope own) (hN : X.N.Nodup) (hfp : ∀ b ∈ fp, FpOk X pins H b ∧ b < s.heap.objs.size) :
    Inv (X.blk s H scope (compEnvC scope (cellsFrom (s.heap.objs.size + 1) scope.names (cloFrom X.env.cells scope.names [])) s.heap.objs.size X.env) fp) [] (wipe σ (own.map (·.2))) H { s with heap := pushCells (s.heap.push { cls := .type "dict", data := .dict #[] }) scope.names } := by
  have hfree : ∀ y ∈ scope.names, y.2 = .free → ∃ c, X.env.cells.lookup y.1 = some c := fun y hy e => by
    rcases ok.free y hy e with k | k
    · exact I.ok.has _ (.inl k)
    · exact I.ok.has _ (.inr k)
  generalize hcenv : compEnvC scope (cellsFrom (s.heap.objs.size + 1) scope.names (cloFrom X.env.cells scope.names [])) s.heap.objs.size X.env = cenv
  have kp : ∀ b o, s.heap.get? b = some o → (pushCells (s.heap.push { cls := .type "dict", data := .dict #[] }) scope.names).get? b = some o := fun b o e => pushCells_keeps _ _ _ _ (Heap.get?_push_of_some _ e)
  have hL : cenv.locals = s.heap.objs.size := by rw [← hcenv]; rfl
  have hcl : cenv.cells = cellsFrom (s.heap.objs.size + 1) scope.names (cloFrom X.env.cells scope.names []) := by rw [← hcenv]; rfl
  have hsc : cenv.scope = relS scope X.env.scope := by rw [← hcenv]; rfl
  rw [← Heap.size_push s.heap { cls := .type "dict", data := .dict #[] }] at hcl
  have cm : ∀ {y c}, (y, c) ∈ cloFrom X.env.cells scope.names [] → X.env.cells.lookup y = some c ∧ c < s.heap.objs.size := fun {y c} hm => by
    rcases cloFrom_mem hm with hm | ⟨h1, rfl⟩
    · cases hm
    · obtain ⟨c, hc⟩ := hfree _ h1 rfl
      rw [hc]
      obtain ⟨w, z⟩ := I.cell _ _ hc
      exact ⟨rfl, z.lt⟩
  have mem : ∀ {y c}, cenv.cells.lookup y = some c → (X.env.cells.lookup y = some c ∧ c < s.heap.objs.size) ∨ (s.heap.objs.size + 1 ≤ c ∧ CellAt (pushCells (s.heap.push { cls := .type "dict", data := .dict #[] }) scope.names) c none) := fun {y c} e => by
    rw [hcl] at e
    rcases cells_mem (PySem.mem_of_lookup e) with hm | ⟨_, h2, h3⟩
    · exact .inl (cm hm)
    · rw [Heap.size_push] at h2; exact .inr ⟨h2, h3⟩
  have look : ∀ {y}, scope.names.lookup y = some .free → ∃ c, cenv.cells.lookup y = some c ∧ X.env.cells.lookup y = some c := fun {y} hl => by
    have hy : (y, NameKind.free) ∈ scope.names := PySem.mem_of_lookup hl
    obtain ⟨c', e'⟩ := mem_lookup (cells_acc (names := scope.names) (n := (s.heap.push { cls := .type "dict", data := .dict #[] }).objs.size) (cloFrom_has (cells := X.env.cells) (acc := []) hy))
    rw [← hcl] at e'
    refine ⟨c', e', ?_⟩
    rw [hcl] at e'
    rcases cells_mem (PySem.mem_of_lookup e') with hm | ⟨h1, _, _⟩
    · exact (cm hm).1
    · have := ok.uniq _ h1
      rw [hl] at this; cases this
  have okB : (X.blk s H scope cenv fp).Ok := by
    refine ⟨I.ok.mod, by show cenv.scope.kind = _; rw [hsc]; exact ok.kind, by show cenv.globals = _; rw [← hcenv]; exact I.ok.glob, by show cenv.builtins = _; rw [← hcenv]; exact I.ok.blt, by show s.heap.objs.size ≤ cenv.locals; rw [hL]; exact Nat.le_refl _,
      fun y z c e1 e2 => ?_, fun y hy => ?_, fun y c z e => ?_, I.ok.hd, I.ok.frames, .inl rfl, fun b hb => ⟨?_, fun y c e z => ?_⟩, I.bs, Nat.le_trans I.ok.bsz I.sz, fun b o e hb => ?_, fun b hb z => ?_, I.stack, I.stkFree⟩
    · have e1 : cenv.cells.lookup y = some c := e1
      have e2 : cenv.cells.lookup z = some c := e2
      rw [hcl] at e1 e2
      refine cells_inj (fun p hp => ?_) (fun y z c a b => I.ok.inj y z c (cm a).1 (cm b).1) (PySem.mem_of_lookup e1) (PySem.mem_of_lookup e2)
      rw [Heap.size_push]
      exact Nat.lt_succ_of_lt (cm (y := p.1) (c := p.2) hp).2
    · show ∃ c, cenv.cells.lookup y = some c
      have key : ∀ k, cenv.kindOf y = some k → (k = .cell ∨ k = .free) → ∃ c, cenv.cells.lookup y = some c := fun k hk hk' => by
        unfold Env.kindOf at hk
        rw [hsc] at hk
        obtain ⟨k', e, r⟩ := lookup_relS hk
        have : k' = .cell ∨ k' = .free := by
          rcases r with rfl | ⟨rfl, _⟩
          · exact hk'
          · exact .inr rfl
        rcases this with rfl | rfl
        · obtain ⟨c, hm⟩ := cells_has (n := (s.heap.push { cls := .type "dict", data := .dict #[] }).objs.size) (acc := cloFrom X.env.cells scope.names []) (PySem.mem_of_lookup e)
          obtain ⟨c', e'⟩ := mem_lookup hm
          exact ⟨c', by rw [hcl]; exact e'⟩
        · obtain ⟨c, h1, _⟩ := look e
          exact ⟨c, h1⟩
      rcases hy with hy | hy
      · exact key _ hy (.inl rfl)
      · exact key _ hy (.inr rfl)
    · have z : (scope.names.lookup y == some NameKind.cell) = true := z
      have z : scope.names.lookup y = some .cell := by simpa using z
      have e : cenv.cells.lookup y = some c := e
      rw [hcl] at e
      rcases cells_mem (PySem.mem_of_lookup e) with hm | ⟨_, h2, _⟩
      · rcases cloFrom_mem hm with hm | ⟨h1, _⟩
        · cases hm
        · have q := ok.uniq _ h1
          rw [z] at q; cases q
      · rw [Heap.size_push] at h2
        exact Nat.le_of_succ_le h2
    · show b ≠ cenv.locals
      rw [hL]; exact Nat.ne_of_lt (hfp b hb).2
    · have e : cenv.cells.lookup y = some c := e
      rcases mem e with ⟨h1, _⟩ | ⟨h1, _⟩
      · exact (hfp b hb).1.2.2.2.2.1 y c h1 z
      · have h2 : s.heap.objs.size + 1 ≤ b := by rw [← z]; exact h1
        exact absurd (Nat.lt_of_lt_of_le (hfp b hb).2 (Nat.le_of_succ_le h2)) (Nat.lt_irrefl _)
    · rcases (hfp b hb).1.2.2.2.1 with z | z
      · exact I.ok.noex b o e z
      · exact absurd (Nat.lt_of_lt_of_le (Heap.lt_size e) (Nat.le_trans I.ok.bsz z)) (Nat.lt_irrefl _)
    · rcases List.mem_cons.mp (I.stkSub b z) with z | z
      · exact (hfp b hb).1.2.1 z
      · exact (hfp b hb).1.2.2.1 z
  refine ⟨okB, rfl, I.bare, Un.kept kp, ⟨fun _ => none, ?_, fun i y av e1 e2 e3 => ?_⟩, fun y c e => ?_, ?_, fun y c e => ?_, fun p hp => ?_, I.hok.kept kp, by rw [wipe_length]; exact I.len⟩
  · show Heap.Ns _ cenv.locals _
    rw [hL]
    exact Heap.Ns.keeps (Heap.Ns.new ..) fun b o e => pushCells_keeps _ _ _ _ e
  · obtain ⟨e2, hne⟩ := wipe_some e2
    have hfr : scope.names.lookup y = some .free ∧ (cenv.kindOf y = some .cell ∨ cenv.kindOf y = some .free) := by
      have key : ∀ k, cenv.scope.names.lookup y = some k → k = .local ∨ k = .cell ∨ k = .free → scope.names.lookup y = some .free ∧ (cenv.kindOf y = some .cell ∨ cenv.kindOf y = some .free) := fun k hk hk' => by
        have hk0 := hk
        rw [hsc] at hk
        obtain ⟨k', e, r⟩ := lookup_relS hk
        have no : ¬ (k' = .local ∨ k' = .cell) := fun hh => by
          rcases ok.own _ (PySem.mem_of_lookup e) hh with e' | e'
          · obtain ⟨p, hp, hpy⟩ := List.mem_map.mp e'
            have e3 := ok.ix p hp
            have : p.1 = y := hpy
            rw [this] at e3
            exact hne (List.mem_map.mpr ⟨p, hp, nodup_ix hN e3 e1⟩)
          · exact e' (List.mem_of_getElem? e1)
        rcases r with rfl | ⟨rfl, rfl⟩
        · rcases hk' with rfl | rfl | rfl
          · exact absurd (.inl rfl) no
          · exact absurd (.inr rfl) no
          · exact ⟨e, .inr hk0⟩
        · exact ⟨e, .inl hk0⟩
      have e3 : Vis cenv.scope y := e3
      rcases e3 with e3 | e3 | e3
      · exact key _ e3 (.inl rfl)
      · exact key _ e3 (.inr (.inl rfl))
      · exact key _ e3 (.inr (.inr rfl))
    obtain ⟨m, hn, hl⟩ := I.loc
    have hvis : Vis X.env.scope y := (ok.free _ (PySem.mem_of_lookup hfr.1) rfl).elim (fun k => .inr (.inl k)) (fun k => .inr (.inr k))
    obtain ⟨w, r, q⟩ := hl i y av e1 e2 hvis
    refine ⟨w, r, .inr ⟨hfr.2, ?_⟩⟩
    obtain ⟨c, h1, h2⟩ := look hfr.1
    rcases q with ⟨k, _⟩ | ⟨_, c', e', z⟩
    · have k : X.env.scope.names.lookup y = some .local := k
      rcases ok.free _ (PySem.mem_of_lookup hfr.1) rfl with k' | k' <;> rw [show X.env.scope.names.lookup y = _ from k'] at k <;> cases k
    · rw [h2] at e'; cases e'
      exact ⟨c, h1, z.keeps kp⟩
  · have e : cenv.cells.lookup y = some c := e
    rcases mem e with ⟨h1, _⟩ | ⟨_, z⟩
    · obtain ⟨w, z⟩ := I.cell y c h1
      exact ⟨w, z.keeps kp⟩
    · exact ⟨_, z⟩
  · show H cenv.locals = none
    rw [hL]; exact I.hok.fresh (Nat.le_refl _)
  · have e : cenv.cells.lookup y = some c := e
    rcases mem e with ⟨h1, _⟩ | ⟨h1, _⟩
    · exact I.freeC y c h1
    · exact I.hok.fresh (Nat.le_of_succ_le h1)
  · exact absurd (show p ∈ ([] : List (Addr × Obj)) ++ [] from hp) (by simp)

/-- an item appended to a tracked list -/
theorem app_ok {E : Value → Shared → Prop} {D : Addr} {xs : List V} {y : V} {v : Value} {Q : Value → Shared → Prop} (I : Inv X pins σ H s) (hD : H D = some (.lst xs)) (hz : xs.length < sizeLine) (r : RelV y v)
    (h : ∀ s', Inv X pins σ (upd H D (.lst (xs ++ [y]))) s' → Q .none s') : wpAny (model X.prog X.w) X.A (call (.builtin "list.append") [.ref D, v]) Q E s := by
  obtain ⟨hz', its, n, ri, e⟩ := I.hok D _ hD
  have hl := ri.length
  refine append_at (hsz := by rw [List.size_toArray]; omega) e fun h' sb ho' => ?_
  refine h { s with heap := h' } (I.write (t' := s.toks) (by rw [hD]; trivial) (.inl rfl) (fun b u hb q => (sb.2 b hb).trans q) ⟨_, ho'⟩ ⟨by rw [List.length_append]; exact hz, its ++ [v], n + 1, ri.append (.cons r .nil), ?_⟩)
  rw [ho']
  simp

/-- a clause's tests -/
def PTs (X : Cx) (ifs : List Expr) (t : TT) : Prop :=
  ∀ (pins : List (Addr × Obj)) (s : Shared) (σ : St) (H : Hp) (Q : Bool → Hp → Prop), Inv X pins σ H s → t σ H Q →
    wpAny (model X.prog X.w) X.A (forIn ifs true fun c r => if r = true then do let ok ← isTrue c X.env (eval c X.env); pure (ForInStep.yield ok) else pure (ForInStep.yield r)) (TP X pins σ Q) X.xe s
def tYes : TT := fun _ H Q => Q true H
theorem pts_nil : PTs X [] tYes := fun _ _ _ H _ I h => wpAny_tests_nil ⟨H, I, h⟩
end
theorem thnF {α : Type} {t : Sem α} {Q Q' : α → Shared → Prop} {M : Model} {A : Around} {E : Value → Shared → Prop} {s : Shared} (h : wpAny M A t Q (fun _ _ => False) s) (hQ : ∀ a s, Q a s → Q' a s) : wpAny M A t Q' E s := wpAny_mono h hQ fun _ _ z => False.elim z

/-- the loop of a list comprehension's block, the target of any form (codeAny_compLoop_tests asks a target that no tuple goes to; statement and proof follow it, PyProof/CompMap.lean:41-61, with the step letOwnedTupleGo kept) -/
theorem compLoop_any {prog : Program} {w : World} {A : Around} {R : Result → Shared → Prop} {s : Shared} {elt target iter : Expr} {ifs : List Expr} {scope : Scope} {pos : Pos} {it acc : Value} {env : Env} (I : Nat → Shared → Prop)
    (turn : ∀ n s, I n s → wpAny (model prog w) A (pyNext it) (fun r s₁ => match r with
      | none => R (.ok .next) s₁
      | some v => wpAny (model prog w) A (letOwnedTupleGo target it v) (fun _ s₁' => wpAny (model prog w) A (assign target env v) (fun _ s₂ =>
          wpAny (model prog w) A (forIn ifs true fun c r => if r = true then do let ok ← isTrue c env (eval c env); pure (ForInStep.yield ok) else pure (ForInStep.yield r)) (fun ok s₃ =>
            if ok = true then wpAny (model prog w) A (eval elt env) (fun x s₄ =>
              wpAny (model prog w) A (call (.builtin "list.append") [acc, x]) (fun _ s₅ => ∃ m, m < n ∧ I m s₅) (notedBy (model prog w) A env fun e s' => R (.error e) s') s₄) (notedBy (model prog w) A env fun e s' => R (.error e) s') s₃
            else ∃ m, m < n ∧ I m s₃) (notedBy (model prog w) A env fun e s' => R (.error e) s') s₂) (notedBy (model prog w) A env fun e s' => R (.error e) s') s₁') (notedBy (model prog w) A env fun e s' => R (.error e) s') s₁) (notedBy (model prog w) A env fun e s' => R (.error e) s') s)
    (n : Nat) (h : I n s) :
    codeAny (model prog w) A (.compLoop (.ListComp elt [⟨target, iter, ifs, 0⟩] scope pos) 0 it acc env) R s := by
  refine codeAny_loop rfl I (fun n s hI => ?_) n h
  show wpAny _ A ((compTurn (.ListComp elt [⟨target, iter, ifs, 0⟩] scope pos) 0 it acc env).onRaise (fun x => do noteFrame x env; theTreesLotGoes x)) _ _ s
  refine wpAny_noted ?_
  rw [compTurn_list]
  refine wpAny_bind (wpAny_standAt (wpAny_bind (wpAny_mono (turn n s hI) (fun r s₁ h₁ => ?_) fun _ _ h' => h')))
  cases r with
  | none => exact wpAny_pure h₁
  | some v =>
    refine wpAny_bind (wpAny_mono h₁ (fun _ s₁' h₁' => ?_) fun _ _ h' => h')
    refine wpAny_bind (wpAny_mono h₁' (fun _ s₂ h₂ => wpAny_bind (wpAny_mono h₂ (fun ok s₃ h₃ => ?_) fun _ _ h' => h')) fun _ _ h' => h')
    cases ok with
    | false => exact wpAny_pure ⟨rfl, h₃⟩
    | true =>
      exact wpAny_bind (wpAny_bind (wpAny_mono h₃ (fun x s₄ h₄ => wpAny_bind (wpAny_mono h₄ (fun _ s₅ h₅ => wpAny_pure (wpAny_pure ⟨rfl, h₅⟩)) fun _ _ h' => h')) fun _ _ h' => h'))

section
variable {X : Cx}
/-- [elt for target in iter if ..]: D the new list; W by the turn and a measure, Nx what a turn is to reach -/
def tLc (wi : TI) (g : TG) (tt : TT) (te : TE) (vs : List Nat) : TE := fun σ H Q => wi σ H fun J H1 => ∀ D, H1 D = none → ∃ W : Nat → Nat → Hp → Prop, (∃ m, W 0 m (upd H1 D (.lst []))) ∧ ∀ i m H, W i m H →
  (J.stop i H ∧ Q (.ref D) H) ∨ (J.go i H ∧ ∃ Nx : Hp → Prop, (∀ H', Nx H' → ∃ m', m' < m ∧ W (i + 1) m' H') ∧ ∀ x H', J.yld i H x H' → g x (wipe σ vs) H' fun σ2 H2 => wipe σ2 vs = wipe σ vs ∧ tt σ2 H2 fun b H3 =>
    if b = true then te σ2 H3 fun y H4 => ∃ acc, H4 D = some (.lst acc) ∧ acc.length < sizeLine ∧ Nx (upd H4 D (.lst (acc ++ [y]))) else Nx H3)
theorem lc_core {pins : List (Addr × Obj)} {s : Shared} {σ : St} {H : Hp} {Q : VK} {elt tg iter : Expr} {ifs : List Expr} {scope : Scope} {own : List (Str × Nat)} {pos pos' : Pos} {wi : TI} {g : TG} {tt : TT} {te : TE} {use : Option (Value → Sem Unit)} {Qf : Value → Shared → Prop}
    (hc : X.calm = true) (hN : X.N.Nodup) (I : Inv X pins σ H s) (hi : PI X tg iter wi) (ok : BlkOk X.N X.env.scope scope own)
    (hg : ∀ (s : Shared) (H : Hp) (C : Addr) (cl : List (Str × Addr)) (fp : List Addr), PG (X.blk s H scope (compEnvC scope cl C X.env) fp) tg g) (ht : ∀ (s : Shared) (H : Hp) (C : Addr) (cl : List (Str × Addr)) (fp : List Addr), PTs (X.blk s H scope (compEnvC scope cl C X.env) fp) ifs tt)
    (he : ∀ (s : Shared) (H : Hp) (C : Addr) (cl : List (Str × Addr)) (fp : List Addr), PE (X.blk s H scope (compEnvC scope cl C X.env) fp) elt te) (hs : ∀ x, foldedSetIterable iter X.env x = pure x)
    (h : tLc wi g tt te (own.map (·.2)) σ H Q)
    (hRR : ∀ D C s' m H', Inv X pins σ H' s' → Q (.ref D) H' → s'.heap.Ns C m → FpOk X pins H' C → compPost (model X.prog X.w) X.A X.xe use Qf (.ref D) C (.ok .next) s') :
    wpAny (model X.prog X.w) X.A (comprehension (.ListComp elt [⟨tg, iter, ifs, 0⟩] scope pos) scope X.env pos' (newList []) false (eval iter X.env) use) Qf X.xe s := by
  have hfree : ∀ y ∈ scope.names, y.2 = .free → ∃ c, X.env.cells.lookup y.1 = some c := fun y hy e => by
    rcases ok.free y hy e with k | k
    · exact I.ok.has _ (.inl k)
    · exact I.ok.has _ (.inr k)
  refine wpAny_comprehension_free (use := use) rfl hs (closure_ok hfree) ok.kind (fun y hy e => by rw [ok.uniq y hy, e])
    (thn (hi pins s σ H _ I h) fun xv s1 hx => thn hx fun itv s2 h2 => ?_)
  obtain ⟨it, fp, tn, J, H2, e, I2, T, st2, f2, q⟩ := h2
  subst e
  refine wpAny_newObj_type (newEnv_comp ?_) (by show 0 ≤ sizeLine; decide)
  generalize hD : s2.heap.objs.size = D
  have hDn : H2 D = none := I2.hok.fresh (Nat.le_of_eq hD)
  obtain ⟨W, ⟨m0, w0⟩, turn⟩ := q D hDn
  -- the new list
  generalize hs3 : ({ s2 with heap := s2.heap.push { cls := .type "list", data := .seq ([] : List Value).toArray } } : Shared) = s3
  have I3 : Inv X pins σ (upd H2 D (.lst [])) s3 := by
    rw [← hs3]
    refine I2.laid (t' := s2.toks) (fun b o e => Heap.get?_push_of_some _ e) (Nat.le_of_eq hD) ⟨Nat.zero_le _, [], 0, .nil, ?_⟩
    rw [← hD]
    exact Heap.get?_push_size _ rfl
  have h3 : s3.heap = s2.heap.push { cls := .type "list", data := .seq ([] : List Value).toArray } := by rw [← hs3]
  have sz : ∀ b ∈ fp, b < s2.heap.objs.size := fun b hb => by
    obtain ⟨o, e, _⟩ := T.obj _ _ st2 b hb
    exact Heap.lt_size e
  have f3 : ∀ b ∈ fp, FpOk X pins (upd H2 D (.lst [])) b ∧ b < s3.heap.objs.size := fun b hb => by
    have hlt := sz b hb
    refine ⟨⟨?_, (f2 b hb).2⟩, by rw [h3, Heap.size_push]; exact Nat.lt_succ_of_lt hlt⟩
    rw [upd_ne (by rw [← hD]; exact Nat.ne_of_lt hlt)]
    exact (f2 b hb).1
  have st3 : tn 0 s3.heap := T.keep _ _ _ st2 fun b _ o e => by rw [h3]; exact Heap.get?_push_of_some _ e
  have I4 := block_start I3 ok hN f3
  have pg := hg s3 (upd H2 D (.lst [])) s3.heap.objs.size (cellsFrom (s3.heap.objs.size + 1) scope.names (cloFrom X.env.cells scope.names [])) fp
  have pt := ht s3 (upd H2 D (.lst [])) s3.heap.objs.size (cellsFrom (s3.heap.objs.size + 1) scope.names (cloFrom X.env.cells scope.names [])) fp
  have pe := he s3 (upd H2 D (.lst [])) s3.heap.objs.size (cellsFrom (s3.heap.objs.size + 1) scope.names (cloFrom X.env.cells scope.names [])) fp
  show codeAny _ _ (.compStart (.ListComp elt [⟨tg, iter, ifs, 0⟩] scope pos) 0 (.ref it) (.ref D) (compEnvC scope (cellsFrom (s3.heap.objs.size + 1) scope.names (cloFrom X.env.cells scope.names [])) s3.heap.objs.size X.env)) (compPost (model X.prog X.w) X.A X.xe use Qf (.ref D) s3.heap.objs.size) { s3 with heap := pushCells (s3.heap.push { cls := .type "dict", data := .dict #[] }) scope.names }
  have nfp : ∀ b ∈ fp, (upd H2 D (.lst [])) b = none := fun b hb => (f3 b hb).1.1
  generalize hce : compEnvC scope (cellsFrom (s3.heap.objs.size + 1) scope.names (cloFrom X.env.cells scope.names [])) s3.heap.objs.size X.env = ce at I4 pg pt pe ⊢
  have cL : ce.locals = s3.heap.objs.size := by subst hce; rfl
  generalize hH3 : upd H2 D (.lst []) = H3 at I3 I4 pg pt pe w0 nfp f3
  generalize hs4 : ({ s3 with heap := pushCells (s3.heap.push { cls := .type "dict", data := .dict #[] }) scope.names } : Shared) = s4 at I4 ⊢
  have st4 : tn 0 s4.heap := T.keep _ _ _ st3 fun b _ o e => by rw [← hs4]; exact pushCells_keeps _ _ _ _ (Heap.get?_push_of_some _ e)
  have stat : ∀ {σ' : St} {H' : Hp} {s' : Shared}, Inv (X.blk s3 H3 scope ce fp) [] σ' H' s' → (∀ b ∈ fp, H' b = none) → ∀ b ∈ fp, FpOk (X.blk s3 H3 scope ce fp) [] H' b := fun {σ' H' s'} I' hn b hb =>
    ⟨hn b hb, (I'.ok.exf b hb).1, I'.ok.exfs b hb, .inl hb, fun x c e => (I'.ok.exf b hb).2 x c e, fun p hp => absurd (show p ∈ ([] : List (Addr × Obj)) ++ [] from hp) (by simp)⟩
  have loop : codeAny (model X.prog X.w) X.A (.compLoop (.ListComp elt [⟨tg, iter, ifs, 0⟩] scope pos) 0 (.ref it) (.ref D) ce) (compPost (model X.prog X.w) X.A X.xe use Qf (.ref D) s3.heap.objs.size) s4 := by
    refine compLoop_any (fun n s' => ∃ i H', Inv (X.blk s3 H3 scope ce fp) [] (wipe σ (own.map (·.2))) H' s' ∧ tn i s'.heap ∧ (∀ b ∈ fp, H' b = none) ∧ W i n H') ?_ m0 ⟨0, H3, I4, st4, nfp, w0⟩
    rintro n s5 ⟨i, H5, I5, st5, n5, w5⟩
    rcases turn i n H5 w5 with ⟨stop, qq⟩ | ⟨go, Nx, hNx, step⟩
    · have td := T.done (X.blk s3 H3 scope ce fp) rfl rfl rfl hc i [] s5 _ H5 (fun _ _ => False) I5 (stat I5 n5) st5 stop
      refine thnF td fun r s6 ⟨hr, I6⟩ => ?_
      subst hr
      -- back in the def's context
      have I7 : Inv X pins σ H5 s6 := I3.call' (ch := fp) I6.os I6.base I6.hok I6.bare fun b hb => ⟨(f3 b hb).1.2.2.2.1, (f3 b hb).1.2.1, (f3 b hb).1.2.2.2.2.1, (f3 b hb).1.2.2.2.2.2⟩
      have nC : H5 s3.heap.objs.size = none := by
        have z : H5 ce.locals = none := I6.free
        rw [cL] at z
        exact z
      obtain ⟨m, hn, _⟩ := I6.loc
      have hn : s6.heap.Ns ce.locals m := hn
      rw [cL] at hn
      exact hRR D s3.heap.objs.size s6 m H5 I7 qq hn (I3.fpOk (Nat.le_refl _) nC)
    · have ti := T.item (X.blk s3 H3 scope ce fp) rfl rfl rfl hc i [] s5 _ H5 (fun _ _ => False) I5 (stat I5 n5) st5 go
      refine thnF ti fun r s6 ⟨u, hr, h6⟩ => ?_
      subst hr
      refine thnF h6 fun _ s7 ⟨x, H7, I7, r7, y7, st7, n7⟩ => ?_
      have I7' := I7.pinned (stat I7 n7) (T.obj _ _ st7)
      refine thnF (pg _ s7 _ H7 x u _ I7' r7 (step x H7 y7)) fun _ s8 ⟨σ8, H8, I8, hw8, q8⟩ => ?_
      refine thnF (pt _ s8 σ8 H8 _ I8 q8) fun b s9 ⟨H9, I9, q9⟩ => ?_
      -- the turn's end
      have fin : ∀ {s' : Shared} {H' : Hp}, Inv (X.blk s3 H3 scope ce fp) ([] ++ pinsAt fp s7.heap) σ8 H' s' → Nx H' → ∃ m, m < n ∧ ∃ i H', Inv (X.blk s3 H3 scope ce fp) [] (wipe σ (own.map (·.2))) H' s' ∧ tn i s'.heap ∧ (∀ b ∈ fp, H' b = none) ∧ W i m H' := fun {s' H'} I' nx => by
        obtain ⟨m', hm, w'⟩ := hNx H' nx
        have pin' : ∀ b ∈ fp, ∀ o, s7.heap.get? b = some o → s'.heap.get? b = some o ∧ H' b = none := fun b hb o e =>
          let z := I'.pin (b, o) (List.mem_append_right _ (List.mem_append_right _ (mem_pinsAt hb e)))
          ⟨z.1, z.2.1⟩
        have hl : (wipe σ (own.map (·.2))).length = σ8.length := by rw [← hw8, wipe_length]
        refine ⟨m', hm, i + 1, H', (I'.unpinned (pins := [])).weak hl (fun j v e => ?_), T.keep _ _ _ st7 fun b hb o e => (pin' b hb o e).1, fun b hb => ?_, w'⟩
        · rw [← hw8] at e
          exact (wipe_some e).1
        · obtain ⟨o, e, _⟩ := T.obj _ _ st7 b hb
          exact (pin' b hb o e).2
      cases b with
      | false =>
        simp only [Bool.false_eq_true, if_false] at q9 ⊢
        exact fin I9 q9
      | true =>
        simp only [if_true] at q9 ⊢
        refine thnF (pe _ s9 σ8 H9 _ I9 q9) fun z s10 ⟨yv, H10, I10, r10, acc, hD10, hz10, nx⟩ => ?_
        exact app_ok (X := X.blk s3 H3 scope ce fp) I10 hD10 hz10 r10 fun s11 I11 => fin I11 nx
  exact codeAny_compStart_list loop (T.self X.A 0 _ _ _ st4 loop)
/-- as a value -/
theorem pe_lc {elt tg iter : Expr} {ifs : List Expr} {scope : Scope} {own : List (Str × Nat)} {pos : Pos} {wi : TI} {g : TG} {tt : TT} {te : TE} (hc : X.calm = true) (hN : X.N.Nodup) (hi : PI X tg iter wi) (ok : BlkOk X.N X.env.scope scope own)
    (hg : ∀ (s : Shared) (H : Hp) (C : Addr) (cl : List (Str × Addr)) (fp : List Addr), PG (X.blk s H scope (compEnvC scope cl C X.env) fp) tg g) (ht : ∀ (s : Shared) (H : Hp) (C : Addr) (cl : List (Str × Addr)) (fp : List Addr), PTs (X.blk s H scope (compEnvC scope cl C X.env) fp) ifs tt)
    (he : ∀ (s : Shared) (H : Hp) (C : Addr) (cl : List (Str × Addr)) (fp : List Addr), PE (X.blk s H scope (compEnvC scope cl C X.env) fp) elt te) (hs : ∀ x, foldedSetIterable iter X.env x = pure x := by intro _; rfl) :
    PE X (.ListComp elt [⟨tg, iter, ifs, 0⟩] scope pos) (tLc wi g tt te (own.map (·.2))) := by
  intro pins s σ H Q I h
  rw [eval_ListComp]
  refine lc_core hc hN I hi ok hg ht he hs h fun D C s' m H' I' q hn f => ⟨m, hn, fun h'' sb => ?_⟩
  obtain ⟨f0, f1, f2, f3, f4, f5⟩ := f
  exact ⟨.ref D, H', I'.turned (t' := s'.toks) (fun b o hb e => (sb.2 b hb).trans e) f0 f1 f3 f4 f5, rfl, q⟩
end
end L2
namespace L2
open PySem PySem.Spec PyProof.Rows
section
variable {prog : Program} {w : World} {A : Around} {R : Result → Shared → Prop} {s : Shared} {elt t0 i0 t1 i1 : Expr} {ifs0 ifs1 : List Expr} {scope : Scope} {pos : Pos} {it acc : Value} {env : Env}
end
section
variable {X : Cx}
end
end L2
namespace L2
open PySem PySem.Spec PyProof.Rows
section
variable {κ : Type} [DecidableEq κ]
def valV (kvs : List (κ × V)) (k : κ) : Option V := (kvs.find? fun kv => decide (kv.1 = k)).map (·.2)
/-- in its place, or at the end -/
def putK (kvs : List (κ × V)) (k : κ) (v : V) : List (κ × V) :=
  if (kvs.any fun kv => decide (kv.1 = k)) = true then kvs.map (fun kv => if kv.1 = k then (kv.1, v) else kv) else kvs ++ [(k, v)]
def dropK (kvs : List (κ × V)) (k : κ) : List (κ × V) := kvs.filter fun kv => decide (kv.1 ≠ k)

theorem valV_pos {p : κ × V} {r : List (κ × V)} {k : κ} (e : p.1 = k) : valV (p :: r) k = some p.2 := by simp [valV, List.find?_cons, e]
theorem valV_neg {p : κ × V} {r : List (κ × V)} {k : κ} (e : ¬ p.1 = k) : valV (p :: r) k = valV r k := by simp [valV, List.find?_cons, e]
theorem valV_any (k : κ) : ∀ kvs : List (κ × V), (kvs.any fun kv => decide (kv.1 = k)) = (valV kvs k).isSome
  | [] => rfl
  | p :: r => by
    rw [List.any_cons]
    by_cases e : p.1 = k
    · simp only [valV_pos e, decide_eq_true e, Bool.true_or, Option.isSome_some]
    · rw [valV_neg e, decide_eq_false e, Bool.false_or]; exact valV_any k r
theorem length_putK (kvs : List (κ × V)) (k : κ) (v : V) : (putK kvs k v).length ≤ kvs.length + 1 := by
  unfold putK
  split
  · rw [List.length_map]; omega
  · rw [List.length_append, List.length_cons, List.length_nil]; omega
theorem putK_new {kvs : List (κ × V)} {k : κ} (v : V) (h : valV kvs k = none) : putK kvs k v = kvs ++ [(k, v)] := by
  unfold putK
  rw [valV_any, h]
  exact if_neg (by decide)

theorem RelO.isSome_eq {o : Option V} {u : Option Value} (r : RelO o u) : o.isSome = u.isSome := by
  cases o with
  | none => cases u with
    | none => rfl
    | some _ => exact (show False from r).elim
  | some _ => cases u with
    | none => exact (show False from r).elim
    | some _ => rfl
theorem RelO.getD {o : Option V} {u : Option Value} {d : V} {d' : Value} (r : RelO o u) (rd : RelV d d') : RelV (o.getD d) (u.getD d') := by
  cases o with
  | none => cases u with
    | none => exact rd
    | some _ => exact (show False from r).elim
  | some _ => cases u with
    | none => exact (show False from r).elim
    | some _ => exact r

/-- raw tables of the same keys -/
theorem KV.val {kvs : List (κ × V)} {vs : List (κ × Value)} (r : KV kvs vs) (k : κ) : RelO (valV kvs k) (valueAt vs k) := by
  unfold KV at r
  induction r with
  | nil => exact True.intro
  | @cons p q ps qs h t ih =>
    obtain ⟨h1, h2⟩ := h
    by_cases e : p.1 = k
    · have e' : q.1 = k := h1.symm.trans e
      have b : valueAt (q :: qs) k = some q.2 := by simp [valueAt, List.find?_cons, e']
      rw [valV_pos e, b]; exact h2
    · have e' : ¬ q.1 = k := fun z => e (h1.trans z)
      have b : valueAt (q :: qs) k = valueAt qs k := by simp [valueAt, List.find?_cons, e']
      rw [valV_neg e, b]; exact ih
theorem KV.any {kvs : List (κ × V)} {vs : List (κ × Value)} (r : KV kvs vs) (k : κ) : (kvs.any fun kv => decide (kv.1 = k)) = vs.any fun kv => decide (kv.1 = k) := by
  unfold KV at r
  induction r with
  | nil => rfl
  | cons h t ih => rw [List.any_cons, List.any_cons, ih, h.1]
theorem KV.repl {kvs : List (κ × V)} {vs : List (κ × Value)} (r : KV kvs vs) (k : κ) {y : V} {u : Value} (ry : RelV y u) :
    KV (kvs.map fun kv => if kv.1 = k then (kv.1, y) else kv) (vs.map fun kv => if kv.1 = k then (kv.1, u) else kv) := by
  unfold KV at r ⊢
  induction r with
  | nil => exact .nil
  | @cons p q ps qs h t ih =>
    rw [List.map_cons, List.map_cons]
    refine .cons ?_ ih
    obtain ⟨h1, h2⟩ := h
    by_cases e : p.1 = k
    · rw [if_pos e, if_pos (h1.symm.trans e)]; exact ⟨h1, ry⟩
    · rw [if_neg e, if_neg (fun z => e (h1.trans z))]; exact ⟨h1, h2⟩
theorem KV.put {kvs : List (κ × V)} {vs : List (κ × Value)} (r : KV kvs vs) (k : κ) {y : V} {u : Value} (ry : RelV y u) : KV (putK kvs k y) (stored vs k u) := by
  unfold putK stored
  rw [r.any k]
  by_cases e : (vs.any fun kv => decide (kv.1 = k)) = true
  · rw [if_pos e, if_pos e]; exact r.repl k ry
  · rw [if_neg e, if_neg e]; exact Paired.snoc r ⟨rfl, ry⟩
theorem KV.drop {kvs : List (κ × V)} {vs : List (κ × Value)} (r : KV kvs vs) (k : κ) : KV (dropK kvs k) (without vs k) := by
  unfold KV at r ⊢
  unfold dropK without
  induction r with
  | nil => exact .nil
  | @cons p q ps qs h t ih =>
    obtain ⟨h1, h2⟩ := h
    rw [List.filter_cons, List.filter_cons]
    by_cases e : p.1 = k
    · have a : ¬ decide (p.1 ≠ k) = true := by simp [e]
      have b : ¬ decide (q.1 ≠ k) = true := by simp [h1.symm.trans e]
      rw [if_neg a, if_neg b]; exact ih
    · have e' : ¬ q.1 = k := fun z => e (h1.trans z)
      have a : decide (p.1 ≠ k) = true := by simp [e]
      have b : decide (q.1 ≠ k) = true := by simp [e']
      rw [if_pos a, if_pos b]; exact .cons ⟨h1, h2⟩ ih
theorem KV.keys {kvs : List (κ × V)} {vs : List (κ × Value)} (r : KV kvs vs) : kvs.map (·.1) = vs.map (·.1) := by
  unfold KV at r
  induction r with
  | nil => rfl
  | cons h t ih => rw [List.map_cons, List.map_cons, ih, h.1]
theorem KV.length {kvs : List (κ × V)} {vs : List (κ × Value)} (r : KV kvs vs) : kvs.length = vs.length := Paired.length r
end
theorem kV_is {P : Program} {w : World} {k : Key} {u : Value} (r : RelV (kV k) u) : (mixKind P w).is k u = true := by
  cases k with
  | inl i => obtain ⟨t, e⟩ := (show ∃ t, u = Value.int i t from r); subst e; exact mixKind_int P w i t
  | inr x => obtain ⟨t, e⟩ := (show ∃ t, u = Value.str x t from r); subst e; exact mixKind_str P w x t
theorem items_are {P : Program} {w : World} : ∀ {ks : List Key} {us : List Value}, Vals (ks.map kV) us → ItemsAre (mixKind P w) ks us
  | [], _, r => by rw [List.map_nil] at r; cases r; exact .nil
  | k :: ks, _, r => by
    rw [List.map_cons] at r
    cases r with
    | cons h t => exact .cons (kV_is h) (items_are t)

/-- raw entries of a dict with tuple keys -/
abbrev KT (H : Hp) : List (List Key × V) → List (List Key × Addr × Value) → Prop := Paired fun p q => p.1 = q.1 ∧ H q.2.1 = some (.tup (p.1.map kV)) ∧ RelV p.2 q.2.2
theorem KT.val {H : Hp} {kvs : List (List Key × V)} {xs : List (List Key × Addr × Value)} (r : KT H kvs xs) (k : List Key) : RelO (valV kvs k) ((atKey xs k).map (·.2)) := by
  induction r with
  | nil => exact True.intro
  | @cons p q ps qs h t ih =>
    obtain ⟨h1, _, h2⟩ := h
    by_cases e : p.1 = k
    · have e' : q.1 = k := h1.symm.trans e
      have b : atKey (q :: qs) k = some q.2 := by simp [atKey, List.find?_cons, e']
      rw [valV_pos e, b]; exact h2
    · have e' : ¬ q.1 = k := fun z => e (h1.trans z)
      have b : atKey (q :: qs) k = atKey qs k := by simp [atKey, List.find?_cons, e']
      rw [valV_neg e, b]; exact ih
theorem KT.repl {H : Hp} {kvs : List (List Key × V)} {xs : List (List Key × Addr × Value)} (r : KT H kvs xs) (k : List Key) {y : V} {u : Value} (ry : RelV y u) :
    KT H (kvs.map fun kv => if kv.1 = k then (kv.1, y) else kv) (xs.map (putAt k u)) := by
  induction r with
  | nil => exact .nil
  | @cons p q ps qs h t ih =>
    rw [List.map_cons, List.map_cons]
    refine .cons ?_ ih
    obtain ⟨h1, h2, h3⟩ := h
    unfold putAt
    by_cases e : p.1 = k
    · rw [if_pos e, if_pos (h1.symm.trans e)]; exact ⟨h1, h2, ry⟩
    · rw [if_neg e, if_neg (fun z => e (h1.trans z))]; exact ⟨h1, h2, h3⟩
theorem KT.put {H : Hp} {kvs : List (List Key × V)} {xs : List (List Key × Addr × Value)} (r : KT H kvs xs) (k : List Key) {b : Addr} {y : V} {u : Value} (hb : H b = some (.tup (k.map kV))) (ry : RelV y u) :
    KT H (putK kvs k y) (storedH xs k b u) := by
  have e : (kvs.any fun kv => decide (kv.1 = k)) = (atKey xs k).isSome := by
    rw [valV_any, (r.val k).isSome_eq, Option.isSome_map]
  unfold putK storedH
  rw [e]
  by_cases q : (atKey xs k).isSome = true
  · rw [if_pos q, if_pos q]; exact r.repl k ry
  · rw [if_neg q, if_neg q]; exact Paired.snoc r ⟨rfl, hb, ry⟩
theorem KT.keeps {H H' : Hp} {kvs : List (List Key × V)} {xs : List (List Key × Addr × Value)} (r : KT H kvs xs) (ht : ∀ b ys, H b = some (.tup ys) → H' b = some (.tup ys)) : KT H' kvs xs :=
  Paired.mapP r fun _ _ z => ⟨z.1, ht _ _ z.2.1, z.2.2⟩

section
variable {P : Program} {w : World} {H : Hp} {h : Heap} {a : Addr}
theorem rd_of {u : HO} (ok : HOk P w H h) (e : Rd H a u) : ObjOk P w H h a u := e.ok ok
theorem dk_rd {kvs : List (Key × V)} (ok : HOk P w H h) (e : Rd H a (.dK kvs)) : kvs.length ≤ sizeLine ∧ (a == sysModules) = false ∧ ∃ vs, KV kvs vs ∧ h.DictOf (mixKind P w) a vs :=
  show ObjOk P w H h a (.dK kvs) from rd_of ok e
theorem dk_of {kvs : List (Key × V)} (ok : HOk P w H h) (e : H a = some (.dK kvs)) : kvs.length ≤ sizeLine ∧ (a == sysModules) = false ∧ ∃ vs, KV kvs vs ∧ h.DictOf (mixKind P w) a vs := dk_rd ok (.inl e)
/-- a tracked tuple of ints and texts is a key -/
theorem key_of {ks : List Key} (ok : HOk P w H h) (e : H a = some (.tup (ks.map kV))) : (tupleKind (mixKind P w)).is h ks a := by
  obtain ⟨_, its, r, o, h1, h2, n, h3⟩ := (show ObjOk P w H h a (.tup (ks.map kV)) from ok a _ e)
  exact ⟨o, its.toArray, n, h1, h2, h3, by simpa using items_are r⟩
theorem dt_rd {kvs : List (List Key × V)} (ok : HOk P w H h) (e : Rd H a (.dT kvs)) : kvs.length ≤ sizeLine ∧ (a == sysModules) = false ∧
    ∃ xs, KT H kvs xs ∧ h.DictOfH (tupleKind (mixKind P w)) a xs := by
  obtain ⟨z, y, xs, r, o, es, ep, h1, h2, h3, h4, h5⟩ := (show ObjOk P w H h a (.dT kvs) from rd_of ok e)
  refine ⟨z, y, xs, r, o, es, ep, h1, h2, h3, h4, fun x hx => ?_, h5⟩
  have all : ∀ {l : List (List Key × V)} {m : List (List Key × Addr × Value)}, KT H l m → ∀ x ∈ m, (tupleKind (mixKind P w)).is h x.1 x.2.1 := by
    intro l m q
    induction q with
    | nil => intro x hx; exact nomatch hx
    | @cons p q ps qs hq t ih =>
      intro x hx
      rcases List.mem_cons.mp hx with e | hx
      · subst e
        exact key_of ok (by rw [← hq.1]; exact hq.2.1)
      · exact ih x hx
  exact all r x hx
theorem dt_of {kvs : List (List Key × V)} (ok : HOk P w H h) (e : H a = some (.dT kvs)) : kvs.length ≤ sizeLine ∧ (a == sysModules) = false ∧
    ∃ xs, KT H kvs xs ∧ h.DictOfH (tupleKind (mixKind P w)) a xs := dt_rd ok (.inl e)
end
/-- what the dict at a holds at the key y -/
def DGet (H : Hp) (a : Addr) (y : V) (r : Option V) : Prop :=
  (∃ kvs k, Rd H a (.dK kvs) ∧ y = kV k ∧ r = valV kvs k) ∨ ∃ kvs k b, Rd H a (.dT kvs) ∧ y = .ref b ∧ H b = some (.tup (k.map kV)) ∧ r = valV kvs k
/-- the heap behind a[y] = v -/
def DPut (H : Hp) (a : Addr) (y v : V) (H' : Hp) : Prop :=
  (∃ kvs k, H a = some (.dK kvs) ∧ y = kV k ∧ kvs.length < sizeLine ∧ H' = upd H a (.dK (putK kvs k v))) ∨
  ∃ kvs k b, H a = some (.dT kvs) ∧ y = .ref b ∧ H b = some (.tup (k.map kV)) ∧ kvs.length < sizeLine ∧ H' = upd H a (.dT (putK kvs k v))
theorem DGet.k {H : Hp} {a : Addr} {kvs : List (Key × V)} {k : Key} (e : H a = some (.dK kvs)) : DGet H a (kV k) (valV kvs k) := .inl ⟨kvs, k, .inl e, rfl, rfl⟩
theorem DGet.t {H : Hp} {a b : Addr} {kvs : List (List Key × V)} {k : List Key} (e : H a = some (.dT kvs)) (eb : H b = some (.tup (k.map kV))) : DGet H a (.ref b) (valV kvs k) := .inr ⟨kvs, k, b, .inl e, rfl, eb, rfl⟩
theorem DPut.k {H : Hp} {a : Addr} {kvs : List (Key × V)} {k : Key} {v : V} (e : H a = some (.dK kvs)) (hl : kvs.length < sizeLine) : DPut H a (kV k) v (upd H a (.dK (putK kvs k v))) := .inl ⟨kvs, k, e, rfl, hl, rfl⟩
theorem DPut.t {H : Hp} {a b : Addr} {kvs : List (List Key × V)} {k : List Key} {v : V} (e : H a = some (.dT kvs)) (eb : H b = some (.tup (k.map kV))) (hl : kvs.length < sizeLine) :
    DPut H a (.ref b) v (upd H a (.dT (putK kvs k v))) := .inr ⟨kvs, k, b, e, rfl, eb, hl, rfl⟩


section
variable {X : Cx} {pins : List (Addr × Obj)} {σ : St} {H : Hp} {s : Shared} {a : Addr} {y v : V} {u r : Value} {o : Option V} {A : Around} {E : Value → Shared → Prop}
theorem Inv.big (I : Inv X pins σ H s) : sysModules < s.heap.objs.size := by
  have h : mainGlobals < s.heap.objs.size := (I.mod.glob.keeps I.bk).lt
  exact Nat.lt_trans (by decide) h

/-- y in d -/
theorem d_in {Q : Value → Shared → Prop} (hu : A.units + 1 < cLine) (I : Inv X pins σ H s) (g : DGet H a y o) (ry : RelV y u) (h : ∀ s', Inv X pins σ H s' → Q (.bool o.isSome) s') :
    wpAny (model X.prog X.w) A (compareOp .In u (.ref a)) Q E s := by
  rcases g with ⟨kvs, k, e, ey, l⟩ | ⟨kvs, k, b, e, ey, eb, l⟩
  · subst ey
    obtain ⟨z, hd, vs, rel, dd⟩ := dk_rd I.hok e
    refine wpAny_in_of (kV_is ry) hd dd.mapOf ?_
    rw [← (rel.val k).isSome_eq, ← l]
    exact h _ (I.tok _)
  · subst ey
    cases (show u = Value.ref b from ry)
    obtain ⟨z, hd, xs, rel, dd⟩ := dt_rd I.hok e
    refine wpAny_in_heap (tupleKind_room_in1 hu) (key_of I.hok eb) hd dd ?_
    have q := (rel.val k).isSome_eq
    rw [Option.isSome_map] at q
    rw [← q, ← l]
    exact h _ (I.tok _)
theorem d_notIn {Q : Value → Shared → Prop} (hu : A.units + 1 < cLine) (I : Inv X pins σ H s) (g : DGet H a y o) (ry : RelV y u) (h : ∀ s', Inv X pins σ H s' → Q (.bool (!o.isSome)) s') :
    wpAny (model X.prog X.w) A (compareOp .NotIn u (.ref a)) Q E s := by
  rcases g with ⟨kvs, k, e, ey, l⟩ | ⟨kvs, k, b, e, ey, eb, l⟩
  · subst ey
    obtain ⟨z, hd, vs, rel, dd⟩ := dk_rd I.hok e
    refine wpAny_notIn_of (kV_is ry) hd dd.mapOf ?_
    rw [← (rel.val k).isSome_eq, ← l]
    exact h _ (I.tok _)
  · subst ey
    cases (show u = Value.ref b from ry)
    obtain ⟨z, hd, xs, rel, dd⟩ := dt_rd I.hok e
    refine wpAny_notIn_heap (tupleKind_room_in1 hu) (key_of I.hok eb) hd dd ?_
    have q := (rel.val k).isSome_eq
    rw [Option.isSome_map] at q
    rw [← q, ← l]
    exact h _ (I.tok _)
/-- a dict's object is replaced -/
theorem d_write {h' : Heap} {t' : Nat} {ob : HO} (I : Inv X pins σ H s) (mu : Mut (H a)) (hs : Heap.SameBut a s.heap h') (he : ∃ q, h'.get? a = some q) (new : ObjOk X.prog X.w (upd H a ob) h' a ob) :
    Inv X pins σ (upd H a ob) { s with heap := h', toks := t' } :=
  I.write (x := a) (e := a) mu (.inl rfl) (fun b q hb z => (hs.2 b hb).trans z) he new
theorem dk_new {P : Program} {w : World} {H' : Hp} {h' : Heap} {kvs : List (Key × V)} {vs : List (Key × Value)} (z : kvs.length ≤ sizeLine) (hd : (a == sysModules) = false) (rel : KV kvs vs) (dd : h'.DictOf (mixKind P w) a vs) :
    ObjOk P w H' h' a (.dK kvs) := ⟨z, hd, vs, rel, dd⟩
/-- d[y] = v -/
theorem d_setItem {H' : Hp} {Q : Unit → Shared → Prop} (hu : A.units + 1 < cLine) (I : Inv X pins σ H s) (g : DPut H a y v H') (ry : RelV y u) (rv : RelV v r) (h : ∀ s', Inv X pins σ H' s' → Q () s') :
    wpAny (model X.prog X.w) A (setItem (.ref a) u r) Q E s := by
  rcases g with ⟨kvs, k, e, ey, l, eH⟩ | ⟨kvs, k, b, e, ey, eb, l, eH⟩
  · subst ey eH
    obtain ⟨z, hd, vs, rel, dd⟩ := dk_of I.hok e
    have hz : vs.length ≤ sizeLine := by rw [← rel.length]; exact z
    have hl : (putK kvs k v).length ≤ sizeLine := by have := length_putK kvs k v; omega
    refine wpAny_setItem_pairs (hsz := hz) (kV_is ry) dd fun h' dd' hs => h _ ?_
    have he : ∃ q, h'.get? a = some q := let ⟨q, _, _, hq, _⟩ := dd'; ⟨q, hq⟩
    exact d_write I (by rw [e]; exact True.intro) hs he (dk_new hl hd (rel.put k rv) dd')
  · subst ey eH
    cases (show u = Value.ref b from ry)
    obtain ⟨z, hd, xs, rel, dd⟩ := dt_of I.hok e
    have hz : xs.length ≤ sizeLine := by rw [← Paired.length rel]; exact z
    have hl : (putK kvs k v).length ≤ sizeLine := by have := length_putK kvs k v; omega
    refine wpAny_setItem_heap (hsz := hz) (tupleKind_room_in1 hu) (key_of I.hok eb) dd fun h' dd' hs => h _ ?_
    obtain ⟨q, es, ep, hq, h2, h3, h4, _, h5⟩ := dd'
    refine d_write I (by rw [e]; exact True.intro) hs ⟨q, hq⟩ ⟨hl, hd, _, (rel.put k eb rv).keeps fun c ys ec => ?_, q, es, ep, hq, h2, h3, h4, h5⟩
    rw [upd_ne (ne_of ec e (fun z => nomatch z))]
    exact ec
end
section
variable {X : Cx} {pins : List (Addr × Obj)} {σ : St} {H : Hp} {s : Shared} {a : Addr} {kvs : List (Key × V)} {k : Key} {u : Value} {A : Around} {E : Value → Shared → Prop}
end
/-- y in d, y not in d -/
def tDIn (ty td : TE) : TE := fun σ H Q => ty σ H fun y H1 => td σ H1 fun x H2 => ∃ a o, x = .ref a ∧ DGet H2 a y o ∧ Q (.bl o.isSome) H2
def tDNotIn (ty td : TE) : TE := fun σ H Q => ty σ H fun y H1 => td σ H1 fun x H2 => ∃ a o, x = .ref a ∧ DGet H2 a y o ∧ Q (.bl (!o.isSome)) H2
/-- d[y] = v -/
def sDPut (td ty tv : TE) : TS := fun D σ H => tv σ H fun v H1 => td σ H1 fun x H2 => ty σ H2 fun y H3 => ∃ a H4, x = .ref a ∧ DPut H3 a y v H4 ∧ D.nx σ H4
section
variable {X : Cx} {o i e value : Expr} {pos pos' tpos : Pos} {td ty tv : TE}
theorem pc_din (hu : X.A.units + 1 < cLine) (hi : PE X i ty) (ho : PE X o td) : PC X .In i o (tDIn ty td) := by
  intro pins s σ H Q I h
  refine thn (hi pins s σ H _ I h) fun iv s1 ⟨y, H1, I1, ry, q1⟩ => thn (ho pins s1 σ H1 _ I1 q1) fun u s2 ⟨x, H2, I2, rx, a, ov, ex, g, q2⟩ => ?_
  subst ex
  obtain rfl : u = Value.ref a := rx
  exact d_in hu I2 g ry fun s3 I3 => ⟨.bl ov.isSome, H2, I3, rfl, q2⟩
theorem pc_dnotin (hu : X.A.units + 1 < cLine) (hi : PE X i ty) (ho : PE X o td) : PC X .NotIn i o (tDNotIn ty td) := by
  intro pins s σ H Q I h
  refine thn (hi pins s σ H _ I h) fun iv s1 ⟨y, H1, I1, ry, q1⟩ => thn (ho pins s1 σ H1 _ I1 q1) fun u s2 ⟨x, H2, I2, rx, a, ov, ex, g, q2⟩ => ?_
  subst ex
  obtain rfl : u = Value.ref a := rx
  exact d_notIn hu I2 g ry fun s3 I3 => ⟨.bl (!ov.isSome), H2, I3, rfl, q2⟩
theorem ps_dput (hu : X.A.units + 1 < cLine) (ho : PE X o td) (hi : PE X i ty) (hv : PE X value tv) (hs : swapsWith value (some (.Subscript o i pos')) pos.line X.env = pure false) :
    PS X (.Assign [.Subscript o i pos'] value pos) (sDPut td ty tv) := by
  intro pins s σ H D I h
  refine wpAny_Assign_Subscript (thn (hv pins s σ H _ I h) fun r s1 ⟨v, H1, I1, rv, q1⟩ => thn (ho pins s1 σ H1 _ I1 q1) fun u s2 ⟨x, H2, I2, rx, q2⟩ => thn (hi pins s2 σ H2 _ I2 q2) fun iv s3 ⟨y, H3, I3, ry, a, H4, ex, g, q3⟩ => ?_) hs
  subst ex
  obtain rfl : u = Value.ref a := rx
  exact d_setItem hu I3 g ry rv fun s4 I4 => ⟨σ, H4, I4, q3⟩
end
theorem dk_empty {P : Program} {w : World} {H : Hp} (h : Heap) (hb : sysModules < h.objs.size) : ObjOk P w H (h.push { cls := .type "dict", data := .dict #[] }) h.objs.size (.dK []) :=
  ⟨Nat.zero_le _, beq_eq_false_iff_ne.mpr (Ne.symm (Nat.ne_of_lt hb)), [], .nil, Heap.DictOf.new h⟩
theorem dt_empty {P : Program} {w : World} {H : Hp} (h : Heap) (hb : sysModules < h.objs.size) : ObjOk P w H (h.push { cls := .type "dict", data := .dict #[] }) h.objs.size (.dT []) :=
  ⟨Nat.zero_le _, beq_eq_false_iff_ne.mpr (Ne.symm (Nat.ne_of_lt hb)), [], .nil, _, #[], 0, Heap.get?_push_size _ rfl, ⟨rfl, rfl, rfl⟩, rfl, rfl, List.nodup_nil⟩
/-- {}, to be a dict of the kind that is wanted -/
def tDNewK : TE := fun _ H Q => ∀ p, H p = none → Q (.ref p) (upd H p (.dK []))
def tDNewT : TE := fun _ H Q => ∀ p, H p = none → Q (.ref p) (upd H p (.dT []))
section
variable {X : Cx} {pos : Pos}
theorem pe_dnewK : PE X (.Dict [] [] pos) tDNewK := fun pins s σ H Q I h =>
  wpAny_Dict_empty ⟨.ref s.heap.objs.size, _, I.laid (a := s.heap.objs.size) (o := .dK []) (t' := s.toks) (fun _ _ q => Heap.get?_push_of_some _ q) (Nat.le_refl _) (dk_empty s.heap I.big), rfl, h _ (I.hok.fresh (Nat.le_refl _))⟩
theorem pe_dnewT : PE X (.Dict [] [] pos) tDNewT := fun pins s σ H Q I h =>
  wpAny_Dict_empty ⟨.ref s.heap.objs.size, _, I.laid (a := s.heap.objs.size) (o := .dT []) (t' := s.toks) (fun _ _ q => Heap.get?_push_of_some _ q) (Nat.le_refl _) (dt_empty s.heap I.big), rfl, h _ (I.hok.fresh (Nat.le_refl _))⟩
end
/-- a method call o.m(e) of a built-in, with one argument: what must be seen of the text -/
structure M1 (X : Cx) (o : Expr) (m : Str) (apos : Pos) (e : Expr) (cpos : Pos) : Prop where
  base : attributeBase o m X.env (eval o X.env) = eval o X.env
  few : ((backTo cpos (starEach [e] X.env)).all (fun x => !x.1) && (backToKw cpos (keywordEach [] X.env)).all (fun x => x.1.isSome)
    && decide (([e] : List Expr).length + ([] : List Keyword).length + (if ([] : List Keyword).isEmpty then 0 else 1) < 30)) = true
  line : (apos.endLine == cpos.line) = true
  trees : backTo cpos (starEach [e] X.env) = [(false, eval e X.env)]
structure M2 (X : Cx) (o : Expr) (m : Str) (apos : Pos) (e f : Expr) (cpos : Pos) : Prop where
  base : attributeBase o m X.env (eval o X.env) = eval o X.env
  few : ((backTo cpos (starEach [e, f] X.env)).all (fun x => !x.1) && (backToKw cpos (keywordEach [] X.env)).all (fun x => x.1.isSome)
    && decide (([e, f] : List Expr).length + ([] : List Keyword).length + (if ([] : List Keyword).isEmpty then 0 else 1) < 30)) = true
  line : (apos.endLine == cpos.line) = true
  trees : backTo cpos (starEach [e, f] X.env) = [(false, eval e X.env), (false, eval f X.env)]

/-- a is a dict, whatever its keys -/
def IsD (H : Hp) (a : Addr) : Prop := (∃ kvs, Rd H a (.dK kvs)) ∨ ∃ kvs, Rd H a (.dT kvs)
theorem isD_at {X : Cx} {pins : List (Addr × Obj)} {σ : St} {H : Hp} {s : Shared} {a : Addr} (I : Inv X pins σ H s) (d : IsD H a) :
    s.TypeIs (.ref a) "dict" ∧ (∀ b, Value.ref a = .ref b → ∃ ob, s.heap.get? b = some ob ∧ ob.dict = none) ∧ (a == sysModules) = false := by
  rcases d with ⟨kvs, e⟩ | ⟨kvs, e⟩
  · obtain ⟨_, hd, vs, _, dd⟩ := dk_rd I.hok e
    refine ⟨dd.typeIs, fun b q => ?_, hd⟩
    cases q
    obtain ⟨ob, _, _, h1, h2, _⟩ := dd
    exact ⟨ob, h1, h2.2.1⟩
  · obtain ⟨_, hd, xs, _, dd⟩ := dt_rd I.hok e
    refine ⟨dd.typeIs, fun b q => ?_, hd⟩
    cases q
    obtain ⟨ob, _, _, h1, h2, _⟩ := dd
    exact ⟨ob, h1, h2.2.1⟩

section
variable {X : Cx} {pins : List (Addr × Obj)} {σ : St} {H : Hp} {s : Shared} {a : Addr} {y d : V} {u r : Value} {o : Option V} {A : Around} {E : Value → Shared → Prop}
/-- d.get(y, x) -/
theorem d_get2 {Q : Value → Shared → Prop} (hu : A.units + 1 < cLine) (I : Inv X pins σ H s) (g : DGet H a y o) (ry : RelV y u) (rd : RelV d r) (h : ∀ w' s', Inv X pins σ H s' → RelV (o.getD d) w' → Q w' s') :
    wpAny (model X.prog X.w) A (call (.builtin "dict.get") [.ref a, u, r]) Q E s := by
  rcases g with ⟨kvs, k, e, ey, l⟩ | ⟨kvs, k, b, e, ey, eb, l⟩
  · subst ey
    obtain ⟨z, hd, vs, rel, dd⟩ := dk_rd I.hok e
    refine call_meetsIn PySem.F.slot_dict_get dd.typeIs PySem.F.entry_dict_get (PySem.F.args_dict_get_3 _ _ _) (meets_dict_get_default (mixKind X.prog X.w) a (kV_is ry) hd r) ⟨_, dd.mapOf, h _ _ (I.tok _) ?_⟩
    rw [l]
    exact (rel.val k).getD rd
  · subst ey
    cases (show u = Value.ref b from ry)
    obtain ⟨z, hd, xs, rel, dd⟩ := dt_rd I.hok e
    refine call_meetsIn PySem.F.slot_dict_get dd.typeIs PySem.F.entry_dict_get (PySem.F.args_dict_get_3 _ _ _) (meetsH_dict_get_default (tupleKind (mixKind X.prog X.w)) a b hd r) ⟨tupleKind_room_in1 hu, k, xs, key_of I.hok eb, dd, h _ _ (I.tok _) ?_⟩
    rw [l]
    exact (rel.val k).getD rd
end
def tDGet2 (td ty tx : TE) : TE := fun σ H Q => td σ H fun x H1 => ∃ a, x = .ref a ∧ IsD H1 a ∧ ty σ H1 fun y H2 => tx σ H2 fun z H3 => ∃ o, DGet H3 a y o ∧ Q (o.getD z) H3
section
variable {X : Cx} {o e f : Expr} {apos cpos : Pos} {td ty tx : TE}
theorem pe_dget2 (hu : X.A.units + 1 < cLine) (ho : PE X o td) (he : PE X e ty) (hf : PE X f tx) (m : M2 X o "get" apos e f cpos) : PE X (.Call (.Attribute o "get" apos) [e, f] [] cpos) (tDGet2 td ty tx) := by
  intro pins s σ H Q I h
  refine wpAny_Call_method m.base m.few m.line PySem.F.plainAttrs_dict PySem.F.slot_dict_get PySem.F.type_dict_get (thn (ho pins s σ H _ I h) fun u s1 ⟨x, H1, I1, rx, a, ex, d, q1⟩ => ?_)
  subst ex
  obtain rfl : u = Value.ref a := rx
  obtain ⟨t1, t2, _⟩ := isD_at I1 d
  refine ⟨t1, t2, ?_⟩
  rw [m.trees]
  refine Calls.callWith_builtin rfl (Calls.evalArgs_plain (Calls.spliced_cons (thn (he pins s1 σ H1 _ I1 q1) fun iv s2 ⟨y, H2, I2, ry, q2⟩ =>
    Calls.spliced_cons (thn (hf pins s2 σ H2 _ I2 q2) fun fv s3 ⟨z, H3, I3, rz, ov, g, q3⟩ => Calls.spliced_nil ?_))))
  exact d_get2 hu I3 g ry rz fun w' s4 I4 rw' => ⟨_, H3, I4, rw', q3⟩
end
section
variable {X : Cx} {pins : List (Addr × Obj)} {σ : St} {H : Hp} {s : Shared} {a : Addr} {kvs : List (Key × V)} {A : Around} {E : Value → Shared → Prop}
end
section
variable {X : Cx} {pins : List (Addr × Obj)} {σ : St} {H : Hp} {s : Shared} {a : Addr} {y : V} {u : Value} {A : Around} {E : Value → Shared → Prop}
end
end L2
namespace L2
open PySem PySem.Spec PyProof.Rows
section
variable {prog : Program} {w : World} {A : Around} {E : Value → Shared → Prop}
end
section
variable {X : Cx}
theorem refs_at : ∀ {ps : List Addr} {us : List Value}, Vals (ps.map V.ref) us → us = ps.map Value.ref
  | [], us, r => by
    rw [List.map_nil] at r
    cases r
    rfl
  | p :: ps, us, r => by
    rw [List.map_cons] at r
    cases r with
    | cons h t =>
      cases h
      rw [List.map_cons, ← refs_at t]
end
end L2
namespace L2
open PySem PySem.Spec PyProof.Rows
section
variable {X : Cx} {pins : List (Addr × Obj)} {σ : St} {H : Hp} {s : Shared} {h' : Heap}
/-- .. and one new object is laid -/
theorem Inv.turnedNew {t' : Nat} {ch : List Addr} {T : Addr} {ob : HO} (I : Inv X pins σ H s) (k : ∀ b o, b ∉ ch → s.heap.get? b = some o → h'.get? b = some o) (hf : ∀ b ∈ ch, FpOk X pins H b) (hT : s.heap.objs.size ≤ T)
    (new : ObjOk X.prog X.w (upd H T ob) h' T ob) : Inv X pins σ (upd H T ob) { s with heap := h', toks := t' } := by
  have hn : H T = none := I.hok.fresh hT
  have nit : ∀ b u, H b = some u → b ∉ ch := fun b u e z => by
    have q := (hf b z).1
    rw [q] at e; cases e
  refine I.step (g' := s.gens) (d' := s.drawn) (ch := ch) (fun b hb => ⟨(hf b hb).2.2.2.1, (hf b hb).2.1, (hf b hb).2.2.2.2.1, (hf b hb).2.2.2.2.2⟩) (fun b o _ _ hc e _ => k b o hc e) (fun b o _ _ hc e _ => ⟨o.slots, k b o hc e⟩)
    (fun b o _ e n => ?_) (fun b o hc e => ⟨o, k b o hc e⟩) (fun b xs e => ?_) (fun b o u e => ?_) (fun b ps e => ⟨#[], ?_⟩) (fun m hm => ?_) (fun b u e => ?_) I.bare
  · rw [upd_ne (Nat.ne_of_lt (Nat.lt_of_lt_of_le (Heap.lt_size e) hT))]; exact n
  · rw [upd_ne (ne_of_none e hn)]; exact e
  · rw [upd_ne (ne_of_none e hn)]; exact e
  · rw [upd_ne (ne_of_none e hn), e]; simp
  · obtain ⟨o, es, ep, ho, r⟩ := hm
    exact ⟨o, es, ep, k _ o (fun z => (hf _ z).2.1 rfl) ho, r⟩
  · by_cases hb : b = T
    · subst hb
      rw [upd_same] at e
      cases e
      exact new
    · rw [upd_ne hb] at e
      refine (I.hok b u e).stay (fun c v hc q => k c v ?_ q) (fun c q => by rw [upd_ne (ne_of_none q hn)]; exact q) fun c xs q => by rw [upd_ne (ne_of_none q hn)]; exact q
      rcases hc with z | z
      · rw [z]; exact nit b u e
      · exact nit c _ z

theorem Inv.lock {d : Addr} {u : HO} (I : Inv X pins σ H s) (h : H d = some u) (mu : Mut (some u)) : ∃ od, Inv X pins σ (upd H d (.frz od u)) s := by
  have x := I.hok d u h
  have ex : ∃ od, s.heap.get? d = some od := by
    cases u with
    | lst xs => obtain ⟨_, _, _, _, e⟩ := x; exact ⟨_, e⟩
    | dK kvs => obtain ⟨_, _, _, _, o, _, _, e, _⟩ := x; exact ⟨o, e⟩
    | dT kvs => obtain ⟨_, _, _, _, o, _, _, e, _⟩ := x; exact ⟨o, e⟩
    | set S n => obtain ⟨o, _, _, _, e, _⟩ := x; exact ⟨o, e⟩
    | ins C dx fs => obtain ⟨_, _, _, e, _⟩ := x; exact ⟨_, e⟩
    | ext φ => obtain ⟨_, ⟨_, e⟩, _⟩ := x; exact ⟨_, e⟩
    | _ => exact False.elim mu
  obtain ⟨od, e⟩ := ex
  have new : ObjOk X.prog X.w (upd H d (.frz od u)) s.heap d (.frz od u) := by
    refine ⟨e, x.stay (fun b v _ q => q) (fun b q => ?_) fun b xs q => ?_⟩
    · rw [upd_ne (fun z => by rw [z, h] at q; cases q; exact mu)]; exact q
    · rw [upd_ne (fun z => by rw [z, h] at q; cases q; exact mu)]; exact q
  exact ⟨od, I.write (x := d) (e := d) (t' := s.toks) (h' := s.heap) (by rw [h]; exact mu) (.inl rfl) (fun b v _ q => q) ⟨od, e⟩ new⟩
theorem Inv.nofrz {d : Addr} {u : HO} (I : Inv X pins σ H s) (h : H d = some u) (mu : Mut (some u)) : ∀ o' u', X.H_0 d ≠ some (.frz o' u') := fun o' u' e => by
  have q := I.base.frzs d o' u' e
  rw [h] at q
  cases q
  exact mu
theorem Inv.unlock {d : Addr} {od : Obj} {u : HO} (I : Inv X pins σ H s) (h : H d = some (.frz od u)) (hn : ∀ o' u', X.H_0 d ≠ some (.frz o' u')) : Inv X pins σ (upd H d u) s := by
  have neH : ∀ b o, H b = some o → (∀ o' u', o ≠ .frz o' u') → b ≠ d := fun b o e hne z => by
    rw [z, h] at e
    cases e
    exact hne _ _ rfl
  have neN : ∀ b, H b = none → b ≠ d := fun b e z => by rw [z, h] at e; cases e
  refine ⟨I.ok, I.os, I.bare, ⟨I.base.keep, I.base.slot, fun b o e n hx => ?_, I.base.there, fun b xs e => ?_, fun b o x e => ?_, fun b ps e => ?_⟩, I.loc, I.cell, ?_, fun x c e => ?_, fun p hp => ?_, fun b o e => ?_, I.len⟩
  · rw [upd_ne (neN b (I.base.free b o e n hx))]; exact I.base.free b o e n hx
  · have q := I.base.tups b xs e
    rw [upd_ne (neH b _ q (fun _ _ z => nomatch z))]; exact q
  · have q := I.base.frzs b o x e
    rw [upd_ne (fun z => by rw [z] at e; exact hn _ _ e)]; exact q
  · obtain ⟨m, q⟩ := I.base.tbls b ps e
    exact ⟨m, by rw [upd_ne (neH b _ q (fun _ _ z => nomatch z))]; exact q⟩
  · rw [upd_ne (neN _ I.free)]; exact I.free
  · rw [upd_ne (neN c (I.freeC x c e))]; exact I.freeC x c e
  · obtain ⟨e, n, r⟩ := I.pin p hp
    exact ⟨e, by rw [upd_ne (neN _ n)]; exact n, r⟩
  · by_cases hb : b = d
    · rw [hb, upd_same] at e
      cases e
      rw [hb]
      obtain ⟨_, x⟩ := I.hok d _ h
      exact x.stay (fun c v _ q => q) (fun c q => by rw [upd_ne (neH c _ q (fun _ _ z => nomatch z))]; exact q) fun c xs q => by rw [upd_ne (neH c _ q (fun _ _ z => nomatch z))]; exact q
    · rw [upd_ne hb] at e
      exact (I.hok b o e).stay (fun c v _ q => q) (fun c q => by rw [upd_ne (neH c _ q (fun _ _ z => nomatch z))]; exact q) fun c xs q => by rw [upd_ne (neH c _ q (fun _ _ z => nomatch z))]; exact q
end
/-- the statement runs while the thing at d is locked (read, not written); d and what stands there are the reading's choice -/
def tLock (t : TS) : TS := fun D σ H => ∃ d u, H d = some u ∧ Mut (some u) ∧ ∀ od, t ⟨fun σ' H' => H' d = some (.frz od u) ∧ D.nx σ' (upd H' d u), fun v H' => H' d = some (.frz od u) ∧ D.rt v (upd H' d u), fun σ' H' => H' d = some (.frz od u) ∧ D.bk σ' (upd H' d u), fun σ' H' => H' d = some (.frz od u) ∧ D.ct σ' (upd H' d u)⟩ σ (upd H d (.frz od u))
section
variable {X : Cx}
theorem ps_lock {st : Stmt} {t : TS} (h : PS X st t) : PS X st (tLock t) := by
  intro pins s σ H D I hw
  obtain ⟨d, u, hd, mu, hw⟩ := hw
  obtain ⟨od, I1⟩ := I.lock hd mu
  refine thn (h pins s σ _ _ I1 (hw od)) fun f s1 q => ?_
  cases f with
  | next => obtain ⟨σ', H', I2, e, q⟩ := q; exact ⟨σ', _, I2.unlock e (I.nofrz hd mu), q⟩
  | brk => obtain ⟨σ', H', I2, e, q⟩ := q; exact ⟨σ', _, I2.unlock e (I.nofrz hd mu), q⟩
  | cont => obtain ⟨σ', H', I2, e, q⟩ := q; exact ⟨σ', _, I2.unlock e (I.nofrz hd mu), q⟩
  | ret v => obtain ⟨x, σ', H', I2, r, e, q⟩ := q; exact ⟨x, σ', _, I2.unlock e (I.nofrz hd mu), r, q⟩
theorem pi_one {tg : Expr} {pins : List (Addr × Obj)} {σ : St} {H : Hp} {s : Shared} {R : It → Hp → Prop} {J : It} {tn : Nat → Heap → Prop} {tk : Nat} (I : Inv X pins σ H s) (o : Obj)
    (T : Turn X.prog X.w X.K tg J [s.heap.objs.size] s.heap.objs.size tn) (st : tn 0 (s.heap.push o)) (q : R J H) : PIE X pins σ tg R (.ref s.heap.objs.size) { s with heap := s.heap.push o, toks := tk } := by
  refine ⟨s.heap.objs.size, [s.heap.objs.size], tn, J, H, rfl, I.kept fun b ob e => Heap.get?_push_of_some _ e, T, st, fun b hb => ?_, q⟩
  have e : b = s.heap.objs.size := by simpa using hb
  subst e
  exact I.fpOk (Nat.le_refl _) (I.hok.fresh (Nat.le_refl _))
end
/-- lo, lo + c, .. (n of them) -/
def Itc (lo c : Int) (n : Nat) : It := ⟨fun i _ => i < n, fun i H x H' => H' = H ∧ x = .int (lo + (i : Nat) * c), fun i _ => n ≤ i⟩
theorem turn_rangeC {P : Program} {w : World} {K : PySem.W.Frag} {tg : Expr} (it : Addr) (lo c : Int) (n : Nat) : Turn P w K tg (Itc lo c n) [it] it (fun i h => IsRangeIter h it (lo + (i : Nat) * c) ((n : Int) - (i : Nat)) c) where
  mem := by simp
  obj := fun i h st b hb => by
    have e : b = it := by simpa using hb
    subst e
    exact ⟨_, st, fun v z => nomatch z⟩
  keep := fun i h h' st k => k it (by simp) _ st
  item := by
    intro X hP hw hK hc i pins s σ H E I hf st hg
    subst hP hw hK
    obtain ⟨f0, f1, f2, f3, f4, f5⟩ := hf it (by simp)
    have W := Walks.range (prog := X.prog) (w := X.w) (I.ok.hd hc) it lo c n
    refine W.item i s _ _ hg st fun v h' tk hv st' kk => ?_
    obtain ⟨t, rfl⟩ := hv
    have I1 : Inv X pins σ H { s with heap := h', toks := tk } := I.turned (fun b o hb e => kk b o (by simpa using hb) e) f0 f1 f3 f4 f5
    exact ⟨_, rfl, go_of (s := { s with heap := h', toks := tk }) (n := "range_iterator") st' rfl rfl (by decide) ⟨.int (lo + (i : Nat) * c), H, I1, ⟨t, rfl⟩, ⟨rfl, rfl⟩, st', fun b hb => (hf b hb).1⟩⟩
  done := by
    intro X hP hw hK hc i pins s σ H E I hf st hg
    subst hP hw hK
    obtain ⟨f0, f1, f2, f3, f4, f5⟩ := hf it (by simp)
    exact wpAny_pyNext_range_end (I.ok.hd hc) st (by have : n ≤ i := hg; omega) fun h' eb => ⟨rfl, I.turned (t' := s.toks) (fun b o hb e => eb b o hb e) f0 f1 f3 f4 f5⟩
  self := fun A i s Q E st h => wpAny_pyIter_rangeiter st h
/-- range(i, j, c): small bounds, n items -/
def RgC (i j c : Int) (n : Nat) : Prop := c ≠ 0 ∧ c.natAbs < 1073741824 ∧ Builtin.Range.small i j c = true ∧ Builtin.Range.rangeSize i j c = n
theorem RgC.neg {i j : Int} (ha : -(2 ^ 62) ≤ i) (ha' : i < 2 ^ 62) (hb : -(2 ^ 62) ≤ j) (hb' : j < 2 ^ 62) : RgC i j (-1) (i - j).toNat :=
  ⟨by decide, by decide, PySem.W.small_down ha ha' hb hb', PySem.W.rangeSize_downNat i j⟩
def iRng3 (ta : TA) : TI := fun σ H R => ta σ H fun vs H1 => ∃ (i j c : Int) (n : Nat), vs = [.int i, .int j, .int c] ∧ RgC i j c n ∧ R (Itc i c n) H1
section
variable {X : Cx} {tg : Expr}
theorem pi_range3 {a b c : Expr} {ta : TA} {p pos : Pos} (hg : Gl X "range") (hm : X.mg "range" = none) (ha : PA X [a, b, c] ta)
    (hs : starEach [a, b, c] X.env = (false, eval a X.env) :: starEach [b, c] X.env := by rfl) (hpl : (backTo pos (starEach [b, c] X.env)).any (·.1) = false := by rfl) :
    PI X tg (.Call (.Name "range" p) [a, b, c] [] pos) (iRng3 ta) := by
  intro pins s σ H R I h
  refine Call_ (ld_blt I hg hm boot_range (PyProof.Rows.callWith_type1 (thn (ha pos pins s σ H _ I h) fun us s1 ⟨vs, H1, I1, r1, q1⟩ => ?_) hs hpl))
  obtain ⟨i, j, k, n, e, ⟨c0, c1, c2, c3⟩, q⟩ := q1
  subst e
  cases r1 with
  | cons r rr =>
    cases rr with
    | cons r' rr =>
      cases rr with
      | cons r'' rr =>
        cases rr
        obtain ⟨t, rfl⟩ := r
        obtain ⟨t', rfl⟩ := r'
        obtain ⟨t'', rfl⟩ := r''
        refine call_range_3 c0 ?_ (.inl (PyProof.noPylong_small c1))
        refine wpAny_pyIter_range (IsRange.new ..) c2 ?_
        have I2 : Inv X pins σ H1 { s1 with heap := s1.heap.push { cls := .type "range", data := .fields #[.int i t, .int j t', .int k t''] } } := I1.kept (t' := s1.toks) fun b o e => Heap.get?_push_of_some _ e
        refine pi_one (tk := s1.toks) I2 _ (turn_rangeC _ i k n) ?_ q
        have e1 : i + ((0 : Nat) : Int) * k = i := by simp
        have e2 : (n : Int) - ((0 : Nat) : Int) = Builtin.Range.rangeSize i j k := by rw [c3]; simp
        show IsRangeIter _ _ (i + ((0 : Nat) : Int) * k) ((n : Int) - ((0 : Nat) : Int)) k
        rw [e1, e2]
        exact Heap.get?_push_size _ rfl
end
/-- the turns of a step range, for the for loop -/
theorem for_rangeC {lo c : Int} {n : Nat} {g : TG} {tb : TS} {D : Ends} {σ : St} {H : Hp} (Pv : Nat → St → Hp → Prop) (h0 : Pv 0 σ H)
    (hs : ∀ i σ H, i < n → Pv i σ H → g (.int (lo + (i : Nat) * c)) σ H fun σ2 H2 => tb { D with nx := Pv (i + 1), ct := Pv (i + 1), bk := D.nx } σ2 H2) (hd : ∀ σ H, Pv n σ H → D.nx σ H) :
    ∃ W : Nat → Nat → St → Hp → Prop, (∃ m, W 0 m σ H) ∧ ∀ i m σ H, W i m σ H →
      ((Itc lo c n).stop i H ∧ D.nx σ H) ∨ ((Itc lo c n).go i H ∧ ∃ N : St → Hp → Prop, (∀ σ' H', N σ' H' → ∃ m', m' < m ∧ W (i + 1) m' σ' H') ∧ ∀ x H', (Itc lo c n).yld i H x H' → g x σ H' fun σ2 H2 => tb { D with nx := N, ct := N, bk := D.nx } σ2 H2) := by
  refine ⟨fun i m σ H => m = n - i ∧ i ≤ n ∧ Pv i σ H, ⟨n, by simp, Nat.zero_le _, h0⟩, ?_⟩
  rintro i m σ H ⟨rfl, hi, p⟩
  by_cases hlt : i < n
  · refine .inr ⟨hlt, Pv (i + 1), fun σ' H' p' => ⟨n - (i + 1), by omega, rfl, hlt, p'⟩, fun x H' y => ?_⟩
    obtain ⟨e, y⟩ := y
    subst e y
    exact hs i σ _ hlt p
  · have e : i = n := by omega
    subst e
    exact .inl ⟨Nat.le_refl _, hd σ H p⟩

section
variable {X : Cx} {tg : Expr}
end
section
variable {prog : Program} {w : World} {A : Around} {E : Value → Shared → Prop} {s : Shared}
theorem iter_keys {d : Addr} {o : Obj} {es : Array DictEntry} {ep : Nat} {Q : Value → Shared → Prop} (hd : (d == sysModules) = false) (ho : s.heap.get? d = some o) (hc : o.ExactDict) (hdat : o.data = .dict es ep)
    (hQ : Q (.ref s.heap.objs.size) { s with heap := s.heap.push { cls := .type "dict_keyiterator", data := .fields #[.ref d, .int 0 0, .int es.size 0, .int ep 0] } }) :
    wpAny (model prog w) A (pyIter (.ref d)) Q E s := by
  have hT : s.TypeIs (.ref d) "dict" := ⟨o, ho, hc.1⟩
  refine wpAny_pyIter_slot hT F.slot_dict_iter (wpAny_call_entry F.slot_dict_iter hT F.entry_dict_iter ?_ (F.args_dict_iter_1 _))
  unfold Builtin.«dict.__iter__»
  refine wpAny_bind ?_
  unfold Builtin.Dict.dictSlotNone
  refine wpAny_bind (wpAny_notOrdered_dict hT ?_)
  show wpAny _ _ (pure (Value.ref d)) _ _ s
  refine wpAny_pure ?_
  show wpAny _ _ (Builtin.Dict.showsAll d >>= _) _ _ s
  unfold Builtin.Dict.showsAll
  rw [if_neg (by rw [hd]; exact Bool.false_ne_true)]
  refine wpAny_bind (wpAny_pure ?_)
  refine wpAny_bind (wpAny_dictEntries ho hdat ?_)
  refine wpAny_bind (wpAny_dictEpoch ho hdat ?_)
  refine wpAny_bind (wpAny_newObj_type (wpAny_pure ⟨_, rfl, "dict_keyiterator", _, ⟨_, Heap.get?_push_size _ rfl, rfl⟩, F.slot_dict_keyiterator_next.lookup, ?_⟩))
  simpa [rawInt] using hQ
theorem next_key_item {it d : Addr} {i n ep : Nat} {od : Obj} {es : Array DictEntry} {en : DictEntry} {Q : Option Value → Shared → Prop} (hit : s.heap.IsKeyIter it d i n ep) (hod : s.heap.get? d = some od) (hdd : od.data = .dict es ep)
    (hsz : es.size = n) (hx : es[i]? = some en) (hQ : ∀ h', h'.IsKeyIter it d (i + 1) n ep → Heap.SameBut it s.heap h' → Q (some en.key) { s with heap := h' }) : wpAny (model prog w) A (pyNext (.ref it)) Q E s := by
  obtain ⟨o, ho, hc, hd⟩ := id hit
  unfold pyNext
  refine wpAny_bind (wpAny_attempt (wpAny_callSpecial?_slot (name := Str.ofString "__next__") hit.typeIs F.slot_dict_keyiterator_next
    (wpAny_call_entry F.slot_dict_keyiterator_next hit.typeIs F.entry_dict_keyiterator_next ?_ (F.args_dict_keyiterator_next_1 _))))
  refine wpAny_bind (wpAny_pure ?_)
  refine wpAny_bind ?_
  refine wpAny_bind ?_
  first | refine wpAny_bind (wpAny_typeNameOfWhole_keyiter hit.typeIs (wpAny_pure ?_)) | refine wpAny_bind (wpAny_typeNameOf_keyiter hit.typeIs (wpAny_pure ?_))
  refine wpAny_bind (wpAny_fieldsOf ho hd ?_)
  have hown : Builtin.Dict_items.ownsTuple "dict_keyiterator" = false := by decide
  simp only [hown, Bool.false_eq_true, if_false]
  show wpAny _ _ (if (Value.ref d == Value.none) = true then _ else _) _ _ s
  rw [if_neg (show ¬ ((Value.ref d == Value.none) = true) from Bool.false_ne_true)]
  refine wpAny_bind (wpAny_pure ?_)
  refine wpAny_bind (wpAny_dictEntries hod hdd ?_)
  rw [if_neg (by rw [hsz]; simp)]
  refine wpAny_bind (wpAny_pure ?_)
  refine wpAny_bind (wpAny_dictEpoch hod hdd ?_)
  rw [if_neg (by simp)]
  refine wpAny_pure ?_
  obtain ⟨hlt', hen⟩ := Array.getElem?_eq_some_iff.mp hx
  simp only [show ¬ ((i : Int) < 0) from by omega, if_false, Int.toNat_natCast, Array.getElem?_eq_getElem hlt']
  refine wpAny_bind ?_
  first | refine wpAny_bind (wpAny_typeNameOfWhole_keyiter hit.typeIs (wpAny_pure ?_)) | refine wpAny_bind (wpAny_typeNameOf_keyiter hit.typeIs (wpAny_pure ?_))
  refine wpAny_bind (wpAny_isOneOf_keyiter hit.typeIs ?_)
  show wpAny _ _ (setField (.ref it) 1 (rawInt ((i : Int) + 1)) >>= _) _ _ s
  refine wpAny_bind (wpAny_setField ho hd (by simp) ?_)
  have hit' : (s.heap.update it (Obj.mapFields (·.setIfInBounds 1 (rawInt ((i : Int) + 1))))).IsKeyIter it d (i + 1) n ep :=
    ⟨_, Heap.get?_update_self _ ho (Obj.isFreed_of_fields (Obj.data_mapFields hd _)), (Obj.cls_mapFields ..).trans hc, by rw [Obj.data_mapFields hd]; simp [rawInt]⟩
  refine wpAny_bind (wpAny_holding ?_)
  refine wpAny_bind (wpAny_isOneOf_keyiter (s := { s with heap := s.heap.update it (Obj.mapFields (·.setIfInBounds 1 (rawInt ((i : Int) + 1)))) }) hit'.typeIs ?_)
  show wpAny _ _ (pure es[i].key) _ _ _
  rw [hen]
  exact wpAny_pure (wpAny_pure ⟨_, rfl, wpAny_pure (hQ _ hit' (Heap.SameBut.update ..))⟩)
theorem next_key_end {it d : Addr} {i n ep : Nat} {od : Obj} {es : Array DictEntry} {Q : Option Value → Shared → Prop} (hh : A.handled = none) (hit : s.heap.IsKeyIter it d i n ep) (hod : s.heap.get? d = some od) (hdd : od.data = .dict es ep)
    (hsz : es.size = n) (hge : n ≤ i) (hQ : ∀ h', Heap.ExtBut it s.heap h' → Q none { s with heap := h' }) : wpAny (model prog w) A (pyNext (.ref it)) Q E s := by
  obtain ⟨o, ho, hc, hd⟩ := id hit
  unfold pyNext
  refine wpAny_bind (wpAny_attempt (wpAny_callSpecial?_slot (name := Str.ofString "__next__") hit.typeIs F.slot_dict_keyiterator_next
    (wpAny_call_entry F.slot_dict_keyiterator_next hit.typeIs F.entry_dict_keyiterator_next ?_ (F.args_dict_keyiterator_next_1 _))))
  refine wpAny_bind (wpAny_pure ?_)
  refine wpAny_bind ?_
  refine wpAny_bind ?_
  first | refine wpAny_bind (wpAny_typeNameOfWhole_keyiter hit.typeIs (wpAny_pure ?_)) | refine wpAny_bind (wpAny_typeNameOf_keyiter hit.typeIs (wpAny_pure ?_))
  refine wpAny_bind (wpAny_fieldsOf ho hd ?_)
  have hown : Builtin.Dict_items.ownsTuple "dict_keyiterator" = false := by decide
  simp only [hown, Bool.false_eq_true, if_false]
  show wpAny _ _ (if (Value.ref d == Value.none) = true then _ else _) _ _ s
  rw [if_neg (show ¬ ((Value.ref d == Value.none) = true) from Bool.false_ne_true)]
  refine wpAny_bind (wpAny_pure ?_)
  refine wpAny_bind (wpAny_dictEntries hod hdd ?_)
  rw [if_neg (by rw [hsz]; simp)]
  refine wpAny_bind (wpAny_pure ?_)
  refine wpAny_bind (wpAny_dictEpoch hod hdd ?_)
  rw [if_neg (by simp)]
  refine wpAny_pure ?_
  have hge' : es.size ≤ i := by rw [hsz]; exact hge
  simp only [show ¬ ((i : Int) < 0) from by omega, if_false, Int.toNat_natCast, Array.getElem?_eq_none hge']
  refine wpAny_bind ?_
  first | refine wpAny_bind (wpAny_typeNameOfWhole_keyiter hit.typeIs (wpAny_pure ?_)) | refine wpAny_bind (wpAny_typeNameOf_keyiter hit.typeIs (wpAny_pure ?_))
  show wpAny _ _ (setField (.ref it) 0 .none >>= _) _ _ s
  refine wpAny_bind (wpAny_setField ho hd (by simp) ?_)
  show wpAny _ _ (newExc (.type "StopIteration") [] >>= _) _ _ _
  refine wpAny_bind ?_
  simp only [newExc, newTuple]
  refine wpAny_bind (wpAny_newObj_type ?_ (by size_fits))
  refine wpAny_bind (m := firstArgMember _ _) (wpAny_of_eq (a := Value.none) (by first | rfl | (simp only [firstArgMember]; rfl)) ?_)
  refine wpAny_newObj_type ?_ (by size_fits)
  simp only [raiseNew]
  refine wpAny_bind (wpAny_handled ?_)
  rw [show A.in1.handled = none from hh]
  refine wpAny_bind (wpAny_pure (wpAny_throw ?_))
  refine wpAny_bind (wpAny_isInstance (T := "StopIteration") (b := true) ⟨_, Heap.get?_push_size _ rfl, rfl⟩ isSubtype_stop ?_)
  exact wpAny_pure (hQ _ (((Heap.SameBut.update ..).extBut.push _).push _))
end
theorem kv_get {κ : Type} {kvs : List (κ × V)} {vs : List (κ × Value)} (h : KV kvs vs) : ∀ {i : Nat} {k : κ} {v : V}, kvs[i]? = some (k, v) → ∃ u, vs[i]? = some (k, u) ∧ RelV v u := by
  unfold KV at h
  induction h with
  | nil => intro i k v e; simp at e
  | @cons a b l₁ l₂ r t ih =>
    intro i k v e
    cases i with
    | zero =>
      simp only [List.getElem?_cons_zero, Option.some.injEq] at e
      subst e
      refine ⟨b.2, ?_, r.2⟩
      simp only [List.getElem?_cons_zero]
      exact congrArg some (Prod.ext r.1.symm rfl)
    | succ j =>
      simp only [List.getElem?_cons_succ] at e ⊢
      exact ih e
theorem paired_get {α β : Type} {G : α → β → Prop} {l₁ : List α} {l₂ : List β} (h : Paired G l₁ l₂) : ∀ {i : Nat} {a : α}, l₁[i]? = some a → ∃ b, l₂[i]? = some b ∧ G a b := by
  induction h with
  | nil => intro i a e; simp at e
  | @cons a b l₁ l₂ r t ih =>
    intro i a' e
    cases i with
    | zero =>
      simp only [List.getElem?_cons_zero, Option.some.injEq] at e
      subst e
      exact ⟨b, rfl, r⟩
    | succ j =>
      simp only [List.getElem?_cons_succ] at e ⊢
      exact ih e
theorem relV_key {k : Key} {u : Value} (h : keyIs k u = true) : RelV (kV k) u := by
  rcases keyIs_shape h with ⟨i, t, rfl, rfl⟩ | ⟨x, t, rfl, rfl⟩
  · exact ⟨t, rfl⟩
  · exact ⟨t, rfl⟩
section
variable {X : Cx} {pins : List (Addr × Obj)} {σ : St} {H : Hp} {s : Shared} {d : Addr} {o : Obj}
theorem Inv.frzK {kvs : List (Key × V)} (I : Inv X pins σ H s) (h : H d = some (.frz o (.dK kvs))) :
    (d == sysModules) = false ∧ s.heap.get? d = some o ∧ o.ExactDict ∧ ∃ (es : Array DictEntry) (ep : Nat) (vs : List (Key × Value)), o.data = .dict es ep ∧ es.size = kvs.length ∧ KV kvs vs ∧ s.heap.DictAt (mixKind X.prog X.w) d vs ep := by
  obtain ⟨hd, z, hs, vs, kv, o', es, ep, ho, hx, hdt, r⟩ := I.hok d _ h
  rw [hd] at ho
  cases ho
  refine ⟨hs, hd, hx, es, ep, vs, hdt, ?_, kv, o, es, hd, hx, hdt, r⟩
  have l1 := r.2.1.length
  have l2 : kvs.length = vs.length := Paired.length kv
  rw [Array.length_toList] at l1
  omega
end
/-- the keys of the locked dict at d, in their order -/
def Itk (d : Addr) (o : Obj) (kvs : List (Key × V)) : It :=
  ⟨fun i H => H d = some (.frz o (.dK kvs)) ∧ i < kvs.length, fun i H x H' => H' = H ∧ ∃ k v, kvs[i]? = some (k, v) ∧ x = kV k, fun i H => H d = some (.frz o (.dK kvs)) ∧ kvs.length ≤ i⟩
theorem dict_ep {o : Obj} {es es' : Array DictEntry} {ep ep' : Nat} (h : o.data = .dict es ep) (h' : o.data = .dict es' ep') : es' = es ∧ ep' = ep := by
  rw [h] at h'
  cases h'
  exact ⟨rfl, rfl⟩
section
variable {P : Program} {w : World} {K : PySem.W.Frag} {tg : Expr} {d : Addr} {o : Obj} {es : Array DictEntry} {ep : Nat}
theorem turn_keys {kvs : List (Key × V)} (it : Addr) (hod : o.data = .dict es ep) : Turn P w K tg (Itk d o kvs) [it] it (fun i h => h.IsKeyIter it d i kvs.length ep) where
  mem := by simp
  obj := fun i h st b hb => by
    have e : b = it := by simpa using hb
    subst e
    obtain ⟨oi, e, c, dd⟩ := st
    exact ⟨oi, e, fun v z => by rw [dd] at z; cases z⟩
  keep := fun i h h' st k => st.at fun oi e => k it (by simp) oi e
  item := by
    intro X hP hw hK hc i pins s σ H E I hf st hg
    subst hP hw hK
    obtain ⟨hd, hi⟩ := hg
    obtain ⟨f0, f1, f2, f3, f4, f5⟩ := hf it (by simp)
    obtain ⟨hs, hgd, hx, es', ep', vs, hdt, hsz, kv, hm⟩ := I.frzK hd
    obtain ⟨rfl, rfl⟩ := dict_ep hod hdt
    obtain ⟨⟨k, v⟩, hkv⟩ : ∃ p, kvs[i]? = some p := ⟨kvs[i], List.getElem?_eq_getElem hi⟩
    obtain ⟨u, hu, ru⟩ := kv_get kv hkv
    have hl : kvs.length = vs.length := Paired.length kv
    rw [hl] at st
    refine wpAny_pyNext_dict_item st hm hu fun key h' hkey st' sb => ?_
    have I1 : Inv X pins σ H { s with heap := h' } := I.turned (t' := s.toks) (fun b ob hb e => (sb.2 b hb).trans e) f0 f1 f3 f4 f5
    obtain ⟨oi, e, c, dd⟩ := id st'
    refine ⟨key, rfl, go_of (s := { s with heap := h' }) e c dd (by decide) ⟨kV k, H, I1, relV_key (show keyIs k key = true from hkey), ⟨rfl, k, v, hkv, rfl⟩, ?_, fun b hb => (hf b hb).1⟩⟩
    show h'.IsKeyIter it d (i + 1) kvs.length _
    rw [hl]
    exact st'
  done := by
    intro X hP hw hK hc i pins s σ H E I hf st hg
    subst hP hw hK
    obtain ⟨hd, hi⟩ := hg
    obtain ⟨f0, f1, f2, f3, f4, f5⟩ := hf it (by simp)
    obtain ⟨hs, hgd, hx, es', ep', vs, hdt, hsz, kv, hm⟩ := I.frzK hd
    obtain ⟨rfl, rfl⟩ := dict_ep hod hdt
    exact next_key_end (I.ok.hd hc) st hgd hdt hsz hi fun h' eb => ⟨rfl, I.turned (t' := s.toks) (fun b ob hb e => eb b ob hb e) f0 f1 f3 f4 f5⟩
  self := fun A i s Q E st h => wpAny_pyIter_keyiter st h
end
section
variable {X : Cx} {tg e : Expr} {td : TE} {apos cpos : Pos}
end
end L2
section 
namespace Bits
open PySem PyProof.Rows
end Bits
end 
section 
namespace TL
open PySem PySem.Builtin PySem.Builtin.Str PySem.StrLaws
abbrev tl (x : Str) : List Nat := x.cps.toList
/-- S stands at the head of l -/
def pre (S l : List Nat) : Bool := l.take S.length == S
/-- what stands before the first S, and behind it -/
def par (S : List Nat) : List Nat → List Nat → Option (List Nat × List Nat)
  | _, [] => none
  | acc, c :: r => if pre S (c :: r) = true then some (acc, (c :: r).drop S.length) else par S (acc ++ [c]) r

end TL
end 
namespace L2
open PySem PySem.Spec PyProof.Rows
section
variable {X : Cx} {pins : List (Addr × Obj)} {σ : St} {H : Hp} {s : Shared} {Q : VK}
end
section
variable {X : Cx}
end
section
variable {X : Cx} {o e : Expr} {to te : TE}
end
end L2
namespace L2
open PySem PySem.Spec PyProof.Rows
section
variable {X : Cx}
end
theorem IsPart.raw {v : Value} {o : Option Int} (p : IsPart v o) : ∃ l : Option (Int × Tok), v = partValue l ∧ l.map (·.1) = o := by
  cases p with
  | none => exact ⟨none, rfl, rfl⟩
  | int i t => exact ⟨some (i, t), rfl, rfl⟩

end L2
namespace Att
open PySem PySem.W PySem.Calls PyProof.Rows
section
variable {prog : Program} {w : World} {A : Around} {E : Value → Shared → Prop} {s : Shared} {K : Frag}
end
end Att
namespace L2
open PySem PySem.Spec PyProof.Rows
end L2
namespace L2
open PySem PySem.Spec PyProof.Rows
end L2
namespace L2
open PySem PySem.Spec PyProof.Rows
/-- the j-th statement of a class's body -/
def inClass (s : Stmt) (j : Nat) : Stmt := match s with
  | .ClassDef _ _ _ body _ _ _ _ _ _ _ => body.getD j (.Pass ⟨0, 0, 0, 0⟩)
  | _ => .Pass ⟨0, 0, 0, 0⟩
def defArgs (s : Stmt) : Arguments := match s with
  | .FunctionDef _ a _ _ _ _ _ _ _ _ => a
  | _ => { posonlyargs := [], args := [], vararg := none, kwonlyargs := [], kw_defaults := [], kwarg := none, defaults := [] }
def defBody (s : Stmt) : List Stmt := match s with
  | .FunctionDef _ _ b _ _ _ _ _ _ _ => b
  | _ => []
def defScope (s : Stmt) : Scope := match s with
  | .FunctionDef _ _ _ _ _ _ sc _ _ _ => sc
  | _ => { kind := .function, names := [], isGenerator := false, isCoroutine := false }

abbrev CX0 : CXT := fun _ _ _ _ _ _ => False
abbrev E0 : XK := fun _ _ _ => False
theorem pass0 {X : Cx} : Passes CX0 X E0 := fun _ _ _ _ _ _ _ h => h.elim

structure Fun (K : PySem.W.Frag) (x qual : Str) (st : Stmt) (f : Addr) (fd : FuncData) : Prop where
  ex : ∃ (oc : Value) (od : Option Addr) (kV doc pm : Value) (an : Option Addr) (cdv ct : Value) (osl : Array (Option Value)),
    fd = PySem.W.fnOf x qual (defArgs st) (defBody st) (defScope st) .none kV doc pm an cdv ct ∧ K.lookup f = some ⟨oc, od, .func fd, osl⟩ ∧ PySem.W.codeIn K cdv qual = true
  kp : PySem.W.keepIn K (.ref f) = true
section
variable {P : Program} {w : World} {K : PySem.W.Frag} {mg : Str → Option Value} {base : Heap}
/-- THE RULE for a def: its body as a term of rules, and the reading of that term -/
theorem Fun.ok {x qual : Str} {st : Stmt} {f : Addr} {fd : FuncData} {N ps : List Str} {k : Nat} {sp : Sp} (F : Fun K x qual st f fd) (S : FnScope N ps (defScope st)) (len : ∀ vs H Q E, sp vs H Q E → vs.length = ps.length)
    (hbody : ∀ (cdv : Value) (A : Around) (outer : List Env) (s : Shared) (H : Hp) (vs : List V) (Q : VK) (E : XK), Room k (A.deeper (envOfC qual (defScope st) s.heap.objs.size f cdv)) → sp vs H Q E →
      ∃ t, PSs (cxOf CX0 P w K mg base N qual (defScope st) f cdv A outer s H E).nox (defBody st) t ∧ t { nx := fun _ H' => Q .non H', rt := Q } (start N vs) H) : FnOk P w K mg base CX0 (k + 1) f fd ps sp := by
  obtain ⟨oc, od, kV, doc, pm, an, cdv, ct, osl, rfl, lk, hcd⟩ := F.ex
  refine fn_of lk hcd S len fun A outer s H vs Q E hr hsp => ?_
  obtain ⟨t, h, q⟩ := hbody cdv A outer s H vs Q E hr hsp
  exact ⟨t, h.nox, q⟩
/-- how its arguments bind (no defaults): h is «fun _ _ _ _ _ _ us hl => match us, hl with | [_, _], _ => rfl», one _ a parameter -/
theorem Fun.binds {x qual : Str} {st : Stmt} {f : Addr} {fd : FuncData} {ps : List Str} (F : Fun K x qual st f fd)
    (h : ∀ (kV doc pm : Value) (an : Option Addr) (cdv ct : Value) (us : List Value), us.length = ps.length → bindArgs (PySem.W.fnOf x qual (defArgs st) (defBody st) (defScope st) .none kV doc pm an cdv ct) ⟨us, []⟩ = pure (ps.zip us)) : Binds K fd ps [] := by
  obtain ⟨oc, od, kV, doc, pm, an, cdv, ct, osl, rfl, lk, hcd⟩ := F.ex
  exact .all (h kV doc pm an cdv ct)
theorem fun_mk {x qual : Str} {st : Stmt} {f : Addr} {oc : Value} {od an : Option Addr} {osl : Array (Option Value)} {kV doc pm cdv ct : Value} (l : K.lookup f = some ⟨oc, od, .func (PySem.W.fnOf x qual (defArgs st) (defBody st) (defScope st) .none kV doc pm an cdv ct), osl⟩)
    (c : PySem.W.codeIn K cdv qual = true) (k : PySem.W.keepIn K (.ref f) = true) : Fun K x qual st f (PySem.W.fnOf x qual (defArgs st) (defBody st) (defScope st) .none kV doc pm an cdv ct) := ⟨⟨oc, od, kV, doc, pm, an, cdv, ct, osl, rfl, l, c⟩, k⟩
end
theorem hu_of {A : Around} {k : Nat} (hr : Room k A) : A.units + 1 < cLine := Nat.lt_of_le_of_lt (Nat.add_le_add_left (by decide : 1 ≤ 64) _) hr.units
section
variable {X : Cx}
theorem pv (i : Nat) {x : Str} {pos : Pos} (hN : X.N[i]? = some x := by rfl) (hv : Vis X.env.scope x := by first | exact Or.inl rfl | exact Or.inr (Or.inl rfl) | exact Or.inr (Or.inr rfl)) (hd : (x == ("__debug__" : Str)) = false := by decide)
    (hcd : (x == ("__classdict__" : Str)) = false := by decide) : PE X (.Name x pos) (tVar i) := pe_var hN hv hd hcd
end
theorem iteF {A B : Prop} (h : B) : if false = true then A else B := by
  rw [if_neg Bool.false_ne_true]
  exact h
theorem iteT {A B : Prop} (h : A) : if true = true then A else B := by
  rw [if_pos rfl]
  exact h
theorem ite2 {c A B : Prop} [Decidable c] (h1 : c → A) (h2 : ¬ c → B) : if c then A else B := by
  by_cases h : c
  · rw [if_pos h]
    exact h1 h
  · rw [if_neg h]
    exact h2 h
/-- all that was tracked is as it was -/
def Same (H H' : Hp) : Prop := ∀ b o, H b = some o → H' b = some o
theorem Same.refl (H : Hp) : Same H H := fun _ _ h => h
theorem Same.trans {H H1 H2 : Hp} (a : Same H H1) (b : Same H1 H2) : Same H H2 := fun c o h => b c o (a c o h)
theorem Same.free {H H' : Hp} (e : Same H H') {l : Addr} (h : H' l = Option.none) : H l = Option.none := by
  cases q : H l with
  | none => rfl
  | some o =>
    rw [e l o q] at h
    cases h
theorem Same.seq {K : PySem.W.Frag} {H H' : Hp} {a : Addr} {xs : List V} (e : Same H H') (h : SqL K H a xs) : SqL K H' a xs := by
  rcases h with (h | ⟨o, h⟩) | h
  · exact .inl (.inl (e _ _ h))
  · exact .inl (.inr ⟨o, e _ _ h⟩)
  · exact .inr h

section
variable {κ : Type} [DecidableEq κ]
theorem valV_in {kvs : List (κ × V)} {k : κ} {v : V} (h : valV kvs k = some v) : k ∈ kvs.map (·.1) := by
  have q : (kvs.any fun kv => decide (kv.1 = k)) = true := by
    rw [valV_any, h]
    all_goals rfl
  obtain ⟨p, hp, e⟩ := List.any_eq_true.mp q
  exact List.mem_map.mpr ⟨p, hp, of_decide_eq_true e⟩
end
/-- a new instance and its __init__ leave all that was tracked as it was -/
theorem Same.made {H H1 : Hp} {x dx C : Addr} (nx : H x = Option.none) (nd : H dx = Option.none) (k : ∀ b o, (upd (upd H dx (.own x)) x (.ins C dx [])) b = some o → b ≠ x → H1 b = some o) : Same H H1 := fun b o e =>
  k b o (by rw [upd_ne (ne_of_none e nx), upd_ne (ne_of_none e nd)]; exact e) (ne_of_none e nx)
end L2
section
set_option Elab.async false
set_option linter.all false
set_option maxRecDepth 100000
set_option maxHeartbeats 2000000
namespace L2
open PySem PySem.Spec PyProof.Rows
open PySem.W (WData Codec OpenSpec Well WellAll ReadsW ReadsAllW)
mutual
/-- x stands for the datum d, lists and tuples all the way -/
inductive Dw (K : PySem.W.Frag) (H : Hp) : V → WData → Prop
  | non : Dw K H .non .none
  | bl (b : Bool) : Dw K H (.bl b) (.bool b)
  | int (i : Int) : Dw K H (.int i) (.int i)
  | str (x : Str) : Dw K H (.str x) (.str x)
  | byt (b : Array UInt8) : Dw K H (.byt b) (.bytes b.toList)
  | lst {a : Addr} {xs : List V} {ds : List WData} : SqL K H a xs → DwAll K H xs ds → Dw K H (.ref a) (.list ds)
  | tup {a : Addr} {xs : List V} {ds : List WData} : SqT K H a xs → DwAll K H xs ds → Dw K H (.ref a) (.tuple ds)
inductive DwAll (K : PySem.W.Frag) (H : Hp) : List V → List WData → Prop
  | nil : DwAll K H [] []
  | cons {v : V} {vs : List V} {d : WData} {ds : List WData} : Dw K H v d → DwAll K H vs ds → DwAll K H (v :: vs) (d :: ds)
end
theorem dw_ints {K : PySem.W.Frag} {H : Hp} : ∀ ns : List Int, DwAll K H (ns.map V.int) (ns.map WData.int)
  | [] => .nil
  | n :: r => .cons (.int n) (dw_ints r)
theorem ints_dw {K : PySem.W.Frag} {H : Hp} : ∀ (ns : List Int) (xs : List V), DwAll K H xs (ns.map WData.int) → xs = ns.map V.int
  | [], xs, h => by
    cases h
    rfl
  | n :: r, xs, h => by
    cases h with
    | cons h1 h2 =>
      cases h1
      rw [ints_dw r _ h2] <;> rfl
section
variable {P : Program} {w : World} {K : PySem.W.Frag} {H : Hp} {h : Heap} {R : PySem.W.WRecords} {cl : Str → Option Addr}
theorem sqL_at {a : Addr} {xs : List V} (hok : HOk P w H h) (KX : K.In h) (q : SqL K H a xs) : ∃ (its : List Value) (o : Obj) (n : Nat), Vals xs its ∧ h.get? a = some o ∧ o.cls = .type "list" ∧ o.data = .seq its.toArray n := by
  rcases q with q | ⟨o, its, n, e, hc, _, hd, _, hv⟩
  · obtain ⟨_, its, n, hv, e⟩ := (show ObjOk P w H h a (.lst xs) from q.ok hok)
    exact ⟨its, _, n, hv, e, rfl, rfl⟩
  · exact ⟨its.toList, o, n, hv, KX _ _ e, hc, by simp [hd]⟩
theorem sqT_at {a : Addr} {xs : List V} (hok : HOk P w H h) (KX : K.In h) (q : SqT K H a xs) : ∃ (its : List Value) (o : Obj) (n : Nat), Vals xs its ∧ h.get? a = some o ∧ o.cls = .type "tuple" ∧ o.data = .seq its.toArray n := by
  rcases q with q | ⟨o, its, n, e, hc, hd, _, hv⟩
  · obtain ⟨_, its, hv, o, e, hc, n, hd⟩ := (show ObjOk P w H h a (.tup xs) from q.ok hok)
    exact ⟨its, o, n, hv, e, hc, hd⟩
  · exact ⟨its.toList, o, n, hv, KX _ _ e, hc, by simp [hd]⟩
mutual
theorem Dw.reads (hok : HOk P w H h) (KX : K.In h) : ∀ (d : WData) (v : V) (u : Value), Dw K H v d → RelV v u → ∃ as, ReadsW R cl h u d as
  | .none, _, _, x, r => by
    cases x
    cases r
    exact ⟨_, ReadsW.none⟩
  | .bool b, _, _, x, r => by
    cases x
    cases r
    exact ⟨_, ReadsW.bool b⟩
  | .int i, _, _, x, r => by
    cases x
    obtain ⟨t, rfl⟩ := r
    exact ⟨_, ReadsW.int i t⟩
  | .str s, _, _, x, r => by
    cases x
    obtain ⟨t, rfl⟩ := r
    exact ⟨_, ReadsW.str s t⟩
  | .bytes b, _, _, x, r => by
    cases x
    obtain ⟨t, rfl⟩ := r
    exact ⟨_, ReadsW.bytes _ t⟩
  | .list ds, _, _, x, r => by
    cases x with
    | lst hs ha =>
      cases r
      obtain ⟨its, o, n, rv, ho, hc, hd⟩ := sqL_at hok KX hs
      obtain ⟨as, hr⟩ := Dw.readsAll hok KX ds _ its ha rv
      exact ⟨_, ReadsW.list ho hc hd hr⟩
  | .tuple ds, _, _, x, r => by
    cases x with
    | tup hs ha =>
      cases r
      obtain ⟨its, o, n, rv, ho, hc, hd⟩ := sqT_at hok KX hs
      obtain ⟨as, hr⟩ := Dw.readsAll hok KX ds _ its ha rv
      exact ⟨_, ReadsW.tuple ho hc hd hr⟩
  | .float _, _, _, x, _ => by cases x
  | .dict _, _, _, x, _ => by cases x
  | .bytearray _, _, _, x, _ => by cases x
  | .set _, _, _, x, _ => by cases x
  | .frozenset _, _, _, x, _ => by cases x
  | .obj _ _, _, _, x, _ => by cases x
theorem Dw.readsAll (hok : HOk P w H h) (KX : K.In h) : ∀ (ds : List WData) (vs : List V) (us : List Value), DwAll K H vs ds → Vals vs us → ∃ as, ReadsAllW R cl h us ds as
  | [], _, _, x, r => by
    cases x
    cases r
    exact ⟨_, ReadsAllW.nil⟩
  | d :: ds, _, _, x, r => by
    cases x with
    | cons h1 h2 =>
      cases r with
      | cons r1 r2 =>
        obtain ⟨as, q1⟩ := Dw.reads hok KX d _ _ h1 r1
        obtain ⟨bs, q2⟩ := Dw.readsAll hok KX ds _ _ h2 r2
        exact ⟨_, ReadsAllW.cons q1 q2⟩
end
end
mutual
/-- data that a codec tells -/
def plW : WData → Bool
  | .none => true
  | .bool _ => true
  | .int _ => true
  | .str _ => true
  | .bytes _ => true
  | .list xs => plWs xs
  | .tuple xs => plWs xs
  | _ => false
def plWs : List WData → Bool
  | [] => true
  | x :: r => plW x && plWs r
end
theorem plWs_map {α : Type} {f : α → WData} (h : ∀ a, plW (f a) = true) : ∀ l : List α, plWs (l.map f) = true
  | [] => rfl
  | x :: r => by
    show (plW (f x) && plWs (r.map f)) = true
    rw [h x, plWs_map h r] <;> rfl
theorem pl_enc : ∀ (c : Codec) (a : c.denote), plW (c.enc a) = true
  | .unit, _ => rfl
  | .bool, _ => rfl
  | .int _ _, _ => rfl
  | .nat _ _, _ => rfl
  | .u8, _ => rfl
  | .bytes _ _, _ => rfl
  | .text _ _ _ _, _ => rfl
  | .list _ _ c, a => plWs_map (fun x => pl_enc c x) a
  | .pair c d, a => by
    show (plW (c.enc a.1) && (plW (d.enc a.2) && true)) = true
    rw [pl_enc c a.1, pl_enc d a.2] <;> rfl
  | .triple c d e, a => by
    show (plW (c.enc a.1) && (plW (d.enc a.2.1) && (plW (e.enc a.2.2) && true))) = true
    rw [pl_enc c a.1, pl_enc d a.2.1, pl_enc e a.2.2] <;> rfl
  | .option c, none => rfl
  | .option c, some x => pl_enc c x
theorem pl_encAll : ∀ (cs : List Codec) (a : Codec.denoteAll cs), plWs (Codec.encAll cs a) = true
  | [], _ => rfl
  | c :: cs, a => by
    show (plW (c.enc a.1) && plWs (Codec.encAll cs a.2)) = true
    rw [pl_enc c a.1, pl_encAll cs a.2] <;> rfl
theorem weight_mem : ∀ {xs : List WData} {d : WData}, d ∈ xs → d.weight ≤ WData.weightAll xs
  | [], d, h => absurd h (by simp)
  | x :: r, d, h => by
    show d.weight ≤ x.weight + 1 + WData.weightAll r
    rcases List.mem_cons.mp h with e | m
    · rw [e]
      omega
    · have z := weight_mem m
      omega
def toV : Value → V
  | .none => .non
  | .bool b => .bl b
  | .int i _ => .int i
  | .str x _ => .str x
  | .bytes b _ => .byt b
  | .ref a => .ref a
  | _ => .non
/-- a value of the arguments, its objects among A -/
def OkU (A : List Addr) : Value → Prop
  | .none => True
  | .bool _ => True
  | .int _ _ => True
  | .str _ _ => True
  | .bytes _ _ => True
  | .ref a => a ∈ A
  | _ => False
theorem OkU.mono {A B : List Addr} (h : ∀ a ∈ A, a ∈ B) : ∀ {u : Value}, OkU A u → OkU B u := fun {u} x => by
  cases u with
  | ref a => exact h a x
  | none => trivial
  | bool b => trivial
  | int i t => trivial
  | str s t => trivial
  | bytes b t => trivial
  | _ => exact False.elim x
theorem relV_toV {A : List Addr} {u : Value} (x : OkU A u) : RelV (toV u) u := by
  cases u with
  | ref a => rfl
  | none => rfl
  | bool b => rfl
  | int i t => exact ⟨t, rfl⟩
  | str s t => exact ⟨t, rfl⟩
  | bytes b t => exact ⟨t, rfl⟩
  | _ => exact False.elim x
theorem vals_toV {A : List Addr} : ∀ {vs : List Value}, (∀ u ∈ vs, OkU A u) → Vals (vs.map toV) vs
  | [], _ => .nil
  | u :: r, h => .cons (relV_toV (h u (List.mem_cons_self ..))) (vals_toV fun x hx => h x (List.mem_cons_of_mem _ hx))
/-- an object of the arguments -/
def ArgOb (h : Heap) (A : List Addr) (a : Addr) : Prop := ∃ vs : List Value, vs.length ≤ sizeLine ∧ (∀ u ∈ vs, OkU A u) ∧
  (h.get? a = some { cls := .type "list", data := .seq vs.toArray } ∨ h.get? a = some { cls := .type "tuple", data := .seq vs.toArray })
theorem ArgOb.mono {h : Heap} {A B : List Addr} {a : Addr} (k : ∀ a ∈ A, a ∈ B) (x : ArgOb h A a) : ArgOb h B a := by
  obtain ⟨vs, h1, h2, h3⟩ := x
  exact ⟨vs, h1, fun u hu => (h2 u hu).mono k, h3⟩
theorem wellAll_len {P : Params} {h : Heap} : ∀ {vs : List Value} {ds : List WData}, WellAll P h vs ds → vs.length = ds.length
  | _, _, .nil => rfl
  | _, _, .cons _ b => by
    show _ + 1 = _ + 1
    rw [wellAll_len b]
theorem well_list {P : Params} {h : Heap} {v : Value} {ds : List WData} (x : Well P h v (.list ds)) : ∃ (a : Addr) (vs : List Value), v = .ref a ∧ h.get? a = some { cls := .type "list", data := .seq vs.toArray } ∧ WellAll P h vs ds := by
  cases x with
  | list ho hall => exact ⟨_, _, rfl, ho, hall⟩
theorem well_tuple {P : Params} {h : Heap} {v : Value} {ds : List WData} (x : Well P h v (.tuple ds)) : ∃ (a : Addr) (vs : List Value), v = .ref a ∧ h.get? a = some { cls := .type "tuple", data := .seq vs.toArray } ∧ WellAll P h vs ds := by
  cases x with
  | tuple ho hall => exact ⟨_, _, rfl, ho, hall⟩
theorem well_cons {P : Params} {h : Heap} {us : List Value} {d : WData} {ds : List WData} (x : WellAll P h us (d :: ds)) : ∃ (v : Value) (vs : List Value), us = v :: vs ∧ Well P h v d ∧ WellAll P h vs ds := by
  cases x with
  | cons a b => exact ⟨_, _, rfl, a, b⟩
theorem line_of {n : Nat} (h : n ≤ 1048576) : n ≤ sizeLine := Nat.le_trans h (by decide)
section
variable {P : Params} {h : Heap}
mutual
theorem area_one : ∀ (d : WData) (v : Value), Well P h v d → plW d = true → d.weight ≤ 1048576 → ∃ A : List Addr, OkU A v ∧ ∀ a ∈ A, ArgOb h A a
  | .none, _, x, _, _ => by
    cases x
    exact ⟨[], trivial, fun a m => absurd m (by simp)⟩
  | .bool b, _, x, _, _ => by
    cases x
    exact ⟨[], trivial, fun a m => absurd m (by simp)⟩
  | .int i, _, x, _, _ => by
    cases x
    exact ⟨[], trivial, fun a m => absurd m (by simp)⟩
  | .str s, _, x, _, _ => by
    cases x
    exact ⟨[], trivial, fun a m => absurd m (by simp)⟩
  | .bytes b, _, x, _, _ => by
    cases x
    exact ⟨[], trivial, fun a m => absurd m (by simp)⟩
  | .list ds, _, x, p, z => by
    obtain ⟨a, vs, rfl, ho, hall⟩ := well_list x
    have z2 : WData.weightAll ds ≤ 1048576 := z
    obtain ⟨A, h1, h2⟩ := area_all ds _ hall p fun d hd => Nat.le_trans (weight_mem hd) z2
    have k : ∀ b ∈ A, b ∈ a :: A := fun b hb => List.mem_cons_of_mem _ hb
    refine ⟨a :: A, List.mem_cons_self .., fun b hb => ?_⟩
    rcases List.mem_cons.mp hb with e | m
    · rw [e]
      exact ⟨vs, line_of (by rw [wellAll_len hall]; exact Nat.le_trans (PySem.W.length_le_weightAllW ds) z2), fun u hu => (h1 u hu).mono k, .inl ho⟩
    · exact (h2 b m).mono k
  | .tuple ds, _, x, p, z => by
    obtain ⟨a, vs, rfl, ho, hall⟩ := well_tuple x
    have z2 : WData.weightAll ds ≤ 1048576 := z
    obtain ⟨A, h1, h2⟩ := area_all ds _ hall p fun d hd => Nat.le_trans (weight_mem hd) z2
    have k : ∀ b ∈ A, b ∈ a :: A := fun b hb => List.mem_cons_of_mem _ hb
    refine ⟨a :: A, List.mem_cons_self .., fun b hb => ?_⟩
    rcases List.mem_cons.mp hb with e | m
    · rw [e]
      exact ⟨vs, line_of (by rw [wellAll_len hall]; exact Nat.le_trans (PySem.W.length_le_weightAllW ds) z2), fun u hu => (h1 u hu).mono k, .inr ho⟩
    · exact (h2 b m).mono k
  | .float _, _, _, p, _ => Bool.noConfusion (show false = true from p)
  | .dict _, _, _, p, _ => Bool.noConfusion (show false = true from p)
  | .bytearray _, _, _, p, _ => Bool.noConfusion (show false = true from p)
  | .set _, _, _, p, _ => Bool.noConfusion (show false = true from p)
  | .frozenset _, _, _, p, _ => Bool.noConfusion (show false = true from p)
  | .obj _ _, _, _, p, _ => Bool.noConfusion (show false = true from p)
theorem area_all : ∀ (ds : List WData) (vs : List Value), WellAll P h vs ds → plWs ds = true → (∀ d ∈ ds, d.weight ≤ 1048576) → ∃ A : List Addr, (∀ u ∈ vs, OkU A u) ∧ ∀ a ∈ A, ArgOb h A a
  | [], _, x, _, _ => by
    cases x
    exact ⟨[], fun u m => absurd m (by simp), fun a m => absurd m (by simp)⟩
  | d :: ds, _, x, p, z => by
    obtain ⟨v, vs, rfl, x1, x2⟩ := well_cons x
    have q : plW d = true ∧ plWs ds = true := Bool.and_eq_true_iff.mp p
    obtain ⟨A, a1, a2⟩ := area_one d v x1 q.1 (z d (List.mem_cons_self ..))
    obtain ⟨B, b1, b2⟩ := area_all ds vs x2 q.2 fun e he => z e (List.mem_cons_of_mem _ he)
    have kA : ∀ b ∈ A, b ∈ A ++ B := fun b hb => List.mem_append.mpr (.inl hb)
    have kB : ∀ b ∈ B, b ∈ A ++ B := fun b hb => List.mem_append.mpr (.inr hb)
    refine ⟨A ++ B, fun u hu => ?_, fun b hb => ?_⟩
    · rcases List.mem_cons.mp hu with e | m
      · rw [e]
        exact a1.mono kA
      · exact (b1 u m).mono kB
    · rcases List.mem_append.mp hb with m | m
      · exact (a2 b m).mono kA
      · exact (b2 b m).mono kB
end
end
/-- what is tracked of an argument's object -/
def hoOf (o : Obj) : Option HO := match o.data with
  | .seq vs _ => if (o.cls == Value.type "list") = true then some (.frz o (.lst (vs.toList.map toV))) else some (.frz o (.tup (vs.toList.map toV)))
  | _ => none
def argH (K : PySem.W.Frag) (h : Heap) (A : List Addr) : Hp := fun b => if b ∈ A then (if (K.lookup b).isNone = true then (h.get? b).bind hoOf else none) else none
/-- nothing is tracked but what is known to the object -/
def OnlyF (H : Hp) : Prop := ∀ b, H b = none ∨ ∃ o u, H b = some (.frz o u)
theorem hoOf_lst (vs : List Value) : hoOf { cls := .type "list", data := .seq vs.toArray } = some (.frz { cls := .type "list", data := .seq vs.toArray } (.lst (vs.map toV))) := by
  show (if (Value.type "list" == Value.type "list") = true then some (HO.frz { cls := .type "list", data := .seq vs.toArray } (.lst (vs.toArray.toList.map toV))) else some (HO.frz { cls := .type "list", data := .seq vs.toArray } (.tup (vs.toArray.toList.map toV)))) = _
  rw [if_pos (beq_self_eq_true _)]
theorem hoOf_tup (vs : List Value) : hoOf { cls := .type "tuple", data := .seq vs.toArray } = some (.frz { cls := .type "tuple", data := .seq vs.toArray } (.tup (vs.map toV))) := by
  show (if (Value.type "tuple" == Value.type "list") = true then some (HO.frz { cls := .type "tuple", data := .seq vs.toArray } (.lst (vs.toArray.toList.map toV))) else some (HO.frz { cls := .type "tuple", data := .seq vs.toArray } (.tup (vs.toArray.toList.map toV)))) = _
  rw [if_neg (by decide)]
section
variable {P : Program} {w : World} {K : PySem.W.Frag} {h : Heap} {A : List Addr}
theorem argH_at {b : Addr} {o : Obj} (hb : b ∈ A) (hk : K.lookup b = none) (e : h.get? b = some o) : argH K h A b = hoOf o := by
  unfold argH
  rw [if_pos hb, hk, if_pos (show (none : Option Obj).isNone = true from rfl), e] <;> rfl
theorem of_argH {b : Addr} {u : HO} (q : argH K h A b = some u) : b ∈ A ∧ K.lookup b = none := by
  unfold argH at q
  by_cases hb : b ∈ A
  · rw [if_pos hb] at q
    cases hk : K.lookup b with
    | none => exact ⟨hb, rfl⟩
    | some o =>
      rw [hk, if_neg (by simp)] at q
      cases q
  · rw [if_neg hb] at q
    cases q
/-- what stands tracked -/
theorem argH_is (ar : ∀ a ∈ A, ArgOb h A a) {b : Addr} {u : HO} (q : argH K h A b = some u) : K.lookup b = none ∧ ∃ vs : List Value, vs.length ≤ sizeLine ∧ (∀ u ∈ vs, OkU A u) ∧
    ((h.get? b = some { cls := .type "list", data := .seq vs.toArray } ∧ u = .frz { cls := .type "list", data := .seq vs.toArray } (.lst (vs.map toV))) ∨
     (h.get? b = some { cls := .type "tuple", data := .seq vs.toArray } ∧ u = .frz { cls := .type "tuple", data := .seq vs.toArray } (.tup (vs.map toV)))) := by
  obtain ⟨hb, hk⟩ := of_argH q
  obtain ⟨vs, h1, h2, h3⟩ := ar b hb
  refine ⟨hk, vs, h1, h2, ?_⟩
  rcases h3 with e | e
  · rw [argH_at hb hk e, hoOf_lst] at q
    exact .inl ⟨e, (Option.some.inj q).symm⟩
  · rw [argH_at hb hk e, hoOf_tup] at q
    exact .inr ⟨e, (Option.some.inj q).symm⟩
theorem argH_only (ar : ∀ a ∈ A, ArgOb h A a) : OnlyF (argH K h A) := fun b => by
  cases q : argH K h A b with
  | none => exact .inl rfl
  | some u =>
    obtain ⟨_, vs, _, _, ⟨_, e⟩ | ⟨_, e⟩⟩ := argH_is ar q
    · exact .inr ⟨_, _, by rw [e]⟩
    · exact .inr ⟨_, _, by rw [e]⟩
theorem argH_ok (ar : ∀ a ∈ A, ArgOb h A a) : HOk P w (argH K h A) h := fun b u q => by
  obtain ⟨_, vs, h1, h2, ⟨e, rfl⟩ | ⟨e, rfl⟩⟩ := argH_is ar q
  · exact ⟨e, by rw [List.length_map]; exact h1, vs, _, vals_toV h2, e⟩
  · exact ⟨e, by rw [List.length_map]; exact h1, vs, vals_toV h2, _, e, rfl, _, rfl⟩
theorem seq_inj {c c' : Value} {vs us : List Value} (e : (some { cls := c, data := .seq vs.toArray } : Option Obj) = some { cls := c', data := .seq us.toArray }) : c = c' ∧ vs = us := by
  have e1 := Option.some.inj e
  have e2 : c = c' := congrArg Obj.cls e1
  have e3 : Data.seq vs.toArray = Data.seq us.toArray := congrArg Obj.data e1
  injection e3 with e4
  refine ⟨e2, ?_⟩
  have e5 := congrArg Array.toList e4
  simpa using e5
/-- a list argument -/
theorem argL (KX : K.In h) (ar : ∀ a ∈ A, ArgOb h A a) {a : Addr} {vs : List Value} (ha : a ∈ A) (e : h.get? a = some { cls := .type "list", data := .seq vs.toArray }) : (∀ u ∈ vs, OkU A u) ∧ SqL K (argH K h A) a (vs.map toV) := by
  obtain ⟨us, h1, h2, h3⟩ := ar a ha
  have hu : us = vs := by
    rcases h3 with q | q
    · rw [e] at q
      exact (seq_inj q).2.symm
    · rw [e] at q
      exact absurd (Value.type.inj (seq_inj q).1) (by decide)
  subst hu
  refine ⟨h2, ?_⟩
  cases hk : K.lookup a with
  | none => exact .inl (.inr ⟨_, by rw [argH_at ha hk e, hoOf_lst]⟩)
  | some o =>
    have e2 := KX a o hk
    rw [e] at e2
    obtain rfl := Option.some.inj e2
    exact .inr ⟨_, us.toArray, _, hk, rfl, rfl, rfl, by rw [List.size_toArray]; exact h1, by simpa using vals_toV h2⟩
theorem argT (KX : K.In h) (ar : ∀ a ∈ A, ArgOb h A a) {a : Addr} {vs : List Value} (ha : a ∈ A) (e : h.get? a = some { cls := .type "tuple", data := .seq vs.toArray }) : (∀ u ∈ vs, OkU A u) ∧ SqT K (argH K h A) a (vs.map toV) := by
  obtain ⟨us, h1, h2, h3⟩ := ar a ha
  have hu : us = vs := by
    rcases h3 with q | q
    · rw [e] at q
      exact absurd (Value.type.inj (seq_inj q).1) (by decide)
    · rw [e] at q
      exact (seq_inj q).2.symm
  subst hu
  refine ⟨h2, ?_⟩
  cases hk : K.lookup a with
  | none => exact .inl (.inr ⟨_, by rw [argH_at ha hk e, hoOf_tup]⟩)
  | some o =>
    have e2 := KX a o hk
    rw [e] at e2
    obtain rfl := Option.some.inj e2
    exact .inr ⟨_, us.toArray, _, hk, rfl, rfl, by rw [List.size_toArray]; exact h1, by simpa using vals_toV h2⟩
mutual
theorem dw_one {Pm : Params} (KX : K.In h) (ar : ∀ a ∈ A, ArgOb h A a) : ∀ (d : WData) (v : Value), Well Pm h v d → plW d = true → OkU A v → Dw K (argH K h A) (toV v) d
  | .none, _, x, _, _ => by
    cases x
    exact .non
  | .bool b, _, x, _, _ => by
    cases x
    exact .bl b
  | .int i, _, x, _, _ => by
    cases x
    exact .int i
  | .str s, _, x, _, _ => by
    cases x
    exact .str s
  | .bytes b, _, x, _, _ => by
    cases x
    have z := Dw.byt (K := K) (H := argH K h A) b.toArray
    exact z
  | .list ds, _, x, p, hu => by
    obtain ⟨a, vs, rfl, ho, hall⟩ := well_list x
    obtain ⟨h2, hs⟩ := argL KX ar hu ho
    exact .lst hs (dw_all KX ar ds _ hall p h2)
  | .tuple ds, _, x, p, hu => by
    obtain ⟨a, vs, rfl, ho, hall⟩ := well_tuple x
    obtain ⟨h2, hs⟩ := argT KX ar hu ho
    exact .tup hs (dw_all KX ar ds _ hall p h2)
  | .float _, _, _, p, _ => Bool.noConfusion (show false = true from p)
  | .dict _, _, _, p, _ => Bool.noConfusion (show false = true from p)
  | .bytearray _, _, _, p, _ => Bool.noConfusion (show false = true from p)
  | .set _, _, _, p, _ => Bool.noConfusion (show false = true from p)
  | .frozenset _, _, _, p, _ => Bool.noConfusion (show false = true from p)
  | .obj _ _, _, _, p, _ => Bool.noConfusion (show false = true from p)
theorem dw_all {Pm : Params} (KX : K.In h) (ar : ∀ a ∈ A, ArgOb h A a) : ∀ (ds : List WData) (vs : List Value), WellAll Pm h vs ds → plWs ds = true → (∀ u ∈ vs, OkU A u) → DwAll K (argH K h A) (vs.map toV) ds
  | [], _, x, _, _ => by
    cases x
    exact .nil
  | d :: ds, _, x, p, hu => by
    obtain ⟨v, vs, rfl, x1, x2⟩ := well_cons x
    have q : plW d = true ∧ plWs ds = true := Bool.and_eq_true_iff.mp p
    exact .cons (dw_one KX ar d v x1 q.1 (hu _ (List.mem_cons_self ..))) (dw_all KX ar ds vs x2 q.2 fun u m => hu u (List.mem_cons_of_mem _ m))
end
end
theorem spec_call {P : Program} {w : World} {K : PySem.W.Frag} {mg mb : Str → Option Value} {CX : CXT} {k : Nat} {fa : Addr} {fd : FuncData} {ps : List Str} {sp : Sp} {s₁ : Shared} {vals : List Value} {ds : List WData} {R : PySem.W.WRecords} {cl : Str → Option Addr} {d0 : WData}
    (KX : K.In s₁.heap) (hns : s₁.heap.Ns mainGlobals mg) (hb : s₁.heap.Ns builtinsNs mb) (hbb : ∀ x : Str, x ≠ "__name__" → mb x = bootBuiltins x) (hlim : s₁.heap.NoLimit) (hg : s₁.gens = #[])
    (hwl : WellAll w.params s₁.heap vals ds) (hpl : plWs ds = true) (hwt : ∀ d ∈ ds, d.weight ≤ 1048576) (hr : Room k callerA)
    (F : ∀ base : Heap, K.In base → base.Ns mainGlobals mg → FnOk P w K mg base CX k fa fd ps sp) (hbind : ∀ (s : Shared) (us : List Value), us.length = ps.length → BindsTo s fd ⟨us, []⟩ (ps.zip us)) (hlen : ds.length = ps.length)
    (hsp : ∀ (H : Hp) (xs : List V), OnlyF H → DwAll K H xs ds → sp xs H (fun v H' => Dw K H' v d0) fun _ _ _ => False)
    (hCX : ∀ H e s', CX [] H s₁ (fun _ _ _ => False) e s' → False) :
    codeAny (model P w) callerA (.call (.ref fa) ⟨vals, []⟩) (fun r s' => ∃ u as, r = .ok (.ret u) ∧ ReadsW R cl s'.heap u d0 as ∧ OldK s₁.heap s'.heap ∧ s'.os = s₁.os ∧ AllBare s'.gens) s₁ := by
  obtain ⟨A, ho, ar⟩ := area_all ds vals hwl hpl hwt
  have hO : OnlyF (argH K s₁.heap A) := argH_only ar
  have hok : HOk P w (argH K s₁.heap A) s₁.heap := argH_ok ar
  have hS := dw_all KX ar ds vals hwl hpl ho
  have hV := vals_toV ho
  have hK : ∀ b u, argH K s₁.heap A b = some u → K.lookup b = none := fun b u q => (argH_is ar q).1
  have noA : ∀ {b : Addr} {o : Obj} {es : Array DictEntry} {ep : Nat}, s₁.heap.get? b = some o → o.data = .dict es ep → argH K s₁.heap A b = none := fun {b o es ep} e d => by
    cases q : argH K s₁.heap A b with
    | none => rfl
    | some u =>
      obtain ⟨_, vs, _, _, ⟨e2, _⟩ | ⟨e2, _⟩⟩ := argH_is ar q
      · rw [e2] at e
        cases e
        have d' : Data.seq vs.toArray _ = Data.dict es ep := d
        cases d'
      · rw [e2] at e
        cases e
        have d' : Data.seq vs.toArray _ = Data.dict es ep := d
        cases d'
  generalize argH K s₁.heap A = H at hO hok hS hK noA
  have base_of : ∀ {b : Addr} {o : Obj}, s₁.heap.get? b = some o → H b = none → (hidT s₁.heap H).get? b = some o := fun e n => hidT_get e n
  have nsK : ∀ {b : Addr} {m : Str → Option Value}, s₁.heap.Ns b m → (hidT s₁.heap H).Ns b m := fun {b m} ⟨o, es, ep, e, d, r⟩ => ⟨o, es, ep, base_of e (noA e d), d, r⟩
  have nK : ∀ b o, K.lookup b = some o → H b = none := fun b o e => by
    cases q : H b with
    | none => rfl
    | some u =>
      rw [hK b u q] at e
      cases e
  have hKb : K.In (hidT s₁.heap H) := fun b o e => base_of (KX b o e) (nK b o e)
  have hM : Mod K mg (hidT s₁.heap H) := ⟨hKb, nsK hns, ⟨mb, nsK hb, hbb⟩, let ⟨mc, h1, h2⟩ := hlim; ⟨mc, nsK h1, h2⟩⟩
  have e0 : Env0 P w K mg (hidT s₁.heap H) callerA [] s₁ H := ⟨rfl, hM, fun b o e => of_hidT e, Nat.le_of_eq (hidT_size _ _), trivial, fun b hb => absurd (show b ∈ ([] : List Addr) from hb) (by simp), hok, .of_eq hg⟩
  have hl : vals.length = ps.length := by rw [wellAll_len hwl]; exact hlen
  refine codeAny_mono ((F _ hKb (nsK hns)).run callerA [] s₁ H ⟨vals, []⟩ vals (vals.map toV) _ _ hr e0 (hbind s₁ vals hl) hV (hsp H _ hO hS)) fun r s' x => ?_
  cases r with
  | error e => exact (hCX H e s' x).elim
  | ok fl =>
    cases fl with
    | next => exact False.elim x
    | brk => exact False.elim x
    | cont => exact False.elim x
    | ret u =>
      obtain ⟨v, H', os, bare, un, hok', r', q⟩ := x
      have kept : ∀ b o, s₁.heap.get? b = some o → s'.heap.get? b = some o := fun b o e => by
        cases q2 : H b with
        | none => exact un.keep b o e q2 (by intro z; exact absurd (show b ∈ ([] : List Addr) from z) (by simp)) (by simp)
        | some u2 =>
          rcases hO b with z | ⟨ob, u3, z⟩
          · rw [q2] at z
            cases z
          · have z2 := un.frzs b ob _ z
            obtain ⟨e1, _⟩ := hok b _ z
            obtain ⟨e2, _⟩ := hok' b _ z2
            rw [e] at e1
            cases e1
            exact e2
      have KX' : K.In s'.heap := fun b o e => kept b o (KX b o e)
      obtain ⟨as, hrd⟩ := Dw.reads (R := R) (cl := cl) hok' KX' d0 v u q r'
      exact ⟨u, as, rfl, hrd, OldK.of_keep kept, os, bare⟩
theorem layable_weight {ds : List WData} (h : WData.layableAll ds = true) : ∀ d ∈ ds, d.weight ≤ 1048576 := fun d hd =>
  (PySem.W.layableW_iff.mp (List.all_eq_true.mp h d hd)).2.2
theorem encAll_len : ∀ (cs : List Codec) (a : Codec.denoteAll cs), (Codec.encAll cs a).length = cs.length
  | [], _ => rfl
  | c :: cs, a => by
    show (Codec.encAll cs a.2).length + 1 = cs.length + 1
    rw [encAll_len cs a.2]
/-- the goal that k_headS leaves (case hc), from the promise of the row's def: whatever the arguments that the codecs let and the row asks for, the def gives what stands for enc (f ..) -/
theorem walk_spec {r : OpenSpec} {k : Nat} {q : Program} {loose : List Str} {XP : (Str → Option Value) → Heap → Prop} {YP : World → Heap → Prop} {d : DefRec} {K : Params → PySem.W.Frag} {CX : World → CXT} {ps : List Str} {sp : World → Sp}
    (hwell : r.wellSaid = true) (hdf : d.params.defaults = []) (hlen : r.args.length = ps.length) (hr : Room k callerA)
    (hY : ∀ (w : World) (h : Heap), YP w h → (K w.params).In h)
    (F : ∀ (w : World) (mg : Str → Option Value) (fa : Addr) (h : Heap), YP w h → (K w.params).In h → h.Ns mainGlobals mg → mg d.name = some (.ref fa) →
      ∃ fd : FuncData, (∀ (s : Shared) (us : List Value), us.length = ps.length → BindsTo s fd ⟨us, []⟩ (ps.zip us)) ∧
        ∀ base : Heap, (K w.params).In base → base.Ns mainGlobals mg → FnOk r.prog w (K w.params) mg base (CX w) k fa fd ps (sp w))
    (hsp : ∀ (w : World) (H : Hp) (xs : List V) (a : Codec.denoteAll r.args), OnlyF H → Codec.withinAll r.args a = true → Codec.app r.args r.asked a = true → DwAll (K w.params) H xs (Codec.encAll r.args a) →
      sp w xs H (fun v H' => Dw (K w.params) H' v (r.ret.enc (Codec.app r.args r.f a))) fun _ _ _ => False)
    (hCX : ∀ (w : World) (H : Hp) (s : Shared) (e : Value) (s' : Shared), CX w [] H s (fun _ _ _ => False) e s' → False) :
    PySem.W.WalkOS q loose XP YP r d [] (fun f vs => PySem.call f vs) := by
  intro w s_0 s₁ mg mb G Y fa o pm cd doc dV kV ho hd hcd hD hmg hg args vals as hpre hlay hrd hwl hlo
  obtain ⟨a, e1, e2⟩ := PySem.W.os_pre_some hpre
  obtain ⟨e3, hwi⟩ := Codec.encAll_of_decAll r.args args a e1
  subst e3
  have KX := hY w _ Y
  obtain ⟨fd, hb, hF⟩ := F w mg fa _ Y KX G.T.g hmg
  refine PySem.W.enter_call (codeAny_mono (spec_call (R := []) (cl := classAt s_0.heap) (d0 := r.ret.enc (Codec.app r.args r.f a)) KX G.T.g G.T.b G.T.builtins G.T.nolimit hg hwl (pl_encAll _ _) (layable_weight hlay) hr hF hb (by rw [encAll_len]; exact hlen)
    (fun H xs hO hS => hsp w H xs a hO hwi e2 hS) fun H e s' => hCX w H s₁ e s') fun r' s' hq => ?_)
  obtain ⟨u, as', rfl, h1, h2, h3, h4⟩ := hq
  exact ⟨.inl ⟨u, _, as', rfl, fun _ => rfl, h1, (OpenSpec.post_iff hwell hwi _ _).mpr rfl, fun z => Bool.noConfusion (show false = true from z)⟩, h2, h3, h4⟩
/-- the same where the promise hangs on the written part alone -/
theorem walk_specK {r : OpenSpec} {k : Nat} {q : Program} {loose : List Str} {XP : (Str → Option Value) → Heap → Prop} {YP : World → Heap → Prop} {d : DefRec} {K : Params → PySem.W.Frag} {CX : CXT} {ps : List Str} {sp : PySem.W.Frag → Sp}
    (hwell : r.wellSaid = true) (hdf : d.params.defaults = []) (hlen : r.args.length = ps.length) (hr : Room k callerA)
    (hY : ∀ (w : World) (h : Heap), YP w h → (K w.params).In h)
    (F : ∀ (w : World) (mg : Str → Option Value) (fa : Addr) (h : Heap), YP w h → (K w.params).In h → h.Ns mainGlobals mg → mg d.name = some (.ref fa) →
      ∃ fd : FuncData, (∀ (s : Shared) (us : List Value), us.length = ps.length → BindsTo s fd ⟨us, []⟩ (ps.zip us)) ∧
        ∀ base : Heap, (K w.params).In base → base.Ns mainGlobals mg → FnOk r.prog w (K w.params) mg base CX k fa fd ps (sp (K w.params)))
    (hsp : ∀ (K : PySem.W.Frag) (H : Hp) (xs : List V) (a : Codec.denoteAll r.args), OnlyF H → Codec.withinAll r.args a = true → Codec.app r.args r.asked a = true → DwAll K H xs (Codec.encAll r.args a) →
      sp K xs H (fun v H' => Dw K H' v (r.ret.enc (Codec.app r.args r.f a))) fun _ _ _ => False)
    (hCX : ∀ (H : Hp) (s : Shared) (e : Value) (s' : Shared), CX [] H s (fun _ _ _ => False) e s' → False) :
    PySem.W.WalkOS q loose XP YP r d [] (fun f vs => PySem.call f vs) :=
  walk_spec (K := K) (CX := fun _ => CX) (sp := fun w => sp (K w.params)) hwell hdf hlen hr hY F (fun w H xs a h1 h2 h3 h4 => hsp (K w.params) H xs a h1 h2 h3 h4) fun _ H s e s' => hCX H s e s'
end L2
end
end
section
set_option linter.all false
namespace Wb
open Uw81
/-! ### rising order -/
abbrev Srt (l : List Nat) : Prop := l.Pairwise (· ≤ ·)
theorem put_perm (x : Nat) : ∀ l, (put x l).Perm (x :: l)
  | [] => List.Perm.refl _
  | y :: l => by
    unfold put
    split
    · exact List.Perm.refl _
    · exact ((put_perm x l).cons y).trans (List.Perm.swap x y l)
theorem mem_put {x y : Nat} {l : List Nat} : y ∈ put x l ↔ y = x ∨ y ∈ l := by
  rw [(put_perm x l).mem_iff, List.mem_cons]
theorem put_srt (x : Nat) : ∀ {l}, Srt l → Srt (put x l)
  | [], _ => by unfold put; simp
  | y :: l, h => by
    unfold put
    have h := List.pairwise_cons.mp h
    split
    · rename_i hxy
      refine List.pairwise_cons.mpr ⟨fun z hz => ?_, List.pairwise_cons.mpr h⟩
      rcases List.mem_cons.mp hz with rfl | hz
      · exact hxy
      · exact Nat.le_trans hxy (h.1 z hz)
    · rename_i hxy
      refine List.pairwise_cons.mpr ⟨fun z hz => ?_, put_srt x h.2⟩
      rcases mem_put.mp hz with rfl | hz
      · omega
      · exact h.1 z hz
theorem put_length (x : Nat) (l : List Nat) : (put x l).length = l.length + 1 := (put_perm x l).length_eq
theorem rising_perm : ∀ l, (rising l).Perm l
  | [] => List.Perm.refl _
  | x :: l => by
    show (put x (rising l)).Perm (x :: l)
    exact (put_perm x _).trans ((rising_perm l).cons x)
theorem rising_srt : ∀ l, Srt (rising l)
  | [] => List.Pairwise.nil
  | x :: l => put_srt x (rising_srt l)
theorem rising_length (l : List Nat) : (rising l).length = l.length := (rising_perm l).length_eq
theorem srt_eq {l k : List Nat} (hl : Srt l) (hk : Srt k) (h : l.Perm k) : l = k :=
  h.eq_of_pairwise (fun a b _ _ h1 h2 => Nat.le_antisymm h1 h2) hl hk
theorem rising_of {l k : List Nat} (h : l.Perm k) : rising l = rising k :=
  srt_eq (rising_srt l) (rising_srt k) ((rising_perm l).trans (h.trans (rising_perm k).symm))
theorem put_eq {x : Nat} {l k : List Nat} (hl : Srt l) (h : k.Perm (x :: l)) : rising k = put x l :=
  srt_eq (rising_srt k) (put_srt x hl) ((rising_perm k).trans (h.trans (put_perm x l).symm))
/-- numbers as Python's -/
abbrev zs (l : List Nat) : List Int := l.map fun (n : Nat) => (n : Int)
theorem zs_ints (l : List Nat) : Uw81.ints l = zs l := rfl
theorem zs_of_perm {ns : List Int} {l : List Nat} (h : ns.Perm (zs l)) : ∃ k : List Nat, ns = zs k ∧ k.Perm l := by
  refine ⟨ns.map Int.toNat, ?_, ?_⟩
  · unfold zs
    rw [List.map_map]
    refine (List.map_id ns).symm.trans (List.map_congr_left fun x hx => ?_)
    obtain ⟨n, _, rfl⟩ := List.mem_map.mp (h.mem_iff.mp hx)
    rfl
  · have := h.map Int.toNat
    unfold zs at this
    rw [List.map_map] at this
    refine this.trans (List.Perm.of_eq ?_)
    refine (List.map_congr_left fun x _ => ?_).trans (List.map_id l)
    rfl
theorem zs_srt {l : List Nat} : (zs l).Pairwise (· ≤ ·) ↔ Srt l := by
  unfold zs
  rw [List.pairwise_map]
  refine ⟨fun h => h.imp fun q => by omega, fun h => h.imp fun q => by omega⟩
theorem zs_inj {l k : List Nat} (h : zs l = zs k) : l = k := by
  refine (List.map_inj_right (f := fun n : Nat => (n : Int)) ?_).mp h
  intro a b e
  exact Int.ofNat.inj e
/-- what sorted gives back of numbers -/
theorem sorted_is {ns : List Int} {l : List Nat} (h : ns.Perm (zs l)) (hs : ns.Pairwise (· ≤ ·)) : ns = zs (rising l) := by
  obtain ⟨k, rfl, hk⟩ := zs_of_perm h
  rw [srt_eq (zs_srt.mp hs) (rising_srt l) (hk.trans (rising_perm l).symm)]
/-! ### a step -/
theorem erase2 {l : List Nat} {i j : Nat} (hij : i < j) (hj : j < l.length) :
    (l.eraseIdx j).eraseIdx i = l.take i ++ ((l.drop (i + 1)).take (j - (i + 1)) ++ l.drop (j + 1)) := by
  rw [List.eraseIdx_eq_take_drop_succ, List.eraseIdx_eq_take_drop_succ]
  rw [List.take_append_of_le_length (by rw [List.length_take]; omega), List.take_take, Nat.min_eq_left (by omega)]
  rw [List.drop_append_of_le_length (by rw [List.length_take]; omega), List.drop_take]
theorem wiped_eq {rule : Nat} {l : List Nat} {i j : Nat} (hl : Srt l) (hij : i < j) (hj : j < l.length) :
    rising (l.take i ++ (l.drop (i + 1)).take (j - (i + 1)) ++ l.drop (j + 1) ++ [written rule (l.getD i 0) (l.getD j 0)]) = wiped rule l (i, j) := by
  unfold wiped
  refine put_eq ((hl.eraseIdx _).eraseIdx _) ?_
  rw [erase2 hij hj, List.append_assoc (List.take i l)]
  exact (List.perm_append_comm).trans (List.Perm.refl _)
theorem wiped_srt {rule : Nat} {l : List Nat} {s : Nat × Nat} (hl : Srt l) : Srt (wiped rule l s) := put_srt _ ((hl.eraseIdx _).eraseIdx _)
theorem wiped_length {rule : Nat} {l : List Nat} {i j : Nat} (hij : i < j) (hj : j < l.length) : (wiped rule l (i, j)).length = l.length - 1 := by
  unfold wiped
  rw [put_length, List.length_eraseIdx_of_lt, List.length_eraseIdx_of_lt hj]
  · omega
  · rw [List.length_eraseIdx_of_lt hj]; show i < _; omega
/-! ### the steps in their order -/
theorem mem_steps {n : Nat} {s : Nat × Nat} : s ∈ steps n ↔ s.1 < s.2 ∧ s.2 < n := by
  unfold steps
  simp only [List.mem_flatMap, List.mem_range, List.mem_filterMap]
  constructor
  · rintro ⟨i, hi, j, hj, h⟩
    split at h
    · cases h; exact ⟨by assumption, hj⟩
    · cases h
  · rintro ⟨h1, h2⟩
    exact ⟨s.1, by omega, s.2, h2, by rw [if_pos h1]⟩
/-- one row of the steps -/
def stepRow (n i : Nat) : List (Nat × Nat) := (List.range (n - (i + 1))).map fun k => (i, i + 1 + k)
theorem filterMap_lt (i : Nat) : ∀ n, ((List.range n).filterMap fun j => if i < j then some (i, j) else none) = stepRow n i
  | 0 => by simp [stepRow]
  | n + 1 => by
    rw [List.range_succ, List.filterMap_append, filterMap_lt i n]
    unfold stepRow
    by_cases h : i < n
    · rw [show n + 1 - (i + 1) = (n - (i + 1)) + 1 by omega, List.range_succ, List.map_append]
      simp only [List.filterMap_cons, if_pos h, List.filterMap_nil, List.map_cons, List.map_nil]
      rw [show i + 1 + (n - (i + 1)) = n by omega]
    · rw [show n + 1 - (i + 1) = 0 by omega, show n - (i + 1) = 0 by omega]
      simp [h]
theorem steps_rows (n : Nat) : steps n = (List.range n).flatMap (stepRow n) := by
  unfold steps
  refine congrArg (fun f => List.flatMap f (List.range n)) ?_
  funext i
  exact filterMap_lt i n
end Wb

end
section
set_option linter.all false
namespace Wb
open Uw81
/-! ### unlike ones -/
abbrev Ssrt (l : List Nat) : Prop := l.Pairwise (· < ·)
theorem ssrt_nodup {l : List Nat} (h : Ssrt l) : l.Nodup := h.imp fun q => Nat.ne_of_lt q
theorem ssrt_srt {l : List Nat} (h : Ssrt l) : Srt l := h.imp fun q => Nat.le_of_lt q
theorem ssrt_eq {l k : List Nat} (hl : Ssrt l) (hk : Ssrt k) (h : ∀ x, x ∈ l ↔ x ∈ k) : l = k :=
  srt_eq (ssrt_srt hl) (ssrt_srt hk) ((List.perm_ext_iff_of_nodup (ssrt_nodup hl) (ssrt_nodup hk)).mpr h)
theorem ssrt_of {l : List Nat} (h : Srt l) (hn : l.Nodup) : Ssrt l := by
  refine List.Pairwise.imp₂ ?_ h hn
  intro a b h1 h2
  exact Nat.lt_of_le_of_ne h1 h2
theorem eraseDups_ssrt : ∀ (n : Nat) (l : List Nat), l.length ≤ n → Srt l → Ssrt l.eraseDups
  | _, [], _, _ => by rw [List.eraseDups_nil]; exact List.Pairwise.nil
  | 0, a :: l, h, _ => by simp at h
  | n + 1, a :: l, h, hs => by
    have hs := List.pairwise_cons.mp hs
    rw [List.eraseDups_cons]
    refine List.pairwise_cons.mpr ⟨fun b hb => ?_, eraseDups_ssrt n _ ?_ (hs.2.filter _)⟩
    · have := List.mem_eraseDups.mp hb
      rw [List.mem_filter] at this
      have h1 := hs.1 b this.1
      have h2 : b ≠ a := by
        have := this.2
        simpa using this
      omega
    · have := List.length_filter_le (fun b => !b == a) l
      simp at h
      omega
theorem unlike_ssrt (l : List Nat) : Ssrt (unlike l) := eraseDups_ssrt _ _ (Nat.le_refl _) (rising_srt l)
theorem mem_unlike {l : List Nat} {x : Nat} : x ∈ unlike l ↔ x ∈ l := by
  unfold unlike
  rw [List.mem_eraseDups, (rising_perm l).mem_iff]
theorem unlike_is {l k : List Nat} (hn : k.Nodup) (h : ∀ x, x ∈ k ↔ x ∈ l) : rising k = unlike l := by
  refine ssrt_eq (ssrt_of (rising_srt k) ((rising_perm k).nodup_iff.mpr hn)) (unlike_ssrt l) fun x => ?_
  rw [(rising_perm k).mem_iff, mem_unlike, h]
/-! ### ways: how they unfold -/
theorem flatMap_cong {α β : Type} {f g : α → List β} : ∀ {l : List α}, (∀ x, x ∈ l → f x = g x) → l.flatMap f = l.flatMap g
  | [], _ => rfl
  | a :: l, h => by
    rw [List.flatMap_cons, List.flatMap_cons, h a List.mem_cons_self, flatMap_cong fun x hx => h x (List.mem_cons_of_mem _ hx)]
theorem lastsOf_step {rule : Nat} {l : List Nat} (h : 2 ≤ l.length) : lastsOf rule l = (steps l.length).flatMap fun s => lastsOf rule (wiped rule l s) := by
  unfold lastsOf allWays
  obtain ⟨f, hf⟩ : ∃ f, l.length - 1 = f + 1 := ⟨l.length - 2, by omega⟩
  rw [hf]
  show List.map _ ((steps l.length).flatMap _) = _
  rw [List.map_flatMap]
  refine flatMap_cong fun s hs => ?_
  rw [List.map_map]
  obtain ⟨h1, h2⟩ := mem_steps.mp hs
  rw [show (wiped rule l s).length - 1 = f by rw [show s = (s.1, s.2) from rfl, wiped_length h1 h2]; omega]
  rfl
theorem lastsOf_one {rule : Nat} {l : List Nat} (h : l.length ≤ 1) : lastsOf rule l = [l.headD 0] := by
  unfold lastsOf allWays
  rw [show l.length - 1 = 0 by omega]
  rfl
theorem allWays_step {rule : Nat} {l : List Nat} (h : 2 ≤ l.length) : allWays rule l = (steps l.length).flatMap fun s => (allWays rule (wiped rule l s)).map fun w => (s :: w.1, w.2) := by
  unfold allWays
  obtain ⟨f, hf⟩ : ∃ f, l.length - 1 = f + 1 := ⟨l.length - 2, by omega⟩
  rw [hf]
  show (steps l.length).flatMap _ = _
  refine flatMap_cong fun s hs => ?_
  obtain ⟨h1, h2⟩ := mem_steps.mp hs
  rw [show (wiped rule l s).length - 1 = f by rw [show s = (s.1, s.2) from rfl, wiped_length h1 h2]; omega]
theorem allWays_one {rule : Nat} {l : List Nat} (h : l.length ≤ 1) : allWays rule l = [([], l.headD 0)] := by
  unfold allWays
  rw [show l.length - 1 = 0 by omega]
  rfl
/-! ### levels: the boards a step on -/
/-- the boards of a level, in the order in which they are met -/
def nexts (rule : Nat) (bs : List (List Nat)) : List (List Nat) := bs.flatMap fun b => (steps b.length).map (wiped rule b)
/-- cs is a level behind bs: the same boards, each once -/
structure Level (rule n : Nat) (bs cs : List (List Nat)) : Prop where
  nd : cs.Nodup
  mem : ∀ b, b ∈ cs ↔ b ∈ nexts rule bs
/-- a level of boards of n numbers whose lasts are those of l -/
structure Boards (rule : Nat) (l : List Nat) (n : Nat) (bs : List (List Nat)) : Prop where
  nd : bs.Nodup
  ne : bs ≠ []
  pos : 1 ≤ n
  len : ∀ b, b ∈ bs → b.length = n
  srt : ∀ b, b ∈ bs → Srt b
  mem : ∀ x, x ∈ lastsOf rule l ↔ ∃ b, b ∈ bs ∧ x ∈ lastsOf rule b
theorem Boards.start {rule : Nat} {l : List Nat} (h : 1 ≤ l.length) (hs : Srt l) : Boards rule l l.length [l] where
  nd := by simp
  ne := by simp
  pos := h
  len := by simp
  srt := by simpa using hs
  mem := by simp
theorem steps_ne {n : Nat} (h : 2 ≤ n) : ∃ s, s ∈ steps n := ⟨(0, 1), mem_steps.mpr ⟨by decide, by show 1 < n; omega⟩⟩
theorem Boards.next {rule : Nat} {l : List Nat} {n : Nat} {bs cs : List (List Nat)} (B : Boards rule l n bs) (h : 2 ≤ n) (nd : cs.Nodup) (mem : ∀ b, b ∈ cs ↔ b ∈ nexts rule bs) : Boards rule l (n - 1) cs := by
  have key : ∀ b, b ∈ cs → ∃ a s, a ∈ bs ∧ s ∈ steps a.length ∧ b = wiped rule a s := fun b hb => by
    have := (mem b).mp hb
    unfold nexts at this
    simp only [List.mem_flatMap, List.mem_map] at this
    obtain ⟨a, ha, s, hs, rfl⟩ := this
    exact ⟨a, s, ha, hs, rfl⟩
  have back : ∀ a s, a ∈ bs → s ∈ steps a.length → wiped rule a s ∈ cs := fun a s ha hs => by
    refine (mem _).mpr ?_
    unfold nexts
    simp only [List.mem_flatMap, List.mem_map]
    exact ⟨a, ha, s, hs, rfl⟩
  refine ⟨nd, ?_, by omega, ?_, ?_, ?_⟩
  · obtain ⟨a, ha⟩ := List.exists_mem_of_ne_nil _ B.ne
    obtain ⟨s, hs⟩ := steps_ne (n := a.length) (by rw [B.len a ha]; exact h)
    exact List.ne_nil_of_mem (back a s ha hs)
  · intro b hb
    obtain ⟨a, s, ha, hs, rfl⟩ := key b hb
    obtain ⟨h1, h2⟩ := mem_steps.mp hs
    rw [show s = (s.1, s.2) from rfl, wiped_length h1 h2, B.len a ha]
  · intro b hb
    obtain ⟨a, s, ha, hs, rfl⟩ := key b hb
    exact wiped_srt (B.srt a ha)
  · intro x
    rw [B.mem]
    constructor
    · rintro ⟨a, ha, hx⟩
      rw [lastsOf_step (by rw [B.len a ha]; exact h), List.mem_flatMap] at hx
      obtain ⟨s, hs, hx⟩ := hx
      exact ⟨_, back a s ha hs, hx⟩
    · rintro ⟨b, hb, hx⟩
      obtain ⟨a, s, ha, hs, rfl⟩ := key b hb
      refine ⟨a, ha, ?_⟩
      rw [lastsOf_step (by rw [B.len a ha]; exact h), List.mem_flatMap]
      exact ⟨s, hs, hx⟩
/-- at the end: the heads, each once, are the lasts -/
theorem Boards.lasts {rule : Nat} {l : List Nat} {bs : List (List Nat)} (B : Boards rule l 1 bs) : rising (bs.map fun b => b.headD 0) = Uw81.lasts rule l := by
  refine unlike_is ?_ fun x => ?_
  · unfold List.Nodup
    rw [List.pairwise_map]
    refine List.Pairwise.imp_of_mem ?_ B.nd
    intro a b ha hb hne he
    refine hne ?_
    match a, b, B.len a ha, B.len b hb, he with
    | [x], [y], _, _, he => exact congrArg (fun q => [q]) he
  · rw [B.mem, List.mem_map]
    constructor
    · rintro ⟨b, hb, rfl⟩
      exact ⟨b, hb, by rw [lastsOf_one (by rw [B.len b hb]; exact Nat.le_refl 1)]; simp⟩
    · rintro ⟨b, hb, hx⟩
      rw [lastsOf_one (by rw [B.len b hb]; exact Nat.le_refl 1)] at hx
      exact ⟨b, hb, (List.mem_singleton.mp hx).symm⟩
end Wb

end
section
set_option linter.all false
namespace Wb
open Uw81
/-! ### what is handed in, call by call -/
def enc : Call → List Int
  | .board r l => 0 :: (r : Int) :: (l.length : Int) :: zs l
  | .rule r => [1, (r : Int)]
  | .wipe i j => [2, (i : Int), (j : Int)]
  | .shows => [3]
  | .write x => [4, (x : Int)]
  | .lasts => [5]
  | .ways x => [6, (x : Int)]
  | .how x => [7, (x : Int)]
  | .which k => [8, (k : Int)]
  | .sure => [9]
  | .rests m => [10, (m : Int)]
def play : St → List Call → List (List Int)
  | _, [] => []
  | s, c :: cs => (step s c).2 :: play (step s c).1 cs
/-- the state behind calls -/
def after : St → List Call → St
  | s, [] => s
  | s, c :: cs => after (step s c).1 cs
theorem play_append : ∀ (a b : List Call) (s : St), play s (a ++ b) = play s a ++ play (after s a) b
  | [], b, s => rfl
  | c :: a, b, s => by
    show (step s c).2 :: play (step s c).1 (a ++ b) = _
    rw [play_append a b]
    rfl
theorem after_append : ∀ (a b : List Call) (s : St), after s (a ++ b) = after (after s a) b
  | [], b, s => rfl
  | c :: a, b, s => after_append a b _
theorem told_append (a b : List (List Int)) : PyFlat.told (a ++ b) = PyFlat.told a ++ PyFlat.told b := by
  unfold PyFlat.told
  rw [List.flatMap_append]
theorem nat_of {z : Int} (h : Uw81Neutral.nat z = true) : 0 ≤ z ∧ z < 4294967296 := by
  unfold Uw81Neutral.nat at h
  rw [Bool.and_eq_true, decide_eq_true_eq, decide_eq_true_eq] at h
  exact ⟨h.1, by have := h.2; omega⟩
theorem zs_back {l : List Int} (h : ∀ z, z ∈ l → 0 ≤ z) : zs (l.map Int.toNat) = l := by
  unfold zs
  rw [List.map_map]
  refine (List.map_congr_left fun x hx => ?_).trans (List.map_id l)
  have := h x hx
  show ((x.toNat : Nat) : Int) = x
  omega
theorem callOf_some {l : List Int} (h : (Uw81Neutral.callOf l).isSome = true) : (∀ z, z ∈ l → 0 ≤ z ∧ z < 4294967296) ∧ Uw81Neutral.callOf l = Uw81Neutral.callIn (l.map Int.toNat) := by
  unfold Uw81Neutral.callOf at h ⊢
  by_cases e : l.all Uw81Neutral.nat = false
  · rw [if_pos e] at h
    cases h
  · rw [if_neg e]
    refine ⟨fun z hz => ?_, rfl⟩
    have : l.all Uw81Neutral.nat = true := by simpa using e
    exact nat_of (List.all_eq_true.mp this z hz)
/-- the bounds of a call's numbers -/
def numsOf : Call → List Nat
  | .board r l => r :: l
  | .rule r => [r]
  | .wipe i j => [i, j]
  | .write x => [x]
  | .ways x => [x]
  | .how x => [x]
  | .which k => [k]
  | .rests m => [m]
  | _ => []
structure Viewed (l : List Int) (c : List (List Int)) (t : List Int) (x : Call) : Prop where
  eq : l = enc x ++ t
  is : Uw81Neutral.callOf ((PyUw81.whole c).headD []) = some x
  bd : ∀ n, n ∈ numsOf x → n < 4294967296
theorem shape_is {p : Int} {n k : Nat} (h : PyUw81.shape p = some (n, k)) :
    (p = 0 ∧ n = 1 ∧ k = 1) ∨ (k = 0 ∧ ((n = 0 ∧ (p = 3 ∨ p = 5 ∨ p = 9)) ∨ (n = 1 ∧ (p = 1 ∨ p = 4 ∨ p = 6 ∨ p = 7 ∨ p = 8 ∨ p = 10)) ∨ (n = 2 ∧ p = 2))) := by
  unfold PyUw81.shape at h
  repeat' split at h
  all_goals simp_all
  all_goals omega
theorem view1 {p : Int} {r : List Int} {c : List (List Int)} {t : List Int} (h : PyFlat.call PyUw81.shape (p :: r) = some (c, t)) {k : Nat → Call}
    (hp : PyUw81.shape p = some (1, 0)) (hk : ∀ x, Uw81Neutral.callIn [p.toNat, x] = some (k x)) (he : ∀ x, enc (k x) = [p, (x : Int)]) (hw : ∀ x : Int, PyUw81.whole [[p, x]] = [[p] ++ [x]]) (hn : ∀ x, numsOf (k x) = [x])
    (ha : (Uw81Neutral.callOf ((PyUw81.whole c).headD [])).isSome = true) : ∃ x, Viewed (p :: r) c t x := by
  simp only [PyFlat.call, hp] at h
  match r, h with
  | [], h => simp at h
  | x :: r, h =>
    have h : some ([[p, x]], r) = some (c, t) := by simpa [PyFlat.rows] using h
    cases h
    rw [hw] at ha
    obtain ⟨h1, h2⟩ := callOf_some ha
    have hx := h1 x (by simp)
    refine ⟨k x.toNat, ?_, ?_, ?_⟩
    · rw [he]
      show p :: x :: t = p :: _ :: t
      rw [show ((x.toNat : Nat) : Int) = x by omega]
    · rw [hw]
      exact h2.trans (hk _)
    · intro n hm
      rw [hn, List.mem_singleton] at hm
      omega
theorem view0 {p : Int} {r : List Int} {c : List (List Int)} {t : List Int} (h : PyFlat.call PyUw81.shape (p :: r) = some (c, t)) {k : Call}
    (hp : PyUw81.shape p = some (0, 0)) (hk : Uw81Neutral.callIn [p.toNat] = some k) (he : enc k = [p]) (hw : PyUw81.whole [[p]] = [[p]]) (hn : numsOf k = [])
    (ha : (Uw81Neutral.callOf ((PyUw81.whole c).headD [])).isSome = true) : ∃ x, Viewed (p :: r) c t x := by
  simp only [PyFlat.call, hp] at h
  have h : some ([[p]], r) = some (c, t) := by simpa [PyFlat.rows] using h
  cases h
  rw [hw] at ha
  obtain ⟨h1, h2⟩ := callOf_some ha
  refine ⟨k, ?_, ?_, ?_⟩
  · rw [he]
    rfl
  · rw [hw]
    exact h2.trans hk
  · intro n hm
    rw [hn] at hm
    cases hm
theorem view {l : List Int} {c : List (List Int)} {t : List Int} (h : PyFlat.call PyUw81.shape l = some (c, t))
    (ha : (Uw81Neutral.callOf ((PyUw81.whole c).headD [])).isSome = true) : ∃ x, Viewed l c t x := by
  match l, h with
  | p :: r, h =>
    cases hs : PyUw81.shape p with
    | none =>
      simp only [PyFlat.call, hs] at h
      cases h
    | some q =>
      obtain ⟨n, k⟩ := q
      rcases shape_is hs with ⟨rfl, rfl, rfl⟩ | ⟨rfl, ⟨rfl, rfl | rfl | rfl⟩ | ⟨rfl, rfl | rfl | rfl | rfl | rfl | rfl⟩ | ⟨rfl, rfl⟩⟩
      · simp only [PyFlat.call, hs] at h
        match r, h with
        | [], h => simp at h
        | [x], h => simp [PyFlat.rows, PyFlat.row] at h
        | x :: n :: r, h =>
          by_cases e : 0 ≤ n ∧ n.toNat ≤ r.length
          · have h : some ([[0, x], r.take n.toNat], r.drop n.toNat) = some (c, t) := by simpa [PyFlat.rows, PyFlat.row, e] using h
            cases h
            have hw : (PyUw81.whole [[0, x], r.take n.toNat]).headD [] = 0 :: x :: r.take n.toNat := rfl
            rw [hw] at ha
            obtain ⟨h1, h2⟩ := callOf_some ha
            have hx := h1 x (by simp)
            have hr : ∀ z, z ∈ r.take n.toNat → 0 ≤ z := fun z hz => (h1 z (List.mem_cons_of_mem _ (List.mem_cons_of_mem _ hz))).1
            refine ⟨.board x.toNat ((r.take n.toNat).map Int.toNat), ?_, ?_, ?_⟩
            · show 0 :: x :: n :: r = 0 :: (x.toNat : Int) :: (((r.take n.toNat).map Int.toNat).length : Int) :: (zs _ ++ _)
              rw [zs_back hr, List.length_map, List.length_take, Nat.min_eq_left e.2, List.take_append_drop]
              rw [show ((x.toNat : Nat) : Int) = x by omega, show ((n.toNat : Nat) : Int) = n by omega]
            · rw [hw]
              exact h2
            · intro m hm
              rcases List.mem_cons.mp hm with rfl | hm
              · omega
              · obtain ⟨z, hz, rfl⟩ := List.mem_map.mp hm
                have := h1 z (List.mem_cons_of_mem _ (List.mem_cons_of_mem _ hz))
                omega
          · have e2 : PyFlat.rows 1 (List.drop 1 (x :: n :: r)) = none := by
              show (match PyFlat.row (n :: r) with | none => none | some (x, s) => _) = none
              rw [show PyFlat.row (n :: r) = none from if_neg e]
            rw [e2] at h
            simp at h
      · exact view0 h hs rfl rfl rfl rfl ha
      · exact view0 h hs rfl rfl rfl rfl ha
      · exact view0 h hs rfl rfl rfl rfl ha
      · exact view1 (k := .rule) h hs (fun _ => rfl) (fun _ => rfl) (fun _ => rfl) (fun _ => rfl) ha
      · exact view1 (k := .write) h hs (fun _ => rfl) (fun _ => rfl) (fun _ => rfl) (fun _ => rfl) ha
      · exact view1 (k := .ways) h hs (fun _ => rfl) (fun _ => rfl) (fun _ => rfl) (fun _ => rfl) ha
      · exact view1 (k := .how) h hs (fun _ => rfl) (fun _ => rfl) (fun _ => rfl) (fun _ => rfl) ha
      · exact view1 (k := .which) h hs (fun _ => rfl) (fun _ => rfl) (fun _ => rfl) (fun _ => rfl) ha
      · exact view1 (k := .rests) h hs (fun _ => rfl) (fun _ => rfl) (fun _ => rfl) (fun _ => rfl) ha
      · simp only [PyFlat.call, hs] at h
        match r, h with
        | [], h => simp at h
        | [x], h => simp at h
        | x :: y :: r, h =>
          have h : some ([[2, x, y]], r) = some (c, t) := by
            have e : ¬ ((x :: y :: r).length < 2) := by simp
            simpa [PyFlat.rows, e] using h
          cases h
          have hw : (PyUw81.whole [[2, x, y]]).headD [] = [2, x, y] := rfl
          rw [hw] at ha
          obtain ⟨h1, h2⟩ := callOf_some ha
          have hx := h1 x (by simp)
          have hy := h1 y (by simp)
          refine ⟨.wipe x.toNat y.toNat, ?_, ?_, ?_⟩
          · show 2 :: x :: y :: t = 2 :: _ :: _ :: t
            rw [show ((x.toNat : Nat) : Int) = x by omega, show ((y.toNat : Nat) : Int) = y by omega]
          · rw [hw]
            exact h2
          · intro m hm
            simp [numsOf] at hm
            omega
theorem views : ∀ (f : Nat) (l : List Int) (raw : List (List (List Int))), PyFlat.calls PyUw81.shape f l = some raw → (∀ c, c ∈ raw → (Uw81Neutral.callOf ((PyUw81.whole c).headD [])).isSome = true) →
    ∃ cs : List Call, l = cs.flatMap enc ∧ raw.map (fun c => Uw81Neutral.callOf ((PyUw81.whole c).headD [])) = cs.map some ∧ ∀ c, c ∈ cs → ∀ n, n ∈ numsOf c → n < 4294967296
  | f, [], raw, h, _ => by
    have : raw = [] := by
      cases f <;> (simp [PyFlat.calls] at h; exact h)
    subst this
    exact ⟨[], rfl, rfl, fun c hc => nomatch hc⟩
  | 0, p :: r, raw, h, _ => by simp [PyFlat.calls] at h
  | f + 1, p :: r, raw, h, ha => by
    unfold PyFlat.calls at h
    cases e : PyFlat.call PyUw81.shape (p :: r) with
    | none =>
      rw [e] at h
      cases h
    | some q =>
      obtain ⟨c, t⟩ := q
      rw [e] at h
      cases e2 : PyFlat.calls PyUw81.shape f t with
      | none =>
        simp only [e2] at h
        cases h
      | some raw' =>
        simp only [e2] at h
        cases h
        obtain ⟨x, v⟩ := view e (ha c List.mem_cons_self)
        obtain ⟨cs, h1, h2, h3⟩ := views f t raw' e2 fun c hc => ha c (List.mem_cons_of_mem _ hc)
        refine ⟨x :: cs, ?_, ?_, ?_⟩
        · rw [v.eq, List.flatMap_cons, ← h1]
        · rw [List.map_cons, List.map_cons, v.is, h2]
        · intro c hc
          rcases List.mem_cons.mp hc with rfl | hc
          · exact v.bd
          · exact h3 c hc
theorem played_is : ∀ (raw : List (List (List Int))) (cs : List Call) (s : St), raw.map (fun c => Uw81Neutral.callOf ((PyUw81.whole c).headD [])) = cs.map some →
    PyFlat.played (fun s c => Uw81Neutral.step s (c.headD [])) s (raw.map PyUw81.whole) = play s cs
  | [], [], _, _ => rfl
  | c :: raw, x :: cs, s, h => by
    rw [List.map_cons, List.map_cons, List.cons.injEq] at h
    have e : Uw81Neutral.step s ((PyUw81.whole c).headD []) = step s x := by
      unfold Uw81Neutral.step
      rw [h.1]
      rfl
    show (Uw81Neutral.step s ((PyUw81.whole c).headD [])).2 :: PyFlat.played _ (Uw81Neutral.step s ((PyUw81.whole c).headD [])).1 (raw.map PyUw81.whole) = _
    rw [e, played_is raw cs _ h.2]
    rfl
  | [], _ :: _, _, h => by simp at h
  | _ :: _, [], _, h => by simp at h
/-- what is asked, said by calls -/
structure Good (cs : List Call) : Prop where
  most : cs.length ≤ 40
  bd : ∀ c, c ∈ cs → ∀ n, n ∈ numsOf c → n < 4294967296
  short : (PyFlat.told (play init cs)).length ≤ 10000000
theorem parsed {l : List Int} (h : PyUw81.answers_asked l = true) : ∃ cs : List Call, l = cs.flatMap enc ∧ PyUw81.answers l = PyFlat.told (play init cs) ∧ Good cs := by
  unfold PyUw81.answers_asked at h
  cases e : PyFlat.calls PyUw81.shape l.length l with
  | none =>
    rw [e] at h
    cases h
  | some raw =>
    rw [e] at h
    simp only [Bool.and_eq_true] at h
    obtain ⟨⟨⟨⟨_, h1⟩, _⟩, h2⟩, h3⟩ := h
    have ha : ∀ c, c ∈ raw → (Uw81Neutral.callOf ((PyUw81.whole c).headD [])).isSome = true := fun c hc => by
      unfold Uw81Neutral.asked at h2
      rw [Bool.and_eq_true] at h2
      have := List.all_eq_true.mp h2.1 ((PyUw81.whole c).headD []) (by
        rw [List.map_map]
        exact List.mem_map.mpr ⟨c, hc, rfl⟩)
      exact this
    obtain ⟨cs, q1, q2, q3⟩ := views _ _ _ e ha
    have q4 : PyUw81.answers l = PyFlat.told (play init cs) := by
      unfold PyUw81.answers PyUw81.calls
      rw [e]
      show PyFlat.told (PyFlat.played _ Uw81Neutral.start (raw.map PyUw81.whole)) = _
      rw [played_is raw cs _ q2]
      rfl
    refine ⟨cs, q1, q4, ?_, q3, ?_⟩
    · unfold PyFlat.atMost at h1
      have := of_decide_eq_true h1
      have e := congrArg List.length q2
      rw [List.length_map, List.length_map] at e
      omega
    · unfold PyFlat.short at h3
      rw [q4] at h3
      exact of_decide_eq_true h3
end Wb

end
section
set_option linter.all false
namespace Wb
open Uw81
/-! ### how great numbers get -/
def wt : List Nat → Nat
  | [] => 1
  | x :: l => (x + 1) * wt l
theorem wt_pos : ∀ l, 1 ≤ wt l
  | [] => Nat.le_refl _
  | x :: l => by
    show 1 ≤ (x + 1) * wt l
    exact Nat.mul_pos (Nat.succ_pos x) (wt_pos l)
theorem wt_perm {l k : List Nat} (h : l.Perm k) : wt l = wt k := by
  induction h with
  | nil => rfl
  | cons x _ ih => show (x + 1) * _ = (x + 1) * _; rw [ih]
  | swap x y l =>
    show (y + 1) * ((x + 1) * wt l) = (x + 1) * ((y + 1) * wt l)
    rw [← Nat.mul_assoc, ← Nat.mul_assoc, Nat.mul_comm (y + 1)]
  | trans _ _ h1 h2 => exact h1.trans h2
theorem wt_mem {x : Nat} : ∀ {l : List Nat}, x ∈ l → x + 1 ≤ wt l
  | y :: l, h => by
    show x + 1 ≤ (y + 1) * wt l
    rcases List.mem_cons.mp h with rfl | h
    · exact Nat.le_mul_of_pos_right _ (wt_pos l)
    · exact Nat.le_trans (wt_mem h) (Nat.le_mul_of_pos_left _ (Nat.succ_pos y))
theorem written_le (rule a b : Nat) : written rule a b + 1 ≤ (a + 1) * (b + 1) := by
  have e : (a + 1) * (b + 1) = a * b + a + b + 1 := by rw [Nat.add_mul, Nat.mul_add]; omega
  rw [e]
  have hg : Nat.gcd a b ≤ a + b := by
    by_cases h : 0 < b
    · exact Nat.le_trans (Nat.gcd_le_right a h) (by omega)
    · have : b = 0 := by omega
      subst this
      rw [Nat.gcd_zero_right]
      omega
  have hl : Nat.lcm a b ≤ a * b := by
    unfold Nat.lcm
    exact Nat.div_le_self _ _
  unfold written
  split <;> omega
theorem perm_erase {l : List Nat} : ∀ {i : Nat}, i < l.length → (l.getD i 0 :: l.eraseIdx i).Perm l := by
  induction l with
  | nil => intro i h; simp at h
  | cons a l ih =>
    intro i h
    cases i with
    | zero => exact List.Perm.refl _
    | succ i =>
      show (l.getD i 0 :: a :: l.eraseIdx i).Perm (a :: l)
      exact (List.Perm.swap _ _ _).trans ((ih (by simpa using h)).cons a)
theorem getD_erase_lt {l : List Nat} {i j : Nat} (h : i < j) : (l.eraseIdx j).getD i 0 = l.getD i 0 := by
  rw [List.getD_eq_getElem?_getD, List.getD_eq_getElem?_getD, List.getElem?_eraseIdx_of_lt h]
theorem wt_wiped {rule : Nat} {l : List Nat} {i j : Nat} (hij : i < j) (hj : j < l.length) : wt (wiped rule l (i, j)) ≤ wt l := by
  unfold wiped
  rw [wt_perm (put_perm _ _)]
  have h1 := wt_perm (perm_erase hj)
  have h2 := wt_perm (perm_erase (l := l.eraseIdx j) (i := i) (by rw [List.length_eraseIdx_of_lt hj]; omega))
  rw [getD_erase_lt hij] at h2
  show (written rule (l.getD i 0) (l.getD j 0) + 1) * wt ((l.eraseIdx j).eraseIdx i) ≤ wt l
  rw [← h1]
  show _ ≤ (l.getD j 0 + 1) * wt (l.eraseIdx j)
  rw [← h2]
  show _ ≤ (l.getD j 0 + 1) * ((l.getD i 0 + 1) * wt ((l.eraseIdx j).eraseIdx i))
  rw [← Nat.mul_assoc]
  refine Nat.mul_le_mul_right _ ?_
  rw [Nat.mul_comm (l.getD j 0 + 1)]
  exact written_le _ _ _
theorem wt_new : ∀ {l : List Nat}, (∀ x, x ∈ l → x ≤ 1000) → wt l ≤ 2 ^ (10 * l.length)
  | [], _ => Nat.le_refl _
  | x :: l, h => by
    have h1 := h x List.mem_cons_self
    have h2 := wt_new fun y hy => h y (List.mem_cons_of_mem x hy)
    show (x + 1) * wt l ≤ 2 ^ (10 * (l.length + 1))
    rw [Nat.mul_add, Nat.pow_add, Nat.mul_comm]
    exact Nat.mul_le_mul h2 (by show x + 1 ≤ 1024; omega)
/-- the board as it stands behind k calls -/
structure Stands (k : Nat) (s : St) : Prop where
  rule : s.rule ≤ 9
  srt : Srt s.board
  pos : 1 ≤ s.board.length
  most : s.board.length ≤ 6
  wt : wt s.board ≤ 2 ^ (60 + 10 * k)
theorem Stands.init : Stands 0 init := ⟨by decide, by show Srt [0]; simp, by decide, by decide, by decide +kernel⟩
theorem pow_up {a b : Nat} (h : a ≤ b) : 2 ^ a ≤ 2 ^ b := Nat.pow_le_pow_right (by decide) h
theorem Stands.step {k : Nat} {s : St} (S : Stands k s) (c : Call) : Stands (k + 1) (step s c).1 := by
  have S' : Stands (k + 1) s := ⟨S.rule, S.srt, S.pos, S.most, Nat.le_trans S.wt (pow_up (by omega))⟩
  cases c with
  | board r l =>
    show Stands _ (if _ then (s, [-1]) else ((⟨r, rising l⟩ : St), _)).1
    split
    · exact S'
    · rename_i h
      simp only [not_or, Nat.not_lt] at h
      obtain ⟨h1, h2, h3, h4⟩ := h
      refine ⟨h1, rising_srt l, by show 1 ≤ (rising l).length; rw [rising_length]; exact h2, by show (rising l).length ≤ 6; rw [rising_length]; exact h3, ?_⟩
      show Wb.wt (rising l) ≤ _
      rw [wt_perm (rising_perm l)]
      refine Nat.le_trans (wt_new fun x hx => ?_) (pow_up (by omega))
      have : ¬ (l.any fun x => decide (1000 < x)) = true := h4
      rw [List.any_eq_true] at this
      by_cases hx2 : 1000 < x
      · exact (this ⟨x, hx, by simpa using hx2⟩).elim
      · omega
  | rule r =>
    show Stands _ (if _ then (s, [-1]) else ({ s with rule := r }, _)).1
    split
    · exact S'
    · exact ⟨by show r ≤ 9; omega, S'.srt, S'.pos, S'.most, S'.wt⟩
  | wipe i j =>
    show Stands _ (if _ then (s, [-2]) else if _ then (s, [-1]) else _).1
    split
    · exact S'
    · split
      · exact S'
      · rename_i h1 h2
        have hi : i < j := by omega
        have hj : j < s.board.length := by omega
        refine ⟨S'.rule, wiped_srt S'.srt, ?_, ?_, Nat.le_trans (wt_wiped hi hj) S'.wt⟩
        · show 1 ≤ (wiped s.rule s.board (i, j)).length
          rw [wiped_length hi hj]
          omega
        · show (wiped s.rule s.board (i, j)).length ≤ 6
          rw [wiped_length hi hj]
          have := S.most
          omega
  | write x =>
    show Stands _ (if _ then (s, [-1]) else if _ then (s, [-5]) else _).1
    split
    · exact S'
    · split
      · exact S'
      · refine ⟨S'.rule, put_srt x S'.srt, ?_, ?_, ?_⟩
        · show 1 ≤ (put x s.board).length
          rw [put_length]
          omega
        · show (put x s.board).length ≤ 6
          rw [put_length]
          omega
        · show Wb.wt (put x s.board) ≤ _
          rw [wt_perm (put_perm x _)]
          show (x + 1) * Wb.wt s.board ≤ 2 ^ (60 + 10 * (k + 1))
          rw [show 60 + 10 * (k + 1) = 10 + (60 + 10 * k) by omega, Nat.pow_add]
          exact Nat.mul_le_mul (by show x + 1 ≤ 1024; omega) S.wt
  | shows => exact S'
  | lasts => exact S'
  | ways x => exact S'
  | how x => exact S'
  | which k => exact S'
  | sure => exact S'
  | rests m => exact S'
theorem Stands.after : ∀ {k : Nat} {s : St} (S : Stands k s) (cs : List Call), Stands (k + cs.length) (after s cs)
  | _, _, S, [] => S
  | k, s, S, c :: cs => by
    have := Stands.after (S.step c) cs
    rw [show k + (c :: cs).length = k + 1 + cs.length by simp; omega]
    exact this
/-- a lid for all numbers that are met -/
def lid : Nat := 2 ^ (60 + 400)
/-- within the bounds at which Python's own numbers are reckoned -/
theorem Stands.lt {k : Nat} {s : St} (S : Stands k s) (hk : k ≤ 40) {x : Nat} (hx : x ∈ s.board) : x < lid :=
  Nat.lt_of_lt_of_le (wt_mem hx) (Nat.le_trans S.wt (pow_up (by omega)))
/-! ### what's written, in Python's numbers -/
theorem gcd_step {a b : Nat} (h : 0 < a) : Nat.gcd a b = Nat.gcd (b % a) a := Nat.gcd_rec a b
theorem lcm_is (a b : Nat) (h : 0 < a) : a / Nat.gcd a b * b = Nat.lcm a b := by
  unfold Nat.lcm
  rw [Nat.mul_comm, Nat.mul_comm a b, Nat.mul_div_assoc _ (Nat.gcd_dvd_left a b)]
theorem lcm_zero (b : Nat) : Nat.lcm 0 b = 0 := Nat.lcm_zero_left b
end Wb

end
section
set_option linter.all false
namespace Wb
open Uw81
/-! ### how many ways there are -/
def wayCount : Nat → Nat
  | 0 => 1
  | 1 => 1
  | n + 2 => (steps (n + 2)).length * wayCount (n + 1)
theorem wayCount_pos : ∀ n, 1 ≤ wayCount n
  | 0 => Nat.le_refl _
  | 1 => Nat.le_refl _
  | n + 2 => by
    show 1 ≤ (steps (n + 2)).length * wayCount (n + 1)
    refine Nat.mul_pos ?_ (wayCount_pos (n + 1))
    obtain ⟨s, hs⟩ := steps_ne (n := n + 2) (by omega)
    exact List.length_pos_of_mem hs
theorem length_flat {α β : Type} {f : α → List β} {m : Nat} : ∀ {l : List α}, (∀ x, x ∈ l → (f x).length = m) → (l.flatMap f).length = l.length * m
  | [], _ => by simp
  | a :: l, h => by
    rw [List.flatMap_cons, List.length_append, h a List.mem_cons_self, length_flat fun x hx => h x (List.mem_cons_of_mem _ hx), List.length_cons, Nat.succ_mul]
    omega
theorem lastsOf_length (rule : Nat) : ∀ (n : Nat) (l : List Nat), l.length = n → (lastsOf rule l).length = wayCount n
  | 0, l, h => by rw [lastsOf_one (by omega)]; rfl
  | 1, l, h => by rw [lastsOf_one (by omega)]; rfl
  | n + 2, l, h => by
    rw [lastsOf_step (by omega), length_flat (m := wayCount (n + 1)), h]
    · rfl
    · intro s hs
      obtain ⟨h1, h2⟩ := mem_steps.mp hs
      exact lastsOf_length rule (n + 1) _ (by rw [show s = (s.1, s.2) from rfl, wiped_length h1 h2]; omega)
/-! ### the k-th way -/
theorem flat_at {α β : Type} {f : α → List β} {m : Nat} (hm : 0 < m) : ∀ {l : List α} (k : Nat), (∀ x, x ∈ l → (f x).length = m) → (l.flatMap f)[k]? = (l[k / m]?).bind fun x => (f x)[k % m]?
  | [], k, _ => by simp
  | a :: l, k, h => by
    rw [List.flatMap_cons]
    have ha := h a List.mem_cons_self
    by_cases hk : k < m
    · rw [List.getElem?_append_left (by omega), Nat.div_eq_of_lt hk, Nat.mod_eq_of_lt hk]
      rfl
    · rw [List.getElem?_append_right (by omega), ha, flat_at hm (k - m) fun x hx => h x (List.mem_cons_of_mem _ hx)]
      have e1 : k / m = (k - m) / m + 1 := by
        rw [Nat.div_eq_sub_div hm (by omega)]
      have e2 : k % m = (k - m) % m := by
        rw [Nat.mod_eq_sub_mod (by omega)]
      rw [e1, e2, List.getElem?_cons_succ]
theorem which_step {rule n k : Nat} {l : List Nat} (h : l.length = n + 2) : (lastsOf rule l)[k]? = ((steps (n + 2))[k / wayCount (n + 1)]?).bind fun s => (lastsOf rule (wiped rule l s))[k % wayCount (n + 1)]? := by
  rw [lastsOf_step (by omega), flat_at (m := wayCount (n + 1)) (wayCount_pos _) k, h]
  intro s hs
  obtain ⟨h1, h2⟩ := mem_steps.mp hs
  exact lastsOf_length rule (n + 1) _ (by rw [show s = (s.1, s.2) from rfl, wiped_length h1 h2]; omega)
theorem which_none {rule k : Nat} {l : List Nat} (h : wayCount l.length ≤ k) : (lastsOf rule l)[k]? = none :=
  List.getElem?_eq_none (by rw [lastsOf_length rule _ l rfl]; exact h)
/-! ### the first way by which x is the last -/
def firstWay (rule x : Nat) (l : List Nat) : Option (List (Nat × Nat) × Nat) := (allWays rule l).find? fun w => w.2 == x
theorem first_one {rule x : Nat} {l : List Nat} (h : l.length ≤ 1) : firstWay rule x l = if l.headD 0 = x then some ([], x) else none := by
  unfold firstWay
  rw [allWays_one h, List.find?_cons]
  by_cases e : l.headD 0 = x
  · rw [if_pos e, e]
    simp
  · rw [if_neg e, show (l.headD 0 == x) = false from beq_eq_false_iff_ne.mpr e]
    rfl
theorem first_step {rule x : Nat} {l : List Nat} (h : 2 ≤ l.length) : firstWay rule x l = (steps l.length).findSome? fun s => (firstWay rule x (wiped rule l s)).map fun w => (s :: w.1, w.2) := by
  unfold firstWay
  rw [allWays_step h, List.find?_flatMap]
  refine congrArg (fun f => List.findSome? f (steps l.length)) ?_
  funext s
  rw [List.find?_map]
  rfl
theorem first_some {rule x : Nat} {l : List Nat} : (firstWay rule x l).isSome = true ↔ x ∈ lastsOf rule l := by
  unfold firstWay lastsOf
  rw [List.find?_isSome, List.mem_map]
  constructor
  · rintro ⟨w, hw, e⟩
    exact ⟨w, hw, by simpa using e⟩
  · rintro ⟨w, hw, e⟩
    exact ⟨w, hw, by simpa using e⟩
theorem first_none {rule x : Nat} {l : List Nat} (h : x ∉ lastsOf rule l) : firstWay rule x l = none := by
  cases e : firstWay rule x l with
  | none => rfl
  | some w => exact (h (first_some.mp (by rw [e]; rfl))).elim
/-- the first step that leads to x -/
theorem first_split {rule x : Nat} {l : List Nat} (h : 2 ≤ l.length) {pre post : List (Nat × Nat)} {s : Nat × Nat} (e : steps l.length = pre ++ s :: post) (no : ∀ t, t ∈ pre → x ∉ lastsOf rule (wiped rule l t)) (yes : x ∈ lastsOf rule (wiped rule l s)) :
    firstWay rule x l = (firstWay rule x (wiped rule l s)).map fun w => (s :: w.1, w.2) := by
  rw [first_step h, e, List.findSome?_append]
  have h1 : pre.findSome? (fun s => (firstWay rule x (wiped rule l s)).map fun w => (s :: w.1, w.2)) = none := by
    rw [List.findSome?_eq_none_iff]
    intro t ht
    rw [first_none (no t ht)]
    rfl
  rw [h1, List.findSome?_cons]
  obtain ⟨w, hw⟩ := Option.isSome_iff_exists.mp (first_some.mpr yes)
  rw [hw]
  rfl
theorem mem_lasts {rule x : Nat} {l : List Nat} : x ∈ lasts rule l ↔ x ∈ lastsOf rule l := mem_unlike
theorem first_last {rule x : Nat} {l : List Nat} {w : List (Nat × Nat) × Nat} (h : firstWay rule x l = some w) : w.2 = x := by
  have := List.find?_some h
  simpa using this
/-- what how answers -/
def howList (p : List (Nat × Nat)) : List Int := p.flatMap fun q => Uw81.ints [q.1, q.2]
theorem step_how (s : St) (x : Nat) : step s (.how x) = (s, match firstWay s.rule x s.board with
    | none => [-6]
    | some w => (w.1.length : Int) :: howList w.1) := rfl
/-! ### levels with counts -/
/-- how often x is the last, over the boards of a level -/
def tally (rule x : Nat) (bs : List (List Nat × Nat)) : Nat := (bs.map fun p => p.2 * ((lastsOf rule p.1).filter fun y => y == x).length).sum
def oft (rule x : Nat) (l : List Nat) : Nat := ((lastsOf rule l).filter fun y => y == x).length
theorem filter_flat {α β : Type} {f : α → List β} {p : β → Bool} : ∀ {l : List α}, ((l.flatMap f).filter p).length = (l.map fun a => ((f a).filter p).length).sum
  | [] => rfl
  | a :: l => by
    rw [List.flatMap_cons, List.filter_append, List.length_append, filter_flat, List.map_cons, List.sum_cons]
theorem oft_step {rule x : Nat} {l : List Nat} (h : 2 ≤ l.length) : oft rule x l = ((steps l.length).map fun s => oft rule x (wiped rule l s)).sum := by
  unfold oft
  rw [lastsOf_step h, filter_flat]
theorem oft_one {rule x : Nat} {l : List Nat} (h : l.length ≤ 1) : oft rule x l = if l.headD 0 = x then 1 else 0 := by
  unfold oft
  rw [lastsOf_one h, List.filter_cons]
  by_cases e : l.headD 0 = x
  · rw [if_pos e, e]
    simp
  · rw [if_neg e, if_neg (by rw [beq_eq_false_iff_ne.mpr e]; exact Bool.false_ne_true)]
    rfl
theorem step_ways (s : St) (x : Nat) : step s (.ways x) = (s, [((oft s.rule x s.board : Nat) : Int), ((wayCount s.board.length : Nat) : Int)]) := by
  show (s, Uw81.ints [_, _]) = _
  rw [lastsOf_length s.rule _ s.board rfl]
  rfl
/-! ### sure -/
theorem lasts_ne {rule : Nat} {l : List Nat} : lasts rule l ≠ [] := by
  intro h
  have h1 : 0 < (lastsOf rule l).length := by
    rw [lastsOf_length rule _ l rfl]
    exact wayCount_pos _
  obtain ⟨x, hx⟩ := List.exists_mem_of_length_pos h1
  have := mem_lasts.mpr hx
  rw [h] at this
  cases this
theorem step_sure (s : St) : step s .sure = (s, if (lasts s.rule s.board).length = 1 then [1, (((lasts s.rule s.board).headD 0 : Nat) : Int)] else [0, (((lasts s.rule s.board).headD 0 : Nat) : Int), (((lasts s.rule s.board).getLastD 0 : Nat) : Int)]) := by
  show (s, match lasts s.rule s.board with
    | [] => []
    | [x] => Uw81.ints [1, x]
    | x :: l => Uw81.ints [0, x, l.getLastD x]) = _
  match h : lasts s.rule s.board with
  | [] => exact (lasts_ne h).elim
  | [x] => rfl
  | x :: y :: l => rfl
theorem step_rests (s : St) (m : Nat) : step s (.rests m) = (s, if m < 1 ∨ 100 < m then [-1] else counted (rests s.rule m s.board)) := rfl
theorem step_which (s : St) (k : Nat) : step s (.which k) = (s, match (lastsOf s.rule s.board)[k]? with
    | none => [-3]
    | some x => [(x : Int)]) := rfl
theorem mem_rests {rule m x : Nat} {l : List Nat} : x ∈ rests rule m l ↔ ∃ y, y ∈ lastsOf rule l ∧ x = y % m := by
  unfold rests
  rw [mem_unlike, List.mem_map]
  constructor
  · rintro ⟨y, hy, rfl⟩
    exact ⟨y, mem_lasts.mp hy, rfl⟩
  · rintro ⟨y, hy, rfl⟩
    exact ⟨y, mem_lasts.mpr hy, rfl⟩
theorem rests_is {rule m : Nat} {l k : List Nat} (hn : k.Nodup) (h : ∀ x, x ∈ k ↔ ∃ y, y ∈ lastsOf rule l ∧ x = y % m) : rising k = rests rule m l := by
  refine unlike_is hn fun x => ?_
  rw [h, List.mem_map]
  constructor
  · rintro ⟨y, hy, rfl⟩
    exact ⟨y, mem_lasts.mpr hy, rfl⟩
  · rintro ⟨y, hy, rfl⟩
    exact ⟨y, mem_lasts.mp hy, rfl⟩
theorem lasts_is {rule : Nat} {l k : List Nat} (hn : k.Nodup) (h : ∀ x, x ∈ k ↔ x ∈ lastsOf rule l) : rising k = lasts rule l := unlike_is hn h
end Wb

end
section
set_option linter.all false
namespace Wb
open Uw81
/-! ### a level with counts -/
abbrev Lvl := List (List Nat × Nat)
def bump : Lvl → List Nat → Nat → Lvl
  | [], b, w => [(b, w)]
  | p :: L, b, w => if p.1 = b then (p.1, p.2 + w) :: L else p :: bump L b w
def cnt : Lvl → List Nat → Nat
  | [], _ => 0
  | p :: L, b => if p.1 = b then p.2 else cnt L b
def rowOn (r : Nat) (b : List Nat) (w : Nat) (acc : Lvl) (ss : List (Nat × Nat)) : Lvl := ss.foldl (fun acc s => bump acc (wiped r b s) w) acc
def levelOn (r : Nat) (L : Lvl) : Lvl := L.foldl (fun acc p => rowOn r p.1 p.2 acc (steps p.1.length)) []
theorem keys_bump : ∀ (L : Lvl) (b : List Nat) (w : Nat), (bump L b w).map (·.1) = if b ∈ L.map (·.1) then L.map (·.1) else L.map (·.1) ++ [b]
  | [], b, w => rfl
  | p :: L, b, w => by
    unfold bump
    by_cases e : p.1 = b
    · rw [if_pos e, if_pos (by simp [e])]
      rfl
    · rw [if_neg e]
      show p.1 :: (bump L b w).map (·.1) = _
      rw [keys_bump L b w]
      by_cases h : b ∈ L.map (·.1)
      · rw [if_pos h, if_pos (by rw [List.map_cons]; exact List.mem_cons_of_mem _ h)]
        rfl
      · rw [if_neg h, if_neg (by rw [List.map_cons, List.mem_cons]; exact fun z => z.elim (fun q => e q.symm) h)]
        rfl
theorem mem_bump {L : Lvl} {b c : List Nat} {w : Nat} : c ∈ (bump L b w).map (·.1) ↔ c ∈ L.map (·.1) ∨ c = b := by
  rw [keys_bump]
  split
  · rename_i h
    exact ⟨.inl, fun z => z.elim id fun q => q ▸ h⟩
  · rw [List.mem_append, List.mem_singleton]
theorem nodup_bump {L : Lvl} (h : (L.map (·.1)).Nodup) (b : List Nat) (w : Nat) : ((bump L b w).map (·.1)).Nodup := by
  rw [keys_bump]
  split
  · exact h
  · rename_i hb
    rw [List.nodup_append]
    exact ⟨h, by simp, fun x hx y hy q => hb (by rw [List.mem_singleton.mp hy] at q; exact q ▸ hx)⟩
theorem length_bump (L : Lvl) (b : List Nat) (w : Nat) : (bump L b w).length ≤ L.length + 1 := by
  have := congrArg List.length (keys_bump L b w)
  rw [List.length_map] at this
  rw [this]
  split
  · rw [List.length_map]
    omega
  · rw [List.length_append, List.length_map]
    exact Nat.le_refl _
theorem pos_bump : ∀ {L : Lvl} {b : List Nat} {w : Nat}, 1 ≤ w → (∀ p, p ∈ L → 1 ≤ p.2) → ∀ p, p ∈ bump L b w → 1 ≤ p.2
  | [], b, w, hw, _, p, hp => by
    rw [List.mem_singleton.mp hp]
    exact hw
  | q :: L, b, w, hw, h, p, hp => by
    unfold bump at hp
    split at hp
    · rcases List.mem_cons.mp hp with rfl | hp
      · have := h q List.mem_cons_self
        show 1 ≤ q.2 + w
        omega
      · exact h p (List.mem_cons_of_mem _ hp)
    · rcases List.mem_cons.mp hp with rfl | hp
      · exact h p List.mem_cons_self
      · exact pos_bump hw (fun p hp => h p (List.mem_cons_of_mem _ hp)) p hp
/-- how often x is the last, over a level -/
def tal (r x : Nat) : Lvl → Nat
  | [] => 0
  | p :: L => p.2 * oft r x p.1 + tal r x L
theorem tal_bump (r x : Nat) : ∀ (L : Lvl) (b : List Nat) (w : Nat), tal r x (bump L b w) = tal r x L + w * oft r x b
  | [], b, w => by
    show w * oft r x b + 0 = 0 + _
    omega
  | p :: L, b, w => by
    unfold bump
    by_cases e : p.1 = b
    · rw [if_pos e]
      show (p.2 + w) * oft r x p.1 + tal r x L = p.2 * oft r x p.1 + tal r x L + _
      rw [Nat.add_mul, e]
      omega
    · rw [if_neg e]
      show p.2 * oft r x p.1 + tal r x (bump L b w) = p.2 * oft r x p.1 + tal r x L + _
      rw [tal_bump r x L b w]
      omega
theorem tal_row (r x : Nat) (b : List Nat) (w : Nat) : ∀ (ss : List (Nat × Nat)) (acc : Lvl), tal r x (rowOn r b w acc ss) = tal r x acc + w * (ss.map fun s => oft r x (wiped r b s)).sum
  | [], acc => by
    show tal r x acc = _
    rw [List.map_nil, List.sum_nil, Nat.mul_zero]
    rfl
  | s :: ss, acc => by
    show tal r x (rowOn r b w (bump acc (wiped r b s) w) ss) = _
    rw [tal_row r x b w ss, tal_bump, List.map_cons, List.sum_cons, Nat.mul_add]
    omega
theorem tal_fold (r x : Nat) : ∀ (L acc : Lvl), (∀ p, p ∈ L → 2 ≤ p.1.length) → tal r x (L.foldl (fun acc p => rowOn r p.1 p.2 acc (steps p.1.length)) acc) = tal r x acc + tal r x L
  | [], acc, _ => rfl
  | p :: L, acc, h => by
    show tal r x (L.foldl _ (rowOn r p.1 p.2 acc (steps p.1.length))) = _
    rw [tal_fold r x L _ fun q hq => h q (List.mem_cons_of_mem _ hq), tal_row, ← oft_step (h p List.mem_cons_self)]
    show _ = tal r x acc + (p.2 * oft r x p.1 + tal r x L)
    omega
theorem tal_level {r x : Nat} {L : Lvl} (h : ∀ p, p ∈ L → 2 ≤ p.1.length) : tal r x (levelOn r L) = tal r x L := by
  unfold levelOn
  rw [tal_fold r x L [] h]
  show 0 + _ = _
  omega
/-- how many boards a level may have -/
def cap : Nat → Nat
  | 6 => 1
  | 5 => 15
  | 4 => 150
  | 3 => 900
  | _ => 2700
theorem cap_pos (n : Nat) : 1 ≤ cap n := by
  unfold cap
  split <;> decide
theorem cap_le (n : Nat) : cap n ≤ 2700 := by
  unfold cap
  split <;> decide
theorem cap_next {n : Nat} (h : 2 ≤ n) (h6 : n ≤ 6) : (steps n).length * cap n ≤ cap (n - 1) := by
  match n, h, h6 with
  | 2, _, _ => decide
  | 3, _, _ => decide
  | 4, _, _ => decide
  | 5, _, _ => decide
  | 6, _, _ => decide
  | n + 7, _, h => omega
/-- what a step keeps of a level -/
structure LvIn (r : Nat) (G : List Nat → Prop) (acc : Lvl) : Prop where
  nd : (acc.map (·.1)).Nodup
  pos : ∀ p, p ∈ acc → 1 ≤ p.2
  all : ∀ b, b ∈ acc.map (·.1) → G b
theorem LvIn.bump {r : Nat} {G : List Nat → Prop} {acc : Lvl} (I : LvIn r G acc) {b : List Nat} {w : Nat} (hw : 1 ≤ w) (hb : G b) : LvIn r G (bump acc b w) :=
  ⟨nodup_bump I.nd b w, pos_bump hw I.pos, fun c hc => (mem_bump.mp hc).elim (I.all c) fun q => q ▸ hb⟩
theorem LvIn.nil {r : Nat} {G : List Nat → Prop} : LvIn r G [] := ⟨List.nodup_nil, fun _ h => (nomatch h), fun _ h => (nomatch h)⟩
/-! ### at the end -/
/-- the numbers that can be the last, each with its ways -/
structure WayTab (r : Nat) (l : List Nat) (W : List (Nat × Nat)) : Prop where
  nd : (W.map (·.1)).Nodup
  mem : ∀ x, x ∈ W.map (·.1) ↔ x ∈ lastsOf r l
  ways : ∀ p, p ∈ W → p.2 = oft r p.1 l
  few : W.length ≤ 2700
def ends (L : Lvl) : List (Nat × Nat) := L.map fun p => (p.1.headD 0, p.2)
theorem oft_pos {r x : Nat} {l : List Nat} : 1 ≤ oft r x l ↔ x ∈ lastsOf r l := by
  unfold oft
  constructor
  · intro h
    obtain ⟨y, hy⟩ := List.exists_mem_of_length_pos h
    rw [List.mem_filter] at hy
    have : y = x := by simpa using hy.2
    exact this ▸ hy.1
  · intro h
    exact List.length_pos_of_mem (List.mem_filter.mpr ⟨h, by simp⟩)
theorem tal_ends {r x : Nat} : ∀ {L : Lvl}, (∀ p, p ∈ L → p.1.length = 1) → (L.map (·.1)).Nodup → (x ∉ (ends L).map (·.1) → tal r x L = 0) ∧ ∀ c, (x, c) ∈ ends L → tal r x L = c
  | [], _, _ => ⟨fun _ => rfl, fun c h => (nomatch h)⟩
  | p :: L, h, nd => by
    have nd := List.nodup_cons.mp nd
    obtain ⟨i1, i2⟩ := tal_ends (r := r) (x := x) (fun q hq => h q (List.mem_cons_of_mem _ hq)) nd.2
    have hp := h p List.mem_cons_self
    have e : tal r x (p :: L) = p.2 * (if p.1.headD 0 = x then 1 else 0) + tal r x L := by
      show p.2 * oft r x p.1 + _ = _
      rw [oft_one (by omega)]
    have hn : p.1.headD 0 = x → x ∉ (ends L).map (·.1) := fun q hm => by
      unfold ends at hm
      rw [List.map_map] at hm
      obtain ⟨y, hy, ey⟩ := List.mem_map.mp hm
      have ey : y.1.headD 0 = x := ey
      have hy1 := h y (List.mem_cons_of_mem _ hy)
      refine nd.1 (List.mem_map.mpr ⟨y, hy, ?_⟩)
      match p, y, hp, hy1, q, ey with
      | ([a], _), ([b], _), _, _, q, ey =>
        have q : a = x := q
        have ey : b = x := ey
        show [b] = [a]
        rw [q, ey]
    constructor
    · intro hx
      have h1 : ¬ p.1.headD 0 = x := fun q => hx (by unfold ends; rw [List.map_cons, List.map_cons, q]; exact List.mem_cons_self)
      rw [e, if_neg h1, i1 fun z => hx (by unfold ends at z ⊢; rw [List.map_cons, List.map_cons]; exact List.mem_cons_of_mem _ z)]
      omega
    · intro c hc
      unfold ends at hc
      rw [List.map_cons] at hc
      rcases List.mem_cons.mp hc with q | hc
      · cases q
        rw [e, if_pos rfl, i1 (hn rfl)]
        omega
      · have h1 : ¬ p.1.headD 0 = x := fun q => hn q (List.mem_map.mpr ⟨(x, c), hc, rfl⟩)
        rw [e, if_neg h1, i2 c hc]
        omega
theorem wayTab {r : Nat} {l : List Nat} {L : Lvl} (h1 : ∀ p, p ∈ L → p.1.length = 1) (nd : (L.map (·.1)).Nodup) (pos : ∀ p, p ∈ L → 1 ≤ p.2) (ht : ∀ x, tal r x L = oft r x l) (few : L.length ≤ 2700) : WayTab r l (ends L) where
  nd := by
    unfold ends
    rw [List.map_map]
    unfold List.Nodup at nd ⊢
    rw [List.pairwise_map] at nd ⊢
    refine List.Pairwise.imp_of_mem (fun {a b} ha hb hne q => hne ?_) nd
    have q : a.1.headD 0 = b.1.headD 0 := q
    match a, b, h1 a ha, h1 b hb, q with
    | ([x], _), ([y], _), _, _, q =>
      have q : x = y := q
      show [x] = [y]
      rw [q]
  mem := fun x => by
    rw [← oft_pos, ← ht]
    obtain ⟨t1, t2⟩ := tal_ends (r := r) (x := x) h1 nd
    constructor
    · intro hx
      obtain ⟨⟨y, c⟩, hy, rfl⟩ := List.mem_map.mp hx
      rw [t2 c hy]
      unfold ends at hy
      obtain ⟨p, hp, e⟩ := List.mem_map.mp hy
      cases e
      exact pos p hp
    · intro hx
      by_cases hm : x ∈ (ends L).map (·.1)
      · exact hm
      · rw [t1 hm] at hx
        omega
  ways := fun p hp => by
    rw [← ht]
    exact ((tal_ends (r := r) (x := p.1) h1 nd).2 p.2 hp).symm
  few := by
    unfold ends
    rw [List.length_map]
    exact few
theorem WayTab.get {r : Nat} {l : List Nat} {W : List (Nat × Nat)} (T : WayTab r l W) (x : Nat) : (x ∉ W.map (·.1) → oft r x l = 0) := fun h => by
  have : ¬ 1 ≤ oft r x l := fun z => h ((T.mem x).mpr (oft_pos.mp z))
  omega
/-! ### how many ways, as the program multiplies -/
def prodTo (n : Nat) : Nat → Nat
  | 0 => 1
  | i + 1 => prodTo n i * (steps (n - i)).length
theorem prod_is {n : Nat} (h : n ≤ 6) : prodTo n (n - 1) = wayCount n ∧ ∀ i, i ≤ n - 1 → prodTo n i ≤ 2700 := by
  match n, h with
  | 0, _ => decide
  | 1, _ => decide
  | 2, _ => decide
  | 3, _ => decide
  | 4, _ => decide
  | 5, _ => decide
  | 6, _ => decide
  | n + 7, h => omega
theorem wayCount_le {n : Nat} (h : n ≤ 6) : wayCount n ≤ 2700 := by
  have := prod_is h
  rw [← this.1]
  exact this.2 _ (Nat.le_refl _)
end Wb

end
section
set_option Elab.async false
set_option linter.all false
set_option maxRecDepth 100000
namespace L2
open PySem PySem.Spec PyProof.Rows
/-! ### numbers of some thousand bits -/
section
variable {X : Cx}
def CBig (i j : Int) : Prop := ∃ m : Nat, m ≤ 8000 ∧ i.natAbs < 2 ^ m ∧ j.natAbs < 2 ^ m
def CDivB (i j : Int) : Prop := 0 < j ∧ ∃ m : Nat, m ≤ 8000 ∧ j.natAbs < 2 ^ m
theorem op_mulB : OpR X (binaryOp .Mult) (rI CBig fun i j => .int (i * j)) := opI fun i j _ _ _ _ _ hc q => by
  obtain ⟨m, hm, h1, h2⟩ := hc
  exact mul_int q (IntMulOk.of_le (intBits_le_iff.mpr h1) (intBits_le_iff.mpr h2) (by omega))
theorem op_fdivB : OpR X (binaryOp .FloorDiv) (rI CDivB fun i j => .int (i / j)) := opI fun i j _ _ _ _ _ hc q => by
  obtain ⟨h0, m, hm, h1⟩ := hc
  refine floordiv_int (by omega) (by rw [Int.fdiv_eq_ediv_of_nonneg i (by omega)]; exact q) (.inl (PyProof.noPylong_of_log2 ?_))
  have : j.natAbs.log2 < m := (Nat.log2_lt (by omega)).mpr h1
  omega
/-! ### t + u, whatever is empty: an address with both behind one another -/
def rCatA (K : PySem.W.Frag) : R2 := fun x y H Q => ∃ a b xs ys, x = .ref a ∧ y = .ref b ∧ SqT K H a xs ∧ SqT K H b ys ∧ xs.length + ys.length ≤ sizeLine ∧
  ∀ p H', SqT K H' p (xs ++ ys) → Same H H' → Q (.ref p) H'
theorem same_upd {H : Hp} {p : Addr} {o : HO} (h : H p = Option.none) : Same H (upd H p o) := fun b u e => by
  rw [upd_ne (ne_of_none e h)]
  exact e
theorem op_catA : OpR X (binaryOp .Add) (rCatA X.K) := by
  intro pins s σ H x y v u Q I rx ry h
  obtain ⟨a, b, xs, ys, rfl, rfl, ha, hb, hz, q⟩ := h
  by_cases hx : xs = []
  · subst hx
    cases rx
    cases ry
    obtain ⟨its, r1, p1, _⟩ := I.tuple ha
    obtain ⟨its2, r2, p2, _⟩ := I.tuple hb
    have e1 : its = [] := r1.nil_iff.mpr rfl
    obtain ⟨m, F⟩ := I.fr
    refine add_tuples (news := []) F (fun p hp => nomatch hp) p1 p2 (fun _ => ⟨.ref b, H, I, rfl, q b H hb (Same.refl H)⟩) (fun z => (z e1).elim) (fun z => (z e1).elim) ?_
    rw [← r1.length, ← r2.length]
    exact hz
  · refine op_catT pins s σ H (.ref a) (.ref b) v u Q I rx ry ⟨a, b, xs, ys, rfl, rfl, ha, hb, hx, hz, fun z => ?_, fun z p hp => ?_⟩
    · subst z
      exact q a H (by rw [List.append_nil]; exact ha) (Same.refl H)
    · exact q p _ (SqT.of upd_same) (same_upd hp)
theorem Same.tup {K : PySem.W.Frag} {H H' : Hp} {a : Addr} {xs : List V} (e : Same H H') (h : SqT K H a xs) : SqT K H' a xs := by
  rcases h with (h | ⟨o, h⟩) | h
  · exact .inl (.inl (e _ _ h))
  · exact .inl (.inr ⟨o, e _ _ h⟩)
  · exact .inr h
end
/-! ### sorted of a list or a tuple of ints, any length -/
section
variable {prog : Program} {w : World} {A : Around} {E : Value → Shared → Prop} {s : Shared}
theorem gather_tup {l : Addr} {vs : List Value} {Q : List Value → Shared → Prop} (ht : IsTup s.heap l vs.toArray)
    (hq : Q vs { s with heap := (s.heap.push (seqObj "list" #[] 0)).update s.heap.objs.size (Obj.mapSeq (· ++ vs.toArray)) }) (hz : vs.length ≤ sizeLine) :
    wpAny (model prog w) A (collect (.ref l)) Q E s := by
  obtain ⟨o, ho, hc, n, hd⟩ := id ht
  unfold collect
  refine wpAny_bind (wpAny_runValue (codeAny_builtin entry_proto_collect' ?_))
  show wpAny _ _ (do again (.builtin "list.__iadd__" ⟨[← newList [], .ref l], []⟩)) _ _ s
  refine wpAny_bind (wpAny_newList (wpAny_pure ⟨Code.quiet_builtin _ (by decide +kernel), codeAny_builtin entry_list_iadd' ?_⟩))
  show wpAny _ _ (Builtin.List.listExtendWith (.ref s.heap.objs.size) (.ref l) (.ref s.heap.objs.size)) _ _ { s with heap := s.heap.push (seqObj "list" #[] 0) }
  unfold Builtin.List.listExtendWith
  have hp : (s.heap.push (seqObj "list" #[] 0)).get? l = some o := Heap.get?_push_of_some _ ho
  refine wpAny_bind (wpAny_typeOf (T := "tuple") ⟨o, hp, hc⟩ ?_)
  have tt : (Value.type "tuple" == Value.type "tuple") = true := by rfl
  rw [if_pos (by rw [tt]; simp)]
  refine wpAny_bind (listItems_at hp hd ?_)
  refine wpAny_bind (listItems_at (xs := #[]) (n := 0) (Heap.get?_push_size _ rfl) rfl ?_)
  rw [if_neg (by simp)]
  refine wpAny_bind (listUpdate_at (xs := #[]) (n := 0) (Heap.get?_push_size _ rfl) rfl ?_ (Nat.zero_le _) (by show (#[] ++ vs.toArray).size ≤ sizeLine + 1; simp only [Array.size_append, List.size_toArray, List.length_nil]; omega))
  refine wpAny_pure ?_
  show wpAny (model prog w) A (do
      let o ← load s.heap.objs.size
      match o.data with
      | .seq xs _ => pure xs.toList
      | _ => unsupported "internal:collect") Q E { s with heap := (s.heap.push (seqObj "list" #[] 0)).update s.heap.objs.size (Obj.mapSeq (· ++ vs.toArray)) }
  refine wpAny_bind (wpAny_load (get?_update_seq (Heap.get?_push_size _ rfl) _) ?_)
  show wpAny _ _ (pure ((#[] : Array Value) ++ vs.toArray).toList) Q E _
  rw [show ((#[] : Array Value) ++ vs.toArray).toList = vs by simp]
  exact wpAny_pure hq
theorem sorted_tup {l : Addr} {vs : List Value} {ns : List Int} {Q : Value → Shared → Prop} (ht : IsTup s.heap l vs.toArray) (hI : IntsAre vs ns) (hL : vs.length ≤ sizeLine)
    (h : ∀ (out : Array Value) (ns' : List Int), IntsAre out.toList ns' → ns'.Perm ns → ns'.Pairwise (· ≤ ·) → Q (.ref (s.heap.objs.size + 1)) { s with heap := sortedAll s.heap vs out }) :
    wpAny (model prog w) A (call (.builtin "sorted") [.ref l]) Q E s := by
  refine Calls.call_function_entry kind_sorted plain_sorted entry_sorted (args_sorted1 _) ?_
  unfold Builtin.«sorted»
  refine wpAny_bind (m := checkCount "sorted" 1 1 _) (wpAny_pure ?_)
  refine wpAny_bind (gather_tup ht ?_ hL)
  refine wpAny_bind (wpAny_newList ?_)
  have hs : ((s.heap.push (seqObj "list" #[] 0)).update s.heap.objs.size (Obj.mapSeq (· ++ vs.toArray))).objs.size = s.heap.objs.size + 1 := by
    rw [Heap.size_update, size_push']
  have ho : (((s.heap.push (seqObj "list" #[] 0)).update s.heap.objs.size (Obj.mapSeq (· ++ vs.toArray))).push (seqObj "list" vs.toArray 0)).get? (s.heap.objs.size + 1) = some (seqObj "list" vs.toArray 0) := by
    rw [← hs]; exact Heap.get?_push_size _ rfl
  show wpAny _ _ _ _ _ { s with heap := ((s.heap.push (seqObj "list" #[] 0)).update s.heap.objs.size (Obj.mapSeq (· ++ vs.toArray))).push (seqObj "list" vs.toArray 0) }
  rw [hs]
  refine wpAny_bind (wpAny_holding (wpAny_call_entry slot_list_sort ⟨_, ho, rfl⟩ entry_list_sort (list_sort_treeAny ho hI hL fun out ns' a1 a2 a3 => ⟨_, rfl, ?_⟩) (args_list_sort _)))
  exact wpAny_pure ⟨_, rfl, h out ns' a1 a2 a3⟩
end
section
variable {X : Cx}
def rSortedA (K : PySem.W.Frag) : List V → Hp → VK → Prop := fun vs H Q => ∃ (a : Addr) (ns : List Int), vs = [V.ref a] ∧ (SqL K H a (ns.map V.int) ∨ SqT K H a (ns.map V.int)) ∧
  ∀ (ns' : List Int) (p : Addr), ns'.Perm ns → ns'.Pairwise (· ≤ ·) → H p = none → Q (.ref p) (upd H p (.lst (ns'.map V.int)))
theorem cr_sortedA : CallR X (.builtin "sorted") (rSortedA X.K) := by
  intro pins s σ H vs us Q I r h
  obtain ⟨a, ns, rfl, hs, q⟩ := h
  rw [Vals.ref1 r]
  have fin : ∀ (its : List Value), IntsAre its ns → ns.length ≤ sizeLine → ∀ (out : Array Value) (ns' : List Int), IntsAre out.toList ns' → ns'.Perm ns → ns'.Pairwise (· ≤ ·) →
      EP X pins σ Q (.ref (s.heap.objs.size + 1)) { s with heap := sortedAll s.heap its out } := fun its hi hz out ns' h1 h2 h3 => by
    obtain ⟨ep, he'⟩ := PyProof.Rows.sortedAll_at s.heap its out
    have hlen : (ns'.map V.int).length ≤ sizeLine := by rw [List.length_map, h2.length_eq]; exact hz
    exact ⟨.ref _, upd H (s.heap.objs.size + 1) (.lst (ns'.map V.int)), I.laid (t' := s.toks) (fun _ _ => PyProof.Rows.sortedAll_old) (Nat.le_succ _) ⟨hlen, out.toList, ep, vals_of_ints h1, he'⟩, rfl,
      q ns' _ h2 h3 (I.hok.fresh (Nat.le_succ _))⟩
  rcases hs with hs | hs
  · obtain ⟨its, rv, hl, hz⟩ := I.list hs
    have hi := rv.ints
    rw [List.length_map] at hz
    exact PyProof.Rows.sorted_intsAny hl.isList hi (by rw [hi.length]; exact hz) (fin its hi hz)
  · obtain ⟨its, rv, hl, hz⟩ := I.tuple hs
    have hi := rv.ints
    rw [List.length_map] at hz
    exact sorted_tup hl hi (by rw [hi.length]; exact hz) (fin its hi hz)
end
/-! ### list(d) of a dict whose keys are tuples: the keys' own tuples, in their order -/
section
variable {prog : Program} {w : World} {A : Around}
theorem walks_keys (hh : A.handled = none) (I d : Addr) (hne : d ≠ I) (o : Obj) (es : Array DictEntry) (ep : Nat) (hx : o.ExactDict) (hd : o.data = .dict es ep) :
    Walks prog w A I [I, d] [I] es.size (fun i v => ∃ en, es[i]? = some en ∧ v = en.key) (fun i h => h.IsKeyIter I d i es.size ep ∧ h.get? d = some o) where
  sub := fun b hb => by simp at hb; simp [hb]
  frame := fun _ _ _ st hk => ⟨st.1.at fun o e => hk I (by simp) o e, hk d (by simp) o st.2⟩
  item := fun i s Q E hi st hQ => by
    obtain ⟨en, hen⟩ : ∃ en, es[i]? = some en := ⟨es[i], by simp [hi]⟩
    refine next_key_item st.1 st.2 hd rfl hen fun h' hit' hs' => ?_
    exact hQ en.key h' s.toks ⟨en, hen, rfl⟩ ⟨hit', (hs'.2 d hne).trans st.2⟩ fun b u hb e => (hs'.2 b (fun h => hb (by simp [h]))).trans e
  done := fun s Q E st hQ => next_key_end hh st.1 st.2 hd rfl (Nat.le_refl _) fun h' he' => hQ h' s.toks fun b u hb e => he' b u (fun h => hb (by simp [h])) e
  self := fun _ _ _ _ st hQ => wpAny_pyIter_keyiter st.1 hQ
theorem src_keys {d : Addr} {o : Obj} {es : Array DictEntry} {ep : Nat} (lo : (d == sysModules) = false) (hx : o.ExactDict) (hd : o.data = .dict es ep) :
    PySem.W.KdlSrc prog w "dict" d d es.size (fun i v => ∃ en, es[i]? = some en ∧ v = en.key) (fun h => h.get? d = some o) where
  type := fun _ hm => ⟨o, hm, hx.1⟩
  there := fun _ hm => ⟨Heap.lt_size hm, Heap.lt_size hm⟩
  keep := fun _ _ hm hk => hk d (.inl rfl) o hm
  notList := by decide
  notTuple := by decide
  hint := fun _ _ _ _ hm hq => PySem.W.kdl_hint_dict ⟨o, hm, hx.1⟩ hq
  iter := fun _ s hh hm => ⟨_, _, (fun _ _ hq => iter_keys lo hm hx hd hq), walks_keys hh _ d (Nat.ne_of_lt (Heap.lt_size hm)) o es ep hx hd, ⟨⟨_, Heap.get?_push_size _ rfl, rfl, rfl⟩, Heap.get?_push_of_some _ hm⟩⟩
end
section
variable {X : Cx}
theorem call_list_dT (hc : X.calm = true) : CallR X (.type "list") (fun xs H Q => ∃ (d : Addr) (kvs : List (List Key × V)), xs = [.ref d] ∧ H d = some (.dT kvs) ∧
    ∀ (l : Addr) (as : List Addr), H l = none → Paired (fun (a : Addr) (kv : List Key × V) => H a = some (.tup (kv.1.map kV))) as kvs → Q (.ref l) (upd H l (.lst (as.map V.ref)))) := by
  intro pins s σ H xs us Q I r h
  obtain ⟨d, kvs, rfl, hd, q⟩ := h
  rw [Vals.ref1 r]
  obtain ⟨z, lo, ys, pr, o, es, ep, ho, hx, hdt, he, _⟩ := I.hok d _ hd
  have l1 : es.size = ys.length := size_of_entries he
  have l2 : kvs.length = ys.length := Paired.length pr
  refine PySem.W.kdl_call (src_keys lo hx hdt) (I.ok.hd hc) ho (by omega) fun h' tk acc' c' hk hS hacc => ?_
  have key : ∀ (kvs : List (List Key × V)) (ys : List (List Key × Addr × Value)), Paired (fun (p : List Key × V) (q : List Key × Addr × Value) => p.1 = q.1 ∧ H q.2.1 = some (.tup (p.1.map kV)) ∧ RelV p.2 q.2.2) kvs ys →
      Paired (fun (a : Addr) (kv : List Key × V) => H a = some (.tup (kv.1.map kV))) (ys.map fun y => y.2.1) kvs := by
    intro kvs ys p
    induction p with
    | nil => exact .nil
    | cons h t ih => exact .cons h.2.1 ih
  have items : acc'.toList = ys.map fun y => Value.ref y.2.1 := by
    refine List.ext_getElem? fun i => ?_
    rw [Array.getElem?_toList]
    by_cases hi : i < es.size
    · obtain ⟨v, hv⟩ : ∃ v, acc'[i]? = some v := ⟨acc'[i]'(by rw [hacc.1]; exact hi), Array.getElem?_eq_getElem _⟩
      obtain ⟨en, hen, hve⟩ := hacc.2 i v hv
      obtain ⟨y, hy⟩ : ∃ y, ys[i]? = some y := ⟨ys[i]'(by omega), List.getElem?_eq_getElem _⟩
      have qe := entry_at he i
      rw [hy, hen] at qe
      rw [hv, List.getElem?_map, hy, hve]
      have : en = _ := Option.some.inj qe
      rw [this]
      rfl
    · rw [Array.getElem?_eq_none (by rw [hacc.1]; omega), List.getElem?_map, List.getElem?_eq_none (by omega)]
      rfl
  have vals : ∀ ys : List (List Key × Addr × Value), Vals ((ys.map fun y => y.2.1).map V.ref) (ys.map fun y => Value.ref y.2.1) := by
    intro ys
    induction ys with
    | nil => exact .nil
    | cons y ys ih => exact .cons rfl ih
  refine ⟨.ref s.heap.objs.size, upd H s.heap.objs.size (.lst ((ys.map fun y => y.2.1).map V.ref)), I.laid hk (Nat.le_refl _) ⟨?_, acc'.toList, c', ?_, ?_⟩, rfl, q _ _ (I.hok.fresh (Nat.le_refl _)) (key kvs ys pr)⟩
  · rw [List.length_map, List.length_map, ← l2]
    exact z
  · rw [items]
    exact vals ys
  · simpa using hS
end
end L2

end
section
set_option Elab.async false
set_option linter.all false
set_option maxRecDepth 100000
namespace L2
open PySem PySem.Spec PyProof.Rows
/-! ### places that rise -/
abbrev Rises (l : List Nat) : Prop := l.Pairwise (· < ·)
theorem getD_toList (xs : Array Nat) (i d : Nat) : xs.getD i d = xs.toList.getD i d := by
  rw [List.getD_eq_getElem?_getD, Array.getElem?_toList, Array.getD_eq_getD_getElem?]
theorem rises_le {l : List Nat} (h : Rises l) {i k d : Nat} (hik : i ≤ k) (hk : k < l.length) : l.getD i d ≤ l.getD k d := by
  rw [List.getD_eq_getElem?_getD, List.getD_eq_getElem?_getD, List.getElem?_eq_getElem (by omega), List.getElem?_eq_getElem hk]
  rcases Nat.lt_or_eq_of_le hik with q | rfl
  · exact Nat.le_of_lt ((List.pairwise_iff_getElem.mp h) i k (by omega) hk q)
  · exact Nat.le_refl _
/-- what `below` tells -/
structure BelowIs (l : List Nat) (j r : Nat) : Prop where
  le : r ≤ l.length
  lo : ∀ i, i < r → l.getD i j < j
  hi : ∀ i, r ≤ i → i < l.length → j ≤ l.getD i j
theorem below_go {xs : Array Nat} (h : Rises xs.toList) (j : Nat) : ∀ (f lo hi : Nat), hi - lo ≤ f → lo ≤ hi → hi ≤ xs.size → (∀ i, i < lo → xs.toList.getD i j < j) → (∀ i, hi ≤ i → i < xs.toList.length → j ≤ xs.toList.getD i j) →
    BelowIs xs.toList j (SetTable.below.go xs j f lo hi)
  | 0, lo, hi, hf, h1, h2, a, b => by
    have : lo = hi := by omega
    subst this
    show BelowIs _ _ lo
    exact ⟨by simpa using h2, a, b⟩
  | f + 1, lo, hi, hf, h1, h2, a, b => by
    show BelowIs _ _ (if lo < hi then (if xs.getD ((lo + hi) / 2) j < j then SetTable.below.go xs j f ((lo + hi) / 2 + 1) hi else SetTable.below.go xs j f lo ((lo + hi) / 2)) else lo)
    by_cases hlt : lo < hi
    · rw [if_pos hlt]
      have hs : xs.toList.length = xs.size := Array.length_toList
      by_cases hm : xs.getD ((lo + hi) / 2) j < j
      · rw [if_pos hm]
        rw [getD_toList] at hm
        refine below_go h j f _ _ (by omega) (by omega) h2 (fun i hi' => ?_) b
        exact Nat.lt_of_le_of_lt (rises_le h (Nat.le_of_lt_succ hi') (by omega)) hm
      · rw [if_neg hm]
        rw [getD_toList] at hm
        refine below_go h j f _ _ (by omega) (by omega) (by omega) a (fun i h3 h4 => ?_)
        exact Nat.le_trans (Nat.le_of_not_lt hm) (rises_le h h3 h4)
    · rw [if_neg hlt]
      have : lo = hi := by omega
      subst this
      exact ⟨by simpa using h2, a, b⟩
theorem below_is {xs : Array Nat} (h : Rises xs.toList) (j : Nat) : BelowIs xs.toList j (SetTable.below xs j) :=
  below_go h j _ _ _ (by omega) (Nat.zero_le _) (Nat.le_refl _) (fun i z => absurd z (Nat.not_lt_zero _)) (fun i z1 z2 => by rw [Array.length_toList] at z2; omega)
theorem put_rises {xs : Array Nat} (h : Rises xs.toList) {j : Nat} (hne : xs[SetTable.below xs j]? ≠ some j) : Rises (SetTable.insertAt xs (SetTable.below xs j) j).toList := by
  have B := below_is h j
  rw [SetTable.toList_insertAt]
  rw [← Array.getElem?_toList] at hne
  generalize SetTable.below xs j = r at B hne
  refine List.pairwise_append.mpr ⟨h.sublist (List.take_sublist _ _), List.pairwise_cons.mpr ⟨fun y hy => ?_, h.sublist (List.drop_sublist _ _)⟩, fun x hx y hy => ?_⟩
  · obtain ⟨k, hk⟩ := List.mem_iff_getElem?.mp hy
    rw [List.getElem?_drop] at hk
    have hl : r + k < xs.toList.length := (List.getElem?_eq_some_iff.mp hk).1
    have h0 := B.hi r (Nat.le_refl _) (by omega)
    have h1 : xs.toList.getD r j ≤ xs.toList.getD (r + k) j := rises_le h (by omega) hl
    rw [List.getD_eq_getElem?_getD, List.getD_eq_getElem?_getD (l := xs.toList) (i := r + k), hk] at h1
    rw [List.getD_eq_getElem?_getD] at h0
    rw [List.getElem?_eq_getElem (show r < xs.toList.length by omega)] at h0 h1 hne
    have h1 : xs.toList[r] ≤ y := h1
    have h0 : j ≤ xs.toList[r] := h0
    have : xs.toList[r] ≠ j := fun z => hne (by rw [z])
    omega
  · have hxj : x < j := by
      obtain ⟨k, hk⟩ := List.mem_iff_getElem?.mp hx
      have hl := (List.getElem?_eq_some_iff.mp hk).1
      rw [List.length_take] at hl
      rw [List.getElem?_take_of_lt (by omega)] at hk
      have := B.lo k (by omega)
      rw [List.getD_eq_getElem?_getD, hk] at this
      exact this
    rcases List.mem_cons.mp hy with rfl | hy
    · exact hxj
    · obtain ⟨k, hk⟩ := List.mem_iff_getElem?.mp hy
      rw [List.getElem?_drop] at hk
      have hl : r + k < xs.toList.length := (List.getElem?_eq_some_iff.mp hk).1
      have := B.hi (r + k) (by omega) hl
      rw [List.getD_eq_getElem?_getD, hk] at this
      exact Nat.lt_of_lt_of_le hxj this
theorem slot_free {t : SetTable} {j : Nat} (h : ∀ i, t.slot j ≠ .live i) : t.place[SetTable.below t.place j]? ≠ some j := by
  intro e
  refine h (SetTable.below t.place j) ?_
  show (if (t.place[SetTable.below t.place j]? == some j) = true then SetTable.Slot.live (SetTable.below t.place j) else _) = _
  rw [e, if_pos (beq_self_eq_true _)]
theorem probe_free {t : SetTable} {g : Nat → Int} {hv : Int} {j : Nat} {dm : Option Nat} : ∀ (f : Nat) (p : SetTable.Probe), (∀ d, p.dummy = some d → t.slot d = .dummy) → SetTable.probe.go t g hv f p = some (.empty j dm) →
    t.slot j = .empty ∧ ∀ d, dm = some d → t.slot d = .dummy
  | 0, p, _, e => by cases e
  | f + 1, p, hp, e => by
    unfold SetTable.probe.go at e
    have adv : ∀ q : SetTable.Probe, (t.advance q).dummy = q.dummy := fun q => by
      unfold SetTable.advance
      split <;> rfl
    split at e
    · rename_i hs
      cases e
      exact ⟨hs, hp⟩
    · rename_i hs
      refine probe_free f _ (fun d hd => ?_) e
      rw [adv] at hd
      cases hd
      exact hs
    · rename_i i hs
      split at e
      · cases e
      · refine probe_free f _ (fun d hd => ?_) e
        rw [adv] at hd
        exact hp d hd
/-- a table that a walk can follow; b: the order is the text's -/
structure Tb (b : Bool) (t : SetTable) : Prop where
  led : b = false → t.led = true
  up : Rises t.place.toList
theorem Tb.fresh (b : Bool) : Tb b (.fresh 0 0 (!b)) := ⟨fun h => by rw [h]; rfl, List.Pairwise.nil⟩
theorem Tb.off {b : Bool} {t : SetTable} (T : Tb b t) : Tb b { t with plain := false } := ⟨T.led, T.up⟩
theorem Tb.standIn {b : Bool} {t : SetTable} (T : Tb b t) (n : Nat) : Tb b (t.standIn n) := ⟨T.led, by
  show Rises (Array.range n).toList
  rw [Array.toList_range]
  exact List.pairwise_lt_range⟩
theorem Tb.layNew {b : Bool} {t : SetTable} (T : Tb b t) (es : Array (Int × Value)) (h : Int) (x : Value) : Tb b (PySem.layNew t es h x).2.1 := by
  unfold PySem.layNew
  split
  · rename_i slot wd e
    have hne : t.place[SetTable.below t.place slot]? ≠ some slot := by
      unfold SetTable.freeSlot at e
      split at e
      · rename_i j dm he
        unfold SetTable.probe at he
        obtain ⟨z1, z2⟩ := probe_free _ _ (fun d hd => by cases hd) he
        cases e
        refine slot_free fun i q => ?_
        cases dm with
        | none =>
          rw [show (none : Option Nat).getD j = j from rfl, z1] at q
          cases q
        | some d =>
          rw [show (some d : Option Nat).getD j = d from rfl, z2 d rfl] at q
          cases q
      · cases e
    have T' : Tb b (t.put slot).1 := ⟨T.led, put_rises T.up hne⟩
    show Tb b ((t.put slot).1.orStandIn _)
    unfold SetTable.orStandIn
    split
    · exact T'
    · exact T'.standIn _
  · exact T.standIn _
theorem laid_rises {m f mv : Nat} {led pl : Bool} {hs : Array Int} {t : SetTable} {o : Array Nat} (h : SetTable.laid m f mv led pl hs = some (t, o)) : t.led = led ∧ Rises t.place.toList := by
  unfold SetTable.laid at h
  cases e : SetTable.layClean m hs with
  | none =>
    rw [e] at h
    cases h
  | some ow =>
    rw [e] at h
    have h : some _ = some (t, o) := h
    cases h
    refine ⟨rfl, ?_⟩
    show Rises (List.map _ _).toArray.toList
    rw [List.toList_toArray]
    unfold Rises
    rw [List.pairwise_map]
    refine List.Pairwise.filterMap (R := (· < ·)) _ (fun a a' hlt c hc c' hc' => ?_) List.pairwise_lt_range
    obtain ⟨x, _, rfl⟩ := Option.map_eq_some_iff.mp hc
    obtain ⟨y, _, rfl⟩ := Option.map_eq_some_iff.mp hc'
    exact hlt
theorem Tb.relay {b : Bool} {t : SetTable} (T : Tb b t) (es : Array (Int × Value)) (n : Nat) : Tb b (PySem.relayAll t es n).2.1 := by
  unfold PySem.relayAll
  split
  · rename_i t' o e
    unfold SetTable.relaid at e
    obtain ⟨z1, z2⟩ := laid_rises e
    dsimp only
    split
    · exact ⟨fun q => by rw [z1]; exact T.led q, z2⟩
    · exact T.standIn _
  · exact T.standIn _
end L2

end
section
set_option Elab.async false
set_option linter.all false
set_option maxRecDepth 100000
namespace L2
open PySem PySem.Spec PyProof.Rows
def intOf : Value → Int
  | .int i _ => i
  | _ => 0
abbrev IK (P : Program) (w : World) := PySem.intKind P w
theorem is_int {P : Program} {w : World} {k : Int} {v : Value} (h : (IK P w).is k v = true) : ∃ t, v = .int k t := Value.isInt_shape h
/-- the set at a holds the numbers of M, each once -/
def SetG (P : Program) (w : World) (b : Bool) (h : Heap) (a : Addr) (M : List Int) : Prop :=
  ∃ (o : Obj) (es : Array (Int × Value)) (ep : Nat) (t : SetTable), h.get? a = some o ∧ o.ExactSet ∧ o.data = .set es ep t ∧ ElemsOf (IK P w) es.toList ∧ (es.toList.map fun e => intOf e.2).Perm M ∧ es.size < scanBound ∧ t.fits es.size = true ∧ Tb b t
section
variable {P : Program} {w : World} {A : Around} {E : Value → Shared → Prop} {s : Shared} {b : Bool} {a : Addr} {M : List Int}
theorem SetG.at {h h' : Heap} (x : SetG P w b h a M) (k : ∀ o, h.get? a = some o → h'.get? a = some o) : SetG P w b h' a M := by
  obtain ⟨o, es, ep, t, z, r⟩ := x
  exact ⟨o, es, ep, t, k o z, r⟩
theorem find_at {es : List (Int × Value)} {k : Int} (hE : ElemsOf (IK P w) es) : (∃ j, es.findIdx? (fun e => (IK P w).is k e.2) = some j) ↔ k ∈ es.map fun e => intOf e.2 := by
  have key : ∀ e, e ∈ es → ((IK P w).is k e.2 = true ↔ intOf e.2 = k) := fun e he => by
    obtain ⟨⟨k', h1, _⟩, _⟩ := hE e he
    obtain ⟨t, ht⟩ := is_int h1
    rw [ht]
    constructor
    · intro h2
      obtain ⟨t', e2⟩ := is_int h2
      cases e2
      rfl
    · intro h2
      have h2 : k' = k := h2
      rw [h2]
      exact intKind_is _ _ _ _
  rw [← Option.isSome_iff_exists, List.findIdx?_isSome, List.any_eq_true, List.mem_map]
  exact ⟨fun ⟨e, he, q⟩ => ⟨e, he, (key e he).mp q⟩, fun ⟨e, he, q⟩ => ⟨e, he, (key e he).mpr q⟩⟩
theorem store_g {es es' : Array (Int × Value)} {t t' : SetTable} {o : Obj} {ep : Nat} {Q : Unit → Shared → Prop} (ho : s.heap.get? a = some o) (hx : o.ExactSet) (hd : o.data = .set es ep t) (hE : ElemsOf (IK P w) es'.toList) (hP : (es'.toList.map fun e => intOf e.2).Perm M)
    (hb : es'.size < scanBound) (hf : t'.fits es'.size = true) (hT : Tb b t')
    (h : ∀ h' o', h'.get? a = some o' → o'.ExactSet → o'.data = .set es' (ep + 1) t' → SetG P w b h' a M → Heap.SameBut a s.heap h' → Q () { s with heap := h' }) : wpAny (model P w) A (storeSet a es' t') Q E s := by
  refine wpAny_storeSet_of ho hd ?_ (fits_of_scanBound hb)
  have g := Heap.get?_update_self (Obj.putSet es' t') ho (by rw [putSet_of es' t' hd]; rfl)
  rw [putSet_of es' t' hd] at g
  exact h _ _ g hx rfl ⟨_, es', ep + 1, t', g, hx, rfl, hE, hP, hb, hf, hT⟩ (Heap.SameBut.update ..)
theorem say_g {g : Bool} {Q : Unit → Shared → Prop} {m : String} (h : Q () s) : wpAny (model P w) A (match g with | true => rule m | false => pure ()) Q E s := by
  cases g
  · exact wpAny_pure h
  · exact wpAny_rule h
/-- the set takes k -/
theorem add_g {k : Int} {tk : Tok} {Q : Bool → Shared → Prop} (hS : SetG P w b s.heap a M) (room : M.length + 1 < scanBound)
    (h : ∀ h' r, Heap.SameBut a s.heap h' → SetG P w b h' a (if k ∈ M then M else M ++ [k]) → Q r { s with heap := h' }) : wpAny (model P w) A (setAddHashed a (.int k tk) ((IK P w).hash k)) Q E s := by
  obtain ⟨o, es, ep, t, ho, hx, hd, hE, hP, hb, hf, hT⟩ := hS
  have hk := intKind_is P w k tk
  have hl : es.size = M.length := by
    have := hP.length_eq
    rw [List.length_map, Array.length_toList] at this
    exact this
  unfold setAddHashed setAddHashedIn
  refine wpAny_holding ?_
  refine wpAny_bind (wpAny_setState_of ho hd hf ?_)
  show wpAny _ _ (if byScan (.int k tk) es = true then _ else _) _ _ _
  rw [if_pos (byScan_of (knd := IK P w) rfl hb hE)]
  unfold setAddByScan
  refine wpAny_bind (wpAny_bind (wpAny_rule ?_))
  refine wpAny_bind (wpAny_setScan_of (knd := IK P w) hk ho hd hf hE ?_)
  cases hr : es.toList.findIdx? (fun e => (IK P w).is k e.2) with
  | some j =>
    have hm : k ∈ M := hP.mem_iff.mp ((find_at hE).mp ⟨j, hr⟩)
    refine wpAny_pure (wpAny_pure ?_)
    refine h s.heap false (Heap.SameBut.refl ..) ?_
    rw [if_pos hm]
    exact ⟨o, es, ep, t, ho, hx, hd, hE, hP, hb, hf, hT⟩
  | none =>
    have hm : k ∉ M := fun z => by
      obtain ⟨j, hj⟩ := (find_at (k := k) hE).mpr (hP.mem_iff.mpr z)
      rw [hr] at hj
      cases hj
    rw [if_neg hm] at h
    have p1 := layNew_perm t es ((IK P w).hash k) (.int k tk)
    have f1 := layNew_fits t es ((IK P w).hash k) (.int k tk)
    have T1 := hT.layNew es ((IK P w).hash k) (.int k tk)
    dsimp only
    generalize layNew t es ((IK P w).hash k) (.int k tk) = q at p1 f1 T1 ⊢
    obtain ⟨es1, t1, wd, gv⟩ := q
    dsimp only at p1 f1 T1 ⊢
    rw [Array.toList_push] at p1
    have E1 : ElemsOf (IK P w) es1.toList := (hE.push hk rfl).perm p1
    have P1 : (es1.toList.map fun e => intOf e.2).Perm (M ++ [k]) := by
      refine (p1.map _).trans ?_
      rw [List.map_append]
      exact hP.append_right _
    have l1 : es1.size = M.length + 1 := by
      have := P1.length_eq
      rw [List.length_map, Array.length_toList, List.length_append] at this
      exact this
    have b1 : es1.size < scanBound := by omega
    refine wpAny_bind (wpAny_mono (say_g (Q := fun _ s' => s' = s) rfl) (fun _ s' z => ?_) fun _ _ z => z)
    subst z
    have rest : ∀ t2 : SetTable, Tb b t2 → t2.fits es1.size = true → wpAny (model P w) A (do
        storeSet a es1 t2
        if (!wd && t2.tooFull) = true then do
            (match (relayAll t2 es1 (SetTable.grown es1.size)).2.2 with | true => rule "set.scan.the-table-gave-way" | false => pure ())
            storeSet a (relayAll t2 es1 (SetTable.grown es1.size)).1 (relayAll t2 es1 (SetTable.grown es1.size)).2.1
            pure (some true)
          else pure (some true)) (fun r s₁ => wpAny (model P w) A (match r with
            | some added => pure added
            | none => setAddHashedIn a (.int k tk) ((IK P w).hash k) 99999) Q E s₁) E s' := fun t2 T2 f2 => by
      refine wpAny_bind (store_g ho hx hd E1 P1 b1 f2 T2 fun h1 o1 g1 x1 d1 S1 sb1 => ?_)
      split
      · have p2 := relayAll_perm t2 es1 (SetTable.grown es1.size)
        have f3 := relayAll_fits t2 es1 (SetTable.grown es1.size)
        have T3 := T2.relay es1 (SetTable.grown es1.size)
        generalize relayAll t2 es1 (SetTable.grown es1.size) = q at p2 f3 T3 ⊢
        obtain ⟨es2, t3, gv2⟩ := q
        dsimp only at p2 f3 T3 ⊢
        have l2 : es2.size = es1.size := by
          have := p2.length_eq
          rw [Array.length_toList, Array.length_toList] at this
          exact this
        refine wpAny_bind (say_g ?_)
        exact wpAny_bind (store_g g1 x1 d1 (E1.perm p2) ((p2.map _).trans P1) (by omega) f3 T3 fun h2 _ _ _ _ S2 sb2 => wpAny_pure (wpAny_pure (h h2 true (sb1.trans sb2) S2)))
      · exact wpAny_pure (wpAny_pure (h h1 true sb1 S1))
    split
    · refine wpAny_bind ?_
      rw [hashByValue_scannable 8 (show (Value.int k tk).scannable = true from rfl)]
      refine wpAny_pure (rest _ ?_ ?_)
      · split
        · exact T1
        · exact T1.off
      · split
        · exact f1
        · exact SetTable.fits_plain_off f1
    · exact wpAny_bind (wpAny_pure (rest _ (by rw [if_pos rfl]; exact T1) (by rw [if_pos rfl]; exact f1)))
end
end L2

end
section
set_option Elab.async false
set_option linter.all false
set_option maxRecDepth 100000
namespace L2
open PySem PySem.Spec PyProof.Rows
def metStep (M : List Int) (k : Int) : List Int := if k ∈ M then M else M ++ [k]
/-- the numbers in the order in which they are first met -/
def met (ns : List Int) : List Int := ns.foldl metStep []
theorem met_snoc (ns : List Int) (k : Int) : met (ns ++ [k]) = metStep (met ns) k := by
  unfold met
  rw [List.foldl_append]
  rfl
theorem fold_met : ∀ (ns M : List Int), M.Nodup → (ns.foldl metStep M).Nodup ∧ (∀ x, x ∈ ns.foldl metStep M ↔ x ∈ M ∨ x ∈ ns) ∧ (ns.foldl metStep M).length ≤ M.length + ns.length
  | [], M, h => ⟨h, fun x => by simp, Nat.le_refl _⟩
  | k :: ns, M, h => by
    have h1 : (metStep M k).Nodup ∧ (∀ x, x ∈ metStep M k ↔ x ∈ M ∨ x = k) ∧ (metStep M k).length ≤ M.length + 1 := by
      unfold metStep
      by_cases e : k ∈ M
      · rw [if_pos e]
        refine ⟨h, fun x => ⟨.inl, fun z => z.elim id fun q => q ▸ e⟩, by omega⟩
      · rw [if_neg e]
        refine ⟨?_, fun x => by simp, by rw [List.length_append]; exact Nat.le_refl _⟩
        rw [List.nodup_append]
        exact ⟨h, by simp, fun x hx y hy q => e (by rw [List.mem_singleton.mp hy] at q; exact q ▸ hx)⟩
    obtain ⟨a1, a2, a3⟩ := h1
    obtain ⟨b1, b2, b3⟩ := fold_met ns _ a1
    refine ⟨b1, fun x => ?_, ?_⟩
    · show x ∈ ns.foldl metStep (metStep M k) ↔ _
      rw [b2, a2, List.mem_cons]
      constructor
      · rintro ((q | q) | q)
        · exact .inl q
        · exact .inr (.inl q)
        · exact .inr (.inr q)
      · rintro (q | q | q)
        · exact .inl (.inl q)
        · exact .inl (.inr q)
        · exact .inr q
    · show (ns.foldl metStep (metStep M k)).length ≤ _
      rw [List.length_cons]
      omega
theorem met_nodup (ns : List Int) : (met ns).Nodup := (fold_met ns [] List.nodup_nil).1
theorem mem_met (ns : List Int) (x : Int) : x ∈ met ns ↔ x ∈ ns := by
  rw [show (x ∈ met ns) = (x ∈ ns.foldl metStep []) from rfl, (fold_met ns [] List.nodup_nil).2.1]
  simp
theorem met_length (ns : List Int) : (met ns).length ≤ ns.length := by
  have := (fold_met ns [] List.nodup_nil).2.2
  rw [List.length_nil, Nat.zero_add] at this
  exact this
section
variable {P : Program} {w : World} {A : Around} {E : Value → Shared → Prop} {s : Shared} {b : Bool} {S I l : Addr} {items : Array Value} {ns : List Int}
theorem loop_g {R : Result → Shared → Prop} (hh : A.in1.handled = none) (hi : IntsAre items.toList ns) (hb : items.size + 1 < scanBound) (nSI : S ≠ I) (nSl : S ≠ l) (nlI : l ≠ I) :
    ∀ (k i : Nat) (s : Shared), items.size - i = k → i ≤ items.size → s.heap.IsListIter I l i ∧ s.heap.IsList l items → SetG P w b s.heap S (met (ns.take i)) →
      (∀ h' tk, (∀ c o, c ≠ S → c ≠ I → s.heap.get? c = some o → h'.get? c = some o) → SetG P w b h' S (met ns) → R (.ok (.ret .none)) { s with heap := h', toks := tk }) →
      codeAny (model P w) A (.builtin "set.update.loop" ⟨[.ref S, .ref I], []⟩) R s := by
  have W := Walks.list (prog := P) (w := w) hh I l nlI items
  have hn : items.size = ns.length := by
    have := hi.length
    rw [Array.length_toList] at this
    exact this
  intro k
  induction k with
  | zero =>
    intro i s hk hle st hS q
    have : i = items.size := by omega
    subst this
    refine codeAny_builtin PyProof.Rows.F.entry_set_update_loop ?_
    rw [Around.under_plainId PyProof.Rows.F.plain_set_update_loop _]
    refine wpAny_bind (W.done s _ _ st fun h' tk kk => ?_)
    rw [hn, List.take_length] at hS
    exact wpAny_pure (q h' tk (fun c o _ c2 e => kk c o (by simpa using c2) e) (hS.at fun o e => kk S o (by simpa using nSI) e))
  | succ k ih =>
    intro i s hk hle st hS q
    have hlt : i < items.size := by omega
    refine codeAny_builtin PyProof.Rows.F.entry_set_update_loop ?_
    rw [Around.under_plainId PyProof.Rows.F.plain_set_update_loop _]
    refine wpAny_bind (W.item i s _ _ hlt st fun v h' tk hv st' kk => ?_)
    obtain ⟨t, rfl⟩ := hi.int_at i v (by rw [Array.getElem?_toList]; exact hv)
    have hS' : SetG P w b h' S (met (ns.take i)) := hS.at fun o e => kk S o (by simpa using nSI) e
    show wpAny _ A.in1 (holding [Value.int (ns.getD i 0) t] (setAdd S (.int (ns.getD i 0) t)) >>= _) _ _ _
    refine wpAny_bind (wpAny_holding ?_)
    unfold setAdd
    refine wpAny_holding (wpAny_bind ((IK P w).pyHash (k := ns.getD i 0) (intKind_is ..) ?_))
    have room : (met (ns.take i)).length + 1 < scanBound := by
      have h1 := met_length (ns.take i)
      rw [List.length_take] at h1
      omega
    refine add_g (s := { s with heap := h', toks := tk + 1 }) hS' room fun h2 r sb S2 => ?_
    have sb : Heap.SameBut S h' h2 := sb
    have e : (if ns.getD i 0 ∈ met (ns.take i) then met (ns.take i) else met (ns.take i) ++ [ns.getD i 0]) = met (ns.take (i + 1)) := by
      have hi2 : i < ns.length := by omega
      rw [List.take_add_one, List.getElem?_eq_getElem hi2, List.getD_eq_getElem?_getD, List.getElem?_eq_getElem hi2]
      show metStep _ _ = met (ns.take i ++ [ns[i]])
      rw [met_snoc]
      rfl
    rw [e] at S2
    have k2 : ∀ c o, c ≠ S → h'.get? c = some o → h2.get? c = some o := fun c o hc z => by rw [sb.2 c hc]; exact z
    refine wpAny_pure ⟨plainId_quiet PyProof.Rows.F.plain_set_update_loop _, ih (i + 1) _ (by omega) hlt ⟨st'.1.at fun o z => k2 I o (Ne.symm nSI) z, st'.2.at fun o z => k2 l o (Ne.symm nSl) z⟩ S2 fun h3 tk3 k3 S3 => ?_⟩
    exact q h3 tk3 (fun c o c1 c2 z => k3 c o c1 c2 (k2 c o c1 (kk c o (by simpa using c2) z))) S3
def byText (w : World) : Bool := w.params.followText "set-order"
abbrev emptySet (w : World) : Obj := { cls := .type "set", dict := none, data := .set #[] 0 (.fresh 0 0 (!byText w)) }
theorem new_g {x : Value} {Q : Value → Shared → Prop} (h : Q (.ref s.heap.objs.size) { s with heap := s.heap.push (emptySet w) }) :
    codeAny (model P w) A (.call (.builtin "set.__new__") ⟨[.type "set", x], []⟩) (wants Q E) s := by
  refine codeAny_of_tree ?_
  show wpAny _ A.in1 (checkBuiltinCall "set.__new__" ⟨[.type "set", x], []⟩ >>= fun _ => again (.builtin "set.__new__" ⟨[.type "set", x], []⟩)) _ _ s
  refine wpAny_bind (wpAny_of_eq (PySem.F.newCall_set_1 x) (wpAny_pure ⟨plainId_quiet PySem.F.plain_set_new _, codeAny_builtin PySem.F.entry_set_new ?_⟩))
  rw [Around.under_plainId PySem.F.plain_set_new _]
  have sub := sub_set_self
  unfold Builtin.«set.__new__» Builtin.Frozenset.newClass
  obtain ⟨hp, g, d, tk, os⟩ := s
  dsimp only
  wp_walk
  refine wpAny_askSetting (wpAny_pure ?_)
  dsimp only
  simp only [newObj]
  exact wpAny_bind (wpAny_alloc (wpAny_pure (wpAny_pure h)))
set_option maxHeartbeats 4000000 in
theorem call_set_g {Q : Value → Shared → Prop} (hh : A.handled = none) (hl : s.heap.IsList l items) (hi : IntsAre items.toList ns) (hb : items.size + 1 < scanBound)
    (h : ∀ h' tk, SetG P w (byText w) h' s.heap.objs.size (met ns) → (∀ c o, s.heap.get? c = some o → h'.get? c = some o) → Q (.ref s.heap.objs.size) { s with heap := h', toks := tk }) :
    wpAny (model P w) A (call (.type "set") [.ref l]) Q E s := by
  obtain ⟨c1, c2, mro⟩ := PySem.F.called_set.mro
  have made := PySem.F.called_set.made
  have subs := PySem.F.called_set.sub
  have nt := PySem.F.called_set.notType
  have cc := PySem.F.called_set.canCreate
  have tc := PySem.F.typeCall_set_1 (.ref l)
  refine wpAny_call (codeAny_of_tree ?_)
  refine wpAny_pure ⟨Code.quiet_builtin _ (by decide +kernel), codeAny_builtin PySem.F.entry_type_call ?_⟩
  rw [Around.under_plain (weight_type_call_type "set" [.ref l] []) rfl]
  repeat (any_goals (first | assumption | wp_step))
  refine codeAny_mono (new_g (x := .ref l) (E := E) (Q := fun v s1 => v = .ref s.heap.objs.size ∧ s1 = { s with heap := s.heap.push (emptySet w) }) ⟨rfl, rfl⟩) fun r s1 hr => ?_
  match r, hr with
  | .error e, hr => exact hr
  | .ok (.ret v), hr =>
    obtain ⟨rfl, rfl⟩ := hr
    have gS : (s.heap.push (emptySet w)).get? s.heap.objs.size = some (emptySet w) := Heap.get?_push_size _ rfl
    have tS : Shared.TypeIs { s with heap := s.heap.push (emptySet w) } (.ref s.heap.objs.size) "set" := ⟨_, gS, rfl⟩
    have li := PySem.F.called_set.init.lookup
    have bi := PySem.F.called_set.init.bind (.ref s.heap.objs.size)
    repeat (any_goals (first | assumption | wp_step))
    refine codeAny_mono (codeAny_call_builtin (R := wants (fun v s2 => v = .none ∧ ∃ h' tk, s2 = { s with heap := h', toks := tk } ∧ SetG P w (byText w) h' s.heap.objs.size (met ns) ∧ (∀ c o, s.heap.get? c = some o → h'.get? c = some o)) E)
      PySem.F.called_set.init.plain PySem.F.entry_set_init (check_set_init_1 tS ?_)) fun r2 s2 hr2 => ?_
    · obtain ⟨⟨cl, di, da, sl⟩, ol, hc, n, hd⟩ := hl
      simp only at hc hd
      subst hc hd
      have ol1 : (s.heap.push (emptySet w)).get? l = some { cls := .type "list", dict := di, data := .seq items n, slots := sl } := Heap.get?_push_of_some _ ol
      have z1 := PySem.F.sub_list_set
      have z2 := PySem.F.sub_list_frozenset
      have z3 : (Value.type "list" == Value.type "dict") = false := by decide
      have il : (s.heap.push (emptySet w)).IsList l items := ⟨_, ol1, rfl, n, rfl⟩
      unfold Builtin.«set.__init__» noKeywords Builtin.Frozenset.updateFrom
      generalize eq : pyIter = it
      wp_walk
      subst eq
      refine wpAny_pyIter_list il (wpAny_bind (wpAny_runValue ?_))
      have ll : l < s.heap.objs.size := Heap.lt_size ol
      have sz : (s.heap.push (emptySet w)).objs.size = s.heap.objs.size + 1 := size_push' ..
      refine loop_g (b := byText w) (by simp [hh]) hi hb ?_ (Nat.ne_of_gt ll) ?_ items.size 0 _ (Nat.sub_zero _) (Nat.zero_le _) ⟨⟨_, Heap.get?_push_size _ rfl, rfl, rfl⟩, il.push _⟩ ?_ fun h' tk kk S' => ?_
      · rw [sz]
        exact Nat.ne_of_lt (Nat.lt_succ_self _)
      · rw [sz]
        exact Nat.ne_of_lt (Nat.lt_succ_of_lt ll)
      · exact ⟨_, #[], 0, _, Heap.get?_push_of_some _ gS, ⟨rfl, rfl, rfl⟩, rfl, fun e he => (nomatch he), List.Perm.refl _, by decide, rfl, Tb.fresh _⟩
      · refine wpAny_pure (wpAny_pure ⟨rfl, h', tk, rfl, S', fun c o e => ?_⟩)
        have lc : c < s.heap.objs.size := Heap.lt_size e
        exact kk c o (Nat.ne_of_lt lc) (by rw [sz]; exact Nat.ne_of_lt (Nat.lt_succ_of_lt lc)) (Heap.get?_push_of_some _ (Heap.get?_push_of_some _ e))
    · match r2, hr2 with
      | .error e, hr2 => exact hr2
      | .ok (.ret v), hr2 =>
        obtain ⟨rfl, h', tk, rfl, S', kk⟩ := hr2
        repeat (any_goals (first | assumption | wp_step))
        exact h _ _ S' kk
      | .ok .next, hr2 => exact hr2.elim
      | .ok .brk, hr2 => exact hr2.elim
      | .ok .cont, hr2 => exact hr2.elim
  | .ok .next, hr => exact hr.elim
  | .ok .brk, hr => exact hr.elim
  | .ok .cont, hr => exact hr.elim
end
end L2

end
section
set_option Elab.async false
set_option linter.all false
set_option maxRecDepth 100000
namespace L2
open PySem PySem.Spec PyProof.Rows
/-! ### facts of set and its iterator -/
theorem ent_set_iter : entryFor table "set.__iter__" = some Builtin.«frozenset.__iter__» := entryFor_alias (id' := "frozenset.__iter__") (by rw [fastTable_eq_tree]; kernel_rfl) (by decide +kernel) (by decide +kernel) (by rw [fastTable_eq_tree]; kernel_rfl)
theorem slot_sit_next : Slot "set_iterator" "__next__" "set_iterator.__next__" :=
  .of (owner := "set_iterator") (n := "__next__") (by rw [typeLookup_type, builtinLookup_eq_fast]; kernel_rfl) (by decide +kernel) (by decide +kernel) (by decide +kernel) (by first | exact .inl (by decide +kernel) | exact .inr (by decide +kernel)) (by rw [isSubtype_type]; kernel_rfl)
theorem ent_sit_next : entryFor table "set_iterator.__next__" = some Builtin.«set_iterator.__next__» := entryFor_of_tree (by kernel_rfl)
theorem own_sit : Manifest.owners.lookup (String.ofList ['r', 'o', 't', 'a', 'r', 'e', 't', 'i', '_', 't', 'e', 's'].reverse) = some Manifest.sig_set_iterator := by kernel_rfl
theorem args_sit_next (a : Value) : argsOk "set_iterator.__next__" ⟨[a], []⟩ := by
  unfold argsOk; rw [signature?_of (id := "set_iterator.__next__") (n := ['_', '_', 't', 'x', 'e', 'n', '_', '_']) (o := ['r', 'o', 't', 'a', 'r', 'e', 't', 'i', '_', 't', 'e', 's']) (by kernel_rfl) own_sit]; kernel_rfl
theorem slot_sit_iter : Slot "set_iterator" "__iter__" "set_iterator.__iter__" :=
  .of (owner := "set_iterator") (n := "__iter__") (by rw [typeLookup_type, builtinLookup_eq_fast]; kernel_rfl) (by decide +kernel) (by decide +kernel) (by decide +kernel) (by first | exact .inl (by decide +kernel) | exact .inr (by decide +kernel)) (by rw [isSubtype_type]; kernel_rfl)
theorem ent_sit_iter : entryFor table "set_iterator.__iter__" = some Builtin.«dict_keyiterator.__iter__» := entryFor_alias (id' := "dict_keyiterator.__iter__") (by rw [fastTable_eq_tree]; kernel_rfl) (by decide +kernel) (by decide +kernel) (by rw [fastTable_eq_tree]; kernel_rfl)
theorem args_sit_iter (a : Value) : argsOk "set_iterator.__iter__" ⟨[a], []⟩ := by
  unfold argsOk; rw [signature?_of (id := "set_iterator.__iter__") (n := ['_', '_', 'r', 'e', 't', 'i', '_', '_']) (o := ['r', 'o', 't', 'a', 'r', 'e', 't', 'i', '_', 't', 'e', 's']) (by kernel_rfl) own_sit]; kernel_rfl
/-! ### orders -/
theorem pick_go {α : Type} (nx : Nat → Nat) : ∀ (f k : Nat) (left : List α) (out : Array α), f = left.length → (pickOrder.go nx f k left out).toList.Perm (out.toList ++ left)
  | 0, k, left, out, h => by
    have : left = [] := List.eq_nil_of_length_eq_zero h.symm
    subst this
    show out.toList.Perm _
    rw [List.append_nil]
  | f + 1, k, left, out, h => by
    have hl : nx k % left.length < left.length := Nat.mod_lt _ (by omega)
    unfold pickOrder.go
    rw [List.getElem?_eq_getElem hl]
    refine (pick_go nx f (k + 1) _ _ ?_).trans ?_
    · rw [List.length_eraseIdx_of_lt hl]
      omega
    · rw [Array.toList_push, List.append_assoc]
      refine List.Perm.append_left _ ?_
      generalize nx k % left.length = j at hl ⊢
      clear h
      show (left[j] :: left.eraseIdx j).Perm left
      induction left generalizing j with
      | nil => simp at hl
      | cons a t ih =>
        cases j with
        | zero => exact List.Perm.refl _
        | succ j => exact (List.Perm.swap _ _ _).trans ((ih j (by simpa using hl)).cons a)
theorem pick_perm {α : Type} (nx : Nat → Nat) (xs : Array α) : (pickOrder nx xs).toList.Perm xs.toList := by
  unfold pickOrder
  exact pick_go nx _ _ _ _ (by simp)
section
variable {P : Program} {w : World} {A : Around} {E : Value → Shared → Prop} {s : Shared}
theorem choose_any {src : Source} {n : Nat} {Q : Nat → Shared → Prop} (hn : n ≠ 0) (h : ∀ i d, i < n → Q i { s with drawn := d }) : wpAny (model P w) A (choose src n) Q E s :=
  fun Γ p hΓ => ⟨hn, h _ _ (Nat.mod_lt _ (Nat.pos_of_ne_zero hn))⟩
theorem erase_perm {α : Type} : ∀ {l : List α} {j : Nat} {x : α}, l[j]? = some x → (x :: l.eraseIdx j).Perm l
  | [], _, _, h => by simp at h
  | a :: t, 0, x, h => by
    simp at h
    subst h
    exact List.Perm.refl _
  | a :: t, j + 1, x, h => (List.Perm.swap _ _ _).trans ((erase_perm (l := t) (j := j) (by simpa using h)).cons a)
theorem draw_any {α : Type} : ∀ (n : Nat) (xs : List α) (s : Shared) (Q : List α → Shared → Prop), n = xs.length → (∀ ys d, ys.Perm xs → Q ys { s with drawn := d }) → wpAny (model P w) A (drawOrder n xs) Q E s
  | 0, xs, s, Q, h, q => by
    have : xs = [] := List.eq_nil_of_length_eq_zero h.symm
    subst this
    exact wpAny_pure (q [] s.drawn (List.Perm.refl _))
  | n + 1, [], s, Q, h, q => by simp at h
  | n + 1, x :: xs, s, Q, h, q => by
    unfold drawOrder
    refine wpAny_bind (choose_any (by simp) fun i d hi => ?_)
    rw [List.getElem?_eq_getElem hi]
    refine wpAny_bind (draw_any n _ _ _ ?_ fun ys d' py => wpAny_pure ?_)
    · rw [List.length_eraseIdx_of_lt hi]
      omega
    · exact q _ d' ((py.cons _).trans (erase_perm (List.getElem?_eq_getElem hi)))
theorem text_is {Q : Bool → Shared → Prop} (h : Q (byText w) s) : wpAny (model P w) A setsByText Q E s := by
  unfold setsByText
  exact wpAny_bind (wpAny_askSetting (wpAny_pure h))
/-! ### the iterator of a set -/
abbrev sIt (S : Addr) (first : Value) (i n ep : Nat) : Obj := { cls := .type "set_iterator", dict := none, data := .fields #[first, .int i 0, .ref S, .int n 0, .int ep 0], slots := #[] }
variable {S I : Addr} {o : Obj} {es : Array (Int × Value)} {ep n i : Nat} {t : SetTable} {first : Value}
theorem snext_in {Q : Option Value → Shared → Prop} (hI : s.heap.get? I = some (sIt S first i n ep)) (ho : s.heap.get? S = some o) (hd : o.data = .set es ep t) (hf : t.fits es.size = true) (hn : es.size = n)
    (h : wpAny (model P w) A.in1 (match first with
      | .int slot _ => do
        match ← setNext S slot.toNat ((i : Int)).toNat ((ep : Int)).toNat with
        | some (x, next) => do
          setField (.ref I) 0 (rawInt next)
          setField (.ref I) 1 (rawInt ((i : Int) + 1))
          ret x
        | none => do
          setField (.ref I) 2 .none
          raiseNew (← newExc (.type "StopIteration") [])
      | _ => do
        let some places ← seqItems? first | unsupported "internal:set_iterator"
        match places[((i : Int)).toNat]? with
        | some (.int place _) => do
          let x ← setNextDrawn S place.toNat ((ep : Int)).toNat
          setField (.ref I) 1 (rawInt ((i : Int) + 1))
          ret x
        | some _ => unsupported "internal:set_iterator"
        | none => do
          setField (.ref I) 0 (rawInt 0)
          setField (.ref I) 2 .none
          raiseNew (← newExc (.type "StopIteration") []))
      (fun fin s' => ∃ v, fin = .done (.ret v) ∧ Q (some v) s') (fun e s' => wpAny (model P w) A (do if ← isInstance e (.type "StopIteration") then pure none else throw e) Q E s') s) :
    wpAny (model P w) A (pyNext (.ref I)) Q E s := by
  have hT : s.TypeIs (.ref I) "set_iterator" := ⟨_, hI, rfl⟩
  unfold pyNext
  refine wpAny_bind (wpAny_attempt (wpAny_callSpecial?_slot (name := Str.ofString "__next__") hT slot_sit_next ?_))
  refine wpAny_mono (Q := fun v s' => Q (some v) s') (E := fun e s' => wpAny (model P w) A (do if ← isInstance e (.type "StopIteration") then pure none else throw e) Q E s') ?_ (fun v s' z => wpAny_pure z) fun e s' z => z
  refine wpAny_call_entry slot_sit_next hT ent_sit_next ?_ (args_sit_next _)
  refine wpAny_bind (wpAny_pure (wpAny_bind (wpAny_fieldsOf hI rfl ?_)))
  refine wpAny_bind (wpAny_bind (wpAny_setState_of ho hd hf (wpAny_pure ?_)))
  dsimp only
  rw [if_neg (by rw [hn]; simp)]
  cases first <;> exact h
/-- the iterator's end, raised and met -/
theorem stop_raise {Q : Option Value → Shared → Prop} {R : Fin → Shared → Prop} (hh : A.in1.handled = none) (h : ∀ h', (∀ c u, s.heap.get? c = some u → h'.get? c = some u) → Q none { s with heap := h' }) :
    wpAny (model P w) A.in1 (do raiseNew (← newExc (.type "StopIteration") [])) R (fun e s' => wpAny (model P w) A (do if ← isInstance e (.type "StopIteration") then pure none else throw e) Q E s') s := by
  refine wpAny_bind ?_
  simp only [newExc, newTuple]
  refine wpAny_bind (wpAny_newObj_type ?_ (by size_fits))
  refine wpAny_bind (m := firstArgMember _ _) (wpAny_of_eq (a := Value.none) (by first | rfl | (simp only [firstArgMember]; rfl)) ?_)
  refine wpAny_newObj_type ?_ (by size_fits)
  simp only [raiseNew]
  refine wpAny_bind (wpAny_handled ?_)
  rw [hh]
  refine wpAny_bind (wpAny_pure (wpAny_throw ?_))
  refine wpAny_bind (wpAny_isInstance (T := "StopIteration") (b := true) ⟨_, Heap.get?_push_size _ rfl, rfl⟩ isSubtype_stop ?_)
  exact wpAny_pure (h _ fun c u e => Heap.get?_push_of_some _ (Heap.get?_push_of_some _ e))
end
end L2

end
section
set_option Elab.async false
set_option linter.all false
set_option maxRecDepth 100000
namespace L2
open PySem PySem.Spec PyProof.Rows
section
variable {P : Program} {w : World} {A : Around} {E : Value → Shared → Prop} {s : Shared} {S I : Addr} {o : Obj} {es : Array (Int × Value)} {ep n i : Nat} {t : SetTable} {first : Value}
theorem got_item {Q : Option Value → Shared → Prop} {E' : Value → Shared → Prop} {x : Value} {nx : Nat} (hI : s.heap.get? I = some (sIt S first i n ep)) (h : ∀ h', h'.get? I = some (sIt S (.int nx 0) (i + 1) n ep) → Heap.SameBut I s.heap h' → Q (some x) { s with heap := h' }) :
    wpAny (model P w) A (do
      setField (.ref I) 0 (rawInt nx)
      setField (.ref I) 1 (rawInt ((i : Int) + 1))
      ret x) (fun fin s' => ∃ v, fin = .done (.ret v) ∧ Q (some v) s') E' s := by
  refine wpAny_bind (wpAny_setField_rec hI (by simp) fun h1 g1 sb1 => ?_)
  refine wpAny_bind (wpAny_setField_rec g1 (by simp) fun h2 g2 sb2 => ?_)
  exact wpAny_pure ⟨_, rfl, h h2 g2 (Heap.SameBut.trans sb1 sb2)⟩
theorem got_end {Q : Option Value → Shared → Prop} {R : Fin → Shared → Prop} (hh : A.in1.handled = none) (hI : s.heap.get? I = some (sIt S first i n ep)) (h : ∀ h', (∀ c u, c ≠ I → s.heap.get? c = some u → h'.get? c = some u) → Q none { s with heap := h' }) :
    wpAny (model P w) A.in1 (do
      setField (.ref I) 2 .none
      raiseNew (← newExc (.type "StopIteration") [])) R (fun e s' => wpAny (model P w) A (do if ← isInstance e (.type "StopIteration") then pure none else throw e) Q E s') s := by
  refine wpAny_bind (wpAny_setField_rec hI (by simp) fun h1 g1 sb1 => ?_)
  exact stop_raise hh fun h' k => h h' fun c u hc e => k c u (by rw [sb1.2 c hc]; exact e)
/-- the object is that set -/
structure IsSet (b : Bool) (o : Obj) (es : Array (Int × Value)) (ep : Nat) (t : SetTable) : Prop where
  data : o.data = .set es ep t
  fits : t.fits es.size = true
  tb : Tb b t
theorem size_place {t : SetTable} {k : Nat} (h : t.fits k = true) : t.place.size = k := by
  unfold SetTable.fits at h
  rw [Bool.and_eq_true] at h
  exact beq_iff_eq.mp h.1
theorem self_sit (hI : s.heap.get? I = some (sIt S first i n ep)) {Q : Value → Shared → Prop} (h : Q (.ref I) s) : wpAny (model P w) A (pyIter (.ref I)) Q E s := by
  have hT : s.TypeIs (.ref I) "set_iterator" := ⟨_, hI, rfl⟩
  refine wpAny_pyIter_slot hT slot_sit_iter (wpAny_call_entry slot_sit_iter hT ent_sit_iter ?_ (args_sit_iter _))
  exact wpAny_pure ⟨_, rfl, "set_iterator", _, hT, slot_sit_next.lookup, h⟩
/-! ### in the text's order -/
theorem walk_text (hh : A.handled = none) (hb : byText w = true) (so : IsSet (byText w) o es ep t) (hne : S ≠ I) :
    Walks P w A I [I, S] [I] es.size (fun i v => ((pickOrder (w.params.setOrder S ep) es).toList.map fun e => e.2)[i]? = some v) (fun i h => h.get? I = some (sIt S (.int 0 0) i es.size ep) ∧ h.get? S = some o) where
  sub := fun b hb => by simp at hb; simp [hb]
  frame := fun i h h' st k => ⟨k I (by simp) _ st.1, k S (by simp) _ st.2⟩
  item := fun i s Q E hi st hQ => by
    refine snext_in st.1 st.2 so.data so.fits rfl ?_
    show wpAny _ _ (setNext S 0 ((i : Int)).toNat ((ep : Int)).toNat >>= _) _ _ _
    unfold setNext
    refine wpAny_bind (wpAny_bind (wpAny_setState_of st.2 so.data so.fits ?_))
    refine wpAny_bind (text_is ?_)
    rw [hb, if_pos rfl]
    dsimp only
    rw [if_neg (by simp)]
    unfold setWalk
    refine wpAny_bind (wpAny_bind (wpAny_setState_of st.2 so.data so.fits (wpAny_bind (text_is ?_))))
    rw [hb, if_pos rfl]
    refine wpAny_bind (wpAny_askSetting (wpAny_pure (wpAny_pure ?_)))
    have hl : (pickOrder (w.params.setOrder S ep) es).size = es.size := by
      have := (pick_perm (w.params.setOrder S ep) es).length_eq
      simpa using this
    have e1 : (pickOrder (w.params.setOrder S ep) es)[((i : Int)).toNat]? = some (pickOrder (w.params.setOrder S ep) es)[i] := by
      rw [Int.toNat_natCast]
      exact Array.getElem?_eq_getElem (by omega)
    show wpAny _ _ (match Option.map (fun e : Int × Value => (e.2, 0)) (pickOrder (w.params.setOrder S ep) es)[((i : Int)).toNat]? with
      | some (x, next) => _
      | none => _) _ _ _
    rw [e1]
    refine got_item (nx := 0) st.1 fun h' g sb => hQ _ h' s.toks ?_ ⟨g, by rw [sb.2 S hne]; exact st.2⟩ fun b u hb e => by rw [sb.2 b (by simpa using hb)]; exact e
    rw [List.getElem?_map, Array.getElem?_toList, Array.getElem?_eq_getElem (by omega)]
    rfl
  done := fun s Q E st hQ => by
    refine snext_in st.1 st.2 so.data so.fits rfl ?_
    show wpAny _ _ (setNext S 0 ((es.size : Int)).toNat ((ep : Int)).toNat >>= _) _ _ _
    unfold setNext
    refine wpAny_bind (wpAny_bind (wpAny_setState_of st.2 so.data so.fits ?_))
    refine wpAny_bind (text_is ?_)
    rw [hb, if_pos rfl]
    dsimp only
    rw [if_neg (by simp)]
    unfold setWalk
    refine wpAny_bind (wpAny_bind (wpAny_setState_of st.2 so.data so.fits (wpAny_bind (text_is ?_))))
    rw [hb, if_pos rfl]
    refine wpAny_bind (wpAny_askSetting (wpAny_pure (wpAny_pure ?_)))
    have hl : (pickOrder (w.params.setOrder S ep) es).size = es.size := by
      have := (pick_perm (w.params.setOrder S ep) es).length_eq
      simpa using this
    show wpAny _ _ (match Option.map (fun e : Int × Value => (e.2, 0)) (pickOrder (w.params.setOrder S ep) es)[((es.size : Int)).toNat]? with
      | some (x, next) => _
      | none => _) _ _ _
    rw [Int.toNat_natCast, Array.getElem?_eq_none (by omega)]
    exact got_end (by simpa using hh) st.1 fun h' k => hQ h' s.toks fun b u hb e => k b u (by simpa using hb) e
  self := fun i s Q E st h => self_sit st.1 h
/-! ### by the table's places -/
theorem below_eq {l : List Nat} (hr : Rises l) {j r i : Nat} (B : BelowIs l j r) (h1 : i ≤ l.length) (h2 : ∀ k, k < i → l.getD k j < j) (h3 : i < l.length → j ≤ l.getD i j) : r = i := by
  rcases Nat.lt_trichotomy r i with q | q | q
  · have := B.hi r (Nat.le_refl _) (by omega)
    have := h2 r q
    omega
  · exact q
  · have := B.lo i q
    have := h3 (Nat.lt_of_lt_of_le q B.le)
    omega
theorem below_zero {t : SetTable} (hr : Rises t.place.toList) : SetTable.below t.place 0 = 0 :=
  below_eq hr (below_is hr 0) (Nat.zero_le _) (fun k hk => absurd hk (Nat.not_lt_zero _)) fun _ => Nat.zero_le _
theorem getD_at {l : List Nat} {k : Nat} (h : k < l.length) (d : Nat) : l.getD k d = l[k] := by
  rw [List.getD_eq_getElem?_getD, List.getElem?_eq_getElem h]
  rfl
theorem below_next {t : SetTable} (hr : Rises t.place.toList) {i j : Nat} (h : t.place[i]? = some j) : SetTable.below t.place (j + 1) = i + 1 := by
  rw [← Array.getElem?_toList] at h
  obtain ⟨hl, e⟩ := List.getElem?_eq_some_iff.mp h
  refine below_eq hr (below_is hr (j + 1)) hl (fun k hk => ?_) fun hk => ?_
  · have := rises_le hr (d := j + 1) (Nat.le_of_lt_succ hk) hl
    rw [getD_at hl, e] at this
    omega
  · rw [getD_at hk]
    have := (List.pairwise_iff_getElem.mp hr) i (i + 1) hl hk (by omega)
    omega
theorem walk_place (hh : A.handled = none) (hb : byText w = false) (so : IsSet (byText w) o es ep t) (hp : t.plain = true ∨ es.size ≤ 1) (hne : S ≠ I) :
    Walks P w A I [I, S] [I] es.size (fun i v => (es.toList.map fun e => e.2)[i]? = some v) (fun i h => (∃ sl : Nat, h.get? I = some (sIt S (.int sl 0) i es.size ep) ∧ SetTable.below t.place sl = i) ∧ h.get? S = some o) where
  sub := fun b hb => by simp at hb; simp [hb]
  frame := fun i h h' st k => by
    obtain ⟨⟨sl, g, e⟩, g2⟩ := st
    exact ⟨⟨sl, k I (by simp) _ g, e⟩, k S (by simp) _ g2⟩
  item := fun i s Q E hi st hQ => by
    obtain ⟨⟨sl, g, eb⟩, g2⟩ := st
    refine snext_in g g2 so.data so.fits rfl ?_
    show wpAny _ _ (setNext S ((sl : Int)).toNat ((i : Int)).toNat ((ep : Int)).toNat >>= _) _ _ _
    unfold setNext
    refine wpAny_bind (wpAny_bind (wpAny_setState_of g2 so.data so.fits ?_))
    refine wpAny_bind (text_is ?_)
    rw [hb, if_neg (by decide)]
    show wpAny _ _ (if (!t.plain && decide (es.size > 1)) = true then _ else _) _ _ _
    rw [if_neg (by rcases hp with q | q <;> simp [q])]
    refine wpAny_bind (m := if (!t.led && !es.isEmpty) = true then _ else pure PUnit.unit) ?_
    rw [if_neg (by rw [so.tb.led hb]; simp)]
    refine wpAny_pure (wpAny_pure ?_)
    have hpl := size_place so.fits
    obtain ⟨j, hj⟩ : ∃ j, t.place[i]? = some j := ⟨t.place[i], Array.getElem?_eq_getElem (by omega)⟩
    show wpAny _ _ (match (match es[SetTable.below t.place ((sl : Int)).toNat]?, t.place[SetTable.below t.place ((sl : Int)).toNat]? with
      | some (_, x), some j => some (x, j + 1)
      | _, _ => none) with
      | some (x, next) => _
      | none => _) _ _ _
    rw [Int.toNat_natCast, eb, hj, Array.getElem?_eq_getElem hi]
    refine got_item (nx := j + 1) g fun h' g' sb => hQ _ h' s.toks ?_ ⟨⟨j + 1, g', below_next so.tb.up hj⟩, by rw [sb.2 S hne]; exact g2⟩ fun b u hb e => by rw [sb.2 b (by simpa using hb)]; exact e
    rw [List.getElem?_map, Array.getElem?_toList, Array.getElem?_eq_getElem hi]
    rfl
  done := fun s Q E st hQ => by
    obtain ⟨⟨sl, g, eb⟩, g2⟩ := st
    refine snext_in g g2 so.data so.fits rfl ?_
    show wpAny _ _ (setNext S ((sl : Int)).toNat ((es.size : Int)).toNat ((ep : Int)).toNat >>= _) _ _ _
    unfold setNext
    refine wpAny_bind (wpAny_bind (wpAny_setState_of g2 so.data so.fits ?_))
    refine wpAny_bind (text_is ?_)
    rw [hb, if_neg (by decide)]
    show wpAny _ _ (if (!t.plain && decide (es.size > 1)) = true then _ else _) _ _ _
    rw [if_neg (by rcases hp with q | q <;> simp [q])]
    refine wpAny_bind (m := if (!t.led && !es.isEmpty) = true then _ else pure PUnit.unit) ?_
    rw [if_neg (by rw [so.tb.led hb]; simp)]
    refine wpAny_pure (wpAny_pure ?_)
    show wpAny _ _ (match (match es[SetTable.below t.place ((sl : Int)).toNat]?, t.place[SetTable.below t.place ((sl : Int)).toNat]? with
      | some (_, x), some j => some (x, j + 1)
      | _, _ => none) with
      | some (x, next) => _
      | none => _) _ _ _
    rw [Int.toNat_natCast, eb, Array.getElem?_eq_none (xs := es) (Nat.le_refl _)]
    exact got_end (by simpa using hh) g fun h' k => hQ h' s.toks fun b u hb e => k b u (by simpa using hb) e
  self := fun i s Q E st h => self_sit st.1.choose_spec.1 h
/-! ### in an order that was drawn -/
theorem walk_drawn {T : Addr} {ps : List Nat} {oT : Obj} {nT : Nat} (hh : A.handled = none) (so : IsSet (byText w) o es ep t) (hT : oT.data = .seq (ps.map fun (k : Nat) => rawInt k).toArray nT) (hps : ps.Perm (List.range es.size)) (hne : S ≠ I) (hTI : T ≠ I) :
    Walks P w A I [I, S, T] [I] es.size (fun i v => (ps.map fun k => ((es[k]?).map fun e => e.2).getD .none)[i]? = some v) (fun i h => h.get? I = some (sIt S (.ref T) i es.size ep) ∧ h.get? S = some o ∧ h.get? T = some oT) where
  sub := fun b hb => by simp at hb; simp [hb]
  frame := fun i h h' st k => ⟨k I (by simp) _ st.1, k S (by simp) _ st.2.1, k T (by simp) _ st.2.2⟩
  item := fun i s Q E hi st hQ => by
    have hl : ps.length = es.size := by
      rw [hps.length_eq, List.length_range]
    have hi' : i < ps.length := by omega
    have hp : ps[i] < es.size := List.mem_range.mp (hps.mem_iff.mp (List.getElem_mem hi'))
    refine snext_in st.1 st.2.1 so.data so.fits rfl ?_
    show wpAny _ _ (seqItems? (.ref T) >>= _) _ _ _
    refine wpAny_bind (wpAny_seqItems st.2.2 hT ?_)
    have e1 : (ps.map fun (k : Nat) => rawInt k).toArray[((i : Int)).toNat]? = some (.int ((ps[i] : Nat) : Int) 0) := by
      rw [Int.toNat_natCast, List.getElem?_toArray, List.getElem?_map, List.getElem?_eq_getElem hi']
      rfl
    dsimp only
    rw [e1]
    show wpAny _ _ (setNextDrawn S (((ps[i] : Nat) : Int)).toNat ((ep : Int)).toNat >>= _) _ _ _
    unfold setNextDrawn
    refine wpAny_bind (wpAny_bind (wpAny_setState_of st.2.1 so.data so.fits ?_))
    dsimp only
    rw [if_neg (by simp), Int.toNat_natCast, Array.getElem?_eq_getElem hp]
    refine wpAny_pure ?_
    refine wpAny_bind (wpAny_setField_rec st.1 (by simp) fun h1 g1 sb1 => ?_)
    refine wpAny_pure ⟨_, rfl, hQ _ h1 s.toks ?_ ⟨g1, by rw [sb1.2 S hne]; exact st.2.1, by rw [sb1.2 T hTI]; exact st.2.2⟩ fun b u hb e => by rw [sb1.2 b (by simpa using hb)]; exact e⟩
    rw [List.getElem?_map, List.getElem?_eq_getElem hi']
    show some (Option.getD (Option.map _ es[ps[i]]?) _) = _
    rw [Array.getElem?_eq_getElem hp]
    rfl
  done := fun s Q E st hQ => by
    have hl : ps.length = es.size := by
      rw [hps.length_eq, List.length_range]
    refine snext_in st.1 st.2.1 so.data so.fits rfl ?_
    show wpAny _ _ (seqItems? (.ref T) >>= _) _ _ _
    refine wpAny_bind (wpAny_seqItems st.2.2 hT ?_)
    have e1 : (ps.map fun (k : Nat) => rawInt k).toArray[((es.size : Int)).toNat]? = none := by
      rw [Int.toNat_natCast, List.getElem?_toArray, List.getElem?_eq_none (by rw [List.length_map]; omega)]
    dsimp only
    rw [e1]
    refine wpAny_bind (wpAny_setField_rec st.1 (by simp) fun h1 g1 sb1 => ?_)
    exact got_end (first := .int 0 0) (s := { s with heap := h1 }) (by simpa using hh) g1 fun h' k => hQ h' s.toks fun b u hb e => k b u (by simpa using hb) (by rw [sb1.2 b (by simpa using hb)]; exact e)
  self := fun i s Q E st h => self_sit st.1 h
/-- whatever the order: the values are the set's -/
theorem vals_perm {ps : List Nat} (h : ps.Perm (List.range es.size)) : (ps.map fun k => ((es[k]?).map fun e => e.2).getD .none).Perm (es.toList.map fun e => e.2) := by
  refine (h.map _).trans (List.Perm.of_eq ?_)
  refine List.ext_getElem? fun k => ?_
  rw [List.getElem?_map, List.getElem?_map, show es.toList[k]? = es[k]? from Array.getElem?_toList]
  by_cases hk : k < es.size
  · rw [List.getElem?_range hk, Array.getElem?_eq_getElem hk]
    show some (Option.getD (Option.map _ es[k]?) _) = _
    rw [Array.getElem?_eq_getElem hk]
    rfl
  · rw [List.getElem?_eq_none (by rw [List.length_range]; omega), Array.getElem?_eq_none (by omega)]
    rfl
/-- iter(set) -/
theorem iter_set {Q : Value → Shared → Prop} (hh : A.handled = none) (ho : s.heap.get? S = some o) (hx : o.ExactSet) (so : IsSet (byText w) o es ep t) (hz : es.size ≤ sizeLine)
    (h : ∀ (h' : Heap) (d : Drawn) (I : Addr) (fp : List Addr) (vs : List Value) (St : Nat → Heap → Prop), Walks P w A I fp [I] es.size (fun i v => vs[i]? = some v) St → St 0 h' → vs.Perm (es.toList.map fun e => e.2) →
      (∀ c ∈ fp, c = S ∨ s.heap.objs.size ≤ c) → s.heap.objs.size ≤ I → (∀ c u, s.heap.get? c = some u → h'.get? c = some u) → Q (.ref I) { s with heap := h', drawn := d }) :
    wpAny (model P w) A (pyIter (.ref S)) Q E s := by
  have hT : s.TypeIs (.ref S) "set" := ⟨o, ho, hx.1⟩
  have lS : S < s.heap.objs.size := Heap.lt_size ho
  refine wpAny_pyIter_slot hT PySem.F.slot_set_iter (wpAny_call_entry PySem.F.slot_set_iter hT ent_set_iter ?_ (PySem.F.args_set_iter_1 _))
  unfold Builtin.«frozenset.__iter__»
  refine wpAny_bind (wpAny_pure ?_)
  refine wpAny_bind (wpAny_bind (wpAny_bind (wpAny_setState_of ho so.data so.fits (wpAny_pure (wpAny_pure ?_)))))
  refine wpAny_bind ?_
  unfold setDrawn
  refine wpAny_bind (wpAny_setState_of ho so.data so.fits (wpAny_bind (text_is (wpAny_pure ?_))))
  show wpAny _ _ (if (!byText w && (!t.plain && decide (es.size > 1))) = true then _ else _) _ _ _
  split
  · rename_i hc
    refine wpAny_bind (draw_any es.size (List.range es.size) _ _ (by simp) fun ps d hp => ?_)
    have hl : ps.length = es.size := by
      rw [hp.length_eq, List.length_range]
    refine wpAny_bind (wpAny_newTuple (items := ps.map fun (k : Nat) => rawInt k) ?_ (by rw [List.length_map, hl]; exact hz))
    refine wpAny_bind (wpAny_bind (wpAny_setState_of (Heap.get?_push_of_some _ ho) so.data so.fits (wpAny_pure ?_)))
    refine wpAny_bind (wpAny_newObj_type ?_)
    have g1 : (s.heap.push { cls := .type "tuple", data := .seq (ps.map fun (k : Nat) => rawInt k).toArray }).objs.size = s.heap.objs.size + 1 := size_push' ..
    refine wpAny_pure ⟨_, rfl, "set_iterator", _, ⟨_, Heap.get?_push_size _ rfl, rfl⟩, slot_sit_next.lookup, ?_⟩
    refine h _ d _ _ _ _ (walk_drawn (T := s.heap.objs.size) (nT := 0) hh so rfl hp ?_ ?_) ⟨Heap.get?_push_size _ rfl, Heap.get?_push_of_some _ (Heap.get?_push_of_some _ ho), Heap.get?_push_of_some _ (Heap.get?_push_size _ rfl)⟩ (vals_perm hp) ?_ ?_ ?_
    · rw [g1]
      exact Nat.ne_of_lt (Nat.lt_succ_of_lt lS)
    · rw [g1]
      exact Nat.ne_of_lt (Nat.lt_succ_self _)
    · intro c hc
      rcases List.mem_cons.mp hc with q | hc
      · rw [q, g1]
        exact .inr (Nat.le_succ _)
      · rcases List.mem_cons.mp hc with q | hc
        · exact .inl q
        · rw [List.mem_singleton.mp hc]
          exact .inr (Nat.le_refl _)
    · rw [g1]
      exact Nat.le_succ _
    · exact fun c u e => Heap.get?_push_of_some _ (Heap.get?_push_of_some _ e)
  · rename_i hc
    refine wpAny_bind (wpAny_pure ?_)
    refine wpAny_bind (wpAny_bind (wpAny_setState_of ho so.data so.fits (wpAny_pure ?_)))
    refine wpAny_bind (wpAny_newObj_type ?_)
    refine wpAny_pure ⟨_, rfl, "set_iterator", _, ⟨_, Heap.get?_push_size _ rfl, rfl⟩, slot_sit_next.lookup, ?_⟩
    have fps : ∀ c ∈ [s.heap.objs.size, S], c = S ∨ s.heap.objs.size ≤ c := fun c hc => by
      rcases List.mem_cons.mp hc with q | hc
      · rw [q]
        exact .inr (Nat.le_refl _)
      · exact .inl (List.mem_singleton.mp hc)
    cases hb : byText w with
    | true =>
      refine h _ s.drawn _ _ _ _ (walk_text hh hb so (Nat.ne_of_lt lS)) ⟨Heap.get?_push_size _ rfl, Heap.get?_push_of_some _ ho⟩ ((pick_perm _ es).map _) fps (Nat.le_refl _) fun c u e => Heap.get?_push_of_some _ e
    | false =>
      have hp : t.plain = true ∨ es.size ≤ 1 := by
        rw [hb] at hc
        cases ht : t.plain with
        | true => exact .inl rfl
        | false =>
          rw [ht] at hc
          refine .inr (Nat.le_of_not_lt fun z => hc ?_)
          simp [z]
      exact h _ s.drawn _ _ _ _ (walk_place hh hb so hp (Nat.ne_of_lt lS)) ⟨⟨0, Heap.get?_push_size _ rfl, below_zero so.tb.up⟩, Heap.get?_push_of_some _ ho⟩ (List.Perm.refl _) fps (Nat.le_refl _) fun c u e => Heap.get?_push_of_some _ e
end
end L2

end
section
set_option Elab.async false
set_option linter.all false
set_option maxRecDepth 100000
namespace L2
open PySem PySem.Spec PyProof.Rows
section
variable {P : Program} {w : World} {A : Around} {E : Value → Shared → Prop} {s : Shared} {S : Addr} {o : Obj} {es : Array (Int × Value)} {ep : Nat} {t : SetTable}
theorem hint_set {Q : Bool → Shared → Prop} (hT : s.TypeIs (.ref S) "set") (h : Q false s) : wpAny (model P w) A (Builtin.List.listLengthHint (.ref S)) Q E s := by
  unfold Builtin.List.listLengthHint
  refine wpAny_bind (wpAny_specialOf hT PySem.F.slot_set_len.lookup ?_)
  generalize eid : ("set.__len__" : String) = x
  wp_delta
  rw [show splitId x = some ("set", "__len__") from by subst eid; decide +kernel]
  subst eid
  refine wpAny_bind (wpAny_isInstance (T := "set") (b := true) hT sub_set_self ?_)
  refine wpAny_ite_split (fun no => absurd no (by decide)) (fun _ => ?_)
  refine wpAny_ite_split (fun _ => ?_) (fun no => absurd (by decide +kernel) no)
  exact wpAny_bind (wpAny_typeOf hT (wpAny_pure h))
theorem items_are_list {vs : List Value} {acc : Array Value} {n : Nat} (h : ItemsOf (fun i v => vs[i]? = some v) acc n) (hn : vs.length = n) : acc.toList = vs := by
  refine List.ext_getElem? fun i => ?_
  rw [Array.getElem?_toList]
  by_cases hi : i < n
  · obtain ⟨v, hv⟩ : ∃ v, acc[i]? = some v := ⟨acc[i]'(by rw [h.1]; exact hi), Array.getElem?_eq_getElem _⟩
    rw [hv, h.2 i v hv]
  · rw [Array.getElem?_eq_none (by rw [h.1]; omega), List.getElem?_eq_none (by omega)]
theorem collect_set {R : List Value → Shared → Prop} (hh : A.handled = none) (ho : s.heap.get? S = some o) (hx : o.ExactSet) (so : IsSet (byText w) o es ep t) (hz : es.size ≤ sizeLine)
    (h : ∀ h' tk d vs, (∀ c u, s.heap.get? c = some u → h'.get? c = some u) → s.heap.objs.size ≤ h'.objs.size → vs.Perm (es.toList.map fun e => e.2) → R vs { s with heap := h', drawn := d, toks := tk }) : wpAny (model P w) A (collect (.ref S)) R E s := by
  have lS : S < s.heap.objs.size := Heap.lt_size ho
  unfold collect
  refine wpAny_bind (wpAny_runValue (codeAny_builtin entry_proto_collect' ?_))
  rw [Around.under_plainId PySem.F.plain_proto_collect _]
  refine wpAny_bind (wpAny_newObj_type (wpAny_pure ⟨plainId_quiet PySem.F.plain_list_iadd _, codeAny_builtin entry_list_iadd' ?_⟩))
  rw [Around.under_plainId PySem.F.plain_list_iadd _]
  have gL : (s.heap.push { cls := .type "list", data := .seq ([] : List Value).toArray }).get? s.heap.objs.size = some { cls := .type "list", data := .seq #[] } := Heap.get?_push_size _ rfl
  have gS : (s.heap.push { cls := .type "list", data := .seq ([] : List Value).toArray }).get? S = some o := Heap.get?_push_of_some _ ho
  have sz : (s.heap.push { cls := .type "list", data := .seq ([] : List Value).toArray }).objs.size = s.heap.objs.size + 1 := size_push' ..
  show wpAny _ A.in1 (Builtin.List.listExtendWith (.ref s.heap.objs.size) (.ref S) (.ref s.heap.objs.size)) _ _ _
  unfold Builtin.List.listExtendWith
  refine wpAny_bind (wpAny_typeOf (T := "set") ⟨o, gS, hx.1⟩ ?_)
  have n1 : Builtin.List.listSameRef (.ref s.heap.objs.size) (.ref S) = false := by
    simp [Builtin.List.listSameRef, Ne.symm (Nat.ne_of_lt lS)]
  rw [n1, show (Value.type "set" == Value.type "list") = false by decide, show (Value.type "set" == Value.type "tuple") = false by decide, if_neg (by decide)]
  refine wpAny_bind (iter_set (A := A.in1) hh gS hx so hz fun h1 d I fp vs St W st0 pv hfp hI k1 => ?_)
  have hn : vs.length = es.size := by
    rw [pv.length_eq, List.length_map, Array.length_toList]
  have hTs : Shared.TypeIs { s with heap := h1, drawn := d } (.ref S) "set" := ⟨o, k1 _ _ gS, hx.1⟩
  have gL1 := k1 _ _ gL
  refine wpAny_bind (wpAny_holding (hint_set hTs ?_))
  have nL : s.heap.objs.size ∉ fp := fun hm => by
    rcases hfp _ hm with q | q
    · exact absurd lS (by rw [q]; exact Nat.lt_irrefl _)
    · rw [sz] at q
      exact absurd q (Nat.not_succ_le_self _)
  have nI : I ≠ s.heap.objs.size := fun q => by
    rw [q, sz] at hI
    exact absurd hI (Nat.not_succ_le_self _)
  have key : ∀ (h2 : Heap) (c2 : Nat), St 0 h2 → (∀ c u, c ≠ s.heap.objs.size → s.heap.get? c = some u → h2.get? c = some u) → h2.get? s.heap.objs.size = some { cls := .type "list", data := .seq #[] c2 } →
      codeAny (model P w) A (.builtin "list.extend.loop" ⟨[.ref s.heap.objs.size, .ref I, .ref s.heap.objs.size], []⟩) (fun q s' => ∃ h' tk acc c', q = .ok (.ret (.ref s.heap.objs.size)) ∧ s' = { s with heap := h', drawn := d, toks := tk } ∧
        (∀ c u, s.heap.get? c = some u → h'.get? c = some u) ∧ h'.get? s.heap.objs.size = some { cls := .type "list", dict := none, data := .seq acc c', slots := #[] } ∧ acc.toList = vs) { s with heap := h2, drawn := d } := by
    intro h2 c2 st2 k2 g2
    refine codeAny_extend_loopS W.toS hz s.heap.objs.size nL (.ref s.heap.objs.size) es.size 0 _ #[] c2 rfl (Nat.zero_le _) st2 g2 (ItemsOf.nil _) fun s' acc c' hm hS' hacc => ?_
    refine ⟨s'.heap, s'.toks, acc, c', rfl, Moved.eq_with hm, fun c u e => hm.heap c u (fun q => ?_) (k2 c u (Nat.ne_of_lt (Heap.lt_size e)) e), hS', items_are_list hacc hn⟩
    have lc : c < s.heap.objs.size := Heap.lt_size e
    rcases List.mem_cons.mp q with q | q
    · rw [q] at lc
      exact absurd lc (Nat.lt_irrefl _)
    · rw [List.mem_singleton.mp q] at lc
      rw [sz] at hI
      exact absurd (Nat.lt_of_lt_of_le lc (Nat.le_trans (Nat.le_succ _) hI)) (Nat.lt_irrefl _)
  have kk : ∀ c u, c ≠ s.heap.objs.size → s.heap.get? c = some u → h1.get? c = some u := fun c u _ e => k1 c u (Heap.get?_push_of_some _ e)
  rw [if_pos (by decide +kernel)]
  refine wpAny_bind (wpAny_rule (wpAny_bind ?_))
  show wpAny _ _ (updateSeq s.heap.objs.size (·.push .none) >>= fun _ => updateSeq s.heap.objs.size (·.pop)) _ _ _
  have gL2 := Heap.get?_update_self (Obj.mapSeq (·.push Value.none)) gL1 rfl
  have gL3 := Heap.get?_update_self (Obj.mapSeq (·.pop)) gL2 rfl
  have k3 : ∀ c u, c ≠ s.heap.objs.size → h1.get? c = some u → ((h1.update s.heap.objs.size (Obj.mapSeq (·.push Value.none))).update s.heap.objs.size (Obj.mapSeq (·.pop))).get? c = some u := fun c u hc e => by
    rw [Heap.get?_update_ne _ _ _ _ hc, Heap.get?_update_ne _ _ _ _ hc]
    exact e
  refine wpAny_bind (wpAny_updateSeq gL1 rfl (wpAny_updateSeq (hz := by seq_fits) gL2 rfl ?_))
  refine wpAny_pure ⟨plainId_quiet PySem.F.plain_extend_loop _, codeAny_mono (key _ _ (W.frame 0 _ _ st0 fun c hc u e => k3 c u (fun q => nL (q ▸ hc)) e) (fun c u hc e => k3 c u hc (kk c u hc e)) gL3) fun q s' y => ?_⟩
  obtain ⟨h', tk, acc, c', rfl, rfl, k', g', e'⟩ := y
  refine wpAny_bind (wpAny_load g' ?_)
  rw [← e'] at pv
  exact wpAny_pure (h h' tk d acc.toList k' (Nat.le_of_lt (Heap.lt_size g')) pv)
theorem ints_of_perm {vs : List Value} {M : List Int} (hE : ElemsOf (IK P w) es.toList) (hP : (es.toList.map fun e => intOf e.2).Perm M) (hv : vs.Perm (es.toList.map fun e => e.2)) : ∃ ns, IntsAre vs ns ∧ ns.Perm M := by
  have all : ∀ v, v ∈ vs → ∃ t, v = .int (intOf v) t := fun v hm => by
    obtain ⟨e, he, rfl⟩ := List.mem_map.mp (hv.mem_iff.mp hm)
    obtain ⟨⟨k, hk, _⟩, _⟩ := hE e he
    obtain ⟨t, ht⟩ := is_int hk
    rw [ht]
    exact ⟨t, rfl⟩
  have key : ∀ l : List Value, (∀ v, v ∈ l → ∃ t, v = .int (intOf v) t) → IntsAre l (l.map intOf) := by
    intro l
    induction l with
    | nil => exact fun _ => .nil
    | cons v l ih =>
      intro h
      obtain ⟨t, ht⟩ := h v List.mem_cons_self
      have := ih fun x hx => h x (List.mem_cons_of_mem _ hx)
      rw [List.map_cons]
      generalize intOf v = k at ht ⊢
      subst ht
      exact .cons _ _ this
  refine ⟨vs.map intOf, key vs all, ?_⟩
  have := hv.map intOf
  rw [List.map_map] at this
  exact this.trans hP
/-- sorted(set) -/
theorem sorted_set {M : List Int} {Q : Value → Shared → Prop} (hh : A.handled = none) (hS : SetG P w (byText w) s.heap S M)
    (h : ∀ h' tk d (out : List Value) ns q c, IntsAre out ns → ns.Perm M → ns.Pairwise (· ≤ ·) → s.heap.objs.size ≤ q → (∀ c u, s.heap.get? c = some u → h'.get? c = some u) → h'.get? q = some { cls := .type "list", data := .seq out.toArray c } → Q (.ref q) { s with heap := h', drawn := d, toks := tk }) :
    wpAny (model P w) A (call (.builtin "sorted") [.ref S]) Q E s := by
  obtain ⟨o, es, ep, t, ho, hx, hd, hE, hP, hb, hf, hT⟩ := hS
  have hz := fits_of_scanBound hb
  refine Calls.call_function_entry kind_sorted plain_sorted entry_sorted (args_sorted1 _) ?_
  unfold Builtin.«sorted»
  refine wpAny_bind (m := checkCount "sorted" 1 1 _) (wpAny_pure ?_)
  refine wpAny_bind (collect_set (A := A.in1) hh ho hx ⟨hd, hf, hT⟩ hz fun h1 tk d vs k1 ge pv => ?_)
  obtain ⟨ns, hi, pn⟩ := ints_of_perm hE hP pv
  have hl : vs.length ≤ sizeLine := by
    rw [pv.length_eq, List.length_map, Array.length_toList]
    exact hz
  refine wpAny_bind (wpAny_newList ?_ hl)
  have g1 : (h1.push (seqObj "list" vs.toArray 0)).get? h1.objs.size = some (seqObj "list" vs.toArray 0) := Heap.get?_push_size _ rfl
  refine wpAny_bind (wpAny_holding (wpAny_call_entry slot_list_sort ⟨_, g1, rfl⟩ entry_list_sort (list_sort_treeAny g1 hi hl fun out ns' a1 a2 a3 => ⟨_, rfl, ?_⟩) (args_list_sort _)))
  obtain ⟨e1, z⟩ := sortedHeap_at (vs := vs) (n := 0) (out := out) g1
  refine wpAny_pure ⟨_, rfl, ?_⟩
  have zs : h1.objs.size < (h1.push (seqObj "list" vs.toArray 0)).objs.size := by
    rw [size_push']
    exact Nat.lt_succ_self _
  have old : ∀ c u, s.heap.get? c = some u → (sortedHeap (h1.push (seqObj "list" vs.toArray 0)) h1.objs.size vs out).get? c = some u := fun c u e => by
    have l1 : c < h1.objs.size := Heap.lt_size (k1 c u e)
    rw [sortedHeap_old (Nat.ne_of_lt l1) (Nat.lt_trans l1 zs)]
    exact Heap.get?_push_of_some _ (k1 c u e)
  exact h _ tk d out.toList ns' h1.objs.size e1 a1 (a2.trans pn) a3 ge old z
end
section
variable {X : Cx}
theorem Inv.draws {pins : List (Addr × Obj)} {σ : St} {H : Hp} {s : Shared} (I : Inv X pins σ H s) (d : Drawn) : Inv X pins σ H { s with drawn := d } :=
  ⟨I.ok, I.os, I.bare, I.base, I.loc, I.cell, I.free, I.freeC, I.pin, I.hok, I.len⟩
/-- a set of numbers, each once -/
def SetO (P : Program) (w : World) (a : Addr) (M : List Int) : HO := .ext fun h => SetG P w (byText w) h a M
theorem call_setL (hc : X.calm = true) : CallR X (.type "set") (fun xs H Q => ∃ (a : Addr) (ns : List Int), xs = [.ref a] ∧ SqL X.K H a (ns.map V.int) ∧ ns.length + 1 < scanBound ∧ ∀ p, H p = none → Q (.ref p) (upd H p (SetO X.prog X.w p (met ns)))) := by
  intro pins s σ H xs us Q I r h
  obtain ⟨a, ns, rfl, ha, hb, q⟩ := h
  rw [Vals.ref1 r]
  obtain ⟨its, rv, hl, hz⟩ := I.list ha
  have hi := rv.ints
  refine call_set_g (I.ok.hd hc) hl.isList (by simpa using hi) (by rw [List.size_toArray, hi.length]; exact hb) fun h' tk hS k => ?_
  obtain ⟨o, es, ep, t, ho, r2⟩ := id hS
  exact ⟨.ref s.heap.objs.size, upd H s.heap.objs.size (SetO X.prog X.w s.heap.objs.size (met ns)), I.laid k (Nat.le_refl _) ⟨hS, ⟨o, ho⟩, fun h1 h2 x y => x.at y⟩, rfl, q _ (I.hok.fresh (Nat.le_refl _))⟩
theorem cr_sortedSet (hc : X.calm = true) : CallR X (.builtin "sorted") (fun xs H Q => ∃ (a : Addr) (M : List Int), xs = [.ref a] ∧ H a = some (SetO X.prog X.w a M) ∧
    ∀ (ns' : List Int) (p : Addr), ns'.Perm M → ns'.Pairwise (· ≤ ·) → H p = none → Q (.ref p) (upd H p (.lst (ns'.map V.int)))) := by
  intro pins s σ H xs us Q I r h
  obtain ⟨a, M, rfl, ha, q⟩ := h
  rw [Vals.ref1 r]
  obtain ⟨hS, _, _⟩ := I.hok a _ ha
  refine sorted_set (I.ok.hd hc) hS fun h' tk d out ns x c a1 a2 a3 hx k g => ?_
  have hz : (ns.map V.int).length ≤ sizeLine := by
    obtain ⟨o, es, ep, t, ho, _, _, _, hP, hb, _⟩ := hS
    have := hP.length_eq
    rw [List.length_map, Array.length_toList] at this
    rw [List.length_map, a2.length_eq, ← this]
    exact fits_of_scanBound hb
  exact ⟨.ref x, upd H x (.lst (ns.map V.int)), (I.laid (o := .lst (ns.map V.int)) (t' := tk) k hx ⟨hz, out, c, vals_of_ints a1, g⟩).draws d, rfl, q ns x a2 a3 (I.hok.fresh hx)⟩
end
end L2

end
section
set_option Elab.async false
set_option linter.all false
set_option maxRecDepth 100000
namespace L2
open PySem PySem.Spec PyProof.Rows
/-! ### d.items() of a dict whose keys are tuples, by its raw entries -/
section
variable {P : Program} {w : World} {A : Around} {E : Value → Shared → Prop} {s : Shared} {it d : Addr} {i n ep : Nat} {od : Obj} {es : Array DictEntry} {en : DictEntry} {kk vv : Value}
theorem items_raw (d : Addr) (hd : (d == sysModules) = false) : MeetsIn P w (Builtin.«dict.items» ⟨[.ref d], []⟩) (fun _ R s => (∃ o, s.heap.get? d = some o ∧ o.ExactDict) ∧
    R (.ok (.ret (.ref s.heap.objs.size))) { s with heap := s.heap.push { cls := .type "dict_items", data := .fields #[.ref d] } }) :=
  .of_wp fun A R s ⟨⟨o, ho, hx⟩, h⟩ => by
    have hT : s.TypeIs (.ref d) "dict" := ⟨o, ho, hx.1⟩
    unfold Builtin.«dict.items»
    refine wpAny_bind ?_
    unfold Builtin.Dict.noArgs
    refine wpAny_bind (wpAny_notOrdered_dict hT (wpAny_pure ?_))
    refine wpAny_bind ?_
    unfold Builtin.Dict.showsAll
    rw [if_neg (by rw [hd]; decide)]
    exact wpAny_pure (wpAny_bind (wpAny_newObj_type (wpAny_pure ⟨_, rfl, h⟩)))
theorem iter_raw {v : Addr} {Q : Value → Shared → Prop} (hv : s.heap.IsItemsView v d) (ho : s.heap.get? d = some od) (hd : od.data = .dict es ep)
    (hQ : Q (.ref s.heap.objs.size) { s with heap := s.heap.push { cls := .type "dict_itemiterator", data := .fields #[.none, .bool false, .ref d, .int 0 0, .int es.size 0, .int ep 0, .none, .none] } }) : wpAny (model P w) A (pyIter (.ref v)) Q E s := by
  obtain ⟨ov, gv, cv, dv⟩ := id hv
  refine wpAny_pyIter_slot hv.typeIs PySem.F.slot_dict_items_iter (wpAny_call_entry PySem.F.slot_dict_items_iter hv.typeIs PySem.F.entry_dict_items_iter ?_ (PySem.F.args_dict_items_iter_1 _))
  unfold Builtin.«dict_items.__iter__»
  refine wpAny_bind (wpAny_pure (wpAny_bind ?_))
  unfold Builtin.Dict_items.dictOf
  refine wpAny_bind (wpAny_field gv dv (x := .ref d) rfl (wpAny_pure (wpAny_bind ?_)))
  unfold Builtin.Dict_items.newIterator
  refine wpAny_bind (wpAny_dictEntries ho hd (wpAny_bind (wpAny_dictEpoch ho hd ?_)))
  rw [show Builtin.Dict_items.ownsTuple "dict_itemiterator" = true by decide]
  simp only [if_true]
  refine wpAny_newObj_type (wpAny_pure ⟨_, rfl, "dict_itemiterator", _, ⟨_, Heap.get?_push_size _ rfl, rfl⟩, PySem.F.slot_dict_itemiterator_next.lookup, ?_⟩) ?_
  · simpa [rawInt, Builtin.Dict_items.ownedTupleFields] using hQ
  · simp only [sizeOk, Builtin.Dict_items.ownedTupleFields, List.size_toArray, List.length_append, List.length_cons, List.length_nil, sizeLine_eq]
    omega
theorem next_raw {Q : Option Value → Shared → Prop} (hit : IsItemIter s.heap it d i n ep kk vv) (ho : s.heap.get? d = some od) (hd : od.data = .dict es ep) (hn : es.size = n) (hx : es[i]? = some en)
    (hQ : ∀ h', IsItemIterOut h' it d (i + 1) n ep en.key en.val s.heap.objs.size → h'.get? s.heap.objs.size = some { cls := .type "tuple", data := .seq #[en.key, en.val] } → (∀ b u, b ≠ it → s.heap.get? b = some u → h'.get? b = some u) →
      Q (some (.ref s.heap.objs.size)) { s with heap := h' }) : wpAny (model P w) A (pyNext (.ref it)) Q E s := by
  obtain ⟨hp, g, dr, tk, os⟩ := s
  have hT : Shared.TypeIs ⟨hp, g, dr, tk, os⟩ (.ref it) "dict_itemiterator" := ⟨_, hit, rfl⟩
  have li : it < hp.objs.size := Heap.lt_size hit
  have ni : hp.objs.size ≠ it := Nat.ne_of_gt li
  obtain ⟨lt, een⟩ := Array.getElem?_eq_some_iff.mp hx
  unfold pyNext
  refine wpAny_bind (wpAny_attempt (wpAny_callSpecial?_slot (name := Str.ofString "__next__") hT PySem.F.slot_dict_itemiterator_next (wpAny_call_entry PySem.F.slot_dict_itemiterator_next hT PySem.F.entry_dict_itemiterator_next ?_ (PySem.F.args_dict_itemiterator_next_1 _))))
  refine wpAny_bind (wpAny_pure (wpAny_bind (wpAny_bind ?_)))
  first | refine wpAny_bind (wpAny_typeNameOfWhole_itemiter hT (wpAny_pure ?_)) | refine wpAny_bind (wpAny_typeNameOf_itemiter hT (wpAny_pure ?_))
  refine wpAny_bind (wpAny_fieldsOf hit rfl ?_)
  rw [show Builtin.Dict_items.ownsTuple "dict_itemiterator" = true by decide]
  simp only [if_true]
  show wpAny _ _ (if (Value.ref d == Value.none) = true then _ else _) _ _ _
  rw [if_neg (show ¬ ((Value.ref d == Value.none) = true) from Bool.false_ne_true)]
  refine wpAny_bind (wpAny_pure (wpAny_bind (wpAny_dictEntries ho hd ?_)))
  rw [if_neg (by rw [hn]; simp)]
  refine wpAny_bind (wpAny_pure (wpAny_bind (wpAny_dictEpoch ho hd ?_)))
  rw [if_neg (by simp)]
  refine wpAny_pure ?_
  simp only [show ¬ ((i : Int) < 0) by omega, if_false, Int.toNat_natCast, hx]
  refine wpAny_bind ?_
  first | refine wpAny_bind (wpAny_typeNameOfWhole_itemiter hT (wpAny_pure ?_)) | refine wpAny_bind (wpAny_typeNameOf_itemiter hT (wpAny_pure ?_))
  refine wpAny_bind (wpAny_isOneOf_itemiter hT ?_)
  show wpAny _ _ (setField (.ref it) 3 (rawInt ((i : Int) + 1)) >>= _) _ _ _
  refine wpAny_bind (wpAny_setField_rec hit (by simp) fun h1 e1 s1 => ?_)
  have e1 : IsItemIter h1 it d (i + 1) n ep kk vv := by
    unfold IsItemIter
    rw [show ((i + 1 : Nat) : Int) = (i : Int) + 1 by omega]
    simpa [rawInt] using e1
  have s1 : Heap.SameBut it hp h1 := s1
  have t1 : Shared.TypeIs ⟨h1, g, dr, tk, os⟩ (.ref it) "dict_itemiterator" := ⟨_, e1, rfl⟩
  refine wpAny_bind (wpAny_holding (wpAny_bind (wpAny_isOneOf_itemiter t1 (wpAny_bind (wpAny_isOneOf_itemiter t1 ?_)))))
  show wpAny _ _ (Builtin.Dict_items.pairFromOwner (.ref it) 6 en.key en.val) _ _ ⟨h1, g, dr, tk, os⟩
  unfold Builtin.Dict_items.pairFromOwner
  refine wpAny_bind (wpAny_newTuple ?_)
  rw [show h1.objs.size = hp.objs.size from s1.1]
  have e2 : IsItemIter (h1.push { cls := .type "tuple", data := .seq #[en.key, en.val] }) it d (i + 1) n ep kk vv := Heap.get?_push_of_some _ e1
  have g2 : (h1.push { cls := .type "tuple", data := .seq #[en.key, en.val] }).get? hp.objs.size = some { cls := .type "tuple", data := .seq #[en.key, en.val] } := by
    rw [← s1.1]
    exact Heap.get?_push_size _ rfl
  have k2 : ∀ b u, b ≠ it → hp.get? b = some u → (h1.push { cls := .type "tuple", data := .seq #[en.key, en.val] }).get? b = some u := fun b u hb e => Heap.get?_push_of_some _ (s1.extBut b u hb e)
  show wpAny _ _ (Builtin.Dict_items.ownedTupleIsFree (.ref it) >>= _) _ _ ⟨h1.push { cls := .type "tuple", data := .seq #[en.key, en.val] }, g, dr, tk, os⟩
  generalize h1.push { cls := .type "tuple", data := .seq #[en.key, en.val] } = h2 at e2 g2 k2 ⊢
  unfold Builtin.Dict_items.ownedTupleIsFree
  refine wpAny_bind (wpAny_bind (wpAny_field e2 rfl (x := .none) rfl (wpAny_pure ?_)))
  simp only [if_true]
  refine wpAny_bind (wpAny_field e2 rfl (x := kk) rfl (wpAny_bind (wpAny_field e2 rfl (x := vv) rfl ?_)))
  refine wpAny_bind (wpAny_setField_rec e2 (by simp) fun h3 e3 s3 => ?_)
  have e3 : IsItemIter h3 it d (i + 1) n ep en.key vv := e3
  refine wpAny_bind (wpAny_setField_rec e3 (by simp) fun h4 e4 s4 => ?_)
  have e4 : IsItemIter h4 it d (i + 1) n ep en.key en.val := e4
  refine wpAny_bind (wpAny_setField_rec e4 (by simp) fun h5 e5 s5 => ?_)
  have e5 : IsItemIterOut h5 it d (i + 1) n ep en.key en.val hp.objs.size := e5
  refine wpAny_bind (wpAny_setField_rec e5 (by simp) fun h6 e6 s6 => ?_)
  have e6 : IsItemIterOut h6 it d (i + 1) n ep en.key en.val hp.objs.size := e6
  have k6 : ∀ b u, b ≠ it → h2.get? b = some u → h6.get? b = some u := fun b u hb e => s6.extBut b u hb (s5.extBut b u hb (s4.extBut b u hb (s3.extBut b u hb e)))
  exact wpAny_bind (wpAny_letGo (wpAny_pure (wpAny_pure ⟨_, rfl, wpAny_pure (hQ h6 e6 (k6 _ _ ni g2) fun b u hb e => k6 b u hb (k2 b u hb e))⟩)))
theorem end_raw {Q : Option Value → Shared → Prop} (hh : A.handled = none) (hit : IsItemIter s.heap it d i n ep kk vv) (ho : s.heap.get? d = some od) (hd : od.data = .dict es ep) (hn : es.size = n) (hi : n ≤ i)
    (hQ : ∀ h', Heap.ExtBut it s.heap h' → Q none { s with heap := h' }) : wpAny (model P w) A (pyNext (.ref it)) Q E s := by
  have hT : s.TypeIs (.ref it) "dict_itemiterator" := ⟨_, hit, rfl⟩
  unfold pyNext
  refine wpAny_bind (wpAny_attempt (wpAny_callSpecial?_slot (name := Str.ofString "__next__") hT PySem.F.slot_dict_itemiterator_next (wpAny_call_entry PySem.F.slot_dict_itemiterator_next hT PySem.F.entry_dict_itemiterator_next ?_ (PySem.F.args_dict_itemiterator_next_1 _))))
  refine wpAny_bind (wpAny_pure (wpAny_bind (wpAny_bind ?_)))
  first | refine wpAny_bind (wpAny_typeNameOfWhole_itemiter hT (wpAny_pure ?_)) | refine wpAny_bind (wpAny_typeNameOf_itemiter hT (wpAny_pure ?_))
  refine wpAny_bind (wpAny_fieldsOf hit rfl ?_)
  rw [show Builtin.Dict_items.ownsTuple "dict_itemiterator" = true by decide]
  simp only [if_true]
  show wpAny _ _ (if (Value.ref d == Value.none) = true then _ else _) _ _ _
  rw [if_neg (show ¬ ((Value.ref d == Value.none) = true) from Bool.false_ne_true)]
  refine wpAny_bind (wpAny_pure (wpAny_bind (wpAny_dictEntries ho hd ?_)))
  rw [if_neg (by rw [hn]; simp)]
  refine wpAny_bind (wpAny_pure (wpAny_bind (wpAny_dictEpoch ho hd ?_)))
  rw [if_neg (by simp)]
  refine wpAny_pure ?_
  simp only [show ¬ ((i : Int) < 0) by omega, if_false, Int.toNat_natCast, Array.getElem?_eq_none (show es.size ≤ i by omega)]
  refine wpAny_bind ?_
  first | refine wpAny_bind (wpAny_typeNameOfWhole_itemiter hT (wpAny_pure ?_)) | refine wpAny_bind (wpAny_typeNameOf_itemiter hT (wpAny_pure ?_))
  show wpAny _ _ (setField (.ref it) 2 .none >>= _) _ _ s
  refine wpAny_bind (wpAny_setField_rec hit (by simp) fun h1 e1 s1 => ?_)
  refine stop_raise (A := A) (by simpa using hh) fun h' k => hQ h' fun b u hb e => k b u (s1.extBut b u hb e)
end
/-- the pairs of a locked dict with tuple keys, each a new tuple of the key's own tuple and the value -/
def ItiT (d : Addr) (o : Obj) (kvs : List (List Key × V)) : It :=
  ⟨fun i H => H d = some (.frz o (.dT kvs)) ∧ i < kvs.length, fun i H x H' => ∃ (T q : Addr) (k : List Key) (v : V), kvs[i]? = some (k, v) ∧ x = .ref T ∧ H T = none ∧ H q = some (.tup (k.map kV)) ∧ H' = upd H T (.tup [.ref q, v]), fun i H => H d = some (.frz o (.dT kvs)) ∧ kvs.length ≤ i⟩
theorem Inv.frzTV {X : Cx} {pins : List (Addr × Obj)} {σ : St} {H : Hp} {s : Shared} {d : Addr} {o : Obj} {kvs : List (List Key × V)} (I : Inv X pins σ H s) (h : H d = some (.frz o (.dT kvs))) :
    (d == sysModules) = false ∧ s.heap.get? d = some o ∧ o.ExactDict ∧ ∃ (es : Array DictEntry) (ep : Nat), o.data = .dict es ep ∧ es.size = kvs.length ∧
      ∀ (i : Nat) (k : List Key) (v : V), kvs[i]? = some (k, v) → ∃ (en : DictEntry) (q : Addr), es[i]? = some en ∧ en.key = .ref q ∧ H q = some (.tup (k.map kV)) ∧ RelV v en.val := by
  obtain ⟨hd, z, hs, xs, pr, o', es, ep, ho, hx, hdt, he, _⟩ := I.hok d _ h
  rw [hd] at ho
  cases ho
  have l1 : es.size = xs.length := size_of_entries he
  have l2 : kvs.length = xs.length := Paired.length pr
  refine ⟨hs, hd, hx, es, ep, hdt, by omega, fun i k v e => ?_⟩
  obtain ⟨b, hb, e1, e2, e3⟩ := paired_get pr e
  have q := entry_at he i
  rw [hb] at q
  exact ⟨_, b.2.1, q, rfl, e2, e3⟩
section
variable {P : Program} {w : World} {K : PySem.W.Frag} {d : Addr} {o : Obj} {es : Array DictEntry} {ep : Nat}
theorem turn_itemsT {kvs : List (List Key × V)} {elts : List Expr} {kk : Nat} {tpos : Pos} (it : Addr) (hod : o.data = .dict es ep) :
    Turn P w K (.Tuple elts kk tpos) (ItiT d o kvs) [it] it (fun i h => ∃ a b, IsItemIter h it d i kvs.length ep a b) where
  mem := by simp
  obj := fun i h st b hb => by
    have e : b = it := by simpa using hb
    subst e
    obtain ⟨_, _, e⟩ := st
    exact ⟨_, e, fun v z => nomatch z⟩
  keep := fun i h h' st k => let ⟨a, b, e⟩ := st; ⟨a, b, k it (by simp) _ e⟩
  item := by
    intro X hP hw hK hc i pins s σ H E I hf st hg
    subst hP hw hK
    obtain ⟨hd, hi⟩ := hg
    obtain ⟨hs, hgd, hx, es', ep', hdt, hsz, ent⟩ := I.frzTV hd
    obtain ⟨rfl, rfl⟩ := dict_ep hod hdt
    obtain ⟨⟨k, v⟩, hkv⟩ : ∃ p, kvs[i]? = some p := ⟨kvs[i], List.getElem?_eq_getElem hi⟩
    obtain ⟨en, q, hen, hkey, hq, rv⟩ := ent i k v hkv
    obtain ⟨a, b, he⟩ := st
    have hlt : it < s.heap.objs.size := Heap.lt_size he
    refine next_raw he hgd hdt hsz hen fun h' ho hT hk => ?_
    refine ⟨_, rfl, wpAny_letOwnedTupleGo_items (s := { s with heap := h' }) ho fun h'' he' sb => ?_⟩
    have hT2 : h''.get? s.heap.objs.size = some { cls := .type "tuple", data := .seq #[en.key, en.val] } := (sb.2 _ (Nat.ne_of_gt hlt)).trans hT
    have new : ObjOk X.prog X.w (upd H s.heap.objs.size (.tup [.ref q, v])) h'' s.heap.objs.size (.tup [.ref q, v]) :=
      ⟨by show 2 ≤ sizeLine; decide, [en.key, en.val], .cons hkey (.cons rv .nil), ⟨_, hT2, rfl, _, rfl⟩⟩
    have I1 : Inv X pins σ (upd H s.heap.objs.size (.tup [.ref q, v])) { s with heap := h'' } :=
      I.turnedNew (t' := s.toks) (ch := [it]) (fun b ob hb e => (sb.2 b (by simpa using hb)).trans (hk b ob (by simpa using hb) e)) hf (Nat.le_refl _) new
    refine ⟨.ref s.heap.objs.size, _, I1, rfl, ⟨_, q, k, v, hkv, rfl, I.hok.fresh (Nat.le_refl _), hq, rfl⟩, ⟨_, _, he'⟩, fun b hb => ?_⟩
    have e : b = it := by simpa using hb
    rw [e, upd_ne (Nat.ne_of_lt hlt)]
    exact (hf it (by simp)).1
  done := by
    intro X hP hw hK hc i pins s σ H E I hf st hg
    subst hP hw hK
    obtain ⟨hd, hi⟩ := hg
    obtain ⟨f0, f1, f2, f3, f4, f5⟩ := hf it (by simp)
    obtain ⟨hs, hgd, hx, es', ep', hdt, hsz, ent⟩ := I.frzTV hd
    obtain ⟨rfl, rfl⟩ := dict_ep hod hdt
    obtain ⟨a, b, he⟩ := st
    exact end_raw (I.ok.hd hc) he hgd hdt hsz hi fun h' eb => ⟨rfl, I.turned (t' := s.toks) (fun b ob hb e => eb b ob hb e) f0 f1 f3 f4 f5⟩
  self := fun A i s Q E st h => let ⟨_, _, e⟩ := st; PySem.W.kcp_self e h
end
def iItemsT (td : TE) : TI := fun σ H R => td σ H fun x H1 => ∃ d o kvs, x = .ref d ∧ H1 d = some (.frz o (.dT kvs)) ∧ R (ItiT d o kvs) H1
section
variable {X : Cx} {e : Expr} {td : TE} {apos cpos : Pos}
theorem pi_itemsT {elts : List Expr} {kk : Nat} {tpos : Pos} (he : PE X e td) (hbase : attributeBase e "items" X.env (eval e X.env) = eval e X.env := by rfl) (hline : (apos.endLine == cpos.line) = true := by rfl) :
    PI X (.Tuple elts kk tpos) (.Call (.Attribute e "items" apos) [] [] cpos) (iItemsT td) := by
  intro pins s σ H R I h
  refine wpAny_Call_method (T := "dict") (id := "dict.items") hbase rfl hline PySem.F.plainAttrs_dict PySem.F.slot_dict_items PySem.F.type_dict_items (thn (he pins s σ H _ I h) fun u s1 ⟨x, H1, I1, rx, d, o, kvs, ex, hd, q⟩ => ?_)
  subst ex
  obtain rfl : u = Value.ref d := rx
  obtain ⟨hs, hgd, hx, es, ep, hdt, hsz, ent⟩ := I1.frzTV hd
  have hT : s1.TypeIs (.ref d) "dict" := ⟨o, hgd, hx.1⟩
  refine ⟨hT, fun b z => ?_, ?_⟩
  · cases z
    exact ⟨o, hgd, hx.2.1⟩
  have I2 : Inv X pins σ H1 { s1 with heap := s1.heap.push { cls := .type "dict_items", data := .fields #[.ref d] } } := I1.kept (t' := s1.toks) fun b ob q => Heap.get?_push_of_some _ q
  have fin : wpAny (model X.prog X.w) X.A (pyIter (.ref s1.heap.objs.size)) (PIE X pins σ (.Tuple elts kk tpos) R) X.xe { s1 with heap := s1.heap.push { cls := .type "dict_items", data := .fields #[.ref d] } } := by
    refine iter_raw (d := d) ⟨_, Heap.get?_push_size _ rfl, rfl, rfl⟩ (Heap.get?_push_of_some _ hgd) hdt (pi_one (tk := s1.toks) I2 _ (turn_itemsT _ hdt) ⟨.none, .none, ?_⟩ q)
    rw [← hsz]
    exact Heap.get?_push_size _ rfl
  show wpAny _ _ (callWith cpos (.builtin "dict.items") [.ref d] [] []) _ X.xe s1
  exact method_meetsIn PySem.F.slot_dict_items PySem.F.entry_dict_items rfl (PySem.evalArgs_none ⟨rfl, hT, PySem.F.args_dict_items_1 _, _, items_raw d hs, ⟨o, hgd, hx⟩, fin⟩)
end
end L2

end
section
set_option Elab.async false
set_option linter.all false
set_option maxRecDepth 100000
namespace L2
open PySem PySem.Spec PyProof.Rows
/-! ### {t: v}, t a tuple -/
def tDisp1T (tk tv : TE) : TE := fun σ H Q => ∀ p, H p = none → tk σ (upd H p (.dT [])) fun x H1 => tv σ H1 fun y H2 => ∃ (a : Addr) (key : List Key), x = .ref a ∧ H2 a = some (.tup (key.map kV)) ∧ H2 p = some (.dT []) ∧ Q (.ref p) (upd H2 p (.dT [(key, y)]))
section
variable {X : Cx} {k v : Expr} {pos : Pos} {tk tv : TE}
theorem pe_disp1T (hu : X.A.units < cLine) (hk : PE X k tk) (hv : PE X v tv) : PE X (.Dict [some k] [v] pos) (tDisp1T tk tv) := by
  intro pins s σ H Q I q
  have hn := I.hok.fresh (Nat.le_refl s.heap.objs.size)
  have I1 := I.laid (a := s.heap.objs.size) (o := .dT []) (h' := s.heap.push { cls := .type "dict", data := .dict #[] }) (t' := s.toks) (fun _ _ q => Heap.get?_push_of_some _ q) (Nat.le_refl _) (dt_empty s.heap I.big)
  rw [arm_eval_Dict, zip_pairTrees [some k] [v] X.env pos rfl rfl, dictDisplay_pairs _ (by simp [pairTrees]) (by simp [pairTrees])]
  refine wpAny_bind (wpAny_standAt (wpAny_bind ?_))
  unfold subDict
  refine wpAny_bind (wpAny_alloc (wpAny_bind (wpAny_holding ?_)))
  rw [if_pos (by simp [pairTrees])]
  refine wpAny_bind (pairTrees_cons_walk (thn (hk pins _ σ _ _ I1 (q _ hn)) fun u s2 ⟨x, H1, I2, rx, q1⟩ => thn (hv pins s2 σ H1 _ I2 q1) fun w2 s3 ⟨y, H2, I3, ry, a, key, ex, ha, hp, q2⟩ => pairTrees_nil_walk (wpAny_holding ?_)))
  subst ex
  obtain rfl : u = Value.ref a := rx
  rw [List.forIn_cons]
  obtain ⟨z, hd, xs, rel, dd⟩ := dt_of I3.hok hp
  cases rel
  refine wpAny_bind (wpAny_bind (wpAny_bind (wpAny_dictSet_heap (hsz := Nat.zero_le _) hu (key_of I3.hok ha) dd fun h' dd' hs => wpAny_pure ?_)))
  dsimp only
  rw [List.forIn_nil]
  refine wpAny_pure (wpAny_pure (wpAny_pure (wpAny_pure ?_)))
  obtain ⟨o, es, ep, hq, h2, h3, h4, _, h5⟩ := dd'
  refine ⟨.ref s.heap.objs.size, _, ?_, rfl, q2⟩
  refine d_write I3 (by rw [hp]; exact True.intro) hs ⟨o, hq⟩ ⟨by show 1 ≤ sizeLine; decide, hd, _, .cons ⟨rfl, ?_, ry⟩ .nil, o, es, ep, hq, h2, h3, h4, h5⟩
  rw [upd_ne (ne_of ha hp (fun z => nomatch z))]
  exact ha
end
/-! ### a walk over a dict that is made for it: the dict is locked from there on -/
def iKeysL (td : TE) : TI := fun σ H R => td σ H fun x H1 => ∃ d kvs, x = .ref d ∧ H1 d = some (.dK kvs) ∧ ∀ o, R (Itk d o kvs) (upd H1 d (.frz o (.dK kvs)))
theorem pi_keysL {X : Cx} {tg e : Expr} {td : TE} (he : PE X e td) : PI X tg e (iKeysL td) := by
  intro pins s σ H R I h
  refine thn (he pins s σ H _ I h) fun u s1 ⟨x, H1, I1, rx, d, kvs, ex, hd, q⟩ => ?_
  subst ex
  obtain rfl : u = Value.ref d := rx
  obtain ⟨o, I2⟩ := I1.lock hd True.intro
  obtain ⟨hs, hgd, hx, es, ep, vs, hdt, hsz, kv, hm⟩ := I2.frzK upd_same
  refine iter_keys hs hgd hx hdt (pi_one (tk := s1.toks) I2 _ (turn_keys _ hdt) ⟨_, Heap.get?_push_size _ rfl, rfl, ?_⟩ (q o))
  rw [hsz] <;> rfl
/-! ### sorted(d), d's keys numbers -/
section
variable {P : Program} {w : World} {A : Around} {E : Value → Shared → Prop} {s : Shared}
theorem collect_keys {R : List Value → Shared → Prop} {d : Addr} {o : Obj} {es : Array DictEntry} {ep : Nat} (lo : (d == sysModules) = false) (hx : o.ExactDict) (hd : o.data = .dict es ep) (hh : A.handled = none) (ho : s.heap.get? d = some o) (hz : es.size ≤ sizeLine)
    (h : ∀ h' tk, (∀ c u, s.heap.get? c = some u → h'.get? c = some u) → s.heap.objs.size ≤ h'.objs.size → R (es.toList.map fun e => e.key) { s with heap := h', toks := tk }) : wpAny (model P w) A (collect (.ref d)) R E s := by
  have lS : d < s.heap.objs.size := Heap.lt_size ho
  unfold collect
  refine wpAny_bind (wpAny_runValue (codeAny_builtin entry_proto_collect' ?_))
  rw [Around.under_plainId PySem.F.plain_proto_collect _]
  refine wpAny_bind (wpAny_newObj_type (wpAny_pure ⟨plainId_quiet PySem.F.plain_list_iadd _, codeAny_builtin entry_list_iadd' ?_⟩))
  rw [Around.under_plainId PySem.F.plain_list_iadd _]
  have gL : (s.heap.push { cls := .type "list", data := .seq ([] : List Value).toArray }).get? s.heap.objs.size = some { cls := .type "list", data := .seq #[] } := Heap.get?_push_size _ rfl
  have gS : (s.heap.push { cls := .type "list", data := .seq ([] : List Value).toArray }).get? d = some o := Heap.get?_push_of_some _ ho
  have fit : ∀ (q : Result) (s' : Shared), (∃ h' tk acc c', q = .ok (.ret (.ref s.heap.objs.size)) ∧ s' = { s with heap := h', toks := tk } ∧ (∀ c u, s.heap.get? c = some u → h'.get? c = some u) ∧
      h'.get? s.heap.objs.size = some { cls := .type "list", dict := none, data := .seq acc c', slots := #[] } ∧ ItemsOf (fun i v => ∃ en, es[i]? = some en ∧ v = en.key) acc es.size) →
      wants (fun v s₁ => wpAny (model P w) A (match v with
        | .ref a => do
          let o ← load a
          match o.data with
          | .seq xs _ => pure xs.toList
          | _ => unsupported "internal:collect"
        | _ => unsupported "internal:collect") R E s₁) E q s' := by
    rintro q s' ⟨h', tk, acc, c', rfl, rfl, k', g', hacc⟩
    refine wpAny_bind (wpAny_load g' (wpAny_pure ?_))
    have e : acc.toList = es.toList.map fun e => e.key := by
      refine items_are_list (vs := es.toList.map fun e => e.key) (n := es.size) ⟨hacc.1, fun i v hv => ?_⟩ (by rw [List.length_map, Array.length_toList])
      obtain ⟨en, h1, h2⟩ := hacc.2 i v hv
      rw [List.getElem?_map, show es.toList[i]? = es[i]? from Array.getElem?_toList, h1, h2]
      rfl
    rw [e]
    exact h h' tk k' (Nat.le_of_lt (Heap.lt_size g'))
  have key := PySem.W.kdl_extend (A := A) (s := { s with heap := s.heap.push { cls := .type "list", data := .seq ([] : List Value).toArray } }) (src_keys (prog := P) (w := w) lo hx hd) hh gS s.heap.objs.size (Nat.ne_of_gt lS) (Nat.ne_of_gt lS) (.ref s.heap.objs.size) 0 gL
    (R := fun q s' => ∃ h' tk acc c', q = .ok (.ret (.ref s.heap.objs.size)) ∧ s' = { s with heap := h', toks := tk } ∧ (∀ c u, s.heap.get? c = some u → h'.get? c = some u) ∧
      h'.get? s.heap.objs.size = some { cls := .type "list", dict := none, data := .seq acc c', slots := #[] } ∧ ItemsOf (fun i v => ∃ en, es[i]? = some en ∧ v = en.key) acc es.size)
    (fun h' tk acc c' hk hS' hacc => ⟨h', tk, acc, c', rfl, rfl, fun b u e => hk b u (Nat.ne_of_lt (Heap.lt_size e)) (Heap.get?_push_of_some _ e), hS', hacc⟩) hz
  refine wpAny_mono key (fun fin s' x => ?_) fun e s' x => fit _ s' x
  cases fin with
  | done f => exact fit _ s' x
  | again c1 => exact ⟨x.1, codeAny_mono x.2 fun q s2 y => fit q s2 y⟩
theorem sorted_keys {d : Addr} {o : Obj} {es : Array DictEntry} {ep : Nat} {ns : List Int} {Q : Value → Shared → Prop} (lo : (d == sysModules) = false) (hx : o.ExactDict) (hd : o.data = .dict es ep) (hh : A.handled = none) (ho : s.heap.get? d = some o) (hz : es.size ≤ sizeLine)
    (hi : IntsAre (es.toList.map fun e => e.key) ns)
    (h : ∀ h' tk (out : List Value) ns' q c, IntsAre out ns' → ns'.Perm ns → ns'.Pairwise (· ≤ ·) → s.heap.objs.size ≤ q → (∀ c u, s.heap.get? c = some u → h'.get? c = some u) → h'.get? q = some { cls := .type "list", data := .seq out.toArray c } → Q (.ref q) { s with heap := h', toks := tk }) :
    wpAny (model P w) A (call (.builtin "sorted") [.ref d]) Q E s := by
  refine Calls.call_function_entry kind_sorted plain_sorted entry_sorted (args_sorted1 _) ?_
  unfold Builtin.«sorted»
  refine wpAny_bind (m := checkCount "sorted" 1 1 _) (wpAny_pure ?_)
  refine wpAny_bind (collect_keys (A := A.in1) lo hx hd hh ho hz fun h1 tk k1 ge => ?_)
  have hl : (es.toList.map fun e => e.key).length ≤ sizeLine := by
    rw [List.length_map, Array.length_toList]
    exact hz
  generalize (es.toList.map fun e => e.key) = vs at hi hl ⊢
  refine wpAny_bind (wpAny_newList ?_ hl)
  have g1 : (h1.push (seqObj "list" vs.toArray 0)).get? h1.objs.size = some (seqObj "list" vs.toArray 0) := Heap.get?_push_size _ rfl
  refine wpAny_bind (wpAny_holding (wpAny_call_entry slot_list_sort ⟨_, g1, rfl⟩ entry_list_sort (list_sort_treeAny g1 hi hl fun out ns' a1 a2 a3 => ⟨_, rfl, ?_⟩) (args_list_sort _)))
  obtain ⟨e1, z⟩ := sortedHeap_at (vs := vs) (n := 0) (out := out) g1
  refine wpAny_pure ⟨_, rfl, ?_⟩
  have zs : h1.objs.size < (h1.push (seqObj "list" vs.toArray 0)).objs.size := by
    rw [size_push']
    exact Nat.lt_succ_self _
  have old : ∀ c u, s.heap.get? c = some u → (sortedHeap (h1.push (seqObj "list" vs.toArray 0)) h1.objs.size vs out).get? c = some u := fun c u e => by
    have l1 : c < h1.objs.size := Heap.lt_size (k1 c u e)
    rw [sortedHeap_old (Nat.ne_of_lt l1) (Nat.lt_trans l1 zs)]
    exact Heap.get?_push_of_some _ (k1 c u e)
  exact h _ tk out.toList ns' h1.objs.size e1 a1 a2 a3 ge old z
end
theorem ints_by : ∀ (l : List Value) (ms : List Int), l.length = ms.length → (∀ (i : Nat) (v : Value) (m : Int), l[i]? = some v → ms[i]? = some m → ∃ t, v = Value.int m t) → IntsAre l ms
  | [], [], _, _ => .nil
  | [], _ :: _, h, _ => by simp at h
  | _ :: _, [], h, _ => by simp at h
  | v :: l, m :: ms, h, q => by
    obtain ⟨t, rfl⟩ := q 0 v m rfl rfl
    exact .cons _ _ (ints_by l ms (by simpa using h) fun i u k hu hk => q (i + 1) u k (by simpa using hu) (by simpa using hk))
section
variable {X : Cx}
theorem cr_sortedD (hc : X.calm = true) : CallR X (.builtin "sorted") (fun xs H Q => ∃ (a : Addr) (kvs : List (Key × V)) (ns : List Int), xs = [.ref a] ∧ H a = some (.dK kvs) ∧ kvs.map (·.1) = ns.map Sum.inl ∧
    ∀ (ns' : List Int) (p : Addr), ns'.Perm ns → ns'.Pairwise (· ≤ ·) → H p = none → Q (.ref p) (upd H p (.lst (ns'.map V.int)))) := by
  intro pins s σ H xs us Q I r h
  obtain ⟨a, kvs, ns, rfl, ha, hk, q⟩ := h
  rw [Vals.ref1 r]
  obtain ⟨z, lo, vs, kv, o, es, ep, ho, hx, hd, hE, hP, _⟩ := dk_of I.hok ha
  have l2 : kvs.length = vs.length := Paired.length kv
  have l1 := hP.length
  rw [Array.length_toList] at l1
  have ln : ns.length = kvs.length := by
    have := congrArg List.length hk
    rw [List.length_map, List.length_map] at this
    omega
  have hi : IntsAre (es.toList.map fun e => e.key) ns := by
    refine ints_by _ _ (by rw [List.length_map, Array.length_toList]; omega) fun i v m hv hm => ?_
    rw [List.getElem?_map] at hv
    obtain ⟨en, hen, rfl⟩ := Option.map_eq_some_iff.mp hv
    have hki : (kvs.map (·.1))[i]? = some (Sum.inl m) := by
      rw [hk, List.getElem?_map, hm]
      rfl
    rw [List.getElem?_map] at hki
    obtain ⟨⟨k, y⟩, hkv, e⟩ := Option.map_eq_some_iff.mp hki
    have e : k = Sum.inl m := e
    subst e
    obtain ⟨u, hu, _⟩ := kv_get kv hkv
    obtain ⟨is, _⟩ := hP.get? hen hu
    exact relV_key (show keyIs (Sum.inl m) en.key = true from is)
  refine sorted_keys lo hx hd (I.ok.hd hc) ho (by omega) hi fun h' tk out ns' x c a1 a2 a3 hx k g => ?_
  have hz : (ns'.map V.int).length ≤ sizeLine := by
    rw [List.length_map, a2.length_eq]
    omega
  exact ⟨.ref x, upd H x (.lst (ns'.map V.int)), I.laid (o := .lst (ns'.map V.int)) (t' := tk) k hx ⟨hz, out, c, vals_of_ints a1, g⟩, rfl, q ns' x a2 a3 (I.hok.fresh hx)⟩
end
end L2

end
section
set_option Elab.async false
set_option linter.all false
set_option maxRecDepth 100000
namespace L2
open PySem PySem.Spec PyProof.Rows
/-! ### l.extend(t), t a tuple -/
def rExtendT (K : PySem.W.Frag) : V → List V → Hp → VK → Prop := fun x vs H Q => ∃ (l b : Addr) (xs zs : List V), x = .ref l ∧ vs = [.ref b] ∧ H l = some (.lst xs) ∧ SqT K H b zs ∧ xs.length + zs.length ≤ sizeLine ∧ Q .non (upd H l (.lst (xs ++ zs)))
section
variable {X : Cx}
theorem mt_extendT : MtM X "list.extend" (rExtendT X.K) := by
  intro pins s σ H x vs v us Q I rx rv h
  obtain ⟨l, b, xs, zs, rfl, rfl, hH, hB, hz, q⟩ := h
  cases rx
  obtain ⟨u, rfl, ru⟩ := rv.one
  cases ru
  obtain ⟨z, its, n, r, hl, e⟩ := I.lstM hH
  obtain ⟨its2, r2, ⟨ob, gb, cb, n2, db⟩, hz2⟩ := I.tuple hB
  have hl2 := r2.length
  have fin : Inv X pins σ (upd H l (.lst (xs ++ zs))) { s with heap := s.heap.update l (Obj.mapSeq (· ++ its2.toArray)) } :=
    I.lset (t' := s.toks) (its' := its ++ its2) hH e (by simp) (r.append r2) (by rw [List.length_append]; exact hz)
  refine wpAny_call_entry PySem.F.slot_list_extend ⟨_, e, rfl⟩ PySem.F.entry_list_extend ?_ (PySem.F.args_list_extend_2 _ _)
  show wpAny _ _ (Builtin.List.listExtendWith (.ref l) (.ref b) .none) _ _ s
  unfold Builtin.List.listExtendWith
  refine wpAny_bind (wpAny_typeOf (T := "tuple") ⟨ob, gb, cb⟩ ?_)
  rw [if_pos (by rw [show (Value.type "tuple" == Value.type "tuple") = true by rfl]; simp)]
  refine wpAny_bind (listItems_at gb db ?_)
  refine wpAny_bind (listItems_at e rfl ?_)
  rw [if_neg (by rw [notLongL (by rw [List.size_toArray, List.size_toArray]; omega), Bool.and_false]; exact Bool.false_ne_true)]
  refine wpAny_bind (listUpdate_at e rfl ?_ (by rw [List.size_toArray]; omega) (by rw [Array.size_append, List.size_toArray, List.size_toArray]; omega))
  exact wpAny_pure ⟨_, rfl, .non, _, fin, rfl, q⟩
end
end L2

end
section
set_option Elab.async false
set_option linter.all false
set_option maxRecDepth 100000
namespace Wb
open PySem PySem.Spec PyProof.Rows L2
/-! ### the text by places -/
def top (i : Nat) : Stmt := PySem.Challenge.pw_wipeboard_s01_answers.main.body.getD i (.Pass ⟨0, 0, 0, 0⟩)
abbrev sGcd : Stmt := top 16
abbrev sLcm : Stmt := top 17
abbrev sWritten : Stmt := top 18
abbrev sRising : Stmt := top 19
abbrev sSteps : Stmt := top 20
abbrev sAfter : Stmt := top 21
/-- numbers as values -/
abbrev iv (l : List Nat) : List V := (zs l).map V.int
theorem iv_length (l : List Nat) : (iv l).length = l.length := by
  unfold iv zs
  rw [List.length_map, List.length_map]
theorem iv_at {l : List Nat} {i : Nat} (h : i < l.length) : (iv l)[i]? = some (.int ((l.getD i 0 : Nat) : Int)) := by
  unfold iv zs
  rw [List.getElem?_map, List.getElem?_map, List.getElem?_eq_getElem h, List.getD_eq_getElem?_getD, List.getElem?_eq_getElem h]
  rfl
theorem iv_append (l k : List Nat) : iv (l ++ k) = iv l ++ iv k := by
  unfold iv zs
  rw [List.map_append, List.map_append]
theorem iv_take (l : List Nat) (n : Nat) : (iv l).take n = iv (l.take n) := by
  unfold iv zs
  rw [List.map_take, List.map_take]
theorem iv_drop (l : List Nat) (n : Nat) : (iv l).drop n = iv (l.drop n) := by
  unfold iv zs
  rw [List.map_drop, List.map_drop]
theorem qi {Q : VK} {H : Hp} {i j : Int} (k : Q (.int j) H) (h : i = j) : Q (.int i) H := h ▸ k
/-- a def of the text, known by its name -/
structure Known (K : PySem.W.Frag) (mg : Str → Option Value) (x : Str) (st : Stmt) (ps : List Str) (f : Addr) (fd : FuncData) : Prop where
  F : Fun K x x st f fd
  mgf : mg x = some (.ref f)
  bd : Binds K fd ps []
/-- the names of Python's own that the text leaves as they are -/
structure Own (mg : Str → Option Value) : Prop where
  len : mg "len" = Option.none
  max : mg "max" = Option.none
  sorted : mg "sorted" = Option.none
  tuple : mg "tuple" = Option.none
  list : mg "list" = Option.none
  range : mg "range" = Option.none
  set : mg "set" = Option.none
section
variable {P : Program} {w : World} {K : PySem.W.Frag} {mg : Str → Option Value} {base : Heap}
/-! ### greatest_common_divisor -/
def spGcd : Sp := fun vs H Q _ => ∃ a b : Nat, vs = [.int a, .int b] ∧ Q (.int (Nat.gcd a b : Nat)) H
theorem scGcd : FnScope ["a", "b", "rest"] ["a", "b"] (defScope sGcd) := ⟨rfl, rfl, rfl, by decide +kernel, rfl, by decide +kernel, by decide +kernel⟩
def mu0 : L2.St → Hp → Nat := fun σ _ => match σ with
  | some (.int a) :: _ => a.toNat
  | _ => 0
theorem ok_gcd {f : Addr} {fd : FuncData} (F : Fun K "greatest_common_divisor" "greatest_common_divisor" sGcd f fd) : FnOk P w K mg base CX0 1 f fd ["a", "b"] spGcd := by
  refine F.ok scGcd (fun vs H Q E h => ?_) (fun cdv A outer s H vs Q E hr h => ?_)
  · obtain ⟨a, b, rfl, _⟩ := h
    rfl
  · obtain ⟨a, b, rfl, k⟩ := h
    refine ⟨_, pss_cons (ps_while PassesOwn.never (pt_cmpR op_gt (pv 0) pe_int (nomark _))
        (pss_cons (ps_set (i := 2) scGcd.nd rfl (Or.inl rfl) (pe_op op_mod (pv 1) (pv 0)))
        (pss_cons (ps_set (i := 1) scGcd.nd rfl (Or.inl rfl) (pv 0))
        (pss_one (ps_set (i := 0) scGcd.nd rfl (Or.inl rfl) (pv 2))))))
      (pss_one (ps_ret (pv 1))), ?_⟩
    refine while_by (fun σ H' => ∃ (x y : Nat) (r : Option V), σ = [some (.int x), some (.int y), r] ∧ Nat.gcd x y = Nat.gcd a b ∧ H' = H) mu0 ⟨a, b, none, rfl, rfl, rfl⟩ ?_ ?_
    · rintro σ H' ⟨x, y, r, rfl, e, rfl⟩
      refine ⟨_, rfl, _, _, rfl, rfl, _, rfl, ite2 (fun hx => ?_) (fun hx => ?_)⟩
      · have hx : (0 : Int) < (x : Int) := of_decide_eq_true hx
        refine ⟨_, rfl, _, rfl, _, _, rfl, rfl, hx, _, rfl, _, rfl, ⟨y % x, x, _, rfl, ?_, rfl⟩, ?_⟩
        · rw [← e]
          exact (Nat.gcd_rec x y).symm
        · show (((y % x : Nat) : Int)).toNat < ((x : Int)).toNat
          have := Nat.mod_lt y (show 0 < x by omega)
          omega
      · have hx : ¬ (0 : Int) < (x : Int) := fun z => hx (decide_eq_true z)
        have : x = 0 := by omega
        subst this
        rw [Nat.gcd_zero_left] at e
        subst e
        exact ⟨_, rfl, k⟩
    · rintro σ H' Q1 Q2 hq ⟨v, e, i, j, e1, e2, b, e3, q⟩
      exact ⟨v, e, i, j, e1, e2, b, e3, hq _ _ q⟩
/-! ### least_common_multiple -/
def spLcm : Sp := fun vs H Q _ => ∃ a b : Nat, vs = [.int a, .int b] ∧ a < lid ∧ b < lid ∧ Q (.int (Nat.lcm a b : Nat)) H
theorem scLcm : FnScope ["a", "b"] ["a", "b"] (defScope sLcm) := ⟨rfl, rfl, rfl, by decide +kernel, rfl, by decide +kernel, by decide +kernel⟩
theorem big_of {a b : Nat} (ha : a < lid) (hb : b < lid) : CBig (a : Int) (b : Int) := ⟨60 + 400, by decide, ha, hb⟩
theorem ok_lcm {f g : Addr} {fd gd : FuncData} (F : Fun K "least_common_multiple" "least_common_multiple" sLcm f fd) (G : Known K mg "greatest_common_divisor" sGcd ["a", "b"] g gd) : FnOk P w K mg base CX0 2 f fd ["a", "b"] spLcm := by
  refine F.ok scLcm (fun vs H Q E h => ?_) (fun cdv A outer s H vs Q E hr h => ?_)
  · obtain ⟨a, b, rfl, _⟩ := h
    rfl
  · obtain ⟨a, b, rfl, ha, hb, k⟩ := h
    have GG : FnOk P w K mg base CX0 1 g gd ["a", "b"] spGcd := ok_gcd G.F
    refine ⟨_, pss_cons (ps_if (pt_cmpR op_eq (pv 0) pe_int (nomark _)) (pss_one (ps_ret pe_int)) pss_nil)
      (pss_one (ps_ret (pe_op op_mulB (pe_op op_fdivB (pv 0) (pe_call GG hr rfl G.mgf G.F.kp G.bd .nil pass0 (pa_cons (pv 0) (pa_cons (pv 1) pa_nil)))) (pv 1)))), ?_⟩
    refine ⟨_, rfl, rfl, _, rfl, ite2 (fun hx => ?_) (fun hx => ?_)⟩
    · have hx : V.int (a : Int) = V.int 0 := of_decide_eq_true hx
      have : a = 0 := by
        have := V.int.inj hx
        omega
      subst this
      rw [Nat.lcm_zero_left] at k
      exact k
    · have ha0 : 0 < a := by
        by_cases h0 : a = 0
        · subst h0
          exact (hx (decide_eq_true rfl)).elim
        · omega
      have hg : 0 < Nat.gcd a b := Nat.gcd_pos_of_pos_left b ha0
      have hga : Nat.gcd a b ≤ a := Nat.gcd_le_left b ha0
      refine ⟨_, rfl, _, rfl, _, rfl, a, b, rfl, _, _, rfl, rfl, ⟨by omega, 60 + 400, by decide, ?_⟩, _, rfl, _, _, rfl, rfl, ?_, ?_⟩
      · show Nat.gcd a b < lid
        omega
      · exact big_of (a := a / Nat.gcd a b) (Nat.lt_of_le_of_lt (Nat.div_le_self _ _) ha) hb
      · have e : ((a : Int) / ((Nat.gcd a b : Nat) : Int)) * (b : Int) = ((Nat.lcm a b : Nat) : Int) := by
          rw [← lcm_is a b ha0]
          rfl
        exact qi k e
/-! ### rising -/
def spRising (K : PySem.W.Frag) : Sp := fun vs H Q _ => ∃ (p : Addr) (l : List Nat), vs = [.ref p] ∧ (SqL K H p (iv l) ∨ SqT K H p (iv l)) ∧
  ∀ (q : Addr) (H' : Hp), H' q = some (.tup (iv (Uw81.rising l))) → Same H H' → Q (.ref q) H'
theorem scRising : FnScope ["numbers"] ["numbers"] (defScope sRising) := ⟨rfl, rfl, rfl, by decide +kernel, rfl, by decide +kernel, by decide +kernel⟩
theorem ok_rising {f : Addr} {fd : FuncData} (F : Fun K "rising" "rising" sRising f fd) (T : Own mg) : FnOk P w K mg base CX0 1 f fd ["numbers"] (spRising K) := by
  refine F.ok scRising (fun vs H Q E h => ?_) (fun cdv A outer s H vs Q E hr h => ?_)
  · obtain ⟨p, l, rfl, _⟩ := h
    rfl
  · obtain ⟨p, l, rfl, hs, k⟩ := h
    refine ⟨_, pss_one (ps_ret (pe_callTy call_tuple_of (by rfl) T.tuple PyProof.Rows.boot_tuple (pa_cons (pe_callB cr_sortedA (by rfl) T.sorted PyProof.Rows.boot_sorted (pa_cons (pv 0) pa_nil)) pa_nil))), ?_⟩
    refine ⟨_, rfl, p, zs l, rfl, hs, fun ns' q hp ho hq => ?_⟩
    have e := sorted_is hp ho
    subst e
    refine ⟨q, _, rfl, .inl ⟨SqL.of upd_same, fun t ht => ?_⟩⟩
    exact k t _ upd_same ((same_upd hq).trans (same_upd ht))
end
end Wb

end
section
set_option Elab.async false
set_option linter.all false
set_option maxRecDepth 100000
namespace Wb
open PySem PySem.Spec PyProof.Rows L2
theorem eqN {a b : Nat} (h : decide (V.int (a : Int) = V.int (b : Int)) = true) : a = b := by
  have := V.int.inj (of_decide_eq_true h)
  omega
theorem neN {a b : Nat} (h : ¬ decide (V.int (a : Int) = V.int (b : Int)) = true) : a ≠ b := fun e => h (decide_eq_true (by rw [e]))
section
variable {P : Program} {w : World} {K : PySem.W.Frag} {mg : Str → Option Value} {base : Heap}
/-! ### written_for -/
def spWritten : Sp := fun vs H Q _ => ∃ r a b : Nat, vs = [.int r, .int a, .int b] ∧ r ≤ 9 ∧ a ≤ b ∧ b < lid ∧ Q (.int (Uw81.written r a b : Nat)) H
theorem scWritten : FnScope ["rule", "a", "b"] ["rule", "a", "b"] (defScope sWritten) := ⟨rfl, rfl, rfl, by decide +kernel, rfl, by decide +kernel, by decide +kernel⟩
theorem ok_written {f g l : Addr} {fd gd ld : FuncData} (F : Fun K "written_for" "written_for" sWritten f fd) (G : Known K mg "greatest_common_divisor" sGcd ["a", "b"] g gd) (L : Known K mg "least_common_multiple" sLcm ["a", "b"] l ld) (T : Own mg) :
    FnOk P w K mg base CX0 3 f fd ["rule", "a", "b"] spWritten := by
  refine F.ok scWritten (fun vs H Q E h => ?_) (fun cdv A outer s H vs Q E hr h => ?_)
  · obtain ⟨r, a, b, rfl, _⟩ := h
    rfl
  · obtain ⟨r, a, b, rfl, hr9, hab, hb, k⟩ := h
    have ha : a < lid := Nat.lt_of_le_of_lt hab hb
    have GG : FnOk P w K mg base CX0 1 g gd ["a", "b"] spGcd := ok_gcd G.F
    have LL : FnOk P w K mg base CX0 2 l ld ["a", "b"] spLcm := ok_lcm L.F G
    have hr1 := hr.mono (j := 1) (by decide)
    refine ⟨_, pss_cons (ps_if (pt_cmpR op_eq (pv 0) pe_int (nomark _)) (pss_one (ps_ret (pe_op op_add (pv 1) (pv 2)))) pss_nil)
      (pss_cons (ps_if (pt_cmpR op_eq (pv 0) pe_int (nomark _)) (pss_one (ps_ret (pe_op op_sub (pv 2) (pv 1)))) pss_nil)
      (pss_cons (ps_if (pt_cmpR op_eq (pv 0) pe_int (nomark _)) (pss_one (ps_ret (pe_op op_mulB (pv 1) (pv 2)))) pss_nil)
      (pss_cons (ps_if (pt_cmpR op_eq (pv 0) pe_int (nomark _)) (pss_one (ps_ret (pe_op op_add (pe_op op_add (pv 1) (pv 2)) (pe_op op_mulB (pv 1) (pv 2))))) pss_nil)
      (pss_cons (ps_if (pt_cmpR op_eq (pv 0) pe_int (nomark _)) (pss_one (ps_ret (pe_call GG hr1 rfl G.mgf G.F.kp G.bd .nil pass0 (pa_cons (pv 1) (pa_cons (pv 2) pa_nil))))) pss_nil)
      (pss_cons (ps_if (pt_cmpR op_eq (pv 0) pe_int (nomark _)) (pss_one (ps_ret (pe_call LL hr rfl L.mgf L.F.kp L.bd .nil pass0 (pa_cons (pv 1) (pa_cons (pv 2) pa_nil))))) pss_nil)
      (pss_cons (ps_if (pt_cmpR op_eq (pv 0) pe_int (nomark _)) (pss_one (ps_ret (pv 2))) pss_nil)
      (pss_cons (ps_if (pt_cmpR op_eq (pv 0) pe_int (nomark _)) (pss_one (ps_ret (pv 1))) pss_nil)
      (pss_cons (ps_if (pt_cmpR op_eq (pv 0) pe_int (nomark _)) (pss_one (ps_ret (pe_op op_fdiv (pe_op op_add (pv 1) (pv 2)) pe_int))) pss_nil)
      (pss_one (ps_ret (pe_callB (call_max2 rfl) (by rfl) T.max PyProof.Rows.boot_max (pa_cons (pe_op op_sub (pe_op op_add (pv 1) (pv 2)) pe_int) (pa_cons pe_int pa_nil))))))))))))), ?_⟩
    refine ⟨_, rfl, rfl, _, rfl, ite2 (fun h => ?_) (fun h0 => ?_)⟩
    · have h := eqN (b := 0) h
      subst h
      exact ⟨_, rfl, _, rfl, _, _, rfl, rfl, qi k (by show (a : Int) + b = ((a + b : Nat) : Int); omega)⟩
    refine ⟨_, rfl, rfl, _, rfl, ite2 (fun h => ?_) (fun h1 => ?_)⟩
    · have h := eqN (b := 1) h
      subst h
      exact ⟨_, rfl, _, rfl, _, _, rfl, rfl, qi k (by show (b : Int) - a = ((b - a : Nat) : Int); omega)⟩
    refine ⟨_, rfl, rfl, _, rfl, ite2 (fun h => ?_) (fun h2 => ?_)⟩
    · have h := eqN (b := 2) h
      subst h
      exact ⟨_, rfl, _, rfl, _, _, rfl, rfl, big_of ha hb, qi k (by show (a : Int) * b = ((a * b : Nat) : Int); rw [Int.natCast_mul])⟩
    refine ⟨_, rfl, rfl, _, rfl, ite2 (fun h => ?_) (fun h3 => ?_)⟩
    · have h := eqN (b := 3) h
      subst h
      refine ⟨_, rfl, _, rfl, _, _, rfl, rfl, _, rfl, _, rfl, _, _, rfl, rfl, big_of ha hb, _, _, rfl, rfl, qi k ?_⟩
      show (a : Int) + b + (a : Int) * b = ((a + b + a * b : Nat) : Int)
      rw [Int.natCast_add, Int.natCast_add, Int.natCast_mul]
    refine ⟨_, rfl, rfl, _, rfl, ite2 (fun h => ?_) (fun h4 => ?_)⟩
    · have h := eqN (b := 4) h
      subst h
      exact ⟨_, rfl, _, rfl, a, b, rfl, k⟩
    refine ⟨_, rfl, rfl, _, rfl, ite2 (fun h => ?_) (fun h5 => ?_)⟩
    · have h := eqN (b := 5) h
      subst h
      exact ⟨_, rfl, _, rfl, a, b, rfl, ha, hb, k⟩
    refine ⟨_, rfl, rfl, _, rfl, ite2 (fun h => ?_) (fun h6 => ?_)⟩
    · have h := eqN (b := 6) h
      subst h
      exact ⟨_, rfl, k⟩
    refine ⟨_, rfl, rfl, _, rfl, ite2 (fun h => ?_) (fun h7 => ?_)⟩
    · have h := eqN (b := 7) h
      subst h
      exact ⟨_, rfl, k⟩
    refine ⟨_, rfl, rfl, _, rfl, ite2 (fun h => ?_) (fun h8 => ?_)⟩
    · have h := eqN (b := 8) h
      subst h
      refine ⟨_, rfl, _, rfl, _, _, rfl, rfl, _, _, rfl, rfl, ⟨by decide, by decide⟩, qi k ?_⟩
      show ((a : Int) + b) / 2 = (((a + b) / 2 : Nat) : Int)
      omega
    have e : r = 9 := by
      have := neN (b := 0) h0
      have := neN (b := 1) h1
      have := neN (b := 2) h2
      have := neN (b := 3) h3
      have := neN (b := 4) h4
      have := neN (b := 5) h5
      have := neN (b := 6) h6
      have := neN (b := 7) h7
      have := neN (b := 8) h8
      omega
    subst e
    refine ⟨_, rfl, _, rfl, _, _, rfl, rfl, _, _, rfl, rfl, _, _, rfl, qi k ?_⟩
    show (if (0 : Int) > (a : Int) + b - 1 then (0 : Int) else (a : Int) + b - 1) = ((a + b - 1 : Nat) : Int)
    split <;> omega
/-! ### steps_in_order -/
/-- the pairs that stand at addresses -/
abbrev StAt (H : Hp) : List Addr → List (Nat × Nat) → Prop := Paired fun (a : Addr) (s : Nat × Nat) => H a = some (.tup [.int (s.1 : Int), .int (s.2 : Int)])
theorem StAt.same {H H' : Hp} (e : Same H H') {as : List Addr} {ss : List (Nat × Nat)} (h : StAt H as ss) : StAt H' as ss := Paired.mapP h fun _ _ z => e _ _ z
def spSteps : Sp := fun vs H Q _ => ∃ n : Nat, vs = [.int n] ∧ n ≤ 6 ∧ ∀ (q : Addr) (as : List Addr) (H' : Hp), H' q = some (.lst (as.map V.ref)) → StAt H' as (Uw81.steps n) → Same H H' → Q (.ref q) H'
theorem scSteps : FnScope ["size", "steps", "i", "j"] ["size"] (defScope sSteps) := ⟨rfl, rfl, rfl, by decide +kernel, rfl, by decide +kernel, by decide +kernel⟩
theorem small_of {n : Nat} (h : n ≤ 1000000) : n < sizeLine := Nat.lt_of_le_of_lt h (by decide)
theorem ok_steps {f : Addr} {fd : FuncData} (F : Fun K "steps_in_order" "steps_in_order" sSteps f fd) (T : Own mg) : FnOk P w K mg base CX0 1 f fd ["size"] spSteps := by
  refine F.ok scSteps (fun vs H Q E h => ?_) (fun cdv A outer s H vs Q E hr h => ?_)
  · obtain ⟨n, rfl, _⟩ := h
    rfl
  · obtain ⟨n, rfl, hn, k⟩ := h
    refine ⟨_, pss_cons (ps_set (i := 1) scSteps.nd rfl (Or.inl rfl) (pe_lst pa_nil))
      (pss_cons (ps_for PassesOwn.never rfl (pi_range1 rfl T.range (pa_cons (pv 0) pa_nil)) (pg_name (i := 2) scSteps.nd rfl (Or.inl rfl))
        (pss_one (ps_for PassesOwn.never rfl (pi_range2 rfl T.range (pa_cons (pe_op op_add (pv 2) pe_int) (pa_cons (pv 0) pa_nil))) (pg_name (i := 3) scSteps.nd rfl (Or.inl rfl))
          (pss_one (ps_expr (pe_bm PySem.F.plainAttrs_list PySem.F.slot_list_append PySem.F.type_list_append mt_append (pv 1) (pa_cons (pe_tup (pa_cons (pv 2) (pa_cons (pv 3) pa_nil))) pa_nil)))))))
      (pss_one (ps_ret (pv 1)))), ?_⟩
    refine ⟨Nat.zero_le _, fun l hl => ?_⟩
    refine ⟨_, rfl, (n : Int), rfl, by omega, by omega, for_range (n := n) (fun i σ H' => ∃ (v2 v3 : Option V) (as : List Addr), σ = [some (.int (n : Int)), some (.ref l), v2, v3] ∧ H' l = some (.lst (as.map V.ref)) ∧
      StAt H' as ((List.range i).flatMap (stepRow n)) ∧ as.length ≤ 6 * i ∧ Same H H') ⟨none, none, [], rfl, upd_same, .nil, Nat.le_refl _, same_upd hl⟩ ?_ ?_⟩
    · rintro i σ H1 hi ⟨v2, v3, as, rfl, h1, h2, h3, h4⟩
      refine ⟨_, rfl, _, _, rfl, rfl, _, rfl, _, _, rfl, ⟨by omega, by omega, by omega, by omega⟩, for_range (fun j σ H' => ∃ (v3 : Option V) (as : List Addr), σ = [some (.int (n : Int)), some (.ref l), some (.int (0 + (i : Int))), v3] ∧
        H' l = some (.lst (as.map V.ref)) ∧ StAt H' as ((List.range i).flatMap (stepRow n) ++ (List.range j).map fun k => (i, i + 1 + k)) ∧ as.length ≤ 6 * i + j ∧ Same H H') ⟨v3, as, rfl, h1, by simpa using h2, h3, h4⟩ ?_ ?_⟩
      · rintro j σ H2 hj ⟨v3, as, rfl, g1, g2, g3, g4⟩
        have hj : (j : Int) < (n : Int) - (0 + (i : Int) + 1) := by omega
        refine ⟨_, rfl, .inl ⟨rfl, _, SqL.of g1⟩, _, rfl, _, rfl, (by show 2 ≤ sizeLine; decide), fun t ht => ⟨l, as.map V.ref, _, rfl, rfl, ?_, ?_, ?_⟩⟩
        · rw [upd_ne (ne_of_none g1 ht)]
          exact g1
        · rw [List.length_map]
          exact small_of (by omega)
        · have s1 := same_upd (o := .tup [.int (0 + (i : Int)), .int (0 + (i : Int) + 1 + (j : Int))]) ht
          have hlt : l ≠ t := ne_of_none g1 ht
          refine ⟨_, as ++ [t], rfl, ?_, ?_, ?_, ?_⟩
          · rw [upd_same, List.map_append]
            rfl
          · rw [List.range_succ, List.map_append, ← List.append_assoc]
            refine Paired.snoc (Paired.mapP g2 fun a s z => ?_) ?_
            · rw [upd_ne (ne_of z g1 (by intro q; cases q))]
              exact s1 _ _ z
            · rw [upd_ne hlt.symm, upd_same]
              refine congrArg (fun z => some (HO.tup z)) ?_
              show [V.int (0 + (i : Int)), V.int (0 + (i : Int) + 1 + (j : Int))] = [V.int (i : Int), V.int ((i + 1 + j : Nat) : Int)]
              rw [show (0 + (i : Int)) = (i : Int) by omega, show ((i : Int) + 1 + (j : Int)) = ((i + 1 + j : Nat) : Int) by omega]
          · rw [List.length_append]
            show as.length + 1 ≤ _
            omega
          · intro b o e
            rw [upd_ne (ne_of_none e hl)]
            exact s1 _ _ (g4 _ _ e)
      · rintro σ H2 ⟨v3, as, rfl, g1, g2, g3, g4⟩
        refine ⟨_, _, as, rfl, g1, ?_, by omega, g4⟩
        rw [List.range_succ, List.flatMap_append]
        have e : ((n : Int) - (0 + (i : Int) + 1)).toNat = n - (i + 1) := by omega
        rw [e] at g2
        simpa [stepRow] using g2
    · rintro σ H1 ⟨v2, v3, as, rfl, h1, h2, h3, h4⟩
      refine ⟨_, rfl, ?_⟩
      refine k l as H1 h1 ?_ h4
      rw [steps_rows]
      exact h2
end
end Wb

end
section
set_option Elab.async false
set_option linter.all false
set_option maxRecDepth 100000
namespace Wb
open PySem PySem.Spec PyProof.Rows L2
/-! ### slices of numbers -/
theorem cut_to {l : List Nat} {i : Nat} (h : i ≤ l.length) : cutV (iv l) none (some (i : Int)) = iv (l.take i) := by
  unfold cutV
  rw [HT.sIx_none, HT.sIx_nat, iv_length, Nat.min_eq_left h, List.drop_zero, Nat.sub_zero, iv_take]
theorem cut_mid {l : List Nat} {i j : Nat} (hi : i ≤ l.length) (hj : j ≤ l.length) : cutV (iv l) (some (i : Int)) (some (j : Int)) = iv ((l.drop i).take (j - i)) := by
  unfold cutV
  rw [HT.sIx_nat, HT.sIx_nat, iv_length, Nat.min_eq_left hi, Nat.min_eq_left hj, iv_drop, iv_take]
theorem cut_from {l : List Nat} {j : Nat} (hj : j ≤ l.length) : cutV (iv l) (some (j : Int)) none = iv (l.drop j) := by
  unfold cutV
  rw [HT.sIx_none, HT.sIx_nat, iv_length, Nat.min_eq_left hj, iv_drop, List.take_of_length_le (by rw [iv_length, List.length_drop]; omega)]
theorem getD_le {l : List Nat} (hl : Srt l) {i j : Nat} (hij : i < j) (hj : j < l.length) : l.getD i 0 ≤ l.getD j 0 := by
  rw [List.getD_eq_getElem?_getD, List.getD_eq_getElem?_getD, List.getElem?_eq_getElem (by omega), List.getElem?_eq_getElem hj]
  exact (List.pairwise_iff_getElem.mp hl) i j (by omega) hj hij
theorem getD_mem {l : List Nat} {j : Nat} (hj : j < l.length) : l.getD j 0 ∈ l := by
  rw [List.getD_eq_getElem?_getD, List.getElem?_eq_getElem hj]
  exact List.getElem_mem hj
/-- a board as the program handles it -/
structure Fit (l : List Nat) : Prop where
  srt : Srt l
  pos : 1 ≤ l.length
  most : l.length ≤ 6
  lt : wt l ≤ lid
theorem Fit.num {l : List Nat} (F : Fit l) {x : Nat} (hx : x ∈ l) : x < lid := Nat.lt_of_lt_of_le (wt_mem hx) F.lt
theorem Fit.wiped {l : List Nat} (F : Fit l) (r : Nat) {i j : Nat} (hij : i < j) (hj : j < l.length) : Fit (Uw81.wiped r l (i, j)) where
  srt := wiped_srt F.srt
  pos := by rw [wiped_length hij hj]; omega
  most := by rw [wiped_length hij hj]; have := F.most; omega
  lt := Nat.le_trans (wt_wiped hij hj) F.lt
section
variable {P : Program} {w : World} {K : PySem.W.Frag} {mg : Str → Option Value} {base : Heap}
/-! ### after_step -/
def spAfter (K : PySem.W.Frag) : Sp := fun vs H Q _ => ∃ (r : Nat) (p : Addr) (l : List Nat) (i j : Nat), vs = [.int (r : Int), .ref p, .int (i : Int), .int (j : Int)] ∧ SqT K H p (iv l) ∧ r ≤ 9 ∧ Fit l ∧ i < j ∧ j < l.length ∧
  ∀ (q : Addr) (H' : Hp), H' q = some (.tup (iv (Uw81.wiped r l (i, j)))) → Same H H' → Q (.ref q) H'
theorem scAfter : FnScope ["rule", "numbers", "i", "j", "others"] ["rule", "numbers", "i", "j"] (defScope sAfter) := ⟨rfl, rfl, rfl, by decide +kernel, rfl, by decide +kernel, by decide +kernel⟩
theorem iv_line {l : List Nat} (h : l.length ≤ 1000000) : (iv l).length ≤ sizeLine := by
  rw [iv_length]
  exact Nat.le_of_lt (small_of h)
theorem ok_after {f g l rr ww : Addr} {fd gd ld rd wd : FuncData} (F : Fun K "after_step" "after_step" sAfter f fd) (R : Known K mg "rising" sRising ["numbers"] rr rd) (W : Known K mg "written_for" sWritten ["rule", "a", "b"] ww wd)
    (G : Known K mg "greatest_common_divisor" sGcd ["a", "b"] g gd) (L : Known K mg "least_common_multiple" sLcm ["a", "b"] l ld) (T : Own mg) : FnOk P w K mg base CX0 4 f fd ["rule", "numbers", "i", "j"] (spAfter K) := by
  refine F.ok scAfter (fun vs H Q E h => ?_) (fun cdv A outer s H vs Q E hr h => ?_)
  · obtain ⟨r, p, l, i, j, rfl, _⟩ := h
    rfl
  · obtain ⟨r, p, l, i, j, rfl, hp, hr9, fit, hij, hj, k⟩ := h
    have GR : FnOk P w K mg base CX0 1 rr rd ["numbers"] (spRising K) := ok_rising R.F T
    have GW : FnOk P w K mg base CX0 3 ww wd ["rule", "a", "b"] spWritten := ok_written W.F G L T
    have hr1 := hr.mono (j := 1) (by decide)
    have six := fit.most
    have e1 : ((i : Int) + 1) = ((i + 1 : Nat) : Int) := by omega
    have e2 : ((j : Int) + 1) = ((j + 1 : Nat) : Int) := by omega
    refine ⟨_, pss_cons (ps_set (i := 4) scAfter.nd rfl (Or.inl rfl) (pe_op op_catA (pe_op op_catA (pe_slice sl_tup (pv 1) po_none (po_some (pv 2)))
        (pe_slice sl_tup (pv 1) (po_some (pe_op op_add (pv 2) pe_int)) (po_some (pv 3)))) (pe_slice sl_tup (pv 1) (po_some (pe_op op_add (pv 3) pe_int)) po_none)))
      (pss_one (ps_ret (pe_call GR hr1 rfl R.mgf R.F.kp R.bd .nil pass0 (pa_cons (pe_op op_catA (pv 4) (pe_tup (pa_cons (pe_call GW hr rfl W.mgf W.F.kp W.bd .nil pass0
        (pa_cons (pv 0) (pa_cons (pe_ix ix_tup (pv 1) (pv 2) (fun _ _ => rfl)) (pa_cons (pe_ix ix_tup (pv 1) (pv 3) (fun _ _ => rfl)) pa_nil)))) pa_nil))) pa_nil)))), ?_⟩
    -- numbers[:i]
    refine ⟨_, rfl, _, rfl, _, rfl, p, _, rfl, hp, ?_, fun q1 h1 => ?_⟩
    · rw [HT.sIx_nat, iv_length]
      omega
    rw [cut_to (by omega)]
    have s1 := same_upd (o := .tup (iv (l.take i))) h1
    -- numbers[i + 1:j]
    refine ⟨_, rfl, _, rfl, _, _, rfl, rfl, _, rfl, _, rfl, _, rfl, p, _, rfl, s1.tup hp, ?_, fun q2 h2 => ?_⟩
    · rw [e1, HT.sIx_nat, iv_length]
      omega
    rw [e1, cut_mid (by omega) (by omega)]
    have s2 := same_upd (o := .tup (iv ((l.drop (i + 1)).take (j - (i + 1))))) h2
    refine ⟨q1, q2, _, _, rfl, rfl, s2.tup (SqT.of upd_same), SqT.of upd_same, ?_, fun q3 H3 t3 s3 => ?_⟩
    · rw [← List.length_append, ← iv_append]
      refine iv_line ?_
      rw [List.length_append, List.length_take, List.length_take, List.length_drop]
      omega
    have s13 := (s1.trans s2).trans s3
    -- numbers[j + 1:]
    refine ⟨_, rfl, _, rfl, _, _, rfl, rfl, _, rfl, p, _, rfl, s13.tup hp, ?_, fun q4 h4 => ?_⟩
    · rw [e2, HT.sIx_nat, iv_length]
      omega
    rw [e2, cut_from (by omega)]
    have s4 := same_upd (o := .tup (iv (l.drop (j + 1)))) h4
    refine ⟨q3, q4, _, _, rfl, rfl, s4.tup t3, SqT.of upd_same, ?_, fun q5 H5 t5 s5 => ?_⟩
    · rw [← iv_append, ← List.length_append, ← iv_append]
      refine iv_line ?_
      rw [List.length_append, List.length_append, List.length_take, List.length_take, List.length_drop, List.length_drop]
      omega
    rw [← iv_append, ← iv_append] at t5
    have s15 := (s13.trans s4).trans s5
    -- rising(others + (written_for(rule, numbers[i], numbers[j]),))
    refine ⟨_, rfl, _, rfl, _, rfl, _, rfl, p, _, _, _, rfl, rfl, s15.tup hp, atI_nat (iv_at (by omega)), _, rfl, _, rfl, p, _, _, _, rfl, rfl, s15.tup hp, atI_nat (iv_at hj), ?_⟩
    refine ⟨r, _, _, rfl, hr9, getD_le fit.srt hij hj, fit.num (getD_mem hj), (by show 1 ≤ sizeLine; decide), fun q6 h6 => ?_⟩
    have s6 := same_upd (o := .tup [V.int ((Uw81.written r (l.getD i 0) (l.getD j 0) : Nat) : Int)]) h6
    refine ⟨q5, q6, _, iv [Uw81.written r (l.getD i 0) (l.getD j 0)], rfl, rfl, s6.tup t5, SqT.of upd_same, ?_, fun q7 H7 t7 s7 => ?_⟩
    · rw [← List.length_append, ← iv_append]
      refine iv_line ?_
      rw [List.length_append, List.length_append, List.length_append, List.length_take, List.length_take, List.length_drop, List.length_drop]
      show _ + 1 ≤ _
      omega
    rw [← iv_append] at t7
    refine ⟨q7, _, rfl, .inr t7, fun q H' hq sq => ?_⟩
    rw [wiped_eq fit.srt hij hj] at hq
    exact k q H' hq (((s15.trans s6).trans s7).trans sq)
end
end Wb

end
section
set_option Elab.async false
set_option linter.all false
set_option maxRecDepth 100000
namespace L2
open PySem PySem.Spec PyProof.Rows
/-- over the pairs of a locked dict with tuple keys -/
theorem for_itemsT {d : Addr} {o : Obj} {kvs : List (List Key × V)} {g : TG} {tb : TS} {D : Ends} {σ : St} {H : Hp} (Pv : Nat → St → Hp → Prop) (h0 : Pv 0 σ H) (hl : ∀ i σ H, i ≤ kvs.length → Pv i σ H → H d = some (.frz o (.dT kvs)))
    (hs : ∀ i σ H (T q : Addr) (k : List Key) (v : V), kvs[i]? = some (k, v) → Pv i σ H → H T = none → H q = some (.tup (k.map kV)) → g (.ref T) σ (upd H T (.tup [.ref q, v])) fun σ2 H2 => tb { D with nx := Pv (i + 1), ct := Pv (i + 1), bk := D.nx } σ2 H2) (hd : ∀ σ H, Pv kvs.length σ H → D.nx σ H) :
    ∃ W : Nat → Nat → St → Hp → Prop, (∃ m, W 0 m σ H) ∧ ∀ i m σ H, W i m σ H →
      ((ItiT d o kvs).stop i H ∧ D.nx σ H) ∨ ((ItiT d o kvs).go i H ∧ ∃ N : St → Hp → Prop, (∀ σ' H', N σ' H' → ∃ m', m' < m ∧ W (i + 1) m' σ' H') ∧ ∀ x H', (ItiT d o kvs).yld i H x H' → g x σ H' fun σ2 H2 => tb { D with nx := N, ct := N, bk := D.nx } σ2 H2) := by
  refine ⟨fun i m σ H => m = kvs.length - i ∧ i ≤ kvs.length ∧ Pv i σ H, ⟨kvs.length, (Nat.sub_zero _).symm, Nat.zero_le _, h0⟩, ?_⟩
  rintro i m σ H ⟨rfl, hi, p⟩
  by_cases hlt : i < kvs.length
  · refine .inr ⟨⟨hl i σ H hi p, hlt⟩, Pv (i + 1), fun σ' H' p' => ⟨kvs.length - (i + 1), by omega, rfl, hlt, p'⟩, fun x H' y => ?_⟩
    obtain ⟨T, q, k, v, e, rfl, hT, hq, rfl⟩ := y
    exact hs i σ H T q k v e p hT hq
  · have e : i = kvs.length := by omega
    subst e
    exact .inl ⟨⟨hl _ σ H hi p, Nat.le_refl _⟩, hd σ H p⟩
/-- over the keys of a locked dict, in a comprehension -/
theorem lc_keys {d : Addr} {o : Obj} {kvs : List (Key × V)} {g : TG} {tt : TT} {te : TE} {vs : List Nat} {σ : St} {H1 : Hp} {D : Addr} {Qd : Hp → Prop} (Pv : Nat → Hp → Prop) (h0 : Pv 0 (upd H1 D (.lst []))) (hl : ∀ i H, i ≤ kvs.length → Pv i H → H d = some (.frz o (.dK kvs)))
    (hs : ∀ i H k v, kvs[i]? = some (k, v) → Pv i H → g (kV k) (wipe σ vs) H fun σ2 H2 => wipe σ2 vs = wipe σ vs ∧ tt σ2 H2 fun b H3 =>
      if b = true then te σ2 H3 fun y H4 => ∃ acc, H4 D = some (.lst acc) ∧ acc.length < sizeLine ∧ Pv (i + 1) (upd H4 D (.lst (acc ++ [y]))) else Pv (i + 1) H3) (hd : ∀ H, Pv kvs.length H → Qd H) :
    ∃ W : Nat → Nat → Hp → Prop, (∃ m, W 0 m (upd H1 D (.lst []))) ∧ ∀ i m H, W i m H →
      ((Itk d o kvs).stop i H ∧ Qd H) ∨ ((Itk d o kvs).go i H ∧ ∃ Nx : Hp → Prop, (∀ H', Nx H' → ∃ m', m' < m ∧ W (i + 1) m' H') ∧ ∀ x H', (Itk d o kvs).yld i H x H' → g x (wipe σ vs) H' fun σ2 H2 => wipe σ2 vs = wipe σ vs ∧ tt σ2 H2 fun b H3 =>
        if b = true then te σ2 H3 fun y H4 => ∃ acc, H4 D = some (.lst acc) ∧ acc.length < sizeLine ∧ Nx (upd H4 D (.lst (acc ++ [y]))) else Nx H3) := by
  refine ⟨fun i m H => m = kvs.length - i ∧ i ≤ kvs.length ∧ Pv i H, ⟨kvs.length, (Nat.sub_zero _).symm, Nat.zero_le _, h0⟩, ?_⟩
  rintro i m H ⟨rfl, hi, p⟩
  by_cases hlt : i < kvs.length
  · refine .inr ⟨⟨hl i H hi p, hlt⟩, Pv (i + 1), fun H' p' => ⟨kvs.length - (i + 1), by omega, rfl, hlt, p'⟩, fun x H' y => ?_⟩
    obtain ⟨rfl, k, v, e, rfl⟩ := y
    exact hs i _ k v e p
  · have e : i = kvs.length := by omega
    subst e
    exact .inl ⟨⟨hl _ H hi p, Nat.le_refl _⟩, hd H p⟩
end L2
namespace Wb
open PySem PySem.Spec PyProof.Rows L2
abbrev sOn : Stmt := top 22
/-! ### a dict of boards -/
def bk (b : List Nat) : List Key := (zs b).map Sum.inl
theorem bk_kV (b : List Nat) : (bk b).map kV = iv b := by
  unfold bk iv
  rw [List.map_map]
  rfl
theorem bk_inj {b c : List Nat} (h : bk b = bk c) : b = c := by
  refine zs_inj ((List.map_inj_right (f := (Sum.inl : Int → Key)) ?_).mp h)
  intro x y e
  exact Sum.inl.inj e
theorem st_of {H : Hp} : ∀ {as : List Addr} {ss : List (Nat × Nat)} {i : Nat} {a : Addr}, StAt H as ss → as[i]? = some a → ∃ s, ss[i]? = some s ∧ H a = some (.tup [.int (s.1 : Int), .int (s.2 : Int)])
  | _, _, _, _, .nil, e => by simp at e
  | _, _, 0, _, .cons (b := b) h _, e => by
    simp at e
    subst e
    exact ⟨b, rfl, h⟩
  | _, _, i + 1, a, .cons _ t, e => by
    obtain ⟨b, h1, h2⟩ := st_of (i := i) t (by simpa using e)
    exact ⟨b, by simpa using h1, h2⟩
theorem refs_at {as : List Addr} {i : Nat} {y : V} (h : (as.map V.ref)[i]? = some y) : ∃ a, as[i]? = some a ∧ y = .ref a := by
  rw [List.getElem?_map] at h
  cases e : as[i]? with
  | none =>
    rw [e] at h
    cases h
  | some a =>
    rw [e] at h
    exact ⟨a, rfl, (Option.some.inj h).symm⟩
theorem take_succ_at {α : Type} {l : List α} {i : Nat} {x : α} (h : l[i]? = some x) : l.take (i + 1) = l.take i ++ [x] := by
  rw [List.take_add_one, h]
  rfl
theorem steps_le {n : Nat} (h : n ≤ 6) : (Uw81.steps n).length ≤ 15 := by
  match n, h with
  | 0, _ => decide
  | 1, _ => decide
  | 2, _ => decide
  | 3, _ => decide
  | 4, _ => decide
  | 5, _ => decide
  | 6, _ => decide
  | n + 7, h => omega
/-- all but a is as it was -/
def But (a : Addr) (H H' : Hp) : Prop := ∀ b o, H b = some o → b ≠ a → H' b = some o
theorem But.of {a : Addr} {H H' : Hp} (e : Same H H') : But a H H' := fun b o h _ => e b o h
theorem But.trans {a : Addr} {H H1 H2 : Hp} (e : But a H H1) (f : But a H1 H2) : But a H H2 := fun b o h n => f b o (e b o h n) n
theorem But.upd {a : Addr} {H : Hp} {o : HO} : But a H (upd H a o) := fun b u h n => by
  rw [upd_ne n]
  exact h
theorem _root_.L2.Same.but {a : Addr} {H H1 H2 : Hp} (e : Same H H1) (f : But a H1 H2) (n : H a = none) : Same H H2 := fun b o h => f b o (e b o h) (ne_of_none h n)
theorem StAt.but {a : Addr} {H H' : Hp} (e : But a H H') (ha : ∀ xs, H a ≠ some (.tup xs)) {as : List Addr} {ss : List (Nat × Nat)} (h : StAt H as ss) : StAt H' as ss := Paired.mapP h fun b s z => e b _ z fun q => ha _ (q ▸ z)
/-- the entries of a level's dict -/
def lv (L : Lvl) : List (List Key × V) := L.map fun p => (bk p.1, V.int (p.2 : Int))
theorem lv_length (L : Lvl) : (lv L).length = L.length := List.length_map ..
theorem lv_val : ∀ (L : Lvl) (b : List Nat), (valV (lv L) (bk b)).getD (.int 0) = .int ((cnt L b : Nat) : Int)
  | [], b => rfl
  | p :: L, b => by
    show (valV ((bk p.1, V.int (p.2 : Int)) :: lv L) (bk b)).getD _ = _
    unfold cnt
    by_cases e : p.1 = b
    · rw [if_pos e, valV_pos (show (bk p.1, V.int (p.2 : Int)).1 = bk b by rw [e])]
      rfl
    · rw [if_neg e, valV_neg (show ¬ (bk p.1, V.int (p.2 : Int)).1 = bk b from fun z => e (bk_inj z))]
      exact lv_val L b
theorem cnt_none {b : List Nat} : ∀ {L : Lvl}, b ∉ L.map (·.1) → cnt L b = 0
  | [], _ => rfl
  | p :: L, h => by
    rw [List.map_cons, List.mem_cons, not_or] at h
    unfold cnt
    rw [if_neg fun z => h.1 z.symm, cnt_none h.2]
theorem bump_ne {p : List Nat × Nat} {L : Lvl} {b : List Nat} {w : Nat} (e : ¬ p.1 = b) : bump (p :: L) b w = p :: bump L b w := by
  show (if p.1 = b then _ else _) = _
  rw [if_neg e]
theorem lv_put : ∀ {L : Lvl} {b : List Nat} {w : Nat}, (L.map (·.1)).Nodup → putK (lv L) (bk b) (.int ((cnt L b + w : Nat) : Int)) = lv (bump L b w) := by
  intro L b w nd
  have any : ∀ L : Lvl, ((lv L).any fun kv => decide (kv.1 = bk b)) = decide (b ∈ L.map (·.1)) := fun L => by
    rw [Bool.eq_iff_iff, List.any_eq_true, decide_eq_true_eq]
    constructor
    · rintro ⟨x, hx, e⟩
      obtain ⟨p, hp, rfl⟩ := List.mem_map.mp hx
      exact List.mem_map.mpr ⟨p, hp, bk_inj (of_decide_eq_true e)⟩
    · intro hx
      obtain ⟨p, hp, e⟩ := List.mem_map.mp hx
      exact ⟨_, List.mem_map.mpr ⟨p, hp, rfl⟩, decide_eq_true (by show bk p.1 = bk b; rw [e])⟩
  unfold putK
  rw [any]
  by_cases hb : b ∈ L.map (·.1)
  · rw [if_pos (decide_eq_true hb)]
    induction L with
    | nil => cases hb
    | cons p L ih =>
      rw [List.map_cons, List.nodup_cons] at nd
      show (if bk p.1 = bk b then _ else _) :: (lv L).map _ = _
      by_cases e : p.1 = b
      · have nb : b ∉ L.map (·.1) := e ▸ nd.1
        have same : (lv L).map (fun kv => if kv.1 = bk b then (kv.1, V.int ((cnt (p :: L) b + w : Nat) : Int)) else kv) = lv L := by
          refine (List.map_congr_left fun x hx => ?_).trans (List.map_id _)
          obtain ⟨q, hq, rfl⟩ := List.mem_map.mp hx
          rw [if_neg fun z => nb (List.mem_map.mpr ⟨q, hq, bk_inj z⟩)]
          rfl
        rw [same, if_pos (by rw [e])]
        unfold bump
        rw [if_pos e]
        unfold cnt
        rw [if_pos e]
        rfl
      · have hb' : b ∈ L.map (·.1) := (List.mem_cons.mp hb).elim (fun z => absurd z.symm e) id
        have ih := ih nd.2 hb'
        have ec : cnt (p :: L) b = cnt L b := by
          show (if p.1 = b then _ else _) = _
          rw [if_neg e]
        rw [if_neg fun z => e (bk_inj z), ec, ih, bump_ne e]
        rfl
  · rw [if_neg (by simpa using hb), cnt_none hb, Nat.zero_add]
    clear nd
    induction L with
    | nil => rfl
    | cons p L ih =>
      rw [List.map_cons, List.mem_cons, not_or] at hb
      rw [bump_ne fun z => hb.1 z.symm]
      show (bk p.1, V.int (p.2 : Int)) :: (lv L ++ _) = _
      rw [ih hb.2]
      rfl
section
variable {P : Program} {w : World} {K : PySem.W.Frag} {mg : Str → Option Value} {base : Heap}
/-! ### boards_a_step_on -/
/-- a level that a step may be made of -/
structure LvOk (n : Nat) (L : Lvl) : Prop where
  n2 : 2 ≤ n
  n6 : n ≤ 6
  nd : (L.map (·.1)).Nodup
  few : L.length ≤ cap n
  pos : ∀ p, p ∈ L → 1 ≤ p.2
  fit : ∀ p, p ∈ L → p.1.length = n ∧ Fit p.1
def spOn : Sp := fun vs H Q _ => ∃ (r n : Nat) (p : Addr) (L : Lvl), vs = [.int (r : Int), .ref p] ∧ r ≤ 9 ∧ LvOk n L ∧ H p = some (.dT (lv L)) ∧
  ∀ (q : Addr) (H' : Hp), H' q = some (.dT (lv (levelOn r L))) → LvIn r (fun b => b.length = n - 1 ∧ Fit b) (levelOn r L) → (levelOn r L).length ≤ (Uw81.steps n).length * L.length → Same H H' → H q = Option.none → Q (.ref q) H'
theorem scOn : FnScope ["rule", "boards", "found", "numbers", "ways", "i", "j", "behind"] ["rule", "boards"] (defScope sOn) := ⟨rfl, rfl, rfl, by decide +kernel, rfl, by decide +kernel, by decide +kernel⟩
theorem ok_on {f g l rr ww ss aa : Addr} {fd gd ld rd wd sd ad : FuncData} (F : Fun K "boards_a_step_on" "boards_a_step_on" sOn f fd) (S : Known K mg "steps_in_order" sSteps ["size"] ss sd) (A' : Known K mg "after_step" sAfter ["rule", "numbers", "i", "j"] aa ad)
    (R : Known K mg "rising" sRising ["numbers"] rr rd) (W : Known K mg "written_for" sWritten ["rule", "a", "b"] ww wd)
    (G : Known K mg "greatest_common_divisor" sGcd ["a", "b"] g gd) (Lm : Known K mg "least_common_multiple" sLcm ["a", "b"] l ld) (T : Own mg) : FnOk P w K mg base CX0 5 f fd ["rule", "boards"] spOn := by
  refine F.ok scOn (fun vs H Q E h => ?_) (fun cdv A outer s H vs Q E hr h => ?_)
  · obtain ⟨r, n, p, L, rfl, _⟩ := h
    rfl
  · obtain ⟨r, n, p, L, rfl, r9, ok, hp, k⟩ := h
    have GS : FnOk P w K mg base CX0 1 ss sd ["size"] spSteps := ok_steps S.F T
    have GA : FnOk P w K mg base CX0 4 aa ad ["rule", "numbers", "i", "j"] (spAfter K) := ok_after A'.F R W G Lm T
    have hr1 := hr.mono (j := 1) (by decide)
    refine ⟨_, pss_cons (ps_set (i := 2) scOn.nd rfl (Or.inl rfl) pe_dnewT)
      (pss_cons (ps_lock (ps_for PassesOwn.never rfl (pi_itemsT (pv 1)) (pg_tup rfl (pgs_cons (pg_name (i := 3) scOn.nd rfl (Or.inl rfl)) (pgs_cons (pg_name (i := 4) scOn.nd rfl (Or.inl rfl)) pgs_nil)))
        (pss_one (ps_for PassesOwn.never rfl (pi_list (pe_call GS hr1 rfl S.mgf S.F.kp S.bd .nil pass0 (pa_cons (pe_callB call_len_seq (by rfl) T.len PySem.boot_len (pa_cons (pv 3) pa_nil)) pa_nil))) (pg_tup rfl (pgs_cons (pg_name (i := 5) scOn.nd rfl (Or.inl rfl)) (pgs_cons (pg_name (i := 6) scOn.nd rfl (Or.inl rfl)) pgs_nil)))
          (pss_cons (ps_set (i := 7) scOn.nd rfl (Or.inl rfl) (pe_call GA hr rfl A'.mgf A'.F.kp A'.bd .nil pass0 (pa_cons (pv 0) (pa_cons (pv 3) (pa_cons (pv 5) (pa_cons (pv 6) pa_nil))))))
          (pss_one (ps_dput (hu_of hr) (pv 2) (pv 7) (pe_op op_add (pe_dget2 (hu_of hr) (pv 2) (pv 7) pe_int ⟨rfl, rfl, rfl, rfl⟩) (pv 4)) rfl)))))))
      (pss_one (ps_ret (pv 2)))), ?_⟩
    -- found = {}
    intro d hd
    have s1 := same_upd (o := .dT []) hd
    -- boards is locked
    refine ⟨p, _, s1 _ _ hp, True.intro, fun od => ?_⟩
    have dp : d ≠ p := Ne.symm (ne_of_none hp hd)
    have base0 : (upd H p (.frz od (.dT (lv L)))) d = Option.none := by
      rw [upd_ne dp]
      exact hd
    have start : Same (upd H p (.frz od (.dT (lv L)))) (upd (upd H d (.dT [])) p (.frz od (.dT (lv L)))) := fun x o e => by
      by_cases hx : x = p
      · rw [hx, upd_same] at e ⊢
        exact e
      · rw [upd_ne hx] at e ⊢
        exact s1 _ _ e
    refine ⟨_, rfl, p, od, lv L, rfl, upd_same, for_itemsT (fun i σ H' => ∃ (v3 v4 v5 v6 v7 : Option V), σ = [some (.int (r : Int)), some (.ref p), some (.ref d), v3, v4, v5, v6, v7] ∧
      H' d = some (.dT (lv (levelOn r (L.take i)))) ∧ LvIn r (fun b => b.length = n - 1 ∧ Fit b) (levelOn r (L.take i)) ∧ (levelOn r (L.take i)).length ≤ (Uw81.steps n).length * i ∧ Same (upd H p (.frz od (.dT (lv L)))) H')
      ⟨none, none, none, none, none, rfl, (by rw [upd_ne dp, upd_same]; rfl), LvIn.nil, Nat.zero_le _, start⟩ (fun i σ H' _ ⟨_, _, _, _, _, _, _, _, _, z⟩ => z _ _ upd_same) ?_ ?_⟩
    · rintro i σ H2 tt q ky v hkv ⟨v3, v4, v5, v6, v7, rfl, h1, h2, h3, h4⟩ htt hq
      have hkv : (L.map fun p => (bk p.1, V.int (p.2 : Int)))[i]? = some (ky, v) := hkv
      rw [List.getElem?_map] at hkv
      obtain ⟨⟨b, c⟩, hLi, e⟩ := Option.map_eq_some_iff.mp hkv
      have e : (bk b, V.int (c : Int)) = (ky, v) := e
      cases e
      rw [bk_kV] at hq
      obtain ⟨lenb, fitb⟩ := ok.fit _ (List.mem_of_getElem? hLi)
      have posc := ok.pos _ (List.mem_of_getElem? hLi)
      have lenb : b.length = n := lenb
      have iL : i < L.length := (List.getElem?_eq_some_iff.mp hLi).1
      have st2 := same_upd (o := .tup [.ref q, V.int (c : Int)]) htt
      refine ⟨tt, _, rfl, SqT.of upd_same, rfl, _, _, rfl, _, _, rfl, rfl, ?_⟩
      -- for i, j in steps_in_order(len(numbers))
      refine ⟨_, rfl, q, _, rfl, .inr (SqT.of (st2 _ _ hq)), n, ?_, ok.n6, fun st sas H3 hst hS s3 => ?_⟩
      · show [V.int (((iv b).length : Nat) : Int)] = [V.int (n : Int)]
        rw [iv_length, lenb]
      have s23 := st2.trans s3
      have base3 := h4.trans s23
      have d3 : H3 d = some (.dT (lv (levelOn r (L.take i)))) := s23 _ _ h1
      have ml := ok.few
      have cl := cap_next ok.n2 ok.n6
      have cl2 := cap_le (n - 1)
      have sl := steps_le ok.n6
      have lim : (Uw81.steps n).length * (i + 1) ≤ 2700 := Nat.le_trans (Nat.mul_le_mul_left _ (by omega)) (Nat.le_trans cl cl2)
      rw [Nat.mul_succ] at lim
      refine ⟨st, rfl, ⟨_, SqL.of hst⟩, for_list (K := K) (a := st) (xs := sas.map V.ref) (fun j σ H' => ∃ (v5 v6 v7 : Option V), σ = [some (.int (r : Int)), some (.ref p), some (.ref d), some (.ref q), some (.int (c : Int)), v5, v6, v7] ∧
        H' d = some (.dT (lv (rowOn r b c (levelOn r (L.take i)) ((Uw81.steps n).take j)))) ∧ LvIn r (fun b => b.length = n - 1 ∧ Fit b) (rowOn r b c (levelOn r (L.take i)) ((Uw81.steps n).take j)) ∧
        (rowOn r b c (levelOn r (L.take i)) ((Uw81.steps n).take j)).length ≤ (Uw81.steps n).length * i + j ∧ But d H3 H')
        ⟨v5, v6, v7, rfl, d3, h2, h3, But.of (Same.refl _)⟩ (fun j σ H' _ ⟨_, _, _, _, _, _, _, z⟩ => SqL.of (z _ _ hst (ne_of hst d3 (fun z => nomatch z)))) ?_ ?_⟩
      · rintro j y σ H4 hj ⟨v5, v6, v7, rfl, g1, g2, g3, g4⟩
        obtain ⟨c2, hc2, rfl⟩ := refs_at hj
        obtain ⟨sp, hsj, hcS⟩ := st_of hS hc2
        have hsp := mem_steps.mp (List.mem_of_getElem? hsj)
        have jl : j < (Uw81.steps n).length := (List.getElem?_eq_some_iff.mp hsj).1
        have q4 : H4 q = some (.tup (iv b)) := g4 _ _ (s23 _ _ hq) (ne_of (s23 _ _ hq) d3 (fun z => nomatch z))
        refine ⟨c2, _, rfl, SqT.of (g4 _ _ hcS (ne_of hcS d3 (fun z => nomatch z))), rfl, _, _, rfl, _, _, rfl, rfl, ?_⟩
        -- behind = after_step(rule, numbers, i, j)
        refine ⟨_, rfl, _, rfl, _, rfl, _, rfl, r, q, b, sp.1, sp.2, rfl, SqT.of q4, r9, fitb, hsp.1, by rw [lenb]; exact hsp.2, fun bh H5 hbh s5 => ?_⟩
        have d5 := s5 _ _ g1
        have hbh : H5 bh = some (.tup ((bk (Uw81.wiped r b sp)).map kV)) := by
          rw [bk_kV]
          exact hbh
        -- found[behind] = found.get(behind, 0) + ways
        refine ⟨_, rfl, d, rfl, .inr ⟨_, .inl d5⟩, _, rfl, _, DGet.t d5 hbh, _, rfl, _, _, lv_val _ _, rfl, _, rfl, _, rfl, d, _, rfl, DPut.t (k := bk (Uw81.wiped r b sp)) d5 hbh (small_of (by rw [lv_length]; omega)), ?_⟩
        have e2 : rowOn r b c (levelOn r (L.take i)) ((Uw81.steps n).take (j + 1)) = bump (rowOn r b c (levelOn r (L.take i)) ((Uw81.steps n).take j)) (Uw81.wiped r b sp) c := by
          rw [take_succ_at hsj]
          unfold rowOn
          rw [List.foldl_append]
          rfl
        refine ⟨_, _, _, rfl, ?_, ?_, ?_, ?_⟩
        · rw [upd_same, e2, ← lv_put g2.nd]
          rfl
        · rw [e2]
          refine g2.bump posc ⟨?_, fitb.wiped r hsp.1 (by rw [lenb]; exact hsp.2)⟩
          rw [show sp = (sp.1, sp.2) from rfl, wiped_length hsp.1 (by rw [lenb]; exact hsp.2), lenb]
        · rw [e2]
          have := length_bump (rowOn r b c (levelOn r (L.take i)) ((Uw81.steps n).take j)) (Uw81.wiped r b sp) c
          omega
        · exact (g4.trans (But.of s5)).trans But.upd
      · rintro σ H4 ⟨v5, v6, v7, rfl, g1, g2, g3, g4⟩
        have hl : (sas.map V.ref).length = (Uw81.steps n).length := by
          rw [List.length_map]
          exact Paired.length hS
        rw [hl, List.take_length] at g1 g2 g3
        have e3 : levelOn r (L.take (i + 1)) = rowOn r b c (levelOn r (L.take i)) (Uw81.steps n) := by
          rw [take_succ_at hLi]
          unfold levelOn
          rw [List.foldl_append]
          show rowOn r b c _ (Uw81.steps b.length) = _
          rw [lenb]
        refine ⟨_, _, _, _, _, rfl, ?_, ?_, ?_, base3.but g4 base0⟩
        · rw [e3]
          exact g1
        · rw [e3]
          exact g2
        · rw [e3, Nat.mul_succ]
          exact g3
    · rintro σ H2 ⟨v3, v4, v5, v6, v7, rfl, h1, h2, h3, h4⟩
      rw [lv_length, List.take_length] at h1 h2 h3
      have pz := h4 _ _ upd_same
      refine ⟨pz, ⟨_, rfl, ?_⟩⟩
      refine k d _ ?_ h2 h3 (fun x o e => ?_) hd
      · rw [upd_ne dp]
        exact h1
      · by_cases hx : x = p
        · rw [hx] at e ⊢
          rw [upd_same, ← e, hp]
        · rw [upd_ne hx]
          exact h4 _ _ (by rw [upd_ne hx]; exact e)
end
end Wb

end
section
set_option Elab.async false
set_option linter.all false
set_option maxRecDepth 100000
namespace Wb
open PySem PySem.Spec PyProof.Rows L2
abbrev sWbl : Stmt := top 23
abbrev sAll : Stmt := top 24
/-- the entries of the dict that ways_by_last gives back -/
def wd (W : List (Nat × Nat)) : List (Key × V) := W.map fun p => ((Sum.inl (p.1 : Int) : Key), V.int (p.2 : Int))
theorem wd_length (W : List (Nat × Nat)) : (wd W).length = W.length := List.length_map ..
theorem wd_keys (W : List (Nat × Nat)) : (wd W).map (·.1) = (zs (W.map (·.1))).map Sum.inl := by
  unfold wd zs
  rw [List.map_map, List.map_map, List.map_map]
  rfl
theorem wd_none {W : List (Nat × Nat)} {x : Nat} (h : x ∉ W.map (·.1)) : valV (wd W) (Sum.inl (x : Int)) = Option.none := by
  cases e : valV (wd W) (Sum.inl (x : Int)) with
  | none => rfl
  | some u =>
    refine (h ?_).elim
    have := valV_in e
    rw [wd_keys] at this
    obtain ⟨z, hz, e1⟩ := List.mem_map.mp this
    obtain ⟨y, hy, e2⟩ := List.mem_map.mp hz
    have : z = (x : Int) := Sum.inl.inj e1
    have e3 : ((y : Nat) : Int) = (x : Int) := e2.trans this
    have : y = x := by omega
    exact this ▸ hy
theorem wd_some {W : List (Nat × Nat)} {x c : Nat} (nd : (W.map (·.1)).Nodup) (h : (x, c) ∈ W) : valV (wd W) (Sum.inl (x : Int)) = some (.int (c : Int)) := by
  induction W with
  | nil => cases h
  | cons p W ih =>
    rw [List.map_cons, List.nodup_cons] at nd
    show valV ((Sum.inl (p.1 : Int), V.int (p.2 : Int)) :: wd W) _ = _
    by_cases e : p.1 = x
    · rw [valV_pos (by rw [e])]
      rcases List.mem_cons.mp h with rfl | h
      · rfl
      · exact (nd.1 (List.mem_map.mpr ⟨(x, c), h, e.symm⟩)).elim
    · rw [valV_neg fun z => e (by have := Sum.inl.inj z; omega)]
      refine ih nd.2 ?_
      rcases List.mem_cons.mp h with rfl | h
      · exact (e rfl).elim
      · exact h
section
variable {P : Program} {w : World} {K : PySem.W.Frag} {mg : Str → Option Value} {base : Heap}
/-! ### ways_by_last -/
def spWbl : Sp := fun vs H Q _ => ∃ (r : Nat) (p : Addr) (l : List Nat), vs = [.int (r : Int), .ref p] ∧ H p = some (.tup (iv l)) ∧ r ≤ 9 ∧ Fit l ∧
  ∀ (q : Addr) (W : List (Nat × Nat)) (H' : Hp), H' q = some (.dK (wd W)) → WayTab r l W → Same H H' → H q = Option.none → Q (.ref q) H'
theorem scWbl : FnScope ["rule", "numbers", "boards", "size", "found", "left", "ways"] ["rule", "numbers"] (defScope sWbl) := ⟨rfl, rfl, rfl, by decide +kernel, rfl, by decide +kernel, by decide +kernel⟩
theorem ok_wbl {f g l rr ww ss aa oo : Addr} {fd gd ld rd wd' sd ad od : FuncData} (F : Fun K "ways_by_last" "ways_by_last" sWbl f fd) (O : Known K mg "boards_a_step_on" sOn ["rule", "boards"] oo od)
    (S : Known K mg "steps_in_order" sSteps ["size"] ss sd) (A' : Known K mg "after_step" sAfter ["rule", "numbers", "i", "j"] aa ad)
    (R : Known K mg "rising" sRising ["numbers"] rr rd) (W : Known K mg "written_for" sWritten ["rule", "a", "b"] ww wd')
    (G : Known K mg "greatest_common_divisor" sGcd ["a", "b"] g gd) (Lm : Known K mg "least_common_multiple" sLcm ["a", "b"] l ld) (T : Own mg) : FnOk P w K mg base CX0 6 f fd ["rule", "numbers"] spWbl := by
  refine F.ok scWbl (fun vs H Q E h => ?_) (fun cdv A outer s H vs Q E hr h => ?_)
  · obtain ⟨r, p, l, rfl, _⟩ := h
    rfl
  · obtain ⟨r, p, l, rfl, hp, r9, fit, k⟩ := h
    have GO : FnOk P w K mg base CX0 5 oo od ["rule", "boards"] spOn := ok_on O.F S A' R W G Lm T
    have hu := hu_of hr
    have l1 := fit.pos
    have l6 := fit.most
    refine ⟨_, pss_cons (ps_set (i := 2) scWbl.nd rfl (Or.inl rfl) (pe_disp1T (Nat.lt_of_succ_lt hu) (pv 1) pe_int))
      (pss_cons (ps_for PassesOwn.never rfl (pi_range3 rfl T.range (pa_cons (pe_callB call_len_seq (by rfl) T.len PySem.boot_len (pa_cons (pv 1) pa_nil)) (pa_cons pe_int (pa_cons (pe_un un_neg pe_int) pa_nil)))) (pg_name (i := 3) scWbl.nd rfl (Or.inl rfl))
        (pss_one (ps_set (i := 2) scWbl.nd rfl (Or.inl rfl) (pe_call GO hr rfl O.mgf O.F.kp O.bd .nil pass0 (pa_cons (pv 0) (pa_cons (pv 2) pa_nil))))))
      (pss_cons (ps_set (i := 4) scWbl.nd rfl (Or.inl rfl) pe_dnewK)
      (pss_cons (ps_lock (ps_for PassesOwn.never rfl (pi_itemsT (pv 2)) (pg_tup rfl (pgs_cons (pg_name (i := 5) scWbl.nd rfl (Or.inl rfl)) (pgs_cons (pg_name (i := 6) scWbl.nd rfl (Or.inl rfl)) pgs_nil)))
        (pss_one (ps_dput hu (pv 4) (pe_ix ix_tup (pv 5) pe_int (fun _ _ => rfl)) (pv 6) rfl))))
      (pss_one (ps_ret (pv 4)))))), ?_⟩
    -- boards = {numbers: 1}
    intro b0 hb0
    have s0 := same_upd (o := .dT []) hb0
    refine ⟨_, rfl, p, bk l, rfl, by rw [bk_kV]; exact s0 _ _ hp, upd_same, ?_⟩
    have s1 : Same H (upd (upd H b0 (.dT [])) b0 (.dT [(bk l, .int 1)])) := fun x o e => by
      rw [upd_ne (ne_of_none e hb0)]
      exact s0 _ _ e
    -- for size in range(len(numbers), 1, -1)
    refine ⟨_, rfl, p, _, rfl, .inr (SqT.of (s1 _ _ hp)), _, rfl, ((l.length : Nat) : Int), 1, -1, l.length - 1, ?_, ?_, for_rangeC (fun i σ H' => ∃ (q : Addr) (v3 : Option V) (L : Lvl), σ = [some (.int (r : Int)), some (.ref p), some (.ref q), v3, none, none, none] ∧
      H' q = some (.dT (lv L)) ∧ LvIn r (fun b => b.length = l.length - i ∧ Fit b) L ∧ L.length ≤ cap (l.length - i) ∧ (∀ x, tal r x L = oft r x l) ∧ Same H H') ?_ ?_ ?_⟩
    · rw [iv_length]
    · have : RgC ((l.length : Nat) : Int) 1 (-1) (((l.length : Nat) : Int) - 1).toNat := RgC.neg (by omega) (by omega) (by decide) (by decide)
      rw [show (((l.length : Nat) : Int) - 1).toNat = l.length - 1 by omega] at this
      exact this
    · refine ⟨b0, none, [(l, 1)], rfl, upd_same, ⟨by simp, fun p hp => ?_, fun b hb => ?_⟩, cap_pos _, fun x => ?_, s1⟩
      · rw [List.mem_singleton.mp hp]
        exact Nat.le_refl _
      · have : b = l := by simpa using hb
        rw [this]
        exact ⟨rfl, fit⟩
      · show 1 * oft r x l + 0 = _
        omega
    · rintro i σ H2 hi ⟨q, v3, L, rfl, h1, h2, h3, h4, h5⟩
      have hn2 : 2 ≤ l.length - i := by omega
      have hm : ∀ p, p ∈ L → p.1.length = l.length - i ∧ Fit p.1 := fun p hp => h2.all _ (List.mem_map.mpr ⟨p, hp, rfl⟩)
      refine ⟨_, rfl, _, rfl, r, l.length - i, q, L, rfl, r9, ⟨hn2, by omega, h2.nd, h3, h2.pos, hm⟩, h1, fun q' H3 e1 e2 e3 s3 n3 => ?_⟩
      refine ⟨q', _, levelOn r L, rfl, e1, ?_, ?_, fun x => ?_, h5.trans s3⟩
      · rw [show l.length - (i + 1) = l.length - i - 1 by omega]
        exact e2
      · have := cap_next hn2 (by omega)
        rw [show l.length - (i + 1) = l.length - i - 1 by omega]
        exact Nat.le_trans e3 (Nat.le_trans (Nat.mul_le_mul_left _ h3) this)
      · rw [tal_level fun p hp => by rw [(hm p hp).1]; exact hn2]
        exact h4 x
    · rintro σ H2 ⟨q, v3, L, rfl, h1, h2, h3, h4, h5⟩
      rw [show l.length - (l.length - 1) = 1 by omega] at h2 h3
      have one : ∀ p, p ∈ L → p.1.length = 1 := fun p hp => (h2.all _ (List.mem_map.mpr ⟨p, hp, rfl⟩)).1
      have WT : WayTab r l (ends L) := wayTab one h2.nd h2.pos h4 h3
      have few := WT.few
      -- found = {}
      intro d hd
      have s2 := same_upd (o := .dK []) hd
      refine ⟨q, _, s2 _ _ h1, True.intro, fun ob => ?_⟩
      have dq : d ≠ q := Ne.symm (ne_of_none h1 hd)
      have el : (ends L).length = L.length := List.length_map ..
      have base0 : (upd H2 q (.frz ob (.dT (lv L)))) d = Option.none := by
        rw [upd_ne dq]
        exact hd
      have start : Same (upd H2 q (.frz ob (.dT (lv L)))) (upd (upd H2 d (.dK [])) q (.frz ob (.dT (lv L)))) := fun x o e => by
        by_cases hx : x = q
        · rw [hx, upd_same] at e ⊢
          exact e
        · rw [upd_ne hx] at e ⊢
          exact s2 _ _ e
      refine ⟨_, rfl, q, ob, lv L, rfl, upd_same, for_itemsT (fun i σ H' => ∃ (v5 v6 : Option V), σ = [some (.int (r : Int)), some (.ref p), some (.ref q), v3, some (.ref d), v5, v6] ∧
        H' d = some (.dK (wd ((ends L).take i))) ∧ Same (upd H2 q (.frz ob (.dT (lv L)))) H') ⟨none, none, rfl, (by rw [upd_ne dq, upd_same]; rfl), start⟩ (fun i σ H' _ ⟨_, _, _, _, z⟩ => z _ _ upd_same) ?_ ?_⟩
      · rintro i σ H3 tt t ky v hkv ⟨v5, v6, rfl, g1, g2⟩ htt ht
        have hkv : (L.map fun p => (bk p.1, V.int (p.2 : Int)))[i]? = some (ky, v) := hkv
        rw [List.getElem?_map] at hkv
        obtain ⟨⟨b, c⟩, hLi, e⟩ := Option.map_eq_some_iff.mp hkv
        have e : (bk b, V.int (c : Int)) = (ky, v) := e
        cases e
        rw [bk_kV] at ht
        have hb1 : b.length = 1 := one _ (List.mem_of_getElem? hLi)
        have iL : i < L.length := (List.getElem?_eq_some_iff.mp hLi).1
        have st := same_upd (o := .tup [.ref t, V.int (c : Int)]) htt
        have hE : (ends L)[i]? = some (b.headD 0, c) := by
          unfold ends
          rw [List.getElem?_map, hLi]
          rfl
        have h0 : b.getD 0 0 = b.headD 0 := by cases b <;> rfl
        refine ⟨tt, _, rfl, SqT.of upd_same, rfl, _, _, rfl, _, _, rfl, rfl, ?_⟩
        refine ⟨_, rfl, _, rfl, _, rfl, t, _, _, _, rfl, rfl, SqT.of (st _ _ ht), atI_nat (j := 0) (iv_at (by omega)), d, _, rfl, DPut.k (k := Sum.inl ((b.getD 0 0 : Nat) : Int)) (st _ _ g1) (small_of (by rw [wd_length, List.length_take]; omega)), ?_⟩
        refine ⟨_, _, rfl, ?_, ?_⟩
        · rw [upd_same, putK_new _ (wd_none ?_), take_succ_at hE, h0]
          · unfold wd
            rw [List.map_append]
            rfl
          · rw [h0]
            intro hm
            have nd := WT.nd
            rw [← List.take_append_drop i (ends L), List.map_append, List.nodup_append] at nd
            refine nd.2.2 _ hm (b.headD 0) ?_ rfl
            refine List.mem_map.mpr ⟨(b.headD 0, c), ?_, rfl⟩
            refine List.mem_of_getElem? (i := 0) ?_
            rw [List.getElem?_drop]
            exact hE
        · intro x o e
          have e2 := g2 _ _ e
          rw [upd_ne (ne_of_none e base0)]
          exact st _ _ e2
      · rintro σ H3 ⟨v5, v6, rfl, g1, g2⟩
        rw [lv_length, ← el, List.take_length] at g1
        refine ⟨g2 _ _ upd_same, ⟨_, rfl, ?_⟩⟩
        refine k d (ends L) _ ?_ WT (h5.trans fun x o e => ?_) (h5.free hd)
        · rw [upd_ne dq]
          exact g1
        · by_cases hx : x = q
          · rw [hx] at e ⊢
            rw [upd_same, ← e, h1]
          · rw [upd_ne hx]
            exact g2 _ _ (by rw [upd_ne hx]; exact e)
/-! ### ways_all_together -/
def spAll : Sp := fun vs H Q _ => ∃ n : Nat, vs = [.int (n : Int)] ∧ n ≤ 6 ∧ ∀ H' : Hp, Same H H' → Q (.int ((wayCount n : Nat) : Int)) H'
theorem scAll : FnScope ["size", "product", "left"] ["size"] (defScope sAll) := ⟨rfl, rfl, rfl, by decide +kernel, rfl, by decide +kernel, by decide +kernel⟩
theorem ok_all {f ss : Addr} {fd sd : FuncData} (F : Fun K "ways_all_together" "ways_all_together" sAll f fd) (S : Known K mg "steps_in_order" sSteps ["size"] ss sd) (T : Own mg) : FnOk P w K mg base CX0 2 f fd ["size"] spAll := by
  refine F.ok scAll (fun vs H Q E h => ?_) (fun cdv A outer s H vs Q E hr h => ?_)
  · obtain ⟨n, rfl, _⟩ := h
    rfl
  · obtain ⟨n, rfl, n6, k⟩ := h
    have GS : FnOk P w K mg base CX0 1 ss sd ["size"] spSteps := ok_steps S.F T
    obtain ⟨pe, pl⟩ := prod_is n6
    refine ⟨_, pss_cons (ps_set (i := 1) scAll.nd rfl (Or.inl rfl) pe_int)
      (pss_cons (ps_for PassesOwn.never rfl (pi_range3 rfl T.range (pa_cons (pv 0) (pa_cons pe_int (pa_cons (pe_un un_neg pe_int) pa_nil)))) (pg_name (i := 2) scAll.nd rfl (Or.inl rfl))
        (pss_one (ps_set (i := 1) scAll.nd rfl (Or.inl rfl) (pe_op op_mul (pv 1) (pe_callB call_len_seq (by rfl) T.len PySem.boot_len (pa_cons (pe_call GS hr rfl S.mgf S.F.kp S.bd .nil pass0 (pa_cons (pv 2) pa_nil)) pa_nil))))))
      (pss_one (ps_ret (pv 1)))), ?_⟩
    refine ⟨_, rfl, _, rfl, (n : Int), 1, -1, n - 1, rfl, ?_, for_rangeC (fun i σ H' => ∃ v2 : Option V, σ = [some (.int (n : Int)), some (.int ((prodTo n i : Nat) : Int)), v2] ∧ Same H H') ⟨none, rfl, Same.refl _⟩ ?_ ?_⟩
    · have : RgC (n : Int) 1 (-1) ((n : Int) - 1).toNat := RgC.neg (by omega) (by omega) (by decide) (by decide)
      rw [show ((n : Int) - 1).toNat = n - 1 by omega] at this
      exact this
    · rintro i σ H2 hi ⟨v2, rfl, s2⟩
      have := pl i (by omega)
      refine ⟨_, rfl, _, rfl, n - i, ?_, by omega, fun st sas H3 hst hS s3 => ?_⟩
      · show [V.int ((n : Int) + (i : Nat) * (-1))] = [V.int ((n - i : Nat) : Int)]
        rw [show ((n : Int) + (i : Nat) * (-1)) = ((n - i : Nat) : Int) by omega]
      · refine ⟨st, _, rfl, .inl (SqL.of hst), _, _, rfl, rfl, .inl ⟨by omega, by omega⟩, some (V.int ((n : Int) + (i : Nat) * (-1))), ?_, s2.trans s3⟩
        have hl : (sas.map V.ref).length = (Uw81.steps (n - i)).length := by
          rw [List.length_map]
          exact Paired.length hS
        rw [hl]
        rfl
    · rintro σ H2 ⟨v2, rfl, s2⟩
      rw [pe]
      exact ⟨_, rfl, k H2 s2⟩
end
end Wb

end
section
set_option Elab.async false
set_option linter.all false
set_option maxRecDepth 100000
namespace Wb
open PySem PySem.Spec PyProof.Rows L2
abbrev sBy : Stmt := top 25
abbrev sFs : Stmt := top 26
abbrev sFw : Stmt := top 27
/-- how many numbers the tuple in slot 1 has -/
def mu1 : L2.St → Hp → Nat := fun σ H => match σ with
  | _ :: some (.ref q) :: _ => match H q with
    | some (.tup xs) => xs.length
    | _ => 0
  | _ => 0
theorem mu1_is {a : Option V} {q : Addr} {t : L2.St} {H : Hp} {l : List Nat} (h : H q = some (.tup (iv l))) : mu1 (a :: some (.ref q) :: t) H = l.length := by
  show (match H q with
    | some (.tup xs) => xs.length
    | _ => 0) = _
  rw [h]
  exact iv_length l
section
variable {P : Program} {w : World} {K : PySem.W.Frag} {mg : Str → Option Value} {base : Heap}
/-! ### last_by_way -/
def spBy : Sp := fun vs H Q _ => ∃ (r : Nat) (p : Addr) (l : List Nat) (k x : Nat), vs = [.int (r : Int), .ref p, .int (k : Int)] ∧ H p = some (.tup (iv l)) ∧ r ≤ 9 ∧ Fit l ∧ (Uw81.lastsOf r l)[k]? = some x ∧ ∀ H' : Hp, Same H H' → Q (.int (x : Int)) H'
theorem scBy : FnScope ["rule", "numbers", "k", "behind_each", "step"] ["rule", "numbers", "k"] (defScope sBy) := ⟨rfl, rfl, rfl, by decide +kernel, rfl, by decide +kernel, by decide +kernel⟩
theorem ok_by {f g l rr ww ss aa al : Addr} {fd gd ld rd wd' sd ad ald : FuncData} (F : Fun K "last_by_way" "last_by_way" sBy f fd) (Y : Known K mg "ways_all_together" sAll ["size"] al ald)
    (S : Known K mg "steps_in_order" sSteps ["size"] ss sd) (A' : Known K mg "after_step" sAfter ["rule", "numbers", "i", "j"] aa ad)
    (R : Known K mg "rising" sRising ["numbers"] rr rd) (W : Known K mg "written_for" sWritten ["rule", "a", "b"] ww wd')
    (G : Known K mg "greatest_common_divisor" sGcd ["a", "b"] g gd) (Lm : Known K mg "least_common_multiple" sLcm ["a", "b"] l ld) (T : Own mg) : FnOk P w K mg base CX0 5 f fd ["rule", "numbers", "k"] spBy := by
  refine F.ok scBy (fun vs H Q E h => ?_) (fun cdv A outer s H vs Q E hr h => ?_)
  · obtain ⟨r, p, l, k, x, rfl, _⟩ := h
    rfl
  · obtain ⟨r, p, l, k0, x, rfl, hp, r9, fit, hx, k⟩ := h
    have GY : FnOk P w K mg base CX0 2 al ald ["size"] spAll := ok_all Y.F S T
    have GS : FnOk P w K mg base CX0 1 ss sd ["size"] spSteps := ok_steps S.F T
    have GA : FnOk P w K mg base CX0 4 aa ad ["rule", "numbers", "i", "j"] (spAfter K) := ok_after A'.F R W G Lm T
    have hr1 := hr.mono (j := 1) (by decide)
    have hr2 := hr.mono (j := 2) (by decide)
    refine ⟨_, pss_cons (ps_while PassesOwn.never (pt_cmpR op_gt (pe_callB call_len_seq (by rfl) T.len PySem.boot_len (pa_cons (pv 1) pa_nil)) pe_int (nomark _))
        (pss_cons (ps_set (i := 3) scBy.nd rfl (Or.inl rfl) (pe_call GY hr2 rfl Y.mgf Y.F.kp Y.bd .nil pass0 (pa_cons (pe_op op_sub (pe_callB call_len_seq (by rfl) T.len PySem.boot_len (pa_cons (pv 1) pa_nil)) pe_int) pa_nil)))
        (pss_cons (ps_set (i := 4) scBy.nd rfl (Or.inl rfl) (pe_ix ix_list (pe_call GS hr1 rfl S.mgf S.F.kp S.bd .nil pass0 (pa_cons (pe_callB call_len_seq (by rfl) T.len PySem.boot_len (pa_cons (pv 1) pa_nil)) pa_nil)) (pe_op op_fdiv (pv 2) (pv 3)) (fun _ _ => rfl)))
        (pss_cons (ps_set (i := 2) scBy.nd rfl (Or.inl rfl) (pe_op op_mod (pv 2) (pv 3)))
        (pss_one (ps_set (i := 1) scBy.nd rfl (Or.inl rfl) (pe_call GA hr rfl A'.mgf A'.F.kp A'.bd .nil pass0 (pa_cons (pv 0) (pa_cons (pv 1) (pa_cons (pe_ix ix_tup (pv 4) pe_int (fun _ _ => rfl)) (pa_cons (pe_ix ix_tup (pv 4) pe_int (fun _ _ => rfl)) pa_nil)))))))))))
      (pss_one (ps_ret (pe_ix ix_tup (pv 1) pe_int (fun _ _ => rfl)))), ?_⟩
    refine while_by (fun σ H' => ∃ (q : Addr) (m : List Nat) (kk : Nat) (v3 v4 : Option V), σ = [some (.int (r : Int)), some (.ref q), some (.int (kk : Int)), v3, v4] ∧ H' q = some (.tup (iv m)) ∧ Fit m ∧ (Uw81.lastsOf r m)[kk]? = some x ∧ Same H H') mu1
      ⟨p, l, k0, none, none, rfl, hp, fit, hx, Same.refl _⟩ ?_ ?_
    · rintro σ H1 ⟨q, m, kk, v3, v4, rfl, hq, fm, hk, s1⟩
      refine ⟨_, rfl, q, _, rfl, .inr (SqT.of hq), _, _, rfl, rfl, _, rfl, ite2 (fun hc => ?_) (fun hc => ?_)⟩
      · have hc : (1 : Int) < (((iv m).length : Nat) : Int) := of_decide_eq_true hc
        rw [iv_length] at hc
        obtain ⟨n, hn⟩ : ∃ n, m.length = n + 2 := ⟨m.length - 2, by omega⟩
        have m6 := fm.most
        have wl := wayCount_le (n := n + 1) (by omega)
        have wp := wayCount_pos (n + 1)
        -- behind_each = ways_all_together(len(numbers) - 1)
        refine ⟨_, rfl, q, _, rfl, .inr (SqT.of hq), _, _, rfl, rfl, n + 1, ?_, by omega, fun H2 s2 => ?_⟩
        · rw [iv_length, hn]
          show [V.int (((n + 2 : Nat) : Int) - 1)] = _
          rw [show (((n + 2 : Nat) : Int) - 1) = ((n + 1 : Nat) : Int) by omega]
        -- step = steps_in_order(len(numbers))[k // behind_each]
        rw [which_step hn] at hk
        obtain ⟨sp, hsp, hk⟩ := Option.bind_eq_some_iff.mp hk
        refine ⟨_, rfl, q, _, rfl, .inr (SqT.of (s2 _ _ hq)), n + 2, ?_, by omega, fun st sas H3 hst hS s3 => ?_⟩
        · rw [iv_length, hn]
          rfl
        have hl : sas.length = (Uw81.steps (n + 2)).length := Paired.length hS
        have hil : kk / wayCount (n + 1) < sas.length := by
          rw [hl]
          exact (List.getElem?_eq_some_iff.mp hsp).1
        obtain ⟨sa, hsa⟩ : ∃ a, sas[kk / wayCount (n + 1)]? = some a := ⟨sas[kk / wayCount (n + 1)], List.getElem?_eq_getElem hil⟩
        obtain ⟨sp', hsp', hT⟩ := st_of hS hsa
        have e : sp' = sp := Option.some.inj (hsp'.symm.trans hsp)
        subst e
        have hmem := mem_steps.mp (List.mem_of_getElem? hsp)
        refine ⟨_, rfl, _, rfl, _, _, rfl, rfl, ⟨by omega, by omega⟩, st, _, _, .ref sa, rfl, rfl, SqL.of hst, ?_, ?_⟩
        · show atI _ ((kk : Int) / ((wayCount (n + 1) : Nat) : Int)) = _
          rw [← Int.natCast_ediv]
          exact atI_nat (by rw [List.getElem?_map, hsa]; rfl)
        -- k = k % behind_each
        refine ⟨_, rfl, _, rfl, _, _, rfl, rfl, (by show (0 : Int) < _; omega), ?_⟩
        -- numbers = after_step(rule, numbers, step[0], step[1])
        refine ⟨_, rfl, _, rfl, _, rfl, sa, _, _, .int (sp'.1 : Int), rfl, rfl, SqT.of hT, atI_nat (j := 0) rfl, _, rfl, sa, _, _, .int (sp'.2 : Int), rfl, rfl, SqT.of hT, atI_nat (j := 1) rfl,
          r, q, m, sp'.1, sp'.2, rfl, SqT.of (s3 _ _ (s2 _ _ hq)), r9, fm, hmem.1, by rw [hn]; exact hmem.2, fun q' H4 hq4 s4 => ?_⟩
        refine ⟨⟨q', Uw81.wiped r m sp', kk % wayCount (n + 1), some (.int ((wayCount (n + 1) : Nat) : Int)), some (.ref sa), ?_, hq4, fm.wiped r hmem.1 (by rw [hn]; exact hmem.2), hk, ((s1.trans s2).trans s3).trans s4⟩, ?_⟩
        · show [_, _, some (V.int ((kk : Int) % ((wayCount (n + 1) : Nat) : Int))), _, _] = _
          rw [← Int.natCast_emod]
        · refine Nat.lt_of_le_of_lt (Nat.le_of_eq (mu1_is hq4)) (Nat.lt_of_lt_of_le ?_ (Nat.le_of_eq (mu1_is hq).symm))
          rw [show sp' = (sp'.1, sp'.2) from rfl, wiped_length hmem.1 (by rw [hn]; exact hmem.2)]
          omega
      · have hc : ¬ (1 : Int) < (((iv m).length : Nat) : Int) := fun z => hc (decide_eq_true z)
        rw [iv_length] at hc
        have m1 := fm.pos
        have hm1 : m.length ≤ 1 := by omega
        rw [lastsOf_one hm1] at hk
        have ek : x = m.headD 0 := by
          cases kk with
          | zero => exact (Option.some.inj hk).symm
          | succ j => simp at hk
        have h0 : m.getD 0 0 = m.headD 0 := by cases m <;> rfl
        refine ⟨_, rfl, q, _, _, _, rfl, rfl, SqT.of hq, atI_nat (j := 0) (iv_at (by omega)), ?_⟩
        rw [h0, ← ek]
        exact k H1 s1
    · rintro σ H' Q1 Q2 hq ⟨v, e, p', ys, e1, h1, i, j, e2, e3, b, e4, q⟩
      exact ⟨v, e, p', ys, e1, h1, i, j, e2, e3, b, e4, hq _ _ q⟩
/-! ### first_step_to -/
def spFs : Sp := fun vs H Q _ => ∃ (r : Nat) (p : Addr) (l : List Nat) (x : Nat), vs = [.int (r : Int), .ref p, .int (x : Int)] ∧ H p = some (.tup (iv l)) ∧ r ≤ 9 ∧ Fit l ∧ 2 ≤ l.length ∧ x ∈ Uw81.lastsOf r l ∧
  ∀ (sp : Nat × Nat) (q : Addr) (H' : Hp), sp ∈ Uw81.steps l.length → x ∈ Uw81.lastsOf r (Uw81.wiped r l sp) → (firstWay r x l = (firstWay r x (Uw81.wiped r l sp)).map fun w => (sp :: w.1, w.2)) → H' q = some (.tup [.int (sp.1 : Int), .int (sp.2 : Int)]) → Same H H' → Q (.ref q) H'
theorem scFs : FnScope ["rule", "numbers", "last", "i", "j"] ["rule", "numbers", "last"] (defScope sFs) := ⟨rfl, rfl, rfl, by decide +kernel, rfl, by decide +kernel, by decide +kernel⟩
theorem ok_fs {f g l rr ww ss aa oo wb : Addr} {fd gd ld rd wd' sd ad od wbd : FuncData} (F : Fun K "first_step_to" "first_step_to" sFs f fd) (B : Known K mg "ways_by_last" sWbl ["rule", "numbers"] wb wbd) (O : Known K mg "boards_a_step_on" sOn ["rule", "boards"] oo od)
    (S : Known K mg "steps_in_order" sSteps ["size"] ss sd) (A' : Known K mg "after_step" sAfter ["rule", "numbers", "i", "j"] aa ad)
    (R : Known K mg "rising" sRising ["numbers"] rr rd) (W : Known K mg "written_for" sWritten ["rule", "a", "b"] ww wd')
    (G : Known K mg "greatest_common_divisor" sGcd ["a", "b"] g gd) (Lm : Known K mg "least_common_multiple" sLcm ["a", "b"] l ld) (T : Own mg) : FnOk P w K mg base CX0 7 f fd ["rule", "numbers", "last"] spFs := by
  refine F.ok scFs (fun vs H Q E h => ?_) (fun cdv A outer s H vs Q E hr h => ?_)
  · obtain ⟨r, p, l, x, rfl, _⟩ := h
    rfl
  · obtain ⟨r, p, l, x, rfl, hp, r9, fit, l2, hx, k⟩ := h
    have GB : FnOk P w K mg base CX0 6 wb wbd ["rule", "numbers"] spWbl := ok_wbl B.F O S A' R W G Lm T
    have GS : FnOk P w K mg base CX0 1 ss sd ["size"] spSteps := ok_steps S.F T
    have GA : FnOk P w K mg base CX0 4 aa ad ["rule", "numbers", "i", "j"] (spAfter K) := ok_after A'.F R W G Lm T
    have hr1 := hr.mono (j := 1) (by decide)
    have hr4 := hr.mono (j := 4) (by decide)
    have hu := hu_of hr
    refine ⟨_, pss_cons (ps_for PassesOwn.never rfl (pi_list (pe_call GS hr1 rfl S.mgf S.F.kp S.bd .nil pass0 (pa_cons (pe_callB call_len_seq (by rfl) T.len PySem.boot_len (pa_cons (pv 1) pa_nil)) pa_nil))) (pg_tup rfl (pgs_cons (pg_name (i := 3) scFs.nd rfl (Or.inl rfl)) (pgs_cons (pg_name (i := 4) scFs.nd rfl (Or.inl rfl)) pgs_nil)))
        (pss_one (ps_if (pt_cmp (pc_din hu (pv 2) (pe_call GB hr rfl B.mgf B.F.kp B.bd .nil pass0 (pa_cons (pv 0) (pa_cons (pe_call GA hr4 rfl A'.mgf A'.F.kp A'.bd .nil pass0 (pa_cons (pv 0) (pa_cons (pv 1) (pa_cons (pv 3) (pa_cons (pv 4) pa_nil))))) pa_nil)))))
          (pss_one (ps_ret (pe_tup (pa_cons (pv 3) (pa_cons (pv 4) pa_nil))))) pss_nil)))
      (pss_one (ps_ret pe_non)), ?_⟩
    refine ⟨_, rfl, p, _, rfl, .inr (SqT.of hp), l.length, ?_, fit.most, fun st sas H1 hst hS s1 => ?_⟩
    · rw [iv_length]
      rfl
    refine ⟨st, rfl, ⟨_, SqL.of hst⟩, for_list (K := K) (a := st) (xs := sas.map V.ref) (fun j σ H' => ∃ (v3 v4 : Option V), σ = [some (.int (r : Int)), some (.ref p), some (.int (x : Int)), v3, v4] ∧ (∀ t, t ∈ (Uw81.steps l.length).take j → x ∉ Uw81.lastsOf r (Uw81.wiped r l t)) ∧ Same H1 H')
      ⟨none, none, rfl, fun t ht => by simp at ht, Same.refl _⟩ (fun j σ H' _ ⟨_, _, _, _, z⟩ => SqL.of (z _ _ hst)) ?_ ?_⟩
    · rintro j y σ H2 hj ⟨v3, v4, rfl, g1, g2⟩
      obtain ⟨c, hc, rfl⟩ := refs_at hj
      obtain ⟨sp, hsj, hcS⟩ := st_of hS hc
      have hmem := List.mem_of_getElem? hsj
      have hsp := mem_steps.mp hmem
      have s12 := s1.trans g2
      have fw := fit.wiped r hsp.1 hsp.2
      refine ⟨c, _, rfl, SqT.of (g2 _ _ hcS), rfl, _, _, rfl, _, _, rfl, rfl, ?_⟩
      refine ⟨_, rfl, _, rfl, _, rfl, _, rfl, _, rfl, _, rfl, r, p, l, sp.1, sp.2, rfl, SqT.of (s12 _ _ hp), r9, fit, hsp.1, hsp.2, fun b H3 hb s3 => ?_⟩
      refine ⟨r, b, _, rfl, hb, r9, fw, fun q WW H4 hq WT s4 n4 => ?_⟩
      have s24 := (g2.trans s3).trans s4
      by_cases hin : x ∈ WW.map (·.1)
      · obtain ⟨⟨x', c'⟩, hc', e⟩ := List.mem_map.mp hin
        have e : x' = x := e
        subst e
        have hy : x' ∈ Uw81.lastsOf r (Uw81.wiped r l sp) := (WT.mem x').mp hin
        refine ⟨q, _, rfl, DGet.k (k := Sum.inl (x' : Int)) hq, _, rfl, ?_⟩
        rw [wd_some WT.nd hc']
        refine iteT ⟨_, rfl, _, rfl, (by show 2 ≤ sizeLine; decide), fun t ht => ?_⟩
        refine k sp t _ hmem hy (first_split l2 (pre := (Uw81.steps l.length).take j) (post := (Uw81.steps l.length).drop (j + 1)) ?_ g1 hy) upd_same ((s1.trans s24).trans (same_upd ht))
        have hjl := (List.getElem?_eq_some_iff.mp hsj)
        rw [← hjl.2, ← List.drop_eq_getElem_cons hjl.1, List.take_append_drop]
      · refine ⟨q, _, rfl, DGet.k (k := Sum.inl (x : Int)) hq, _, rfl, ?_⟩
        rw [wd_none hin]
        refine iteF ⟨_, _, rfl, fun t ht => ?_, s24⟩
        rw [take_succ_at hsj] at ht
        rcases List.mem_append.mp ht with ht | ht
        · exact g1 t ht
        · rw [List.mem_singleton.mp ht]
          exact fun z => hin ((WT.mem x).mpr z)
    · rintro σ H2 ⟨v3, v4, rfl, g1, g2⟩
      have hl : (sas.map V.ref).length = (Uw81.steps l.length).length := by
        rw [List.length_map]
        exact Paired.length hS
      rw [hl, List.take_length] at g1
      rw [lastsOf_step l2, List.mem_flatMap] at hx
      obtain ⟨t, ht, hx⟩ := hx
      exact (g1 t ht hx).elim
/-! ### first_way_to -/
def spFw : Sp := fun vs H Q _ => ∃ (r : Nat) (p : Addr) (l : List Nat) (x : Nat), vs = [.int (r : Int), .ref p, .int (x : Int)] ∧ H p = some (.tup (iv l)) ∧ r ≤ 9 ∧ Fit l ∧ x ∈ Uw81.lastsOf r l ∧
  ∀ (q : Addr) (as : List Addr) (way : List (Nat × Nat)) (H' : Hp), H' q = some (.lst (as.map V.ref)) → StAt H' as way → firstWay r x l = some (way, x) → way.length ≤ 5 → Same H H' → H q = Option.none → Q (.ref q) H'
theorem scFw : FnScope ["rule", "numbers", "last", "steps", "step"] ["rule", "numbers", "last"] (defScope sFw) := ⟨rfl, rfl, rfl, by decide +kernel, rfl, by decide +kernel, by decide +kernel⟩
theorem ok_fw {f g l rr ww ss aa oo wb fs : Addr} {fd gd ld rd wd' sd ad od wbd fsd : FuncData} (F : Fun K "first_way_to" "first_way_to" sFw f fd) (Z : Known K mg "first_step_to" sFs ["rule", "numbers", "last"] fs fsd) (B : Known K mg "ways_by_last" sWbl ["rule", "numbers"] wb wbd) (O : Known K mg "boards_a_step_on" sOn ["rule", "boards"] oo od)
    (S : Known K mg "steps_in_order" sSteps ["size"] ss sd) (A' : Known K mg "after_step" sAfter ["rule", "numbers", "i", "j"] aa ad)
    (R : Known K mg "rising" sRising ["numbers"] rr rd) (W : Known K mg "written_for" sWritten ["rule", "a", "b"] ww wd')
    (G : Known K mg "greatest_common_divisor" sGcd ["a", "b"] g gd) (Lm : Known K mg "least_common_multiple" sLcm ["a", "b"] l ld) (T : Own mg) : FnOk P w K mg base CX0 8 f fd ["rule", "numbers", "last"] spFw := by
  refine F.ok scFw (fun vs H Q E h => ?_) (fun cdv A outer s H vs Q E hr h => ?_)
  · obtain ⟨r, p, l, x, rfl, _⟩ := h
    rfl
  · obtain ⟨r, p, l, x, rfl, hp, r9, fit, hx, k⟩ := h
    have GZ : FnOk P w K mg base CX0 7 fs fsd ["rule", "numbers", "last"] spFs := ok_fs Z.F B O S A' R W G Lm T
    have GA : FnOk P w K mg base CX0 4 aa ad ["rule", "numbers", "i", "j"] (spAfter K) := ok_after A'.F R W G Lm T
    have hr4 := hr.mono (j := 4) (by decide)
    refine ⟨_, pss_cons (ps_set (i := 3) scFw.nd rfl (Or.inl rfl) (pe_lst pa_nil))
      (pss_cons (ps_while PassesOwn.never (pt_cmpR op_gt (pe_callB call_len_seq (by rfl) T.len PySem.boot_len (pa_cons (pv 1) pa_nil)) pe_int (nomark _))
        (pss_cons (ps_set (i := 4) scFw.nd rfl (Or.inl rfl) (pe_call GZ hr rfl Z.mgf Z.F.kp Z.bd .nil pass0 (pa_cons (pv 0) (pa_cons (pv 1) (pa_cons (pv 2) pa_nil)))))
        (pss_cons (ps_expr (pe_bm PySem.F.plainAttrs_list PySem.F.slot_list_append PySem.F.type_list_append mt_append (pv 3) (pa_cons (pv 4) pa_nil)))
        (pss_one (ps_set (i := 1) scFw.nd rfl (Or.inl rfl) (pe_call GA hr4 rfl A'.mgf A'.F.kp A'.bd .nil pass0 (pa_cons (pv 0) (pa_cons (pv 1) (pa_cons (pe_ix ix_tup (pv 4) pe_int (fun _ _ => rfl)) (pa_cons (pe_ix ix_tup (pv 4) pe_int (fun _ _ => rfl)) pa_nil))))))))))
      (pss_one (ps_ret (pv 3)))), ?_⟩
    refine ⟨(by show 0 ≤ sizeLine; decide), fun d hd => ?_⟩
    have s0 := same_upd (o := .lst []) hd
    refine while_by (fun σ H' => ∃ (q : Addr) (m : List Nat) (as : List Addr) (done : List (Nat × Nat)) (v4 : Option V), σ = [some (.int (r : Int)), some (.ref q), some (.int (x : Int)), some (.ref d), v4] ∧ H' q = some (.tup (iv m)) ∧ Fit m ∧ x ∈ Uw81.lastsOf r m ∧
      H' d = some (.lst (as.map V.ref)) ∧ StAt H' as done ∧ done.length + m.length = l.length ∧ (∀ way, firstWay r x m = some (way, x) → firstWay r x l = some (done ++ way, x)) ∧ Same H H') mu1
      ⟨p, l, [], [], none, rfl, s0 _ _ hp, fit, hx, upd_same, .nil, Nat.zero_add _, fun way h => h, s0⟩ ?_ ?_
    · rintro σ H1 ⟨q, m, as, done, v4, rfl, hq, fm, hm, h1, h2, h3, h4, s1⟩
      have m6 := fm.most
      have l6 := fit.most
      have m1 := fm.pos
      refine ⟨_, rfl, q, _, rfl, .inr (SqT.of hq), _, _, rfl, rfl, _, rfl, ite2 (fun hc => ?_) (fun hc => ?_)⟩
      · have hc : (1 : Int) < (((iv m).length : Nat) : Int) := of_decide_eq_true hc
        rw [iv_length] at hc
        have m2 : 2 ≤ m.length := by omega
        -- step = first_step_to(rule, numbers, last)
        refine ⟨_, rfl, _, rfl, _, rfl, r, q, m, x, rfl, hq, r9, fm, m2, hm, fun sp t H2 e1 e2 e3 ht s2 => ?_⟩
        have hsp := mem_steps.mp e1
        have d2 := s2 _ _ h1
        have as_l : as.length = done.length := Paired.length h2
        -- steps.append(step)
        refine ⟨_, rfl, .inl ⟨rfl, _, SqL.of d2⟩, _, rfl, d, _, _, rfl, rfl, d2, small_of (by rw [List.length_map]; omega), ?_⟩
        have b3 : But d H2 (upd H2 d (.lst (as.map V.ref ++ [.ref t]))) := But.upd
        have t3 := b3 _ _ ht (ne_of ht d2 (fun z => nomatch z))
        have q3 := b3 _ _ (s2 _ _ hq) (ne_of (s2 _ _ hq) d2 (fun z => nomatch z))
        -- numbers = after_step(rule, numbers, step[0], step[1])
        refine ⟨_, rfl, _, rfl, _, rfl, t, _, _, .int (sp.1 : Int), rfl, rfl, SqT.of t3, atI_nat (j := 0) rfl, _, rfl, t, _, _, .int (sp.2 : Int), rfl, rfl, SqT.of t3, atI_nat (j := 1) rfl,
          r, q, m, sp.1, sp.2, rfl, SqT.of q3, r9, fm, hsp.1, hsp.2, fun q' H4 hq4 s4 => ?_⟩
        have lw : (Uw81.wiped r m sp).length = m.length - 1 := by rw [show sp = (sp.1, sp.2) from rfl, wiped_length hsp.1 hsp.2]
        refine ⟨⟨q', Uw81.wiped r m sp, as ++ [t], done ++ [sp], _, rfl, hq4, fm.wiped r hsp.1 hsp.2, e2, ?_, ?_, ?_, fun way hw => ?_, ?_⟩, ?_⟩
        · rw [List.map_append]
          exact s4 _ _ upd_same
        · exact Paired.snoc (((h2.same s2).but b3 (fun xs z => by rw [d2] at z; cases z)).same s4) (s4 _ _ t3)
        · rw [List.length_append, lw]
          show _ + 1 + _ = _
          omega
        · rw [List.append_assoc]
          refine h4 (sp :: way) ?_
          rw [e3, hw]
          rfl
        · exact (((s1.trans s2).but b3 hd)).trans s4
        · refine Nat.lt_of_le_of_lt (Nat.le_of_eq (mu1_is hq4)) (Nat.lt_of_lt_of_le ?_ (Nat.le_of_eq (mu1_is hq).symm))
          rw [lw]
          omega
      · have hc : ¬ (1 : Int) < (((iv m).length : Nat) : Int) := fun z => hc (decide_eq_true z)
        rw [iv_length] at hc
        refine ⟨_, rfl, k d as done H1 h1 h2 ?_ (by omega) s1 hd⟩
        have hm1 : m.length ≤ 1 := by omega
        have := h4 [] (by
          rw [lastsOf_one hm1, List.mem_singleton] at hm
          rw [first_one hm1, if_pos hm.symm])
        rw [List.append_nil] at this
        exact this
    · rintro σ H' Q1 Q2 hq ⟨v, e, p', ys, e1, h1, i, j, e2, e3, b, e4, q⟩
      exact ⟨v, e, p', ys, e1, h1, i, j, e2, e3, b, e4, hq _ _ q⟩
end
end Wb

end
section
set_option Elab.async false
set_option linter.all false
set_option maxRecDepth 100000
namespace Wb
open PySem PySem.Spec PyProof.Rows L2
abbrev sCls : Stmt := top 28
abbrev sInit : Stmt := inClass sCls 0
abbrev sMBoard : Stmt := inClass sCls 1
abbrev sMRule : Stmt := inClass sCls 2
abbrev sMWipe : Stmt := inClass sCls 3
abbrev sMShows : Stmt := inClass sCls 4
abbrev sMWrite : Stmt := inClass sCls 5
abbrev sMLasts : Stmt := inClass sCls 6
abbrev sMWays : Stmt := inClass sCls 7
abbrev sMHow : Stmt := inClass sCls 8
abbrev sMWhich : Stmt := inClass sCls 9
abbrev sMSure : Stmt := inClass sCls 10
abbrev sMRests : Stmt := inClass sCls 11
/-! ### the object -/
def bf (r : Nat) (t : Addr) : List (Str × V) := putF "numbers" (.ref t) (putF "rule" (.int (r : Int)) [])
theorem bf_rule (r : Nat) (t : Addr) : (bf r t).lookup ("rule" : Str) = some (.int (r : Int)) := by
  unfold bf
  rw [lookup_putF, if_neg (by decide +kernel), lookup_putF, if_pos rfl]
theorem bf_numbers (r : Nat) (t : Addr) : (bf r t).lookup ("numbers" : Str) = some (.ref t) := by
  unfold bf
  rw [lookup_putF, if_pos rfl]
theorem bf_no (r : Nat) (t : Addr) {m : Str} (h1 : ¬ m = "rule") (h2 : ¬ m = "numbers") : (bf r t).lookup m = Option.none := by
  unfold bf
  rw [lookup_putF, if_neg h2, lookup_putF, if_neg h1]
  all_goals rfl
theorem bf_eq (r : Nat) (t : Addr) : bf r t = [(("rule" : Str), V.int (r : Int)), (("numbers" : Str), V.ref t)] := by
  unfold bf
  show (if ("rule" : Str) = "numbers" then _ else [(("rule" : Str), V.int (r : Int)), (("numbers" : Str), V.ref t)]) = _
  rw [if_neg (by decide +kernel)]
theorem bf_putR (r r' : Nat) (t : Addr) : putF "rule" (.int (r' : Int)) (bf r t) = bf r' t := by
  rw [bf_eq, bf_eq]
  show (if ("rule" : Str) = "rule" then [(("rule" : Str), V.int (r' : Int)), (("numbers" : Str), V.ref t)] else _) = _
  rw [if_pos rfl]
theorem bf_putN (r : Nat) (t t' : Addr) : putF "numbers" (.ref t') (bf r t) = bf r t' := by
  rw [bf_eq, bf_eq]
  show (if ("rule" : Str) = "numbers" then _ else (("rule" : Str), V.int (r : Int)) :: (if ("numbers" : Str) = "numbers" then [(("numbers" : Str), V.ref t')] else _)) = _
  rw [if_neg (by decide +kernel), if_pos rfl]
theorem bf_few (r : Nat) (t : Addr) : (bf r t).length < 1000 := by
  rw [bf_eq]
  show 2 < 1000
  decide
/-- the board stands at a -/
def BoardAt (C : Addr) (H : Hp) (a : Addr) (s : Uw81.St) : Prop := ∃ dx t, H a = some (.ins C dx (bf s.rule t)) ∧ H t = some (.tup (iv s.board))
theorem BoardAt.same {C : Addr} {H H' : Hp} {a : Addr} {s : Uw81.St} (B : BoardAt C H a s) (e : Same H H') : BoardAt C H' a s := by
  obtain ⟨dx, t, h1, h2⟩ := B
  exact ⟨dx, t, e _ _ h1, e _ _ h2⟩
/-- what a call is to reach -/
def Ans (C a : Addr) (H : Hp) (s : Uw81.St) (c : Uw81.Call) (Q : VK) : Prop :=
  ∀ (H' : Hp) (q : Addr), BoardAt C H' a (Uw81.step s c).1 → H' q = some (.lst ((Uw81.step s c).2.map V.int)) → H q = Option.none → But a H H' → Q (.ref q) H'
/-- of the text: the class, its values, the numbers at the top -/
structure Txt (K : PySem.W.Frag) (mg : Str → Option Value) (C : Addr) : Prop where
  cl : Cls K C
  nR : NoAttr K C "rule"
  nN : NoAttr K C "numbers"
  mgC : mg "Board" = some (.ref C)
  own : Own mg
  lastRule : ∃ t, mg "LAST_RULE" = some (Value.int 9 t)
  mostNumbers : ∃ t, mg "MOST_NUMBERS" = some (Value.int 6 t)
  greatest : ∃ t, mg "GREATEST_NUMBER" = some (Value.int 1000 t)
  divisor : ∃ t, mg "GREATEST_DIVISOR" = some (Value.int 100 t)
section
variable {P : Program} {w : World} {K : PySem.W.Frag} {mg : Str → Option Value} {base : Heap}
/-! ### __init__ -/
def spInit (C : Addr) : Sp := fun vs H Q _ => ∃ (p dx : Addr), vs = [.ref p] ∧ H p = some (.ins C dx []) ∧ ∀ H' : Hp, BoardAt C H' p Uw81.init → But p H H' → Q .non H'
theorem scInit : FnScope ["self"] ["self"] (defScope sInit) := ⟨rfl, rfl, rfl, by decide +kernel, rfl, by decide +kernel, by decide +kernel⟩
theorem ok_init {f C : Addr} {fd : FuncData} (F : Fun K "__init__" "Board.__init__" sInit f fd) (T : Txt K mg C) : FnOk P w K mg base CX0 1 f fd ["self"] (spInit C) := by
  refine F.ok scInit (fun vs H Q E h => ?_) (fun cdv A outer s H vs Q E hr h => ?_)
  · obtain ⟨p, dx, rfl, _⟩ := h
    rfl
  · obtain ⟨p, dx, rfl, hp, k⟩ := h
    refine ⟨_, pss_cons (ps_fld (pv 0) pe_int rfl) (pss_one (ps_fld (pv 0) (pe_tup (pa_cons pe_int pa_nil)) rfl)), ?_⟩
    refine ⟨_, rfl, p, C, dx, [], rfl, hp, T.cl, T.nR, (by show 0 < 1000; decide), ?_⟩
    refine ⟨(by show 1 ≤ sizeLine; decide), fun t ht => ?_⟩
    have np : p ≠ t := fun e => by
      rw [← e, upd_same] at ht
      cases ht
    refine ⟨_, rfl, p, C, dx, _, rfl, (by rw [upd_ne np, upd_same]), T.cl, T.nN, (by show 1 < 1000; decide), ?_⟩
    refine k _ ⟨dx, t, upd_same, ?_⟩ fun b o e hb => ?_
    · rw [upd_ne np.symm, upd_same]
      rfl
    · rw [upd_ne hb]
      have : b ≠ t := fun z => by
        rw [← z, upd_ne hb, e] at ht
        cases ht
      rw [upd_ne this, upd_ne hb]
      exact e
/-! ### answer_rule -/
def spMRule (C : Addr) : Sp := fun vs H Q _ => ∃ (a : Addr) (s : Uw81.St) (r : Nat), vs = [.ref a, .int (r : Int)] ∧ BoardAt C H a s ∧ Ans C a H s (.rule r) Q
theorem scMRule : FnScope ["self", "rule"] ["self", "rule"] (defScope sMRule) := ⟨rfl, rfl, rfl, by decide +kernel, rfl, by decide +kernel, by decide +kernel⟩
theorem step_rule (s : Uw81.St) (r : Nat) : Uw81.step s (.rule r) = if 9 < r then (s, [-1]) else (⟨r, s.board⟩, [0]) := rfl
theorem fresh_but {a q : Addr} {H H' : Hp} (e : But a H H') (h : H' q = Option.none) (na : ∃ o, H' a = some o) : H q = Option.none := by
  cases z : H q with
  | none => rfl
  | some o =>
    by_cases ha : q = a
    · subst ha
      obtain ⟨o, ho⟩ := na
      rw [ho] at h
      cases h
    · rw [e _ _ z ha] at h
      cases h
theorem ok_mrule {f C : Addr} {fd : FuncData} (F : Fun K "answer_rule" "Board.answer_rule" sMRule f fd) (T : Txt K mg C) : FnOk P w K mg base CX0 1 f fd ["self", "rule"] (spMRule C) := by
  refine F.ok scMRule (fun vs H Q E h => ?_) (fun cdv A outer s H vs Q E hr h => ?_)
  · obtain ⟨a, s, r, rfl, _⟩ := h
    rfl
  · obtain ⟨a, st, r, rfl, ⟨dx, t, h1, h2⟩, k⟩ := h
    obtain ⟨t1, m1⟩ := T.lastRule
    refine ⟨_, pss_cons (ps_if (pt_cmpR op_gt (pv 1) (pe_glob (v := .int 9) rfl m1 ⟨t1, rfl⟩) (nomark _)) (pss_one (ps_ret (pe_lst (pa_cons (pe_un un_neg pe_int) pa_nil)))) pss_nil)
      (pss_cons (ps_fld (pv 0) (pv 1) rfl) (pss_one (ps_ret (pe_lst (pa_cons pe_int pa_nil))))), ?_⟩
    unfold Ans at k
    rw [step_rule] at k
    refine ⟨_, rfl, _, _, rfl, rfl, _, rfl, ite2 (fun hx => ?_) (fun hx => ?_)⟩
    · have hx : (9 : Int) < (r : Int) := of_decide_eq_true hx
      rw [if_pos (by omega)] at k
      refine ⟨_, rfl, (by show 1 ≤ sizeLine; decide), fun q hq => ?_⟩
      exact k _ q (BoardAt.same ⟨dx, t, h1, h2⟩ (same_upd hq)) upd_same hq (But.of (same_upd hq))
    · have hx : ¬ (9 : Int) < (r : Int) := fun z => hx (decide_eq_true z)
      rw [if_neg (by omega)] at k
      refine ⟨_, rfl, _, rfl, a, C, dx, _, rfl, h1, T.cl, T.nR, bf_few _ _, (by show 1 ≤ sizeLine; decide), fun q hq => ?_⟩
      have nt : t ≠ a := ne_of h2 h1 (by intro z; cases z)
      refine k _ q ⟨dx, t, ?_, ?_⟩ upd_same (fresh_but But.upd hq ⟨_, upd_same⟩) (But.upd.trans (But.of (same_upd hq)))
      · refine same_upd hq _ _ ?_
        rw [upd_same]
        exact congrArg (fun z => some (HO.ins C dx z)) (bf_putR st.rule r t)
      · refine same_upd hq _ _ ?_
        rw [upd_ne nt]
        exact h2
/-! ### answer_shows -/
def spMShows (C : Addr) : Sp := fun vs H Q _ => ∃ (a : Addr) (s : Uw81.St), vs = [.ref a] ∧ BoardAt C H a s ∧ s.board.length ≤ 6 ∧ Ans C a H s .shows Q
theorem scMShows : FnScope ["self"] ["self"] (defScope sMShows) := ⟨rfl, rfl, rfl, by decide +kernel, rfl, by decide +kernel, by decide +kernel⟩
theorem ok_mshows {f C : Addr} {fd : FuncData} (F : Fun K "answer_shows" "Board.answer_shows" sMShows f fd) (T : Txt K mg C) : FnOk P w K mg base CX0 1 f fd ["self"] (spMShows C) := by
  refine F.ok scMShows (fun vs H Q E h => ?_) (fun cdv A outer s H vs Q E hr h => ?_)
  · obtain ⟨a, s, rfl, _⟩ := h
    rfl
  · obtain ⟨a, st, rfl, ⟨dx, t, h1, h2⟩, h6, k⟩ := h
    refine ⟨_, pss_one (ps_ret (pe_op op_cat (pe_lst (pa_cons (pe_fld (pv 0) rfl) (pa_cons (pe_callB call_len_seq (by rfl) T.own.len PySem.boot_len (pa_cons (pe_fld (pv 0) rfl) pa_nil)) pa_nil)))
      (pe_callTy call_list_of (by rfl) T.own.list PyProof.Rows.boot_list (pa_cons (pe_fld (pv 0) rfl) pa_nil)))), ?_⟩
    refine ⟨_, rfl, a, C, dx, _, _, rfl, h1, T.cl, T.nR, bf_rule _ _, _, rfl, a, C, dx, _, _, rfl, h1, T.cl, T.nN, bf_numbers _ _, t, _, rfl, .inr (SqT.of h2), (by show 2 ≤ sizeLine; decide), fun q1 e1 => ?_⟩
    have s1 := same_upd (o := .lst [V.int (st.rule : Int), V.int (((iv st.board).length : Nat) : Int)]) e1
    refine ⟨_, rfl, a, C, dx, _, _, rfl, s1 _ _ h1, T.cl, T.nN, bf_numbers _ _, t, _, rfl, .inr (SqT.of (s1 _ _ h2)), fun q2 e2 => ?_⟩
    have s2 := same_upd (o := .lst (iv st.board)) e2
    refine ⟨q1, q2, _, _, rfl, rfl, s2 _ _ upd_same, upd_same, ?_, fun q e3 => ?_⟩
    · show 2 + _ ≤ sizeLine
      rw [iv_length]
      exact Nat.le_of_lt (small_of (by omega))
    have s3 := same_upd (o := .lst ([V.int (st.rule : Int), V.int (((iv st.board).length : Nat) : Int)] ++ iv st.board)) e3
    refine k _ q (BoardAt.same ⟨dx, t, h1, h2⟩ ((s1.trans s2).trans s3)) ?_ ((s1.trans s2).free e3) (But.of ((s1.trans s2).trans s3))
    rw [upd_same, iv_length]
    rfl
end
end Wb

end
section
set_option Elab.async false
set_option linter.all false
set_option maxRecDepth 100000
namespace Wb
open PySem PySem.Spec PyProof.Rows L2
section
variable {P : Program} {w : World} {K : PySem.W.Frag} {mg : Str → Option Value} {base : Heap}
/-! ### answer_board -/
def spMBoard (K : PySem.W.Frag) (C : Addr) : Sp := fun vs H Q _ => ∃ (a : Addr) (s : Uw81.St) (r : Nat) (p : Addr) (l : List Nat), vs = [.ref a, .int (r : Int), .ref p] ∧ BoardAt C H a s ∧ SqL K H p (iv l) ∧ Ans C a H s (.board r l) Q
theorem scMBoard : FnScope ["self", "rule", "numbers"] ["self", "rule", "numbers"] (defScope sMBoard) := ⟨rfl, rfl, rfl, by decide +kernel, rfl, by decide +kernel, by decide +kernel⟩
theorem step_board (s : Uw81.St) (r : Nat) (l : List Nat) : Uw81.step s (.board r l) = if 9 < r ∨ l.length < 1 ∨ 6 < l.length ∨ (l.any fun x => decide (1000 < x)) = true then (s, [-1]) else (⟨r, Uw81.rising l⟩, [(l.length : Int)]) := rfl
theorem But.seq {K : PySem.W.Frag} {a p : Addr} {H H' : Hp} {xs : List V} (e : But a H H') (na : ∀ xs, ¬ Rd H a (.lst xs)) (h : SqL K H p xs) : SqL K H' p xs := by
  have np : Rd H p (.lst xs) → p ≠ a := fun z q => na xs (by rw [← q]; exact z)
  rcases h with (h | ⟨o, h⟩) | h
  · exact .inl (.inl (e _ _ h (np (.inl h))))
  · exact .inl (.inr ⟨o, e _ _ h (np (.inr ⟨o, h⟩))⟩)
  · exact .inr h
theorem ins_not {H : Hp} {a C dx : Addr} {fs : List (Str × V)} (h : H a = some (.ins C dx fs)) : ∀ xs, ¬ Rd H a (.lst xs) := by
  intro xs z
  rcases z with z | ⟨o, z⟩
  · rw [h] at z
    cases z
  · rw [h] at z
    cases z
theorem ok_mboard {f C rr : Addr} {fd rd : FuncData} (F : Fun K "answer_board" "Board.answer_board" sMBoard f fd) (T : Txt K mg C) (R : Known K mg "rising" sRising ["numbers"] rr rd) : FnOk P w K mg base CX0 2 f fd ["self", "rule", "numbers"] (spMBoard K C) := by
  refine F.ok scMBoard (fun vs H Q E h => ?_) (fun cdv A outer s H vs Q E hr h => ?_)
  · obtain ⟨a, s, r, p, l, rfl, _⟩ := h
    rfl
  · obtain ⟨a, st, r, p, l, rfl, ⟨dx, t, h1, h2⟩, hp, k⟩ := h
    obtain ⟨t1, m1⟩ := T.lastRule
    obtain ⟨t2, m2⟩ := T.mostNumbers
    obtain ⟨t3, m3⟩ := T.greatest
    have GR : FnOk P w K mg base CX0 1 rr rd ["numbers"] (spRising K) := ok_rising R.F T.own
    refine ⟨_, pss_cons (ps_if (PW.pt (pw_or (pt_cmpR op_gt (pv 1) (pe_glob (v := .int 9) rfl m1 ⟨t1, rfl⟩) (nomark _))
          (pw_or (pt_not (pt_chain op_le op_le pe_int (pe_callB call_len_seq (by rfl) T.own.len PySem.boot_len (pa_cons (pv 2) pa_nil)) (pe_glob (v := .int 6) rfl m2 ⟨t2, rfl⟩)))
          (pw_or1 (pt_cmpR op_gt (pe_callB (cr_max rfl) (by rfl) T.own.max PyProof.Rows.boot_max (pa_cons (pv 2) pa_nil)) (pe_glob (v := .int 1000) rfl m3 ⟨t3, rfl⟩) (nomark _))))))
        (pss_one (ps_ret (pe_lst (pa_cons (pe_un un_neg pe_int) pa_nil)))) pss_nil)
      (pss_cons (ps_fld (pv 0) (pv 1) rfl) (pss_cons (ps_fld (pv 0) (pe_call GR hr rfl R.mgf R.F.kp R.bd .nil pass0 (pa_cons (pv 2) pa_nil)) rfl)
      (pss_one (ps_ret (pe_lst (pa_cons (pe_callB call_len_seq (by rfl) T.own.len PySem.boot_len (pa_cons (pv 2) pa_nil)) pa_nil)))))), ?_⟩
    unfold Ans at k
    rw [step_board] at k
    -- the refusal
    have no : (9 < r ∨ l.length < 1 ∨ 6 < l.length ∨ (l.any fun x => decide (1000 < x)) = true) → (1 ≤ sizeLine ∧ ∀ q, H q = Option.none → Q (.ref q) (upd H q (.lst [V.int (-1)]))) := fun hc => by
      rw [if_pos hc] at k
      refine ⟨by decide, fun q hq => ?_⟩
      exact k _ q (BoardAt.same ⟨dx, t, h1, h2⟩ (same_upd hq)) upd_same hq (But.of (same_upd hq))
    refine ⟨_, rfl, _, _, rfl, rfl, _, rfl, ite2 (fun hx => ?_) (fun hx => ?_)⟩
    · have hx : (9 : Int) < (r : Int) := of_decide_eq_true hx
      exact iteT ⟨_, rfl, no (.inl (by omega))⟩
    have h9 : ¬ (9 : Int) < (r : Int) := fun z => hx (decide_eq_true z)
    have llen : (((iv l).length : Nat) : Int) = (l.length : Int) := by rw [iv_length]
    refine ⟨_, rfl, p, _, rfl, .inl hp, _, _, rfl, rfl, _, rfl, ite2 (fun hy => ?_) (fun hy => ?_)⟩
    · have hy : (1 : Int) ≤ (((iv l).length : Nat) : Int) := of_decide_eq_true hy
      rw [llen] at hy
      refine ⟨_, _, rfl, rfl, _, rfl, ite2 (fun hz => ?_) (fun hz => ?_)⟩
      · have hz : ¬ (((iv l).length : Nat) : Int) ≤ 6 := fun z => by
          rw [decide_eq_true z] at hz
          cases hz
        rw [llen] at hz
        exact iteT ⟨_, rfl, no (.inr (.inr (.inl (by omega))))⟩
      · have hz : (((iv l).length : Nat) : Int) ≤ 6 := by
          by_cases z : (((iv l).length : Nat) : Int) ≤ 6
          · exact z
          · rw [decide_eq_false z] at hz
            exact (hz rfl).elim
        rw [llen] at hz
        refine ⟨_, rfl, p, zs l, rfl, hp, by rw [List.length_map]; omega, fun m hm hmax => ⟨_, _, rfl, rfl, _, rfl, ite2 (fun hw => ?_) (fun hw => ?_)⟩⟩
        · have hw : (1000 : Int) < m := of_decide_eq_true hw
          obtain ⟨x, hx, rfl⟩ := List.mem_map.mp hm
          exact ⟨_, rfl, no (.inr (.inr (.inr (List.any_eq_true.mpr ⟨x, hx, decide_eq_true (by omega)⟩))))⟩
        · have hw : ¬ (1000 : Int) < m := fun z => hw (decide_eq_true z)
          have hc : ¬ (9 < r ∨ l.length < 1 ∨ 6 < l.length ∨ (l.any fun x => decide (1000 < x)) = true) := by
            rintro (z | z | z | z)
            · omega
            · omega
            · omega
            · obtain ⟨x, hx, hx2⟩ := List.any_eq_true.mp z
              have := hmax (x : Int) (List.mem_map.mpr ⟨x, hx, rfl⟩)
              have := of_decide_eq_true hx2
              omega
          rw [if_neg hc] at k
          -- self.rule = rule
          refine ⟨_, rfl, _, rfl, a, C, dx, _, rfl, h1, T.cl, T.nR, bf_few _ _, ?_⟩
          have b1 : But a H (upd H a (.ins C dx (putF "rule" (.int (r : Int)) (bf st.rule t)))) := But.upd
          have nl := ins_not h1
          -- self.numbers = rising(numbers)
          refine ⟨_, rfl, p, l, rfl, .inl (b1.seq nl hp), fun q1 H1 e1 s1 => ?_⟩
          refine ⟨_, rfl, a, C, dx, _, rfl, s1 _ _ upd_same, T.cl, T.nN, (by rw [bf_putR]; exact bf_few _ _), ?_⟩
          have b2 := b1.trans (But.of s1)
          have b3 := b2.trans (But.upd (a := a) (H := H1) (o := .ins C dx (putF "numbers" (.ref q1) (putF "rule" (.int (r : Int)) (bf st.rule t)))))
          -- return [len(numbers)]
          refine ⟨_, rfl, p, _, rfl, .inl (b3.seq nl hp), (by show 1 ≤ sizeLine; decide), fun q hq => ?_⟩
          have n1 : q1 ≠ a := ne_of e1 (s1 _ _ upd_same) (by intro z; cases z)
          refine k _ q ⟨dx, q1, ?_, ?_⟩ ?_ (fresh_but b3 hq ⟨_, upd_same⟩) (b3.trans (But.of (same_upd hq)))
          · refine same_upd hq _ _ ?_
            rw [upd_same, bf_putR, bf_putN]
          · refine same_upd hq _ _ ?_
            rw [upd_ne n1]
            exact e1
          · rw [upd_same, llen]
            rfl
    · have hy : ¬ (1 : Int) ≤ (((iv l).length : Nat) : Int) := fun z => hy (decide_eq_true z)
      rw [llen] at hy
      exact ⟨_, rfl, iteT (iteT ⟨_, rfl, no (.inr (.inl (by omega)))⟩)⟩
/-! ### answer_wipe -/
def spMWipe (C : Addr) : Sp := fun vs H Q _ => ∃ (a : Addr) (s : Uw81.St) (i j : Nat), vs = [.ref a, .int (i : Int), .int (j : Int)] ∧ BoardAt C H a s ∧ s.rule ≤ 9 ∧ Fit s.board ∧ Ans C a H s (.wipe i j) Q
theorem scMWipe : FnScope ["self", "i", "j", "written"] ["self", "i", "j"] (defScope sMWipe) := ⟨rfl, rfl, rfl, by decide +kernel, rfl, by decide +kernel, by decide +kernel⟩
theorem step_wipe (s : Uw81.St) (i j : Nat) : Uw81.step s (.wipe i j) = if s.board.length ≤ i ∨ s.board.length ≤ j then (s, [-2]) else if j ≤ i then (s, [-1]) else
    (⟨s.rule, Uw81.wiped s.rule s.board (i, j)⟩, ((Uw81.written s.rule (s.board.getD i 0) (s.board.getD j 0) : Nat) : Int) :: zs (Uw81.wiped s.rule s.board (i, j))) := rfl
theorem ok_mwipe {f C g l rr ww aa : Addr} {fd gd ld rd wd ad : FuncData} (F : Fun K "answer_wipe" "Board.answer_wipe" sMWipe f fd) (T : Txt K mg C) (A' : Known K mg "after_step" sAfter ["rule", "numbers", "i", "j"] aa ad)
    (R : Known K mg "rising" sRising ["numbers"] rr rd) (W : Known K mg "written_for" sWritten ["rule", "a", "b"] ww wd)
    (G : Known K mg "greatest_common_divisor" sGcd ["a", "b"] g gd) (L : Known K mg "least_common_multiple" sLcm ["a", "b"] l ld) : FnOk P w K mg base CX0 5 f fd ["self", "i", "j"] (spMWipe C) := by
  refine F.ok scMWipe (fun vs H Q E h => ?_) (fun cdv A outer s H vs Q E hr h => ?_)
  · obtain ⟨a, s, i, j, rfl, _⟩ := h
    rfl
  · obtain ⟨a, st, i, j, rfl, ⟨dx, t, h1, h2⟩, r9, fit, k⟩ := h
    have GA : FnOk P w K mg base CX0 4 aa ad ["rule", "numbers", "i", "j"] (spAfter K) := ok_after A'.F R W G L T.own
    have GW : FnOk P w K mg base CX0 3 ww wd ["rule", "a", "b"] spWritten := ok_written W.F G L T.own
    have hr3 := hr.mono (j := 3) (by decide)
    refine ⟨_, pss_cons (ps_if (pt_cmpR op_ge (pe_callB (call_max2 rfl) (by rfl) T.own.max PyProof.Rows.boot_max (pa_cons (pv 1) (pa_cons (pv 2) pa_nil))) (pe_callB call_len_seq (by rfl) T.own.len PySem.boot_len (pa_cons (pe_fld (pv 0) rfl) pa_nil)) (nomark _))
        (pss_one (ps_ret (pe_lst (pa_cons (pe_un un_neg pe_int) pa_nil)))) pss_nil)
      (pss_cons (ps_if (pt_cmpR op_ge (pv 1) (pv 2) (nomark _)) (pss_one (ps_ret (pe_lst (pa_cons (pe_un un_neg pe_int) pa_nil)))) pss_nil)
      (pss_cons (ps_set (i := 3) scMWipe.nd rfl (Or.inl rfl) (pe_call GW hr3 rfl W.mgf W.F.kp W.bd .nil pass0 (pa_cons (pe_fld (pv 0) rfl) (pa_cons (pe_ix ix_tup (pe_fld (pv 0) rfl) (pv 1) (fun _ _ => rfl)) (pa_cons (pe_ix ix_tup (pe_fld (pv 0) rfl) (pv 2) (fun _ _ => rfl)) pa_nil)))))
      (pss_cons (ps_fld (pv 0) (pe_call GA hr rfl A'.mgf A'.F.kp A'.bd .nil pass0 (pa_cons (pe_fld (pv 0) rfl) (pa_cons (pe_fld (pv 0) rfl) (pa_cons (pv 1) (pa_cons (pv 2) pa_nil))))) rfl)
      (pss_one (ps_ret (pe_op op_cat (pe_lst (pa_cons (pv 3) pa_nil)) (pe_callTy call_list_of (by rfl) T.own.list PyProof.Rows.boot_list (pa_cons (pe_fld (pv 0) rfl) pa_nil)))))))), ?_⟩
    unfold Ans at k
    rw [step_wipe] at k
    have llen : (((iv st.board).length : Nat) : Int) = (st.board.length : Int) := by rw [iv_length]
    have fl : ∀ {H' : Hp}, H' a = some (.ins C dx (bf st.rule t)) → (bf st.rule t).lookup ("numbers" : Str) = some (.ref t) := fun _ => bf_numbers _ _
    refine ⟨_, rfl, _, rfl, _, _, rfl, _, rfl, a, C, dx, _, _, rfl, h1, T.cl, T.nN, bf_numbers _ _, t, _, rfl, .inr (SqT.of h2), _, _, rfl, rfl, _, rfl, ite2 (fun hx => ?_) (fun hx => ?_)⟩
    · have hx : (((iv st.board).length : Nat) : Int) ≤ (if (j : Int) > (i : Int) then (j : Int) else (i : Int)) := of_decide_eq_true hx
      rw [llen] at hx
      have hc : st.board.length ≤ i ∨ st.board.length ≤ j := by
        split at hx <;> omega
      rw [if_pos hc] at k
      refine ⟨_, rfl, (by show 1 ≤ sizeLine; decide), fun q hq => ?_⟩
      exact k _ q (BoardAt.same ⟨dx, t, h1, h2⟩ (same_upd hq)) upd_same hq (But.of (same_upd hq))
    have hx : ¬ (((iv st.board).length : Nat) : Int) ≤ (if (j : Int) > (i : Int) then (j : Int) else (i : Int)) := fun z => hx (decide_eq_true z)
    rw [llen] at hx
    have hc : ¬ (st.board.length ≤ i ∨ st.board.length ≤ j) := by
      split at hx <;> omega
    rw [if_neg hc] at k
    refine ⟨_, rfl, _, rfl, _, _, rfl, rfl, _, rfl, ite2 (fun hy => ?_) (fun hy => ?_)⟩
    · have hy : (j : Int) ≤ (i : Int) := of_decide_eq_true hy
      rw [if_pos (by omega)] at k
      refine ⟨_, rfl, (by show 1 ≤ sizeLine; decide), fun q hq => ?_⟩
      exact k _ q (BoardAt.same ⟨dx, t, h1, h2⟩ (same_upd hq)) upd_same hq (But.of (same_upd hq))
    have hy : ¬ (j : Int) ≤ (i : Int) := fun z => hy (decide_eq_true z)
    rw [if_neg (by omega)] at k
    have hij : i < j := by omega
    have hj : j < st.board.length := by omega
    -- written = written_for(self.rule, self.numbers[i], self.numbers[j])
    refine ⟨_, rfl, a, C, dx, _, _, rfl, h1, T.cl, T.nR, bf_rule _ _, _, rfl, a, C, dx, _, _, rfl, h1, T.cl, T.nN, bf_numbers _ _, _, rfl, t, _, _, _, rfl, rfl, SqT.of h2, atI_nat (iv_at (by omega)),
      _, rfl, a, C, dx, _, _, rfl, h1, T.cl, T.nN, bf_numbers _ _, _, rfl, t, _, _, _, rfl, rfl, SqT.of h2, atI_nat (iv_at hj), st.rule, _, _, rfl, r9, getD_le fit.srt hij hj, fit.num (getD_mem hj), ?_⟩
    -- self.numbers = after_step(self.rule, self.numbers, i, j)
    refine ⟨_, rfl, a, C, dx, _, _, rfl, h1, T.cl, T.nR, bf_rule _ _, _, rfl, a, C, dx, _, _, rfl, h1, T.cl, T.nN, bf_numbers _ _, _, rfl, _, rfl, st.rule, t, st.board, i, j, rfl, SqT.of h2, r9, fit, hij, hj, fun q1 H1 e1 s1 => ?_⟩
    refine ⟨_, rfl, a, C, dx, _, rfl, s1 _ _ h1, T.cl, T.nN, bf_few _ _, ?_⟩
    rw [bf_putN]
    have n1 : q1 ≠ a := ne_of e1 (s1 _ _ h1) (by intro z; cases z)
    have b1 : But a H (upd H1 a (.ins C dx (bf st.rule q1))) := (But.of s1).trans But.upd
    -- return [written] + list(self.numbers)
    refine ⟨_, rfl, (by show 1 ≤ sizeLine; decide), fun q2 e2 => ?_⟩
    have s2 := same_upd (o := .lst [V.int ((Uw81.written st.rule (st.board.getD i 0) (st.board.getD j 0) : Nat) : Int)]) e2
    have g1 : (upd H1 a (.ins C dx (bf st.rule q1))) q1 = some (.tup (iv (Uw81.wiped st.rule st.board (i, j)))) := by
      rw [upd_ne n1]
      exact e1
    refine ⟨_, rfl, a, C, dx, _, _, rfl, s2 _ _ upd_same, T.cl, T.nN, bf_numbers _ _, q1, _, rfl, .inr (SqT.of (s2 _ _ g1)), fun q3 e3 => ?_⟩
    have s3 := same_upd (o := .lst (iv (Uw81.wiped st.rule st.board (i, j)))) e3
    refine ⟨q2, q3, _, _, rfl, rfl, s3 _ _ upd_same, upd_same, ?_, fun q e4 => ?_⟩
    · show 1 + _ ≤ sizeLine
      rw [iv_length, wiped_length hij hj]
      have := fit.most
      exact Nat.le_of_lt (small_of (by omega))
    have s4 := same_upd (o := .lst ([V.int ((Uw81.written st.rule (st.board.getD i 0) (st.board.getD j 0) : Nat) : Int)] ++ iv (Uw81.wiped st.rule st.board (i, j)))) e4
    have s24 := (s2.trans s3).trans s4
    refine k _ q ⟨dx, q1, s24 _ _ upd_same, s24 _ _ g1⟩ ?_ (fresh_but b1 ((s2.trans s3).free e4) ⟨_, upd_same⟩) (b1.trans (But.of s24))
    rw [upd_same]
    rfl
/-! ### answer_write -/
def spMWrite (C : Addr) : Sp := fun vs H Q _ => ∃ (a : Addr) (s : Uw81.St) (x : Nat), vs = [.ref a, .int (x : Int)] ∧ BoardAt C H a s ∧ Fit s.board ∧ Ans C a H s (.write x) Q
theorem scMWrite : FnScope ["self", "x"] ["self", "x"] (defScope sMWrite) := ⟨rfl, rfl, rfl, by decide +kernel, rfl, by decide +kernel, by decide +kernel⟩
theorem step_write (s : Uw81.St) (x : Nat) : Uw81.step s (.write x) = if 1000 < x then (s, [-1]) else if 6 ≤ s.board.length then (s, [-5]) else (⟨s.rule, Uw81.put x s.board⟩, [((s.board.length + 1 : Nat) : Int)]) := rfl
theorem ok_mwrite {f C rr : Addr} {fd rd : FuncData} (F : Fun K "answer_write" "Board.answer_write" sMWrite f fd) (T : Txt K mg C) (R : Known K mg "rising" sRising ["numbers"] rr rd) : FnOk P w K mg base CX0 2 f fd ["self", "x"] (spMWrite C) := by
  refine F.ok scMWrite (fun vs H Q E h => ?_) (fun cdv A outer s H vs Q E hr h => ?_)
  · obtain ⟨a, s, x, rfl, _⟩ := h
    rfl
  · obtain ⟨a, st, x, rfl, ⟨dx, t, h1, h2⟩, fit, k⟩ := h
    obtain ⟨t2, m2⟩ := T.mostNumbers
    obtain ⟨t3, m3⟩ := T.greatest
    have GR : FnOk P w K mg base CX0 1 rr rd ["numbers"] (spRising K) := ok_rising R.F T.own
    refine ⟨_, pss_cons (ps_if (pt_cmpR op_gt (pv 1) (pe_glob (v := .int 1000) rfl m3 ⟨t3, rfl⟩) (nomark _)) (pss_one (ps_ret (pe_lst (pa_cons (pe_un un_neg pe_int) pa_nil)))) pss_nil)
      (pss_cons (ps_if (pt_cmpR op_eq (pe_callB call_len_seq (by rfl) T.own.len PySem.boot_len (pa_cons (pe_fld (pv 0) rfl) pa_nil)) (pe_glob (v := .int 6) rfl m2 ⟨t2, rfl⟩) (nomark _)) (pss_one (ps_ret (pe_lst (pa_cons (pe_un un_neg pe_int) pa_nil)))) pss_nil)
      (pss_cons (ps_fld (pv 0) (pe_call GR hr rfl R.mgf R.F.kp R.bd .nil pass0 (pa_cons (pe_op op_catA (pe_fld (pv 0) rfl) (pe_tup (pa_cons (pv 1) pa_nil))) pa_nil)) rfl)
      (pss_one (ps_ret (pe_lst (pa_cons (pe_callB call_len_seq (by rfl) T.own.len PySem.boot_len (pa_cons (pe_fld (pv 0) rfl) pa_nil)) pa_nil)))))), ?_⟩
    unfold Ans at k
    rw [step_write] at k
    have six := fit.most
    refine ⟨_, rfl, _, _, rfl, rfl, _, rfl, ite2 (fun hx => ?_) (fun hx => ?_)⟩
    · have hx : (1000 : Int) < (x : Int) := of_decide_eq_true hx
      rw [if_pos (by omega)] at k
      refine ⟨_, rfl, (by show 1 ≤ sizeLine; decide), fun q hq => ?_⟩
      exact k _ q (BoardAt.same ⟨dx, t, h1, h2⟩ (same_upd hq)) upd_same hq (But.of (same_upd hq))
    have hx : ¬ (1000 : Int) < (x : Int) := fun z => hx (decide_eq_true z)
    rw [if_neg (by omega)] at k
    refine ⟨_, rfl, a, C, dx, _, _, rfl, h1, T.cl, T.nN, bf_numbers _ _, t, _, rfl, .inr (SqT.of h2), rfl, _, rfl, ite2 (fun hy => ?_) (fun hy => ?_)⟩
    · have hy := eqN (b := 6) hy
      rw [iv_length] at hy
      rw [if_pos (by omega)] at k
      refine ⟨_, rfl, (by show 1 ≤ sizeLine; decide), fun q hq => ?_⟩
      exact k _ q (BoardAt.same ⟨dx, t, h1, h2⟩ (same_upd hq)) upd_same hq (But.of (same_upd hq))
    have hy := neN (b := 6) hy
    rw [iv_length] at hy
    rw [if_neg (by omega)] at k
    -- self.numbers = rising(self.numbers + (x,))
    refine ⟨_, rfl, a, C, dx, _, _, rfl, h1, T.cl, T.nN, bf_numbers _ _, _, rfl, (by show 1 ≤ sizeLine; decide), fun q0 e0 => ?_⟩
    have s0 := same_upd (o := .tup [V.int (x : Int)]) e0
    refine ⟨t, q0, _, iv [x], rfl, rfl, SqT.of (s0 _ _ h2), SqT.of upd_same, ?_, fun q1 H1 e1 s1 => ?_⟩
    · rw [← List.length_append, ← iv_append]
      refine iv_line ?_
      rw [List.length_append]
      show _ + 1 ≤ _
      omega
    rw [← iv_append] at e1
    refine ⟨q1, _, rfl, .inr e1, fun q2 H2 e2 s2 => ?_⟩
    have s02 := (s0.trans s1).trans s2
    rw [put_eq fit.srt (List.perm_append_comm)] at e2
    refine ⟨_, rfl, a, C, dx, _, rfl, s02 _ _ h1, T.cl, T.nN, bf_few _ _, ?_⟩
    rw [bf_putN]
    have n1 : q2 ≠ a := ne_of e2 (s02 _ _ h1) (by intro z; cases z)
    have b1 : But a H (upd H2 a (.ins C dx (bf st.rule q2))) := (But.of s02).trans But.upd
    have g1 : (upd H2 a (.ins C dx (bf st.rule q2))) q2 = some (.tup (iv (Uw81.put x st.board))) := by
      rw [upd_ne n1]
      exact e2
    refine ⟨_, rfl, a, C, dx, _, _, rfl, upd_same, T.cl, T.nN, bf_numbers _ _, q2, _, rfl, .inr (SqT.of g1), (by show 1 ≤ sizeLine; decide), fun q e4 => ?_⟩
    refine k _ q ⟨dx, q2, same_upd e4 _ _ upd_same, same_upd e4 _ _ g1⟩ ?_ (fresh_but b1 e4 ⟨_, upd_same⟩) (b1.trans (But.of (same_upd e4)))
    rw [upd_same, iv_length, put_length]
    rfl
end
end Wb

end
section
set_option Elab.async false
set_option linter.all false
set_option maxRecDepth 100000
namespace Wb
open PySem PySem.Spec PyProof.Rows L2
theorem WayTab.lasts {r : Nat} {l : List Nat} {W : List (Nat × Nat)} (T : WayTab r l W) : Uw81.rising (W.map (·.1)) = Uw81.lasts r l := lasts_is T.nd T.mem
theorem WayTab.lasts_few {r : Nat} {l : List Nat} {W : List (Nat × Nat)} (T : WayTab r l W) : (Uw81.lasts r l).length ≤ 2700 := by
  rw [← T.lasts, rising_length, List.length_map]
  exact T.few
/-- the defs that the methods lean on -/
structure Defs (K : PySem.W.Frag) (mg : Str → Option Value) : Prop where
  G : ∃ f fd, Known K mg "greatest_common_divisor" sGcd ["a", "b"] f fd
  L : ∃ f fd, Known K mg "least_common_multiple" sLcm ["a", "b"] f fd
  W : ∃ f fd, Known K mg "written_for" sWritten ["rule", "a", "b"] f fd
  R : ∃ f fd, Known K mg "rising" sRising ["numbers"] f fd
  S : ∃ f fd, Known K mg "steps_in_order" sSteps ["size"] f fd
  A : ∃ f fd, Known K mg "after_step" sAfter ["rule", "numbers", "i", "j"] f fd
  O : ∃ f fd, Known K mg "boards_a_step_on" sOn ["rule", "boards"] f fd
  B : ∃ f fd, Known K mg "ways_by_last" sWbl ["rule", "numbers"] f fd
  Y : ∃ f fd, Known K mg "ways_all_together" sAll ["size"] f fd
  V : ∃ f fd, Known K mg "last_by_way" sBy ["rule", "numbers", "k"] f fd
  Z : ∃ f fd, Known K mg "first_step_to" sFs ["rule", "numbers", "last"] f fd
  X : ∃ f fd, Known K mg "first_way_to" sFw ["rule", "numbers", "last"] f fd
section
variable {P : Program} {w : World} {K : PySem.W.Frag} {mg : Str → Option Value} {base : Heap}
theorem Defs.wbl (D : Defs K mg) (T : Own mg) : ∃ f fd, Known K mg "ways_by_last" sWbl ["rule", "numbers"] f fd ∧ FnOk P w K mg base CX0 6 f fd ["rule", "numbers"] spWbl := by
  obtain ⟨_, _, G⟩ := D.G
  obtain ⟨_, _, L⟩ := D.L
  obtain ⟨_, _, W⟩ := D.W
  obtain ⟨_, _, R⟩ := D.R
  obtain ⟨_, _, S⟩ := D.S
  obtain ⟨_, _, A⟩ := D.A
  obtain ⟨_, _, O⟩ := D.O
  obtain ⟨f, fd, B⟩ := D.B
  exact ⟨f, fd, B, ok_wbl B.F O S A R W G L T⟩
theorem Defs.all (D : Defs K mg) (T : Own mg) : ∃ f fd, Known K mg "ways_all_together" sAll ["size"] f fd ∧ FnOk P w K mg base CX0 2 f fd ["size"] spAll := by
  obtain ⟨_, _, S⟩ := D.S
  obtain ⟨f, fd, Y⟩ := D.Y
  exact ⟨f, fd, Y, ok_all Y.F S T⟩
theorem Defs.byWay (D : Defs K mg) (T : Own mg) : ∃ f fd, Known K mg "last_by_way" sBy ["rule", "numbers", "k"] f fd ∧ FnOk P w K mg base CX0 5 f fd ["rule", "numbers", "k"] spBy := by
  obtain ⟨_, _, G⟩ := D.G
  obtain ⟨_, _, L⟩ := D.L
  obtain ⟨_, _, W⟩ := D.W
  obtain ⟨_, _, R⟩ := D.R
  obtain ⟨_, _, S⟩ := D.S
  obtain ⟨_, _, A⟩ := D.A
  obtain ⟨_, _, Y⟩ := D.Y
  obtain ⟨f, fd, V⟩ := D.V
  exact ⟨f, fd, V, ok_by V.F Y S A R W G L T⟩
theorem Defs.first (D : Defs K mg) (T : Own mg) : ∃ f fd, Known K mg "first_way_to" sFw ["rule", "numbers", "last"] f fd ∧ FnOk P w K mg base CX0 8 f fd ["rule", "numbers", "last"] spFw := by
  obtain ⟨_, _, G⟩ := D.G
  obtain ⟨_, _, L⟩ := D.L
  obtain ⟨_, _, W⟩ := D.W
  obtain ⟨_, _, R⟩ := D.R
  obtain ⟨_, _, S⟩ := D.S
  obtain ⟨_, _, A⟩ := D.A
  obtain ⟨_, _, O⟩ := D.O
  obtain ⟨_, _, B⟩ := D.B
  obtain ⟨_, _, Z⟩ := D.Z
  obtain ⟨f, fd, X⟩ := D.X
  exact ⟨f, fd, X, ok_fw X.F Z B O S A R W G L T⟩
/-! ### answer_lasts -/
def spMLasts (C : Addr) : Sp := fun vs H Q _ => ∃ (a : Addr) (s : Uw81.St), vs = [.ref a] ∧ BoardAt C H a s ∧ s.rule ≤ 9 ∧ Fit s.board ∧ Ans C a H s .lasts Q
theorem scMLasts : FnScope ["self", "lasts"] ["self"] (defScope sMLasts) := ⟨rfl, rfl, rfl, by decide +kernel, rfl, by decide +kernel, by decide +kernel⟩
theorem ok_mlasts {f C : Addr} {fd : FuncData} (F : Fun K "answer_lasts" "Board.answer_lasts" sMLasts f fd) (T : Txt K mg C) (D : Defs K mg) : FnOk P w K mg base CX0 7 f fd ["self"] (spMLasts C) := by
  refine F.ok scMLasts (fun vs H Q E h => ?_) (fun cdv A outer s H vs Q E hr h => ?_)
  · obtain ⟨a, s, rfl, _⟩ := h
    rfl
  · obtain ⟨a, st, rfl, ⟨dx, t, h1, h2⟩, r9, fit, k⟩ := h
    obtain ⟨bf', bd, B, GB⟩ := D.wbl (P := P) (w := w) (base := base) T.own
    refine ⟨_, pss_cons (ps_set (i := 1) scMLasts.nd rfl (Or.inl rfl) (pe_callB (cr_sortedD rfl) (by rfl) T.own.sorted PyProof.Rows.boot_sorted (pa_cons (pe_call GB hr rfl B.mgf B.F.kp B.bd .nil pass0 (pa_cons (pe_fld (pv 0) rfl) (pa_cons (pe_fld (pv 0) rfl) pa_nil))) pa_nil)))
      (pss_one (ps_ret (pe_op op_cat (pe_lst (pa_cons (pe_callB call_len_seq (by rfl) T.own.len PySem.boot_len (pa_cons (pv 1) pa_nil)) pa_nil)) (pv 1)))), ?_⟩
    refine ⟨_, rfl, a, C, dx, _, _, rfl, h1, T.cl, T.nR, bf_rule _ _, _, rfl, a, C, dx, _, _, rfl, h1, T.cl, T.nN, bf_numbers _ _, st.rule, t, st.board, rfl, h2, r9, fit, fun q0 W H0 e0 WT s0 n0 => ?_⟩
    have few := WT.lasts_few
    refine ⟨q0, _, zs (W.map (·.1)), rfl, e0, wd_keys W, fun ns' q1 hp ho hq1 => ?_⟩
    have e := sorted_is hp ho
    subst e
    rw [WT.lasts]
    have s1 := same_upd (o := .lst (iv (Uw81.lasts st.rule st.board))) hq1
    refine ⟨_, rfl, q1, _, rfl, .inl (SqL.of upd_same), (by show 1 ≤ sizeLine; decide), fun q2 e2 => ?_⟩
    have s2 := same_upd (o := .lst [V.int (((iv (Uw81.lasts st.rule st.board)).length : Nat) : Int)]) e2
    refine ⟨_, rfl, q2, q1, _, _, rfl, rfl, upd_same, s2 _ _ upd_same, ?_, fun q e3 => ?_⟩
    · show 1 + _ ≤ sizeLine
      rw [iv_length]
      exact Nat.le_of_lt (small_of (by omega))
    have s3 := same_upd (o := .lst ([V.int (((iv (Uw81.lasts st.rule st.board)).length : Nat) : Int)] ++ iv (Uw81.lasts st.rule st.board))) e3
    have s02 := (s0.trans s1).trans s2
    refine k _ q (BoardAt.same ⟨dx, t, h1, h2⟩ (s02.trans s3)) ?_ (s02.free e3) (But.of (s02.trans s3))
    rw [upd_same, iv_length]
    rfl
/-! ### answer_ways -/
def spMWays (C : Addr) : Sp := fun vs H Q _ => ∃ (a : Addr) (s : Uw81.St) (x : Nat), vs = [.ref a, .int (x : Int)] ∧ BoardAt C H a s ∧ s.rule ≤ 9 ∧ Fit s.board ∧ Ans C a H s (.ways x) Q
theorem scMWays : FnScope ["self", "x", "found"] ["self", "x"] (defScope sMWays) := ⟨rfl, rfl, rfl, by decide +kernel, rfl, by decide +kernel, by decide +kernel⟩
theorem WayTab.val {r : Nat} {l : List Nat} {W : List (Nat × Nat)} (T : WayTab r l W) (x : Nat) : (valV (wd W) (Sum.inl (x : Int))).getD (.int 0) = .int ((oft r x l : Nat) : Int) := by
  by_cases h : x ∈ W.map (·.1)
  · obtain ⟨⟨y, c⟩, hy, e⟩ := List.mem_map.mp h
    have e : y = x := e
    subst e
    rw [wd_some T.nd hy, ← T.ways _ hy]
    rfl
  · rw [wd_none h, T.get x h]
    rfl
theorem ok_mways {f C : Addr} {fd : FuncData} (F : Fun K "answer_ways" "Board.answer_ways" sMWays f fd) (T : Txt K mg C) (D : Defs K mg) : FnOk P w K mg base CX0 7 f fd ["self", "x"] (spMWays C) := by
  refine F.ok scMWays (fun vs H Q E h => ?_) (fun cdv A outer s H vs Q E hr h => ?_)
  · obtain ⟨a, s, x, rfl, _⟩ := h
    rfl
  · obtain ⟨a, st, x, rfl, ⟨dx, t, h1, h2⟩, r9, fit, k⟩ := h
    obtain ⟨bf', bd, B, GB⟩ := D.wbl (P := P) (w := w) (base := base) T.own
    obtain ⟨yf, yd, Y, GY⟩ := D.all (P := P) (w := w) (base := base) T.own
    have hr2 := hr.mono (j := 2) (by decide)
    have hu := hu_of hr
    refine ⟨_, pss_cons (ps_set (i := 2) scMWays.nd rfl (Or.inl rfl) (pe_call GB hr rfl B.mgf B.F.kp B.bd .nil pass0 (pa_cons (pe_fld (pv 0) rfl) (pa_cons (pe_fld (pv 0) rfl) pa_nil))))
      (pss_one (ps_ret (pe_lst (pa_cons (pe_dget2 hu (pv 2) (pv 1) pe_int ⟨rfl, rfl, rfl, rfl⟩) (pa_cons (pe_call GY hr2 rfl Y.mgf Y.F.kp Y.bd .nil pass0 (pa_cons (pe_callB call_len_seq (by rfl) T.own.len PySem.boot_len (pa_cons (pe_fld (pv 0) rfl) pa_nil)) pa_nil)) pa_nil))))), ?_⟩
    unfold Ans at k
    rw [step_ways] at k
    refine ⟨_, rfl, a, C, dx, _, _, rfl, h1, T.cl, T.nR, bf_rule _ _, _, rfl, a, C, dx, _, _, rfl, h1, T.cl, T.nN, bf_numbers _ _, st.rule, t, st.board, rfl, h2, r9, fit, fun q0 W H0 e0 WT s0 n0 => ?_⟩
    refine ⟨_, rfl, q0, rfl, .inl ⟨_, .inl e0⟩, _, rfl, _, DGet.k (k := Sum.inl (x : Int)) e0, ?_⟩
    rw [WT.val x]
    refine ⟨_, rfl, a, C, dx, _, _, rfl, s0 _ _ h1, T.cl, T.nN, bf_numbers _ _, t, _, rfl, .inr (SqT.of (s0 _ _ h2)), st.board.length, ?_, fit.most, fun H1 s1 => ⟨(by show 2 ≤ sizeLine; decide), fun q e1 => ?_⟩⟩
    · rw [iv_length]
      rfl
    have s01 := s0.trans s1
    have s2 := same_upd (o := .lst [V.int ((oft st.rule x st.board : Nat) : Int), V.int ((wayCount st.board.length : Nat) : Int)]) e1
    exact k _ q (BoardAt.same ⟨dx, t, h1, h2⟩ (s01.trans s2)) upd_same (s01.free e1) (But.of (s01.trans s2))
/-! ### answer_which -/
def spMWhich (C : Addr) : Sp := fun vs H Q _ => ∃ (a : Addr) (s : Uw81.St) (x : Nat), vs = [.ref a, .int (x : Int)] ∧ BoardAt C H a s ∧ s.rule ≤ 9 ∧ Fit s.board ∧ Ans C a H s (.which x) Q
theorem scMWhich : FnScope ["self", "k"] ["self", "k"] (defScope sMWhich) := ⟨rfl, rfl, rfl, by decide +kernel, rfl, by decide +kernel, by decide +kernel⟩
theorem ok_mwhich {f C : Addr} {fd : FuncData} (F : Fun K "answer_which" "Board.answer_which" sMWhich f fd) (T : Txt K mg C) (D : Defs K mg) : FnOk P w K mg base CX0 6 f fd ["self", "k"] (spMWhich C) := by
  refine F.ok scMWhich (fun vs H Q E h => ?_) (fun cdv A outer s H vs Q E hr h => ?_)
  · obtain ⟨a, s, x, rfl, _⟩ := h
    rfl
  · obtain ⟨a, st, x, rfl, ⟨dx, t, h1, h2⟩, r9, fit, k⟩ := h
    obtain ⟨vf, vd, V', GV⟩ := D.byWay (P := P) (w := w) (base := base) T.own
    obtain ⟨yf, yd, Y, GY⟩ := D.all (P := P) (w := w) (base := base) T.own
    have hr2 := hr.mono (j := 2) (by decide)
    refine ⟨_, pss_cons (ps_if (pt_cmpR op_ge (pv 1) (pe_call GY hr2 rfl Y.mgf Y.F.kp Y.bd .nil pass0 (pa_cons (pe_callB call_len_seq (by rfl) T.own.len PySem.boot_len (pa_cons (pe_fld (pv 0) rfl) pa_nil)) pa_nil)) (nomark _))
        (pss_one (ps_ret (pe_lst (pa_cons (pe_un un_neg pe_int) pa_nil)))) pss_nil)
      (pss_one (ps_ret (pe_lst (pa_cons (pe_call GV hr rfl V'.mgf V'.F.kp V'.bd .nil pass0 (pa_cons (pe_fld (pv 0) rfl) (pa_cons (pe_fld (pv 0) rfl) (pa_cons (pv 1) pa_nil)))) pa_nil)))), ?_⟩
    unfold Ans at k
    rw [step_which] at k
    refine ⟨_, rfl, _, rfl, a, C, dx, _, _, rfl, h1, T.cl, T.nN, bf_numbers _ _, t, _, rfl, .inr (SqT.of h2), st.board.length, ?_, fit.most, fun H1 s1 => ⟨_, _, rfl, rfl, _, rfl, ite2 (fun hx => ?_) (fun hx => ?_)⟩⟩
    · rw [iv_length]
      rfl
    · have hx : ((wayCount st.board.length : Nat) : Int) ≤ (x : Int) := of_decide_eq_true hx
      rw [which_none (by omega)] at k
      refine ⟨_, rfl, (by show 1 ≤ sizeLine; decide), fun q hq => ?_⟩
      have s2 := same_upd (o := .lst [V.int (-3)]) hq
      exact k _ q (BoardAt.same ⟨dx, t, h1, h2⟩ (s1.trans s2)) upd_same (s1.free hq) (But.of (s1.trans s2))
    · have hx : ¬ ((wayCount st.board.length : Nat) : Int) ≤ (x : Int) := fun z => hx (decide_eq_true z)
      have hl : x < (Uw81.lastsOf st.rule st.board).length := by
        rw [lastsOf_length st.rule _ st.board rfl]
        omega
      have hy := List.getElem?_eq_getElem hl
      rw [hy] at k
      refine ⟨_, rfl, a, C, dx, _, _, rfl, s1 _ _ h1, T.cl, T.nR, bf_rule _ _, _, rfl, a, C, dx, _, _, rfl, s1 _ _ h1, T.cl, T.nN, bf_numbers _ _, _, rfl, st.rule, t, st.board, x, _, rfl, s1 _ _ h2, r9, fit, hy, fun H2 s2 => ⟨(by show 1 ≤ sizeLine; decide), fun q hq => ?_⟩⟩
      have s12 := s1.trans s2
      have s3 := same_upd (o := .lst [V.int (((Uw81.lastsOf st.rule st.board)[x] : Nat) : Int)]) hq
      exact k _ q (BoardAt.same ⟨dx, t, h1, h2⟩ (s12.trans s3)) upd_same (s12.free hq) (But.of (s12.trans s3))
end
end Wb

end
section
set_option Elab.async false
set_option linter.all false
set_option maxRecDepth 100000
namespace Wb
open PySem PySem.Spec PyProof.Rows L2
theorem lasts_first {r : Nat} {l : List Nat} : ∃ x t, Uw81.lasts r l = x :: t := by
  cases e : Uw81.lasts r l with
  | nil => exact (lasts_ne e).elim
  | cons x t => exact ⟨x, t, rfl⟩
section
variable {P : Program} {w : World} {K : PySem.W.Frag} {mg : Str → Option Value} {base : Heap}
/-! ### answer_sure -/
def spMSure (C : Addr) : Sp := fun vs H Q _ => ∃ (a : Addr) (s : Uw81.St), vs = [.ref a] ∧ BoardAt C H a s ∧ s.rule ≤ 9 ∧ Fit s.board ∧ Ans C a H s .sure Q
theorem scMSure : FnScope ["self", "lasts"] ["self"] (defScope sMSure) := ⟨rfl, rfl, rfl, by decide +kernel, rfl, by decide +kernel, by decide +kernel⟩
theorem ok_msure {f C : Addr} {fd : FuncData} (F : Fun K "answer_sure" "Board.answer_sure" sMSure f fd) (T : Txt K mg C) (D : Defs K mg) : FnOk P w K mg base CX0 7 f fd ["self"] (spMSure C) := by
  refine F.ok scMSure (fun vs H Q E h => ?_) (fun cdv A outer s H vs Q E hr h => ?_)
  · obtain ⟨a, s, rfl, _⟩ := h
    rfl
  · obtain ⟨a, st, rfl, ⟨dx, t, h1, h2⟩, r9, fit, k⟩ := h
    obtain ⟨bf', bd, B, GB⟩ := D.wbl (P := P) (w := w) (base := base) T.own
    refine ⟨_, pss_cons (ps_set (i := 1) scMSure.nd rfl (Or.inl rfl) (pe_callB (cr_sortedD rfl) (by rfl) T.own.sorted PyProof.Rows.boot_sorted (pa_cons (pe_call GB hr rfl B.mgf B.F.kp B.bd .nil pass0 (pa_cons (pe_fld (pv 0) rfl) (pa_cons (pe_fld (pv 0) rfl) pa_nil))) pa_nil)))
      (pss_cons (ps_if (pt_cmpR op_eq (pe_callB call_len_seq (by rfl) T.own.len PySem.boot_len (pa_cons (pv 1) pa_nil)) pe_int (nomark _))
        (pss_one (ps_ret (pe_lst (pa_cons pe_int (pa_cons (pe_ix ix_list (pv 1) pe_int (fun _ _ => rfl)) pa_nil))))) pss_nil)
      (pss_one (ps_ret (pe_lst (pa_cons pe_int (pa_cons (pe_ix ix_list (pv 1) pe_int (fun _ _ => rfl)) (pa_cons (pe_ix ix_list (pv 1) (pe_un un_neg pe_int) (fun _ _ => rfl)) pa_nil))))))), ?_⟩
    unfold Ans at k
    rw [step_sure] at k
    refine ⟨_, rfl, a, C, dx, _, _, rfl, h1, T.cl, T.nR, bf_rule _ _, _, rfl, a, C, dx, _, _, rfl, h1, T.cl, T.nN, bf_numbers _ _, st.rule, t, st.board, rfl, h2, r9, fit, fun q0 W H0 e0 WT s0 n0 => ?_⟩
    refine ⟨q0, _, zs (W.map (·.1)), rfl, e0, wd_keys W, fun ns' q1 hp ho hq1 => ?_⟩
    have e := sorted_is hp ho
    subst e
    rw [WT.lasts]
    obtain ⟨x, tl, hl⟩ := lasts_first (r := st.rule) (l := st.board)
    rw [hl] at k ⊢
    have s1 := s0.trans (same_upd (o := .lst (iv (x :: tl))) hq1)
    have g1 : (upd H0 q1 (.lst (iv (x :: tl)))) q1 = some (.lst (iv (x :: tl))) := upd_same
    refine ⟨_, rfl, q1, _, rfl, .inl (SqL.of g1), rfl, _, rfl, ite2 (fun hx => ?_) (fun hx => ?_)⟩
    · have hx := eqN (b := 1) hx
      rw [iv_length] at hx
      rw [if_pos hx] at k
      refine ⟨_, rfl, q1, _, _, .int (x : Int), rfl, rfl, SqL.of g1, atI_nat (j := 0) rfl, (by show 2 ≤ sizeLine; decide), fun q e2 => ?_⟩
      have s2 := same_upd (o := .lst [V.int 1, V.int (x : Int)]) e2
      exact k _ q (BoardAt.same ⟨dx, t, h1, h2⟩ (s1.trans s2)) upd_same (s1.free e2) (But.of (s1.trans s2))
    · have hx := neN (b := 1) hx
      rw [iv_length] at hx
      rw [if_neg hx] at k
      have hlast : ∃ pre y, x :: tl = pre ++ [y] ∧ y = (x :: tl).getLastD 0 := by
        refine ⟨(x :: tl).dropLast, (x :: tl).getLast (by simp), (List.dropLast_concat_getLast (by simp)).symm, ?_⟩
        rw [List.getLastD_eq_getLast?, List.getLast?_eq_getLast (by simp)]
        rfl
      obtain ⟨pre, y, e2, e3⟩ := hlast
      refine ⟨_, rfl, q1, _, _, .int (x : Int), rfl, rfl, SqL.of g1, atI_nat (j := 0) rfl, _, rfl, _, rfl, q1, _, _, .int (y : Int), rfl, rfl, SqL.of g1, ?_, (by show 3 ≤ sizeLine; decide), fun q e4 => ?_⟩
      · rw [e2, iv_append]
        exact atI_last _ _
      · have s2 := same_upd (o := .lst [V.int 0, V.int (x : Int), V.int (y : Int)]) e4
        refine k _ q (BoardAt.same ⟨dx, t, h1, h2⟩ (s1.trans s2)) ?_ (s1.free e4) (But.of (s1.trans s2))
        rw [upd_same, ← e3]
        rfl
/-! ### answer_how -/
def spMHow (C : Addr) : Sp := fun vs H Q _ => ∃ (a : Addr) (s : Uw81.St) (x : Nat), vs = [.ref a, .int (x : Int)] ∧ BoardAt C H a s ∧ s.rule ≤ 9 ∧ Fit s.board ∧ Ans C a H s (.how x) Q
theorem scMHow : FnScope ["self", "x", "steps", "answer", "step"] ["self", "x"] (defScope sMHow) := ⟨rfl, rfl, rfl, by decide +kernel, rfl, by decide +kernel, by decide +kernel⟩
theorem ok_mhow {f C : Addr} {fd : FuncData} (F : Fun K "answer_how" "Board.answer_how" sMHow f fd) (T : Txt K mg C) (D : Defs K mg) : FnOk P w K mg base CX0 9 f fd ["self", "x"] (spMHow C) := by
  refine F.ok scMHow (fun vs H Q E h => ?_) (fun cdv A outer s H vs Q E hr h => ?_)
  · obtain ⟨a, s, x, rfl, _⟩ := h
    rfl
  · obtain ⟨a, st, x, rfl, ⟨dx, t, h1, h2⟩, r9, fit, k⟩ := h
    obtain ⟨bf', bd, B, GB⟩ := D.wbl (P := P) (w := w) (base := base) T.own
    obtain ⟨xf, xd, X', GX⟩ := D.first (P := P) (w := w) (base := base) T.own
    have hr6 := hr.mono (j := 6) (by decide)
    have hu := hu_of hr
    refine ⟨_, pss_cons (ps_if (pt_cmp (pc_dnotin hu (pv 1) (pe_call GB hr6 rfl B.mgf B.F.kp B.bd .nil pass0 (pa_cons (pe_fld (pv 0) rfl) (pa_cons (pe_fld (pv 0) rfl) pa_nil)))))
        (pss_one (ps_ret (pe_lst (pa_cons (pe_un un_neg pe_int) pa_nil)))) pss_nil)
      (pss_cons (ps_set (i := 2) scMHow.nd rfl (Or.inl rfl) (pe_call GX hr rfl X'.mgf X'.F.kp X'.bd .nil pass0 (pa_cons (pe_fld (pv 0) rfl) (pa_cons (pe_fld (pv 0) rfl) (pa_cons (pv 1) pa_nil)))))
      (pss_cons (ps_set (i := 3) scMHow.nd rfl (Or.inl rfl) (pe_lst (pa_cons (pe_callB call_len_seq (by rfl) T.own.len PySem.boot_len (pa_cons (pv 2) pa_nil)) pa_nil)))
      (pss_cons (ps_for PassesOwn.never rfl (pi_list (pv 2)) (pg_name (i := 4) scMHow.nd rfl (Or.inl rfl))
        (pss_one (ps_expr (pe_bm PySem.F.plainAttrs_list PySem.F.slot_list_extend PySem.F.type_list_extend mt_extendT (pv 3) (pa_cons (pv 4) pa_nil)))))
      (pss_one (ps_ret (pv 3)))))), ?_⟩
    unfold Ans at k
    rw [step_how] at k
    refine ⟨_, rfl, _, rfl, a, C, dx, _, _, rfl, h1, T.cl, T.nR, bf_rule _ _, _, rfl, a, C, dx, _, _, rfl, h1, T.cl, T.nN, bf_numbers _ _, st.rule, t, st.board, rfl, h2, r9, fit, fun q0 W H0 e0 WT s0 n0 => ?_⟩
    by_cases hin : x ∈ W.map (·.1)
    · obtain ⟨⟨x', c'⟩, hc', e⟩ := List.mem_map.mp hin
      have e : x' = x := e
      subst e
      have hm := (WT.mem x').mp hin
      refine ⟨q0, _, rfl, DGet.k (k := Sum.inl (x' : Int)) e0, _, rfl, ?_⟩
      rw [wd_some WT.nd hc']
      refine iteF ?_
      -- steps = first_way_to(self.rule, self.numbers, x)
      refine ⟨_, rfl, a, C, dx, _, _, rfl, s0 _ _ h1, T.cl, T.nR, bf_rule _ _, _, rfl, a, C, dx, _, _, rfl, s0 _ _ h1, T.cl, T.nN, bf_numbers _ _, _, rfl, st.rule, t, st.board, x', rfl, s0 _ _ h2, r9, fit, hm, fun q1 as way H1 e1 hS hw w5 s1 n1 => ?_⟩
      rw [hw] at k
      have al : as.length = way.length := Paired.length hS
      -- answer = [len(steps)]
      refine ⟨_, rfl, q1, _, rfl, .inl (SqL.of e1), (by show 1 ≤ sizeLine; decide), fun d hd => ?_⟩
      have s2 := same_upd (o := .lst [V.int (((as.map V.ref).length : Nat) : Int)]) hd
      have s01 := s0.trans s1
      -- for step in steps
      have hlen : ∀ m : List (Nat × Nat), (howList m).length = 2 * m.length := fun m => by
        unfold howList
        rw [length_flat (m := 2) fun x _ => rfl]
        omega
      refine ⟨_, rfl, q1, rfl, ⟨_, SqL.of (s2 _ _ e1)⟩, for_list (K := K) (a := q1) (xs := as.map V.ref) (fun i σ H' => ∃ v4 : Option V, σ = [some (.ref a), some (.int (x' : Int)), some (.ref q1), some (.ref d), v4] ∧
        H' d = some (.lst ((((as.length : Nat) : Int) :: howList (way.take i)).map V.int)) ∧ Same H1 H') ⟨none, rfl, ?_, s2⟩ (fun i σ H' _ ⟨_, _, _, z⟩ => SqL.of (z _ _ e1)) ?_ ?_⟩
      · rw [upd_same, List.length_map]
        rfl
      · rintro i y σ H2 hi ⟨v4, rfl, g1, g2⟩
        obtain ⟨c, hc, rfl⟩ := refs_at hi
        obtain ⟨sp, hsi, hcS⟩ := st_of hS hc
        refine ⟨_, rfl, .inl ⟨rfl, _, SqL.of g1⟩, _, rfl, d, c, _, _, rfl, rfl, g1, SqT.of (g2 _ _ hcS), ?_, ?_⟩
        · rw [List.length_map, List.length_cons, hlen, List.length_take]
          show _ + 2 ≤ sizeLine
          exact Nat.le_of_lt (small_of (by omega))
        · refine ⟨_, rfl, ?_, fun z o e => ?_⟩
          · rw [upd_same, take_succ_at hsi]
            unfold howList
            rw [List.flatMap_append, List.map_cons, List.map_cons, List.map_append, List.cons_append]
            rfl
          · rw [upd_ne (ne_of_none e hd)]
            exact g2 _ _ e
      · rintro σ H2 ⟨v4, rfl, g1, g2⟩
        rw [List.length_map, al, List.take_length] at g1
        refine ⟨_, rfl, k H2 d (BoardAt.same ⟨dx, t, h1, h2⟩ (s01.trans g2)) g1 (s01.free hd) (But.of (s01.trans g2))⟩
    · refine ⟨q0, _, rfl, DGet.k (k := Sum.inl (x : Int)) e0, _, rfl, ?_⟩
      rw [wd_none hin]
      rw [first_none fun z => hin ((WT.mem x).mpr z)] at k
      refine iteT ⟨_, rfl, (by show 1 ≤ sizeLine; decide), fun q hq => ?_⟩
      have s2 := same_upd (o := .lst [V.int (-6)]) hq
      exact k _ q (BoardAt.same ⟨dx, t, h1, h2⟩ (s0.trans s2)) upd_same (s0.free hq) (But.of (s0.trans s2))
/-! ### answer_rests -/
def spMRests (C : Addr) : Sp := fun vs H Q _ => ∃ (a : Addr) (s : Uw81.St) (m : Nat), vs = [.ref a, .int (m : Int)] ∧ BoardAt C H a s ∧ s.rule ≤ 9 ∧ Fit s.board ∧ Ans C a H s (.rests m) Q
theorem scMRests : FnScope ["self", "m", "rests", "last"] ["self", "m"] (defScope sMRests) := ⟨rfl, rfl, rfl, by decide +kernel, rfl, by decide +kernel, by decide +kernel⟩
theorem blkRests : BlkOk ["self", "m", "rests", "last"] (defScope sMRests) { kind := PySem.ScopeKind.function, names := [(PySem.Str.ofString ".0", PySem.NameKind.local), (PySem.Str.ofString "last", PySem.NameKind.local), (PySem.Str.ofString "m", PySem.NameKind.free)], isGenerator := false, isCoroutine := false, more := [] } [("last", 3)] :=
  ⟨rfl, by decide +kernel, by decide +kernel, by decide +kernel, by decide +kernel⟩
/-- the numbers of the set, rising, are the rests -/
theorem rests_met {r m : Nat} {l : List Nat} {W : List (Nat × Nat)} (T : WayTab r l W) {ns' : List Int} (hp : ns'.Perm (met (zs (W.map fun p => p.1 % m)))) (ho : ns'.Pairwise (· ≤ ·)) : ns' = zs (Uw81.rests r m l) ∧ (Uw81.rests r m l).length ≤ 2700 := by
  have e : zs ((met (zs (W.map fun p => p.1 % m))).map Int.toNat) = met (zs (W.map fun p => p.1 % m)) := zs_back fun z hz => by
    obtain ⟨y, _, rfl⟩ := List.mem_map.mp ((mem_met _ _).mp hz)
    exact Int.natCast_nonneg _
  have len := met_length (zs (W.map fun p => p.1 % m))
  rw [List.length_map, List.length_map] at len
  have mm := mem_met (zs (W.map fun p => p.1 % m))
  have nd := met_nodup (zs (W.map fun p => p.1 % m))
  generalize met (zs (W.map fun p => p.1 % m)) = M at hp e len mm nd
  generalize hk : M.map Int.toNat = k at e
  subst e
  have kl : k.length ≤ 2700 := by
    rw [List.length_map] at len
    have := T.few
    omega
  have eq : Uw81.rising k = Uw81.rests r m l := by
    refine rests_is ?_ fun x => ?_
    · unfold zs at nd
      unfold List.Nodup at nd ⊢
      rw [List.pairwise_map] at nd
      exact nd.imp fun h q => h (by rw [q])
    · have h1 : x ∈ k ↔ (x : Int) ∈ zs k := by
        unfold zs
        rw [List.mem_map]
        constructor
        · exact fun h => ⟨x, h, rfl⟩
        · rintro ⟨y, hy, e⟩
          have : y = x := Int.ofNat.inj e
          exact this ▸ hy
      rw [h1, mm]
      unfold zs
      rw [List.mem_map]
      constructor
      · rintro ⟨y, hy, e⟩
        have e : y = x := Int.ofNat.inj e
        subst e
        obtain ⟨p, hp, rfl⟩ := List.mem_map.mp hy
        exact ⟨p.1, (T.mem _).mp (List.mem_map.mpr ⟨p, hp, rfl⟩), rfl⟩
      · rintro ⟨y, hy, rfl⟩
        obtain ⟨p, hp, e⟩ := List.mem_map.mp ((T.mem _).mpr hy)
        exact ⟨y % m, List.mem_map.mpr ⟨p, hp, by show p.1 % m = _; rw [e]⟩, rfl⟩
  refine ⟨?_, ?_⟩
  · rw [← eq]
    exact sorted_is hp ho
  · rw [← eq, rising_length]
    exact kl
theorem ok_mrests {f C : Addr} {fd : FuncData} (F : Fun K "answer_rests" "Board.answer_rests" sMRests f fd) (T : Txt K mg C) (D : Defs K mg) : FnOk P w K mg base CX0 7 f fd ["self", "m"] (spMRests C) := by
  refine F.ok scMRests (fun vs H Q E h => ?_) (fun cdv A outer s H vs Q E hr h => ?_)
  · obtain ⟨a, s, m, rfl, _⟩ := h
    rfl
  · obtain ⟨a, st, m, rfl, ⟨dx, t, h1, h2⟩, r9, fit, k⟩ := h
    obtain ⟨bf', bd, B, GB⟩ := D.wbl (P := P) (w := w) (base := base) T.own
    obtain ⟨t1, m1⟩ := T.divisor
    refine ⟨_, pss_cons (ps_if (pt_not (pt_chain op_le op_le pe_int (pv 1) (pe_glob (v := .int 100) rfl m1 ⟨t1, rfl⟩))) (pss_one (ps_ret (pe_lst (pa_cons (pe_un un_neg pe_int) pa_nil)))) pss_nil)
      (pss_cons (ps_set (i := 2) scMRests.nd rfl (Or.inl rfl) (pe_callB (cr_sortedSet rfl) (by rfl) T.own.sorted PyProof.Rows.boot_sorted (pa_cons (pe_callTy (call_setL rfl) (by rfl) T.own.set PyProof.Rows.boot_set (pa_cons
        (pe_lc (own := [("last", 3)]) (te := tOp (rI (fun _ j => 0 < j) fun i j => .int (i % j)) (tVar 3) (tVar 1)) rfl scMRests.nd (pi_keysL (pe_call GB hr rfl B.mgf B.F.kp B.bd .nil pass0 (pa_cons (pe_fld (pv 0) rfl) (pa_cons (pe_fld (pv 0) rfl) pa_nil)))) blkRests
          (fun _ _ _ _ _ => pg_name (i := 3) scMRests.nd rfl (Or.inl rfl)) (fun _ _ _ _ _ => pts_nil) (fun _ _ _ _ _ => pe_op op_mod (pv 3) (pv 1))) pa_nil)) pa_nil)))
      (pss_one (ps_ret (pe_op op_cat (pe_lst (pa_cons (pe_callB call_len_seq (by rfl) T.own.len PySem.boot_len (pa_cons (pv 2) pa_nil)) pa_nil)) (pv 2))))), ?_⟩
    unfold Ans at k
    rw [step_rests] at k
    have no : (m < 1 ∨ 100 < m) → (1 ≤ sizeLine ∧ ∀ q, H q = Option.none → Q (.ref q) (upd H q (.lst [V.int (-1)]))) := fun hc => by
      rw [if_pos hc] at k
      refine ⟨by decide, fun q hq => ?_⟩
      exact k _ q (BoardAt.same ⟨dx, t, h1, h2⟩ (same_upd hq)) upd_same hq (But.of (same_upd hq))
    refine ⟨_, rfl, _, _, rfl, rfl, _, rfl, ite2 (fun hy => ?_) (fun hy => ?_)⟩
    · have hy : (1 : Int) ≤ (m : Int) := of_decide_eq_true hy
      refine ⟨_, _, rfl, rfl, _, rfl, ite2 (fun hz => ?_) (fun hz => ?_)⟩
      · have hz : ¬ (m : Int) ≤ 100 := fun z => by
          rw [decide_eq_true z] at hz
          cases hz
        exact ⟨_, rfl, no (.inr (by omega))⟩
      · have hz : (m : Int) ≤ 100 := by
          by_cases z : (m : Int) ≤ 100
          · exact z
          · rw [decide_eq_false z] at hz
            exact (hz rfl).elim
        rw [if_neg (by omega)] at k
        refine ⟨_, rfl, a, C, dx, _, _, rfl, h1, T.cl, T.nR, bf_rule _ _, _, rfl, a, C, dx, _, _, rfl, h1, T.cl, T.nN, bf_numbers _ _, st.rule, t, st.board, rfl, h2, r9, fit, fun q0 W H0 e0 WT s0 n0 => ?_⟩
        have few := WT.few
        refine ⟨q0, _, rfl, e0, fun ob DD hD => lc_keys (d := q0) (o := ob) (kvs := wd W) (Qd := _) (fun i H' => H' DD = some (.lst (iv ((W.take i).map fun p => p.1 % m))) ∧ Same (upd H0 q0 (.frz ob (.dK (wd W)))) H')
          ⟨upd_same, same_upd hD⟩ (fun i H' _ z => z.2 _ _ upd_same) ?_ ?_⟩
        · rintro i H2 ky v hkv ⟨g1, g2⟩
          have hkv : (W.map fun p => ((Sum.inl (p.1 : Int) : Key), V.int (p.2 : Int)))[i]? = some (ky, v) := hkv
          rw [List.getElem?_map] at hkv
          obtain ⟨⟨x, c⟩, hWi, e⟩ := Option.map_eq_some_iff.mp hkv
          have e : ((Sum.inl (x : Int) : Key), V.int (c : Int)) = (ky, v) := e
          cases e
          have iW : i < W.length := (List.getElem?_eq_some_iff.mp hWi).1
          refine ⟨rfl, ?_⟩
          unfold tYes
          dsimp only
          rw [if_pos rfl]
          refine ⟨_, rfl, _, rfl, _, _, rfl, rfl, (by show (0 : Int) < (m : Int); omega), _, g1, ?_, ?_, ?_⟩
          · rw [iv_length, List.length_map, List.length_take]
            exact small_of (by omega)
          · rw [upd_same, take_succ_at hWi, List.map_append, iv_append]
            show some (HO.lst (_ ++ [V.int ((x : Int) % (m : Int))])) = _
            rw [← Int.natCast_emod]
            rfl
          · intro z o e
            rw [upd_ne (ne_of_none e hD)]
            exact g2 _ _ e
        · rintro H2 ⟨g1, g2⟩
          rw [wd_length, List.take_length] at g1
          have sL : Same H H2 := fun z o e => g2 _ _ (by rw [upd_ne (ne_of_none e n0)]; exact s0 _ _ e)
          refine ⟨DD, zs (W.map fun p => p.1 % m), rfl, SqL.of g1, ?_, fun p0 hp0 => ?_⟩
          · rw [List.length_map, List.length_map]
            show _ < 4096
            omega
          have s3 := same_upd (o := SetO P w p0 (met (zs (W.map fun p => p.1 % m)))) hp0
          refine ⟨p0, _, rfl, upd_same, fun ns' q1 hp ho hq1 => ?_⟩
          obtain ⟨e, rl⟩ := rests_met WT hp ho
          subst e
          have s4 := same_upd (o := .lst (iv (Uw81.rests st.rule m st.board))) hq1
          have s14 := (sL.trans s3).trans s4
          refine ⟨_, rfl, q1, _, rfl, .inl (SqL.of upd_same), (by show 1 ≤ sizeLine; decide), fun q2 e2 => ?_⟩
          have s5 := same_upd (o := .lst [V.int (((iv (Uw81.rests st.rule m st.board)).length : Nat) : Int)]) e2
          refine ⟨_, rfl, q2, q1, _, _, rfl, rfl, upd_same, s5 _ _ upd_same, ?_, fun q e3 => ?_⟩
          · show 1 + _ ≤ sizeLine
            rw [iv_length]
            exact Nat.le_of_lt (small_of (by omega))
          have s6 := same_upd (o := .lst ([V.int (((iv (Uw81.rests st.rule m st.board)).length : Nat) : Int)] ++ iv (Uw81.rests st.rule m st.board))) e3
          have s15 := s14.trans s5
          refine k _ q (BoardAt.same ⟨dx, t, h1, h2⟩ (s15.trans s6)) ?_ (s15.free e3) (But.of (s15.trans s6))
          rw [upd_same, iv_length]
          rfl
    · have hy : ¬ (1 : Int) ≤ (m : Int) := fun z => hy (decide_eq_true z)
      exact ⟨_, rfl, iteT ⟨_, rfl, no (.inl (by omega))⟩⟩
end
end Wb

end
section
set_option Elab.async false
set_option linter.all false
set_option maxRecDepth 100000
namespace Wb
open PySem PySem.Spec PyProof.Rows L2
abbrev sEnd : Stmt := top 29
abbrev sOf : Stmt := top 30
abbrev sAns : Stmt := top 31
/-! ### where a call ends -/
def tag : Uw81.Call → Nat
  | .board _ _ => 0
  | .rule _ => 1
  | .wipe _ _ => 2
  | .shows => 3
  | .write _ => 4
  | .lasts => 5
  | .ways _ => 6
  | .how _ => 7
  | .which _ => 8
  | .sure => 9
  | .rests _ => 10
/-- how many numbers follow it -/
def follow : List Nat := [2, 1, 2, 0, 1, 0, 1, 1, 1, 0, 1]
theorem enc_head (c : Uw81.Call) : ∃ t, enc c = ((tag c : Nat) : Int) :: t := by
  cases c <;> exact ⟨_, rfl⟩
theorem at_append {α : Type} {pre l post : List α} {i : Nat} {x : α} (h : l[i]? = some x) : (pre ++ l ++ post)[pre.length + i]? = some x := by
  have hi : i < l.length := (List.getElem?_eq_some_iff.mp h).1
  rw [List.append_assoc, List.getElem?_append_right (by omega), Nat.add_sub_cancel_left, List.getElem?_append_left hi]
  exact h
theorem enc_len (c : Uw81.Call) (h : tag c ≠ 0) : (enc c).length = 1 + follow.getD (tag c) 0 := by
  cases c <;> first | rfl | exact (h rfl).elim
theorem tag_lt (c : Uw81.Call) : tag c < 11 := by
  cases c <;> exact of_decide_eq_true rfl
section
variable {P : Program} {w : World} {K : PySem.W.Frag} {mg : Str → Option Value} {base : Heap}
/-- the numbers at the top -/
structure Top (K : PySem.W.Frag) (mg : Str → Option Value) : Prop where
  follow : ∃ (f : Addr) (o : Obj) (its : Array Value) (n : Nat), mg "FOLLOWING" = some (.ref f) ∧ K.lookup f = some o ∧ o.cls = .type "tuple" ∧ o.data = .seq its n ∧ its.size ≤ sizeLine ∧ Vals (iv Wb.follow) its.toList
  cBoard : ∃ t, mg "CALL_BOARD" = some (Value.int 0 t)
  cRule : ∃ t, mg "CALL_RULE" = some (Value.int 1 t)
  cWipe : ∃ t, mg "CALL_WIPE" = some (Value.int 2 t)
  cShows : ∃ t, mg "CALL_SHOWS" = some (Value.int 3 t)
  cWrite : ∃ t, mg "CALL_WRITE" = some (Value.int 4 t)
  cLasts : ∃ t, mg "CALL_LASTS" = some (Value.int 5 t)
  cWays : ∃ t, mg "CALL_WAYS" = some (Value.int 6 t)
  cHow : ∃ t, mg "CALL_HOW" = some (Value.int 7 t)
  cWhich : ∃ t, mg "CALL_WHICH" = some (Value.int 8 t)
  cSure : ∃ t, mg "CALL_SURE" = some (Value.int 9 t)
def spEnd (K : PySem.W.Frag) : Sp := fun vs H Q _ => ∃ (p : Addr) (pre post : List Int) (c : Uw81.Call), vs = [.ref p, .int ((pre.length : Nat) : Int)] ∧ SqL K H p ((pre ++ enc c ++ post).map V.int) ∧ Q (.int (((pre ++ enc c).length : Nat) : Int)) H
theorem scEnd : FnScope ["calls", "start", "end"] ["calls", "start"] (defScope sEnd) := ⟨rfl, rfl, rfl, by decide +kernel, rfl, by decide +kernel, by decide +kernel⟩
theorem map_at {l : List Int} {i : Nat} {x : Int} (h : l[i]? = some x) : (l.map V.int)[i]? = some (.int x) := by
  rw [List.getElem?_map, h]
  rfl
theorem ok_end {f : Addr} {fd : FuncData} (F : Fun K "end_of_call" "end_of_call" sEnd f fd) (T : Top K mg) : FnOk P w K mg base CX0 1 f fd ["calls", "start"] (spEnd K) := by
  refine F.ok scEnd (fun vs H Q E h => ?_) (fun cdv A outer s H vs Q E hr h => ?_)
  · obtain ⟨p, pre, post, c, rfl, _⟩ := h
    rfl
  · obtain ⟨p, pre, post, c, rfl, hp, k⟩ := h
    have h6 := tag_lt c
    obtain ⟨ff, fo, fi, fn, f1, f2, f3, f4, f5, f6⟩ := T.follow
    obtain ⟨t0, m0⟩ := T.cBoard
    obtain ⟨tl, ht⟩ := enc_head c
    have hs : SqT K H ff (iv follow) := .inr ⟨fo, fi, fn, f2, f3, f4, f5, f6⟩
    have e0 : (pre ++ enc c ++ post)[pre.length]? = some ((tag c : Nat) : Int) := at_append (i := 0) (by rw [ht]; rfl)
    refine ⟨_, pss_cons (ps_set (i := 2) scEnd.nd rfl (Or.inl rfl) (pe_op op_add (pe_op op_add (pv 1) pe_int) (pe_ix ix_tup (pe_glob (v := .ref ff) rfl f1 rfl) (pe_ix ix_list (pv 0) (pv 1) (fun _ _ => rfl)) (fun _ _ => rfl))))
      (pss_cons (ps_if (pt_cmpR op_eq (pe_ix ix_list (pv 0) (pv 1) (fun _ _ => rfl)) (pe_glob (v := .int 0) rfl m0 ⟨t0, rfl⟩) (nomark _))
        (pss_one (ps_ret (pe_op op_add (pv 2) (pe_ix ix_list (pv 0) (pe_op op_sub (pv 2) pe_int) (fun _ _ => rfl))))) pss_nil)
      (pss_one (ps_ret (pv 2)))), ?_⟩
    refine ⟨_, rfl, _, _, rfl, rfl, _, rfl, _, rfl, p, _, _, _, rfl, rfl, hp, atI_nat (map_at e0), ff, _, _, _, rfl, rfl, hs, atI_nat (iv_at h6), _, _, rfl, rfl, ?_⟩
    refine ⟨_, rfl, _, rfl, p, _, _, _, rfl, rfl, hp, atI_nat (map_at e0), rfl, _, rfl, ite2 (fun hx => ?_) (fun hx => ?_)⟩
    · have hx := eqN (b := 0) hx
      cases c with
      | board r l =>
        have e2 : (pre ++ enc (.board r l) ++ post)[pre.length + 2]? = some ((l.length : Nat) : Int) := at_append (i := 2) rfl
        have ez : ((pre.length : Nat) : Int) + 1 + ((follow.getD (tag (.board r l)) 0 : Nat) : Int) - 1 = ((pre.length + 2 : Nat) : Int) := by
          show ((pre.length : Nat) : Int) + 1 + 2 - 1 = _
          omega
        refine ⟨_, rfl, _, rfl, _, rfl, _, _, rfl, rfl, p, _, _, .int ((l.length : Nat) : Int), rfl, rfl, hp, ?_, _, _, rfl, rfl, ?_⟩
        · rw [ez]
          exact atI_nat (map_at e2)
        · refine qi k ?_
          show ((pre.length : Nat) : Int) + 1 + 2 + ((l.length : Nat) : Int) = _
          rw [List.length_append]
          show _ = (((pre.length + ((zs l).length + 1 + 1 + 1)) : Nat) : Int)
          rw [List.length_map]
          omega
      | _ => exact absurd hx (by intro z; cases z)
    · have hx := neN (b := 0) hx
      refine ⟨_, rfl, qi k ?_⟩
      rw [List.length_append, enc_len c hx]
      omega
end
end Wb

end
section
set_option Elab.async false
set_option linter.all false
set_option maxRecDepth 100000
namespace Wb
open PySem PySem.Spec PyProof.Rows L2
theorem Stands.fit {k : Nat} {s : Uw81.St} (S : Stands k s) (h : k ≤ 40) : Fit s.board := ⟨S.srt, S.pos, S.most, Nat.le_trans S.wt (pow_up (by omega))⟩
theorem Ans.mono {C a : Addr} {H H1 : Hp} {s : Uw81.St} {c : Uw81.Call} {Q : VK} (k : Ans C a H s c Q) (e : Same H H1) : Ans C a H1 s c Q :=
  fun H' q h1 h2 h3 h4 => k H' q h1 h2 (e.free h3) fun b o hb hn => h4 b o (e b o hb) hn
/-- a method of the class -/
structure KnownM (K : PySem.W.Frag) (C : Addr) (m qual : Str) (st : Stmt) (ps : List Str) (f : Addr) (fd : FuncData) : Prop where
  F : Fun K m qual st f fd
  mt : Meth K C m f
  bd : Binds K fd ps []
section
variable {P : Program} {w : World} {K : PySem.W.Frag} {mg : Str → Option Value} {base : Heap}
/-- the promises of the methods, as answer_of needs them -/
structure Meths (P : Program) (w : World) (K : PySem.W.Frag) (mg : Str → Option Value) (base : Heap) (C : Addr) : Prop where
  board : ∃ f fd, Meth K C "answer_board" f ∧ Binds K fd ["self", "rule", "numbers"] [] ∧ FnOk P w K mg base CX0 9 f fd ["self", "rule", "numbers"] (spMBoard K C)
  rule : ∃ f fd, Meth K C "answer_rule" f ∧ Binds K fd ["self", "rule"] [] ∧ FnOk P w K mg base CX0 9 f fd ["self", "rule"] (spMRule C)
  wipe : ∃ f fd, Meth K C "answer_wipe" f ∧ Binds K fd ["self", "i", "j"] [] ∧ FnOk P w K mg base CX0 9 f fd ["self", "i", "j"] (spMWipe C)
  shows : ∃ f fd, Meth K C "answer_shows" f ∧ Binds K fd ["self"] [] ∧ FnOk P w K mg base CX0 9 f fd ["self"] (spMShows C)
  write : ∃ f fd, Meth K C "answer_write" f ∧ Binds K fd ["self", "x"] [] ∧ FnOk P w K mg base CX0 9 f fd ["self", "x"] (spMWrite C)
  lasts : ∃ f fd, Meth K C "answer_lasts" f ∧ Binds K fd ["self"] [] ∧ FnOk P w K mg base CX0 9 f fd ["self"] (spMLasts C)
  ways : ∃ f fd, Meth K C "answer_ways" f ∧ Binds K fd ["self", "x"] [] ∧ FnOk P w K mg base CX0 9 f fd ["self", "x"] (spMWays C)
  how : ∃ f fd, Meth K C "answer_how" f ∧ Binds K fd ["self", "x"] [] ∧ FnOk P w K mg base CX0 9 f fd ["self", "x"] (spMHow C)
  which : ∃ f fd, Meth K C "answer_which" f ∧ Binds K fd ["self", "k"] [] ∧ FnOk P w K mg base CX0 9 f fd ["self", "k"] (spMWhich C)
  sure : ∃ f fd, Meth K C "answer_sure" f ∧ Binds K fd ["self"] [] ∧ FnOk P w K mg base CX0 9 f fd ["self"] (spMSure C)
  rests : ∃ f fd, Meth K C "answer_rests" f ∧ Binds K fd ["self", "m"] [] ∧ FnOk P w K mg base CX0 9 f fd ["self", "m"] (spMRests C)
/-! ### answer_of -/
def spOf (K : PySem.W.Frag) (C : Addr) : Sp := fun vs H Q _ => ∃ (a q : Addr) (s : Uw81.St) (c : Uw81.Call), vs = [.ref a, .ref q] ∧ BoardAt C H a s ∧ SqL K H q ((enc c).map V.int) ∧ s.rule ≤ 9 ∧ Fit s.board ∧ Ans C a H s c Q
theorem scOf : FnScope ["board", "call"] ["board", "call"] (defScope sOf) := ⟨rfl, rfl, rfl, by decide +kernel, rfl, by decide +kernel, by decide +kernel⟩
theorem cut_three (l : List Nat) (x y z : Int) : cutV ((x :: y :: z :: zs l).map V.int) (some 3) none = iv l := by
  unfold cutV
  have e : HT.sIx ((x :: y :: z :: zs l).map V.int).length 0 (some ((3 : Nat) : Int)) = 3 := by
    rw [HT.sIx_nat, List.length_map, List.length_cons, List.length_cons, List.length_cons]
    omega
  have e2 : HT.sIx ((x :: y :: z :: zs l).map V.int).length 0 (some 3) = 3 := e
  rw [e2, HT.sIx_none]
  show (iv l).take _ = iv l
  rw [List.take_of_length_le]
  simp
theorem ok_of {f C : Addr} {fd : FuncData} (F : Fun K "answer_of" "answer_of" sOf f fd) (T : Txt K mg C) (U : Top K mg) (M : Meths P w K mg base C) : FnOk P w K mg base CX0 10 f fd ["board", "call"] (spOf K C) := by
  refine F.ok scOf (fun vs H Q E h => ?_) (fun cdv A outer s H vs Q E hr h => ?_)
  · obtain ⟨a, q, s, c, rfl, _⟩ := h
    rfl
  · obtain ⟨a, q, st, c, rfl, B, hq, r9, fit, k⟩ := h
    obtain ⟨dx, t, h1, h2⟩ := id B
    obtain ⟨t0, m0⟩ := U.cBoard
    obtain ⟨t1, m1⟩ := U.cRule
    obtain ⟨t2, m2⟩ := U.cWipe
    obtain ⟨t3, m3⟩ := U.cShows
    obtain ⟨t4, m4⟩ := U.cWrite
    obtain ⟨t5, m5⟩ := U.cLasts
    obtain ⟨t6, m6⟩ := U.cWays
    obtain ⟨t7, m7⟩ := U.cHow
    obtain ⟨t8, m8⟩ := U.cWhich
    obtain ⟨t9, m9⟩ := U.cSure
    obtain ⟨f0, d0, a0, b0, o0⟩ := M.board
    obtain ⟨f1, d1, a1, b1, o1⟩ := M.rule
    obtain ⟨f2, d2, a2, b2, o2⟩ := M.wipe
    obtain ⟨f3, d3, a3, b3, o3⟩ := M.shows
    obtain ⟨f4, d4, a4, b4, o4⟩ := M.write
    obtain ⟨f5, d5, a5, b5, o5⟩ := M.lasts
    obtain ⟨f6, d6, a6, b6, o6⟩ := M.ways
    obtain ⟨f7, d7, a7, b7, o7⟩ := M.how
    obtain ⟨f8, d8, a8, b8, o8⟩ := M.which
    obtain ⟨f9, d9, a9, b9, o9⟩ := M.sure
    obtain ⟨f10, d10, a10, b10, o10⟩ := M.rests
    refine ⟨_, pss_cons (ps_if (pt_cmpR op_eq (pe_ix ix_list (pv 1) pe_int (fun _ _ => rfl)) (pe_glob (v := .int 0) rfl m0 ⟨t0, rfl⟩) (nomark _))
        (pss_one (ps_ret (pe_meth (pv 0) T.cl a0 o0 hr b0 .nil pass0 (pa_cons (pe_ix ix_list (pv 1) pe_int (fun _ _ => rfl)) (pa_cons (pe_slice sl_list (pv 1) (po_some pe_int) po_none) pa_nil))))) pss_nil)
      (pss_cons (ps_if (pt_cmpR op_eq (pe_ix ix_list (pv 1) pe_int (fun _ _ => rfl)) (pe_glob (v := .int 1) rfl m1 ⟨t1, rfl⟩) (nomark _))
        (pss_one (ps_ret (pe_meth (pv 0) T.cl a1 o1 hr b1 .nil pass0 (pa_cons (pe_ix ix_list (pv 1) pe_int (fun _ _ => rfl)) pa_nil)))) pss_nil)
      (pss_cons (ps_if (pt_cmpR op_eq (pe_ix ix_list (pv 1) pe_int (fun _ _ => rfl)) (pe_glob (v := .int 2) rfl m2 ⟨t2, rfl⟩) (nomark _))
        (pss_one (ps_ret (pe_meth (pv 0) T.cl a2 o2 hr b2 .nil pass0 (pa_cons (pe_ix ix_list (pv 1) pe_int (fun _ _ => rfl)) (pa_cons (pe_ix ix_list (pv 1) pe_int (fun _ _ => rfl)) pa_nil))))) pss_nil)
      (pss_cons (ps_if (pt_cmpR op_eq (pe_ix ix_list (pv 1) pe_int (fun _ _ => rfl)) (pe_glob (v := .int 3) rfl m3 ⟨t3, rfl⟩) (nomark _))
        (pss_one (ps_ret (pe_meth0 (pv 0) T.cl a3 o3 hr b3 .nil pass0))) pss_nil)
      (pss_cons (ps_if (pt_cmpR op_eq (pe_ix ix_list (pv 1) pe_int (fun _ _ => rfl)) (pe_glob (v := .int 4) rfl m4 ⟨t4, rfl⟩) (nomark _))
        (pss_one (ps_ret (pe_meth (pv 0) T.cl a4 o4 hr b4 .nil pass0 (pa_cons (pe_ix ix_list (pv 1) pe_int (fun _ _ => rfl)) pa_nil)))) pss_nil)
      (pss_cons (ps_if (pt_cmpR op_eq (pe_ix ix_list (pv 1) pe_int (fun _ _ => rfl)) (pe_glob (v := .int 5) rfl m5 ⟨t5, rfl⟩) (nomark _))
        (pss_one (ps_ret (pe_meth0 (pv 0) T.cl a5 o5 hr b5 .nil pass0))) pss_nil)
      (pss_cons (ps_if (pt_cmpR op_eq (pe_ix ix_list (pv 1) pe_int (fun _ _ => rfl)) (pe_glob (v := .int 6) rfl m6 ⟨t6, rfl⟩) (nomark _))
        (pss_one (ps_ret (pe_meth (pv 0) T.cl a6 o6 hr b6 .nil pass0 (pa_cons (pe_ix ix_list (pv 1) pe_int (fun _ _ => rfl)) pa_nil)))) pss_nil)
      (pss_cons (ps_if (pt_cmpR op_eq (pe_ix ix_list (pv 1) pe_int (fun _ _ => rfl)) (pe_glob (v := .int 7) rfl m7 ⟨t7, rfl⟩) (nomark _))
        (pss_one (ps_ret (pe_meth (pv 0) T.cl a7 o7 hr b7 .nil pass0 (pa_cons (pe_ix ix_list (pv 1) pe_int (fun _ _ => rfl)) pa_nil)))) pss_nil)
      (pss_cons (ps_if (pt_cmpR op_eq (pe_ix ix_list (pv 1) pe_int (fun _ _ => rfl)) (pe_glob (v := .int 8) rfl m8 ⟨t8, rfl⟩) (nomark _))
        (pss_one (ps_ret (pe_meth (pv 0) T.cl a8 o8 hr b8 .nil pass0 (pa_cons (pe_ix ix_list (pv 1) pe_int (fun _ _ => rfl)) pa_nil)))) pss_nil)
      (pss_cons (ps_if (pt_cmpR op_eq (pe_ix ix_list (pv 1) pe_int (fun _ _ => rfl)) (pe_glob (v := .int 9) rfl m9 ⟨t9, rfl⟩) (nomark _))
        (pss_one (ps_ret (pe_meth0 (pv 0) T.cl a9 o9 hr b9 .nil pass0))) pss_nil)
      (pss_one (ps_ret (pe_meth (pv 0) T.cl a10 o10 hr b10 .nil pass0 (pa_cons (pe_ix ix_list (pv 1) pe_int (fun _ _ => rfl)) pa_nil))))))))))))), ?_⟩
    obtain ⟨tl, ht⟩ := enc_head c
    have e0 : (enc c)[0]? = some ((tag c : Nat) : Int) := by rw [ht]; rfl
    have no : ∀ {m : Str}, ¬ m = "rule" → ¬ m = "numbers" → (bf st.rule t).lookup m = Option.none := fun x y => bf_no st.rule t x y
    have g0 := atI_nat (j := 0) (map_at e0)
    refine ⟨_, rfl, q, _, _, _, rfl, rfl, hq, g0, rfl, _, rfl, ite2 (fun hx => ?_) (fun n0 => ?_)⟩
    · have hx := eqN (b := 0) hx
      cases c with
      | board r l =>
        refine ⟨_, rfl, a, dx, _, rfl, h1, no (by decide +kernel) (by decide +kernel), _, rfl, q, _, _, _, rfl, rfl, hq, atI_nat (j := 1) (map_at (x := (r : Int)) rfl), _, rfl, _, rfl, q, _, rfl, hq, fun p hp => ?_⟩
        have s1 := same_upd (o := .lst (cutV ((enc (.board r l)).map V.int) (some 3) none)) hp
        refine ⟨a, st, r, p, l, rfl, B.same s1, ?_, k.mono s1⟩
        rw [show cutV ((enc (.board r l)).map V.int) (some 3) none = iv l from cut_three l _ _ _]
        exact SqL.of upd_same
      | _ => exact absurd hx (by intro z; cases z)
    refine ⟨_, rfl, q, _, _, _, rfl, rfl, hq, g0, rfl, _, rfl, ite2 (fun hx => ?_) (fun n1 => ?_)⟩
    · have hx := eqN (b := 1) hx
      cases c with
      | rule r => exact ⟨_, rfl, a, dx, _, rfl, h1, no (by decide +kernel) (by decide +kernel), _, rfl, q, _, _, _, rfl, rfl, hq, atI_nat (j := 1) (map_at (x := (r : Int)) rfl), a, st, r, rfl, B, k⟩
      | _ => exact absurd hx (by intro z; cases z)
    refine ⟨_, rfl, q, _, _, _, rfl, rfl, hq, g0, rfl, _, rfl, ite2 (fun hx => ?_) (fun n2 => ?_)⟩
    · have hx := eqN (b := 2) hx
      cases c with
      | wipe i j => exact ⟨_, rfl, a, dx, _, rfl, h1, no (by decide +kernel) (by decide +kernel), _, rfl, q, _, _, _, rfl, rfl, hq, atI_nat (j := 1) (map_at (x := (i : Int)) rfl), _, rfl, q, _, _, _, rfl, rfl, hq, atI_nat (j := 2) (map_at (x := (j : Int)) rfl), a, st, i, j, rfl, B, r9, fit, k⟩
      | _ => exact absurd hx (by intro z; cases z)
    refine ⟨_, rfl, q, _, _, _, rfl, rfl, hq, g0, rfl, _, rfl, ite2 (fun hx => ?_) (fun n3 => ?_)⟩
    · have hx := eqN (b := 3) hx
      cases c with
      | shows => exact ⟨_, rfl, a, dx, _, rfl, h1, no (by decide +kernel) (by decide +kernel), a, st, rfl, B, fit.most, k⟩
      | _ => exact absurd hx (by intro z; cases z)
    refine ⟨_, rfl, q, _, _, _, rfl, rfl, hq, g0, rfl, _, rfl, ite2 (fun hx => ?_) (fun n4 => ?_)⟩
    · have hx := eqN (b := 4) hx
      cases c with
      | write x => exact ⟨_, rfl, a, dx, _, rfl, h1, no (by decide +kernel) (by decide +kernel), _, rfl, q, _, _, _, rfl, rfl, hq, atI_nat (j := 1) (map_at (x := (x : Int)) rfl), a, st, x, rfl, B, fit, k⟩
      | _ => exact absurd hx (by intro z; cases z)
    refine ⟨_, rfl, q, _, _, _, rfl, rfl, hq, g0, rfl, _, rfl, ite2 (fun hx => ?_) (fun n5 => ?_)⟩
    · have hx := eqN (b := 5) hx
      cases c with
      | lasts => exact ⟨_, rfl, a, dx, _, rfl, h1, no (by decide +kernel) (by decide +kernel), a, st, rfl, B, r9, fit, k⟩
      | _ => exact absurd hx (by intro z; cases z)
    refine ⟨_, rfl, q, _, _, _, rfl, rfl, hq, g0, rfl, _, rfl, ite2 (fun hx => ?_) (fun n6 => ?_)⟩
    · have hx := eqN (b := 6) hx
      cases c with
      | ways x => exact ⟨_, rfl, a, dx, _, rfl, h1, no (by decide +kernel) (by decide +kernel), _, rfl, q, _, _, _, rfl, rfl, hq, atI_nat (j := 1) (map_at (x := (x : Int)) rfl), a, st, x, rfl, B, r9, fit, k⟩
      | _ => exact absurd hx (by intro z; cases z)
    refine ⟨_, rfl, q, _, _, _, rfl, rfl, hq, g0, rfl, _, rfl, ite2 (fun hx => ?_) (fun n7 => ?_)⟩
    · have hx := eqN (b := 7) hx
      cases c with
      | how x => exact ⟨_, rfl, a, dx, _, rfl, h1, no (by decide +kernel) (by decide +kernel), _, rfl, q, _, _, _, rfl, rfl, hq, atI_nat (j := 1) (map_at (x := (x : Int)) rfl), a, st, x, rfl, B, r9, fit, k⟩
      | _ => exact absurd hx (by intro z; cases z)
    refine ⟨_, rfl, q, _, _, _, rfl, rfl, hq, g0, rfl, _, rfl, ite2 (fun hx => ?_) (fun n8 => ?_)⟩
    · have hx := eqN (b := 8) hx
      cases c with
      | which x => exact ⟨_, rfl, a, dx, _, rfl, h1, no (by decide +kernel) (by decide +kernel), _, rfl, q, _, _, _, rfl, rfl, hq, atI_nat (j := 1) (map_at (x := (x : Int)) rfl), a, st, x, rfl, B, r9, fit, k⟩
      | _ => exact absurd hx (by intro z; cases z)
    refine ⟨_, rfl, q, _, _, _, rfl, rfl, hq, g0, rfl, _, rfl, ite2 (fun hx => ?_) (fun n9 => ?_)⟩
    · have hx := eqN (b := 9) hx
      cases c with
      | sure => exact ⟨_, rfl, a, dx, _, rfl, h1, no (by decide +kernel) (by decide +kernel), a, st, rfl, B, r9, fit, k⟩
      | _ => exact absurd hx (by intro z; cases z)
    have n0 := neN (b := 0) n0
    have n1 := neN (b := 1) n1
    have n2 := neN (b := 2) n2
    have n3 := neN (b := 3) n3
    have n4 := neN (b := 4) n4
    have n5 := neN (b := 5) n5
    have n6 := neN (b := 6) n6
    have n7 := neN (b := 7) n7
    have n8 := neN (b := 8) n8
    have n9 := neN (b := 9) n9
    have lt := tag_lt c
    have e10 : tag c = 10 := by omega
    cases c with
    | rests x => exact ⟨_, rfl, a, dx, _, rfl, h1, no (by decide +kernel) (by decide +kernel), _, rfl, q, _, _, _, rfl, rfl, hq, atI_nat (j := 1) (map_at (x := (x : Int)) rfl), a, st, x, rfl, B, r9, fit, k⟩
    | _ => exact absurd e10 (by intro z; cases z)
/-! ### answers -/
def spAns (K : PySem.W.Frag) : Sp := fun vs H Q _ => ∃ (p : Addr) (cs : List Uw81.Call), vs = [.ref p] ∧ SqL K H p ((cs.flatMap enc).map V.int) ∧ Good cs ∧
  ∀ (H' : Hp) (q : Addr), H' q = some (.lst ((PyFlat.told (play Uw81.init cs)).map V.int)) → Q (.ref q) H'
theorem scAns : FnScope ["calls", "board", "told", "start", "end", "answer"] ["calls"] (defScope sAns) := ⟨rfl, rfl, rfl, by decide +kernel, rfl, by decide +kernel, by decide +kernel⟩
theorem told_snoc (done : List Uw81.Call) (c : Uw81.Call) : PyFlat.told (play Uw81.init (done ++ [c])) = PyFlat.told (play Uw81.init done) ++ (((Uw81.step (after Uw81.init done) c).2.length : Nat) : Int) :: (Uw81.step (after Uw81.init done) c).2 := by
  rw [play_append, told_append]
  refine congrArg (fun z => PyFlat.told (play Uw81.init done) ++ z) ?_
  show (_ :: _) ++ [] = _
  rw [List.append_nil]
theorem told_pre {done rest : List Uw81.Call} : (PyFlat.told (play Uw81.init done)).length ≤ (PyFlat.told (play Uw81.init (done ++ rest))).length := by
  rw [play_append, told_append, List.length_append]
  omega
def mu3 (n : Nat) : L2.St → Hp → Nat := fun σ _ => match σ with
  | [_, _, _, some (.int a), _, _] => n - a.toNat
  | _ => 0
theorem cut_call (pre mid post : List Int) : cutV ((pre ++ mid ++ post).map V.int) (some ((pre.length : Nat) : Int)) (some (((pre ++ mid).length : Nat) : Int)) = mid.map V.int := by
  unfold cutV
  have hl : ((pre ++ mid ++ post).map V.int).length = pre.length + mid.length + post.length := by rw [List.length_map, List.length_append, List.length_append]
  rw [HT.sIx_nat, HT.sIx_nat, hl, Nat.min_eq_left (show (pre ++ mid).length ≤ _ by rw [List.length_append]; omega), Nat.min_eq_left (show pre.length ≤ _ by omega), ← List.map_drop, ← List.map_take, List.append_assoc, List.drop_append_of_le_length (Nat.le_refl _), List.drop_length, List.nil_append, List.length_append,
    Nat.add_sub_cancel_left, List.take_append_of_le_length (Nat.le_refl _), List.take_length]
theorem enc_pos (c : Uw81.Call) : 1 ≤ (enc c).length := by
  obtain ⟨t, h⟩ := enc_head c
  rw [h, List.length_cons]
  omega
theorem ok_ans {f C fI fE fO : Addr} {fd dI dE dO : FuncData} (F : Fun K "answers" "answers" sAns f fd) (T : Txt K mg C) (U : Top K mg) (M : Meths P w K mg base C) (MK : Mk K C fI) (FI : Fun K "__init__" "Board.__init__" sInit fI dI) (bI : Binds K dI ["self"] [])
    (E' : Known K mg "end_of_call" sEnd ["calls", "start"] fE dE) (O' : Known K mg "answer_of" sOf ["board", "call"] fO dO) : FnOk P w K mg base CX0 11 f fd ["calls"] (spAns K) := by
  refine F.ok scAns (fun vs H Q E h => ?_) (fun cdv A outer s H vs Q E hr h => ?_)
  · obtain ⟨p, cs, rfl, _⟩ := h
    rfl
  · obtain ⟨p, cs, rfl, hp, good, k⟩ := h
    have GI : FnOk P w K mg base CX0 1 fI dI ["self"] (spInit C) := ok_init FI T
    have GE : FnOk P w K mg base CX0 1 fE dE ["calls", "start"] (spEnd K) := ok_end E'.F U
    have GO : FnOk P w K mg base CX0 10 fO dO ["board", "call"] (spOf K C) := ok_of O'.F T U M
    have hr1 := hr.mono (j := 1) (by decide)
    have hr2 := hr.mono (j := 2) (by decide)
    refine ⟨_, pss_cons (ps_set (i := 1) scAns.nd rfl (Or.inl rfl) (pe_make0 MK GI hr2 rfl T.mgC bI .nil pass0))
      (pss_cons (ps_set (i := 2) scAns.nd rfl (Or.inl rfl) (pe_lst pa_nil))
      (pss_cons (ps_set (i := 3) scAns.nd rfl (Or.inl rfl) pe_int)
      (pss_cons (ps_while PassesOwn.never (pt_cmpR op_lt (pv 3) (pe_callB call_len_seq (by rfl) T.own.len PySem.boot_len (pa_cons (pv 0) pa_nil)) (nomark _))
        (pss_cons (ps_set (i := 4) scAns.nd rfl (Or.inl rfl) (pe_call GE hr1 rfl E'.mgf E'.F.kp E'.bd .nil pass0 (pa_cons (pv 0) (pa_cons (pv 3) pa_nil))))
        (pss_cons (ps_set (i := 5) scAns.nd rfl (Or.inl rfl) (pe_call GO hr rfl O'.mgf O'.F.kp O'.bd .nil pass0 (pa_cons (pv 1) (pa_cons (pe_slice sl_list (pv 0) (po_some (pv 3)) (po_some (pv 4))) pa_nil))))
        (pss_cons (ps_expr (pe_bm PySem.F.plainAttrs_list PySem.F.slot_list_append PySem.F.type_list_append mt_append (pv 2) (pa_cons (pe_callB call_len_seq (by rfl) T.own.len PySem.boot_len (pa_cons (pv 5) pa_nil)) pa_nil)))
        (pss_cons (ps_expr (pe_bm PySem.F.plainAttrs_list PySem.F.slot_list_extend PySem.F.type_list_extend mt_extend (pv 2) (pa_cons (pv 5) pa_nil)))
        (pss_one (ps_set (i := 3) scAns.nd rfl (Or.inl rfl) (pv 4))))))))
      (pss_one (ps_ret (pv 2)))))), ?_⟩
    -- board = Board()
    intro a dx na ndx ne
    refine ⟨a, dx, rfl, upd_same, fun H1 B1 b1 => ⟨rfl, ?_⟩⟩
    have s1 : Same H H1 := Same.made na ndx b1
    -- told = []
    refine ⟨Nat.zero_le _, fun tl htl => ?_⟩
    have s2 := same_upd (o := .lst []) htl
    have ntl : H tl = Option.none := s1.free htl
    refine while_by (fun σ H' => ∃ (done rest : List Uw81.Call) (v4 v5 : Option V), cs = done ++ rest ∧ σ = [some (.ref p), some (.ref a), some (.ref tl), some (.int (((done.flatMap enc).length : Nat) : Int)), v4, v5] ∧
      H' tl = some (.lst ((PyFlat.told (play Uw81.init done)).map V.int)) ∧ BoardAt C H' a (after Uw81.init done) ∧ Same H H') (mu3 (cs.flatMap enc).length)
      ⟨[], cs, none, none, rfl, rfl, upd_same, B1.same s2, s1.trans s2⟩ ?_ ?_
    · rintro σ H2 ⟨done, rest, v4, v5, rfl, rfl, h1, B, s3⟩
      refine ⟨_, rfl, _, rfl, p, _, rfl, .inl (s3.seq hp), _, _, rfl, rfl, _, rfl, ite2 (fun hx => ?_) (fun hx => ?_)⟩
      · have hx : (((done.flatMap enc).length : Nat) : Int) < ((((done ++ rest).flatMap enc).map V.int).length : Nat) := of_decide_eq_true hx
        rw [List.length_map, List.flatMap_append, List.length_append] at hx
        obtain ⟨c, rest, rfl⟩ : ∃ c r, rest = c :: r := by
          cases rest with
          | nil =>
            simp at hx
          | cons c r => exact ⟨c, r, rfl⟩
        have e1 : (done ++ c :: rest).flatMap enc = done.flatMap enc ++ enc c ++ rest.flatMap enc := by
          rw [List.flatMap_append, List.flatMap_cons, List.append_assoc]
        have hp' : SqL K H ((p)) ((done.flatMap enc ++ enc c ++ rest.flatMap enc).map V.int) := by
          rw [← e1]
          exact hp
        have most := good.most
        rw [List.length_append, List.length_cons] at most
        have ST : Stands (0 + done.length) (after Uw81.init done) := Stands.init.after done
        have fit := ST.fit (by omega)
        have e2 : done ++ c :: rest = (done ++ [c]) ++ rest := by simp
        have lim : (PyFlat.told (play Uw81.init (done ++ [c]))).length ≤ 10000000 := by
          have := good.short
          rw [e2] at this
          exact Nat.le_trans told_pre this
        rw [told_snoc, List.length_append, List.length_cons] at lim
        have line : (sizeLine : Nat) = 16777216 := rfl
        -- end = end_of_call(calls, start)
        refine ⟨_, rfl, _, rfl, p, done.flatMap enc, rest.flatMap enc, c, rfl, s3.seq hp', ?_⟩
        -- answer = answer_of(board, calls[start:end])
        refine ⟨_, rfl, _, rfl, _, rfl, _, rfl, _, rfl, _, rfl, p, _, rfl, s3.seq hp', fun q1 e3 => ?_⟩
        rw [cut_call]
        have s4 := same_upd (o := .lst ((enc c).map V.int)) e3
        refine ⟨a, q1, after Uw81.init done, c, rfl, B.same s4, SqL.of upd_same, ST.rule, fit, fun H3 q2 B3 e4 n4 b3 => ?_⟩
        obtain ⟨dx2, t2, i1, i2⟩ := id B
        have nta : tl ≠ a := ne_of h1 i1 (by intro z; cases z)
        have nqt : q2 ≠ tl := fun z => by
          rw [z, s4 _ _ h1] at n4
          cases n4
        have g1 : H3 tl = some (.lst ((PyFlat.told (play Uw81.init done)).map V.int)) := b3 _ _ (s4 _ _ h1) nta
        have ha : H a = Option.none := na
        have s5 : Same H H3 := fun b o e => b3 b o (s4 _ _ (s3 _ _ e)) fun z => by
          rw [z, ha] at e
          cases e
        -- told.append(len(answer))
        refine ⟨_, rfl, .inl ⟨rfl, _, SqL.of g1⟩, _, rfl, q2, _, rfl, .inl (SqL.of e4), tl, _, _, rfl, rfl, g1, by rw [List.length_map]; omega, ?_⟩
        -- told.extend(answer)
        refine ⟨_, rfl, .inl ⟨rfl, _, SqL.of upd_same⟩, _, rfl, tl, q2, _, _, rfl, rfl, upd_same, (by rw [upd_ne nqt]; exact e4), ?_, ?_⟩
        · rw [List.length_append, List.length_map, List.length_map]
          show _ + 1 + _ ≤ _
          omega
        -- start = end
        refine ⟨_, rfl, ⟨done ++ [c], rest, some (.int (((done.flatMap enc ++ enc c).length : Nat) : Int)), some (.ref q2), by simp, ?_, ?_, ?_, ?_⟩, ?_⟩
        · rw [List.flatMap_append, List.flatMap_cons, List.flatMap_nil, List.append_nil]
          rfl
        · rw [upd_same, told_snoc, List.map_append, List.append_assoc, List.length_map]
          rfl
        · rw [after_append]
          obtain ⟨dx3, t3, j1, j2⟩ := B3
          refine ⟨dx3, t3, ?_, ?_⟩
          · rw [upd_ne nta.symm, upd_ne nta.symm]
            exact j1
          · have : t3 ≠ tl := ne_of j2 g1 (by intro z; cases z)
            rw [upd_ne this, upd_ne this]
            exact j2
        · intro b o e
          have : b ≠ tl := fun z => by
            rw [z, ntl] at e
            cases e
          rw [upd_ne this, upd_ne this]
          exact s5 _ _ e
        · have := enc_pos c
          show ((done ++ c :: rest).flatMap enc).length - ((((done.flatMap enc ++ enc c).length : Nat) : Int)).toNat < ((done ++ c :: rest).flatMap enc).length - ((((done.flatMap enc).length : Nat) : Int)).toNat
          rw [e1, List.length_append, List.length_append]
          omega
      · have hx : ¬ (((done.flatMap enc).length : Nat) : Int) < ((((done ++ rest).flatMap enc).map V.int).length : Nat) := fun z => hx (decide_eq_true z)
        rw [List.length_map, List.flatMap_append, List.length_append] at hx
        have : rest = [] := by
          cases rest with
          | nil => rfl
          | cons c r =>
            have := enc_pos c
            rw [List.flatMap_cons, List.length_append] at hx
            omega
        subst this
        rw [List.append_nil] at k
        exact ⟨_, rfl, k H2 tl h1⟩
    · rintro σ H' Q1 Q2 hq ⟨v, e, v', e', p', ys, e1, h1, i, j, e2, e3, b, e4, q⟩
      exact ⟨v, e, v', e', p', ys, e1, h1, i, j, e2, e3, b, e4, hq _ _ q⟩
end
end Wb

end
section
set_option Elab.async false
set_option linter.all false
set_option maxRecDepth 100000
namespace Wb
open PySem PySem.Spec PyProof.Rows L2
theorem known_mk {K : PySem.W.Frag} {h : Heap} {mg : Str → Option Value} (X : K.In h) (G : h.Ns mainGlobals mg) {x : Str} {st : Stmt} {ps : List Str} {f : Addr} {oc : Value} {od an : Option Addr} {osl : Array (Option Value)} {kV doc pm cdv ct : Value}
    (bi : ∀ (kV doc pm : Value) (an : Option Addr) (cdv ct : Value) (us : List Value), us.length = ps.length → bindArgs (PySem.W.fnOf x x (defArgs st) (defBody st) (defScope st) .none kV doc pm an cdv ct) ⟨us, []⟩ = pure (ps.zip us))
    (a : PySem.W.nsIn K mainGlobals x = some (some (.ref f))) (l : K.lookup f = some ⟨oc, od, .func (PySem.W.fnOf x x (defArgs st) (defBody st) (defScope st) .none kV doc pm an cdv ct), osl⟩)
    (c : PySem.W.codeIn K cdv x = true) (k : PySem.W.keepIn K (.ref f) = true) : ∃ f fd, Known K mg x st ps f fd :=
  ⟨f, _, fun_mk l c k, PySem.W.mg_of X G a, (fun_mk l c k).binds bi⟩
theorem meth_mk {K : PySem.W.Frag} {C : Addr} {m qual : Str} {st : Stmt} {ps : List Str} {f : Addr} {oc : Value} {od an : Option Addr} {osl : Array (Option Value)} {kV doc pm cdv ct : Value}
    (bi : ∀ (kV doc pm : Value) (an : Option Addr) (cdv ct : Value) (us : List Value), us.length = ps.length → bindArgs (PySem.W.fnOf m qual (defArgs st) (defBody st) (defScope st) .none kV doc pm an cdv ct) ⟨us, []⟩ = pure (ps.zip us))
    (a : PySem.W.findIn K (.ref C) m = some (some (.ref f))) (i : PySem.W.isFn K (.ref f) = true) (l : K.lookup f = some ⟨oc, od, .func (PySem.W.fnOf m qual (defArgs st) (defBody st) (defScope st) .none kV doc pm an cdv ct), osl⟩)
    (c : PySem.W.codeIn K cdv qual = true) (k : PySem.W.keepIn K (.ref f) = true) : ∃ f fd, KnownM K C m qual st ps f fd :=
  ⟨f, _, fun_mk l c k, ⟨a, i, k⟩, (fun_mk l c k).binds bi⟩
theorem num_mk {K : PySem.W.Frag} {h : Heap} {mg : Str → Option Value} (X : K.In h) (G : h.Ns mainGlobals mg) {x : Str} {n : Int} {t : Tok} (a : PySem.W.nsIn K mainGlobals x = some (some (Value.int n t))) : ∃ t, mg x = some (Value.int n t) := ⟨t, PySem.W.mg_of X G a⟩
/-- the class, by its facts -/
structure BoardCls (K : PySem.W.Frag) (mg : Str → Option Value) (C : Addr) : Prop where
  mgC : mg "Board" = some (.ref C)
  cl : Cls K C
  nR : NoAttr K C "rule"
  nN : NoAttr K C "numbers"
  mks : PySem.W.makesIn K C = true
  kc : PySem.W.keepIn K (.ref C) = true
  mI : ∃ f fd, KnownM K C "__init__" "Board.__init__" sInit ["self"] f fd
  m0 : ∃ f fd, KnownM K C "answer_board" "Board.answer_board" sMBoard ["self", "rule", "numbers"] f fd
  m1 : ∃ f fd, KnownM K C "answer_rule" "Board.answer_rule" sMRule ["self", "rule"] f fd
  m2 : ∃ f fd, KnownM K C "answer_wipe" "Board.answer_wipe" sMWipe ["self", "i", "j"] f fd
  m3 : ∃ f fd, KnownM K C "answer_shows" "Board.answer_shows" sMShows ["self"] f fd
  m4 : ∃ f fd, KnownM K C "answer_write" "Board.answer_write" sMWrite ["self", "x"] f fd
  m5 : ∃ f fd, KnownM K C "answer_lasts" "Board.answer_lasts" sMLasts ["self"] f fd
  m6 : ∃ f fd, KnownM K C "answer_ways" "Board.answer_ways" sMWays ["self", "x"] f fd
  m7 : ∃ f fd, KnownM K C "answer_how" "Board.answer_how" sMHow ["self", "x"] f fd
  m8 : ∃ f fd, KnownM K C "answer_which" "Board.answer_which" sMWhich ["self", "k"] f fd
  m9 : ∃ f fd, KnownM K C "answer_sure" "Board.answer_sure" sMSure ["self"] f fd
  m10 : ∃ f fd, KnownM K C "answer_rests" "Board.answer_rests" sMRests ["self", "m"] f fd
theorem cls_mk {K : PySem.W.Frag} {h : Heap} {mg : Str → Option Value} (X : K.In h) (G : h.Ns mainGlobals mg) {C : Addr} (aC : PySem.W.nsIn K mainGlobals "Board" = some (some (.ref C)))
    (pg : PySem.W.plainGet K C Str.empty = true) (hd : PySem.W.hasDictIn K C = true) (po : PySem.W.plainOver K C = true) (sa : PySem.W.findIn K (.ref C) "__setattr__" = some (some (.builtin "object.__setattr__"))) (mk : PySem.W.makesIn K C = true) (kc : PySem.W.keepIn K (.ref C) = true)
    (nR : PySem.W.findIn K (.ref C) "rule" = some none) (nN : PySem.W.findIn K (.ref C) "numbers" = some none) (mI : ∃ f fd, KnownM K C "__init__" "Board.__init__" sInit ["self"] f fd)
    (m0 : ∃ f fd, KnownM K C "answer_board" "Board.answer_board" sMBoard ["self", "rule", "numbers"] f fd)
    (m1 : ∃ f fd, KnownM K C "answer_rule" "Board.answer_rule" sMRule ["self", "rule"] f fd)
    (m2 : ∃ f fd, KnownM K C "answer_wipe" "Board.answer_wipe" sMWipe ["self", "i", "j"] f fd)
    (m3 : ∃ f fd, KnownM K C "answer_shows" "Board.answer_shows" sMShows ["self"] f fd)
    (m4 : ∃ f fd, KnownM K C "answer_write" "Board.answer_write" sMWrite ["self", "x"] f fd)
    (m5 : ∃ f fd, KnownM K C "answer_lasts" "Board.answer_lasts" sMLasts ["self"] f fd)
    (m6 : ∃ f fd, KnownM K C "answer_ways" "Board.answer_ways" sMWays ["self", "x"] f fd)
    (m7 : ∃ f fd, KnownM K C "answer_how" "Board.answer_how" sMHow ["self", "x"] f fd)
    (m8 : ∃ f fd, KnownM K C "answer_which" "Board.answer_which" sMWhich ["self", "k"] f fd)
    (m9 : ∃ f fd, KnownM K C "answer_sure" "Board.answer_sure" sMSure ["self"] f fd)
    (m10 : ∃ f fd, KnownM K C "answer_rests" "Board.answer_rests" sMRests ["self", "m"] f fd) : ∃ C, BoardCls K mg C :=
  ⟨C, PySem.W.mg_of X G aC, ⟨pg, hd, po, sa⟩, nR, nN, mk, kc, mI, m0, m1, m2, m3, m4, m5, m6, m7, m8, m9, m10⟩
theorem own_mk {K : PySem.W.Frag} {h : Heap} {mg : Str → Option Value} (X : K.In h) (G : h.Ns mainGlobals mg) (a1 : PySem.W.nsIn K mainGlobals "len" = some none) (a2 : PySem.W.nsIn K mainGlobals "max" = some none) (a3 : PySem.W.nsIn K mainGlobals "sorted" = some none)
    (a4 : PySem.W.nsIn K mainGlobals "tuple" = some none) (a5 : PySem.W.nsIn K mainGlobals "list" = some none) (a6 : PySem.W.nsIn K mainGlobals "range" = some none) (a7 : PySem.W.nsIn K mainGlobals "set" = some none) : Own mg :=
  ⟨PySem.W.mg_none_of X G a1, PySem.W.mg_none_of X G a2, PySem.W.mg_none_of X G a3, PySem.W.mg_none_of X G a4, PySem.W.mg_none_of X G a5, PySem.W.mg_none_of X G a6, PySem.W.mg_none_of X G a7⟩
theorem follow_mk {K : PySem.W.Frag} {h : Heap} {mg : Str → Option Value} (X : K.In h) (G : h.Ns mainGlobals mg) {f : Addr} {od : Option Addr} {n : Nat} {sl : Array (Option Value)} {t0 t1 t2 t3 t4 t5 t6 t7 t8 t9 t10 : Tok} (a : PySem.W.nsIn K mainGlobals "FOLLOWING" = some (some (.ref f)))
    (l : K.lookup f = some ⟨.type "tuple", od, .seq #[.int 2 t0, .int 1 t1, .int 2 t2, .int 0 t3, .int 1 t4, .int 0 t5, .int 1 t6, .int 1 t7, .int 1 t8, .int 0 t9, .int 1 t10] n, sl⟩) :
    ∃ (f : Addr) (o : Obj) (its : Array Value) (n : Nat), mg "FOLLOWING" = some (.ref f) ∧ K.lookup f = some o ∧ o.cls = .type "tuple" ∧ o.data = .seq its n ∧ its.size ≤ sizeLine ∧ Vals (iv Wb.follow) its.toList :=
  ⟨f, _, _, _, PySem.W.mg_of X G a, l, rfl, rfl, (by show 11 ≤ sizeLine; decide), .cons ⟨_, rfl⟩ (.cons ⟨_, rfl⟩ (.cons ⟨_, rfl⟩ (.cons ⟨_, rfl⟩ (.cons ⟨_, rfl⟩ (.cons ⟨_, rfl⟩ (.cons ⟨_, rfl⟩ (.cons ⟨_, rfl⟩ (.cons ⟨_, rfl⟩ (.cons ⟨_, rfl⟩ (.cons ⟨_, rfl⟩ .nil))))))))))⟩
section
variable {P : Program} {w : World} {K : PySem.W.Frag} {mg : Str → Option Value}
theorem fin {C fa : Addr} (hfa : mg "answers" = some (.ref fa)) (T : Txt K mg C) (U : Top K mg) (D : Defs K mg) (cc : BoardCls K mg C)
    (kE : ∃ f fd, Known K mg "end_of_call" sEnd ["calls", "start"] f fd) (kF : ∃ f fd, Known K mg "answer_of" sOf ["board", "call"] f fd) (kZ : ∃ f fd, Known K mg "answers" sAns ["calls"] f fd) :
    ∃ fd : FuncData, (∀ (s : Shared) (us : List Value), us.length = (["calls"] : List Str).length → BindsTo s fd ⟨us, []⟩ ((["calls"] : List Str).zip us)) ∧ ∀ base : Heap, FnOk P w K mg base CX0 11 fa fd ["calls"] (spAns K) := by
  obtain ⟨g, gd, G⟩ := D.G
  obtain ⟨l, ld, L⟩ := D.L
  obtain ⟨wf, wd, W⟩ := D.W
  obtain ⟨r, rd, R⟩ := D.R
  obtain ⟨af, ad, A⟩ := D.A
  obtain ⟨ef, ed, E⟩ := kE
  obtain ⟨ff, fd, F⟩ := kF
  obtain ⟨z, zd, Z⟩ := kZ
  obtain ⟨i, id, I⟩ := cc.mI
  obtain ⟨f0, d0, M0⟩ := cc.m0
  obtain ⟨f1, d1, M1⟩ := cc.m1
  obtain ⟨f2, d2, M2⟩ := cc.m2
  obtain ⟨f3, d3, M3⟩ := cc.m3
  obtain ⟨f4, d4, M4⟩ := cc.m4
  obtain ⟨f5, d5, M5⟩ := cc.m5
  obtain ⟨f6, d6, M6⟩ := cc.m6
  obtain ⟨f7, d7, M7⟩ := cc.m7
  obtain ⟨f8, d8, M8⟩ := cc.m8
  obtain ⟨f9, d9, M9⟩ := cc.m9
  obtain ⟨f10, d10, M10⟩ := cc.m10
  have e := hfa.symm.trans Z.mgf
  cases e
  refine ⟨zd, ?_, fun base => ?_⟩
  · obtain ⟨oc, od, kV, doc, pm, an, cdv, ct, osl, rfl, _, _⟩ := Z.F.ex
    exact fun s us hu => match us, hu with | [_], _ => .of_eq rfl
  · exact ok_ans Z.F T U ⟨⟨f0, d0, M0.mt, M0.bd, (ok_mboard M0.F T R).mono (by decide)⟩, ⟨f1, d1, M1.mt, M1.bd, (ok_mrule M1.F T).mono (by decide)⟩, ⟨f2, d2, M2.mt, M2.bd, (ok_mwipe M2.F T A R W G L).mono (by decide)⟩,
      ⟨f3, d3, M3.mt, M3.bd, (ok_mshows M3.F T).mono (by decide)⟩, ⟨f4, d4, M4.mt, M4.bd, (ok_mwrite M4.F T R).mono (by decide)⟩, ⟨f5, d5, M5.mt, M5.bd, (ok_mlasts M5.F T D).mono (by decide)⟩,
      ⟨f6, d6, M6.mt, M6.bd, (ok_mways M6.F T D).mono (by decide)⟩, ⟨f7, d7, M7.mt, M7.bd, ok_mhow M7.F T D⟩, ⟨f8, d8, M8.mt, M8.bd, (ok_mwhich M8.F T D).mono (by decide)⟩,
      ⟨f9, d9, M9.mt, M9.bd, (ok_msure M9.F T D).mono (by decide)⟩, ⟨f10, d10, M10.mt, M10.bd, (ok_mrests M10.F T D).mono (by decide)⟩⟩ ⟨cc.mks, I.mt.at_, I.mt.fn, cc.kc⟩ I.F I.bd E F
end
end Wb

end
section
set_option Elab.async false
set_option linter.all false
set_option maxRecDepth 100000
open PySem PySem.W PyProof.Rows
set_option maxRecDepth 100000 in
set_option maxHeartbeats 0 in
theorem PySem.Challenge.cw_wipeboard_s01_answers_holds : PySem.Challenge.rw_wipeboard_s01_answers.Holds := by
  w_on; k_headS; (case hw => exact ⟨[.list [.int 3]], by decide +kernel, by decide +kernel⟩)
  k_fillS
  refine L2.walk_specK (r := PySem.Challenge.rw_wipeboard_s01_answers) (k := 11) (CX := L2.CX0) (ps := ["calls"]) (sp := Wb.spAns) (by decide +kernel) rfl rfl ⟨rfl, by decide, by decide⟩ (fun w h Y => PySem.W.kIn_of Y) ?F ?S (fun _ _ _ _ z => z)
  case F =>
    intro w mg fa h Y KX G hmg
    have kG := Wb.known_mk KX G (x := "greatest_common_divisor") (st := Wb.sGcd) (ps := ["a", "b"]) (fun _ _ _ _ _ _ us hl => match us, hl with | [_, _], _ => rfl) (by k_is) (by k_is) (by k_is) (by k_is)
    have kL := Wb.known_mk KX G (x := "least_common_multiple") (st := Wb.sLcm) (ps := ["a", "b"]) (fun _ _ _ _ _ _ us hl => match us, hl with | [_, _], _ => rfl) (by k_is) (by k_is) (by k_is) (by k_is)
    have kW := Wb.known_mk KX G (x := "written_for") (st := Wb.sWritten) (ps := ["rule", "a", "b"]) (fun _ _ _ _ _ _ us hl => match us, hl with | [_, _, _], _ => rfl) (by k_is) (by k_is) (by k_is) (by k_is)
    have kR := Wb.known_mk KX G (x := "rising") (st := Wb.sRising) (ps := ["numbers"]) (fun _ _ _ _ _ _ us hl => match us, hl with | [_], _ => rfl) (by k_is) (by k_is) (by k_is) (by k_is)
    have kS := Wb.known_mk KX G (x := "steps_in_order") (st := Wb.sSteps) (ps := ["size"]) (fun _ _ _ _ _ _ us hl => match us, hl with | [_], _ => rfl) (by k_is) (by k_is) (by k_is) (by k_is)
    have kA := Wb.known_mk KX G (x := "after_step") (st := Wb.sAfter) (ps := ["rule", "numbers", "i", "j"]) (fun _ _ _ _ _ _ us hl => match us, hl with | [_, _, _, _], _ => rfl) (by k_is) (by k_is) (by k_is) (by k_is)
    have kO := Wb.known_mk KX G (x := "boards_a_step_on") (st := Wb.sOn) (ps := ["rule", "boards"]) (fun _ _ _ _ _ _ us hl => match us, hl with | [_, _], _ => rfl) (by k_is) (by k_is) (by k_is) (by k_is)
    have kB := Wb.known_mk KX G (x := "ways_by_last") (st := Wb.sWbl) (ps := ["rule", "numbers"]) (fun _ _ _ _ _ _ us hl => match us, hl with | [_, _], _ => rfl) (by k_is) (by k_is) (by k_is) (by k_is)
    have kY := Wb.known_mk KX G (x := "ways_all_together") (st := Wb.sAll) (ps := ["size"]) (fun _ _ _ _ _ _ us hl => match us, hl with | [_], _ => rfl) (by k_is) (by k_is) (by k_is) (by k_is)
    have kV := Wb.known_mk KX G (x := "last_by_way") (st := Wb.sBy) (ps := ["rule", "numbers", "k"]) (fun _ _ _ _ _ _ us hl => match us, hl with | [_, _, _], _ => rfl) (by k_is) (by k_is) (by k_is) (by k_is)
    have kZs := Wb.known_mk KX G (x := "first_step_to") (st := Wb.sFs) (ps := ["rule", "numbers", "last"]) (fun _ _ _ _ _ _ us hl => match us, hl with | [_, _, _], _ => rfl) (by k_is) (by k_is) (by k_is) (by k_is)
    have kX := Wb.known_mk KX G (x := "first_way_to") (st := Wb.sFw) (ps := ["rule", "numbers", "last"]) (fun _ _ _ _ _ _ us hl => match us, hl with | [_, _, _], _ => rfl) (by k_is) (by k_is) (by k_is) (by k_is)
    have kE := Wb.known_mk KX G (x := "end_of_call") (st := Wb.sEnd) (ps := ["calls", "start"]) (fun _ _ _ _ _ _ us hl => match us, hl with | [_, _], _ => rfl) (by k_is) (by k_is) (by k_is) (by k_is)
    have kF := Wb.known_mk KX G (x := "answer_of") (st := Wb.sOf) (ps := ["board", "call"]) (fun _ _ _ _ _ _ us hl => match us, hl with | [_, _], _ => rfl) (by k_is) (by k_is) (by k_is) (by k_is)
    have kZ := Wb.known_mk KX G (x := "answers") (st := Wb.sAns) (ps := ["calls"]) (fun _ _ _ _ _ _ us hl => match us, hl with | [_], _ => rfl) (by k_is) (by k_is) (by k_is) (by k_is)
    have O := Wb.own_mk KX G (by k_is) (by k_is) (by k_is) (by k_is) (by k_is) (by k_is) (by k_is)
    obtain ⟨C, cc⟩ := Wb.cls_mk KX G (by k_is) (by k_is) (by k_is) (by k_is) (by k_is) (by k_is) (by k_is) (by k_is) (by k_is)
        (Wb.meth_mk (fun _ _ _ _ _ _ us hl => match us, hl with | [_], _ => rfl) (by k_is) (by k_is) (by k_is) (by k_is) (by k_is))
        (Wb.meth_mk (fun _ _ _ _ _ _ us hl => match us, hl with | [_, _, _], _ => rfl) (by k_is) (by k_is) (by k_is) (by k_is) (by k_is))
        (Wb.meth_mk (fun _ _ _ _ _ _ us hl => match us, hl with | [_, _], _ => rfl) (by k_is) (by k_is) (by k_is) (by k_is) (by k_is))
        (Wb.meth_mk (fun _ _ _ _ _ _ us hl => match us, hl with | [_, _, _], _ => rfl) (by k_is) (by k_is) (by k_is) (by k_is) (by k_is))
        (Wb.meth_mk (fun _ _ _ _ _ _ us hl => match us, hl with | [_], _ => rfl) (by k_is) (by k_is) (by k_is) (by k_is) (by k_is))
        (Wb.meth_mk (fun _ _ _ _ _ _ us hl => match us, hl with | [_, _], _ => rfl) (by k_is) (by k_is) (by k_is) (by k_is) (by k_is))
        (Wb.meth_mk (fun _ _ _ _ _ _ us hl => match us, hl with | [_], _ => rfl) (by k_is) (by k_is) (by k_is) (by k_is) (by k_is))
        (Wb.meth_mk (fun _ _ _ _ _ _ us hl => match us, hl with | [_, _], _ => rfl) (by k_is) (by k_is) (by k_is) (by k_is) (by k_is))
        (Wb.meth_mk (fun _ _ _ _ _ _ us hl => match us, hl with | [_, _], _ => rfl) (by k_is) (by k_is) (by k_is) (by k_is) (by k_is))
        (Wb.meth_mk (fun _ _ _ _ _ _ us hl => match us, hl with | [_, _], _ => rfl) (by k_is) (by k_is) (by k_is) (by k_is) (by k_is))
        (Wb.meth_mk (fun _ _ _ _ _ _ us hl => match us, hl with | [_], _ => rfl) (by k_is) (by k_is) (by k_is) (by k_is) (by k_is))
        (Wb.meth_mk (fun _ _ _ _ _ _ us hl => match us, hl with | [_, _], _ => rfl) (by k_is) (by k_is) (by k_is) (by k_is) (by k_is))
    have n1 := Wb.num_mk KX G (x := "LAST_RULE") (n := 9) (by k_is)
    have n2 := Wb.num_mk KX G (x := "MOST_NUMBERS") (n := 6) (by k_is)
    have n3 := Wb.num_mk KX G (x := "GREATEST_NUMBER") (n := 1000) (by k_is)
    have c0 := Wb.num_mk KX G (x := "CALL_BOARD") (n := 0) (by k_is)
    have c1 := Wb.num_mk KX G (x := "CALL_RULE") (n := 1) (by k_is)
    have c2 := Wb.num_mk KX G (x := "CALL_WIPE") (n := 2) (by k_is)
    have c3 := Wb.num_mk KX G (x := "CALL_SHOWS") (n := 3) (by k_is)
    have c4 := Wb.num_mk KX G (x := "CALL_WRITE") (n := 4) (by k_is)
    have c5 := Wb.num_mk KX G (x := "CALL_LASTS") (n := 5) (by k_is)
    have c6 := Wb.num_mk KX G (x := "CALL_WAYS") (n := 6) (by k_is)
    have c7 := Wb.num_mk KX G (x := "CALL_HOW") (n := 7) (by k_is)
    have c8 := Wb.num_mk KX G (x := "CALL_WHICH") (n := 8) (by k_is)
    have c9 := Wb.num_mk KX G (x := "CALL_SURE") (n := 9) (by k_is)
    have n4 := Wb.num_mk KX G (x := "GREATEST_DIVISOR") (n := 100) (by k_is)
    have fo := Wb.follow_mk KX G (by k_is) (by k_is)
    have T : Wb.Txt _ mg C := ⟨cc.cl, cc.nR, cc.nN, cc.mgC, O, n1, n2, n3, n4⟩
    have U : Wb.Top _ mg := ⟨fo, c0, c1, c2, c3, c4, c5, c6, c7, c8, c9⟩
    obtain ⟨fd, h1, h2⟩ := Wb.fin (P := PySem.Challenge.rw_wipeboard_s01_answers.prog) (w := w) hmg T U ⟨kG, kL, kW, kR, kS, kA, kO, kB, kY, kV, kZs, kX⟩ cc kE kF kZ
    exact ⟨fd, h1, fun base _ _ => h2 base⟩
  case S =>
    intro K H xs a hO hwi hask hx
    cases hx with
    | cons h1 h2 =>
      cases h2
      cases h1 with
      | lst hs ha =>
        have e := L2.ints_dw a.1 _ ha
        subst e
        obtain ⟨cs, e1, e2, good⟩ := Wb.parsed (l := a.1) hask
        refine ⟨_, cs, rfl, by rw [← e1]; exact hs, good, fun H' q hq => ?_⟩
        rw [← e2] at hq
        exact .lst (L2.SqL.of hq) (L2.dw_ints _)

end
